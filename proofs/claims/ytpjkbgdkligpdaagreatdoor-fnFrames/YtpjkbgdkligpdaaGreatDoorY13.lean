/- Lemmas. -/
import Derived.LaidEql
import Derived.Stop.Asserts
import Derived.RowKitTokens
import Derived.Test.YtpjkbgdkligpdaaGreatDoorY12
import Derived.Test.YtpjkbgdkligpdaaGreatDoorY01
set_option linter.all false
set_option maxRecDepth 100000
set_option maxHeartbeats 20000000
namespace Go.Proofs.YtpjkbgdkligpdaaGreatDoor
open Go.RowKit

theorem qer {fn:Func} {R:Ending→World→Prop} {a:Act} {w:World} {g:Nat} {p:Pk} {t t2:Tmp} {v2:Value} (hr:fn.results = #[.cell t 28,.tmp t2]) (hp:a.tmps.getD t undef=.pointer (some ⟨g,0,none⟩)) (h2:a.tmps.getD t2 undef=v2) (hB:Blk w g p) (hd:a.defers = [])
  (h:R (.returned (.tuple #[.agg p.cells,v2])) w):bodyPost Tryz.prog fn R .ret a w:=by
 have hp':a.tmps[t]?.getD undef=.pointer (some ⟨g,0,none⟩):=by simpa using hp
 have h2':a.tmps[t2]?.getD undef=v2:=by simpa using h2
 exact bodyPost_ret (by simp[results,hr,hp',h2',asAddr,run_loadVar_row w g 28 28 p.cells (0,0) _ hB Tryz.underlying28 rfl (infoP.trans (by rw[Pk.csize]))]) hd h
theorem qcu {fn:Func} {R:Ending→World→Prop} {a:Act} {w:World} {g:Nat} {p:Pk} {t t2 t3:Tmp} {v2 v3:Value} (hr:fn.results = #[.cell t 28,.tmp t2,.tmp t3]) (hp:a.tmps.getD t undef=.pointer (some ⟨g,0,none⟩)) (h2:a.tmps.getD t2 undef=v2) (h3:a.tmps.getD t3 undef=v3) (hB:Blk w g p) (hd:a.defers = [])
  (h:R (.returned (.tuple #[.agg p.cells,v2,v3])) w):bodyPost Tryz.prog fn R .ret a w:=by
 have hp':a.tmps[t]?.getD undef=.pointer (some ⟨g,0,none⟩):=by simpa using hp
 have h2':a.tmps[t2]?.getD undef=v2:=by simpa using h2
 have h3':a.tmps[t3]?.getD undef=v3:=by simpa using h3
 exact bodyPost_ret (by simp[results,hr,hp',h2',h3',asAddr,run_loadVar_row w g 28 28 p.cells (0,0) _ hB Tryz.underlying28 rfl (infoP.trans (by rw[Pk.csize]))]) hd h
def fstP (ty:Int) (dup:Bool) (qos:Int) (ret:Bool):Pk:={ Pk.zero with ty:=ty,dup:=dup,qos:=qos,ret:=ret }
theorem own_nils (w:World) (B:Nat) (ty:Int) (dup:Bool) (qos:Int) (ret:Bool):POwn w B (fstP ty dup qos ret) dnil :=
 ⟨⟨rfl,World.ownsRow_nil _ _ _ _⟩,⟨rfl,World.ownsRow_nil _ _ _ _⟩,⟨rfl,World.ownsRow_nil _ _ _ _⟩,⟨rfl,World.ownsRow_nil _ _ _ _⟩,⟨rfl,World.ownsRow_nil _ _ _ _⟩,⟨rfl,World.ownsRow_nil _ _ _ _⟩,pw6.2 ⟨⟨qbh _,qbh _,qbh _,qbh _,qbh _⟩,⟨qbh _,qbh _,qbh _,qbh _⟩,⟨qbh _,qbh _,qbh _⟩,⟨qbh _,qbh _⟩,qbh _⟩⟩
theorem gd_nils (ty:Int) (dup:Bool) (qos:Int) (ret:Bool):Pgd 1048576 (fstP ty dup qos ret) dnil :=
 ⟨Nat.zero_le _,Nat.zero_le _,Nat.zero_le _,Nat.zero_le _,Nat.zero_le _,Nat.zero_le _,Nat.zero_le _,Nat.zero_le _,Nat.zero_le _,Nat.zero_le _,fun x hx=>(by cases hx),fun x hx=>(by cases hx)⟩
def R5 (r:Nat) (p:Pk) (i:Nat) (u u':World):Prop:=if i=5 then u'=u.setRow r p.cells else u'=u
structure J5 (w0:World) (q r b:Nat) (ao:Option Addr) (n cap z:Nat) (e:Bool) (p:Pk) (d:Pd) (u:World):Prop where
 rdr:RB u q ao n cap z e
 blk:Blk u b p
 res:∃p0,Blk u r p0
 own:POwn u w0.heap.size p d
 gro:Below w0.heap.size w0 u
theorem Rt.j5 {w0 y:World} {q r b:Nat} {ao:Option Addr} {n cap z:Nat} {e:Bool} {p:Pk} {d:Pd} (s:Rt w0 y q r b ao n cap z e p d):J5 w0 q r b ao n cap z e p d y.drew :=
 ⟨s.rdr,s.blk,⟨_,s.res⟩,⟨s.own.bod,s.own.wb,s.own.pa,s.own.wan,s.own.nam,s.own.cds,s.own.dis⟩,⟨s.gro.os,s.gro.tape,s.gro.output,s.gro.size,s.gro.block⟩⟩
theorem qhn (u:World) (r:Nat) (cs:Array Value):u.grownBy (u.setRow r cs) (some r):=⟨rfl,rfl,rfl,by simp,fun k hk hne=>setRow_other u r k _ (fun e=>hne (by rw[e]))⟩
theorem J5.set {w0 u:World} {q r b:Nat} {ao:Option Addr} {n cap z:Nat} {e:Bool} {p:Pk} {d:Pd} (h:J5 w0 q r b ao n cap z e p d u) (hqr:q≠r) (hrb:r≠b) (hr:w0.heap.size≤r):J5 w0 q r b ao n cap z e p d (u.setRow r p.cells):=by
 obtain⟨p0,h0⟩:=h.res;exact⟨(setRow_other u r q _ hqr).trans h.rdr,(setRow_other u r b _ (fun e=>hrb e.symm)).trans h.blk,⟨p,setRow_heap u r p0.cells p.cells 28 (0,0) h0⟩,
  h.own.grown (qhn u r _) (fun k e=>by cases e;exact h.own.ne h0),h.gro.grown (qhn u r _) h.gro.size (fun k e=>by cases e;exact hr)⟩
def Parts (w w':World) (e':Ending) (v:Pv×Nat×Bool):Prop:=∃p d,e'=.returned (.tuple #[.agg (Pk.cells p),errV v.2.2])∧POwn w' w.heap.size p d∧Pgd 1048576 p d∧Below w.heap.size w w'∧v.1=pv p d
theorem qfp {w u:World} {q r b:Nat} {ao:Option Addr} {n cap z:Nat} {e:Bool} {p:Pk} {d:Pd} {v:Pv×Nat×Bool} (hJ:J5 w q r b ao n cap z e p d u) (hgd:Pgd 1048576 p d) (hv:v=(pv p d,z,e)):Parts w u (.returned (.tuple #[.agg p.cells,errV e])) v:=by
 subst hv;exact⟨p,d,rfl,hJ.own,hgd,hJ.gro,rfl⟩
theorem rdL_le {α:Type} (g:List UInt8→Nat→Option (α×Nat)) (d:α) (l:List UInt8):∀f s,(rdL g d l f s).1.length≤f:=by
 intro f
 induction f with
 |zero=>intro s;exact Nat.le_refl _
 |succ f ih=>
  intro s;simp only[rdL]
  split
  ·have:=ih (rd g d l s).2;simp only[List.length_cons];omega
  ·exact Nat.zero_le _
theorem rdL_all {α:Type} (P:α→Prop) (g:List UInt8→Nat→Option (α×Nat)) (d:α) (l:List UInt8) (h:∀s,P (rd g d l s).1):∀f s,∀x∈(rdL g d l f s).1,P x:=by
 intro f
 induction f with
 |zero=>intro s x hx;cases hx
 |succ f ih=>
  intro s;simp only[rdL]
  split
  ·intro x hx
   rcases List.mem_cons.1 hx with rfl | hx
   ·exact h s
   ·exact ih _ x hx
  ·intro x hx;cases hx
theorem rdN_size (l:List UInt8) (s:Nat×Bool):(rd gN (ByteArray.empty,0) l s).1.1.size≤61:=by
 unfold rd;cases h:gN l s.1 with
 |none=>exact Nat.zero_le _
 |some xk=>
  obtain⟨x,k⟩:=xk;unfold gN at h;cases e:gT l s.1 with
  |none=>rw[e] at h;cases h
  |some y=>
   obtain⟨y,q⟩:=y;rw[e] at h;simp only at h;cases e2:gB l q with
   |none=>rw[e2] at h;cases h
   |some v=>
    obtain⟨v,u⟩:=v;rw[e2] at h;simp only[Option.some.injEq,Prod.mk.injEq] at h;rw[←h.1];exact qig e
theorem start {w:World} (ao:Option Addr) (n cap:Nat) (ty:Int) (dup:Bool) (qos:Int) (ret:Bool) :
  Rt w (((w.alloc (.cells (fstP ty dup qos ret).cells 28)).alloc (.cells Pk.zero.cells 28)).alloc (.cells #[.slice ao n cap,.int .i64 0,.nilIface] 187)) (w.heap.size+1+1) (w.heap.size+1) w.heap.size ao n cap 0 false (fstP ty dup qos ret) dnil:=by
 have h1:Row (((w.alloc (.cells (fstP ty dup qos ret).cells 28)).alloc (.cells Pk.zero.cells 28)).alloc (.cells #[.slice ao n cap,.int .i64 0,.nilIface] 187)) (w.heap.size+1+1) #[.slice ao n cap,.int .i64 0,.nilIface] 187:=by
  have:=Row.new ((w.alloc (.cells (fstP ty dup qos ret).cells 28)).alloc (.cells Pk.zero.cells 28)) #[.slice ao n cap,.int .i64 0,.nilIface] 187
  simpa using this
 have h2:Blk ((w.alloc (.cells (fstP ty dup qos ret).cells 28)).alloc (.cells Pk.zero.cells 28)) (w.heap.size+1) Pk.zero:=heap_alloc2_new _ _ _;have h3:Blk ((w.alloc (.cells (fstP ty dup qos ret).cells 28)).alloc (.cells Pk.zero.cells 28)) w.heap.size (fstP ty dup qos ret):=heap_alloc2_old _ _ _;exact⟨h1,h3.next (qac _ _),h2.next (qac _ _),own_nils _ _ _ _ _ _,bel (bel (qac _ _) (qac _ _)) (qac _ _),by omega,Nat.le_refl _,by omega,by omega,gd_nils _ _ _ _⟩
theorem ip1 {v:Pv} {l:List UInt8} (h:v.ty=1):qbj v l=iCon l v:=by unfold qbj;rw[if_pos h]
theorem ip2 {v:Pv} {l:List UInt8} {x1 x2:Int} {z1 z2:Nat} {e1 e2:Bool} (h:v.ty=2) (h1:rd gB 0 l (0,false)=(x1,z1,e1)) (h2:rd gB 0 l (z1,e1)=(x2,z2,e2)):qbj v l=({ v with pre:=decide (x1=1),cod:=x2 },z2,e2):=by
 unfold qbj;rw[if_neg (by omega),if_pos h];simp only[h1,h2]
theorem ip3 {v:Pv} {l:List UInt8} (h:v.ty=3):qbj v l=iPub l v:=by unfold qbj;rw[if_neg (by omega),if_neg (by omega),if_pos h]
theorem ipI {v:Pv} {l:List UInt8} {x1:Int} {z1:Nat} {e1:Bool} (h:v.ty=4∨v.ty=5∨v.ty=6∨v.ty=7∨v.ty=11) (h1:rd gW 0 l (0,false)=(x1,z1,e1)):qbj v l=({ v with id:=x1 },z1,e1):=by
 unfold qbj;rw[if_neg (by omega),if_neg (by omega),if_neg (by omega),if_pos h];simp only[h1]
theorem ip8 {v:Pv} {l:List UInt8} {x1:Int} {z1 z2:Nat} {e1 e2:Bool} {xs:List (ByteArray×Int)} (h:v.ty=8) (h1:rd gW 0 l (0,false)=(x1,z1,e1)) (h2:rdL gN (ByteArray.empty,0) l l.length (z1,e1)=(xs,z2,e2)):qbj v l=({ v with id:=x1,wan:=xs },z2,e2):=by
 unfold qbj;rw[if_neg (by omega),if_neg (by omega),if_neg (by omega),if_neg (by omega),if_pos h];simp only[h1,h2]
theorem ip9 {v:Pv} {l:List UInt8} {x1:Int} {z1 z2:Nat} {e1 e2:Bool} {xs:List Int} (h:v.ty=9) (h1:rd gW 0 l (0,false)=(x1,z1,e1)) (h2:rdL gB 0 l l.length (z1,e1)=(xs,z2,e2)):qbj v l=({ v with id:=x1,cds:=xs },z2,e2):=by
 unfold qbj;rw[if_neg (by omega),if_neg (by omega),if_neg (by omega),if_neg (by omega),if_neg (by omega),if_pos h];simp only[h1,h2]
theorem ip10 {v:Pv} {l:List UInt8} {x1:Int} {z1 z2:Nat} {e1 e2:Bool} {xs:List ByteArray} (h:v.ty=10) (h1:rd gW 0 l (0,false)=(x1,z1,e1)) (h2:rdL gT ByteArray.empty l l.length (z1,e1)=(xs,z2,e2)):qbj v l=({ v with id:=x1,nam:=xs },z2,e2):=by
 unfold qbj;rw[if_neg (by omega),if_neg (by omega),if_neg (by omega),if_neg (by omega),if_neg (by omega),if_neg (by omega),if_pos h];simp only[h1,h2]
theorem ipN {v:Pv} {l:List UInt8} (h:v.ty=12∨v.ty=13∨v.ty=14):qbj v l=(v,0,false):=by
 unfold qbj;rw[if_neg (by omega),if_neg (by omega),if_neg (by omega),if_neg (by omega),if_neg (by omega),if_neg (by omega),if_neg (by omega)]
theorem parts_1 (dup:Bool) (qos:Int) (ret:Bool) (ao:Option Addr) (n cap:Nat) (l:List UInt8) (w:World) (hr:RdIn w ao n cap l) (hn:n≤1048576) :
  Calls Tryz.prog 128 #[.agg (fstP 1 dup qos ret).cells,.slice ao n cap] w fun e' w'=>Parts w w' e' (qbj (pv (fstP 1 dup qos ret) dnil) l):=by
 have HR:Hid (RdIn w ao n cap l):=hr;have hl:=hr.1.1;clear hr;have s:=start (w:=w) ao n cap (1) dup qos ret;go_enter Tryz.func128,Tryz.ntmps128
 go_upto_region 2 with (first | refine al_pk ?_ | fail)
 try simp only[World.size_alloc] at s ⊢
 generalize ((w.alloc (.cells (fstP 1 dup qos ret).cells 28)).alloc (.cells Pk.zero.cells 28)).alloc (.cells #[.slice ao n cap,.int .i64 0,.nilIface] 187)=y at *;generalize w.heap.size+1+1=q at *;generalize w.heap.size+1=r at *;generalize hb:w.heap.size=b at *;have c0:=(s.blk.cell 0).trans (Pk.c0 _);replace c0:y.cell? ⟨b,0,none⟩ = some (.int .i64 (1)):=c0;go_wp2_with fail
 refine (read_con w y q r b ao n cap l _ dnil s HR.out hn).mono ?_;rintro er y1 ⟨rfl,ho⟩;have hv:Hid (qbj (pv (fstP 1 dup qos ret) dnil) l=iCon l (pv (fstP 1 dup qos ret) dnil)):=ip1 rfl;generalize iCon l (pv (fstP 1 dup qos ret) dnil)=v1 at *;obtain⟨v1,z,e⟩:=v1;obtain⟨p,d,s1,hp⟩:=ho;simp only at s1 hp hv;subst hp;clear s c0;have s:=s1;clear s1;have hgd:=s.gd;go_wp2;refine qbt (by kernel_rfl) rfl (J5 w q r b ao n cap z e p d) s.j5 (R5 r p) (fun i v u=>match i with
  |0=>v=.agg p.cells
  |1=>v=.pointer (some ⟨q,0,none⟩)
  |2=>v=.pointer (some ⟨q,0,none⟩)
  |3=>v=.pointer (some ⟨q,2,none⟩)
  |4=>v=errV e
  |6=>v=errV e
  |_=>True) (fun i a u=>if i=5 then Blk u r p else True) ?_ ?_ ?_ ?_ ?_
 ·intro i u u' hR hJ;unfold R5 at hR
  split at hR
  ·rw[hR];exact hJ.set s.qr s.rb s.rn
  ·rw[hR];exact hJ
 ·intro i0 i v u u' _ hx h
  match i,h with
  |0,h|1,h|2,h|3,h|4,h|5,h|6,h=>exact h
  |(_+7),h=>trivial
 ·intro i j o oj a v u u' hi hj hne hdj hx hS
  by_cases h5:j=5
  ·rw[if_pos h5] at hS ⊢;unfold R5 at hx;rw[if_neg (by omega)] at hx;rw[hx];exact hS
  ·rw[if_neg h5];trivial
 ·intro i o a u hi hk hJ hdep
  match i,hi with
  |0,hi=>cases hi;exact (qbg hJ.blk _ rfl (qevv hk 2 rfl rfl) ⟨_,rfl,rfl,rfl,trivial⟩)
  |1,hi=>cases hi;exact (qbd _ rfl (qevv hk 6 rfl rfl) ⟨_,rfl,rfl,rfl,trivial⟩)
  |2,hi=>cases hi;obtain⟨z1,hz1,rfl,_⟩:=hdep 1 _ rfl rfl;replace hz1:=hz1 _ rfl;exact (z_nil _ rfl (qab hz1) ⟨_,rfl,rfl,rfl,trivial⟩)
  |3,hi=>cases hi;obtain⟨z2,hz2,rfl,_⟩:=hdep 2 _ rfl rfl;replace hz2:=hz2 _ rfl;exact (z_fld (X:=⟨q,0,none⟩) (Y:=⟨q,2,none⟩) 187 _ 2 rfl (qab hz2) (fun _=>by kernel_rfl) ⟨_,rfl,rfl,rfl,trivial⟩)
  |4,hi=>cases hi;obtain⟨z3,hz3,rfl,_⟩:=hdep 3 _ rfl rfl;replace hz3:=hz3 _ rfl;exact (z_ld 94 _ rfl (qab hz3) (by kernel_rfl) (hJ.rdr.cell 2 rfl) ⟨_,rfl,rfl,rfl,trivial⟩)
  |5,hi=>cases hi;obtain⟨z0,hz0,rfl,_⟩:=hdep 0 _ rfl rfl;replace hz0:=hz0 _ rfl;obtain⟨p0,h0⟩:=hJ.res;exact wp_store_row 28 _ _ rfl r p.cells (qevv hk 4 rfl rfl) (qab hz0) 28 p0.cells h0 (infoP.trans (by rw[Pk.csize])) rfl p.ones ⟨_,rfl,rfl,trivial,setRow_heap u r p0.cells p.cells 28 (0,0) h0⟩
  |6,hi=>cases hi;obtain⟨z4,hz4,rfl,_⟩:=hdep 4 _ rfl rfl;replace hz4:=hz4 _ rfl;exact (z_asg _ rfl (qab hz4) ⟨_,rfl,rfl,rfl,trivial⟩)
  |(_+7),hi=>cases hi
 intro vs u9 hJ hG a3_ h3 hS_;have B9:=hS_ 5 (by decide);rw[if_pos rfl] at B9;clear hS_;have e6:=hG 6 (by decide);replace e6:vs 6=errV e:=e6;clear hG;replace h3:puts _ 2 _ (Fq67)=_:=h3;replace h3:puts _ 4 _ (Fq67)=_:=h3;replace h3:puts _ 6 _ (Fq67)=_:=h3;replace h3:Fq67=_:=h3;unfold Fq67 at h3;subst h3;simp only[e6];clear e6;go_wp2_with fail
 exact qer rfl rfl rfl B9 rfl (qfp hJ hgd hv.out)
theorem parts_3 (dup:Bool) (qos:Int) (ret:Bool) (ao:Option Addr) (n cap:Nat) (l:List UInt8) (w:World) (hr:RdIn w ao n cap l) (hn:n≤1048576) :
  Calls Tryz.prog 128 #[.agg (fstP 3 dup qos ret).cells,.slice ao n cap] w fun e' w'=>Parts w w' e' (qbj (pv (fstP 3 dup qos ret) dnil) l):=by
 have HR:Hid (RdIn w ao n cap l):=hr;have hl:=hr.1.1;clear hr;have s:=start (w:=w) ao n cap (3) dup qos ret;go_enter Tryz.func128,Tryz.ntmps128
 go_upto_region 2 with (first | refine al_pk ?_ | fail)
 try simp only[World.size_alloc] at s ⊢
 generalize ((w.alloc (.cells (fstP 3 dup qos ret).cells 28)).alloc (.cells Pk.zero.cells 28)).alloc (.cells #[.slice ao n cap,.int .i64 0,.nilIface] 187)=y at *;generalize w.heap.size+1+1=q at *;generalize w.heap.size+1=r at *;generalize hb:w.heap.size=b at *;have c0:=(s.blk.cell 0).trans (Pk.c0 _);replace c0:y.cell? ⟨b,0,none⟩ = some (.int .i64 (3)):=c0;go_wp2_with fail
 refine (read_pub w y q r b ao n cap l _ dnil s HR.out hn).mono ?_;rintro er y1 ⟨rfl,ho⟩;have hv:Hid (qbj (pv (fstP 3 dup qos ret) dnil) l=iPub l (pv (fstP 3 dup qos ret) dnil)):=ip3 rfl;generalize iPub l (pv (fstP 3 dup qos ret) dnil)=v1 at *;obtain⟨v1,z,e⟩:=v1;obtain⟨p,d,s1,hp⟩:=ho;simp only at s1 hp hv;subst hp;clear s c0;have s:=s1;clear s1;have hgd:=s.gd;go_wp2;refine qbt (by kernel_rfl) rfl (J5 w q r b ao n cap z e p d) s.j5 (R5 r p) (fun i v u=>match i with
  |0=>v=.agg p.cells
  |1=>v=.pointer (some ⟨q,0,none⟩)
  |2=>v=.pointer (some ⟨q,0,none⟩)
  |3=>v=.pointer (some ⟨q,2,none⟩)
  |4=>v=errV e
  |6=>v=errV e
  |_=>True) (fun i a u=>if i=5 then Blk u r p else True) ?_ ?_ ?_ ?_ ?_
 ·intro i u u' hR hJ;unfold R5 at hR
  split at hR
  ·rw[hR];exact hJ.set s.qr s.rb s.rn
  ·rw[hR];exact hJ
 ·intro i0 i v u u' _ hx h
  match i,h with
  |0,h|1,h|2,h|3,h|4,h|5,h|6,h=>exact h
  |(_+7),h=>trivial
 ·intro i j o oj a v u u' hi hj hne hdj hx hS
  by_cases h5:j=5
  ·rw[if_pos h5] at hS ⊢;unfold R5 at hx;rw[if_neg (by omega)] at hx;rw[hx];exact hS
  ·rw[if_neg h5];trivial
 ·intro i o a u hi hk hJ hdep
  match i,hi with
  |0,hi=>cases hi;exact (qbg hJ.blk _ rfl (qevv hk 2 rfl rfl) ⟨_,rfl,rfl,rfl,trivial⟩)
  |1,hi=>cases hi;exact (qbd _ rfl (qevv hk 6 rfl rfl) ⟨_,rfl,rfl,rfl,trivial⟩)
  |2,hi=>cases hi;obtain⟨z1,hz1,rfl,_⟩:=hdep 1 _ rfl rfl;replace hz1:=hz1 _ rfl;exact (z_nil _ rfl (qab hz1) ⟨_,rfl,rfl,rfl,trivial⟩)
  |3,hi=>cases hi;obtain⟨z2,hz2,rfl,_⟩:=hdep 2 _ rfl rfl;replace hz2:=hz2 _ rfl;exact (z_fld (X:=⟨q,0,none⟩) (Y:=⟨q,2,none⟩) 187 _ 2 rfl (qab hz2) (fun _=>by kernel_rfl) ⟨_,rfl,rfl,rfl,trivial⟩)
  |4,hi=>cases hi;obtain⟨z3,hz3,rfl,_⟩:=hdep 3 _ rfl rfl;replace hz3:=hz3 _ rfl;exact (z_ld 94 _ rfl (qab hz3) (by kernel_rfl) (hJ.rdr.cell 2 rfl) ⟨_,rfl,rfl,rfl,trivial⟩)
  |5,hi=>cases hi;obtain⟨z0,hz0,rfl,_⟩:=hdep 0 _ rfl rfl;replace hz0:=hz0 _ rfl;obtain⟨p0,h0⟩:=hJ.res;exact wp_store_row 28 _ _ rfl r p.cells (qevv hk 4 rfl rfl) (qab hz0) 28 p0.cells h0 (infoP.trans (by rw[Pk.csize])) rfl p.ones ⟨_,rfl,rfl,trivial,setRow_heap u r p0.cells p.cells 28 (0,0) h0⟩
  |6,hi=>cases hi;obtain⟨z4,hz4,rfl,_⟩:=hdep 4 _ rfl rfl;replace hz4:=hz4 _ rfl;exact (z_asg _ rfl (qab hz4) ⟨_,rfl,rfl,rfl,trivial⟩)
  |(_+7),hi=>cases hi
 intro vs u9 hJ hG a3_ h3 hS_;have B9:=hS_ 5 (by decide);rw[if_pos rfl] at B9;clear hS_;have e6:=hG 6 (by decide);replace e6:vs 6=errV e:=e6;clear hG;replace h3:puts _ 2 _ (Fq67)=_:=h3;replace h3:puts _ 4 _ (Fq67)=_:=h3;replace h3:puts _ 6 _ (Fq67)=_:=h3;replace h3:Fq67=_:=h3;unfold Fq67 at h3;subst h3;simp only[e6];clear e6;go_wp2_with fail
 exact qer rfl rfl rfl B9 rfl (qfp hJ hgd hv.out)
theorem st_rt {w y:World} {q r b:Nat} {ao:Option Addr} {n cap z:Nat} {e:Bool} {p:Pk} {d:Pd} {v:Pv×Nat×Bool} (s:Rt w y q r b ao n cap z e p d) (hv:v=(pv p d,z,e)):∃p' d' z' e',Rt w y q r b ao n cap z' e' p' d'∧Pgd 1048576 p' d'∧Hid (v=(pv p' d',z',e')):=⟨p,d,z,e,s,s.gd,hv⟩
theorem parts_2 (dup:Bool) (qos:Int) (ret:Bool) (ao:Option Addr) (n cap:Nat) (l:List UInt8) (w:World) (hr:RdIn w ao n cap l) (hn:n≤1048576) :
  Calls Tryz.prog 128 #[.agg (fstP 2 dup qos ret).cells,.slice ao n cap] w fun e' w'=>Parts w w' e' (qbj (pv (fstP 2 dup qos ret) dnil) l):=by
 have HR:Hid (RdIn w ao n cap l):=hr;have hl:=hr.1.1;clear hr;have s:=start (w:=w) ao n cap (2) dup qos ret;go_enter Tryz.func128,Tryz.ntmps128
 go_upto_region 2 with (first | refine al_pk ?_ | fail)
 try simp only[World.size_alloc] at s ⊢
 generalize ((w.alloc (.cells (fstP 2 dup qos ret).cells 28)).alloc (.cells Pk.zero.cells 28)).alloc (.cells #[.slice ao n cap,.int .i64 0,.nilIface] 187)=y at *;generalize w.heap.size+1+1=q at *;generalize w.heap.size+1=r at *;generalize hb:w.heap.size=b at *;have c0:=(s.blk.cell 0).trans (Pk.c0 _);replace c0:y.cell? ⟨b,0,none⟩ = some (.int .i64 (2)):=c0;go_wp2_with fail
 refine (qfo q ao n cap _ _ l _ s.rdr (HR.out.below s.gro) hn).mono ?_;rintro er y1 ⟨rfl,R1,g1⟩;have hz1:=rd_le gB le_B 0 l (0,false);have hs1:=rdB_lt l (0,false);generalize hk1:rd gB 0 l (0,false)=k1 at *;obtain⟨x1,z1,e1⟩:=k1;have H1:Hid (rd gB 0 l (0,false)=(x1,z1,e1)):=hk1;clear hk1;simp only at R1 hz1 hs1 ⊢;replace s:=s.read R1 g1;clear R1 g1;have c21:=(s.blk.cell 21).trans (Pk.c21 _);have f21:=Lib.frozen_of_heap s.blk 21;replace s:=s.s21 (x1==1);go_wp2_with fail
 refine (qfo q ao n cap _ _ l _ s.rdr (HR.out.below s.gro) hn).mono ?_;rintro er y2 ⟨rfl,R2,g2⟩;have hz2:=rd_le gB le_B 0 l (z1,e1);have hs2:=rdB_lt l (z1,e1);generalize hk2:rd gB 0 l (z1,e1)=k2 at *;obtain⟨x2,z2,e2⟩:=k2;have H2:Hid (rd gB 0 l (z1,e1)=(x2,z2,e2)):=hk2;clear hk2;simp only at R2 hz2 hs2 ⊢;replace s:=s.read R2 g2;clear R2 g2;have c20:=(s.blk.cell 20).trans (Pk.c20 _);have f20:=Lib.frozen_of_heap s.blk 20;replace s:=s.s20 x2;obtain⟨p,d,z,e,s,hgd,hv⟩:=st_rt s (ip2 (v:=pv (fstP 2 dup qos ret) dnil) rfl H1.out H2.out);clear c0;go_wp2;refine qbt (by kernel_rfl) rfl (J5 w q r b ao n cap z e p d) s.j5 (R5 r p) (fun i v u=>match i with
  |0=>v=.agg p.cells
  |1=>v=.pointer (some ⟨q,0,none⟩)
  |2=>v=.pointer (some ⟨q,0,none⟩)
  |3=>v=.pointer (some ⟨q,2,none⟩)
  |4=>v=errV e
  |6=>v=errV e
  |_=>True) (fun i a u=>if i=5 then Blk u r p else True) ?_ ?_ ?_ ?_ ?_
 ·intro i u u' hR hJ;unfold R5 at hR
  split at hR
  ·rw[hR];exact hJ.set s.qr s.rb s.rn
  ·rw[hR];exact hJ
 ·intro i0 i v u u' _ hx h
  match i,h with
  |0,h|1,h|2,h|3,h|4,h|5,h|6,h=>exact h
  |(_+7),h=>trivial
 ·intro i j o oj a v u u' hi hj hne hdj hx hS
  by_cases h5:j=5
  ·rw[if_pos h5] at hS ⊢;unfold R5 at hx;rw[if_neg (by omega)] at hx;rw[hx];exact hS
  ·rw[if_neg h5];trivial
 ·intro i o a u hi hk hJ hdep
  match i,hi with
  |0,hi=>cases hi;exact (qbg hJ.blk _ rfl (qevv hk 2 rfl rfl) ⟨_,rfl,rfl,rfl,trivial⟩)
  |1,hi=>cases hi;exact (qbd _ rfl (qevv hk 6 rfl rfl) ⟨_,rfl,rfl,rfl,trivial⟩)
  |2,hi=>cases hi;obtain⟨z1,hz1,rfl,_⟩:=hdep 1 _ rfl rfl;replace hz1:=hz1 _ rfl;exact (z_nil _ rfl (qab hz1) ⟨_,rfl,rfl,rfl,trivial⟩)
  |3,hi=>cases hi;obtain⟨z2,hz2,rfl,_⟩:=hdep 2 _ rfl rfl;replace hz2:=hz2 _ rfl;exact (z_fld (X:=⟨q,0,none⟩) (Y:=⟨q,2,none⟩) 187 _ 2 rfl (qab hz2) (fun _=>by kernel_rfl) ⟨_,rfl,rfl,rfl,trivial⟩)
  |4,hi=>cases hi;obtain⟨z3,hz3,rfl,_⟩:=hdep 3 _ rfl rfl;replace hz3:=hz3 _ rfl;exact (z_ld 94 _ rfl (qab hz3) (by kernel_rfl) (hJ.rdr.cell 2 rfl) ⟨_,rfl,rfl,rfl,trivial⟩)
  |5,hi=>cases hi;obtain⟨z0,hz0,rfl,_⟩:=hdep 0 _ rfl rfl;replace hz0:=hz0 _ rfl;obtain⟨p0,h0⟩:=hJ.res;exact wp_store_row 28 _ _ rfl r p.cells (qevv hk 4 rfl rfl) (qab hz0) 28 p0.cells h0 (infoP.trans (by rw[Pk.csize])) rfl p.ones ⟨_,rfl,rfl,trivial,setRow_heap u r p0.cells p.cells 28 (0,0) h0⟩
  |6,hi=>cases hi;obtain⟨z4,hz4,rfl,_⟩:=hdep 4 _ rfl rfl;replace hz4:=hz4 _ rfl;exact (z_asg _ rfl (qab hz4) ⟨_,rfl,rfl,rfl,trivial⟩)
  |(_+7),hi=>cases hi
 intro vs u9 hJ hG a3_ h3 hS_;have B9:=hS_ 5 (by decide);rw[if_pos rfl] at B9;clear hS_;have e6:=hG 6 (by decide);replace e6:vs 6=errV e:=e6;clear hG;replace h3:puts _ 2 _ (Fq67)=_:=h3;replace h3:puts _ 4 _ (Fq67)=_:=h3;replace h3:puts _ 6 _ (Fq67)=_:=h3;replace h3:Fq67=_:=h3;unfold Fq67 at h3;subst h3;simp only[e6];clear e6;go_wp2_with fail
 exact qer rfl rfl rfl B9 rfl (qfp hJ hgd hv.out)
theorem qlq (k:Int) (hk:k=4∨k=5∨k=6∨k=7∨k=11) (dup:Bool) (qos:Int) (ret:Bool) (ao:Option Addr) (n cap:Nat) (l:List UInt8) (w:World) (hr:RdIn w ao n cap l) (hn:n≤1048576) :
  Calls Tryz.prog 128 #[.agg (fstP k dup qos ret).cells,.slice ao n cap] w fun e' w'=>Parts w w' e' (qbj (pv (fstP k dup qos ret) dnil) l):=by
 have HR:Hid (RdIn w ao n cap l):=hr;have hl:=hr.1.1;clear hr;have s:=start (w:=w) ao n cap k dup qos ret;go_enter Tryz.func128,Tryz.ntmps128
 go_upto_region 2 with (first | refine al_pk ?_ | fail)
 try simp only[World.size_alloc] at s ⊢
 generalize ((w.alloc (.cells (fstP k dup qos ret).cells 28)).alloc (.cells Pk.zero.cells 28)).alloc (.cells #[.slice ao n cap,.int .i64 0,.nilIface] 187)=y at *;generalize w.heap.size+1+1=q at *;generalize w.heap.size+1=r at *;generalize hb:w.heap.size=b at *;have c0:=(s.blk.cell 0).trans (Pk.c0 _);replace c0:y.cell? ⟨b,0,none⟩ = some (.int .i64 k):=c0;have ht:=hk
 rcases hk with h | h | h | h | h
 all_goals
  rw[h] at c0;clear h;go_wp2_with fail
  refine (qed q ao n cap _ _ l _ s.rdr (HR.out.below s.gro) hn).mono ?_;rintro er y1 ⟨rfl,R1,g1⟩;have hz1:=rd_le gW le_W 0 l (0,false);generalize hk1:rd gW 0 l (0,false)=k1 at *;obtain⟨x1,z1,e1⟩:=k1;have H1:Hid (rd gW 0 l (0,false)=(x1,z1,e1)):=hk1;clear hk1;simp only at R1 hz1 ⊢;replace s:=s.read R1 g1;clear R1 g1;have c4:=(s.blk.cell 4).trans (Pk.c4 _);have f4:=Lib.frozen_of_heap s.blk 4;replace s:=s.s4 x1;obtain⟨p,d,z,e,s,hgd,hv⟩:=st_rt s (ipI (v:=pv (fstP k dup qos ret) dnil) ht H1.out);clear c0;go_wp2;refine qbt (by kernel_rfl) rfl (J5 w q r b ao n cap z e p d) s.j5 (R5 r p) (fun i v u=>match i with
   |0=>v=.agg p.cells
   |1=>v=.pointer (some ⟨q,0,none⟩)
   |2=>v=.pointer (some ⟨q,0,none⟩)
   |3=>v=.pointer (some ⟨q,2,none⟩)
   |4=>v=errV e
   |6=>v=errV e
   |_=>True) (fun i a u=>if i=5 then Blk u r p else True) ?_ ?_ ?_ ?_ ?_
  ·intro i u u' hR hJ;unfold R5 at hR
   split at hR
   ·rw[hR];exact hJ.set s.qr s.rb s.rn
   ·rw[hR];exact hJ
  ·intro i0 i v u u' _ hx h
   match i,h with
   |0,h|1,h|2,h|3,h|4,h|5,h|6,h=>exact h
   |(_+7),h=>trivial
  ·intro i j o oj a v u u' hi hj hne hdj hx hS
   by_cases h5:j=5
   ·rw[if_pos h5] at hS ⊢;unfold R5 at hx;rw[if_neg (by omega)] at hx;rw[hx];exact hS
   ·rw[if_neg h5];trivial
  ·intro i o a u hi hk hJ hdep
   match i,hi with
   |0,hi=>cases hi;exact (qbg hJ.blk _ rfl (qevv hk 2 rfl rfl) ⟨_,rfl,rfl,rfl,trivial⟩)
   |1,hi=>cases hi;exact (qbd _ rfl (qevv hk 6 rfl rfl) ⟨_,rfl,rfl,rfl,trivial⟩)
   |2,hi=>cases hi;obtain⟨z1,hz1,rfl,_⟩:=hdep 1 _ rfl rfl;replace hz1:=hz1 _ rfl;exact (z_nil _ rfl (qab hz1) ⟨_,rfl,rfl,rfl,trivial⟩)
   |3,hi=>cases hi;obtain⟨z2,hz2,rfl,_⟩:=hdep 2 _ rfl rfl;replace hz2:=hz2 _ rfl;exact (z_fld (X:=⟨q,0,none⟩) (Y:=⟨q,2,none⟩) 187 _ 2 rfl (qab hz2) (fun _=>by kernel_rfl) ⟨_,rfl,rfl,rfl,trivial⟩)
   |4,hi=>cases hi;obtain⟨z3,hz3,rfl,_⟩:=hdep 3 _ rfl rfl;replace hz3:=hz3 _ rfl;exact (z_ld 94 _ rfl (qab hz3) (by kernel_rfl) (hJ.rdr.cell 2 rfl) ⟨_,rfl,rfl,rfl,trivial⟩)
   |5,hi=>cases hi;obtain⟨z0,hz0,rfl,_⟩:=hdep 0 _ rfl rfl;replace hz0:=hz0 _ rfl;obtain⟨p0,h0⟩:=hJ.res;exact wp_store_row 28 _ _ rfl r p.cells (qevv hk 4 rfl rfl) (qab hz0) 28 p0.cells h0 (infoP.trans (by rw[Pk.csize])) rfl p.ones ⟨_,rfl,rfl,trivial,setRow_heap u r p0.cells p.cells 28 (0,0) h0⟩
   |6,hi=>cases hi;obtain⟨z4,hz4,rfl,_⟩:=hdep 4 _ rfl rfl;replace hz4:=hz4 _ rfl;exact (z_asg _ rfl (qab hz4) ⟨_,rfl,rfl,rfl,trivial⟩)
   |(_+7),hi=>cases hi
  intro vs u9 hJ hG a3_ h3 hS_;have B9:=hS_ 5 (by decide);rw[if_pos rfl] at B9;clear hS_;have e6:=hG 6 (by decide);replace e6:vs 6=errV e:=e6;clear hG;replace h3:puts _ 2 _ (Fq67)=_:=h3;replace h3:puts _ 4 _ (Fq67)=_:=h3;replace h3:puts _ 6 _ (Fq67)=_:=h3;replace h3:Fq67=_:=h3;unfold Fq67 at h3;subst h3;simp only[e6];clear e6;go_wp2_with fail
  exact qer rfl rfl rfl B9 rfl (qfp hJ hgd hv.out)
theorem parts_8 (dup:Bool) (qos:Int) (ret:Bool) (ao:Option Addr) (n cap:Nat) (l:List UInt8) (w:World) (hr:RdIn w ao n cap l) (hn:n≤1048576) :
  Calls Tryz.prog 128 #[.agg (fstP 8 dup qos ret).cells,.slice ao n cap] w fun e' w'=>Parts w w' e' (qbj (pv (fstP 8 dup qos ret) dnil) l):=by
 have HR:Hid (RdIn w ao n cap l):=hr;have hl:=hr.1.1;clear hr;have s:=start (w:=w) ao n cap (8) dup qos ret;go_enter Tryz.func128,Tryz.ntmps128
 go_upto_region 2 with (first | refine al_pk ?_ | fail)
 try simp only[World.size_alloc] at s ⊢
 generalize ((w.alloc (.cells (fstP 8 dup qos ret).cells 28)).alloc (.cells Pk.zero.cells 28)).alloc (.cells #[.slice ao n cap,.int .i64 0,.nilIface] 187)=y at *;generalize w.heap.size+1+1=q at *;generalize w.heap.size+1=r at *;generalize hb:w.heap.size=b at *;have c0:=(s.blk.cell 0).trans (Pk.c0 _);replace c0:y.cell? ⟨b,0,none⟩ = some (.int .i64 (8)):=c0;go_wp2_with fail
 refine (qed q ao n cap _ _ l _ s.rdr (HR.out.below s.gro) hn).mono ?_;rintro er y1 ⟨rfl,R1,g1⟩;have hz1:=rd_le gW le_W 0 l (0,false);generalize hk1:rd gW 0 l (0,false)=k1 at *;obtain⟨x1,z1,e1⟩:=k1;have H1:Hid (rd gW 0 l (0,false)=(x1,z1,e1)):=hk1;clear hk1;simp only at R1 hz1 ⊢;replace s:=s.read R1 g1;clear R1 g1;have c4:=(s.blk.cell 4).trans (Pk.c4 _);have f4:=Lib.frozen_of_heap s.blk 4;replace s:=s.s4 x1;go_wp2_with fail
 refine (qtl q ao n cap _ _ l _ s.rdr (HR.out.below s.gro) hn (by omega)).mono ?_;rintro er y2 ⟨a2,c2,rfl,O2,R2,g2⟩;have hN:=rdL_le gN (ByteArray.empty,0) l n (z1,e1);have hX:=rdL_all (fun x=>x.1.size≤61) gN (ByteArray.empty,0) l (rdN_size l) n (z1,e1);generalize hk2:rdL gN (ByteArray.empty,0) l n (z1,e1)=k2 at *;obtain⟨x2,z2,e2⟩:=k2;have H2:Hid (rdL gN (ByteArray.empty,0) l l.length (z1,e1)=(x2,z2,e2)):=by unfold Hid;rw[hl];exact hk2
 clear hk2;simp only at O2 R2 hN hX ⊢;have s_:=s.read R2 g2;have c22:=(s_.blk.cell 22).trans (Pk.c22 _);have f22:=Lib.frozen_of_heap s_.blk 22;replace s:=s.n22 R2 g2 O2 (by omega) hX;clear R2 g2 O2 s_;obtain⟨p,d,z,e,s,hgd,hv⟩:=st_rt s (ip8 (v:=pv (fstP 8 dup qos ret) dnil) rfl H1.out H2.out);clear c0;go_wp2;refine qbt (by kernel_rfl) rfl (J5 w q r b ao n cap z e p d) s.j5 (R5 r p) (fun i v u=>match i with
  |0=>v=.agg p.cells
  |1=>v=.pointer (some ⟨q,0,none⟩)
  |2=>v=.pointer (some ⟨q,0,none⟩)
  |3=>v=.pointer (some ⟨q,2,none⟩)
  |4=>v=errV e
  |6=>v=errV e
  |_=>True) (fun i a u=>if i=5 then Blk u r p else True) ?_ ?_ ?_ ?_ ?_
 ·intro i u u' hR hJ;unfold R5 at hR
  split at hR
  ·rw[hR];exact hJ.set s.qr s.rb s.rn
  ·rw[hR];exact hJ
 ·intro i0 i v u u' _ hx h
  match i,h with
  |0,h|1,h|2,h|3,h|4,h|5,h|6,h=>exact h
  |(_+7),h=>trivial
 ·intro i j o oj a v u u' hi hj hne hdj hx hS
  by_cases h5:j=5
  ·rw[if_pos h5] at hS ⊢;unfold R5 at hx;rw[if_neg (by omega)] at hx;rw[hx];exact hS
  ·rw[if_neg h5];trivial
 ·intro i o a u hi hk hJ hdep
  match i,hi with
  |0,hi=>cases hi;exact (qbg hJ.blk _ rfl (qevv hk 2 rfl rfl) ⟨_,rfl,rfl,rfl,trivial⟩)
  |1,hi=>cases hi;exact (qbd _ rfl (qevv hk 6 rfl rfl) ⟨_,rfl,rfl,rfl,trivial⟩)
  |2,hi=>cases hi;obtain⟨z1,hz1,rfl,_⟩:=hdep 1 _ rfl rfl;replace hz1:=hz1 _ rfl;exact (z_nil _ rfl (qab hz1) ⟨_,rfl,rfl,rfl,trivial⟩)
  |3,hi=>cases hi;obtain⟨z2,hz2,rfl,_⟩:=hdep 2 _ rfl rfl;replace hz2:=hz2 _ rfl;exact (z_fld (X:=⟨q,0,none⟩) (Y:=⟨q,2,none⟩) 187 _ 2 rfl (qab hz2) (fun _=>by kernel_rfl) ⟨_,rfl,rfl,rfl,trivial⟩)
  |4,hi=>cases hi;obtain⟨z3,hz3,rfl,_⟩:=hdep 3 _ rfl rfl;replace hz3:=hz3 _ rfl;exact (z_ld 94 _ rfl (qab hz3) (by kernel_rfl) (hJ.rdr.cell 2 rfl) ⟨_,rfl,rfl,rfl,trivial⟩)
  |5,hi=>cases hi;obtain⟨z0,hz0,rfl,_⟩:=hdep 0 _ rfl rfl;replace hz0:=hz0 _ rfl;obtain⟨p0,h0⟩:=hJ.res;exact wp_store_row 28 _ _ rfl r p.cells (qevv hk 4 rfl rfl) (qab hz0) 28 p0.cells h0 (infoP.trans (by rw[Pk.csize])) rfl p.ones ⟨_,rfl,rfl,trivial,setRow_heap u r p0.cells p.cells 28 (0,0) h0⟩
  |6,hi=>cases hi;obtain⟨z4,hz4,rfl,_⟩:=hdep 4 _ rfl rfl;replace hz4:=hz4 _ rfl;exact (z_asg _ rfl (qab hz4) ⟨_,rfl,rfl,rfl,trivial⟩)
  |(_+7),hi=>cases hi
 intro vs u9 hJ hG a3_ h3 hS_;have B9:=hS_ 5 (by decide);rw[if_pos rfl] at B9;clear hS_;have e6:=hG 6 (by decide);replace e6:vs 6=errV e:=e6;clear hG;replace h3:puts _ 2 _ (Fq67)=_:=h3;replace h3:puts _ 4 _ (Fq67)=_:=h3;replace h3:puts _ 6 _ (Fq67)=_:=h3;replace h3:Fq67=_:=h3;unfold Fq67 at h3;subst h3;simp only[e6];clear e6;go_wp2_with fail
 exact qer rfl rfl rfl B9 rfl (qfp hJ hgd hv.out)
theorem parts_9 (dup:Bool) (qos:Int) (ret:Bool) (ao:Option Addr) (n cap:Nat) (l:List UInt8) (w:World) (hr:RdIn w ao n cap l) (hn:n≤1048576) :
  Calls Tryz.prog 128 #[.agg (fstP 9 dup qos ret).cells,.slice ao n cap] w fun e' w'=>Parts w w' e' (qbj (pv (fstP 9 dup qos ret) dnil) l):=by
 have HR:Hid (RdIn w ao n cap l):=hr;have hl:=hr.1.1;clear hr;have s:=start (w:=w) ao n cap (9) dup qos ret;go_enter Tryz.func128,Tryz.ntmps128
 go_upto_region 2 with (first | refine al_pk ?_ | fail)
 try simp only[World.size_alloc] at s ⊢
 generalize ((w.alloc (.cells (fstP 9 dup qos ret).cells 28)).alloc (.cells Pk.zero.cells 28)).alloc (.cells #[.slice ao n cap,.int .i64 0,.nilIface] 187)=y at *;generalize w.heap.size+1+1=q at *;generalize w.heap.size+1=r at *;generalize hb:w.heap.size=b at *;have c0:=(s.blk.cell 0).trans (Pk.c0 _);replace c0:y.cell? ⟨b,0,none⟩ = some (.int .i64 (9)):=c0;go_wp2_with fail
 refine (qed q ao n cap _ _ l _ s.rdr (HR.out.below s.gro) hn).mono ?_;rintro er y1 ⟨rfl,R1,g1⟩;have hz1:=rd_le gW le_W 0 l (0,false);generalize hk1:rd gW 0 l (0,false)=k1 at *;obtain⟨x1,z1,e1⟩:=k1;have H1:Hid (rd gW 0 l (0,false)=(x1,z1,e1)):=hk1;clear hk1;simp only at R1 hz1 ⊢;replace s:=s.read R1 g1;clear R1 g1;have c4:=(s.blk.cell 4).trans (Pk.c4 _);have f4:=Lib.frozen_of_heap s.blk 4;replace s:=s.s4 x1;go_wp2_with fail
 refine (qtk q ao n cap _ _ l _ s.rdr (HR.out.below s.gro) hn (by omega)).mono ?_;rintro er y2 ⟨a2,c2,rfl,O2,R2,g2⟩;have hN:=rdL_le gB 0 l n (z1,e1);generalize hk2:rdL gB 0 l n (z1,e1)=k2 at *;obtain⟨x2,z2,e2⟩:=k2;have H2:Hid (rdL gB 0 l l.length (z1,e1)=(x2,z2,e2)):=by unfold Hid;rw[hl];exact hk2
 clear hk2;simp only at O2 R2 hN ⊢;have s_:=s.read R2 g2;have c24:=(s_.blk.cell 24).trans (Pk.c24 _);have f24:=Lib.frozen_of_heap s_.blk 24;replace s:=s.n24 R2 g2 O2 (by omega);clear R2 g2 O2 s_;obtain⟨p,d,z,e,s,hgd,hv⟩:=st_rt s (ip9 (v:=pv (fstP 9 dup qos ret) dnil) rfl H1.out H2.out);clear c0;go_wp2;refine qbt (by kernel_rfl) rfl (J5 w q r b ao n cap z e p d) s.j5 (R5 r p) (fun i v u=>match i with
  |0=>v=.agg p.cells
  |1=>v=.pointer (some ⟨q,0,none⟩)
  |2=>v=.pointer (some ⟨q,0,none⟩)
  |3=>v=.pointer (some ⟨q,2,none⟩)
  |4=>v=errV e
  |6=>v=errV e
  |_=>True) (fun i a u=>if i=5 then Blk u r p else True) ?_ ?_ ?_ ?_ ?_
 ·intro i u u' hR hJ;unfold R5 at hR
  split at hR
  ·rw[hR];exact hJ.set s.qr s.rb s.rn
  ·rw[hR];exact hJ
 ·intro i0 i v u u' _ hx h
  match i,h with
  |0,h|1,h|2,h|3,h|4,h|5,h|6,h=>exact h
  |(_+7),h=>trivial
 ·intro i j o oj a v u u' hi hj hne hdj hx hS
  by_cases h5:j=5
  ·rw[if_pos h5] at hS ⊢;unfold R5 at hx;rw[if_neg (by omega)] at hx;rw[hx];exact hS
  ·rw[if_neg h5];trivial
 ·intro i o a u hi hk hJ hdep
  match i,hi with
  |0,hi=>cases hi;exact (qbg hJ.blk _ rfl (qevv hk 2 rfl rfl) ⟨_,rfl,rfl,rfl,trivial⟩)
  |1,hi=>cases hi;exact (qbd _ rfl (qevv hk 6 rfl rfl) ⟨_,rfl,rfl,rfl,trivial⟩)
  |2,hi=>cases hi;obtain⟨z1,hz1,rfl,_⟩:=hdep 1 _ rfl rfl;replace hz1:=hz1 _ rfl;exact (z_nil _ rfl (qab hz1) ⟨_,rfl,rfl,rfl,trivial⟩)
  |3,hi=>cases hi;obtain⟨z2,hz2,rfl,_⟩:=hdep 2 _ rfl rfl;replace hz2:=hz2 _ rfl;exact (z_fld (X:=⟨q,0,none⟩) (Y:=⟨q,2,none⟩) 187 _ 2 rfl (qab hz2) (fun _=>by kernel_rfl) ⟨_,rfl,rfl,rfl,trivial⟩)
  |4,hi=>cases hi;obtain⟨z3,hz3,rfl,_⟩:=hdep 3 _ rfl rfl;replace hz3:=hz3 _ rfl;exact (z_ld 94 _ rfl (qab hz3) (by kernel_rfl) (hJ.rdr.cell 2 rfl) ⟨_,rfl,rfl,rfl,trivial⟩)
  |5,hi=>cases hi;obtain⟨z0,hz0,rfl,_⟩:=hdep 0 _ rfl rfl;replace hz0:=hz0 _ rfl;obtain⟨p0,h0⟩:=hJ.res;exact wp_store_row 28 _ _ rfl r p.cells (qevv hk 4 rfl rfl) (qab hz0) 28 p0.cells h0 (infoP.trans (by rw[Pk.csize])) rfl p.ones ⟨_,rfl,rfl,trivial,setRow_heap u r p0.cells p.cells 28 (0,0) h0⟩
  |6,hi=>cases hi;obtain⟨z4,hz4,rfl,_⟩:=hdep 4 _ rfl rfl;replace hz4:=hz4 _ rfl;exact (z_asg _ rfl (qab hz4) ⟨_,rfl,rfl,rfl,trivial⟩)
  |(_+7),hi=>cases hi
 intro vs u9 hJ hG a3_ h3 hS_;have B9:=hS_ 5 (by decide);rw[if_pos rfl] at B9;clear hS_;have e6:=hG 6 (by decide);replace e6:vs 6=errV e:=e6;clear hG;replace h3:puts _ 2 _ (Fq67)=_:=h3;replace h3:puts _ 4 _ (Fq67)=_:=h3;replace h3:puts _ 6 _ (Fq67)=_:=h3;replace h3:Fq67=_:=h3;unfold Fq67 at h3;subst h3;simp only[e6];clear e6;go_wp2_with fail
 exact qer rfl rfl rfl B9 rfl (qfp hJ hgd hv.out)
theorem parts_10 (dup:Bool) (qos:Int) (ret:Bool) (ao:Option Addr) (n cap:Nat) (l:List UInt8) (w:World) (hr:RdIn w ao n cap l) (hn:n≤1048576) :
  Calls Tryz.prog 128 #[.agg (fstP 10 dup qos ret).cells,.slice ao n cap] w fun e' w'=>Parts w w' e' (qbj (pv (fstP 10 dup qos ret) dnil) l):=by
 have HR:Hid (RdIn w ao n cap l):=hr;have hl:=hr.1.1;clear hr;have s:=start (w:=w) ao n cap (10) dup qos ret;go_enter Tryz.func128,Tryz.ntmps128
 go_upto_region 2 with (first | refine al_pk ?_ | fail)
 try simp only[World.size_alloc] at s ⊢
 generalize ((w.alloc (.cells (fstP 10 dup qos ret).cells 28)).alloc (.cells Pk.zero.cells 28)).alloc (.cells #[.slice ao n cap,.int .i64 0,.nilIface] 187)=y at *;generalize w.heap.size+1+1=q at *;generalize w.heap.size+1=r at *;generalize hb:w.heap.size=b at *;have c0:=(s.blk.cell 0).trans (Pk.c0 _);replace c0:y.cell? ⟨b,0,none⟩ = some (.int .i64 (10)):=c0;go_wp2_with fail
 refine (qed q ao n cap _ _ l _ s.rdr (HR.out.below s.gro) hn).mono ?_;rintro er y1 ⟨rfl,R1,g1⟩;have hz1:=rd_le gW le_W 0 l (0,false);generalize hk1:rd gW 0 l (0,false)=k1 at *;obtain⟨x1,z1,e1⟩:=k1;have H1:Hid (rd gW 0 l (0,false)=(x1,z1,e1)):=hk1;clear hk1;simp only at R1 hz1 ⊢;replace s:=s.read R1 g1;clear R1 g1;have c4:=(s.blk.cell 4).trans (Pk.c4 _);have f4:=Lib.frozen_of_heap s.blk 4;replace s:=s.s4 x1;go_wp2_with fail
 refine (qtj q ao n cap _ _ l _ s.rdr (HR.out.below s.gro) hn (by omega)).mono ?_;rintro er y2 ⟨a2,c2,rfl,O2,R2,g2⟩;have hN:=rdL_le gT ByteArray.empty l n (z1,e1);have hX:=rdL_all (fun x=>x.size≤61) gT ByteArray.empty l (fun s=>qin l s.1 s.2) n (z1,e1);generalize hk2:rdL gT ByteArray.empty l n (z1,e1)=k2 at *;obtain⟨x2,z2,e2⟩:=k2;have H2:Hid (rdL gT ByteArray.empty l l.length (z1,e1)=(x2,z2,e2)):=by unfold Hid;rw[hl];exact hk2
 clear hk2;simp only at O2 R2 hN hX ⊢;have s_:=s.read R2 g2;have c23:=(s_.blk.cell 23).trans (Pk.c23 _);have f23:=Lib.frozen_of_heap s_.blk 23;replace s:=s.n23 R2 g2 O2 (by omega) hX;clear R2 g2 O2 s_;obtain⟨p,d,z,e,s,hgd,hv⟩:=st_rt s (ip10 (v:=pv (fstP 10 dup qos ret) dnil) rfl H1.out H2.out);clear c0;go_wp2;refine qbt (by kernel_rfl) rfl (J5 w q r b ao n cap z e p d) s.j5 (R5 r p) (fun i v u=>match i with
  |0=>v=.agg p.cells
  |1=>v=.pointer (some ⟨q,0,none⟩)
  |2=>v=.pointer (some ⟨q,0,none⟩)
  |3=>v=.pointer (some ⟨q,2,none⟩)
  |4=>v=errV e
  |6=>v=errV e
  |_=>True) (fun i a u=>if i=5 then Blk u r p else True) ?_ ?_ ?_ ?_ ?_
 ·intro i u u' hR hJ;unfold R5 at hR
  split at hR
  ·rw[hR];exact hJ.set s.qr s.rb s.rn
  ·rw[hR];exact hJ
 ·intro i0 i v u u' _ hx h
  match i,h with
  |0,h|1,h|2,h|3,h|4,h|5,h|6,h=>exact h
  |(_+7),h=>trivial
 ·intro i j o oj a v u u' hi hj hne hdj hx hS
  by_cases h5:j=5
  ·rw[if_pos h5] at hS ⊢;unfold R5 at hx;rw[if_neg (by omega)] at hx;rw[hx];exact hS
  ·rw[if_neg h5];trivial
 ·intro i o a u hi hk hJ hdep
  match i,hi with
  |0,hi=>cases hi;exact (qbg hJ.blk _ rfl (qevv hk 2 rfl rfl) ⟨_,rfl,rfl,rfl,trivial⟩)
  |1,hi=>cases hi;exact (qbd _ rfl (qevv hk 6 rfl rfl) ⟨_,rfl,rfl,rfl,trivial⟩)
  |2,hi=>cases hi;obtain⟨z1,hz1,rfl,_⟩:=hdep 1 _ rfl rfl;replace hz1:=hz1 _ rfl;exact (z_nil _ rfl (qab hz1) ⟨_,rfl,rfl,rfl,trivial⟩)
  |3,hi=>cases hi;obtain⟨z2,hz2,rfl,_⟩:=hdep 2 _ rfl rfl;replace hz2:=hz2 _ rfl;exact (z_fld (X:=⟨q,0,none⟩) (Y:=⟨q,2,none⟩) 187 _ 2 rfl (qab hz2) (fun _=>by kernel_rfl) ⟨_,rfl,rfl,rfl,trivial⟩)
  |4,hi=>cases hi;obtain⟨z3,hz3,rfl,_⟩:=hdep 3 _ rfl rfl;replace hz3:=hz3 _ rfl;exact (z_ld 94 _ rfl (qab hz3) (by kernel_rfl) (hJ.rdr.cell 2 rfl) ⟨_,rfl,rfl,rfl,trivial⟩)
  |5,hi=>cases hi;obtain⟨z0,hz0,rfl,_⟩:=hdep 0 _ rfl rfl;replace hz0:=hz0 _ rfl;obtain⟨p0,h0⟩:=hJ.res;exact wp_store_row 28 _ _ rfl r p.cells (qevv hk 4 rfl rfl) (qab hz0) 28 p0.cells h0 (infoP.trans (by rw[Pk.csize])) rfl p.ones ⟨_,rfl,rfl,trivial,setRow_heap u r p0.cells p.cells 28 (0,0) h0⟩
  |6,hi=>cases hi;obtain⟨z4,hz4,rfl,_⟩:=hdep 4 _ rfl rfl;replace hz4:=hz4 _ rfl;exact (z_asg _ rfl (qab hz4) ⟨_,rfl,rfl,rfl,trivial⟩)
  |(_+7),hi=>cases hi
 intro vs u9 hJ hG a3_ h3 hS_;have B9:=hS_ 5 (by decide);rw[if_pos rfl] at B9;clear hS_;have e6:=hG 6 (by decide);replace e6:vs 6=errV e:=e6;clear hG;replace h3:puts _ 2 _ (Fq67)=_:=h3;replace h3:puts _ 4 _ (Fq67)=_:=h3;replace h3:puts _ 6 _ (Fq67)=_:=h3;replace h3:Fq67=_:=h3;unfold Fq67 at h3;subst h3;simp only[e6];clear e6;go_wp2_with fail
 exact qer rfl rfl rfl B9 rfl (qfp hJ hgd hv.out)
theorem qsf (k:Int) (hk:k=12∨k=13∨k=14) (dup:Bool) (qos:Int) (ret:Bool) (ao:Option Addr) (n cap:Nat) (l:List UInt8) (w:World) (hr:RdIn w ao n cap l) (hn:n≤1048576) :
  Calls Tryz.prog 128 #[.agg (fstP k dup qos ret).cells,.slice ao n cap] w fun e' w'=>Parts w w' e' (qbj (pv (fstP k dup qos ret) dnil) l):=by
 have HR:Hid (RdIn w ao n cap l):=hr;have hl:=hr.1.1;clear hr;have s:=start (w:=w) ao n cap k dup qos ret;go_enter Tryz.func128,Tryz.ntmps128
 go_upto_region 2 with (first | refine al_pk ?_ | fail)
 try simp only[World.size_alloc] at s ⊢
 generalize ((w.alloc (.cells (fstP k dup qos ret).cells 28)).alloc (.cells Pk.zero.cells 28)).alloc (.cells #[.slice ao n cap,.int .i64 0,.nilIface] 187)=y at *;generalize w.heap.size+1+1=q at *;generalize w.heap.size+1=r at *;generalize hb:w.heap.size=b at *;have c0:=(s.blk.cell 0).trans (Pk.c0 _);replace c0:y.cell? ⟨b,0,none⟩ = some (.int .i64 k):=c0;have ht:=hk
 rcases hk with h | h | h
 all_goals
  rw[h] at c0;clear h;go_wp2;obtain⟨p,d,z,e,s,hgd,hv⟩:=st_rt s (ipN (v:=pv (fstP k dup qos ret) dnil) ht);refine qbt (by kernel_rfl) rfl (J5 w q r b ao n cap z e p d) s.j5 (R5 r p) (fun i v u=>match i with
   |0=>v=.agg p.cells
   |1=>v=.pointer (some ⟨q,0,none⟩)
   |2=>v=.pointer (some ⟨q,0,none⟩)
   |3=>v=.pointer (some ⟨q,2,none⟩)
   |4=>v=errV e
   |6=>v=errV e
   |_=>True) (fun i a u=>if i=5 then Blk u r p else True) ?_ ?_ ?_ ?_ ?_
  ·intro i u u' hR hJ;unfold R5 at hR
   split at hR
   ·rw[hR];exact hJ.set s.qr s.rb s.rn
   ·rw[hR];exact hJ
  ·intro i0 i v u u' _ hx h
   match i,h with
   |0,h|1,h|2,h|3,h|4,h|5,h|6,h=>exact h
   |(_+7),h=>trivial
  ·intro i j o oj a v u u' hi hj hne hdj hx hS
   by_cases h5:j=5
   ·rw[if_pos h5] at hS ⊢;unfold R5 at hx;rw[if_neg (by omega)] at hx;rw[hx];exact hS
   ·rw[if_neg h5];trivial
  ·intro i o a u hi hk hJ hdep
   match i,hi with
   |0,hi=>cases hi;exact (qbg hJ.blk _ rfl (qevv hk 2 rfl rfl) ⟨_,rfl,rfl,rfl,trivial⟩)
   |1,hi=>cases hi;exact (qbd _ rfl (qevv hk 6 rfl rfl) ⟨_,rfl,rfl,rfl,trivial⟩)
   |2,hi=>cases hi;obtain⟨z1,hz1,rfl,_⟩:=hdep 1 _ rfl rfl;replace hz1:=hz1 _ rfl;exact (z_nil _ rfl (qab hz1) ⟨_,rfl,rfl,rfl,trivial⟩)
   |3,hi=>cases hi;obtain⟨z2,hz2,rfl,_⟩:=hdep 2 _ rfl rfl;replace hz2:=hz2 _ rfl;exact (z_fld (X:=⟨q,0,none⟩) (Y:=⟨q,2,none⟩) 187 _ 2 rfl (qab hz2) (fun _=>by kernel_rfl) ⟨_,rfl,rfl,rfl,trivial⟩)
   |4,hi=>cases hi;obtain⟨z3,hz3,rfl,_⟩:=hdep 3 _ rfl rfl;replace hz3:=hz3 _ rfl;exact (z_ld 94 _ rfl (qab hz3) (by kernel_rfl) (hJ.rdr.cell 2 rfl) ⟨_,rfl,rfl,rfl,trivial⟩)
   |5,hi=>cases hi;obtain⟨z0,hz0,rfl,_⟩:=hdep 0 _ rfl rfl;replace hz0:=hz0 _ rfl;obtain⟨p0,h0⟩:=hJ.res;exact wp_store_row 28 _ _ rfl r p.cells (qevv hk 4 rfl rfl) (qab hz0) 28 p0.cells h0 (infoP.trans (by rw[Pk.csize])) rfl p.ones ⟨_,rfl,rfl,trivial,setRow_heap u r p0.cells p.cells 28 (0,0) h0⟩
   |6,hi=>cases hi;obtain⟨z4,hz4,rfl,_⟩:=hdep 4 _ rfl rfl;replace hz4:=hz4 _ rfl;exact (z_asg _ rfl (qab hz4) ⟨_,rfl,rfl,rfl,trivial⟩)
   |(_+7),hi=>cases hi
  intro vs u9 hJ hG a3_ h3 hS_;have B9:=hS_ 5 (by decide);rw[if_pos rfl] at B9;clear hS_;have e6:=hG 6 (by decide);replace e6:vs 6=errV e:=e6;clear hG;replace h3:puts _ 2 _ (Fq67)=_:=h3;replace h3:puts _ 4 _ (Fq67)=_:=h3;replace h3:puts _ 6 _ (Fq67)=_:=h3;replace h3:Fq67=_:=h3;unfold Fq67 at h3;subst h3;simp only[e6];clear e6;go_wp2_with fail
  exact qer rfl rfl rfl B9 rfl (qfp hJ hgd hv.out)
theorem parts_i (ty:Int) (hty:1≤ty∧ty≤14) (dup:Bool) (qos:Int) (ret:Bool) (ao:Option Addr) (n cap:Nat) (l:List UInt8) (w:World) (hr:RdIn w ao n cap l) (hn:n≤1048576) :
  Calls Tryz.prog 128 #[.agg (fstP ty dup qos ret).cells,.slice ao n cap] w fun e' w'=>Parts w w' e' (qbj (pv (fstP ty dup qos ret) dnil) l):=by
 have h14:ty=1∨ty=2∨ty=3∨ty=4∨ty=5∨ty=6∨ty=7∨ty=8∨ty=9∨ty=10∨ty=11∨ty=12∨ty=13∨ty=14:=by omega
 rcases h14 with rfl | rfl | rfl | rfl | rfl | rfl | rfl | rfl | rfl | rfl | rfl | rfl | rfl | rfl
 ·exact parts_1 dup qos ret ao n cap l w hr hn
 ·exact parts_2 dup qos ret ao n cap l w hr hn
 ·exact parts_3 dup qos ret ao n cap l w hr hn
 ·exact qlq 4 (by decide) dup qos ret ao n cap l w hr hn
 ·exact qlq 5 (by decide) dup qos ret ao n cap l w hr hn
 ·exact qlq 6 (by decide) dup qos ret ao n cap l w hr hn
 ·exact qlq 7 (by decide) dup qos ret ao n cap l w hr hn
 ·exact parts_8 dup qos ret ao n cap l w hr hn
 ·exact parts_9 dup qos ret ao n cap l w hr hn
 ·exact parts_10 dup qos ret ao n cap l w hr hn
 ·exact qlq 11 (by decide) dup qos ret ao n cap l w hr hn
 ·exact qsf 12 (by decide) dup qos ret ao n cap l w hr hn
 ·exact qsf 13 (by decide) dup qos ret ao n cap l w hr hn
 ·exact qsf 14 (by decide) dup qos ret ao n cap l w hr hn

theorem str_eq (x y:List UInt8):((⟨x.toArray⟩ : ByteArray).toList==(⟨y.toArray⟩ : ByteArray).toList)=decide (x=y):=by
 rw[ByteArray.toList_eq,ByteArray.toList_eq,Bool.eq_iff_iff];simp
theorem beq_bytes (x y:List UInt8):(x==y)=decide (x=y):=by
 rw[Bool.eq_iff_iff];simp
theorem eq_xEqual (a b:Option Addr) (n c m k:Nat) (x y:List UInt8) (w:World) (hx:RdIn w a n c x) (hy:RdIn w b m k y) :
  Calls Tryz.prog 160 #[.slice a n c,.slice b m k] w fun e w'=>e=.returned (.bool (decide (x=y)))∧w'=w:=by
 have h1:=qgb hx;have h2:=qgb hy;have h3:=str_eq x y;go_enter Tryz.func160,Tryz.ntmps160;go_wp2;go_ret;exact⟨qad (beq_bytes x y),rfl⟩
theorem rd_head {w:World} {ao:Option Addr} {n cap:Nat} {l:List UInt8} (h:RdIn w ao n cap l) (m:Nat) (hm:m≤n):RdIn w ao m cap (l.take m):=by
 obtain⟨⟨hl,hc⟩,h2,h3,h4⟩:=h;refine⟨⟨by rw[List.length_take];omega,fun i hi=>?_⟩,by omega,h3,h4⟩;obtain⟨b,off,e,hcell⟩:=hc i (by omega);refine⟨b,off,e,?_⟩;rw[hcell];have e2:bt (l.take m) i=bt l i:=by
  unfold bt;rw[List.getD_eq_getElem?_getD,List.getD_eq_getElem?_getD,List.getElem?_take,if_pos hi]
 rw[e2]
theorem qqz (a b:Option Addr) (n c m k:Nat) (x y:List UInt8) (w:World) (hx:RdIn w a n c x) (hy:RdIn w b m k y) :
  Calls Tryz.prog 129 #[.slice a n c,.slice b m k] w fun e w'=>e=.returned (.bool (qeg x y))∧w'=w:=by
 have l1:=hx.1.1;have l2:=hy.1.1;have hcap:=hx.2.1
 by_cases h:m≤n
 ·have h':(m:Int)≤n:=by omega
  have hB:Hid (qeg x y=decide (x.take m=y)):=by unfold Hid qeg;rw[l2]
  have hsl:∀w',(Instr.slice 22 (.slice a n c) none (some (.int .i64 (m:Int))) none).run Tryz.prog w'=.ok (.slice a m c) w':=fun w'=>qmu a n c m (by omega) w'
  have hx':=rd_head hx m h;clear l1 l2 hcap hx;go_enter Tryz.func129,Tryz.ntmps129;go_wp2_with fail
  refine (eq_xEqual a b m c m k _ y _ hx' hy).mono ?_;rintro e w1 ⟨rfl,rfl⟩;go_wp2;go_ret;rw[hB.out];exact⟨rfl,rfl⟩
 ·have h':¬(m:Int)≤n:=by omega
  have hB:Hid (qeg x y=false):=by
   unfold Hid qeg;rw[decide_eq_false_iff_not];intro e;have:=congrArg List.length e;rw[List.length_take] at this;omega
  clear l1 l2 hcap hx hy;go_enter Tryz.func129,Tryz.ntmps129;go_wp2;go_ret;rw[hB.out];exact⟨rfl,rfl⟩
open Go.RowKit Go.Extern.Stop Go.Stop Go.Extern

theorem as_nil (t:Value) (w:World):Calls Tryz.prog 82 #[.nilIface,t] w fun e w'=>e=.returned (.bool false)∧w'=w:=by
 go_enter Tryz.func82,Tryz.ntmps82;go_wp2;go_ret;exact⟨rfl,rfl⟩
theorem as_valueOf (t:Addr) (w:World):(ReflectliteValue.unpack (.iface 100 (.pointer (some t)))).run Tryz.prog w
  = .ok (.agg #[.pointer (some ⟨5,100,none⟩),.pointer (some ⟨w.heap.size,0,none⟩),.int .u64 150]) (w.alloc (.cells #[.pointer (some t)] 100)):=by kernel_rfl
theorem as_type (a : Addr) (w : World) : (ReflectliteValue.methodAny (ReflectliteValue.valueError "reflectlite.Value.Type" 0) (fun t _ _ _ => ReflectliteType.toType t) #[.agg #[.pointer (some ⟨5, 100, none⟩), .pointer (some a), .int .u64 150]]).run Tryz.prog w
  = .ok (.iface 196 (.agg #[.pointer (some ⟨5,100,none⟩)])) w:=by kernel_rfl
theorem as_mKind (h : Value) (w : World) : (Go.method 375 196 (.agg #[h]) "Kind").run Tryz.prog w = .ok (190, h) w := by kernel_rfl
theorem as_kindP (w:World):((ReflectliteType.abiMethod fun t=>(fun a:Nat=>Value.int IntKind.u8 (a:Int)) <$> Rtype.kind t) #[.pointer (some ⟨5,100,none⟩)]).run Tryz.prog w=.ok (.int .u8 22) w:=by kernel_rfl
theorem as_kindS (w:World):((ReflectliteType.abiMethod fun t=>(fun a:Nat=>Value.int IntKind.u8 (a:Int)) <$> Rtype.kind t) #[.pointer (some ⟨5,98,none⟩)]).run Tryz.prog w=.ok (.int .u8 25) w:=by kernel_rfl
theorem as_rlm (z:Sem Value) (f:TypeId→Addr→Nat→Nat→Sem Value) (v:Value) :
  ReflectliteValue.method z f #[v]=(do match ←ReflectliteValue.parts v with | none=>z | some (t,a,fl)=>f t a fl (fl%32)):=rfl
theorem qso (a:Addr) (w:World):(ReflectliteValue.parts (.agg #[.pointer (some ⟨5,100,none⟩),.pointer (some a),.int .u64 150])).run Tryz.prog w=.ok (some (100,a,150)) w:=by kernel_rfl
theorem as_isNil (a p:Addr) (W:World) (ha:W.cell? a=some (.pointer (some p))) :
  (ReflectliteValue.method (ReflectliteValue.valueError "reflectlite.Value.IsNil" 0) ReflectliteValue.isNil #[.agg #[.pointer (some ⟨5, 100, none⟩), .pointer (some a), .int .u64 150]]).run Tryz.prog W = .ok (.bool false) W := by
 rw[as_rlm];simp only[Sem.run_bind,qso,Result.andThen];simp[ReflectliteValue.isNil,loadVar,isAgg,underlying,Tryz.underlying100,ha,Result.andThen]
theorem as_mElem (h : Value) (w : World) : (Go.method 375 196 (.agg #[h]) "Elem").run Tryz.prog w = .ok (272, .agg #[h]) w := by kernel_rfl
theorem as_mImpl (h : Value) (w : World) : (Go.method 375 196 (.agg #[h]) "Implements").run Tryz.prog w = .ok (273, .agg #[h]) w := by kernel_rfl
theorem as_mAss (h : Value) (w : World) : (Go.method 375 196 (.agg #[h]) "AssignableTo").run Tryz.prog w = .ok (270, .agg #[h]) w := by kernel_rfl
theorem as_elem (w:World):(ReflectliteType.method ReflectliteType.elem #[.agg #[.pointer (some ⟨5,100,none⟩)]]).run Tryz.prog w=.ok (.iface 196 (.agg #[.pointer (some ⟨5,98,none⟩)])) w:=by kernel_rfl
theorem as_impl (w : World) : (ReflectliteType.relation "Implements" ReflectliteType.implements_ #[.agg #[.pointer (some ⟨5, 98, none⟩)], .iface 196 (.agg #[.pointer (some ⟨5, 94, none⟩)])]).run Tryz.prog w = .ok (.bool true) w := by kernel_rfl
theorem as_typeOf (v:Value) (w:World):(ReflectliteType.typeOf #[.iface 98 v]).run Tryz.prog w=.ok (.iface 196 (.agg #[.pointer (some ⟨5,98,none⟩)])) w:=by kernel_rfl
theorem as_assign (w : World) : (ReflectliteType.relation "AssignableTo" ReflectliteType.assignableTo #[.agg #[.pointer (some ⟨5, 98, none⟩)], .iface 196 (.agg #[.pointer (some ⟨5, 98, none⟩)])]).run Tryz.prog w = .ok (.bool true) w := by kernel_rfl
theorem as_valueS (c:Int) (w:World):(ReflectliteValue.unpack (.iface 98 (.agg #[.int .i64 c]))).run Tryz.prog w
  = .ok (.agg #[.pointer (some ⟨5,98,none⟩),.pointer (some ⟨w.heap.size,0,none⟩),.int .u64 153]) (w.alloc (.cells #[.int .i64 c] 98)):=by kernel_rfl
theorem as_elemOf (w:World):(Rtype.elem? 100).run Tryz.prog w=.ok (some 98) w:=by kernel_rfl
theorem as_mk (p:Addr) (w:World):(ReflectliteValue.mk 98 p ReflectliteValue.flagAddr).run Tryz.prog w=.ok (.agg #[.pointer (some ⟨5,98,none⟩),.pointer (some p),.int .u64 409]) w:=by kernel_rfl
theorem as_elemV (a p:Addr) (W:World) (ha:W.cell? a=some (.pointer (some p))) :
  (ReflectliteValue.method (ReflectliteValue.valueError "reflectlite.Value.Elem" 0) ReflectliteValue.elem #[.agg #[.pointer (some ⟨5, 100, none⟩), .pointer (some a), .int .u64 150]]).run Tryz.prog W
   = .ok (.agg #[.pointer (some ⟨5,98,none⟩),.pointer (some p),.int .u64 409]) W:=by
 rw[as_rlm];simp only[Sem.run_bind,qso,Result.andThen];simp[ReflectliteValue.elem,loadVar,isAgg,underlying,Tryz.underlying100,ha,Result.andThen,as_elemOf,as_mk]
theorem as_partsA (a:Addr) (w:World):(ReflectliteValue.parts (.agg #[.pointer (some ⟨5,98,none⟩),.pointer (some a),.int .u64 409])).run Tryz.prog w=.ok (some (98,a,409)) w:=by kernel_rfl
theorem as_partsS (a:Addr) (w:World):(ReflectliteValue.parts (.agg #[.pointer (some ⟨5,98,none⟩),.pointer (some a),.int .u64 153])).run Tryz.prog w=.ok (some (98,a,153)) w:=by kernel_rfl
theorem as_direct (w:World):(Rtype.directlyAssignable 98 98).run Tryz.prog w=.ok true w:=by kernel_rfl
theorem as_rls (v x:Value):ReflectliteValue.set #[v,x]=(do
  let (some (dst,a,fl),some (src,b,_)):=(←ReflectliteValue.parts v,←ReflectliteValue.parts x)
   | unsupported (.noEntry "extern/(internal/reflectlite.Value).Set.zeroValue")
  if fl / ReflectliteValue.flagAddr % 2 == 0 then unsupported (.noEntry "extern/(internal/reflectlite.Value).Set.unaddressable")
  let val ←loadVar src b
  if ←Rtype.directlyAssignable dst src then storeVar dst a val
  else if ←Rtype.implements dst src then
   if (←Rtype.kind src)==20 then
    match val with
    | .nilIface => unsupported (.noEntry "extern/reflectlite: a nil value of one interface type handed on as a value of another")
    |_=>storeVar dst a val
   else storeVar dst a (.iface src val)
  else panicString ("reflectlite.Set: value of type " ++ (← Rtype.spelt src) ++ " is not assignable to type " ++ (← Rtype.spelt dst))
  pure (.tuple #[])):=rfl
theorem infoU:(Tryz.prog.info? 98).map (fun x=>x.size)=some 1:=by kernel_rfl
theorem as_set (t b:Nat) (c old:Int) (W:World) (hb:W.heap[b]? = some (.cells #[.int .i64 c] 98)) (ht:W.heap[t]? = some (.cells #[.int .i64 old] 98)) :
  (ReflectliteValue.set #[.agg #[.pointer (some ⟨5,98,none⟩),.pointer (some ⟨t,0,none⟩),.int .u64 409],.agg #[.pointer (some ⟨5,98,none⟩),.pointer (some ⟨b,0,none⟩),.int .u64 153]]).run Tryz.prog W
   = .ok (.tuple #[]) (W.setRow t #[.int .i64 c]):=by
 have hl:=run_loadVar_row (P:=Tryz.prog) W b 98 98 #[.int .i64 c] (0,0) _ hb Tryz.underlying98 rfl infoU;have hs:=run_storeVar_row (P:=Tryz.prog) W t 98 98 #[.int .i64 old] #[.int .i64 c] ht infoU rfl (by simp[Value.oneCell']);rw[as_rls];simp only[Sem.run_bind,as_partsA,as_partsS,Result.andThen];simp[ReflectliteValue.flagAddr,hl,Result.andThen,as_direct,hs]
def ErrTy (w:World):Prop:=w.cell? ⟨1,0,none⟩ = some (.iface 196 (.agg #[.pointer (some ⟨5,94,none⟩)]))
theorem ErrTy.below {w w':World} {B:Nat} (h:ErrTy w) (hb:Below B w w') (hB:1<B):ErrTy w':=(hb.cell (p:=⟨1,0,none⟩) hB).trans h
theorem as_hit (c old:Int) (t:Nat) (w:World) (hg:ErrTy w) (ht:w.heap[t]? = some (.cells #[.int .i64 old] 98)) :
  Calls Tryz.prog 82 #[.iface 98 (.agg #[.int .i64 c]),.iface 100 (.pointer (some ⟨t,0,none⟩))] w fun ev w'=>ev=.returned (.bool true)∧w'=((((w.alloc (.cells #[.pointer (some ⟨t,0,none⟩)] 100)).alloc (.cells #[.pointer (some ⟨5,100,none⟩),.pointer (some ⟨w.heap.size,0,none⟩),.int .u64 150] 166)).alloc (.cells #[.pointer (some ⟨5,100,none⟩),.pointer (some ⟨w.heap.size,0,none⟩),.int .u64 150] 166)).alloc (.cells #[.int .i64 c] 98)).setRow t #[.int .i64 c]:=by
 unfold ErrTy at hg;have hlt:1<w.heap.size:=by
  rcases Nat.lt_or_ge 1 w.heap.size with h | h
  ·exact h
  ·simp[World.cell?,Array.getElem?_eq_none h] at hg
 have htl:t<w.heap.size:=(Array.getElem?_eq_some_iff.1 ht).1;have ValueOf:=@run_callFunc_extern Tryz.prog 130 _ (fun args=>ReflectliteValue.unpack (args.getD 0 (.tuple #[]))) Tryz.func130 (by kernel_rfl) (by kernel_rfl) (by kernel_rfl) (by kernel_rfl);have hType := @run_callFunc_extern Tryz.prog 131 _ (ReflectliteValue.methodAny (ReflectliteValue.valueError "reflectlite.Value.Type" 0) (fun t _ _ _ => ReflectliteType.toType t)) Tryz.func131 (by kernel_rfl) (by kernel_rfl) (by kernel_rfl) (by kernel_rfl);have hNil := @run_callFunc_extern Tryz.prog 132 _ (ReflectliteValue.method (ReflectliteValue.valueError "reflectlite.Value.IsNil" 0) ReflectliteValue.isNil) Tryz.func132 (by kernel_rfl) (by kernel_rfl) (by kernel_rfl) (by kernel_rfl);have hKind:=@run_callFunc_extern Tryz.prog 190 _ (ReflectliteType.abiMethod fun t=>do pure (.int .u8 (←Rtype.kind t))) Tryz.func190 (by kernel_rfl) (by kernel_rfl) (by kernel_rfl) (by kernel_rfl);have hElem:=@run_callFunc_extern Tryz.prog 272 _ (ReflectliteType.method ReflectliteType.elem) Tryz.func272 (by kernel_rfl) (by kernel_rfl) (by kernel_rfl) (by kernel_rfl);have hImpl := @run_callFunc_extern Tryz.prog 273 _ (ReflectliteType.relation "Implements" ReflectliteType.implements_) Tryz.func273 (by kernel_rfl) (by kernel_rfl) (by kernel_rfl) (by kernel_rfl);have hTypeOf:=@run_callFunc_extern Tryz.prog 161 _ ReflectliteType.typeOf Tryz.func161 (by kernel_rfl) (by kernel_rfl) (by kernel_rfl) (by kernel_rfl)
 have hAss := @run_callFunc_extern Tryz.prog 270 _ (ReflectliteType.relation "AssignableTo" ReflectliteType.assignableTo) Tryz.func270 (by kernel_rfl) (by kernel_rfl) (by kernel_rfl) (by kernel_rfl);have hVElem := @run_callFunc_extern Tryz.prog 162 _ (ReflectliteValue.method (ReflectliteValue.valueError "reflectlite.Value.Elem" 0) ReflectliteValue.elem) Tryz.func162 (by kernel_rfl) (by kernel_rfl) (by kernel_rfl) (by kernel_rfl);have hSet:=@run_callFunc_extern Tryz.prog 163 _ ReflectliteValue.set Tryz.func163 (by kernel_rfl) (by kernel_rfl) (by kernel_rfl) (by kernel_rfl);have q_as_typeOf:=as_typeOf;have q_as_mAss:=as_mAss;have q_as_assign:=as_assign;have q_as_valueS:=as_valueS;have q_as_valueOf:=as_valueOf;have q_as_type:=as_type;have q_as_mKind:=as_mKind;have q_as_mElem:=as_mElem;have q_as_mImpl:=as_mImpl;have q_as_kindP:=as_kindP;have q_as_kindS:=as_kindS;have q_as_elem:=as_elem;have q_as_impl:=as_impl;have n8:=as_isNil ⟨w.heap.size,0,none⟩ ⟨t,0,none⟩ ((w.alloc (.cells #[.pointer (some ⟨t,0,none⟩)] 100)).alloc (.cells #[.pointer (some ⟨5,100,none⟩),.pointer (some ⟨w.heap.size,0,none⟩),.int .u64 150] 166)) (by simp);have hg2:((w.alloc (.cells #[.pointer (some ⟨t,0,none⟩)] 100)).alloc (.cells #[.pointer (some ⟨5,100,none⟩),.pointer (some ⟨w.heap.size,0,none⟩),.int .u64 150] 166)).cell? ⟨1,0,none⟩ = some (.iface 196 (.agg #[.pointer (some ⟨5,94,none⟩)])):=by
  rw[World.cell?_alloc_lt _ _ ⟨1,0,none⟩ (by simp;omega),World.cell?_alloc_lt _ _ ⟨1,0,none⟩ hlt];exact hg
 have el:=as_elemV ⟨w.heap.size,0,none⟩ ⟨t,0,none⟩ (((w.alloc (.cells #[.pointer (some ⟨t,0,none⟩)] 100)).alloc (.cells #[.pointer (some ⟨5,100,none⟩),.pointer (some ⟨w.heap.size,0,none⟩),.int .u64 150] 166)).alloc (.cells #[.pointer (some ⟨5,100,none⟩),.pointer (some ⟨w.heap.size,0,none⟩),.int .u64 150] 166)) (by rw[World.cell?_alloc_lt _ _ ⟨w.heap.size,0,none⟩ (by simp;omega)];simp);have st:=as_set t (w.heap.size+1+1+1) c old ((((w.alloc (.cells #[.pointer (some ⟨t,0,none⟩)] 100)).alloc (.cells #[.pointer (some ⟨5,100,none⟩),.pointer (some ⟨w.heap.size,0,none⟩),.int .u64 150] 166)).alloc (.cells #[.pointer (some ⟨5,100,none⟩),.pointer (some ⟨w.heap.size,0,none⟩),.int .u64 150] 166)).alloc (.cells #[.int .i64 c] 98))
  (by have:=heap_alloc_new (((w.alloc (.cells #[.pointer (some ⟨t,0,none⟩)] 100)).alloc (.cells #[.pointer (some ⟨5,100,none⟩),.pointer (some ⟨w.heap.size,0,none⟩),.int .u64 150] 166)).alloc (.cells #[.pointer (some ⟨5,100,none⟩),.pointer (some ⟨w.heap.size,0,none⟩),.int .u64 150] 166)) (.cells #[.int .i64 c] 98);simpa using this)
  (by rw[heap_alloc_old _ _ (by simp;omega),heap_alloc_old _ _ (by simp;omega),heap_alloc_old _ _ (by simp;omega),heap_alloc_old _ _ htl];exact ht)
 go_enter Tryz.func82,Tryz.ntmps82;go_wp2;refine wp_loop_rounds 1 ?_;rw[rounds_succ];go_wp2;go_ret;exact⟨rfl,rfl⟩
