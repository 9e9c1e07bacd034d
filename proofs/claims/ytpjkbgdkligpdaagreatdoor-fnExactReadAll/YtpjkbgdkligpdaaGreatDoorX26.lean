/- Lemmas. -/
import Derived.Test.YtpjkbgdkligpdaaGreatDoorX25
import Derived.Test.YtpjkbgdkligpdaaGreatDoorX01
set_option linter.unusedVariables false
set_option linter.unusedSimpArgs false
set_option maxRecDepth 100000
set_option maxHeartbeats 20000000
namespace Go.Proofs.YtpjkbgdkligpdaaGreatDoor
open Go.RowKit

theorem qek {fn:Func} {R:Ending→World→Prop} {a:Act} {w:World} {g:Nat} {p:Pk} {t t2:Tmp} {v2:Value} (hr:fn.results = #[.cell t 28,.tmp t2]) (hp:a.tmps.getD t undef=.pointer (some ⟨g,0,none⟩)) (h2:a.tmps.getD t2 undef=v2) (hB:Blk w g p) (hd:a.defers = [])
  (h:R (.returned (.tuple #[.agg p.cells,v2])) w):bodyPost Tryz.prog fn R .ret a w:=by
 have hp':a.tmps[t]?.getD undef=.pointer (some ⟨g,0,none⟩):=by simpa using hp
 have h2':a.tmps[t2]?.getD undef=v2:=by simpa using h2
 exact bodyPost_ret (by simp[results,hr,hp',h2',asAddr,run_loadVar_row w g 28 28 p.cells (0,0) _ hB Tryz.underlying28 rfl (infoP.trans (by rw[Pk.csize]))]) hd h
theorem qcl {fn:Func} {R:Ending→World→Prop} {a:Act} {w:World} {g:Nat} {p:Pk} {t t2 t3:Tmp} {v2 v3:Value} (hr:fn.results = #[.cell t 28,.tmp t2,.tmp t3]) (hp:a.tmps.getD t undef=.pointer (some ⟨g,0,none⟩)) (h2:a.tmps.getD t2 undef=v2) (h3:a.tmps.getD t3 undef=v3) (hB:Blk w g p) (hd:a.defers = [])
  (h:R (.returned (.tuple #[.agg p.cells,v2,v3])) w):bodyPost Tryz.prog fn R .ret a w:=by
 have hp':a.tmps[t]?.getD undef=.pointer (some ⟨g,0,none⟩):=by simpa using hp
 have h2':a.tmps[t2]?.getD undef=v2:=by simpa using h2
 have h3':a.tmps[t3]?.getD undef=v3:=by simpa using h3
 exact bodyPost_ret (by simp[results,hr,hp',h2',h3',asAddr,run_loadVar_row w g 28 28 p.cells (0,0) _ hB Tryz.underlying28 rfl (infoP.trans (by rw[Pk.csize]))]) hd h
def fstP (ty:Int) (dup:Bool) (qos:Int) (ret:Bool):Pk:={ Pk.zero with ty:=ty,dup:=dup,qos:=qos,ret:=ret }
theorem own_nils (w:World) (B:Nat) (ty:Int) (dup:Bool) (qos:Int) (ret:Bool):POwn w B (fstP ty dup qos ret) dnil :=
 ⟨⟨rfl,World.ownsRow_nil _ _ _ _⟩,⟨rfl,World.ownsRow_nil _ _ _ _⟩,⟨rfl,World.ownsRow_nil _ _ _ _⟩,⟨rfl,World.ownsRow_nil _ _ _ _⟩,⟨rfl,World.ownsRow_nil _ _ _ _⟩,⟨rfl,World.ownsRow_nil _ _ _ _⟩,pw6.2 ⟨⟨qbe _,qbe _,qbe _,qbe _,qbe _⟩,⟨qbe _,qbe _,qbe _,qbe _⟩,⟨qbe _,qbe _,qbe _⟩,⟨qbe _,qbe _⟩,qbe _⟩⟩
theorem gd_nils (ty:Int) (dup:Bool) (qos:Int) (ret:Bool):Pgd 1048576 (fstP ty dup qos ret) dnil :=
 ⟨Nat.zero_le _,Nat.zero_le _,Nat.zero_le _,Nat.zero_le _,Nat.zero_le _,Nat.zero_le _,Nat.zero_le _,Nat.zero_le _,Nat.zero_le _,Nat.zero_le _,fun x hx=>(by cases hx),fun x hx=>(by cases hx)⟩
def R5 (r:Nat) (p:Pk) (i:Nat) (u u':World):Prop:=if i=5 then u'=u.setRow r p.cells else u'=u
structure J5 (w0:World) (q r b:Nat) (ao:Option Addr) (n cap z:Nat) (e:Bool) (p:Pk) (d:Pd) (u:World):Prop where
 rdr:RB u q ao n cap z e
 blk:Blk u b p
 res:∃p0,Blk u r p0
 own:POwn u w0.heap.size p d
 gro:Below w0.heap.size w0 u
theorem Rt.j5 {w0 y:World} {q r b:Nat} {ao:Option Addr} {n cap z:Nat} {e:Bool} {p:Pk} {d:Pd} (s:Rt w0 y q r b ao n cap z e p d):J5 w0 q r b ao n cap z e p d y.drew :=
 ⟨s.rdr,s.blk,⟨_,s.res⟩,⟨s.own.bod,s.own.wb,s.own.pa,s.own.wan,s.own.nam,s.own.cds,s.own.dis⟩,⟨s.gro.os,s.gro.tape,s.gro.output,s.gro.size,s.gro.block⟩⟩
theorem qgz (u:World) (r:Nat) (cs:Array Value):u.grownBy (u.setRow r cs) (some r):=⟨rfl,rfl,rfl,by simp,fun k hk hne=>setRow_other u r k _ (fun e=>hne (by rw[e]))⟩
theorem J5.set {w0 u:World} {q r b:Nat} {ao:Option Addr} {n cap z:Nat} {e:Bool} {p:Pk} {d:Pd} (h:J5 w0 q r b ao n cap z e p d u) (hqr:q≠r) (hrb:r≠b) (hr:w0.heap.size≤r):J5 w0 q r b ao n cap z e p d (u.setRow r p.cells):=by
 obtain⟨p0,h0⟩:=h.res;exact⟨(setRow_other u r q _ hqr).trans h.rdr,(setRow_other u r b _ (fun e=>hrb e.symm)).trans h.blk,⟨p,setRow_heap u r p0.cells p.cells 28 (0,0) h0⟩,
  h.own.grown (qgz u r _) (fun k e=>by cases e;exact h.own.ne h0),h.gro.grown (qgz u r _) h.gro.size (fun k e=>by cases e;exact hr)⟩
def Parts (w w':World) (e':Ending) (v:Pv×Nat×Bool):Prop:=∃p d,e'=.returned (.tuple #[.agg (Pk.cells p),errV v.2.2])∧POwn w' w.heap.size p d∧Pgd 1048576 p d∧Below w.heap.size w w'∧v.1=pv p d
theorem qfd {w u:World} {q r b:Nat} {ao:Option Addr} {n cap z:Nat} {e:Bool} {p:Pk} {d:Pd} {v:Pv×Nat×Bool} (hJ:J5 w q r b ao n cap z e p d u) (hgd:Pgd 1048576 p d) (hv:v=(pv p d,z,e)):Parts w u (.returned (.tuple #[.agg p.cells,errV e])) v:=by
 subst hv;exact⟨p,d,rfl,hJ.own,hgd,hJ.gro,rfl⟩
theorem rdL_le {α:Type} (g:List UInt8→Nat→Option (α×Nat)) (d:α) (l:List UInt8):∀f s,(rdL g d l f s).1.length≤f:=by
 intro f
 induction f with
 |zero=>intro s;exact Nat.le_refl _
 |succ f ih=>
  intro s;simp only[rdL]
  split
  ·have:=ih (rd g d l s).2;simp only[List.length_cons];omega
  ·exact Nat.zero_le _
theorem rdL_all {α:Type} (P:α→Prop) (g:List UInt8→Nat→Option (α×Nat)) (d:α) (l:List UInt8) (h:∀s,P (rd g d l s).1):∀f s,∀x∈(rdL g d l f s).1,P x:=by
 intro f
 induction f with
 |zero=>intro s x hx;cases hx
 |succ f ih=>
  intro s;simp only[rdL]
  split
  ·intro x hx
   rcases List.mem_cons.1 hx with rfl | hx
   ·exact h s
   ·exact ih _ x hx
  ·intro x hx;cases hx
theorem rdN_size (l:List UInt8) (s:Nat×Bool):(rd gN (ByteArray.empty,0) l s).1.1.size≤61:=by
 unfold rd;cases h:gN l s.1 with
 |none=>exact Nat.zero_le _
 |some xk=>
  obtain⟨x,k⟩:=xk;unfold gN at h;cases e:gT l s.1 with
  |none=>rw[e] at h;cases h
  |some y=>
   obtain⟨y,q⟩:=y;rw[e] at h;simp only at h;cases e2:gB l q with
   |none=>rw[e2] at h;cases h
   |some v=>
    obtain⟨v,u⟩:=v;rw[e2] at h;simp only[Option.some.injEq,Prod.mk.injEq] at h;rw[←h.1];exact qhp e
theorem start {w:World} (ao:Option Addr) (n cap:Nat) (ty:Int) (dup:Bool) (qos:Int) (ret:Bool) :
  Rt w (((w.alloc (.cells (fstP ty dup qos ret).cells 28)).alloc (.cells Pk.zero.cells 28)).alloc (.cells #[.slice ao n cap,.int .i64 0,.nilIface] 187)) (w.heap.size+1+1) (w.heap.size+1) w.heap.size ao n cap 0 false (fstP ty dup qos ret) dnil:=by
 have h1:Row (((w.alloc (.cells (fstP ty dup qos ret).cells 28)).alloc (.cells Pk.zero.cells 28)).alloc (.cells #[.slice ao n cap,.int .i64 0,.nilIface] 187)) (w.heap.size+1+1) #[.slice ao n cap,.int .i64 0,.nilIface] 187:=by
  have:=Row.new ((w.alloc (.cells (fstP ty dup qos ret).cells 28)).alloc (.cells Pk.zero.cells 28)) #[.slice ao n cap,.int .i64 0,.nilIface] 187
  simpa using this
 have h2:Blk ((w.alloc (.cells (fstP ty dup qos ret).cells 28)).alloc (.cells Pk.zero.cells 28)) (w.heap.size+1) Pk.zero:=heap_alloc2_new _ _ _;have h3:Blk ((w.alloc (.cells (fstP ty dup qos ret).cells 28)).alloc (.cells Pk.zero.cells 28)) w.heap.size (fstP ty dup qos ret):=heap_alloc2_old _ _ _;exact⟨h1,h3.next (qac _ _),h2.next (qac _ _),own_nils _ _ _ _ _ _,bel (bel (qac _ _) (qac _ _)) (qac _ _),by omega,Nat.le_refl _,by omega,by omega,gd_nils _ _ _ _⟩
theorem ip1 {v:Pv} {l:List UInt8} (h:v.ty=1):qbg v l=iCon l v:=by unfold qbg;rw[if_pos h]
theorem ip2 {v:Pv} {l:List UInt8} {x1 x2:Int} {z1 z2:Nat} {e1 e2:Bool} (h:v.ty=2) (h1:rd gB 0 l (0,false)=(x1,z1,e1)) (h2:rd gB 0 l (z1,e1)=(x2,z2,e2)):qbg v l=({ v with pre:=decide (x1=1),cod:=x2 },z2,e2):=by
 unfold qbg;rw[if_neg (by omega),if_pos h];simp only[h1,h2]
theorem ip3 {v:Pv} {l:List UInt8} (h:v.ty=3):qbg v l=iPub l v:=by unfold qbg;rw[if_neg (by omega),if_neg (by omega),if_pos h]
theorem ipI {v:Pv} {l:List UInt8} {x1:Int} {z1:Nat} {e1:Bool} (h:v.ty=4∨v.ty=5∨v.ty=6∨v.ty=7∨v.ty=11) (h1:rd gW 0 l (0,false)=(x1,z1,e1)):qbg v l=({ v with id:=x1 },z1,e1):=by
 unfold qbg;rw[if_neg (by omega),if_neg (by omega),if_neg (by omega),if_pos h];simp only[h1]
theorem ip8 {v:Pv} {l:List UInt8} {x1:Int} {z1 z2:Nat} {e1 e2:Bool} {xs:List (ByteArray×Int)} (h:v.ty=8) (h1:rd gW 0 l (0,false)=(x1,z1,e1)) (h2:rdL gN (ByteArray.empty,0) l l.length (z1,e1)=(xs,z2,e2)):qbg v l=({ v with id:=x1,wan:=xs },z2,e2):=by
 unfold qbg;rw[if_neg (by omega),if_neg (by omega),if_neg (by omega),if_neg (by omega),if_pos h];simp only[h1,h2]
theorem ip9 {v:Pv} {l:List UInt8} {x1:Int} {z1 z2:Nat} {e1 e2:Bool} {xs:List Int} (h:v.ty=9) (h1:rd gW 0 l (0,false)=(x1,z1,e1)) (h2:rdL gB 0 l l.length (z1,e1)=(xs,z2,e2)):qbg v l=({ v with id:=x1,cds:=xs },z2,e2):=by
 unfold qbg;rw[if_neg (by omega),if_neg (by omega),if_neg (by omega),if_neg (by omega),if_neg (by omega),if_pos h];simp only[h1,h2]
theorem ip10 {v:Pv} {l:List UInt8} {x1:Int} {z1 z2:Nat} {e1 e2:Bool} {xs:List ByteArray} (h:v.ty=10) (h1:rd gW 0 l (0,false)=(x1,z1,e1)) (h2:rdL gT ByteArray.empty l l.length (z1,e1)=(xs,z2,e2)):qbg v l=({ v with id:=x1,nam:=xs },z2,e2):=by
 unfold qbg;rw[if_neg (by omega),if_neg (by omega),if_neg (by omega),if_neg (by omega),if_neg (by omega),if_neg (by omega),if_pos h];simp only[h1,h2]
theorem ipN {v:Pv} {l:List UInt8} (h:v.ty=12∨v.ty=13∨v.ty=14):qbg v l=(v,0,false):=by
 unfold qbg;rw[if_neg (by omega),if_neg (by omega),if_neg (by omega),if_neg (by omega),if_neg (by omega),if_neg (by omega),if_neg (by omega)]
theorem parts_1 (dup:Bool) (qos:Int) (ret:Bool) (ao:Option Addr) (n cap:Nat) (l:List UInt8) (w:World) (hr:RdIn w ao n cap l) (hn:n≤1048576) :
  Calls Tryz.prog 128 #[.agg (fstP 1 dup qos ret).cells,.slice ao n cap] w fun e' w'=>Parts w w' e' (qbg (pv (fstP 1 dup qos ret) dnil) l):=by
 have HR:Hid (RdIn w ao n cap l):=hr;have hl:=hr.1.1;clear hr;have s:=start (w:=w) ao n cap (1) dup qos ret;go_enter Tryz.func128,Tryz.ntmps128
 go_upto_region 2 with (first | refine al_pk ?_ | fail)
 try simp only[World.size_alloc] at s ⊢
 generalize ((w.alloc (.cells (fstP 1 dup qos ret).cells 28)).alloc (.cells Pk.zero.cells 28)).alloc (.cells #[.slice ao n cap,.int .i64 0,.nilIface] 187)=y at *;generalize w.heap.size+1+1=q at *;generalize w.heap.size+1=r at *;generalize hb:w.heap.size=b at *;have c0:=(s.blk.cell 0).trans (Pk.c0 _);replace c0:y.cell? ⟨b,0,none⟩ = some (.int .i64 (1)):=c0;go_wp2_with fail
 refine (read_con w y q r b ao n cap l _ dnil s HR.out hn).mono ?_;rintro er y1 ⟨rfl,ho⟩;have hv:Hid (qbg (pv (fstP 1 dup qos ret) dnil) l=iCon l (pv (fstP 1 dup qos ret) dnil)):=ip1 rfl;generalize iCon l (pv (fstP 1 dup qos ret) dnil)=v1 at *;obtain⟨v1,z,e⟩:=v1;obtain⟨p,d,s1,hp⟩:=ho;simp only at s1 hp hv;subst hp;clear s c0;have s:=s1;clear s1;have hgd:=s.gd;go_wp2;refine qbn (by kernel_rfl) rfl (J5 w q r b ao n cap z e p d) s.j5 (R5 r p) (fun i v u=>match i with
  |0=>v=.agg p.cells
  |1=>v=.pointer (some ⟨q,0,none⟩)
  |2=>v=.pointer (some ⟨q,0,none⟩)
  |3=>v=.pointer (some ⟨q,2,none⟩)
  |4=>v=errV e
  |6=>v=errV e
  |_=>True) (fun i a u=>if i=5 then Blk u r p else True) ?_ ?_ ?_ ?_ ?_
 ·intro i u u' hR hJ;unfold R5 at hR
  split at hR
  ·rw[hR];exact hJ.set s.qr s.rb s.rn
  ·rw[hR];exact hJ
 ·intro i0 i v u u' _ hx h
  match i,h with
  |0,h=>exact h
  |1,h=>exact h
  |2,h=>exact h
  |3,h=>exact h
  |4,h=>exact h
  |5,h=>exact h
  |6,h=>exact h
  |(_+7),h=>trivial
 ·intro i j o oj a v u u' hi hj hne hdj hx hS
  by_cases h5:j=5
  ·rw[if_pos h5] at hS ⊢;unfold R5 at hx;rw[if_neg (by omega)] at hx;rw[hx];exact hS
  ·rw[if_neg h5];trivial
 ·intro i o a u hi hk hJ hdep
  match i,hi with
  |0,hi=>
   cases hi;exact (qbd hJ.blk _ rfl (qaa ((hk.at 2 rfl).trans rfl)) ⟨_,rfl,rfl,rfl,trivial⟩)
  |1,hi=>
   cases hi;exact (qax _ rfl (qaa ((hk.at 6 rfl).trans rfl)) ⟨_,rfl,rfl,rfl,trivial⟩)
  |2,hi=>
   cases hi;obtain⟨z1,hz1,rfl,_⟩:=hdep 1 _ rfl rfl;replace hz1:=hz1 _ rfl;exact (z_nil _ rfl (qaa hz1) ⟨_,rfl,rfl,rfl,trivial⟩)
  |3,hi=>
   cases hi;obtain⟨z2,hz2,rfl,_⟩:=hdep 2 _ rfl rfl;replace hz2:=hz2 _ rfl;exact (z_fld (X:=⟨q,0,none⟩) (Y:=⟨q,2,none⟩) 187 _ 2 rfl (qaa hz2) (fun _=>by kernel_rfl) ⟨_,rfl,rfl,rfl,trivial⟩)
  |4,hi=>
   cases hi;obtain⟨z3,hz3,rfl,_⟩:=hdep 3 _ rfl rfl;replace hz3:=hz3 _ rfl;exact (z_ld 94 _ rfl (qaa hz3) (by kernel_rfl) (hJ.rdr.cell 2 rfl) ⟨_,rfl,rfl,rfl,trivial⟩)
  |5,hi=>
   cases hi;obtain⟨z0,hz0,rfl,_⟩:=hdep 0 _ rfl rfl;replace hz0:=hz0 _ rfl;obtain⟨p0,h0⟩:=hJ.res;exact wp_store_row 28 _ _ rfl r p.cells (qaa ((hk.at 4 rfl).trans rfl)) (qaa hz0) 28 p0.cells h0 (infoP.trans (by rw[Pk.csize])) rfl p.ones ⟨_,rfl,rfl,trivial,setRow_heap u r p0.cells p.cells 28 (0,0) h0⟩
  |6,hi=>
   cases hi;obtain⟨z4,hz4,rfl,_⟩:=hdep 4 _ rfl rfl;replace hz4:=hz4 _ rfl;exact (z_asg _ rfl (qaa hz4) ⟨_,rfl,rfl,rfl,trivial⟩)
  |(_+7),hi=>cases hi
 intro vs u9 hJ hG a3_ h3 hS_;have B9:=hS_ 5 (by decide);rw[if_pos rfl] at B9;clear hS_;have e6:=hG 6 (by decide);replace e6:vs 6=errV e:=e6;clear hG;replace h3:puts _ 1 _ (Fq67)=_:=h3;replace h3:puts _ 2 _ (Fq67)=_:=h3;replace h3:puts _ 3 _ (Fq67)=_:=h3;replace h3:puts _ 4 _ (Fq67)=_:=h3;replace h3:puts _ 5 _ (Fq67)=_:=h3;replace h3:puts _ 6 _ (Fq67)=_:=h3;replace h3:Fq67=_:=h3;unfold Fq67 at h3;subst h3;simp only[e6];clear e6;go_wp2_with fail
 exact qek rfl rfl rfl B9 rfl (qfd hJ hgd hv.out)
theorem parts_3 (dup:Bool) (qos:Int) (ret:Bool) (ao:Option Addr) (n cap:Nat) (l:List UInt8) (w:World) (hr:RdIn w ao n cap l) (hn:n≤1048576) :
  Calls Tryz.prog 128 #[.agg (fstP 3 dup qos ret).cells,.slice ao n cap] w fun e' w'=>Parts w w' e' (qbg (pv (fstP 3 dup qos ret) dnil) l):=by
 have HR:Hid (RdIn w ao n cap l):=hr;have hl:=hr.1.1;clear hr;have s:=start (w:=w) ao n cap (3) dup qos ret;go_enter Tryz.func128,Tryz.ntmps128
 go_upto_region 2 with (first | refine al_pk ?_ | fail)
 try simp only[World.size_alloc] at s ⊢
 generalize ((w.alloc (.cells (fstP 3 dup qos ret).cells 28)).alloc (.cells Pk.zero.cells 28)).alloc (.cells #[.slice ao n cap,.int .i64 0,.nilIface] 187)=y at *;generalize w.heap.size+1+1=q at *;generalize w.heap.size+1=r at *;generalize hb:w.heap.size=b at *;have c0:=(s.blk.cell 0).trans (Pk.c0 _);replace c0:y.cell? ⟨b,0,none⟩ = some (.int .i64 (3)):=c0;go_wp2_with fail
 refine (read_pub w y q r b ao n cap l _ dnil s HR.out hn).mono ?_;rintro er y1 ⟨rfl,ho⟩;have hv:Hid (qbg (pv (fstP 3 dup qos ret) dnil) l=iPub l (pv (fstP 3 dup qos ret) dnil)):=ip3 rfl;generalize iPub l (pv (fstP 3 dup qos ret) dnil)=v1 at *;obtain⟨v1,z,e⟩:=v1;obtain⟨p,d,s1,hp⟩:=ho;simp only at s1 hp hv;subst hp;clear s c0;have s:=s1;clear s1;have hgd:=s.gd;go_wp2;refine qbn (by kernel_rfl) rfl (J5 w q r b ao n cap z e p d) s.j5 (R5 r p) (fun i v u=>match i with
  |0=>v=.agg p.cells
  |1=>v=.pointer (some ⟨q,0,none⟩)
  |2=>v=.pointer (some ⟨q,0,none⟩)
  |3=>v=.pointer (some ⟨q,2,none⟩)
  |4=>v=errV e
  |6=>v=errV e
  |_=>True) (fun i a u=>if i=5 then Blk u r p else True) ?_ ?_ ?_ ?_ ?_
 ·intro i u u' hR hJ;unfold R5 at hR
  split at hR
  ·rw[hR];exact hJ.set s.qr s.rb s.rn
  ·rw[hR];exact hJ
 ·intro i0 i v u u' _ hx h
  match i,h with
  |0,h=>exact h
  |1,h=>exact h
  |2,h=>exact h
  |3,h=>exact h
  |4,h=>exact h
  |5,h=>exact h
  |6,h=>exact h
  |(_+7),h=>trivial
 ·intro i j o oj a v u u' hi hj hne hdj hx hS
  by_cases h5:j=5
  ·rw[if_pos h5] at hS ⊢;unfold R5 at hx;rw[if_neg (by omega)] at hx;rw[hx];exact hS
  ·rw[if_neg h5];trivial
 ·intro i o a u hi hk hJ hdep
  match i,hi with
  |0,hi=>
   cases hi;exact (qbd hJ.blk _ rfl (qaa ((hk.at 2 rfl).trans rfl)) ⟨_,rfl,rfl,rfl,trivial⟩)
  |1,hi=>
   cases hi;exact (qax _ rfl (qaa ((hk.at 6 rfl).trans rfl)) ⟨_,rfl,rfl,rfl,trivial⟩)
  |2,hi=>
   cases hi;obtain⟨z1,hz1,rfl,_⟩:=hdep 1 _ rfl rfl;replace hz1:=hz1 _ rfl;exact (z_nil _ rfl (qaa hz1) ⟨_,rfl,rfl,rfl,trivial⟩)
  |3,hi=>
   cases hi;obtain⟨z2,hz2,rfl,_⟩:=hdep 2 _ rfl rfl;replace hz2:=hz2 _ rfl;exact (z_fld (X:=⟨q,0,none⟩) (Y:=⟨q,2,none⟩) 187 _ 2 rfl (qaa hz2) (fun _=>by kernel_rfl) ⟨_,rfl,rfl,rfl,trivial⟩)
  |4,hi=>
   cases hi;obtain⟨z3,hz3,rfl,_⟩:=hdep 3 _ rfl rfl;replace hz3:=hz3 _ rfl;exact (z_ld 94 _ rfl (qaa hz3) (by kernel_rfl) (hJ.rdr.cell 2 rfl) ⟨_,rfl,rfl,rfl,trivial⟩)
  |5,hi=>
   cases hi;obtain⟨z0,hz0,rfl,_⟩:=hdep 0 _ rfl rfl;replace hz0:=hz0 _ rfl;obtain⟨p0,h0⟩:=hJ.res;exact wp_store_row 28 _ _ rfl r p.cells (qaa ((hk.at 4 rfl).trans rfl)) (qaa hz0) 28 p0.cells h0 (infoP.trans (by rw[Pk.csize])) rfl p.ones ⟨_,rfl,rfl,trivial,setRow_heap u r p0.cells p.cells 28 (0,0) h0⟩
  |6,hi=>
   cases hi;obtain⟨z4,hz4,rfl,_⟩:=hdep 4 _ rfl rfl;replace hz4:=hz4 _ rfl;exact (z_asg _ rfl (qaa hz4) ⟨_,rfl,rfl,rfl,trivial⟩)
  |(_+7),hi=>cases hi
 intro vs u9 hJ hG a3_ h3 hS_;have B9:=hS_ 5 (by decide);rw[if_pos rfl] at B9;clear hS_;have e6:=hG 6 (by decide);replace e6:vs 6=errV e:=e6;clear hG;replace h3:puts _ 1 _ (Fq67)=_:=h3;replace h3:puts _ 2 _ (Fq67)=_:=h3;replace h3:puts _ 3 _ (Fq67)=_:=h3;replace h3:puts _ 4 _ (Fq67)=_:=h3;replace h3:puts _ 5 _ (Fq67)=_:=h3;replace h3:puts _ 6 _ (Fq67)=_:=h3;replace h3:Fq67=_:=h3;unfold Fq67 at h3;subst h3;simp only[e6];clear e6;go_wp2_with fail
 exact qek rfl rfl rfl B9 rfl (qfd hJ hgd hv.out)
theorem st_rt {w y:World} {q r b:Nat} {ao:Option Addr} {n cap z:Nat} {e:Bool} {p:Pk} {d:Pd} {v:Pv×Nat×Bool} (s:Rt w y q r b ao n cap z e p d) (hv:v=(pv p d,z,e)):∃p' d' z' e',Rt w y q r b ao n cap z' e' p' d'∧Pgd 1048576 p' d'∧Hid (v=(pv p' d',z',e')):=⟨p,d,z,e,s,s.gd,hv⟩
theorem parts_2 (dup:Bool) (qos:Int) (ret:Bool) (ao:Option Addr) (n cap:Nat) (l:List UInt8) (w:World) (hr:RdIn w ao n cap l) (hn:n≤1048576) :
  Calls Tryz.prog 128 #[.agg (fstP 2 dup qos ret).cells,.slice ao n cap] w fun e' w'=>Parts w w' e' (qbg (pv (fstP 2 dup qos ret) dnil) l):=by
 have HR:Hid (RdIn w ao n cap l):=hr;have hl:=hr.1.1;clear hr;have s:=start (w:=w) ao n cap (2) dup qos ret;go_enter Tryz.func128,Tryz.ntmps128
 go_upto_region 2 with (first | refine al_pk ?_ | fail)
 try simp only[World.size_alloc] at s ⊢
 generalize ((w.alloc (.cells (fstP 2 dup qos ret).cells 28)).alloc (.cells Pk.zero.cells 28)).alloc (.cells #[.slice ao n cap,.int .i64 0,.nilIface] 187)=y at *;generalize w.heap.size+1+1=q at *;generalize w.heap.size+1=r at *;generalize hb:w.heap.size=b at *;have c0:=(s.blk.cell 0).trans (Pk.c0 _);replace c0:y.cell? ⟨b,0,none⟩ = some (.int .i64 (2)):=c0;go_wp2_with fail
 refine (qfc q ao n cap _ _ l _ s.rdr (HR.out.below s.gro) hn).mono ?_;rintro er y1 ⟨rfl,R1,g1⟩;have hz1:=rd_le gB le_B 0 l (0,false);have hs1:=rdB_lt l (0,false);generalize hk1:rd gB 0 l (0,false)=k1 at *;obtain⟨x1,z1,e1⟩:=k1;have H1:Hid (rd gB 0 l (0,false)=(x1,z1,e1)):=hk1;clear hk1;simp only at R1 hz1 hs1 ⊢;replace s:=s.read R1 g1;clear R1 g1;have c21:=(s.blk.cell 21).trans (Pk.c21 _);have f21:=Lib.frozen_of_heap s.blk 21;replace s:=s.s21 (x1==1);go_wp2_with fail
 refine (qfc q ao n cap _ _ l _ s.rdr (HR.out.below s.gro) hn).mono ?_;rintro er y2 ⟨rfl,R2,g2⟩;have hz2:=rd_le gB le_B 0 l (z1,e1);have hs2:=rdB_lt l (z1,e1);generalize hk2:rd gB 0 l (z1,e1)=k2 at *;obtain⟨x2,z2,e2⟩:=k2;have H2:Hid (rd gB 0 l (z1,e1)=(x2,z2,e2)):=hk2;clear hk2;simp only at R2 hz2 hs2 ⊢;replace s:=s.read R2 g2;clear R2 g2;have c20:=(s.blk.cell 20).trans (Pk.c20 _);have f20:=Lib.frozen_of_heap s.blk 20;replace s:=s.s20 x2;obtain⟨p,d,z,e,s,hgd,hv⟩:=st_rt s (ip2 (v:=pv (fstP 2 dup qos ret) dnil) rfl H1.out H2.out);clear c0;go_wp2;refine qbn (by kernel_rfl) rfl (J5 w q r b ao n cap z e p d) s.j5 (R5 r p) (fun i v u=>match i with
  |0=>v=.agg p.cells
  |1=>v=.pointer (some ⟨q,0,none⟩)
  |2=>v=.pointer (some ⟨q,0,none⟩)
  |3=>v=.pointer (some ⟨q,2,none⟩)
  |4=>v=errV e
  |6=>v=errV e
  |_=>True) (fun i a u=>if i=5 then Blk u r p else True) ?_ ?_ ?_ ?_ ?_
 ·intro i u u' hR hJ;unfold R5 at hR
  split at hR
  ·rw[hR];exact hJ.set s.qr s.rb s.rn
  ·rw[hR];exact hJ
 ·intro i0 i v u u' _ hx h
  match i,h with
  |0,h=>exact h
  |1,h=>exact h
  |2,h=>exact h
  |3,h=>exact h
  |4,h=>exact h
  |5,h=>exact h
  |6,h=>exact h
  |(_+7),h=>trivial
 ·intro i j o oj a v u u' hi hj hne hdj hx hS
  by_cases h5:j=5
  ·rw[if_pos h5] at hS ⊢;unfold R5 at hx;rw[if_neg (by omega)] at hx;rw[hx];exact hS
  ·rw[if_neg h5];trivial
 ·intro i o a u hi hk hJ hdep
  match i,hi with
  |0,hi=>
   cases hi;exact (qbd hJ.blk _ rfl (qaa ((hk.at 2 rfl).trans rfl)) ⟨_,rfl,rfl,rfl,trivial⟩)
  |1,hi=>
   cases hi;exact (qax _ rfl (qaa ((hk.at 6 rfl).trans rfl)) ⟨_,rfl,rfl,rfl,trivial⟩)
  |2,hi=>
   cases hi;obtain⟨z1,hz1,rfl,_⟩:=hdep 1 _ rfl rfl;replace hz1:=hz1 _ rfl;exact (z_nil _ rfl (qaa hz1) ⟨_,rfl,rfl,rfl,trivial⟩)
  |3,hi=>
   cases hi;obtain⟨z2,hz2,rfl,_⟩:=hdep 2 _ rfl rfl;replace hz2:=hz2 _ rfl;exact (z_fld (X:=⟨q,0,none⟩) (Y:=⟨q,2,none⟩) 187 _ 2 rfl (qaa hz2) (fun _=>by kernel_rfl) ⟨_,rfl,rfl,rfl,trivial⟩)
  |4,hi=>
   cases hi;obtain⟨z3,hz3,rfl,_⟩:=hdep 3 _ rfl rfl;replace hz3:=hz3 _ rfl;exact (z_ld 94 _ rfl (qaa hz3) (by kernel_rfl) (hJ.rdr.cell 2 rfl) ⟨_,rfl,rfl,rfl,trivial⟩)
  |5,hi=>
   cases hi;obtain⟨z0,hz0,rfl,_⟩:=hdep 0 _ rfl rfl;replace hz0:=hz0 _ rfl;obtain⟨p0,h0⟩:=hJ.res;exact wp_store_row 28 _ _ rfl r p.cells (qaa ((hk.at 4 rfl).trans rfl)) (qaa hz0) 28 p0.cells h0 (infoP.trans (by rw[Pk.csize])) rfl p.ones ⟨_,rfl,rfl,trivial,setRow_heap u r p0.cells p.cells 28 (0,0) h0⟩
  |6,hi=>
   cases hi;obtain⟨z4,hz4,rfl,_⟩:=hdep 4 _ rfl rfl;replace hz4:=hz4 _ rfl;exact (z_asg _ rfl (qaa hz4) ⟨_,rfl,rfl,rfl,trivial⟩)
  |(_+7),hi=>cases hi
 intro vs u9 hJ hG a3_ h3 hS_;have B9:=hS_ 5 (by decide);rw[if_pos rfl] at B9;clear hS_;have e6:=hG 6 (by decide);replace e6:vs 6=errV e:=e6;clear hG;replace h3:puts _ 1 _ (Fq67)=_:=h3;replace h3:puts _ 2 _ (Fq67)=_:=h3;replace h3:puts _ 3 _ (Fq67)=_:=h3;replace h3:puts _ 4 _ (Fq67)=_:=h3;replace h3:puts _ 5 _ (Fq67)=_:=h3;replace h3:puts _ 6 _ (Fq67)=_:=h3;replace h3:Fq67=_:=h3;unfold Fq67 at h3;subst h3;simp only[e6];clear e6;go_wp2_with fail
 exact qek rfl rfl rfl B9 rfl (qfd hJ hgd hv.out)
theorem qkq (k:Int) (hk:k=4∨k=5∨k=6∨k=7∨k=11) (dup:Bool) (qos:Int) (ret:Bool) (ao:Option Addr) (n cap:Nat) (l:List UInt8) (w:World) (hr:RdIn w ao n cap l) (hn:n≤1048576) :
  Calls Tryz.prog 128 #[.agg (fstP k dup qos ret).cells,.slice ao n cap] w fun e' w'=>Parts w w' e' (qbg (pv (fstP k dup qos ret) dnil) l):=by
 have HR:Hid (RdIn w ao n cap l):=hr;have hl:=hr.1.1;clear hr;have s:=start (w:=w) ao n cap k dup qos ret;go_enter Tryz.func128,Tryz.ntmps128
 go_upto_region 2 with (first | refine al_pk ?_ | fail)
 try simp only[World.size_alloc] at s ⊢
 generalize ((w.alloc (.cells (fstP k dup qos ret).cells 28)).alloc (.cells Pk.zero.cells 28)).alloc (.cells #[.slice ao n cap,.int .i64 0,.nilIface] 187)=y at *;generalize w.heap.size+1+1=q at *;generalize w.heap.size+1=r at *;generalize hb:w.heap.size=b at *;have c0:=(s.blk.cell 0).trans (Pk.c0 _);replace c0:y.cell? ⟨b,0,none⟩ = some (.int .i64 k):=c0;have ht:=hk
 rcases hk with h | h | h | h | h
 all_goals
  rw[h] at c0;clear h;go_wp2_with fail
  refine (qdw q ao n cap _ _ l _ s.rdr (HR.out.below s.gro) hn).mono ?_;rintro er y1 ⟨rfl,R1,g1⟩;have hz1:=rd_le gW le_W 0 l (0,false);generalize hk1:rd gW 0 l (0,false)=k1 at *;obtain⟨x1,z1,e1⟩:=k1;have H1:Hid (rd gW 0 l (0,false)=(x1,z1,e1)):=hk1;clear hk1;simp only at R1 hz1 ⊢;replace s:=s.read R1 g1;clear R1 g1;have c4:=(s.blk.cell 4).trans (Pk.c4 _);have f4:=Lib.frozen_of_heap s.blk 4;replace s:=s.s4 x1;obtain⟨p,d,z,e,s,hgd,hv⟩:=st_rt s (ipI (v:=pv (fstP k dup qos ret) dnil) ht H1.out);clear c0;go_wp2;refine qbn (by kernel_rfl) rfl (J5 w q r b ao n cap z e p d) s.j5 (R5 r p) (fun i v u=>match i with
   |0=>v=.agg p.cells
   |1=>v=.pointer (some ⟨q,0,none⟩)
   |2=>v=.pointer (some ⟨q,0,none⟩)
   |3=>v=.pointer (some ⟨q,2,none⟩)
   |4=>v=errV e
   |6=>v=errV e
   |_=>True) (fun i a u=>if i=5 then Blk u r p else True) ?_ ?_ ?_ ?_ ?_
  ·intro i u u' hR hJ;unfold R5 at hR
   split at hR
   ·rw[hR];exact hJ.set s.qr s.rb s.rn
   ·rw[hR];exact hJ
  ·intro i0 i v u u' _ hx h
   match i,h with
   |0,h=>exact h
   |1,h=>exact h
   |2,h=>exact h
   |3,h=>exact h
   |4,h=>exact h
   |5,h=>exact h
   |6,h=>exact h
   |(_+7),h=>trivial
  ·intro i j o oj a v u u' hi hj hne hdj hx hS
   by_cases h5:j=5
   ·rw[if_pos h5] at hS ⊢;unfold R5 at hx;rw[if_neg (by omega)] at hx;rw[hx];exact hS
   ·rw[if_neg h5];trivial
  ·intro i o a u hi hk hJ hdep
   match i,hi with
   |0,hi=>
    cases hi;exact (qbd hJ.blk _ rfl (qaa ((hk.at 2 rfl).trans rfl)) ⟨_,rfl,rfl,rfl,trivial⟩)
   |1,hi=>
    cases hi;exact (qax _ rfl (qaa ((hk.at 6 rfl).trans rfl)) ⟨_,rfl,rfl,rfl,trivial⟩)
   |2,hi=>
    cases hi;obtain⟨z1,hz1,rfl,_⟩:=hdep 1 _ rfl rfl;replace hz1:=hz1 _ rfl;exact (z_nil _ rfl (qaa hz1) ⟨_,rfl,rfl,rfl,trivial⟩)
   |3,hi=>
    cases hi;obtain⟨z2,hz2,rfl,_⟩:=hdep 2 _ rfl rfl;replace hz2:=hz2 _ rfl;exact (z_fld (X:=⟨q,0,none⟩) (Y:=⟨q,2,none⟩) 187 _ 2 rfl (qaa hz2) (fun _=>by kernel_rfl) ⟨_,rfl,rfl,rfl,trivial⟩)
   |4,hi=>
    cases hi;obtain⟨z3,hz3,rfl,_⟩:=hdep 3 _ rfl rfl;replace hz3:=hz3 _ rfl;exact (z_ld 94 _ rfl (qaa hz3) (by kernel_rfl) (hJ.rdr.cell 2 rfl) ⟨_,rfl,rfl,rfl,trivial⟩)
   |5,hi=>
    cases hi;obtain⟨z0,hz0,rfl,_⟩:=hdep 0 _ rfl rfl;replace hz0:=hz0 _ rfl;obtain⟨p0,h0⟩:=hJ.res;exact wp_store_row 28 _ _ rfl r p.cells (qaa ((hk.at 4 rfl).trans rfl)) (qaa hz0) 28 p0.cells h0 (infoP.trans (by rw[Pk.csize])) rfl p.ones ⟨_,rfl,rfl,trivial,setRow_heap u r p0.cells p.cells 28 (0,0) h0⟩
   |6,hi=>
    cases hi;obtain⟨z4,hz4,rfl,_⟩:=hdep 4 _ rfl rfl;replace hz4:=hz4 _ rfl;exact (z_asg _ rfl (qaa hz4) ⟨_,rfl,rfl,rfl,trivial⟩)
   |(_+7),hi=>cases hi
  intro vs u9 hJ hG a3_ h3 hS_;have B9:=hS_ 5 (by decide);rw[if_pos rfl] at B9;clear hS_;have e6:=hG 6 (by decide);replace e6:vs 6=errV e:=e6;clear hG;replace h3:puts _ 1 _ (Fq67)=_:=h3;replace h3:puts _ 2 _ (Fq67)=_:=h3;replace h3:puts _ 3 _ (Fq67)=_:=h3;replace h3:puts _ 4 _ (Fq67)=_:=h3;replace h3:puts _ 5 _ (Fq67)=_:=h3;replace h3:puts _ 6 _ (Fq67)=_:=h3;replace h3:Fq67=_:=h3;unfold Fq67 at h3;subst h3;simp only[e6];clear e6;go_wp2_with fail
  exact qek rfl rfl rfl B9 rfl (qfd hJ hgd hv.out)
theorem parts_8 (dup:Bool) (qos:Int) (ret:Bool) (ao:Option Addr) (n cap:Nat) (l:List UInt8) (w:World) (hr:RdIn w ao n cap l) (hn:n≤1048576) :
  Calls Tryz.prog 128 #[.agg (fstP 8 dup qos ret).cells,.slice ao n cap] w fun e' w'=>Parts w w' e' (qbg (pv (fstP 8 dup qos ret) dnil) l):=by
 have HR:Hid (RdIn w ao n cap l):=hr;have hl:=hr.1.1;clear hr;have s:=start (w:=w) ao n cap (8) dup qos ret;go_enter Tryz.func128,Tryz.ntmps128
 go_upto_region 2 with (first | refine al_pk ?_ | fail)
 try simp only[World.size_alloc] at s ⊢
 generalize ((w.alloc (.cells (fstP 8 dup qos ret).cells 28)).alloc (.cells Pk.zero.cells 28)).alloc (.cells #[.slice ao n cap,.int .i64 0,.nilIface] 187)=y at *;generalize w.heap.size+1+1=q at *;generalize w.heap.size+1=r at *;generalize hb:w.heap.size=b at *;have c0:=(s.blk.cell 0).trans (Pk.c0 _);replace c0:y.cell? ⟨b,0,none⟩ = some (.int .i64 (8)):=c0;go_wp2_with fail
 refine (qdw q ao n cap _ _ l _ s.rdr (HR.out.below s.gro) hn).mono ?_;rintro er y1 ⟨rfl,R1,g1⟩;have hz1:=rd_le gW le_W 0 l (0,false);generalize hk1:rd gW 0 l (0,false)=k1 at *;obtain⟨x1,z1,e1⟩:=k1;have H1:Hid (rd gW 0 l (0,false)=(x1,z1,e1)):=hk1;clear hk1;simp only at R1 hz1 ⊢;replace s:=s.read R1 g1;clear R1 g1;have c4:=(s.blk.cell 4).trans (Pk.c4 _);have f4:=Lib.frozen_of_heap s.blk 4;replace s:=s.s4 x1;go_wp2_with fail
 refine (qsi q ao n cap _ _ l _ s.rdr (HR.out.below s.gro) hn (by omega)).mono ?_;rintro er y2 ⟨a2,c2,rfl,O2,R2,g2⟩;have hN:=rdL_le gN (ByteArray.empty,0) l n (z1,e1);have hX:=rdL_all (fun x=>x.1.size≤61) gN (ByteArray.empty,0) l (rdN_size l) n (z1,e1);generalize hk2:rdL gN (ByteArray.empty,0) l n (z1,e1)=k2 at *;obtain⟨x2,z2,e2⟩:=k2;have H2:Hid (rdL gN (ByteArray.empty,0) l l.length (z1,e1)=(x2,z2,e2)):=by unfold Hid;rw[hl];exact hk2
 clear hk2;simp only at O2 R2 hN hX ⊢;have s_:=s.read R2 g2;have c22:=(s_.blk.cell 22).trans (Pk.c22 _);have f22:=Lib.frozen_of_heap s_.blk 22;replace s:=s.n22 R2 g2 O2 (by omega) hX;clear R2 g2 O2 s_;obtain⟨p,d,z,e,s,hgd,hv⟩:=st_rt s (ip8 (v:=pv (fstP 8 dup qos ret) dnil) rfl H1.out H2.out);clear c0;go_wp2;refine qbn (by kernel_rfl) rfl (J5 w q r b ao n cap z e p d) s.j5 (R5 r p) (fun i v u=>match i with
  |0=>v=.agg p.cells
  |1=>v=.pointer (some ⟨q,0,none⟩)
  |2=>v=.pointer (some ⟨q,0,none⟩)
  |3=>v=.pointer (some ⟨q,2,none⟩)
  |4=>v=errV e
  |6=>v=errV e
  |_=>True) (fun i a u=>if i=5 then Blk u r p else True) ?_ ?_ ?_ ?_ ?_
 ·intro i u u' hR hJ;unfold R5 at hR
  split at hR
  ·rw[hR];exact hJ.set s.qr s.rb s.rn
  ·rw[hR];exact hJ
 ·intro i0 i v u u' _ hx h
  match i,h with
  |0,h=>exact h
  |1,h=>exact h
  |2,h=>exact h
  |3,h=>exact h
  |4,h=>exact h
  |5,h=>exact h
  |6,h=>exact h
  |(_+7),h=>trivial
 ·intro i j o oj a v u u' hi hj hne hdj hx hS
  by_cases h5:j=5
  ·rw[if_pos h5] at hS ⊢;unfold R5 at hx;rw[if_neg (by omega)] at hx;rw[hx];exact hS
  ·rw[if_neg h5];trivial
 ·intro i o a u hi hk hJ hdep
  match i,hi with
  |0,hi=>
   cases hi;exact (qbd hJ.blk _ rfl (qaa ((hk.at 2 rfl).trans rfl)) ⟨_,rfl,rfl,rfl,trivial⟩)
  |1,hi=>
   cases hi;exact (qax _ rfl (qaa ((hk.at 6 rfl).trans rfl)) ⟨_,rfl,rfl,rfl,trivial⟩)
  |2,hi=>
   cases hi;obtain⟨z1,hz1,rfl,_⟩:=hdep 1 _ rfl rfl;replace hz1:=hz1 _ rfl;exact (z_nil _ rfl (qaa hz1) ⟨_,rfl,rfl,rfl,trivial⟩)
  |3,hi=>
   cases hi;obtain⟨z2,hz2,rfl,_⟩:=hdep 2 _ rfl rfl;replace hz2:=hz2 _ rfl;exact (z_fld (X:=⟨q,0,none⟩) (Y:=⟨q,2,none⟩) 187 _ 2 rfl (qaa hz2) (fun _=>by kernel_rfl) ⟨_,rfl,rfl,rfl,trivial⟩)
  |4,hi=>
   cases hi;obtain⟨z3,hz3,rfl,_⟩:=hdep 3 _ rfl rfl;replace hz3:=hz3 _ rfl;exact (z_ld 94 _ rfl (qaa hz3) (by kernel_rfl) (hJ.rdr.cell 2 rfl) ⟨_,rfl,rfl,rfl,trivial⟩)
  |5,hi=>
   cases hi;obtain⟨z0,hz0,rfl,_⟩:=hdep 0 _ rfl rfl;replace hz0:=hz0 _ rfl;obtain⟨p0,h0⟩:=hJ.res;exact wp_store_row 28 _ _ rfl r p.cells (qaa ((hk.at 4 rfl).trans rfl)) (qaa hz0) 28 p0.cells h0 (infoP.trans (by rw[Pk.csize])) rfl p.ones ⟨_,rfl,rfl,trivial,setRow_heap u r p0.cells p.cells 28 (0,0) h0⟩
  |6,hi=>
   cases hi;obtain⟨z4,hz4,rfl,_⟩:=hdep 4 _ rfl rfl;replace hz4:=hz4 _ rfl;exact (z_asg _ rfl (qaa hz4) ⟨_,rfl,rfl,rfl,trivial⟩)
  |(_+7),hi=>cases hi
 intro vs u9 hJ hG a3_ h3 hS_;have B9:=hS_ 5 (by decide);rw[if_pos rfl] at B9;clear hS_;have e6:=hG 6 (by decide);replace e6:vs 6=errV e:=e6;clear hG;replace h3:puts _ 1 _ (Fq67)=_:=h3;replace h3:puts _ 2 _ (Fq67)=_:=h3;replace h3:puts _ 3 _ (Fq67)=_:=h3;replace h3:puts _ 4 _ (Fq67)=_:=h3;replace h3:puts _ 5 _ (Fq67)=_:=h3;replace h3:puts _ 6 _ (Fq67)=_:=h3;replace h3:Fq67=_:=h3;unfold Fq67 at h3;subst h3;simp only[e6];clear e6;go_wp2_with fail
 exact qek rfl rfl rfl B9 rfl (qfd hJ hgd hv.out)
theorem parts_9 (dup:Bool) (qos:Int) (ret:Bool) (ao:Option Addr) (n cap:Nat) (l:List UInt8) (w:World) (hr:RdIn w ao n cap l) (hn:n≤1048576) :
  Calls Tryz.prog 128 #[.agg (fstP 9 dup qos ret).cells,.slice ao n cap] w fun e' w'=>Parts w w' e' (qbg (pv (fstP 9 dup qos ret) dnil) l):=by
 have HR:Hid (RdIn w ao n cap l):=hr;have hl:=hr.1.1;clear hr;have s:=start (w:=w) ao n cap (9) dup qos ret;go_enter Tryz.func128,Tryz.ntmps128
 go_upto_region 2 with (first | refine al_pk ?_ | fail)
 try simp only[World.size_alloc] at s ⊢
 generalize ((w.alloc (.cells (fstP 9 dup qos ret).cells 28)).alloc (.cells Pk.zero.cells 28)).alloc (.cells #[.slice ao n cap,.int .i64 0,.nilIface] 187)=y at *;generalize w.heap.size+1+1=q at *;generalize w.heap.size+1=r at *;generalize hb:w.heap.size=b at *;have c0:=(s.blk.cell 0).trans (Pk.c0 _);replace c0:y.cell? ⟨b,0,none⟩ = some (.int .i64 (9)):=c0;go_wp2_with fail
 refine (qdw q ao n cap _ _ l _ s.rdr (HR.out.below s.gro) hn).mono ?_;rintro er y1 ⟨rfl,R1,g1⟩;have hz1:=rd_le gW le_W 0 l (0,false);generalize hk1:rd gW 0 l (0,false)=k1 at *;obtain⟨x1,z1,e1⟩:=k1;have H1:Hid (rd gW 0 l (0,false)=(x1,z1,e1)):=hk1;clear hk1;simp only at R1 hz1 ⊢;replace s:=s.read R1 g1;clear R1 g1;have c4:=(s.blk.cell 4).trans (Pk.c4 _);have f4:=Lib.frozen_of_heap s.blk 4;replace s:=s.s4 x1;go_wp2_with fail
 refine (qsh q ao n cap _ _ l _ s.rdr (HR.out.below s.gro) hn (by omega)).mono ?_;rintro er y2 ⟨a2,c2,rfl,O2,R2,g2⟩;have hN:=rdL_le gB 0 l n (z1,e1);generalize hk2:rdL gB 0 l n (z1,e1)=k2 at *;obtain⟨x2,z2,e2⟩:=k2;have H2:Hid (rdL gB 0 l l.length (z1,e1)=(x2,z2,e2)):=by unfold Hid;rw[hl];exact hk2
 clear hk2;simp only at O2 R2 hN ⊢;have s_:=s.read R2 g2;have c24:=(s_.blk.cell 24).trans (Pk.c24 _);have f24:=Lib.frozen_of_heap s_.blk 24;replace s:=s.n24 R2 g2 O2 (by omega);clear R2 g2 O2 s_;obtain⟨p,d,z,e,s,hgd,hv⟩:=st_rt s (ip9 (v:=pv (fstP 9 dup qos ret) dnil) rfl H1.out H2.out);clear c0;go_wp2;refine qbn (by kernel_rfl) rfl (J5 w q r b ao n cap z e p d) s.j5 (R5 r p) (fun i v u=>match i with
  |0=>v=.agg p.cells
  |1=>v=.pointer (some ⟨q,0,none⟩)
  |2=>v=.pointer (some ⟨q,0,none⟩)
  |3=>v=.pointer (some ⟨q,2,none⟩)
  |4=>v=errV e
  |6=>v=errV e
  |_=>True) (fun i a u=>if i=5 then Blk u r p else True) ?_ ?_ ?_ ?_ ?_
 ·intro i u u' hR hJ;unfold R5 at hR
  split at hR
  ·rw[hR];exact hJ.set s.qr s.rb s.rn
  ·rw[hR];exact hJ
 ·intro i0 i v u u' _ hx h
  match i,h with
  |0,h=>exact h
  |1,h=>exact h
  |2,h=>exact h
  |3,h=>exact h
  |4,h=>exact h
  |5,h=>exact h
  |6,h=>exact h
  |(_+7),h=>trivial
 ·intro i j o oj a v u u' hi hj hne hdj hx hS
  by_cases h5:j=5
  ·rw[if_pos h5] at hS ⊢;unfold R5 at hx;rw[if_neg (by omega)] at hx;rw[hx];exact hS
  ·rw[if_neg h5];trivial
 ·intro i o a u hi hk hJ hdep
  match i,hi with
  |0,hi=>
   cases hi;exact (qbd hJ.blk _ rfl (qaa ((hk.at 2 rfl).trans rfl)) ⟨_,rfl,rfl,rfl,trivial⟩)
  |1,hi=>
   cases hi;exact (qax _ rfl (qaa ((hk.at 6 rfl).trans rfl)) ⟨_,rfl,rfl,rfl,trivial⟩)
  |2,hi=>
   cases hi;obtain⟨z1,hz1,rfl,_⟩:=hdep 1 _ rfl rfl;replace hz1:=hz1 _ rfl;exact (z_nil _ rfl (qaa hz1) ⟨_,rfl,rfl,rfl,trivial⟩)
  |3,hi=>
   cases hi;obtain⟨z2,hz2,rfl,_⟩:=hdep 2 _ rfl rfl;replace hz2:=hz2 _ rfl;exact (z_fld (X:=⟨q,0,none⟩) (Y:=⟨q,2,none⟩) 187 _ 2 rfl (qaa hz2) (fun _=>by kernel_rfl) ⟨_,rfl,rfl,rfl,trivial⟩)
  |4,hi=>
   cases hi;obtain⟨z3,hz3,rfl,_⟩:=hdep 3 _ rfl rfl;replace hz3:=hz3 _ rfl;exact (z_ld 94 _ rfl (qaa hz3) (by kernel_rfl) (hJ.rdr.cell 2 rfl) ⟨_,rfl,rfl,rfl,trivial⟩)
  |5,hi=>
   cases hi;obtain⟨z0,hz0,rfl,_⟩:=hdep 0 _ rfl rfl;replace hz0:=hz0 _ rfl;obtain⟨p0,h0⟩:=hJ.res;exact wp_store_row 28 _ _ rfl r p.cells (qaa ((hk.at 4 rfl).trans rfl)) (qaa hz0) 28 p0.cells h0 (infoP.trans (by rw[Pk.csize])) rfl p.ones ⟨_,rfl,rfl,trivial,setRow_heap u r p0.cells p.cells 28 (0,0) h0⟩
  |6,hi=>
   cases hi;obtain⟨z4,hz4,rfl,_⟩:=hdep 4 _ rfl rfl;replace hz4:=hz4 _ rfl;exact (z_asg _ rfl (qaa hz4) ⟨_,rfl,rfl,rfl,trivial⟩)
  |(_+7),hi=>cases hi
 intro vs u9 hJ hG a3_ h3 hS_;have B9:=hS_ 5 (by decide);rw[if_pos rfl] at B9;clear hS_;have e6:=hG 6 (by decide);replace e6:vs 6=errV e:=e6;clear hG;replace h3:puts _ 1 _ (Fq67)=_:=h3;replace h3:puts _ 2 _ (Fq67)=_:=h3;replace h3:puts _ 3 _ (Fq67)=_:=h3;replace h3:puts _ 4 _ (Fq67)=_:=h3;replace h3:puts _ 5 _ (Fq67)=_:=h3;replace h3:puts _ 6 _ (Fq67)=_:=h3;replace h3:Fq67=_:=h3;unfold Fq67 at h3;subst h3;simp only[e6];clear e6;go_wp2_with fail
 exact qek rfl rfl rfl B9 rfl (qfd hJ hgd hv.out)
theorem parts_10 (dup:Bool) (qos:Int) (ret:Bool) (ao:Option Addr) (n cap:Nat) (l:List UInt8) (w:World) (hr:RdIn w ao n cap l) (hn:n≤1048576) :
  Calls Tryz.prog 128 #[.agg (fstP 10 dup qos ret).cells,.slice ao n cap] w fun e' w'=>Parts w w' e' (qbg (pv (fstP 10 dup qos ret) dnil) l):=by
 have HR:Hid (RdIn w ao n cap l):=hr;have hl:=hr.1.1;clear hr;have s:=start (w:=w) ao n cap (10) dup qos ret;go_enter Tryz.func128,Tryz.ntmps128
 go_upto_region 2 with (first | refine al_pk ?_ | fail)
 try simp only[World.size_alloc] at s ⊢
 generalize ((w.alloc (.cells (fstP 10 dup qos ret).cells 28)).alloc (.cells Pk.zero.cells 28)).alloc (.cells #[.slice ao n cap,.int .i64 0,.nilIface] 187)=y at *;generalize w.heap.size+1+1=q at *;generalize w.heap.size+1=r at *;generalize hb:w.heap.size=b at *;have c0:=(s.blk.cell 0).trans (Pk.c0 _);replace c0:y.cell? ⟨b,0,none⟩ = some (.int .i64 (10)):=c0;go_wp2_with fail
 refine (qdw q ao n cap _ _ l _ s.rdr (HR.out.below s.gro) hn).mono ?_;rintro er y1 ⟨rfl,R1,g1⟩;have hz1:=rd_le gW le_W 0 l (0,false);generalize hk1:rd gW 0 l (0,false)=k1 at *;obtain⟨x1,z1,e1⟩:=k1;have H1:Hid (rd gW 0 l (0,false)=(x1,z1,e1)):=hk1;clear hk1;simp only at R1 hz1 ⊢;replace s:=s.read R1 g1;clear R1 g1;have c4:=(s.blk.cell 4).trans (Pk.c4 _);have f4:=Lib.frozen_of_heap s.blk 4;replace s:=s.s4 x1;go_wp2_with fail
 refine (qsg q ao n cap _ _ l _ s.rdr (HR.out.below s.gro) hn (by omega)).mono ?_;rintro er y2 ⟨a2,c2,rfl,O2,R2,g2⟩;have hN:=rdL_le gT ByteArray.empty l n (z1,e1);have hX:=rdL_all (fun x=>x.size≤61) gT ByteArray.empty l (fun s=>qhu l s.1 s.2) n (z1,e1);generalize hk2:rdL gT ByteArray.empty l n (z1,e1)=k2 at *;obtain⟨x2,z2,e2⟩:=k2;have H2:Hid (rdL gT ByteArray.empty l l.length (z1,e1)=(x2,z2,e2)):=by unfold Hid;rw[hl];exact hk2
 clear hk2;simp only at O2 R2 hN hX ⊢;have s_:=s.read R2 g2;have c23:=(s_.blk.cell 23).trans (Pk.c23 _);have f23:=Lib.frozen_of_heap s_.blk 23;replace s:=s.n23 R2 g2 O2 (by omega) hX;clear R2 g2 O2 s_;obtain⟨p,d,z,e,s,hgd,hv⟩:=st_rt s (ip10 (v:=pv (fstP 10 dup qos ret) dnil) rfl H1.out H2.out);clear c0;go_wp2;refine qbn (by kernel_rfl) rfl (J5 w q r b ao n cap z e p d) s.j5 (R5 r p) (fun i v u=>match i with
  |0=>v=.agg p.cells
  |1=>v=.pointer (some ⟨q,0,none⟩)
  |2=>v=.pointer (some ⟨q,0,none⟩)
  |3=>v=.pointer (some ⟨q,2,none⟩)
  |4=>v=errV e
  |6=>v=errV e
  |_=>True) (fun i a u=>if i=5 then Blk u r p else True) ?_ ?_ ?_ ?_ ?_
 ·intro i u u' hR hJ;unfold R5 at hR
  split at hR
  ·rw[hR];exact hJ.set s.qr s.rb s.rn
  ·rw[hR];exact hJ
 ·intro i0 i v u u' _ hx h
  match i,h with
  |0,h=>exact h
  |1,h=>exact h
  |2,h=>exact h
  |3,h=>exact h
  |4,h=>exact h
  |5,h=>exact h
  |6,h=>exact h
  |(_+7),h=>trivial
 ·intro i j o oj a v u u' hi hj hne hdj hx hS
  by_cases h5:j=5
  ·rw[if_pos h5] at hS ⊢;unfold R5 at hx;rw[if_neg (by omega)] at hx;rw[hx];exact hS
  ·rw[if_neg h5];trivial
 ·intro i o a u hi hk hJ hdep
  match i,hi with
  |0,hi=>
   cases hi;exact (qbd hJ.blk _ rfl (qaa ((hk.at 2 rfl).trans rfl)) ⟨_,rfl,rfl,rfl,trivial⟩)
  |1,hi=>
   cases hi;exact (qax _ rfl (qaa ((hk.at 6 rfl).trans rfl)) ⟨_,rfl,rfl,rfl,trivial⟩)
  |2,hi=>
   cases hi;obtain⟨z1,hz1,rfl,_⟩:=hdep 1 _ rfl rfl;replace hz1:=hz1 _ rfl;exact (z_nil _ rfl (qaa hz1) ⟨_,rfl,rfl,rfl,trivial⟩)
  |3,hi=>
   cases hi;obtain⟨z2,hz2,rfl,_⟩:=hdep 2 _ rfl rfl;replace hz2:=hz2 _ rfl;exact (z_fld (X:=⟨q,0,none⟩) (Y:=⟨q,2,none⟩) 187 _ 2 rfl (qaa hz2) (fun _=>by kernel_rfl) ⟨_,rfl,rfl,rfl,trivial⟩)
  |4,hi=>
   cases hi;obtain⟨z3,hz3,rfl,_⟩:=hdep 3 _ rfl rfl;replace hz3:=hz3 _ rfl;exact (z_ld 94 _ rfl (qaa hz3) (by kernel_rfl) (hJ.rdr.cell 2 rfl) ⟨_,rfl,rfl,rfl,trivial⟩)
  |5,hi=>
   cases hi;obtain⟨z0,hz0,rfl,_⟩:=hdep 0 _ rfl rfl;replace hz0:=hz0 _ rfl;obtain⟨p0,h0⟩:=hJ.res;exact wp_store_row 28 _ _ rfl r p.cells (qaa ((hk.at 4 rfl).trans rfl)) (qaa hz0) 28 p0.cells h0 (infoP.trans (by rw[Pk.csize])) rfl p.ones ⟨_,rfl,rfl,trivial,setRow_heap u r p0.cells p.cells 28 (0,0) h0⟩
  |6,hi=>
   cases hi;obtain⟨z4,hz4,rfl,_⟩:=hdep 4 _ rfl rfl;replace hz4:=hz4 _ rfl;exact (z_asg _ rfl (qaa hz4) ⟨_,rfl,rfl,rfl,trivial⟩)
  |(_+7),hi=>cases hi
 intro vs u9 hJ hG a3_ h3 hS_;have B9:=hS_ 5 (by decide);rw[if_pos rfl] at B9;clear hS_;have e6:=hG 6 (by decide);replace e6:vs 6=errV e:=e6;clear hG;replace h3:puts _ 1 _ (Fq67)=_:=h3;replace h3:puts _ 2 _ (Fq67)=_:=h3;replace h3:puts _ 3 _ (Fq67)=_:=h3;replace h3:puts _ 4 _ (Fq67)=_:=h3;replace h3:puts _ 5 _ (Fq67)=_:=h3;replace h3:puts _ 6 _ (Fq67)=_:=h3;replace h3:Fq67=_:=h3;unfold Fq67 at h3;subst h3;simp only[e6];clear e6;go_wp2_with fail
 exact qek rfl rfl rfl B9 rfl (qfd hJ hgd hv.out)
theorem qrb (k:Int) (hk:k=12∨k=13∨k=14) (dup:Bool) (qos:Int) (ret:Bool) (ao:Option Addr) (n cap:Nat) (l:List UInt8) (w:World) (hr:RdIn w ao n cap l) (hn:n≤1048576) :
  Calls Tryz.prog 128 #[.agg (fstP k dup qos ret).cells,.slice ao n cap] w fun e' w'=>Parts w w' e' (qbg (pv (fstP k dup qos ret) dnil) l):=by
 have HR:Hid (RdIn w ao n cap l):=hr;have hl:=hr.1.1;clear hr;have s:=start (w:=w) ao n cap k dup qos ret;go_enter Tryz.func128,Tryz.ntmps128
 go_upto_region 2 with (first | refine al_pk ?_ | fail)
 try simp only[World.size_alloc] at s ⊢
 generalize ((w.alloc (.cells (fstP k dup qos ret).cells 28)).alloc (.cells Pk.zero.cells 28)).alloc (.cells #[.slice ao n cap,.int .i64 0,.nilIface] 187)=y at *;generalize w.heap.size+1+1=q at *;generalize w.heap.size+1=r at *;generalize hb:w.heap.size=b at *;have c0:=(s.blk.cell 0).trans (Pk.c0 _);replace c0:y.cell? ⟨b,0,none⟩ = some (.int .i64 k):=c0;have ht:=hk
 rcases hk with h | h | h
 all_goals
  rw[h] at c0;clear h;go_wp2;obtain⟨p,d,z,e,s,hgd,hv⟩:=st_rt s (ipN (v:=pv (fstP k dup qos ret) dnil) ht);refine qbn (by kernel_rfl) rfl (J5 w q r b ao n cap z e p d) s.j5 (R5 r p) (fun i v u=>match i with
   |0=>v=.agg p.cells
   |1=>v=.pointer (some ⟨q,0,none⟩)
   |2=>v=.pointer (some ⟨q,0,none⟩)
   |3=>v=.pointer (some ⟨q,2,none⟩)
   |4=>v=errV e
   |6=>v=errV e
   |_=>True) (fun i a u=>if i=5 then Blk u r p else True) ?_ ?_ ?_ ?_ ?_
  ·intro i u u' hR hJ;unfold R5 at hR
   split at hR
   ·rw[hR];exact hJ.set s.qr s.rb s.rn
   ·rw[hR];exact hJ
  ·intro i0 i v u u' _ hx h
   match i,h with
   |0,h=>exact h
   |1,h=>exact h
   |2,h=>exact h
   |3,h=>exact h
   |4,h=>exact h
   |5,h=>exact h
   |6,h=>exact h
   |(_+7),h=>trivial
  ·intro i j o oj a v u u' hi hj hne hdj hx hS
   by_cases h5:j=5
   ·rw[if_pos h5] at hS ⊢;unfold R5 at hx;rw[if_neg (by omega)] at hx;rw[hx];exact hS
   ·rw[if_neg h5];trivial
  ·intro i o a u hi hk hJ hdep
   match i,hi with
   |0,hi=>
    cases hi;exact (qbd hJ.blk _ rfl (qaa ((hk.at 2 rfl).trans rfl)) ⟨_,rfl,rfl,rfl,trivial⟩)
   |1,hi=>
    cases hi;exact (qax _ rfl (qaa ((hk.at 6 rfl).trans rfl)) ⟨_,rfl,rfl,rfl,trivial⟩)
   |2,hi=>
    cases hi;obtain⟨z1,hz1,rfl,_⟩:=hdep 1 _ rfl rfl;replace hz1:=hz1 _ rfl;exact (z_nil _ rfl (qaa hz1) ⟨_,rfl,rfl,rfl,trivial⟩)
   |3,hi=>
    cases hi;obtain⟨z2,hz2,rfl,_⟩:=hdep 2 _ rfl rfl;replace hz2:=hz2 _ rfl;exact (z_fld (X:=⟨q,0,none⟩) (Y:=⟨q,2,none⟩) 187 _ 2 rfl (qaa hz2) (fun _=>by kernel_rfl) ⟨_,rfl,rfl,rfl,trivial⟩)
   |4,hi=>
    cases hi;obtain⟨z3,hz3,rfl,_⟩:=hdep 3 _ rfl rfl;replace hz3:=hz3 _ rfl;exact (z_ld 94 _ rfl (qaa hz3) (by kernel_rfl) (hJ.rdr.cell 2 rfl) ⟨_,rfl,rfl,rfl,trivial⟩)
   |5,hi=>
    cases hi;obtain⟨z0,hz0,rfl,_⟩:=hdep 0 _ rfl rfl;replace hz0:=hz0 _ rfl;obtain⟨p0,h0⟩:=hJ.res;exact wp_store_row 28 _ _ rfl r p.cells (qaa ((hk.at 4 rfl).trans rfl)) (qaa hz0) 28 p0.cells h0 (infoP.trans (by rw[Pk.csize])) rfl p.ones ⟨_,rfl,rfl,trivial,setRow_heap u r p0.cells p.cells 28 (0,0) h0⟩
   |6,hi=>
    cases hi;obtain⟨z4,hz4,rfl,_⟩:=hdep 4 _ rfl rfl;replace hz4:=hz4 _ rfl;exact (z_asg _ rfl (qaa hz4) ⟨_,rfl,rfl,rfl,trivial⟩)
   |(_+7),hi=>cases hi
  intro vs u9 hJ hG a3_ h3 hS_;have B9:=hS_ 5 (by decide);rw[if_pos rfl] at B9;clear hS_;have e6:=hG 6 (by decide);replace e6:vs 6=errV e:=e6;clear hG;replace h3:puts _ 1 _ (Fq67)=_:=h3;replace h3:puts _ 2 _ (Fq67)=_:=h3;replace h3:puts _ 3 _ (Fq67)=_:=h3;replace h3:puts _ 4 _ (Fq67)=_:=h3;replace h3:puts _ 5 _ (Fq67)=_:=h3;replace h3:puts _ 6 _ (Fq67)=_:=h3;replace h3:Fq67=_:=h3;unfold Fq67 at h3;subst h3;simp only[e6];clear e6;go_wp2_with fail
  exact qek rfl rfl rfl B9 rfl (qfd hJ hgd hv.out)
theorem parts_i (ty:Int) (hty:1≤ty∧ty≤14) (dup:Bool) (qos:Int) (ret:Bool) (ao:Option Addr) (n cap:Nat) (l:List UInt8) (w:World) (hr:RdIn w ao n cap l) (hn:n≤1048576) :
  Calls Tryz.prog 128 #[.agg (fstP ty dup qos ret).cells,.slice ao n cap] w fun e' w'=>Parts w w' e' (qbg (pv (fstP ty dup qos ret) dnil) l):=by
 have h14:ty=1∨ty=2∨ty=3∨ty=4∨ty=5∨ty=6∨ty=7∨ty=8∨ty=9∨ty=10∨ty=11∨ty=12∨ty=13∨ty=14:=by omega
 rcases h14 with rfl | rfl | rfl | rfl | rfl | rfl | rfl | rfl | rfl | rfl | rfl | rfl | rfl | rfl
 ·exact parts_1 dup qos ret ao n cap l w hr hn
 ·exact parts_2 dup qos ret ao n cap l w hr hn
 ·exact parts_3 dup qos ret ao n cap l w hr hn
 ·exact qkq 4 (by decide) dup qos ret ao n cap l w hr hn
 ·exact qkq 5 (by decide) dup qos ret ao n cap l w hr hn
 ·exact qkq 6 (by decide) dup qos ret ao n cap l w hr hn
 ·exact qkq 7 (by decide) dup qos ret ao n cap l w hr hn
 ·exact parts_8 dup qos ret ao n cap l w hr hn
 ·exact parts_9 dup qos ret ao n cap l w hr hn
 ·exact parts_10 dup qos ret ao n cap l w hr hn
 ·exact qkq 11 (by decide) dup qos ret ao n cap l w hr hn
 ·exact qrb 12 (by decide) dup qos ret ao n cap l w hr hn
 ·exact qrb 13 (by decide) dup qos ret ao n cap l w hr hn
 ·exact qrb 14 (by decide) dup qos ret ao n cap l w hr hn
