/- Lemmas. -/
import Derived.Test.YtpjkbgdkligpdaaGreatDoorY16
import Derived.Test.YtpjkbgdkligpdaaGreatDoorY01
set_option linter.all false
set_option maxRecDepth 100000
set_option maxHeartbeats 20000000
namespace Go.Proofs.YtpjkbgdkligpdaaGreatDoor
open Go.RowKit

structure Cx (w0 y:World) (r b:Nat) (p q:Pk) (d:Pd):Prop where
 blk:Blk y b p
 res:Blk y r Pk.zero
 own:POwn y w0.heap.size q d
 gro:Below w0.heap.size w0 y
 bn:w0.heap.size≤b
 rn:w0.heap.size≤r
 rb:r≠b
section
variable {w0 y y' : World} {r b : Nat} {p q : Pk} {d dq : Pd}
theorem Cx.move (s:Cx w0 y r b p q d) {row:Option Nat} (hg:y.grownBy y' row) (hr:∀k,row=some k→k≠b∧k≠r∧¬q.has k∧w0.heap.size≤k):Cx w0 y' r b p q d :=
 ⟨(hg.block b s.blk.lt (fun e=>(hr b e.symm).1 rfl)).trans s.blk,(hg.block r s.res.lt (fun e=>(hr r e.symm).2.1 rfl)).trans s.res,s.own.grown hg (fun k e=>(hr k e).2.2.1),
  s.gro.grown hg s.gro.size (fun k e=>(hr k e).2.2.2),s.bn,s.rn,s.rb⟩
theorem below_none {u u':World} (hg:u.grownBy u' none):Below u.heap.size u u':=⟨hg.os,hg.tape,hg.output,hg.size,fun k hk=>hg.block k hk (by simp)⟩
theorem Cx.quiet (s:Cx w0 y r b p q d) (hg:y.grownBy y' Option.none):Cx w0 y' r b p q d:=s.move hg (fun k e=>by cases e)
theorem Ct.x22 (s:Ct w0 y r b p d):Cx w0 y r b p { p with wan:=⟨Option.none,0,0⟩ } { d with wan:=[] }:=by
 refine⟨s.blk,s.res,⟨s.own.bod,s.own.wb,s.own.pa,⟨rfl,World.ownsRow_nil _ _ _ _⟩,s.own.nam,s.own.cds,?_⟩,s.gro,s.bn,s.rn,s.rb⟩;obtain⟨⟨q12,q13,q14,q15,q16⟩,⟨q23,q24,q25,q26⟩,⟨q34,q35,q36⟩,⟨q45,q46⟩,q56⟩:=pw6.1 s.own.dis;exact pw6.2 ⟨⟨q12,q13,qbf _,q15,q16⟩,⟨q23,qbf _,q25,q26⟩,⟨qbf _,q35,q36⟩,⟨qbh _,qbh _⟩,q56⟩
theorem Cx.fin22 (s:Cx w0 y r b p { p with wan:=⟨Option.none,0,0⟩ } { d with wan:=[] }) (hd:Pgd 1048576 p d) {a:Option Addr} {k c:Nat} {x:List (ByteArray×Int)} (hx:WOwn y w0.heap.size a k c x) (hm:k≤1048576) (hX:∀z∈x,z.1.size≤61) :
  Ct w0 (y.setCell ⟨b,22,Option.none⟩ (.slice a k c)) r b { p with wan:=⟨a,k,c⟩ } { d with wan:=x }:=by
 have hg:y.grownBy (y.setCell ⟨b,22,Option.none⟩ (.slice a k c)) (some b):=qai y b 22 _;have ho:=s.own.grown hg (fun k e=>by cases e;exact s.own.ne s.blk);have hx':=hx.grown hg (fun q e he=>by
  subst e;obtain⟨_,h1⟩:=qbl hx.2;exact ty_ne h1 s.blk (by decide) (by simpa using he))
 refine⟨qaf s.blk 22 _,(hg.block r s.res.lt (fun e=>by have:=s.rb;simp at e;omega)).trans s.res,⟨ho.bod,ho.wb,ho.pa,hx',ho.nam,ho.cds,?_⟩,s.gro.grown hg s.gro.size (fun k e=>by cases e;exact s.bn),s.bn,s.rn,s.rb,⟨hd.top,hd.cli,hd.wt,hd.us,hd.bod,hd.wb,hd.pa,hm,hd.nam,hd.cds,hX,hd.nams⟩⟩;obtain⟨⟨q12,q13,q14,q15,q16⟩,⟨q23,q24,q25,q26⟩,⟨q34,q35,q36⟩,⟨q45,q46⟩,q56⟩:=pw6.1 s.own.dis;exact pw6.2 ⟨⟨q12,q13,(qcn s.own.bod.2 hx.2 (by decide)),q15,q16⟩,⟨q23,(qcn s.own.wb.2 hx.2 (by decide)),q25,q26⟩,⟨(qcn s.own.pa.2 hx.2 (by decide)),q35,q36⟩,⟨(qcn hx.2 s.own.nam.2 (by decide)),(qcn hx.2 s.own.cds.2 (by decide))⟩,q56⟩
theorem Ct.x23 (s:Ct w0 y r b p d):Cx w0 y r b p { p with nam:=⟨Option.none,0,0⟩ } { d with nam:=[] }:=by
 refine⟨s.blk,s.res,⟨s.own.bod,s.own.wb,s.own.pa,s.own.wan,⟨rfl,World.ownsRow_nil _ _ _ _⟩,s.own.cds,?_⟩,s.gro,s.bn,s.rn,s.rb⟩;obtain⟨⟨q12,q13,q14,q15,q16⟩,⟨q23,q24,q25,q26⟩,⟨q34,q35,q36⟩,⟨q45,q46⟩,q56⟩:=pw6.1 s.own.dis;exact pw6.2 ⟨⟨q12,q13,q14,qbf _,q16⟩,⟨q23,q24,qbf _,q26⟩,⟨q34,qbf _,q36⟩,⟨qbf _,q46⟩,qbh _⟩
theorem Cx.fin23 (s:Cx w0 y r b p { p with nam:=⟨Option.none,0,0⟩ } { d with nam:=[] }) (hd:Pgd 1048576 p d) {a:Option Addr} {k c:Nat} {x:List ByteArray} (hx:SOwn y w0.heap.size a k c x) (hm:k≤1048576) (hX:∀z∈x,z.size≤61) :
  Ct w0 (y.setCell ⟨b,23,Option.none⟩ (.slice a k c)) r b { p with nam:=⟨a,k,c⟩ } { d with nam:=x }:=by
 have hg:y.grownBy (y.setCell ⟨b,23,Option.none⟩ (.slice a k c)) (some b):=qai y b 23 _;have ho:=s.own.grown hg (fun k e=>by cases e;exact s.own.ne s.blk);have hx':=hx.grown hg (fun q e he=>by
  subst e;obtain⟨_,h1⟩:=qbl hx.2;exact ty_ne h1 s.blk (by decide) (by simpa using he))
 refine⟨qaf s.blk 23 _,(hg.block r s.res.lt (fun e=>by have:=s.rb;simp at e;omega)).trans s.res,⟨ho.bod,ho.wb,ho.pa,ho.wan,hx',ho.cds,?_⟩,s.gro.grown hg s.gro.size (fun k e=>by cases e;exact s.bn),s.bn,s.rn,s.rb,⟨hd.top,hd.cli,hd.wt,hd.us,hd.bod,hd.wb,hd.pa,hd.wan,hm,hd.cds,hd.wans,hX⟩⟩;obtain⟨⟨q12,q13,q14,q15,q16⟩,⟨q23,q24,q25,q26⟩,⟨q34,q35,q36⟩,⟨q45,q46⟩,q56⟩:=pw6.1 s.own.dis;exact pw6.2 ⟨⟨q12,q13,q14,(qcn s.own.bod.2 hx.2 (by decide)),q16⟩,⟨q23,q24,(qcn s.own.wb.2 hx.2 (by decide)),q26⟩,⟨q34,(qcn s.own.pa.2 hx.2 (by decide)),q36⟩,⟨(qcn s.own.wan.2 hx.2 (by decide)),q46⟩,(qcn hx.2 s.own.cds.2 (by decide))⟩
theorem Ct.x24 (s:Ct w0 y r b p d):Cx w0 y r b p { p with cds:=⟨Option.none,0,0⟩ } { d with cds:=[] }:=by
 refine⟨s.blk,s.res,⟨s.own.bod,s.own.wb,s.own.pa,s.own.wan,s.own.nam,⟨rfl,World.ownsRow_nil _ _ _ _⟩,?_⟩,s.gro,s.bn,s.rn,s.rb⟩;obtain⟨⟨q12,q13,q14,q15,q16⟩,⟨q23,q24,q25,q26⟩,⟨q34,q35,q36⟩,⟨q45,q46⟩,q56⟩:=pw6.1 s.own.dis;exact pw6.2 ⟨⟨q12,q13,q14,q15,qbf _⟩,⟨q23,q24,q25,qbf _⟩,⟨q34,q35,qbf _⟩,⟨q45,qbf _⟩,qbf _⟩
theorem Cx.fin24 (s:Cx w0 y r b p { p with cds:=⟨Option.none,0,0⟩ } { d with cds:=[] }) (hd:Pgd 1048576 p d) {a:Option Addr} {k c:Nat} {x:List Int} (hx:IOwn y w0.heap.size a k c x) (hm:k≤1048576) :
  Ct w0 (y.setCell ⟨b,24,Option.none⟩ (.slice a k c)) r b { p with cds:=⟨a,k,c⟩ } { d with cds:=x }:=by
 have hg:y.grownBy (y.setCell ⟨b,24,Option.none⟩ (.slice a k c)) (some b):=qai y b 24 _;have ho:=s.own.grown hg (fun k e=>by cases e;exact s.own.ne s.blk);have hx':=hx.grown hg (fun q e he=>by
  subst e;obtain⟨_,h1⟩:=qbl hx.2;exact ty_ne h1 s.blk (by decide) (by simpa using he))
 refine⟨qaf s.blk 24 _,(hg.block r s.res.lt (fun e=>by have:=s.rb;simp at e;omega)).trans s.res,⟨ho.bod,ho.wb,ho.pa,ho.wan,ho.nam,hx',?_⟩,s.gro.grown hg s.gro.size (fun k e=>by cases e;exact s.bn),s.bn,s.rn,s.rb,⟨hd.top,hd.cli,hd.wt,hd.us,hd.bod,hd.wb,hd.pa,hd.wan,hd.nam,hm,hd.wans,hd.nams⟩⟩;obtain⟨⟨q12,q13,q14,q15,q16⟩,⟨q23,q24,q25,q26⟩,⟨q34,q35,q36⟩,⟨q45,q46⟩,q56⟩:=pw6.1 s.own.dis;exact pw6.2 ⟨⟨q12,q13,q14,q15,(qcn s.own.bod.2 hx.2 (by decide))⟩,⟨q23,q24,q25,(qcn s.own.wb.2 hx.2 (by decide))⟩,⟨q34,q35,(qcn s.own.pa.2 hx.2 (by decide))⟩,⟨q45,(qcn s.own.wan.2 hx.2 (by decide))⟩,(qcn s.own.nam.2 hx.2 (by decide))⟩
def RL (A:Nat) (row:Option Nat) (e:TypeId) (i:Nat) (u u':World):Prop:=u.grownBy u' (if i=A then row else none)∧(i=A→∀k,row=some k→RR.w_ty u k e)
theorem lH_gen {A N:Nat} {row:Option Nat} {e:TypeId} {ops:Array Oper} {len:Nat} (hA:A<N) (hreach:∀k,k<A→reach ops len A k=true) (Y:World)
  (hxr:∀k,row=some k→w0.heap.size≤k) (he:e≠28) (hq:∀(u:World) (k:Nat),row=some k→RR.w_ty u k e→POwn u w0.heap.size q dq→¬q.has k)
  (i k:Nat) (u u':World) (hr:reach ops len i k=false) (hne:k≠i) (hR:RL A row e i u u')
  (hH:HH A N (fun u=>Ct w0 u r b p d∧Y.heap.size≤u.heap.size) (fun u=>Cx w0 u r b p q dq) k u) :
  HH A N (fun u=>Ct w0 u r b p d∧Y.heap.size≤u.heap.size) (fun u=>Cx w0 u r b p q dq) k u':=by
 unfold HH at *;obtain⟨h1,h3⟩:=hR
 by_cases hkA:k≤A
 ·rw[if_pos hkA] at hH ⊢;have hi:i≠A:=by
   rintro rfl;have:=hreach k (by omega);rw[hr] at this;cases this
  rw[if_neg hi] at h1;exact⟨hH.1.new (below_none h1),Nat.le_trans hH.2 h1.size⟩
 ·rw[if_neg hkA] at hH ⊢
  split
  ·rename_i hk
   rw[if_pos hk] at hH
   by_cases hi:i=A
   ·rw[if_pos hi] at h1;refine hH.move h1 (fun z hz=>?_);have ht:=h3 hi z hz;have ht':=ht;obtain⟨cur,hc⟩:=ht;exact⟨ty_ne hc hH.blk he,ty_ne hc hH.res he,hq u z hz ht' hH.own,hxr z hz⟩
   ·rw[if_neg hi] at h1;exact hH.quiet h1
  ·trivial
theorem qtm {A i blk:Nat} {row:Option Nat} {e:TypeId} {u u' Y:World} {o:Obj} (hR:RL A row e i u u') (hrow:∀k,row=some k→k<Y.heap.size) (hb:Y.heap.size≤blk) (h:u.heap[blk]? = some o):u'.heap[blk]? = some o:=by
 refine (hR.1.block blk (Array.getElem?_eq_some_iff.1 h).1 (fun e=>?_)).trans h
 split at e
 ·have:=hrow blk e.symm;omega
 ·cases e
theorem RL.quiet {A:Nat} {row:Option Nat} {e:TypeId} {i:Nat} {u:World} (h:i≠A):RL A row e i u u:=⟨by rw[if_neg h];exact World.grownBy.refl _ _,fun h'=>absurd h' h⟩
theorem RL.alloc {A:Nat} {row:Option Nat} {e:TypeId} {i:Nat} {u:World} {o:Obj} (h:i≠A):RL A row e i u (u.alloc o):=⟨by rw[if_neg h];exact World.grownBy_alloc _ _ _,fun h'=>absurd h' h⟩
theorem cH_le {A N:Nat} {S X:World→Prop} {k:Nat} {u:World} (h:HH A N S X k u) (hk:k≤A):S u:=by unfold HH at h;rwa [if_pos hk] at h
theorem cH_N {A N:Nat} {S X:World→Prop} {u:World} (h:HH A N S X N u) (hA:A<N):X u:=by unfold HH at h;rwa [if_neg (by omega),if_pos rfl] at h
theorem cki1 (x:Int) (u:World):(Instr.buildSlice 26 1 #[(0,.int .i64 x)]).run Tryz.prog u=.ok (.slice (some ⟨u.heap.size,0,none⟩) 1 1) (u.alloc (.cells #[.int .i64 x] 3)):=by kernel_rfl
theorem ckw1 (x:ByteArray) (q:Int) (u:World):(Instr.buildSlice 24 1 #[(0,.agg #[.string x,.int .i64 q])]).run Tryz.prog u=.ok (.slice (some ⟨u.heap.size,0,none⟩) 1 1) (u.alloc (.cells #[.string x,.int .i64 q] 88)):=by kernel_rfl
theorem cbw (x:ByteArray) (q:Int) (u:World):(Instr.build 88 #[(0,.string x),(1,.int .i64 q)]).run Tryz.prog u=.ok (.agg #[.string x,.int .i64 q]) u:=by kernel_rfl
theorem cz_build {o:Oper} {a:Act} {w:World} {K:Act→World→Prop} {Q:Exit→Act→World→Prop} {parts:Array (Nat×Operand)} {vs:Array (Nat×Value)} {r:Value} (t:TypeId) (ho:o.op=.build t parts) (hx:(parts.map fun (i,x)=>(i,a.eval x))=vs) (hr:(Instr.build t vs).run Tryz.prog w=.ok r w) (h:K (a.put o.dst r) w):Oper.wp Tryz.prog o a w K Q :=
 qae (w':=w) (v:=r) (by simp only[execOp,ho,hx,Sem.run_bind,hr,Result.andThen_ok,Sem.run_pure]) h
theorem cz_ix {o:Oper} {a:Act} {w:World} {K:Act→World→Prop} {Q:Exit→Act→World→Prop} {X Y:Addr} {n c:Nat} {k:Int} (T:TypeId) (x y:Operand) (ho:o.op=.indexAddr T x y) (hx:a.eval x=.slice (some X) n c) (hy:a.eval y=.int .i64 k)
  (hr:∀u:World,(Instr.indexAt T (.slice (some X) n c) (.int .i64 k)).run Tryz.prog u=.ok (.pointer (some Y)) u) (h:K (a.put o.dst (.pointer (some Y))) w):Oper.wp Tryz.prog o a w K Q :=
 qae (w':=w) (by simp only[execOp,ho,hx,hy,Sem.run_bind,hr,Result.andThen_ok,Sem.run_pure]) h
theorem ccv (n:Nat) (u:World) (h:n<256):(convert 5 3 (.int .u8 n)).run Tryz.prog u=.ok (.int .i64 n) u:=by
 have e2:IntKind.i64.wrap (n:Int)=(n:Int):=by rw[qay]<;>omega
 simp[convert,go_sem,Conv.intToInt,e2]
theorem cix (b off n c j:Nat) (h:j<n) (hn:n≤1048576) (u:World):(Instr.indexAt 22 (.slice (some ⟨b,off,none⟩) n c) (.int .i64 j)).run Tryz.prog u=.ok (.pointer (some ⟨b,off+j,none⟩)) u:=by
 have h1:(j:Int)<n:=by omega
 have h0:¬(j:Int)<0:=by omega
 have h2:(sizeOf (Tryz.prog.elem 22)).run Tryz.prog u=.ok 1 u:=by kernel_rfl
 simp[Instr.indexAt,Instr.index,go_sem,Tryz.underlying22,h1,h0,h2,h,Addr.add]
theorem qsn {α:Type} {g:List UInt8→Nat→Option (α×Nat)} {l:List UInt8} {f p k:Nat} {x:α} (hp:p<l.length) (h:g l p=some (x,k)):allG g l (f+1) p=(allG g l f k).map (x :: ·):=by
 simp only[allG];rw[if_pos hp];simp only[h];cases allG g l f k<;>rfl
theorem quj {α:Type} {g:List UInt8→Nat→Option (α×Nat)} {l:List UInt8} {f p:Nat} (hp:p<l.length) (h:g l p=none):allG g l f p=none:=by
 cases f with
 |zero=>simp only[allG];rw[if_pos hp]
 |succ f=>simp only[allG];rw[if_pos hp];simp only[h]
theorem allG_end {α:Type} {g:List UInt8→Nat→Option (α×Nat)} {l:List UInt8} {f p:Nat} (hp:¬p<l.length):allG g l f p=some []:=by
 cases f<;>(simp only[allG];rw[if_neg hp])
end
theorem qgq (u:World):Below u.heap.size u u.drew:=below_drewN (Below.refl _ _) 1
theorem body_cds (w0:World) (x:Nat) (hx:x<256) (hk:(x:Int) / 16=9) (ao:Option Addr) (n cap:Nat) (l:List UInt8) (hr:RdIn w0 ao n cap l) (hn3:n≤340) :
  Calls Tryz.prog 88 #[.int .i64 x,.slice ao n cap] w0 fun e w'=>SRet w0 w' e (sBody x l):=by
 have hn:n≤1048576:=by omega
 have HR:Hid (RdIn w0 ao n cap l):=hr;have hl:=hr.1.1;clear hr;have A1:Blk ((w0.alloc (.cells Pk.zero.cells 28)).alloc (.cells (pkK 9).cells 28)) w0.heap.size Pk.zero:=heap_alloc2_old _ _ _;have A2:Blk ((w0.alloc (.cells Pk.zero.cells 28)).alloc (.cells (pkK 9).cells 28)) (w0.alloc (.cells Pk.zero.cells 28)).heap.size (pkK 9):=heap_alloc_new _ _;rw[World.size_alloc] at A2;have s:=Ct.start (w0:=w0) 9 A2 A1 (bel (qac _ _) (qac _ _)) (by omega) (Nat.le_refl _) (by omega);clear A1 A2;go_enter Tryz.func88,Tryz.ntmps88
 go_upto_region 2 with (first | refine qaz (p:=pkK 9) rfl rfl ?_ | refine al_pk ?_ | refine bu_pk (pkK 9) (by kernel_rfl) ?_ | fail)
 simp only[World.size_alloc];generalize (w0.alloc (.cells Pk.zero.cells 28)).alloc (.cells (pkK 9).cells 28)=y0 at s ⊢;generalize w0.heap.size+1=b at *;generalize hrr:w0.heap.size=r at s ⊢;have c0:=(s.blk.cell 0).trans (Pk.c0 _);change _=some (Value.int .i64 9) at c0;go_wp2_with fail
 obtain⟨yz,hyy,s0⟩:=s.hide;rw[←hyy];clear s hyy;have s:=s0;clear s0;have hRR:=HR.out.below s.gro;have hG:=qdw _ n cap 0 l _ hRR hn;clear hRR;refine hG.mono ?_;clear hG;rintro e y1 ⟨rfl,hb1⟩;replace s:=s.new hb1;clear hb1;cases h1:gW l 0 with
 |none=>
  simp only[rInt,xV,xK,Option.isSome_none]
  go_upto_region 29 with fail
  obtain⟨yz,hyy,s0⟩:=s.hide;rw[←hyy];clear s hyy;have s:=s0;clear s0;refine wp_region_list ?_;refine bu_pk Pk.zero (by kernel_rfl) ?_;refine qag (q:=Pk.zero) (old:=Pk.zero) s.res rfl rfl ?_;intro y9 B9 g9;apply ‹∀(a:Act) (w:World),Code.wp Tryz.prog Code.ret _ a w→_›
  refine wp_ret ?_;show bodyPost Tryz.prog Tryz.f88 (fun e w'=>SRet w0 w' e (sBody x l)) .ret _ _;exact qam rfl rfl B9 rfl (s.none g9 (by unfold sBody;rw[if_neg (by omega),if_neg (by omega),if_neg (by omega),if_pos (by omega)];simp only[h1]))
 |some xk1=>
  obtain⟨i,a⟩:=xk1;simp only[rInt,xV,xK,Option.isSome_some];have hle1:=le_W l 0 i a h1;have c4:=(s.blk.cell 4).trans (Pk.c4 _);have z4:=Lib.frozen_of_heap s.blk 4
  go_upto_region 31 with fail
  replace s:=s.s4 i;clear c4 z4;replace c0:=(s.blk.cell 0).trans (Pk.c0 _);change _=some (Value.int .i64 9) at c0;generalize y1.setCell ⟨b,4,none⟩ (.int .i64 i)=yy at *;go_wp2_with fail
  go_loopw [16] (fun v wr=>∃(j:Nat) (a':Option Addr) (c':Nat) (zs:List Int),v=.int .i64 j∧a≤j∧j≤n∧zs.length=j-a∧Ct w0 wr r b { pkK 9 with id:=i,cds:=⟨a',zs.length,c'⟩ } { e0 with cds:=zs }∧Hid (zs=((l.drop a).take (j-a)).map fun u=>(u.toNat:Int))) (fun v _=>n-(intOf v).toNat)
  case atStart=>exact⟨a,none,0,[],by simp,Nat.le_refl _,by omega,by simp,s,by simp[Hid]⟩
  case round=>
   clear s c0;obtain⟨j,a',c',zs,rfl,haj,hjn,hzl,S,HZ⟩:=hrel;obtain⟨P,hP⟩ : ∃P:Pk,P = { pkK 9 with id:=i,cds:=⟨a',zs.length,c'⟩ }:=⟨_,rfl⟩;obtain⟨D,hD⟩ : ∃D:Pd,D = { e0 with cds:=zs }:=⟨_,rfl⟩
   by_cases hlt:j<n
   ·have hlt':(j:Int)<n:=by omega
    obtain⟨b0,off,rfl,hc⟩:=HR.out.1.at (show 0<n by omega);have q0':=hc j (by omega);have hb0:b0<w0.heap.size:=World.block_lt_of_cell? _ _ q0';have HC:Hid (∀u,Below w0.heap.size w0 u→u.cell? ⟨b0,off+j,none⟩ = some (.int .u8 (bt l j))):=fun u hu=>(hu.cell (p:=⟨b0,off+j,none⟩) hb0).trans q0'
    clear q0' hb0 hc;have bx:=bt_lt l j;have HPD:Hid (P = { pkK 9 with id:=i,cds:=⟨a',zs.length,c'⟩ }∧D = { e0 with cds:=zs }):=⟨hP,hD⟩;have hPn:P.cds.n≤340:=by rw[hP];show zs.length≤340;omega
    have HZL:Hid (zs.length=j-a):=hzl;clear hzl;rw[←hP,←hD] at S;clear hP hD;go_wp2_with fail
    have hrow:=qgv S.own.cds.2;refine qda 10 (by kernel_rfl) rfl (RL 8 (Value.slice P.cds.a P.cds.n P.cds.c).ownBlock 3) (fun i v u=>match i with
     |0=>v=.pointer (some ⟨b,24,none⟩)
     |1=>v=.slice P.cds.a P.cds.n P.cds.c
     |2=>v=.slice (some ⟨b0,off,none⟩) n cap
     |3=>v=.int .i64 j
     |4=>v=.pointer (some ⟨b0,off+j,none⟩)
     |5=>v=.int .u8 (bt l j)
     |6=>v=.int .i64 (bt l j)
     |7=>∃blk,v=.slice (some ⟨blk,0,none⟩) 1 1∧wr.heap.size≤blk∧u.heap[blk]? = some (.cells #[.int .i64 (bt l j)] 3)
     |8=>∃a c,v=.slice a (P.cds.n+1) c∧IOwn u w0.heap.size a (P.cds.n+1) c (D.cds++[(bt l j:Int)])
     |9=>v=.pointer (some ⟨b,24,none⟩)
     |_=>True) (HH 8 10 (fun u=>Ct w0 u r b P D∧wr.heap.size≤u.heap.size) (fun u=>Cx w0 u r b P { P with cds:=⟨none,0,0⟩ } { D with cds:=[] })) ?_ ?_ ?_ ?_ ?_
    ·intro i j v u x_ hi hj hr hne hR hG
     match j,hj,hr,hne,hG with
     |0,_,_,_,hG=>exact hG
     |1,_,_,_,hG=>exact hG
     |2,_,_,_,hG=>exact hG
     |3,_,_,_,hG=>exact hG
     |4,_,_,_,hG=>exact hG
     |5,_,_,_,hG=>exact hG
     |6,_,_,_,hG=>exact hG
     |7,_,_,_,hG=>
      obtain⟨blk,e1,e2,e3⟩:=hG;exact⟨blk,e1,e2,qtm hR (fun k h=>(hrow k h).2.2) e2 e3⟩
     |8,_,hr,hne,hG=>
      have hiA:i=9:=by
       match i,hi,hr,hne with
       |0,_,hr,_=>exact qzff hr
       |1,_,hr,_=>exact qzff hr
       |2,_,hr,_=>exact qzff hr
       |3,_,hr,_=>exact qzff hr
       |4,_,hr,_=>exact qzff hr
       |5,_,hr,_=>exact qzff hr
       |6,_,hr,_=>exact qzff hr
       |7,_,hr,_=>exact qzff hr
       |8,_,_,hne=>exact absurd rfl hne
       |9,_,_,_=>rfl
       |(_+10),h,_,_=>omega
      subst hiA;obtain⟨a,c,e1,e3⟩:=hG;exact⟨a,c,e1,e3.grown hR.1 (fun a _ he=>by cases he)⟩
     |9,_,_,_,hG=>exact hG
     |(_+10),h,_,_,_=>omega
    ·exact fun i k u x_ hi hk hr hne hR hH=>lH_gen (by decide) (fun k hk=>match k,hk with | 0,_=>rfl | 1,_=>rfl | 2,_=>rfl | 3,_=>rfl | 4,_=>rfl | 5,_=>rfl | 6,_=>rfl | 7,_=>rfl) wr (fun k h=>(hrow k h).2.1) (by decide) (fun u k _ ht ho=>qre ho ht (by decide) (.inl (by decide)) (.inl (by decide)) (.inr rfl)) i k u x_ hr hne hR hH
    ·intro k;unfold HH
     split
     ·exact⟨S.new (qgq wr),Nat.le_refl _⟩
     split
     ·exact (S.new (qgq wr)).x24
     ·trivial
    ·intro i o a u hi hk hH hdep;replace hdep:=qhdd hdep
     match i,hi with
     |0,hi=>cases hi;exact qggo rfl (z_fld (X:=⟨b,0,none⟩) (Y:=⟨b,24,none⟩) 28 _ 24 rfl (qevv hk 5 rfl rfl) (fun _=>by kernel_rfl) ⟨_,rfl,RL.quiet (by decide),rfl⟩)
     |1,hi=>cases hi;have T:=cH_le hH (by decide);obtain⟨z0,hz0,rfl⟩:=hdep 0 rfl;exact qggo rfl (z_ld 26 _ rfl (qab hz0) (by kernel_rfl) ((T.1.blk.cell 24).trans (Pk.c24 _)) ⟨_,rfl,RL.quiet (by decide),rfl⟩)
     |2,hi=>cases hi;exact qggo rfl (qbd _ rfl (qevv hk 1 rfl rfl) ⟨_,rfl,RL.quiet (by decide),rfl⟩)
     |3,hi=>cases hi;exact qggo rfl (qbd _ rfl (qevv hk 16 rfl rfl) ⟨_,rfl,RL.quiet (by decide),rfl⟩)
     |4,hi=>cases hi;obtain⟨z2,hz2,rfl⟩:=hdep 2 rfl;obtain⟨z3,hz3,rfl⟩:=hdep 3 rfl;exact qggo rfl (cz_ix _ _ _ rfl (qab hz2) (qab hz3) (cix b0 off n cap j hlt hn) ⟨_,rfl,RL.quiet (by decide),rfl⟩)
     |5,hi=>cases hi;have T:=cH_le hH (by decide);obtain⟨z4,hz4,rfl⟩:=hdep 4 rfl;exact qggo rfl (z_ld 5 _ rfl (qab hz4) (by kernel_rfl) (HC.out _ T.1.gro) ⟨_,rfl,RL.quiet (by decide),rfl⟩)
     |6,hi=>cases hi;obtain⟨z5,hz5,rfl⟩:=hdep 5 rfl;exact qggo rfl (qgp _ _ _ rfl (qab hz5) (ccv _ u bx) ⟨_,rfl,RL.quiet (by decide),rfl⟩)
     |7,hi=>cases hi;obtain⟨z6,hz6,rfl⟩:=hdep 6 rfl;have T:=cH_le hH (by decide);exact qggo rfl (z_mk _ _ rfl (by simp[qab hz6]) (cki1 (bt l j) u) ⟨_,rfl,RL.alloc (by decide),⟨_,rfl,T.2,heap_alloc_new _ _⟩⟩)
     |8,hi=>
      cases hi;obtain⟨z1,hz1,rfl⟩:=hdep 1 rfl;obtain⟨z7,hz7,⟨blk,e1,e2,e3⟩⟩:=hdep 7 rfl;subst e1;have T:=cH_le hH (by decide);refine qggo rfl (z_cdsapp _ _ rfl w0.heap.size _ _ _ D.cds (qab hz1) T.1.own.cds ⟨blk,0,none⟩ [(bt l j:Int)] 1 1 rfl (qab hz7) ?_ (by omega) T.1.gro.size ?_)
      ·intro k v hv
       match k,hv with
       |0,hv=>
        have e4:v=.int .i64 (bt l j):=by simpa[ivals] using hv.symm
        rw[e4];exact (qbr e3 0).trans rfl
      ·intro a' c' x' ho hg;exact⟨_,rfl,⟨hg,fun _ k h=>(qgv T.1.own.cds.2 k h).1⟩,a',c',rfl,ho⟩
     |9,hi=>cases hi;exact qggo rfl (z_fld (X:=⟨b,0,none⟩) (Y:=⟨b,24,none⟩) 28 _ 24 rfl (qevv hk 5 rfl rfl) (fun _=>by kernel_rfl) ⟨_,rfl,RL.quiet (by decide),rfl⟩)
     |(_+10),hi=>cases hi
    intro vs y9 hX_ hG a3_ h3;have X:=cH_N hX_ (by decide);obtain⟨a8,c8,e8,O8⟩:=hG 8 (by decide);have e9:=hG 9 (by decide);replace e9:vs 9=.pointer (some ⟨b,24,none⟩):=e9;clear hG hX_;replace h3:puts _ 2 _ (Fq186)=_:=h3;replace h3:puts _ 4 _ (Fq186)=_:=h3;replace h3:puts _ 6 _ (Fq186)=_:=h3;replace h3:puts _ 8 _ (Fq186)=_:=h3;replace h3:Fq186=_:=h3;unfold Fq186 at h3;subst h3;simp only[List.drop_succ_cons,List.drop_zero];simp only[e8,e9];clear e8 e9;have c_:=(X.blk.cell 24).trans (Pk.c24 _);have z_:=Lib.frozen_of_heap X.blk 24;have s2:=X.fin24 S.gd O8 (by omega);go_wp2_with fail
    go_roundw
    case rel=>
     obtain⟨rfl,rfl⟩:=HPD.out;refine⟨j+1,a8,c8,zs++[(bt l j:Int)],by go_num,by omega,by omega,by have:=HZL.out;simp;omega,by rw[List.length_append];exact s2,?_⟩;have hz:=HZ.out;have e1:j+1-a=(j-a)+1:=by omega
     unfold Hid;rw[e1,List.take_add_one,List.map_append,←hz];have e2:(l.drop a)[j-a]? = some (l.getD j 0):=by
      rw[List.getElem?_drop,show a+(j-a)=j from by omega,List.getD_eq_getElem?_getD,List.getElem?_eq_getElem (by omega)];rfl
     rw[e2];rfl
    case measure=>simp[intOf];omega
   ·have hjn':j=n:=by omega
    have hlt':¬(j:Int)<n:=by omega
    have s:=S;have c0:=(s.blk.cell 0).trans (Pk.c0 _);change _=some (Value.int .i64 9) at c0;clear S hP hD;go_wp2_with fail
    go_loopw [6] (fun v wz=>v=.int .i64 a∧wz=wr) (fun _ _=>0)
    case atStart=>exact⟨rfl,rfl⟩
    case round=>
     obtain⟨rfl,rfl⟩:=hrel
     by_cases hat:((a:Nat):Int)<n
     ·go_upto_region 48 with fail
      obtain⟨yz,hyy,s0⟩:=s.hide;rw[←hyy];clear s hyy;have s:=s0;clear s0;refine wp_region_list ?_;refine qaj s.blk rfl _ rfl rfl ?_;refine qag (q:=_) (old:=Pk.zero) s.res rfl rfl ?_;intro y9 B9 g9;apply ‹∀(a:Act) (w:World),Code.wp Tryz.prog Code.ret _ a w→_›
      refine wp_ret ?_;show bodyPost Tryz.prog Tryz.f88 (fun e w'=>SRet w0 w' e (sBody x l)) .ret _ _;exact qam rfl rfl B9 rfl (s.done g9 (by unfold sBody;rw[if_neg (by omega),if_neg (by omega),if_neg (by omega),if_pos (by omega)];simp only[h1];rw[if_pos (by omega)];have hz:=HZ.out;rw[List.take_of_length_le (by rw[List.length_drop];omega)] at hz;rw[←hz];rfl))
     ·go_upto_region 48 with fail
      obtain⟨yz,hyy,s0⟩:=s.hide;rw[←hyy];clear s hyy;have s:=s0;clear s0;refine wp_region_list ?_;refine qaj s.blk rfl _ rfl rfl ?_;refine qag (q:=_) (old:=Pk.zero) s.res rfl rfl ?_;intro y9 B9 g9;apply ‹∀(a:Act) (w:World),Code.wp Tryz.prog Code.ret _ a w→_›
      refine wp_ret ?_;show bodyPost Tryz.prog Tryz.f88 (fun e w'=>SRet w0 w' e (sBody x l)) .ret _ _;exact qam rfl rfl B9 rfl (s.done g9 (by unfold sBody;rw[if_neg (by omega),if_neg (by omega),if_neg (by omega),if_pos (by omega)];simp only[h1];rw[if_pos (by omega)];have hz:=HZ.out;rw[List.take_of_length_le (by rw[List.length_drop];omega)] at hz;rw[←hz];rfl))
theorem body_wan (w0:World) (x:Nat) (hx:x<256) (hk:(x:Int) / 16=8) (ao:Option Addr) (n cap:Nat) (l:List UInt8) (hr:RdIn w0 ao n cap l) (hn3:n≤340) :
  Calls Tryz.prog 88 #[.int .i64 x,.slice ao n cap] w0 fun e w'=>SRet w0 w' e (sBody x l):=by
 have hn:n≤1048576:=by omega
 have HR:Hid (RdIn w0 ao n cap l):=hr;have hl:=hr.1.1;clear hr;have A1:Blk ((w0.alloc (.cells Pk.zero.cells 28)).alloc (.cells (pkK 8).cells 28)) w0.heap.size Pk.zero:=heap_alloc2_old _ _ _;have A2:Blk ((w0.alloc (.cells Pk.zero.cells 28)).alloc (.cells (pkK 8).cells 28)) (w0.alloc (.cells Pk.zero.cells 28)).heap.size (pkK 8):=heap_alloc_new _ _;rw[World.size_alloc] at A2;have s:=Ct.start (w0:=w0) 8 A2 A1 (bel (qac _ _) (qac _ _)) (by omega) (Nat.le_refl _) (by omega);clear A1 A2;go_enter Tryz.func88,Tryz.ntmps88
 go_upto_region 2 with (first | refine qaz (p:=pkK 8) rfl rfl ?_ | refine al_pk ?_ | refine bu_pk (pkK 8) (by kernel_rfl) ?_ | fail)
 simp only[World.size_alloc];generalize (w0.alloc (.cells Pk.zero.cells 28)).alloc (.cells (pkK 8).cells 28)=y0 at s ⊢;generalize w0.heap.size+1=b at *;generalize hrr:w0.heap.size=r at s ⊢;have c0:=(s.blk.cell 0).trans (Pk.c0 _);change _=some (Value.int .i64 8) at c0;go_wp2_with fail
 obtain⟨yz,hyy,s0⟩:=s.hide;rw[←hyy];clear s hyy;have s:=s0;clear s0;have hRR:=HR.out.below s.gro;have hG:=qdw _ n cap 0 l _ hRR hn;clear hRR;refine hG.mono ?_;clear hG;rintro e y1 ⟨rfl,hb1⟩;replace s:=s.new hb1;clear hb1;cases h1:gW l 0 with
 |none=>
  simp only[rInt,xV,xK,Option.isSome_none]
  go_upto_region 29 with fail
  obtain⟨yz,hyy,s0⟩:=s.hide;rw[←hyy];clear s hyy;have s:=s0;clear s0;refine wp_region_list ?_;refine bu_pk Pk.zero (by kernel_rfl) ?_;refine qag (q:=Pk.zero) (old:=Pk.zero) s.res rfl rfl ?_;intro y9 B9 g9;apply ‹∀(a:Act) (w:World),Code.wp Tryz.prog Code.ret _ a w→_›
  refine wp_ret ?_;show bodyPost Tryz.prog Tryz.f88 (fun e w'=>SRet w0 w' e (sBody x l)) .ret _ _;exact qam rfl rfl B9 rfl (s.none g9 (by unfold sBody;rw[if_neg (by omega),if_neg (by omega),if_neg (by omega),if_pos (by omega)];simp only[h1]))
 |some xk1=>
  obtain⟨i,a⟩:=xk1;simp only[rInt,xV,xK,Option.isSome_some];have hle1:=le_W l 0 i a h1;have c4:=(s.blk.cell 4).trans (Pk.c4 _);have z4:=Lib.frozen_of_heap s.blk 4
  go_upto_region 31 with fail
  replace s:=s.s4 i;clear c4 z4;replace c0:=(s.blk.cell 0).trans (Pk.c0 _);change _=some (Value.int .i64 8) at c0;generalize y1.setCell ⟨b,4,none⟩ (.int .i64 i)=yy at *;go_wp2_with fail
  go_loopw [6] (fun v wr=>∃(p' f:Nat) (a':Option Addr) (c':Nat) (zs:List (ByteArray×Int)),v=.int .i64 p'∧p'≤n∧zs.length≤p'∧n≤p'+f∧(∀z∈zs,z.1.size≤61)∧Ct w0 wr r b { pkK 8 with id:=i,wan:=⟨a',zs.length,c'⟩ } { e0 with wan:=zs }∧Hid (allG gN l l.length a=(allG gN l f p').map (zs++·))) (fun v _=>n-(intOf v).toNat)
  case atStart=>exact⟨a,n,none,0,[],by simp,by omega,Nat.zero_le _,by omega,(fun z hz=>by cases hz),s,by unfold Hid;rw[hl];simp⟩
  case round=>
   clear s c0;obtain⟨p',f,a',c',zs,rfl,hpn,hzl,hf,hzs,S,HZ⟩:=hrel;have c0:=(S.blk.cell 0).trans (Pk.c0 _);change _=some (Value.int .i64 8) at c0
   by_cases hlt:p'<n
   ·have hlt':(p':Int)<n:=by omega
    go_wp2_with fail
    refine (qdl ao n cap p' l _ (HR.out.below S.gro) hn).mono ?_;rintro e y2 ⟨rfl,hb2⟩;have s:=S.new hb2;clear hb2 S c0;generalize hg1:gT l p'=g1;cases g1 with
    |none=>
     simp only[rTxt,xV,xK,Option.isSome_none]
     go_upto_region 40 with fail
     obtain⟨yz,hyy,s0⟩:=s.hide;rw[←hyy];clear s hyy;have s:=s0;clear s0;refine wp_region_list ?_;refine bu_pk Pk.zero (by kernel_rfl) ?_;refine qag (q:=Pk.zero) (old:=Pk.zero) s.res rfl rfl ?_;intro y9 B9 g9;apply ‹∀(a:Act) (w:World),Code.wp Tryz.prog Code.ret _ a w→_›
     refine wp_ret ?_;show bodyPost Tryz.prog Tryz.f88 (fun e w'=>SRet w0 w' e (sBody x l)) .ret _ _;exact qam rfl rfl B9 rfl (s.none g9 (by have hz:=HZ.out;unfold sBody;rw[if_neg (by omega),if_neg (by omega),if_neg (by omega),if_pos (by omega)];simp only[h1];rw[if_neg (by omega),if_pos (by omega),hz,quj (by omega) (by unfold gN;simp only[hg1])];rfl))
    |some xk2=>
     obtain⟨sx,q⟩:=xk2;simp only[rTxt,xV,xK,Option.isSome_some];have hle2:=onw_T l p' sx q hg1;have hsx:=qig hg1;have c0:=(s.blk.cell 0).trans (Pk.c0 _);change _=some (Value.int .i64 8) at c0
     by_cases hqn:q<n
     ·have hqn':¬(q:Int)=n:=by omega
      go_upto_region 46 with fail
      clear c0;have S:=s;clear s;obtain⟨P,hP⟩ : ∃P:Pk,P = { pkK 8 with id:=i,wan:=⟨a',zs.length,c'⟩ }:=⟨_,rfl⟩;obtain⟨D,hD⟩ : ∃D:Pd,D = { e0 with wan:=zs }:=⟨_,rfl⟩;have HPD:Hid (P = { pkK 8 with id:=i,wan:=⟨a',zs.length,c'⟩ }∧D = { e0 with wan:=zs }):=⟨hP,hD⟩;have hPn:P.wan.n≤340:=by rw[hP];show zs.length≤340;omega
      rw[←hP,←hD] at S;have HD:Hid (D.wan=zs):=by rw[hD];rfl
      clear hP hD;obtain⟨b0,off,rfl,hc⟩:=HR.out.1.at (show 0<n by omega);have q0':=hc q (by omega);have hb0:b0<w0.heap.size:=World.block_lt_of_cell? _ _ q0';have HC:Hid (∀u,Below w0.heap.size w0 u→u.cell? ⟨b0,off+q,none⟩ = some (.int .u8 (bt l q))):=fun u hu=>(hu.cell (p:=⟨b0,off+q,none⟩) hb0).trans q0'
      clear q0' hb0 hc;have bx:=bt_lt l q;have hrow:=qgv S.own.wan.2;refine qda 12 (by kernel_rfl) rfl (RL 10 (Value.slice P.wan.a P.wan.n P.wan.c).ownBlock 88) (fun i v u=>match i with
       |0=>v=.pointer (some ⟨b,22,none⟩)
       |1=>v=.slice P.wan.a P.wan.n P.wan.c
       |2=>v=.string sx
       |3=>v=.slice (some ⟨b0,off,none⟩) n cap
       |4=>v=.int .i64 q
       |5=>v=.pointer (some ⟨b0,off+q,none⟩)
       |6=>v=.int .u8 (bt l q)
       |7=>v=.int .i64 (bt l q)
       |8=>v=.agg #[.string sx,.int .i64 (bt l q)]
       |9=>∃blk,v=.slice (some ⟨blk,0,none⟩) 1 1∧y2.heap.size≤blk∧u.heap[blk]? = some (.cells #[.string sx,.int .i64 (bt l q)] 88)
       |10=>∃a c,v=.slice a (P.wan.n+1) c∧WOwn u w0.heap.size a (P.wan.n+1) c (D.wan++[(sx,(bt l q:Int))])
       |11=>v=.pointer (some ⟨b,22,none⟩)
       |_=>True) (HH 10 12 (fun u=>Ct w0 u r b P D∧y2.heap.size≤u.heap.size) (fun u=>Cx w0 u r b P { P with wan:=⟨none,0,0⟩ } { D with wan:=[] })) ?_ ?_ ?_ ?_ ?_
      ·intro i j v u x_ hi hj hr hne hR hG
       match j,hj,hr,hne,hG with
       |0,_,_,_,hG=>exact hG
       |1,_,_,_,hG=>exact hG
       |2,_,_,_,hG=>exact hG
       |3,_,_,_,hG=>exact hG
       |4,_,_,_,hG=>exact hG
       |5,_,_,_,hG=>exact hG
       |6,_,_,_,hG=>exact hG
       |7,_,_,_,hG=>exact hG
       |8,_,_,_,hG=>exact hG
       |9,_,_,_,hG=>
        obtain⟨blk,e1,e2,e3⟩:=hG;exact⟨blk,e1,e2,qtm hR (fun k h=>(hrow k h).2.2) e2 e3⟩
       |10,_,hr,hne,hG=>
        have hiA:i=11:=by
         match i,hi,hr,hne with
         |0,_,hr,_=>exact qzff hr
         |1,_,hr,_=>exact qzff hr
         |2,_,hr,_=>exact qzff hr
         |3,_,hr,_=>exact qzff hr
         |4,_,hr,_=>exact qzff hr
         |5,_,hr,_=>exact qzff hr
         |6,_,hr,_=>exact qzff hr
         |7,_,hr,_=>exact qzff hr
         |8,_,hr,_=>exact qzff hr
         |9,_,hr,_=>exact qzff hr
         |10,_,_,hne=>exact absurd rfl hne
         |11,_,_,_=>rfl
         |(_+12),h,_,_=>omega
        subst hiA;obtain⟨a,c,e1,e3⟩:=hG;exact⟨a,c,e1,e3.grown hR.1 (fun a _ he=>by cases he)⟩
       |11,_,_,_,hG=>exact hG
       |(_+12),h,_,_,_=>omega
      ·exact fun i k u x_ hi hk hr hne hR hH=>lH_gen (by decide) (fun k hk=>match k,hk with | 0,_=>rfl | 1,_=>rfl | 2,_=>rfl | 3,_=>rfl | 4,_=>rfl | 5,_=>rfl | 6,_=>rfl | 7,_=>rfl | 8,_=>rfl | 9,_=>rfl) y2 (fun k h=>(hrow k h).2.1) (by decide) (fun u k _ ht ho=>qre ho ht (by decide) (.inr rfl) (.inl (by decide)) (.inl (by decide))) i k u x_ hr hne hR hH
      ·intro k;unfold HH
       split
       ·exact⟨S.new (qgq y2),Nat.le_refl _⟩
       split
       ·exact (S.new (qgq y2)).x22
       ·trivial
      ·intro i o a u hi hk hH hdep;replace hdep:=qhdd hdep
       match i,hi with
       |0,hi=>cases hi;exact qggo rfl (z_fld (X:=⟨b,0,none⟩) (Y:=⟨b,22,none⟩) 28 _ 22 rfl (qevv hk 5 rfl rfl) (fun _=>by kernel_rfl) ⟨_,rfl,RL.quiet (by decide),rfl⟩)
       |1,hi=>cases hi;have T:=cH_le hH (by decide);obtain⟨z0,hz0,rfl⟩:=hdep 0 rfl;exact qggo rfl (z_ld 24 _ rfl (qab hz0) (by kernel_rfl) ((T.1.blk.cell 22).trans (Pk.c22 _)) ⟨_,rfl,RL.quiet (by decide),rfl⟩)
       |2,hi=>cases hi;exact qggo rfl (qbd _ rfl (qevv hk 17 rfl rfl) ⟨_,rfl,RL.quiet (by decide),rfl⟩)
       |3,hi=>cases hi;exact qggo rfl (qbd _ rfl (qevv hk 1 rfl rfl) ⟨_,rfl,RL.quiet (by decide),rfl⟩)
       |4,hi=>cases hi;exact qggo rfl (qbd _ rfl (qevv hk 6 rfl rfl) ⟨_,rfl,RL.quiet (by decide),rfl⟩)
       |5,hi=>cases hi;obtain⟨z3,hz3,rfl⟩:=hdep 3 rfl;obtain⟨z4,hz4,rfl⟩:=hdep 4 rfl;exact qggo rfl (cz_ix _ _ _ rfl (qab hz3) (qab hz4) (cix b0 off n cap q hqn hn) ⟨_,rfl,RL.quiet (by decide),rfl⟩)
       |6,hi=>cases hi;have T:=cH_le hH (by decide);obtain⟨z5,hz5,rfl⟩:=hdep 5 rfl;exact qggo rfl (z_ld 5 _ rfl (qab hz5) (by kernel_rfl) (HC.out _ T.1.gro) ⟨_,rfl,RL.quiet (by decide),rfl⟩)
       |7,hi=>cases hi;obtain⟨z6,hz6,rfl⟩:=hdep 6 rfl;exact qggo rfl (qgp _ _ _ rfl (qab hz6) (ccv _ u bx) ⟨_,rfl,RL.quiet (by decide),rfl⟩)
       |8,hi=>cases hi;obtain⟨z2,hz2,rfl⟩:=hdep 2 rfl;obtain⟨z7,hz7,rfl⟩:=hdep 7 rfl;exact qggo rfl (cz_build _ rfl (by simp[qab hz2,qab hz7]) (cbw sx (bt l q) u) ⟨_,rfl,RL.quiet (by decide),rfl⟩)
       |9,hi=>cases hi;obtain⟨z8,hz8,rfl⟩:=hdep 8 rfl;have T:=cH_le hH (by decide);exact qggo rfl (z_mk _ _ rfl (by simp[qab hz8]) (ckw1 sx (bt l q) u) ⟨_,rfl,RL.alloc (by decide),⟨_,rfl,T.2,heap_alloc_new _ _⟩⟩)
       |10,hi=>
        cases hi;obtain⟨z1,hz1,rfl⟩:=hdep 1 rfl;obtain⟨z9,hz9,⟨blk,e1,e2,e3⟩⟩:=hdep 9 rfl;subst e1;have T:=cH_le hH (by decide);refine qggo rfl (z_wanapp _ _ rfl w0.heap.size _ _ _ D.wan (qab hz1) T.1.own.wan ⟨blk,0,none⟩ [(sx,(bt l q:Int))] 1 1 rfl (qab hz9) ?_ (by omega) T.1.gro.size ?_)
        ·intro k v hv
         match k,hv with
         |0,hv=>
          have e4:v=.string sx:=by simpa[wvals] using hv.symm
          rw[e4];exact (qbr e3 0).trans rfl
         |1,hv=>
          have e4:v=.int .i64 (bt l q):=by simpa[wvals] using hv.symm
          rw[e4];exact (qbr e3 1).trans rfl
        ·intro a' c' x' ho hg;exact⟨_,rfl,⟨hg,fun _ k h=>(qgv T.1.own.wan.2 k h).1⟩,a',c',rfl,ho⟩
       |11,hi=>cases hi;exact qggo rfl (z_fld (X:=⟨b,0,none⟩) (Y:=⟨b,22,none⟩) 28 _ 22 rfl (qevv hk 5 rfl rfl) (fun _=>by kernel_rfl) ⟨_,rfl,RL.quiet (by decide),rfl⟩)
       |(_+12),hi=>cases hi
      intro vs y9 hX_ hG a3_ h3;have X:=cH_N hX_ (by decide);obtain⟨a8,c8,e8,O8⟩:=hG 10 (by decide);have e9:=hG 11 (by decide);replace e9:vs 11=.pointer (some ⟨b,22,none⟩):=e9;clear hG hX_;replace h3:puts _ 2 _ (Fq186)=_:=h3;replace h3:puts _ 4 _ (Fq186)=_:=h3;replace h3:puts _ 6 _ (Fq186)=_:=h3;replace h3:puts _ 8 _ (Fq186)=_:=h3;replace h3:puts _ 10 _ (Fq186)=_:=h3;replace h3:Fq186=_:=h3;unfold Fq186 at h3;subst h3;simp only[List.drop_succ_cons,List.drop_zero];simp only[e8,e9];clear e8 e9;have c_:=(X.blk.cell 22).trans (Pk.c22 _);have z_:=Lib.frozen_of_heap X.blk 22;have s2:=X.fin22 S.gd O8 (by omega) (by rw[HD.out];intro z hz;rcases List.mem_append.1 hz with h | h;exact hzs z h;simp at h;rw[h];exact hsx);go_wp2_with fail
      go_roundw
      case rel=>
       obtain⟨rfl,rfl⟩:=HPD.out;refine⟨q+1,f-1,a8,c8,zs++[(sx,(bt l q:Int))],by go_num,by omega,by simp;omega,by omega,?_,by rw[List.length_append];exact s2,?_⟩
       ·intro z hz
        rcases List.mem_append.1 hz with h | h
        ·exact hzs z h
        ·simp at h;rw[h];exact hsx
       ·obtain⟨f',rfl⟩ : ∃f',f=f'+1:=⟨f-1,by omega⟩;unfold Hid;rw[HZ.out,qsn (by omega) (show gN l p'=some ((sx,(bt l q:Int)),q+1) from by unfold gN gB;simp only[hg1];rw[if_pos (by omega)])];rw[Option.map_map]
        congr 1
        funext xs
        simp
      case measure=>simp[intOf];omega
     ·have hqn':(q:Int)=n:=by omega
      go_upto_region 45 with fail
      obtain⟨yz,hyy,s0⟩:=s.hide;rw[←hyy];clear s hyy;have s:=s0;clear s0;refine wp_region_list ?_;refine bu_pk Pk.zero (by kernel_rfl) ?_;refine qag (q:=Pk.zero) (old:=Pk.zero) s.res rfl rfl ?_;intro y9 B9 g9;apply ‹∀(a:Act) (w:World),Code.wp Tryz.prog Code.ret _ a w→_›
      refine wp_ret ?_;show bodyPost Tryz.prog Tryz.f88 (fun e w'=>SRet w0 w' e (sBody x l)) .ret _ _;exact qam rfl rfl B9 rfl (s.none g9 (by have hz:=HZ.out;unfold sBody;rw[if_neg (by omega),if_neg (by omega),if_neg (by omega),if_pos (by omega)];simp only[h1];rw[if_neg (by omega),if_pos (by omega),hz,quj (by omega) (by unfold gN;simp only[hg1,gB,show ¬q<l.length from by omega,if_false])];rfl))
   ·have hpn':p'=n:=by omega
    have hlt':¬(p':Int)<n:=by omega
    have s:=S
    go_upto_region 48 with fail
    obtain⟨yz,hyy,s0⟩:=s.hide;rw[←hyy];clear s hyy;have s:=s0;clear s0;refine wp_region_list ?_;refine qaj s.blk rfl _ rfl rfl ?_;refine qag (q:=_) (old:=Pk.zero) s.res rfl rfl ?_;intro y9 B9 g9;apply ‹∀(a:Act) (w:World),Code.wp Tryz.prog Code.ret _ a w→_›
    refine wp_ret ?_;show bodyPost Tryz.prog Tryz.f88 (fun e w'=>SRet w0 w' e (sBody x l)) .ret _ _;exact qam rfl rfl B9 rfl (s.done g9 (by unfold sBody;rw[if_neg (by omega),if_neg (by omega),if_neg (by omega),if_pos (by omega)];simp only[h1];rw[if_neg (by omega),if_pos (by omega)];rw[HZ.out,allG_end (by omega)];simp;rfl))
theorem body_nam (w0:World) (x:Nat) (hx:x<256) (hk:(x:Int) / 16=10) (ao:Option Addr) (n cap:Nat) (l:List UInt8) (hr:RdIn w0 ao n cap l) (hn3:n≤340) :
  Calls Tryz.prog 88 #[.int .i64 x,.slice ao n cap] w0 fun e w'=>SRet w0 w' e (sBody x l):=by
 have hn:n≤1048576:=by omega
 have HR:Hid (RdIn w0 ao n cap l):=hr;have hl:=hr.1.1;clear hr;have A1:Blk ((w0.alloc (.cells Pk.zero.cells 28)).alloc (.cells (pkK 10).cells 28)) w0.heap.size Pk.zero:=heap_alloc2_old _ _ _;have A2:Blk ((w0.alloc (.cells Pk.zero.cells 28)).alloc (.cells (pkK 10).cells 28)) (w0.alloc (.cells Pk.zero.cells 28)).heap.size (pkK 10):=heap_alloc_new _ _;rw[World.size_alloc] at A2;have s:=Ct.start (w0:=w0) 10 A2 A1 (bel (qac _ _) (qac _ _)) (by omega) (Nat.le_refl _) (by omega);clear A1 A2;go_enter Tryz.func88,Tryz.ntmps88
 go_upto_region 2 with (first | refine qaz (p:=pkK 10) rfl rfl ?_ | refine al_pk ?_ | refine bu_pk (pkK 10) (by kernel_rfl) ?_ | fail)
 simp only[World.size_alloc];generalize (w0.alloc (.cells Pk.zero.cells 28)).alloc (.cells (pkK 10).cells 28)=y0 at s ⊢;generalize w0.heap.size+1=b at *;generalize hrr:w0.heap.size=r at s ⊢;have c0:=(s.blk.cell 0).trans (Pk.c0 _);change _=some (Value.int .i64 10) at c0;go_wp2_with fail
 obtain⟨yz,hyy,s0⟩:=s.hide;rw[←hyy];clear s hyy;have s:=s0;clear s0;have hRR:=HR.out.below s.gro;have hG:=qdw _ n cap 0 l _ hRR hn;clear hRR;refine hG.mono ?_;clear hG;rintro e y1 ⟨rfl,hb1⟩;replace s:=s.new hb1;clear hb1;cases h1:gW l 0 with
 |none=>
  simp only[rInt,xV,xK,Option.isSome_none]
  go_upto_region 29 with fail
  obtain⟨yz,hyy,s0⟩:=s.hide;rw[←hyy];clear s hyy;have s:=s0;clear s0;refine wp_region_list ?_;refine bu_pk Pk.zero (by kernel_rfl) ?_;refine qag (q:=Pk.zero) (old:=Pk.zero) s.res rfl rfl ?_;intro y9 B9 g9;apply ‹∀(a:Act) (w:World),Code.wp Tryz.prog Code.ret _ a w→_›
  refine wp_ret ?_;show bodyPost Tryz.prog Tryz.f88 (fun e w'=>SRet w0 w' e (sBody x l)) .ret _ _;exact qam rfl rfl B9 rfl (s.none g9 (by unfold sBody;rw[if_neg (by omega),if_neg (by omega),if_neg (by omega),if_pos (by omega)];simp only[h1]))
 |some xk1=>
  obtain⟨i,a⟩:=xk1;simp only[rInt,xV,xK,Option.isSome_some];have hle1:=le_W l 0 i a h1;have c4:=(s.blk.cell 4).trans (Pk.c4 _);have z4:=Lib.frozen_of_heap s.blk 4
  go_upto_region 31 with fail
  replace s:=s.s4 i;clear c4 z4;replace c0:=(s.blk.cell 0).trans (Pk.c0 _);change _=some (Value.int .i64 10) at c0;generalize y1.setCell ⟨b,4,none⟩ (.int .i64 i)=yy at *;go_wp2_with fail
  go_loopw [6] (fun v wr=>∃(p' f:Nat) (a':Option Addr) (c':Nat) (zs:List ByteArray),v=.int .i64 p'∧p'≤n∧zs.length≤p'∧n≤p'+f∧(∀z∈zs,z.size≤61)∧Ct w0 wr r b { pkK 10 with id:=i,nam:=⟨a',zs.length,c'⟩ } { e0 with nam:=zs }∧Hid (allG gT l l.length a=(allG gT l f p').map (zs++·))) (fun v _=>n-(intOf v).toNat)
  case atStart=>exact⟨a,n,none,0,[],by simp,by omega,Nat.zero_le _,by omega,(fun z hz=>by cases hz),s,by unfold Hid;rw[hl];simp⟩
  case round=>
   clear s c0;obtain⟨p',f,a',c',zs,rfl,hpn,hzl,hf,hzs,S,HZ⟩:=hrel;have c0:=(S.blk.cell 0).trans (Pk.c0 _);change _=some (Value.int .i64 10) at c0
   by_cases hlt:p'<n
   ·have hlt':(p':Int)<n:=by omega
    go_wp2_with fail
    refine (qdl ao n cap p' l _ (HR.out.below S.gro) hn).mono ?_;rintro e y2 ⟨rfl,hb2⟩;have s:=S.new hb2;clear hb2 S c0;generalize hg1:gT l p'=g1;cases g1 with
    |none=>
     simp only[rTxt,xV,xK,Option.isSome_none]
     go_upto_region 40 with fail
     obtain⟨yz,hyy,s0⟩:=s.hide;rw[←hyy];clear s hyy;have s:=s0;clear s0;refine wp_region_list ?_;refine bu_pk Pk.zero (by kernel_rfl) ?_;refine qag (q:=Pk.zero) (old:=Pk.zero) s.res rfl rfl ?_;intro y9 B9 g9;apply ‹∀(a:Act) (w:World),Code.wp Tryz.prog Code.ret _ a w→_›
     refine wp_ret ?_;show bodyPost Tryz.prog Tryz.f88 (fun e w'=>SRet w0 w' e (sBody x l)) .ret _ _;exact qam rfl rfl B9 rfl (s.none g9 (by have hz:=HZ.out;unfold sBody;rw[if_neg (by omega),if_neg (by omega),if_neg (by omega),if_pos (by omega)];simp only[h1];rw[if_neg (by omega),if_neg (by omega),if_pos (by omega),hz,quj (by omega) hg1];rfl))
    |some xk2=>
     obtain⟨sx,q⟩:=xk2;simp only[rTxt,xV,xK,Option.isSome_some];have hle2:=onw_T l p' sx q hg1;have hsx:=qig hg1;have c0:=(s.blk.cell 0).trans (Pk.c0 _);change _=some (Value.int .i64 10) at c0
     go_upto_region 43 with fail
     clear c0;have c_:=(s.blk.cell 23).trans (Pk.c23 _);change _=some (Value.slice a' zs.length c') at c_;go_wp2_with (at_builtin;refine w_sapp _ rfl _ _ rfl w0.heap.size _ _ _ zs rfl (s.own.nam.below (qac _ _)) _ sx rfl ?_ (by omega) (by have:=s.gro.size;simp;omega) ?_;(simp))
     intro a8 c8 w3 O8 g3;have s1:=s.new (qac y2 (.cells #[.string sx] 9));have X:=s1.x23.move g3 (fun k e=>by
      have ht:=qgv s1.own.nam.2 k e;obtain⟨cur,hc⟩:=ht.1;exact⟨ty_ne hc s1.blk (by decide),ty_ne hc s1.res (by decide),qre s1.x23.own ht.1 (by decide) (.inl (by decide)) (.inr rfl) (.inl (by decide)),ht.2.1⟩)
     clear s1;have z_:=Lib.frozen_of_heap X.blk 23;have c2_:=(X.blk.cell 23).trans (Pk.c23 _);rw[←hrr] at O8;have s2:=X.fin23 s.gd O8 (by omega) (fun z hz=>by
      rcases List.mem_append.1 hz with h | h
      ·exact hzs z h
      ·rw[List.mem_singleton.1 h];exact hsx)
     go_wp2_with fail
     go_roundw
     case rel=>
      refine⟨q,f-1,a8,c8,zs++[sx],by go_num,by omega,by simp;omega,by omega,?_,by rw[List.length_append];exact s2,?_⟩
      ·intro z hz
       rcases List.mem_append.1 hz with h | h
       ·exact hzs z h
       ·simp at h;rw[h];exact hsx
      ·obtain⟨f',rfl⟩ : ∃f',f=f'+1:=⟨f-1,by omega⟩;unfold Hid;rw[HZ.out,qsn (by omega) hg1];rw[Option.map_map]
       congr 1
       funext xs
       simp
     case measure=>simp[intOf];omega
   ·have hpn':p'=n:=by omega
    have hlt':¬(p':Int)<n:=by omega
    have s:=S
    go_upto_region 48 with fail
    obtain⟨yz,hyy,s0⟩:=s.hide;rw[←hyy];clear s hyy;have s:=s0;clear s0;refine wp_region_list ?_;refine qaj s.blk rfl _ rfl rfl ?_;refine qag (q:=_) (old:=Pk.zero) s.res rfl rfl ?_;intro y9 B9 g9;apply ‹∀(a:Act) (w:World),Code.wp Tryz.prog Code.ret _ a w→_›
    refine wp_ret ?_;show bodyPost Tryz.prog Tryz.f88 (fun e w'=>SRet w0 w' e (sBody x l)) .ret _ _;exact qam rfl rfl B9 rfl (s.done g9 (by unfold sBody;rw[if_neg (by omega),if_neg (by omega),if_neg (by omega),if_pos (by omega)];simp only[h1];rw[if_neg (by omega),if_neg (by omega),if_pos (by omega)];rw[HZ.out,allG_end (by omega)];simp;rfl))
theorem qsq (w0:World) (x:Nat) (hx:x<256) (ao:Option Addr) (n cap:Nat) (l:List UInt8) (hr:RdIn w0 ao n cap l) (hn3:n≤340) :
  Calls Tryz.prog 88 #[.int .i64 x,.slice ao n cap] w0 fun e w'=>SRet w0 w' e (sBody x l):=by
 have hn:n≤1048576:=by omega
 obtain⟨k,hk⟩ : ∃k:Int,(x:Int) / 16=k:=⟨_,rfl⟩
 by_cases k1:k=1
 ·exact body_con w0 x hx (hk.trans k1) ao n cap l hr hn
 by_cases k3:k=3
 ·exact body_pub w0 x hx (hk.trans k3) ao n cap l hr hn
 by_cases k9:k=9
 ·exact body_cds w0 x hx (hk.trans k9) ao n cap l hr hn3
 by_cases k8:k=8
 ·exact body_wan w0 x hx (hk.trans k8) ao n cap l hr hn3
 by_cases k10:k=10
 ·exact body_nam w0 x hx (hk.trans k10) ao n cap l hr hn3
 have f:∀z:Int,k≠z→(k==z)=false:=fun z h=>by simpa using h
 by_cases k2:k=2
 ·by_cases n2:n=2
  ·subst n2;exact body_ack w0 x hx (hk.trans k2) ao cap l hr
  ·exact body_id2 w0 x hx k hk (f 1 k1) (f 3 k3) (f 9 k9) (f 8 k8) (f 10 k10) k1 k3 k8 k9 k10 (by simpa using k2) (by omega) ao n cap l hr hn n2
 ·by_cases k12:k<12
  ·exact body_ido w0 x hx k hk (f 1 k1) (f 3 k3) (f 9 k9) (f 8 k8) (f 10 k10) k1 k3 k8 k9 k10 (f 2 k2) k12 ao n cap l hr hn
  ·exact body_no w0 x hx k hk (f 1 k1) (f 3 k3) (f 9 k9) (f 8 k8) (f 10 k10) k1 k3 k8 k9 k10 (f 2 k2) k12 ao n cap l hr hn

theorem q16 (x:Nat) (h:x<256):IntKind.i64.wrap ((x:Int).tdiv 16)=((x / 16:Nat):Int):=by
 have e:((x:Int)).tdiv 16=((x / 16:Nat):Int):=rfl;rw[e,qay]<;>omega
theorem first_no (x:Nat) (hx:x<256) (h:x / 16=0∨x / 16=15) (w:World) :
  Calls Tryz.prog 86 #[.int .i64 x] w fun e w'=>e=.returned (.bool (fstOk x))∧w'=w:=by
 have hf:fstOk x=false:=by unfold fstOk;rw[if_pos h]
 rw[hf];have e1:(x:Int) / 16=((x / 16:Nat):Int):=rfl
 rcases h with h | h
 ·have e2:(x:Int) / 16=0:=by omega
  go_enter Tryz.func86,Tryz.ntmps86;go_wp2;go_ret;exact⟨rfl,rfl⟩
 ·have e2:(x:Int) / 16=15:=by omega
  go_enter Tryz.func86,Tryz.ntmps86;go_wp2;go_ret;exact⟨rfl,rfl⟩
theorem first_pub (x:Nat) (hx:x<256) (h:x / 16=3) (w:World) :
  Calls Tryz.prog 86 #[.int .i64 x] w fun e w'=>e=.returned (.bool (fstOk x))∧w'=w:=by
 have hf:fstOk x=(decide (x / 2%4<3)&&(decide (0<x / 2%4) || decide (x%16<8))):=by unfold fstOk;rw[if_neg (by omega),if_pos h]
 have e1:(x:Int) / 16=3:=by omega
 have e2:(x:Int)%16 / 2%4=((x / 2%4:Nat):Int):=by omega
 have e3:((x%16:Nat):Int)=(x:Int)%16:=by omega
 by_cases h1:x / 2%4<3
 ·by_cases h2:0<x / 2%4
  ·have hr:fstOk x=true:=by rw[hf];simp[h1,h2]
   rw[hr];have g1:(x:Int)%16 / 2%4<3:=by omega
   have g2:0<(x:Int)%16 / 2%4:=by omega
   clear hr hf e2 e3;go_enter Tryz.func86,Tryz.ntmps86;go_wp2;go_ret;exact⟨rfl,rfl⟩
  ·by_cases h3:x%16<8
   ·have hr:fstOk x=true:=by rw[hf];simp[h1,h3]
    rw[hr];have g1:(x:Int)%16 / 2%4<3:=by omega
    have g2:¬0<(x:Int)%16 / 2%4:=by omega
    have g3:(x:Int)%16<8:=by omega
    clear hr hf e2 e3;go_enter Tryz.func86,Tryz.ntmps86;go_wp2;go_ret;exact⟨rfl,rfl⟩
   ·have hr:fstOk x=false:=by rw[hf];simp[h2,h3]
    rw[hr];have g1:(x:Int)%16 / 2%4<3:=by omega
    have g2:¬0<(x:Int)%16 / 2%4:=by omega
    have g3:¬(x:Int)%16<8:=by omega
    clear hr hf e2 e3;go_enter Tryz.func86,Tryz.ntmps86;go_wp2;go_ret;exact⟨rfl,rfl⟩
 ·have hr:fstOk x=false:=by rw[hf];simp[h1]
  rw[hr];have g1:¬(x:Int)%16 / 2%4<3:=by omega
  clear hr hf e2 e3;go_enter Tryz.func86,Tryz.ntmps86;go_wp2;go_ret;exact⟨rfl,rfl⟩
theorem first_two (x:Nat) (hx:x<256) (h:x / 16=6∨x / 16=8∨x / 16=10) (w:World) :
  Calls Tryz.prog 86 #[.int .i64 x] w fun e w'=>e=.returned (.bool (fstOk x))∧w'=w:=by
 have hf:fstOk x=decide ((x:Int)%16=2):=by
  unfold fstOk;rw[if_neg (by omega),if_neg (by omega),if_pos h];exact decide_eq_decide.2 (by omega)
 rw[hf];have hb:((x:Int)%16==2)=decide ((x:Int)%16=2):=rfl
 rcases h with h | h | h
 ·have e1:(x:Int) / 16=6:=by omega
  go_enter Tryz.func86,Tryz.ntmps86;go_wp2;go_ret;exact⟨rfl,rfl⟩
 ·have e1:(x:Int) / 16=8:=by omega
  go_enter Tryz.func86,Tryz.ntmps86;go_wp2;go_ret;exact⟨rfl,rfl⟩
 ·have e1:(x:Int) / 16=10:=by omega
  go_enter Tryz.func86,Tryz.ntmps86;go_wp2;go_ret;exact⟨rfl,rfl⟩
theorem first_nil (x:Nat) (hx:x<256) (h:x / 16=1∨x / 16=2∨x / 16=4∨x / 16=5∨x / 16=7∨x / 16=9∨x / 16=11∨x / 16=12∨x / 16=13∨x / 16=14) (w:World) :
  Calls Tryz.prog 86 #[.int .i64 x] w fun e w'=>e=.returned (.bool (fstOk x))∧w'=w:=by
 have hf:fstOk x=decide ((x:Int)%16=0):=by
  unfold fstOk;rw[if_neg (by omega),if_neg (by omega),if_neg (by omega)];exact decide_eq_decide.2 (by omega)
 rw[hf];have hb:((x:Int)%16==0)=decide ((x:Int)%16=0):=rfl
 rcases h with h | h | h | h | h | h | h | h | h | h
 ·have e1:(x:Int) / 16=1:=by omega
  go_enter Tryz.func86,Tryz.ntmps86;go_wp2;go_ret;exact⟨rfl,rfl⟩
 ·have e1:(x:Int) / 16=2:=by omega
  go_enter Tryz.func86,Tryz.ntmps86;go_wp2;go_ret;exact⟨rfl,rfl⟩
 ·have e1:(x:Int) / 16=4:=by omega
  go_enter Tryz.func86,Tryz.ntmps86;go_wp2;go_ret;exact⟨rfl,rfl⟩
 ·have e1:(x:Int) / 16=5:=by omega
  go_enter Tryz.func86,Tryz.ntmps86;go_wp2;go_ret;exact⟨rfl,rfl⟩
 ·have e1:(x:Int) / 16=7:=by omega
  go_enter Tryz.func86,Tryz.ntmps86;go_wp2;go_ret;exact⟨rfl,rfl⟩
 ·have e1:(x:Int) / 16=9:=by omega
  go_enter Tryz.func86,Tryz.ntmps86;go_wp2;go_ret;exact⟨rfl,rfl⟩
 ·have e1:(x:Int) / 16=11:=by omega
  go_enter Tryz.func86,Tryz.ntmps86;go_wp2;go_ret;exact⟨rfl,rfl⟩
 ·have e1:(x:Int) / 16=12:=by omega
  go_enter Tryz.func86,Tryz.ntmps86;go_wp2;go_ret;exact⟨rfl,rfl⟩
 ·have e1:(x:Int) / 16=13:=by omega
  go_enter Tryz.func86,Tryz.ntmps86;go_wp2;go_ret;exact⟨rfl,rfl⟩
 ·have e1:(x:Int) / 16=14:=by omega
  go_enter Tryz.func86,Tryz.ntmps86;go_wp2;go_ret;exact⟨rfl,rfl⟩
theorem qki (x:Nat) (hx:x<256) (w:World) :
  Calls Tryz.prog 86 #[.int .i64 x] w fun e w'=>e=.returned (.bool (fstOk x))∧w'=w:=by
 have h:(x / 16=0∨x / 16=15)∨x / 16=3∨(x / 16=6∨x / 16=8∨x / 16=10)∨(x / 16=1∨x / 16=2∨x / 16=4∨x / 16=5∨x / 16=7∨x / 16=9∨x / 16=11∨x / 16=12∨x / 16=13∨x / 16=14):=by omega
 rcases h with h | h | h | h
 ·exact first_no x hx h w
 ·exact first_pub x hx h w
 ·exact first_two x hx h w
 ·exact first_nil x hx h w
