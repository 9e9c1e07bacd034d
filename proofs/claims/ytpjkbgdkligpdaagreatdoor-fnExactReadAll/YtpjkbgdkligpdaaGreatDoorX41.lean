/- Lemmas. -/
import Derived.Test.YtpjkbgdkligpdaaGreatDoorX35
import Derived.Test.YtpjkbgdkligpdaaGreatDoorX36
import Derived.Test.YtpjkbgdkligpdaaGreatDoorX31
import Derived.Test.YtpjkbgdkligpdaaGreatDoorX40
import Derived.Test.YtpjkbgdkligpdaaGreatDoorX01
set_option linter.unusedVariables false
set_option linter.unusedSimpArgs false
set_option maxRecDepth 100000
set_option maxHeartbeats 20000000
namespace Go.Proofs.YtpjkbgdkligpdaaGreatDoor
open Go.RowKit

section
variable {P : Program} {o : Oper} {a : Act} {w : World} {K : Act → World → Prop} {Q : Exit → Act → World → Prop}
theorem z_pickT {v:Value} (c x y:Operand) (ho:o.op=.pick c x y) (hc:a.eval c=.bool true) (hx:a.eval x=v) (h:K (a.put o.dst v) w):Oper.wp P o a w K Q :=
 qae (w':=w) (v:=v) (by simp[execOp,ho,hc,hx,asBool]) h
theorem z_pickF {v:Value} (c x y:Operand) (ho:o.op=.pick c x y) (hc:a.eval c=.bool false) (hy:a.eval y=v) (h:K (a.put o.dst v) w):Oper.wp P o a w K Q :=
 qae (w':=w) (v:=v) (by simp[execOp,ho,hc,hy,asBool]) h
end
theorem z_ix {P:Program} {o:Oper} {a:Act} {w:World} {K:Act→World→Prop} {Q:Exit→Act→World→Prop} {X Y:Addr} {n c:Nat} {k:Int} (T:TypeId) (x y:Operand) (ho:o.op=.indexAddr T x y) (hx:a.eval x=.slice (some X) n c) (hy:a.eval y=.int .i64 k)
  (hr:∀u:World,(Instr.indexAt T (.slice (some X) n c) (.int .i64 k)).run P u=.ok (.pointer (some Y)) u) (h:K (a.put o.dst (.pointer (some Y))) w):Oper.wp P o a w K Q :=
 qae (w':=w) (by simp only[execOp,ho,hx,hy,Sem.run_bind,hr,Result.andThen_ok,Sem.run_pure]) h
theorem qem {o:Oper} {k:Nat} {b c:Bool} {y:Nat→Option Bool} (h:o.guard=some (k,b)) (hy:y k=some c) (hne:c≠b):Region.wanted o y=false:=by
 simp[Region.wanted,h,hy,hne]

theorem cfg_body (xs:Array Value) (u:World):(callFunc 88 xs).run Tryz.prog u=.ok (.enter 88 xs) u:=by kernel_rfl
theorem cfg_ok (xs:Array Value) (u:World):(callFunc 17 xs).run Tryz.prog u=.ok (.enter 17 xs) u:=by kernel_rfl
theorem cfg_put (xs:Array Value) (u:World):(callFunc 90 xs).run Tryz.prog u=.ok (.enter 90 xs) u:=by kernel_rfl
theorem cfg_same (xs:Array Value) (u:World):(callFunc 89 xs).run Tryz.prog u=.ok (.enter 89 xs) u:=by kernel_rfl
theorem z_slc {o:Oper} {a:Act} {w:World} {K:Act→World→Prop} {Q:Exit→Act→World→Prop} {v r:Value} {i j:Int} (x lo hi:Operand) (ho:o.op=.slice 22 x (some lo) (some hi) none) (hx:a.eval x=v) (hlo:a.eval lo=.int .i64 i) (hhi:a.eval hi=.int .i64 j)
  (hr:∀u:World,(Instr.slice 22 v (some (.int .i64 i)) (some (.int .i64 j)) none).run Tryz.prog u=.ok r u) (hv:∃ao n cap,v=.slice ao n cap) (h:K (a.put o.dst r) w):Oper.wp Tryz.prog o a w K Q:=by
 obtain⟨ao,n,cap,rfl⟩:=hv;exact qae (w':=w) (v:=r) (by simp[execOp,ho,hx,hlo,hhi,Instr.sliceAt,hr]) h
theorem z_slh {o:Oper} {a:Act} {w:World} {K:Act→World→Prop} {Q:Exit→Act→World→Prop} {v r:Value} {j:Int} (x hi:Operand) (ho:o.op=.slice 22 x none (some hi) none) (hx:a.eval x=v) (hhi:a.eval hi=.int .i64 j)
  (hr:∀u:World,(Instr.slice 22 v none (some (.int .i64 j)) none).run Tryz.prog u=.ok r u) (hv:∃ao n cap,v=.slice ao n cap) (h:K (a.put o.dst r) w):Oper.wp Tryz.prog o a w K Q:=by
 obtain⟨ao,n,cap,rfl⟩:=hv;exact qae (w':=w) (v:=r) (by simp[execOp,ho,hx,hhi,Instr.sliceAt,hr]) h
theorem z_alP {o:Oper} {a:Act} {w:World} {K:Act→World→Prop} {Q:Exit→Act→World→Prop} (ho:o.op=.alloc 28) (h:K (a.put o.dst (.pointer (some ⟨w.heap.size,0,none⟩))) (w.alloc (.cells Pk.zero.cells 28))):Oper.wp Tryz.prog o a w K Q :=
 qae (w':=w.alloc (.cells Pk.zero.cells 28)) (v:=.pointer (some ⟨w.heap.size,0,none⟩)) (by simp only[execOp,ho,Sem.run_bind,qnc,Result.andThen_ok,Sem.run_pure]) h
theorem rd_headS {w:World} {ao:Option Addr} {n cap j:Nat} {l:List UInt8} (hr:RdIn w ao n cap l) (h:j≤n):RdIn w ao j cap (l.take j):=by
 obtain⟨⟨hl,hc⟩,hcap,hmax,hnil⟩:=hr;refine⟨⟨by rw[List.length_take];omega,fun i hi=>?_⟩,by omega,hmax,fun e=>by have:=hnil e;omega⟩;obtain⟨b,off,e,hcell⟩:=hc i (by omega);refine⟨b,off,e,?_⟩;rw[hcell];unfold bt;rw[List.getD_eq_getElem?_getD,List.getD_eq_getElem?_getD,List.getElem?_take_of_lt hi]
theorem qjr {w:World} (l:List UInt8) (c:Int) (h:(getP l)=(Pv.zero,0,c)):∀u,Below w.heap.size w u→Got w u (.returned (.tuple #[.agg Pk.zero.cells,.int .i64 0,.int .i64 c])) l:=by
 intro u hu;unfold Got;rw[h];exact qrx hu
theorem qnm {b:List UInt8} {c:Int} (h:headE b=.inl c):getP b=(Pv.zero,0,c):=by unfold getP;rw[h]
theorem getS_in {b:List UInt8} {n k:Nat} (h:headE b=.inr (n,k)):getP b=if (sBody (bt b 0) ((b.drop k).take n)).ok=true∧(sBody (bt b 0) ((b.drop k).take n)).bytes=b.take (k+n) then (sBody (bt b 0) ((b.drop k).take n),((k+n:Nat):Int),0) else (Pv.zero,0,2):=by
 rw[←getP_eq];unfold getS;rw[h]
theorem get_s (ao:Option Addr) (n cap:Nat) (l:List UInt8) (w:World) (hr:RdIn w ao n cap l) (hn:n≤1048576) :
  Calls Tryz.prog 27 #[.slice ao n cap] w fun e w'=>Got w w' e l:=by
 have A:Blk (w.alloc (.cells Pk.zero.cells 28)) w.heap.size Pk.zero:=heap_alloc_new _ _;have hb:=qac w (.cells Pk.zero.cells 28);have HR:Hid (RdIn w ao n cap l):=hr;have hr1:=hr.below hb;have hlt:w.heap.size<(w.alloc (.cells Pk.zero.cells 28)).heap.size:=by simp
 have hl:l.length=n:=hr.1.1
 by_cases h0:n=0
 ·subst h0;have HB:Hid (∀u,Below w.heap.size w u→Got w u (.returned (.tuple #[.agg Pk.zero.cells,.int .i64 0,.int .i64 (1)])) l):=qjr l _ (qnm (by unfold headE;rw[if_pos hl]));clear hr hr1 hl;go_enter Tryz.func27,Tryz.ntmps27
  go_upto_region 1 with (first | refine al_pk ?_ | fail)
  go_upto_region 2 with fail
  refine wp_region_list ?_;refine bu_pk Pk.zero (by kernel_rfl) ?_;go_wp2_with (first | (refine qag (q:=Pk.zero) (old:=Pk.zero) A rfl rfl ?_;intro w9 B9 g9) | fail)
  exact qcl rfl rfl rfl rfl B9 rfl (HB.out _ (below_st hb g9 (Nat.le_refl _)))
 obtain⟨b0,off,rfl,hc⟩:=hr.1.at (show 0<n by omega);have q0':=hc 0 (by omega);rw[Nat.add_zero] at q0';have hb0:b0<w.heap.size:=World.block_lt_of_cell? _ _ q0';have HC:Hid (∀u,Below w.heap.size w u→u.cell? ⟨b0,off+0,none⟩ = some (.int .u8 (bt l 0))):=fun u hu=>(hu.cell (p:=⟨b0,off,none⟩) hb0).trans q0'
 have q0:=HC.out _ hb;rw[Nat.add_zero] at q0;clear q0' hb0 hc hr;have hx0:=bt_lt l 0;have hnE:((n:Int)==0)=false:=by simp;omega
 have hl0:¬l.length=0:=by omega
 cases hf:fstOk (bt l 0) with
 |false=>
  have HB:Hid (∀u,Below w.heap.size w u→Got w u (.returned (.tuple #[.agg Pk.zero.cells,.int .i64 0,.int .i64 (2)])) l):=qjr l _ (qnm (by unfold headE;rw[if_neg hl0,if_pos hf]));clear hr1 hl hl0;go_enter Tryz.func27,Tryz.ntmps27
  go_upto_region 1 with (first | refine al_pk ?_ | fail)
  go_wp2_with fail
  refine (qjm (bt l 0) hx0 _).mono ?_;rintro e y1 ⟨rfl,e1⟩;rw[hf,e1];clear e1
  go_upto_region 4 with fail
  refine wp_region_list ?_;refine bu_pk Pk.zero (by kernel_rfl) ?_;go_wp2_with (first | (refine qag (q:=Pk.zero) (old:=Pk.zero) A rfl rfl ?_;intro w9 B9 g9) | fail)
  exact qcl rfl rfl rfl rfl B9 rfl (HB.out _ (below_st hb g9 (Nat.le_refl _)))
 |true=>
  obtain⟨E1,E2,E3,hE⟩ : ∃E1 E2 E3,getE l 1=(E1,E2,E3):=⟨_,_,_,rfl⟩;have hf2:¬fstOk (bt l 0)=false:=by rw[hf];simp
  go_enter Tryz.func27,Tryz.ntmps27
  go_upto_region 1 with (first | refine al_pk ?_ | fail)
  go_wp2_with fail
  refine (qjm (bt l 0) hx0 _).mono ?_;rintro e y1 ⟨rfl,e1⟩;rw[hf,e1];clear e1;go_wp2_with fail
  refine (qtt _ n cap 1 l _ hr1 (by omega)).mono ?_;rintro e y1 ⟨rfl,e1⟩;rw[hE,e1];unfold ret3;simp only;clear e1
  by_cases h3:E3=0
  rotate_left
  ·have HB:Hid (∀u,Below w.heap.size w u→Got w u (.returned (.tuple #[.agg Pk.zero.cells,.int .i64 0,.int .i64 (E3)])) l):=qjr l _ (qnm (by unfold headE;rw[if_neg hl0,if_neg hf2,hE,if_pos h3]));have h3b:(E3 != 0)=true:=by simpa using h3
   clear hr1 hl hl0 hE hf2
   go_upto_region 7 with fail
   refine wp_region_list ?_;refine bu_pk Pk.zero (by kernel_rfl) ?_;go_wp2_with (first | (refine qag (q:=Pk.zero) (old:=Pk.zero) A rfl rfl ?_;intro w9 B9 g9) | fail)
   exact qcl rfl rfl rfl rfl B9 rfl (HB.out _ (below_st hb g9 (Nat.le_refl _)))
  subst h3;obtain⟨m,k,rfl,rfl,hk,hm⟩:=qnl (l:=l) (by omega) hE;have hkn:(k:Int)≤n:=by omega
  have h3c:¬(((m:Int),(k:Int),(0:Int)).2.2≠0):=by simp
  by_cases h4:(340:Int)<m
  ·have HB:Hid (∀u,Below w.heap.size w u→Got w u (.returned (.tuple #[.agg Pk.zero.cells,.int .i64 0,.int .i64 (2)])) l):=qjr l _ (qnm (by unfold headE;rw[if_neg hl0,if_neg hf2,hE,if_neg h3c,if_pos h4]));clear hr1 hl hl0 hE hf2 h3c
   go_upto_region 9 with fail
   refine wp_region_list ?_;refine bu_pk Pk.zero (by kernel_rfl) ?_;go_wp2_with (first | (refine qag (q:=Pk.zero) (old:=Pk.zero) A rfl rfl ?_;intro w9 B9 g9) | fail)
   exact qcl rfl rfl rfl rfl B9 rfl (HB.out _ (below_st hb g9 (Nat.le_refl _)))
  by_cases h5:(n:Int)-k<m
  ·have HB:Hid (∀u,Below w.heap.size w u→Got w u (.returned (.tuple #[.agg Pk.zero.cells,.int .i64 0,.int .i64 (1)])) l):=qjr l _ (qnm (by unfold headE;rw[if_neg hl0,if_neg hf2,hE,if_neg h3c,if_neg h4,if_pos (by rw[hl];exact h5)]));clear hr1 hl hl0 hE hf2 h3c
   go_upto_region 11 with fail
   refine wp_region_list ?_;refine bu_pk Pk.zero (by kernel_rfl) ?_;go_wp2_with (first | (refine qag (q:=Pk.zero) (old:=Pk.zero) A rfl rfl ?_;intro w9 B9 g9) | fail)
   exact qcl rfl rfl rfl rfl B9 rfl (HB.out _ (below_st hb g9 (Nat.le_refl _)))
  have hh:headE l=.inr (m,k):=by
   unfold headE;rw[if_neg hl0,if_neg hf2,hE,if_neg h3c,if_neg h4,if_neg (by rw[hl];exact h5)];simp
  have HG:Hid (getP l=if (sBody (bt l 0) ((l.drop k).take m)).ok=true∧(sBody (bt l 0) ((l.drop k).take m)).bytes=l.take (k+m) then (sBody (bt l 0) ((l.drop k).take m),((k+m:Nat):Int),0) else (Pv.zero,0,2)):=getS_in hh;clear hE hf2 h3c hh hl0;obtain⟨ax,cx,hsl,hrx⟩:=qiv HR.out k m (by omega);have hkm:k+m≤n:=by omega
  have hcap:n≤cap:=HR.out.2.1;have hm3:m≤340:=by omega
  clear hr1
  go_upto_region 12 with fail
  generalize hyw:w.alloc (.cells Pk.zero.cells 28)=y at *;clear hyw;refine qcp 12 (by kernel_rfl) rfl (fun i v u=>match i with
   |0=>v=.slice (some ⟨b0,off,none⟩) n cap
   |1=>v=.pointer (some ⟨b0,off+0,none⟩)
   |2=>v=.int .u8 (bt l 0)
   |3=>v=.int .i64 (bt l 0)
   |4=>v=.slice (some ⟨b0,off,none⟩) n cap
   |5=>v=.int .i64 k
   |6=>v=.int .i64 k
   |7=>v=.int .i64 m
   |8=>v=.int .i64 ((k+m:Nat):Int)
   |9=>v=.slice ax m cx
   |10=>∃p d,v=.agg (Pk.cells p)∧POwn u w.heap.size p d∧Pgd 1048576 p d∧sBody (bt l 0) ((l.drop k).take m)=pv p d
   |11=>∃g,v=.pointer (some ⟨g,0,none⟩)∧y.heap.size≤g∧Blk u g Pk.zero
   |_=>True) ?_ ?_ ?_
  ·intro i u x x' hx h
   match i,h with
   |0,h=>exact h
   |1,h=>exact h
   |2,h=>exact h
   |3,h=>exact h
   |4,h=>exact h
   |5,h=>exact h
   |6,h=>exact h
   |7,h=>exact h
   |8,h=>exact h
   |9,h=>exact h
   |10,h=>exact (by obtain⟨p,d,e1,e2,e3,e4⟩:=h;exact⟨p,d,e1,e2.below hx,e3,e4⟩)
   |11,h=>exact (by obtain⟨g,e1,e2,e3⟩:=h;exact⟨g,e1,e2,e3.next hx⟩)
   |(_+12),h=>trivial
  ·intro i o a u hi hk hbu hdep
   match i,hi with
   |0,hi=>
    cases hi;exact g_run (qab rfl _) (qax _ rfl (qaa ((hk.at 0 rfl).trans rfl)) ⟨_,rfl,Below.refl _ _,rfl⟩)
   |1,hi=>
    cases hi;obtain⟨z0,hz0,rfl⟩:=hdep 0 _ _ rfl rfl rfl;exact g_run (qab rfl _) (cz_ix _ _ _ rfl (qaa hz0) rfl (cix b0 off n cap 0 (by omega) hn) ⟨_,rfl,Below.refl _ _,rfl⟩)
   |2,hi=>
    cases hi;obtain⟨z1,hz1,rfl⟩:=hdep 1 _ _ rfl rfl rfl;exact g_run (qab rfl _) (z_ld 5 _ rfl (qaa hz1) (by kernel_rfl) (HC.out _ (hb.trans (hbu.mono hb.size))) ⟨_,rfl,Below.refl _ _,rfl⟩)
   |3,hi=>
    cases hi;obtain⟨z2,hz2,rfl⟩:=hdep 2 _ _ rfl rfl rfl;exact g_run (qab rfl _) (qhk _ _ _ rfl (qaa hz2) (ccv _ u (bt_lt l 0)) ⟨_,rfl,Below.refl _ _,rfl⟩)
   |4,hi=>
    cases hi;exact g_run (qab rfl _) (qax _ rfl (qaa ((hk.at 0 rfl).trans rfl)) ⟨_,rfl,Below.refl _ _,rfl⟩)
   |5,hi=>
    cases hi;exact g_run (qab rfl _) (qax _ rfl (qaa ((hk.at 6 rfl).trans rfl)) ⟨_,rfl,Below.refl _ _,rfl⟩)
   |6,hi=>
    cases hi;exact g_run (qab rfl _) (qax _ rfl (qaa ((hk.at 6 rfl).trans rfl)) ⟨_,rfl,Below.refl _ _,rfl⟩)
   |7,hi=>
    cases hi;exact g_run (qab rfl _) (qax _ rfl (qaa ((hk.at 5 rfl).trans rfl)) ⟨_,rfl,Below.refl _ _,rfl⟩)
   |8,hi=>
    cases hi;obtain⟨z6,hz6,rfl⟩:=hdep 6 _ _ rfl rfl rfl;obtain⟨z7,hz7,rfl⟩:=hdep 7 _ _ rfl rfl rfl;exact g_run (qab rfl _) (z_bin _ _ _ _ _ rfl (qaa hz6) (qaa hz7) (addi _ _ _ _ _ (by rw[qav]<;>omega)) ⟨_,rfl,Below.refl _ _,by simp⟩)
   |9,hi=>
    cases hi;obtain⟨z4,hz4,rfl⟩:=hdep 4 _ _ rfl rfl rfl;obtain⟨z5,hz5,rfl⟩:=hdep 5 _ _ rfl rfl rfl;obtain⟨z8,hz8,rfl⟩:=hdep 8 _ _ rfl rfl rfl;exact g_run (qab rfl _) (z_slc _ _ _ rfl (qaa hz4) (qaa hz5) (qaa hz8) hsl ⟨_,_,_,rfl⟩ ⟨_,rfl,Below.refl _ _,rfl⟩)
   |10,hi=>
    cases hi;obtain⟨z3,hz3,rfl⟩:=hdep 3 _ _ rfl rfl rfl;obtain⟨z9,hz9,rfl⟩:=hdep 9 _ _ rfl rfl rfl;refine g_run (qab rfl _) (qak (qam _ _ _ _ _ _ _ _ cfg_body (qaa hz3) (qaa hz9) (fun _=>rfl) _ _ _ _ _ _) ?_);refine (qro u (bt l 0) (bt_lt l 0) ax m cx _ (hrx.below (hb.trans (hbu.mono hb.size))) (by omega)).mono ?_;rintro e u' ⟨p,d,rfl,ow,gd,hv,hb'⟩;exact⟨_,rfl,_,rfl,hb',p,d,rfl,ow.down (Nat.le_trans hb.size hbu.size),gd,hv⟩
   |11,hi=>
    cases hi;exact g_run (qab rfl _) (z_alP rfl ⟨_,rfl,qac _ _,⟨_,rfl,hbu.size,heap_alloc_new _ _⟩⟩)
   |(_+12),hi=>cases hi
  intro vs y9 b9 hG a3 h3;obtain⟨p,d,e10,ow,gd,hv⟩:=hG 10 (by decide);obtain⟨g,e11,hg,D⟩:=hG 11 (by decide);clear hG;replace h3:puts _ 1 _ (Fq70)=_:=h3;replace h3:puts _ 2 _ (Fq70)=_:=h3;replace h3:puts _ 3 _ (Fq70)=_:=h3;replace h3:puts _ 4 _ (Fq70)=_:=h3;replace h3:puts _ 5 _ (Fq70)=_:=h3;replace h3:puts _ 6 _ (Fq70)=_:=h3;replace h3:puts _ 7 _ (Fq70)=_:=h3;replace h3:puts _ 8 _ (Fq70)=_:=h3;replace h3:puts _ 9 _ (Fq70)=_:=h3;replace h3:puts _ 10 _ (Fq70)=_:=h3;replace h3:puts _ 11 _ (Fq70)=_:=h3;replace h3:Fq70=_:=h3;unfold Fq70 at h3;subst h3;simp only[List.drop_succ_cons,List.drop_zero];simp only[e10,e11];clear e10 e11;replace A:=A.next b9;have hgw:w.heap.size<g:=by have:=hb.size;have:=hlt;omega
  replace hb:=bel hb b9;clear b9 hsl hrx;refine qag (q:=p) (old:=Pk.zero) D rfl rfl ?_;intro y8 E g8;have A8:Blk y8 w.heap.size Pk.zero:=(g8.block w.heap.size A.lt (fun e=>by simp at e;omega)).trans A;replace ow:=ow.grown g8 (fun k e=>by cases e;exact ow.ne D);replace hb:=below_st hb g8 (by omega);clear A D g8;have A:=A8;clear A8;generalize hfo:sBody (bt l 0) ((l.drop k).take m)=v at *
  go_upto_region 13 with fail
  cases hok:(pv p d).ok with
  |false=>
   have HO:Hid ((pv p d).ok=false):=hok;have HB:Hid (∀u,Below w.heap.size w u→Got w u (.returned (.tuple #[.agg Pk.zero.cells,.int .i64 0,.int .i64 (2)])) l):=qjr l _ (by rw[HG.out,if_neg (by rw[hv,hok];simp)]);clear hok;refine qan (by kernel_rfl) rfl (fun i u x=>match i with
    |0=>u=.agg p.cells
    |1=>u=.bool false
    |2=>u=.bool true
    |3=>u=.bool true
    |4=>u=undef
    |5=>u=undef
    |6=>u=undef
    |7=>u=undef
    |8=>u=undef
    |9=>u=undef
    |10=>u=undef
    |11=>u=undef
    |12=>u=undef
    |13=>u=.bool true
    |_=>True) ?_ ?_ ?_
   ·intro i u x x' hx h
    match i,h with
    |0,h=>exact h
    |1,h=>exact h
    |2,h=>exact h
    |3,h=>exact h
    |4,h=>exact h
    |5,h=>exact h
    |6,h=>exact h
    |7,h=>exact h
    |8,h=>exact h
    |9,h=>exact h
    |10,h=>exact h
    |11,h=>exact h
    |12,h=>exact h
    |13,h=>exact h
    |(_+14),h=>trivial
   ·intro i o a u hi hk hbu hdep
    match i,hi with
    |0,hi=>
     cases hi;exact g_run (qab rfl _) (qbd (E.next hbu) _ rfl (qaa ((hk.at 8 rfl).trans rfl)) ⟨_,rfl,Below.refl _ _,rfl⟩)
    |1,hi=>
     cases hi;obtain⟨z0,hz0,rfl⟩:=hdep 0 _ _ rfl rfl rfl;refine g_run (qab rfl _) (qak (qbi _ _ _ _ _ _ cfg_ok (qaa hz0) (fun _=>rfl) _ _ _ _ _ _) ?_);refine (qgh p d u (ow.rd.below hbu) gd.sz).mono ?_;rintro e u' ⟨rfl,hb'⟩;exact⟨_,rfl,_,rfl,hb',congrArg Value.bool HO.out⟩
    |2,hi=>
     cases hi;obtain⟨z1,hz1,rfl⟩:=hdep 1 _ _ rfl rfl rfl;exact g_run (qab rfl _) (z_not _ _ rfl (qaa hz1) ⟨_,rfl,Below.refl _ _,rfl⟩)
    |3,hi=>
     cases hi;obtain⟨z2,hz2,rfl⟩:=hdep 2 _ _ rfl rfl rfl;exact g_run (qab rfl _) (qax _ rfl (qaa hz2) ⟨_,rfl,Below.refl _ _,rfl⟩)
    |4,hi=>
     cases hi;obtain⟨z3,hz3,rfl⟩:=hdep 3 _ _ rfl rfl rfl;exact qcz (qem rfl (qao rfl hz3) (by decide)) rfl
    |5,hi=>
     cases hi;obtain⟨z3,hz3,rfl⟩:=hdep 3 _ _ rfl rfl rfl;exact qcz (qem rfl (qao rfl hz3) (by decide)) rfl
    |6,hi=>
     cases hi;obtain⟨z3,hz3,rfl⟩:=hdep 3 _ _ rfl rfl rfl;exact qcz (qem rfl (qao rfl hz3) (by decide)) rfl
    |7,hi=>
     cases hi;obtain⟨z3,hz3,rfl⟩:=hdep 3 _ _ rfl rfl rfl;exact qcz (qem rfl (qao rfl hz3) (by decide)) rfl
    |8,hi=>
     cases hi;obtain⟨z3,hz3,rfl⟩:=hdep 3 _ _ rfl rfl rfl;exact qcz (qem rfl (qao rfl hz3) (by decide)) rfl
    |9,hi=>
     cases hi;obtain⟨z3,hz3,rfl⟩:=hdep 3 _ _ rfl rfl rfl;exact qcz (qem rfl (qao rfl hz3) (by decide)) rfl
    |10,hi=>
     cases hi;obtain⟨z3,hz3,rfl⟩:=hdep 3 _ _ rfl rfl rfl;exact qcz (qem rfl (qao rfl hz3) (by decide)) rfl
    |11,hi=>
     cases hi;obtain⟨z3,hz3,rfl⟩:=hdep 3 _ _ rfl rfl rfl;exact qcz (qem rfl (qao rfl hz3) (by decide)) rfl
    |12,hi=>
     cases hi;obtain⟨z3,hz3,rfl⟩:=hdep 3 _ _ rfl rfl rfl;exact qcz (qem rfl (qao rfl hz3) (by decide)) rfl
    |13,hi=>
     cases hi;obtain⟨z3,hz3,rfl⟩:=hdep 3 _ _ rfl rfl rfl;exact g_run (qab rfl _) (z_pickT _ _ _ rfl (qaa hz3) rfl ⟨_,rfl,Below.refl _ _,rfl⟩)
    |(_+14),hi=>cases hi
   intro vs y9 b9 hG a3 h3;have e13:=hG 13 (by decide);replace e13:vs 13=.bool true:=e13;clear hG;replace A:=A.next b9;replace E:=E.next b9;replace ow:=ow.below b9;replace hb:=bel hb b9;clear b9;replace h3:puts _ 1 _ (Fq70)=_:=h3;replace h3:puts _ 2 _ (Fq70)=_:=h3;replace h3:puts _ 3 _ (Fq70)=_:=h3;replace h3:puts _ 4 _ (Fq70)=_:=h3;replace h3:puts _ 5 _ (Fq70)=_:=h3;replace h3:puts _ 6 _ (Fq70)=_:=h3;replace h3:puts _ 7 _ (Fq70)=_:=h3;replace h3:puts _ 8 _ (Fq70)=_:=h3;replace h3:puts _ 9 _ (Fq70)=_:=h3;replace h3:puts _ 10 _ (Fq70)=_:=h3;replace h3:puts _ 11 _ (Fq70)=_:=h3;replace h3:puts _ 12 _ (Fq70)=_:=h3;replace h3:puts _ 13 _ (Fq70)=_:=h3;replace h3:Fq70=_:=h3;unfold Fq70 at h3;subst h3;simp only[e13];clear e13
   go_upto_region 14 with fail
   refine wp_region_list ?_;refine bu_pk Pk.zero (by kernel_rfl) ?_;go_wp2_with (first | (refine qag (q:=Pk.zero) (old:=Pk.zero) A rfl rfl ?_;intro w9 B9 g9) | fail)
   exact qcl rfl rfl rfl rfl B9 rfl (HB.out _ (below_st hb g9 (Nat.le_refl _)))
  |true=>
   have HO:Hid ((pv p d).ok=true):=hok;refine qan (by kernel_rfl) rfl (fun i u x=>match i with
    |0=>u=.agg p.cells
    |1=>u=.bool true
    |2=>u=.bool false
    |3=>u=.bool false
    |4=>u=.agg p.cells
    |5=>∃a4 n4 c4,u=.slice a4 n4 c4∧RdIn x a4 n4 c4 (pv p d).bytes
    |6=>u=.slice (some ⟨b0,off,none⟩) n cap
    |7=>u=.int .i64 k
    |8=>u=.int .i64 m
    |9=>u=.int .i64 ((k+m:Nat):Int)
    |10=>u=.slice (some ⟨b0,off,none⟩) (k+m) cap
    |11=>u=.bool (decide ((pv p d).bytes=l.take (k+m)))
    |12=>u=.bool (!decide ((pv p d).bytes=l.take (k+m)))
    |13=>u=.bool (!decide ((pv p d).bytes=l.take (k+m)))
    |_=>True) ?_ ?_ ?_
   ·intro i u x x' hx h
    match i,h with
    |0,h=>exact h
    |1,h=>exact h
    |2,h=>exact h
    |3,h=>exact h
    |4,h=>exact h
    |5,h=>exact (by obtain⟨a4,n4,c4,e1,e2⟩:=h;exact⟨a4,n4,c4,e1,e2.below hx⟩)
    |6,h=>exact h
    |7,h=>exact h
    |8,h=>exact h
    |9,h=>exact h
    |10,h=>exact h
    |11,h=>exact h
    |12,h=>exact h
    |13,h=>exact h
    |(_+14),h=>trivial
   ·intro i o a u hi hk hbu hdep
    match i,hi with
    |0,hi=>
     cases hi;exact g_run (qab rfl _) (qbd (E.next hbu) _ rfl (qaa ((hk.at 8 rfl).trans rfl)) ⟨_,rfl,Below.refl _ _,rfl⟩)
    |1,hi=>
     cases hi;obtain⟨z0,hz0,rfl⟩:=hdep 0 _ _ rfl rfl rfl;refine g_run (qab rfl _) (qak (qbi _ _ _ _ _ _ cfg_ok (qaa hz0) (fun _=>rfl) _ _ _ _ _ _) ?_);refine (qgh p d u (ow.rd.below hbu) gd.sz).mono ?_;rintro e u' ⟨rfl,hb'⟩;exact⟨_,rfl,_,rfl,hb',congrArg Value.bool HO.out⟩
    |2,hi=>
     cases hi;obtain⟨z1,hz1,rfl⟩:=hdep 1 _ _ rfl rfl rfl;exact g_run (qab rfl _) (z_not _ _ rfl (qaa hz1) ⟨_,rfl,Below.refl _ _,rfl⟩)
    |3,hi=>
     cases hi;obtain⟨z2,hz2,rfl⟩:=hdep 2 _ _ rfl rfl rfl;exact g_run (qab rfl _) (qax _ rfl (qaa hz2) ⟨_,rfl,Below.refl _ _,rfl⟩)
    |4,hi=>
     cases hi;obtain⟨z3,hz3,rfl⟩:=hdep 3 _ _ rfl rfl rfl;exact g_run (qaj rfl (qao rfl hz3)) (qbd (E.next hbu) _ rfl (qaa ((hk.at 8 rfl).trans rfl)) ⟨_,rfl,Below.refl _ _,rfl⟩)
    |5,hi=>
     cases hi;obtain⟨z3,hz3,rfl⟩:=hdep 3 _ _ rfl rfl rfl;obtain⟨z4,hz4,rfl⟩:=hdep 4 _ _ rfl rfl rfl;refine g_run (qaj rfl (qao rfl hz3)) (qak (qbi _ _ _ _ _ _ cfg_put (qaa hz4) (fun _=>rfl) _ _ _ _ _ _) ?_);refine (qpv p d u (ow.rd.below hbu) gd.sz gd.ln).mono ?_;rintro e u' ⟨a4,n4,c4,rfl,O4,hb'⟩;exact⟨_,rfl,_,rfl,hb',a4,n4,c4,rfl,O4.rd⟩
    |6,hi=>
     cases hi;obtain⟨z3,hz3,rfl⟩:=hdep 3 _ _ rfl rfl rfl;exact g_run (qaj rfl (qao rfl hz3)) (qax _ rfl (qaa ((hk.at 0 rfl).trans rfl)) ⟨_,rfl,Below.refl _ _,rfl⟩)
    |7,hi=>
     cases hi;obtain⟨z3,hz3,rfl⟩:=hdep 3 _ _ rfl rfl rfl;exact g_run (qaj rfl (qao rfl hz3)) (qax _ rfl (qaa ((hk.at 6 rfl).trans rfl)) ⟨_,rfl,Below.refl _ _,rfl⟩)
    |8,hi=>
     cases hi;obtain⟨z3,hz3,rfl⟩:=hdep 3 _ _ rfl rfl rfl;exact g_run (qaj rfl (qao rfl hz3)) (qax _ rfl (qaa ((hk.at 5 rfl).trans rfl)) ⟨_,rfl,Below.refl _ _,rfl⟩)
    |9,hi=>
     cases hi;obtain⟨z3,hz3,rfl⟩:=hdep 3 _ _ rfl rfl rfl;obtain⟨z7,hz7,rfl⟩:=hdep 7 _ _ rfl rfl rfl;obtain⟨z8,hz8,rfl⟩:=hdep 8 _ _ rfl rfl rfl;exact g_run (qaj rfl (qao rfl hz3)) (z_bin _ _ _ _ _ rfl (qaa hz7) (qaa hz8) (addi _ _ _ _ _ (by rw[qav]<;>omega)) ⟨_,rfl,Below.refl _ _,by simp⟩)
    |10,hi=>
     cases hi;obtain⟨z3,hz3,rfl⟩:=hdep 3 _ _ rfl rfl rfl;obtain⟨z6,hz6,rfl⟩:=hdep 6 _ _ rfl rfl rfl;obtain⟨z9,hz9,rfl⟩:=hdep 9 _ _ rfl rfl rfl;exact g_run (qaj rfl (qao rfl hz3)) (z_slh _ _ rfl (qaa hz6) (qaa hz9) (qqd _ n cap (k+m) (by omega)) ⟨_,_,_,rfl⟩ ⟨_,rfl,Below.refl _ _,rfl⟩)
    |11,hi=>
     cases hi;obtain⟨z3,hz3,rfl⟩:=hdep 3 _ _ rfl rfl rfl;obtain⟨z5,hz5,a4,n4,c4,e1,r4⟩:=hdep 5 _ _ rfl rfl rfl;subst e1;obtain⟨z10,hz10,rfl⟩:=hdep 10 _ _ rfl rfl rfl;refine g_run (qaj rfl (qao rfl hz3)) (qak (qam _ _ _ _ _ _ _ _ cfg_same (qaa hz5) (qaa hz10) (fun _=>rfl) _ _ _ _ _ _) ?_);refine (qgi a4 _ n4 c4 (k+m) cap _ _ u r4 (rd_headS (HR.out.below (hb.trans (hbu.mono hb.size))) (by omega))).mono ?_;rintro e u' ⟨rfl,rfl⟩;exact⟨_,rfl,_,rfl,Below.refl _ _,rfl⟩
    |12,hi=>
     cases hi;obtain⟨z3,hz3,rfl⟩:=hdep 3 _ _ rfl rfl rfl;obtain⟨z11,hz11,rfl⟩:=hdep 11 _ _ rfl rfl rfl;exact g_run (qaj rfl (qao rfl hz3)) (z_not _ _ rfl (qaa hz11) ⟨_,rfl,Below.refl _ _,rfl⟩)
    |13,hi=>
     cases hi;obtain⟨z3,hz3,rfl⟩:=hdep 3 _ _ rfl rfl rfl;obtain⟨z12,hz12,rfl⟩:=hdep 12 _ _ rfl rfl rfl;exact g_run (qab rfl _) (z_pickF _ _ _ rfl (qaa hz3) (qaa hz12) ⟨_,rfl,Below.refl _ _,rfl⟩)
    |(_+14),hi=>cases hi
   intro vs y9 b9 hG a3 h3;have e13:=hG 13 (by decide);replace e13:vs 13=.bool (!decide ((pv p d).bytes=l.take (k+m))):=e13;clear hG;replace A:=A.next b9;replace E:=E.next b9;replace ow:=ow.below b9;replace hb:=bel hb b9;clear b9;replace h3:puts _ 1 _ (Fq70)=_:=h3;replace h3:puts _ 2 _ (Fq70)=_:=h3;replace h3:puts _ 3 _ (Fq70)=_:=h3;replace h3:puts _ 4 _ (Fq70)=_:=h3;replace h3:puts _ 5 _ (Fq70)=_:=h3;replace h3:puts _ 6 _ (Fq70)=_:=h3;replace h3:puts _ 7 _ (Fq70)=_:=h3;replace h3:puts _ 8 _ (Fq70)=_:=h3;replace h3:puts _ 9 _ (Fq70)=_:=h3;replace h3:puts _ 10 _ (Fq70)=_:=h3;replace h3:puts _ 11 _ (Fq70)=_:=h3;replace h3:puts _ 12 _ (Fq70)=_:=h3;replace h3:puts _ 13 _ (Fq70)=_:=h3;replace h3:Fq70=_:=h3;unfold Fq70 at h3;subst h3;simp only[e13];clear e13
   by_cases hbt:(pv p d).bytes=l.take (k+m)
   ·have HX:Hid (∀w' e,Got w w' e l=Good w w' e (pv p d) ((k:Int)+m) (.int .i64 0)):=fun w' e=>by
     unfold Got;rw[HG.out,if_pos (by rw[hv];exact⟨hok,hbt⟩),hv];simp
    have hdt:decide ((pv p d).bytes=l.take (k+m))=true:=decide_eq_true hbt;simp only[hdt,Bool.not_true];clear hok hbt hdt HG
    go_upto_region 15 with fail
    refine wp_region_list ?_;refine qal E rfl _ rfl rfl ?_;go_wp2_with (first | (refine qag (q:=p) (old:=Pk.zero) A rfl rfl ?_;intro w9 B9 g9) | fail)
    exact qcl rfl rfl rfl rfl B9 rfl (by
     rw[HX.out];exact⟨p,d,rfl,ow.grown g9 (fun k e=>by cases e;exact ow.ne A),gd,rfl,below_st hb g9 (Nat.le_refl _)⟩)
   ·have HB:Hid (∀u,Below w.heap.size w u→Got w u (.returned (.tuple #[.agg Pk.zero.cells,.int .i64 0,.int .i64 (2)])) l):=qjr l _ (by rw[HG.out,if_neg (by rw[hv];intro hh;exact hbt hh.2)]);have hdt:decide ((pv p d).bytes=l.take (k+m))=false:=decide_eq_false hbt;simp only[hdt,Bool.not_false];clear hok hbt hdt HG
    go_upto_region 14 with fail
    refine wp_region_list ?_;refine bu_pk Pk.zero (by kernel_rfl) ?_;go_wp2_with (first | (refine qag (q:=Pk.zero) (old:=Pk.zero) A rfl rfl ?_;intro w9 B9 g9) | fail)
    exact qcl rfl rfl rfl rfl B9 rfl (HB.out _ (below_st hb g9 (Nat.le_refl _)))

def manyF:Nat→List UInt8→List Pv×Nat×Int
 |0,_=>([],0,0)
 |f+1,b=>if b.length=0 then ([],0,0) else if (getP b).2.2≠0 then ([],0,(getP b).2.2)
  else ((getP b).1 :: (manyF f (b.drop (getP b).2.1.toNat)).1,(getP b).2.1.toNat+(manyF f (b.drop (getP b).2.1.toNat)).2.1,(manyF f (b.drop (getP b).2.1.toNat)).2.2)
def many (b:List UInt8):List Pv×Nat×Int:=manyF b.length b
theorem qgg {b:List UInt8} (h:(getP b).2.2=0):2≤(getP b).2.1.toNat∧(getP b).2.1.toNat≤b.length∧(getP b).1.ok=true∧b.take (getP b).2.1.toNat=(getP b).1.bytes∧(getP b).2.1=((getP b).2.1.toNat:Int):=by
 have e:getP b=((getP b).1,(getP b).2.1,0):=by rw[←h]
 obtain⟨h1,h2,h3⟩:=getP_of e;have:=qrq h1;obtain⟨s,hs⟩:=qky.1 h2;have hl:=congrArg List.length hs;rw[List.length_append] at hl;refine⟨by omega,by omega,h1,?_,by omega⟩;have e2:(getP b).2.1.toNat=(getP b).1.bytes.length:=by omega
 rw[e2];unfold qfl at h2;exact of_decide_eq_true h2
theorem qsl:∀(f g:Nat) (b:List UInt8),b.length≤f→b.length≤g→manyF f b=manyF g b:=by
 intro f
 induction f with
 |zero=>
  intro g b hf hg;cases g with
  |zero=>rfl
  |succ g=>simp only[manyF];rw[if_pos (by omega)]
 |succ f ih=>
  intro g b hf hg;cases g with
  |zero=>simp only[manyF];rw[if_pos (by omega)]
  |succ g=>
   simp only[manyF]
   by_cases h0:b.length=0
   ·rw[if_pos h0,if_pos h0]
   rw[if_neg h0,if_neg h0]
   by_cases h1:(getP b).2.2≠0
   ·rw[if_pos h1,if_pos h1]
   rw[if_neg h1,if_neg h1];have:=qgg (b:=b) (by simpa using h1);rw[ih g (b.drop (getP b).2.1.toNat) (by rw[List.length_drop];omega) (by rw[List.length_drop];omega)]
theorem qqu:many []=([],0,0):=rfl
theorem qqt {b:List UInt8} (h0:0<b.length) (h:(getP b).2.2≠0):many b=([],0,(getP b).2.2):=by
 unfold many;rw[show b.length=b.length-1+1 from by omega];simp only[manyF];rw[if_neg (by omega),if_pos h]
theorem qoe {b:List UInt8} (h:(getP b).2.2=0):many b=((getP b).1 :: (many (b.drop (getP b).2.1.toNat)).1,(getP b).2.1.toNat+(many (b.drop (getP b).2.1.toNat)).2.1,(many (b.drop (getP b).2.1.toNat)).2.2):=by
 have hp:=qgg h;have e:manyF (b.length-1) (b.drop (getP b).2.1.toNat)=many (b.drop (getP b).2.1.toNat):=qsl _ _ _ (by rw[List.length_drop];omega) (by omega);rw[←e]
 conv=>lhs;unfold many
 rw[show b.length=b.length-1+1 from by omega];simp only[manyF];rw[if_neg (by omega),if_neg (by simp[h])];simp
theorem many_ind {P:List UInt8→Prop} (hn:P []) (he:∀b,0<b.length→(getP b).2.2≠0→P b) (hm:∀b,(getP b).2.2=0→P (b.drop (getP b).2.1.toNat)→P b):∀b,P b:=by
 have H:∀(k:Nat) (b:List UInt8),b.length≤k→P b:=by
  intro k
  induction k with
  |zero=>intro b hb;rw[List.length_eq_zero_iff.1 (show b.length=0 by omega)];exact hn
  |succ k ih=>
   intro b hb
   by_cases h0:b.length=0
   ·rw[List.length_eq_zero_iff.1 h0];exact hn
   by_cases h1:(getP b).2.2=0
   ·have:=qgg h1;exact hm b h1 (ih _ (by rw[List.length_drop];omega))
   ·exact he b (by omega) h1
 exact fun b=>H b.length b (Nat.le_refl _)
theorem many_le (b:List UInt8):(many b).2.1≤b.length∧(many b).1.length≤b.length:=by
 refine many_ind (P:=fun b=>(many b).2.1≤b.length∧(many b).1.length≤b.length) ?_ ?_ ?_ b
 ·rw[qqu];simp
 ·intro b h0 h1;rw[qqt h0 h1];simp
 ·intro b h1 ih;have:=qgg h1;rw[qoe h1];simp only[List.length_cons,List.length_drop] at ih ⊢;omega
