/- Lemmas. -/
import Derived.Test.YtpjkbgdkligpdaaGreatDoorY17
import Derived.Test.YtpjkbgdkligpdaaGreatDoorY21
import Derived.Test.YtpjkbgdkligpdaaGreatDoorY01
set_option linter.all false
set_option maxRecDepth 100000
set_option maxHeartbeats 20000000
namespace Go.Proofs.YtpjkbgdkligpdaaGreatDoor
open Go.RowKit

section
variable {P : Program} {o : Oper} {a : Act} {w : World} {K : Act → World → Prop} {Q : Exit → Act → World → Prop}
theorem z_pickT {v:Value} (c x y:Operand) (ho:o.op=.pick c x y) (hc:a.eval c=.bool true) (hx:a.eval x=v) (h:K (a.put o.dst v) w):Oper.wp P o a w K Q :=
 qae (w':=w) (v:=v) (by simp[execOp,ho,hc,hx,asBool]) h
theorem z_pickF {v:Value} (c x y:Operand) (ho:o.op=.pick c x y) (hc:a.eval c=.bool false) (hy:a.eval y=v) (h:K (a.put o.dst v) w):Oper.wp P o a w K Q :=
 qae (w':=w) (v:=v) (by simp[execOp,ho,hc,hy,asBool]) h
end
theorem z_ix {P:Program} {o:Oper} {a:Act} {w:World} {K:Act→World→Prop} {Q:Exit→Act→World→Prop} {X Y:Addr} {n c:Nat} {k:Int} (T:TypeId) (x y:Operand) (ho:o.op=.indexAddr T x y) (hx:a.eval x=.slice (some X) n c) (hy:a.eval y=.int .i64 k)
  (hr:∀u:World,(Instr.indexAt T (.slice (some X) n c) (.int .i64 k)).run P u=.ok (.pointer (some Y)) u) (h:K (a.put o.dst (.pointer (some Y))) w):Oper.wp P o a w K Q :=
 qae (w':=w) (by simp only[execOp,ho,hx,hy,Sem.run_bind,hr,Result.andThen_ok,Sem.run_pure]) h
theorem qet {o:Oper} {k:Nat} {b c:Bool} {y:Nat→Option Bool} (h:o.guard=some (k,b)) (hy:y k=some c) (hne:c≠b):Region.wanted o y=false:=by
 simp[Region.wanted,h,hy,hne]
theorem wanted_un {o:Oper} {k:Nat} {b:Bool} {y:Nat→Option Bool} (h:o.guard=some (k,b)) (hy:y k=none):Region.wanted o y=false:=by
 simp[Region.wanted,h,hy]
theorem yields_un {ops:Array Oper} {a:Act} {k s:Nat} (hk:(ops[k]?).bind (fun o=>o.dst)=some s) (h:a.tmps[s]? = some undef):yielded ops a.tmps k=none:=by
 unfold yielded;rw[hk];simp[h,undef]
theorem neb_same (u:World) (x y:Operand) (a:Bool):(do eqGuard .neq 4 x y (.bool a) (.bool a);binOp .neq 4 (.bool a) (.bool a):Sem Value).run Tryz.prog u=.ok (.bool false) u:=by
 simp[go_sem,Tryz.underlying4]
theorem cvi (n:Nat) (u:World) (h:n<256):(convert 5 3 (.int .u8 n)).run Tryz.prog u=.ok (.int .i64 n) u:=by
 have e2:IntKind.i64.wrap (n:Int)=(n:Int):=by rw[qay]<;>omega
 simp[convert,go_sem,Conv.intToInt,e2]

theorem cfg_body (xs:Array Value) (u:World):(callFunc 88 xs).run Tryz.prog u=.ok (.enter 88 xs) u:=by kernel_rfl
theorem cfg_ok (xs:Array Value) (u:World):(callFunc 17 xs).run Tryz.prog u=.ok (.enter 17 xs) u:=by kernel_rfl
theorem cfg_put (xs:Array Value) (u:World):(callFunc 90 xs).run Tryz.prog u=.ok (.enter 90 xs) u:=by kernel_rfl
theorem cfg_same (xs:Array Value) (u:World):(callFunc 89 xs).run Tryz.prog u=.ok (.enter 89 xs) u:=by kernel_rfl
theorem z_slc {o:Oper} {a:Act} {w:World} {K:Act→World→Prop} {Q:Exit→Act→World→Prop} {v r:Value} {i j:Int} (x lo hi:Operand) (ho:o.op=.slice 22 x (some lo) (some hi) none) (hx:a.eval x=v) (hlo:a.eval lo=.int .i64 i) (hhi:a.eval hi=.int .i64 j)
  (hr:∀u:World,(Instr.slice 22 v (some (.int .i64 i)) (some (.int .i64 j)) none).run Tryz.prog u=.ok r u) (hv:∃ao n cap,v=.slice ao n cap) (h:K (a.put o.dst r) w):Oper.wp Tryz.prog o a w K Q:=by
 obtain⟨ao,n,cap,rfl⟩:=hv;exact qae (w':=w) (v:=r) (by simp[execOp,ho,hx,hlo,hhi,Instr.sliceAt,hr]) h
theorem z_slh {o:Oper} {a:Act} {w:World} {K:Act→World→Prop} {Q:Exit→Act→World→Prop} {v r:Value} {j:Int} (x hi:Operand) (ho:o.op=.slice 22 x none (some hi) none) (hx:a.eval x=v) (hhi:a.eval hi=.int .i64 j)
  (hr:∀u:World,(Instr.slice 22 v none (some (.int .i64 j)) none).run Tryz.prog u=.ok r u) (hv:∃ao n cap,v=.slice ao n cap) (h:K (a.put o.dst r) w):Oper.wp Tryz.prog o a w K Q:=by
 obtain⟨ao,n,cap,rfl⟩:=hv;exact qae (w':=w) (v:=r) (by simp[execOp,ho,hx,hhi,Instr.sliceAt,hr]) h
theorem z_alP {o:Oper} {a:Act} {w:World} {K:Act→World→Prop} {Q:Exit→Act→World→Prop} (ho:o.op=.alloc 28) (h:K (a.put o.dst (.pointer (some ⟨w.heap.size,0,none⟩))) (w.alloc (.cells Pk.zero.cells 28))):Oper.wp Tryz.prog o a w K Q :=
 qae (w':=w.alloc (.cells Pk.zero.cells 28)) (v:=.pointer (some ⟨w.heap.size,0,none⟩)) (by simp only[execOp,ho,Sem.run_bind,qoi,Result.andThen_ok,Sem.run_pure]) h
theorem rd_headS {w:World} {ao:Option Addr} {n cap j:Nat} {l:List UInt8} (hr:RdIn w ao n cap l) (h:j≤n):RdIn w ao j cap (l.take j):=by
 obtain⟨⟨hl,hc⟩,hcap,hmax,hnil⟩:=hr;refine⟨⟨by rw[List.length_take];omega,fun i hi=>?_⟩,by omega,hmax,fun e=>by have:=hnil e;omega⟩;obtain⟨b,off,e,hcell⟩:=hc i (by omega);refine⟨b,off,e,?_⟩;rw[hcell];unfold bt;rw[List.getD_eq_getElem?_getD,List.getD_eq_getElem?_getD,List.getElem?_take_of_lt hi]
theorem qko {w:World} (l:List UInt8) (c:Int) (h:(getP l)=(Pv.zero,0,c)):∀u,Below w.heap.size w u→Got w u (.returned (.tuple #[.agg Pk.zero.cells,.int .i64 0,.int .i64 c])) l:=by
 intro u hu;unfold Got;rw[h];exact qtb hu
theorem qot {b:List UInt8} {c:Int} (h:headE b=.inl c):getP b=(Pv.zero,0,c):=by unfold getP;rw[h]
theorem getS_in {b:List UInt8} {n k:Nat} (h:headE b=.inr (n,k)):getP b=if (sBody (bt b 0) ((b.drop k).take n)).ok=true∧(sBody (bt b 0) ((b.drop k).take n)).bytes=b.take (k+n) then (sBody (bt b 0) ((b.drop k).take n),((k+n:Nat):Int),0) else (Pv.zero,0,2):=by
 rw[←getP_eq];unfold getS;rw[h]
theorem get_s (ao:Option Addr) (n cap:Nat) (l:List UInt8) (w:World) (hr:RdIn w ao n cap l) (hn:n≤1048576) :
  Calls Tryz.prog 27 #[.slice ao n cap] w fun e w'=>Got w w' e l:=by
 have A:Blk (w.alloc (.cells Pk.zero.cells 28)) w.heap.size Pk.zero:=heap_alloc_new _ _;have hb:=qac w (.cells Pk.zero.cells 28);have HR:Hid (RdIn w ao n cap l):=hr;have hr1:=hr.below hb;have hlt:w.heap.size<(w.alloc (.cells Pk.zero.cells 28)).heap.size:=by simp
 have hl:l.length=n:=hr.1.1
 by_cases h0:n=0
 ·subst h0;have HB:Hid (∀u,Below w.heap.size w u→Got w u (.returned (.tuple #[.agg Pk.zero.cells,.int .i64 0,.int .i64 (1)])) l):=qko l _ (qot (by unfold headE;rw[if_pos hl]));clear hr hr1 hl;go_enter Tryz.func27,Tryz.ntmps27
  go_upto_region 1 with (first | refine al_pk ?_ | fail)
  go_upto_region 2 with fail
  refine wp_region_list ?_;refine bu_pk Pk.zero (by kernel_rfl) ?_;go_wp2_with (first | (refine qag (q:=Pk.zero) (old:=Pk.zero) A rfl rfl ?_;intro w9 B9 g9) | fail)
  exact qcu rfl rfl rfl rfl B9 rfl (HB.out _ (qat hb g9 (Nat.le_refl _)))
 obtain⟨b0,off,rfl,hc⟩:=hr.1.at (show 0<n by omega);have q0':=hc 0 (by omega);rw[Nat.add_zero] at q0';have hb0:b0<w.heap.size:=World.block_lt_of_cell? _ _ q0';have HC:Hid (∀u,Below w.heap.size w u→u.cell? ⟨b0,off+0,none⟩ = some (.int .u8 (bt l 0))):=fun u hu=>(hu.cell (p:=⟨b0,off,none⟩) hb0).trans q0'
 have q0:=HC.out _ hb;rw[Nat.add_zero] at q0;clear q0' hb0 hc hr;have hx0:=bt_lt l 0;have hnE:((n:Int)==0)=false:=by simp;omega
 have hl0:¬l.length=0:=by omega
 cases hf:fstOk (bt l 0) with
 |false=>
  have HB:Hid (∀u,Below w.heap.size w u→Got w u (.returned (.tuple #[.agg Pk.zero.cells,.int .i64 0,.int .i64 (2)])) l):=qko l _ (qot (by unfold headE;rw[if_neg hl0,if_pos hf]));clear hr1 hl hl0;go_enter Tryz.func27,Tryz.ntmps27
  go_upto_region 1 with (first | refine al_pk ?_ | fail)
  go_wp2_with fail
  refine (qki (bt l 0) hx0 _).mono ?_;rintro e y1 ⟨rfl,e1⟩;rw[hf,e1];clear e1
  go_upto_region 4 with fail
  refine wp_region_list ?_;refine bu_pk Pk.zero (by kernel_rfl) ?_;go_wp2_with (first | (refine qag (q:=Pk.zero) (old:=Pk.zero) A rfl rfl ?_;intro w9 B9 g9) | fail)
  exact qcu rfl rfl rfl rfl B9 rfl (HB.out _ (qat hb g9 (Nat.le_refl _)))
 |true=>
  obtain⟨E1,E2,E3,hE⟩ : ∃E1 E2 E3,getE l 1=(E1,E2,E3):=⟨_,_,_,rfl⟩;have hf2:¬fstOk (bt l 0)=false:=by rw[hf];simp
  go_enter Tryz.func27,Tryz.ntmps27
  go_upto_region 1 with (first | refine al_pk ?_ | fail)
  go_wp2_with fail
  refine (qki (bt l 0) hx0 _).mono ?_;rintro e y1 ⟨rfl,e1⟩;rw[hf,e1];clear e1;go_wp2_with fail
  refine (quy _ n cap 1 l _ hr1 (by omega)).mono ?_;rintro e y1 ⟨rfl,e1⟩;rw[hE,e1];unfold ret3;simp only;clear e1
  by_cases h3:E3=0
  rotate_left
  ·have HB:Hid (∀u,Below w.heap.size w u→Got w u (.returned (.tuple #[.agg Pk.zero.cells,.int .i64 0,.int .i64 (E3)])) l):=qko l _ (qot (by unfold headE;rw[if_neg hl0,if_neg hf2,hE,if_pos h3]));have h3b:(E3 != 0)=true:=by simpa using h3
   clear hr1 hl hl0 hE hf2
   go_upto_region 7 with fail
   refine wp_region_list ?_;refine bu_pk Pk.zero (by kernel_rfl) ?_;go_wp2_with (first | (refine qag (q:=Pk.zero) (old:=Pk.zero) A rfl rfl ?_;intro w9 B9 g9) | fail)
   exact qcu rfl rfl rfl rfl B9 rfl (HB.out _ (qat hb g9 (Nat.le_refl _)))
  subst h3;obtain⟨m,k,rfl,rfl,hk,hm⟩:=qor (l:=l) (by omega) hE;have hkn:(k:Int)≤n:=by omega
  have h3c:¬(((m:Int),(k:Int),(0:Int)).2.2≠0):=by simp
  by_cases h4:(340:Int)<m
  ·have HB:Hid (∀u,Below w.heap.size w u→Got w u (.returned (.tuple #[.agg Pk.zero.cells,.int .i64 0,.int .i64 (2)])) l):=qko l _ (qot (by unfold headE;rw[if_neg hl0,if_neg hf2,hE,if_neg h3c,if_pos h4]));clear hr1 hl hl0 hE hf2 h3c
   go_upto_region 9 with fail
   refine wp_region_list ?_;refine bu_pk Pk.zero (by kernel_rfl) ?_;go_wp2_with (first | (refine qag (q:=Pk.zero) (old:=Pk.zero) A rfl rfl ?_;intro w9 B9 g9) | fail)
   exact qcu rfl rfl rfl rfl B9 rfl (HB.out _ (qat hb g9 (Nat.le_refl _)))
  by_cases h5:(n:Int)-k<m
  ·have HB:Hid (∀u,Below w.heap.size w u→Got w u (.returned (.tuple #[.agg Pk.zero.cells,.int .i64 0,.int .i64 (1)])) l):=qko l _ (qot (by unfold headE;rw[if_neg hl0,if_neg hf2,hE,if_neg h3c,if_neg h4,if_pos (by rw[hl];exact h5)]));clear hr1 hl hl0 hE hf2 h3c
   go_upto_region 11 with fail
   refine wp_region_list ?_;refine bu_pk Pk.zero (by kernel_rfl) ?_;go_wp2_with (first | (refine qag (q:=Pk.zero) (old:=Pk.zero) A rfl rfl ?_;intro w9 B9 g9) | fail)
   exact qcu rfl rfl rfl rfl B9 rfl (HB.out _ (qat hb g9 (Nat.le_refl _)))
  have hh:headE l=.inr (m,k):=by
   unfold headE;rw[if_neg hl0,if_neg hf2,hE,if_neg h3c,if_neg h4,if_neg (by rw[hl];exact h5)];simp
  have HG:Hid (getP l=if (sBody (bt l 0) ((l.drop k).take m)).ok=true∧(sBody (bt l 0) ((l.drop k).take m)).bytes=l.take (k+m) then (sBody (bt l 0) ((l.drop k).take m),((k+m:Nat):Int),0) else (Pv.zero,0,2)):=getS_in hh;clear hE hf2 h3c hh hl0;obtain⟨ax,cx,hsl,hrx⟩:=qjr HR.out k m (by omega);have hkm:k+m≤n:=by omega
  have hcap:n≤cap:=HR.out.2.1;have hm3:m≤340:=by omega
  clear hr1
  go_upto_region 12 with fail
  generalize hyw:w.alloc (.cells Pk.zero.cells 28)=y at *;clear hyw;refine qcw 12 (by kernel_rfl) rfl (fun i v u=>match i with
   |0=>v=.slice (some ⟨b0,off,none⟩) n cap
   |1=>v=.pointer (some ⟨b0,off+0,none⟩)
   |2=>v=.int .u8 (bt l 0)
   |3=>v=.int .i64 (bt l 0)
   |4=>v=.slice (some ⟨b0,off,none⟩) n cap
   |5=>v=.int .i64 k
   |6=>v=.int .i64 k
   |7=>v=.int .i64 m
   |8=>v=.int .i64 ((k+m:Nat):Int)
   |9=>v=.slice ax m cx
   |10=>∃p d,v=.agg (Pk.cells p)∧POwn u w.heap.size p d∧Pgd 1048576 p d∧sBody (bt l 0) ((l.drop k).take m)=pv p d
   |11=>∃g,v=.pointer (some ⟨g,0,none⟩)∧y.heap.size≤g∧Blk u g Pk.zero
   |_=>True) ?_ ?_ ?_
  ·intro i u x x' hx h
   match i,h with
   |0,h|1,h|2,h|3,h|4,h|5,h|6,h|7,h|8,h|9,h=>exact h
   |10,h=>exact (by obtain⟨p,d,e1,e2,e3,e4⟩:=h;exact⟨p,d,e1,e2.below hx,e3,e4⟩)
   |11,h=>exact (by obtain⟨g,e1,e2,e3⟩:=h;exact⟨g,e1,e2,e3.next hx⟩)
   |(_+12),h=>trivial
  ·intro i o a u hi hk hbu hdep;replace hdep:=qhdd hdep
   match i,hi with
   |0,hi=>cases hi;exact qggo rfl (qbd _ rfl (qevv hk 0 rfl rfl) (qzqq rfl))
   |1,hi=>cases hi;obtain⟨z0,hz0,rfl⟩:=hdep 0 rfl;exact qggo rfl (cz_ix _ _ _ rfl (qab hz0) rfl (cix b0 off n cap 0 (by omega) hn) (qzqq rfl))
   |2,hi=>cases hi;obtain⟨z1,hz1,rfl⟩:=hdep 1 rfl;exact qggo rfl (z_ld 5 _ rfl (qab hz1) (by kernel_rfl) (HC.out _ (hb.trans (hbu.mono hb.size))) (qzqq rfl))
   |3,hi=>cases hi;obtain⟨z2,hz2,rfl⟩:=hdep 2 rfl;exact qggo rfl (qgp _ _ _ rfl (qab hz2) (ccv _ u (bt_lt l 0)) (qzqq rfl))
   |4,hi=>cases hi;exact qggo rfl (qbd _ rfl (qevv hk 0 rfl rfl) (qzqq rfl))
   |5,hi=>cases hi;exact qggo rfl (qbd _ rfl (qevv hk 6 rfl rfl) (qzqq rfl))
   |6,hi=>cases hi;exact qggo rfl (qbd _ rfl (qevv hk 6 rfl rfl) (qzqq rfl))
   |7,hi=>cases hi;exact qggo rfl (qbd _ rfl (qevv hk 5 rfl rfl) (qzqq rfl))
   |8,hi=>cases hi;obtain⟨z6,hz6,rfl⟩:=hdep 6 rfl;obtain⟨z7,hz7,rfl⟩:=hdep 7 rfl;exact qggo rfl (z_bin _ _ _ _ _ rfl (qab hz6) (qab hz7) (addi _ _ _ _ _ (by rw[qay]<;>omega)) ⟨_,rfl,Below.refl _ _,by simp⟩)
   |9,hi=>cases hi;obtain⟨z4,hz4,rfl⟩:=hdep 4 rfl;obtain⟨z5,hz5,rfl⟩:=hdep 5 rfl;obtain⟨z8,hz8,rfl⟩:=hdep 8 rfl;exact qggo rfl (z_slc _ _ _ rfl (qab hz4) (qab hz5) (qab hz8) hsl ⟨_,_,_,rfl⟩ (qzqq rfl))
   |10,hi=>cases hi;obtain⟨z3,hz3,rfl⟩:=hdep 3 rfl;obtain⟨z9,hz9,rfl⟩:=hdep 9 rfl;refine qggo rfl (qal (qak _ _ _ _ _ _ _ _ cfg_body (qab hz3) (qab hz9) (fun _=>rfl) _ _ _ _ _ _) ?_);refine (qsq u (bt l 0) (bt_lt l 0) ax m cx _ (hrx.below (hb.trans (hbu.mono hb.size))) (by omega)).mono ?_;rintro e u' ⟨p,d,rfl,ow,gd,hv,hb'⟩;exact⟨_,rfl,_,rfl,hb',p,d,rfl,ow.down (Nat.le_trans hb.size hbu.size),gd,hv⟩
   |11,hi=>cases hi;exact qggo rfl (z_alP rfl ⟨_,rfl,qac _ _,⟨_,rfl,hbu.size,heap_alloc_new _ _⟩⟩)
   |(_+12),hi=>cases hi
  intro vs y9 b9 hG a3 h3;obtain⟨p,d,e10,ow,gd,hv⟩:=hG 10 (by decide);obtain⟨g,e11,hg,D⟩:=hG 11 (by decide);clear hG;replace h3:puts _ 2 _ (Fq70)=_:=h3;replace h3:puts _ 4 _ (Fq70)=_:=h3;replace h3:puts _ 6 _ (Fq70)=_:=h3;replace h3:puts _ 8 _ (Fq70)=_:=h3;replace h3:puts _ 10 _ (Fq70)=_:=h3;replace h3:Fq70=_:=h3;unfold Fq70 at h3;subst h3;simp only[List.drop_succ_cons,List.drop_zero];simp only[e10,e11];clear e10 e11;replace A:=A.next b9;have hgw:w.heap.size<g:=by have:=hb.size;have:=hlt;omega
  replace hb:=bel hb b9;clear b9 hsl hrx;refine qag (q:=p) (old:=Pk.zero) D rfl rfl ?_;intro y8 E g8;have A8:Blk y8 w.heap.size Pk.zero:=(g8.block w.heap.size A.lt (fun e=>by simp at e;omega)).trans A;replace ow:=ow.grown g8 (fun k e=>by cases e;exact ow.ne D);replace hb:=qat hb g8 (by omega);clear A D g8;have A:=A8;clear A8;generalize hfo:sBody (bt l 0) ((l.drop k).take m)=v at *
  go_upto_region 13 with fail
  cases hok:(pv p d).ok with
  |false=>
   have HO:Hid ((pv p d).ok=false):=hok;have HB:Hid (∀u,Below w.heap.size w u→Got w u (.returned (.tuple #[.agg Pk.zero.cells,.int .i64 0,.int .i64 (2)])) l):=qko l _ (by rw[HG.out,if_neg (by rw[hv,hok];simp)]);clear hok;refine qaw (by kernel_rfl) rfl (fun i u x=>match i with
    |0=>u=.agg p.cells
    |1=>u=.bool false
    |2=>u=.bool true
    |3=>u=.bool true
    |4=>u=undef
    |5=>u=undef
    |6=>u=undef
    |7=>u=undef
    |8=>u=undef
    |9=>u=undef
    |10=>u=undef
    |11=>u=undef
    |12=>u=undef
    |13=>u=.bool true
    |_=>True) ?_ ?_ ?_
   ·intro i u x x' hx h
    match i,h with
    |0,h|1,h|2,h|3,h|4,h|5,h|6,h|7,h|8,h|9,h|10,h|11,h|12,h|13,h=>exact h
    |(_+14),h=>trivial
   ·intro i o a u hi hk hbu hdep;replace hdep:=qhdd hdep
    match i,hi with
    |0,hi=>cases hi;exact qggo rfl (qbg (E.next hbu) _ rfl (qevv hk 8 rfl rfl) (qzqq rfl))
    |1,hi=>cases hi;obtain⟨z0,hz0,rfl⟩:=hdep 0 rfl;refine qggo rfl (qal (qbu _ _ _ _ _ _ cfg_ok (qab hz0) (fun _=>rfl) _ _ _ _ _ _) ?_);refine (qgt p d u (ow.rd.below hbu) gd.sz).mono ?_;rintro e u' ⟨rfl,hb'⟩;exact⟨_,rfl,_,rfl,hb',congrArg Value.bool HO.out⟩
    |2,hi=>cases hi;obtain⟨z1,hz1,rfl⟩:=hdep 1 rfl;exact qggo rfl (z_not _ _ rfl (qab hz1) (qzqq rfl))
    |3,hi=>cases hi;obtain⟨z2,hz2,rfl⟩:=hdep 2 rfl;exact qggo rfl (qbd _ rfl (qab hz2) (qzqq rfl))
    |4,hi=>cases hi;obtain⟨z3,hz3,rfl⟩:=hdep 3 rfl;exact qdh (qet rfl (qaq rfl hz3) (by decide)) rfl
    |5,hi=>cases hi;obtain⟨z3,hz3,rfl⟩:=hdep 3 rfl;exact qdh (qet rfl (qaq rfl hz3) (by decide)) rfl
    |6,hi=>cases hi;obtain⟨z3,hz3,rfl⟩:=hdep 3 rfl;exact qdh (qet rfl (qaq rfl hz3) (by decide)) rfl
    |7,hi=>cases hi;obtain⟨z3,hz3,rfl⟩:=hdep 3 rfl;exact qdh (qet rfl (qaq rfl hz3) (by decide)) rfl
    |8,hi=>cases hi;obtain⟨z3,hz3,rfl⟩:=hdep 3 rfl;exact qdh (qet rfl (qaq rfl hz3) (by decide)) rfl
    |9,hi=>cases hi;obtain⟨z3,hz3,rfl⟩:=hdep 3 rfl;exact qdh (qet rfl (qaq rfl hz3) (by decide)) rfl
    |10,hi=>cases hi;obtain⟨z3,hz3,rfl⟩:=hdep 3 rfl;exact qdh (qet rfl (qaq rfl hz3) (by decide)) rfl
    |11,hi=>cases hi;obtain⟨z3,hz3,rfl⟩:=hdep 3 rfl;exact qdh (qet rfl (qaq rfl hz3) (by decide)) rfl
    |12,hi=>cases hi;obtain⟨z3,hz3,rfl⟩:=hdep 3 rfl;exact qdh (qet rfl (qaq rfl hz3) (by decide)) rfl
    |13,hi=>cases hi;obtain⟨z3,hz3,rfl⟩:=hdep 3 rfl;exact qggo rfl (z_pickT _ _ _ rfl (qab hz3) rfl (qzqq rfl))
    |(_+14),hi=>cases hi
   intro vs y9 b9 hG a3 h3;have e13:=hG 13 (by decide);replace e13:vs 13=.bool true:=e13;clear hG;replace A:=A.next b9;replace E:=E.next b9;replace ow:=ow.below b9;replace hb:=bel hb b9;clear b9;replace h3:puts _ 2 _ (Fq70)=_:=h3;replace h3:puts _ 4 _ (Fq70)=_:=h3;replace h3:puts _ 6 _ (Fq70)=_:=h3;replace h3:puts _ 8 _ (Fq70)=_:=h3;replace h3:puts _ 10 _ (Fq70)=_:=h3;replace h3:puts _ 12 _ (Fq70)=_:=h3;replace h3:Fq70=_:=h3;unfold Fq70 at h3;subst h3;simp only[e13];clear e13
   go_upto_region 14 with fail
   refine wp_region_list ?_;refine bu_pk Pk.zero (by kernel_rfl) ?_;go_wp2_with (first | (refine qag (q:=Pk.zero) (old:=Pk.zero) A rfl rfl ?_;intro w9 B9 g9) | fail)
   exact qcu rfl rfl rfl rfl B9 rfl (HB.out _ (qat hb g9 (Nat.le_refl _)))
  |true=>
   have HO:Hid ((pv p d).ok=true):=hok;refine qaw (by kernel_rfl) rfl (fun i u x=>match i with
    |0=>u=.agg p.cells
    |1=>u=.bool true
    |2=>u=.bool false
    |3=>u=.bool false
    |4=>u=.agg p.cells
    |5=>∃a4 n4 c4,u=.slice a4 n4 c4∧RdIn x a4 n4 c4 (pv p d).bytes
    |6=>u=.slice (some ⟨b0,off,none⟩) n cap
    |7=>u=.int .i64 k
    |8=>u=.int .i64 m
    |9=>u=.int .i64 ((k+m:Nat):Int)
    |10=>u=.slice (some ⟨b0,off,none⟩) (k+m) cap
    |11=>u=.bool (decide ((pv p d).bytes=l.take (k+m)))
    |12=>u=.bool (!decide ((pv p d).bytes=l.take (k+m)))
    |13=>u=.bool (!decide ((pv p d).bytes=l.take (k+m)))
    |_=>True) ?_ ?_ ?_
   ·intro i u x x' hx h
    match i,h with
    |0,h|1,h|2,h|3,h|4,h=>exact h
    |5,h=>exact (by obtain⟨a4,n4,c4,e1,e2⟩:=h;exact⟨a4,n4,c4,e1,e2.below hx⟩)
    |6,h|7,h|8,h|9,h|10,h|11,h|12,h|13,h=>exact h
    |(_+14),h=>trivial
   ·intro i o a u hi hk hbu hdep;replace hdep:=qhdd hdep
    match i,hi with
    |0,hi=>cases hi;exact qggo rfl (qbg (E.next hbu) _ rfl (qevv hk 8 rfl rfl) (qzqq rfl))
    |1,hi=>cases hi;obtain⟨z0,hz0,rfl⟩:=hdep 0 rfl;refine qggo rfl (qal (qbu _ _ _ _ _ _ cfg_ok (qab hz0) (fun _=>rfl) _ _ _ _ _ _) ?_);refine (qgt p d u (ow.rd.below hbu) gd.sz).mono ?_;rintro e u' ⟨rfl,hb'⟩;exact⟨_,rfl,_,rfl,hb',congrArg Value.bool HO.out⟩
    |2,hi=>cases hi;obtain⟨z1,hz1,rfl⟩:=hdep 1 rfl;exact qggo rfl (z_not _ _ rfl (qab hz1) (qzqq rfl))
    |3,hi=>cases hi;obtain⟨z2,hz2,rfl⟩:=hdep 2 rfl;exact qggo rfl (qbd _ rfl (qab hz2) (qzqq rfl))
    |4,hi=>cases hi;obtain⟨z3,hz3,rfl⟩:=hdep 3 rfl;exact g_run (qao rfl (qaq rfl hz3)) (qbg (E.next hbu) _ rfl (qevv hk 8 rfl rfl) (qzqq rfl))
    |5,hi=>cases hi;obtain⟨z3,hz3,rfl⟩:=hdep 3 rfl;obtain⟨z4,hz4,rfl⟩:=hdep 4 rfl;refine g_run (qao rfl (qaq rfl hz3)) (qal (qbu _ _ _ _ _ _ cfg_put (qab hz4) (fun _=>rfl) _ _ _ _ _ _) ?_);refine (qhb p d u (ow.rd.below hbu) gd.sz gd.ln).mono ?_;rintro e u' ⟨a4,n4,c4,rfl,O4,hb'⟩;exact⟨_,rfl,_,rfl,hb',a4,n4,c4,rfl,O4.rd⟩
    |6,hi=>cases hi;obtain⟨z3,hz3,rfl⟩:=hdep 3 rfl;exact g_run (qao rfl (qaq rfl hz3)) (qbd _ rfl (qevv hk 0 rfl rfl) (qzqq rfl))
    |7,hi=>cases hi;obtain⟨z3,hz3,rfl⟩:=hdep 3 rfl;exact g_run (qao rfl (qaq rfl hz3)) (qbd _ rfl (qevv hk 6 rfl rfl) (qzqq rfl))
    |8,hi=>cases hi;obtain⟨z3,hz3,rfl⟩:=hdep 3 rfl;exact g_run (qao rfl (qaq rfl hz3)) (qbd _ rfl (qevv hk 5 rfl rfl) (qzqq rfl))
    |9,hi=>cases hi;obtain⟨z3,hz3,rfl⟩:=hdep 3 rfl;obtain⟨z7,hz7,rfl⟩:=hdep 7 rfl;obtain⟨z8,hz8,rfl⟩:=hdep 8 rfl;exact g_run (qao rfl (qaq rfl hz3)) (z_bin _ _ _ _ _ rfl (qab hz7) (qab hz8) (addi _ _ _ _ _ (by rw[qay]<;>omega)) ⟨_,rfl,Below.refl _ _,by simp⟩)
    |10,hi=>cases hi;obtain⟨z3,hz3,rfl⟩:=hdep 3 rfl;obtain⟨z6,hz6,rfl⟩:=hdep 6 rfl;obtain⟨z9,hz9,rfl⟩:=hdep 9 rfl;exact g_run (qao rfl (qaq rfl hz3)) (z_slh _ _ rfl (qab hz6) (qab hz9) (qmu _ n cap (k+m) (by omega)) ⟨_,_,_,rfl⟩ (qzqq rfl))
    |11,hi=>cases hi;obtain⟨z3,hz3,rfl⟩:=hdep 3 rfl;obtain⟨z5,hz5,a4,n4,c4,e1,r4⟩:=hdep 5 rfl;subst e1;obtain⟨z10,hz10,rfl⟩:=hdep 10 rfl;refine g_run (qao rfl (qaq rfl hz3)) (qal (qak _ _ _ _ _ _ _ _ cfg_same (qab hz5) (qab hz10) (fun _=>rfl) _ _ _ _ _ _) ?_);refine (qgw a4 _ n4 c4 (k+m) cap _ _ u r4 (rd_headS (HR.out.below (hb.trans (hbu.mono hb.size))) (by omega))).mono ?_;rintro e u' ⟨rfl,rfl⟩;exact⟨_,rfl,_,rfl,Below.refl _ _,rfl⟩
    |12,hi=>cases hi;obtain⟨z3,hz3,rfl⟩:=hdep 3 rfl;obtain⟨z11,hz11,rfl⟩:=hdep 11 rfl;exact g_run (qao rfl (qaq rfl hz3)) (z_not _ _ rfl (qab hz11) (qzqq rfl))
    |13,hi=>cases hi;obtain⟨z3,hz3,rfl⟩:=hdep 3 rfl;obtain⟨z12,hz12,rfl⟩:=hdep 12 rfl;exact qggo rfl (z_pickF _ _ _ rfl (qab hz3) (qab hz12) (qzqq rfl))
    |(_+14),hi=>cases hi
   intro vs y9 b9 hG a3 h3;have e13:=hG 13 (by decide);replace e13:vs 13=.bool (!decide ((pv p d).bytes=l.take (k+m))):=e13;clear hG;replace A:=A.next b9;replace E:=E.next b9;replace ow:=ow.below b9;replace hb:=bel hb b9;clear b9;replace h3:puts _ 2 _ (Fq70)=_:=h3;replace h3:puts _ 4 _ (Fq70)=_:=h3;replace h3:puts _ 6 _ (Fq70)=_:=h3;replace h3:puts _ 8 _ (Fq70)=_:=h3;replace h3:puts _ 10 _ (Fq70)=_:=h3;replace h3:puts _ 12 _ (Fq70)=_:=h3;replace h3:Fq70=_:=h3;unfold Fq70 at h3;subst h3;simp only[e13];clear e13
   by_cases hbt:(pv p d).bytes=l.take (k+m)
   ·have HX:Hid (∀w' e,Got w w' e l=Good w w' e (pv p d) ((k:Int)+m) (.int .i64 0)):=fun w' e=>by
     unfold Got;rw[HG.out,if_pos (by rw[hv];exact⟨hok,hbt⟩),hv];simp
    have hdt:decide ((pv p d).bytes=l.take (k+m))=true:=decide_eq_true hbt;simp only[hdt,Bool.not_true];clear hok hbt hdt HG
    go_upto_region 15 with fail
    refine wp_region_list ?_;refine qaj E rfl _ rfl rfl ?_;go_wp2_with (first | (refine qag (q:=p) (old:=Pk.zero) A rfl rfl ?_;intro w9 B9 g9) | fail)
    exact qcu rfl rfl rfl rfl B9 rfl (by
     rw[HX.out];exact⟨p,d,rfl,ow.grown g9 (fun k e=>by cases e;exact ow.ne A),gd,rfl,qat hb g9 (Nat.le_refl _)⟩)
   ·have HB:Hid (∀u,Below w.heap.size w u→Got w u (.returned (.tuple #[.agg Pk.zero.cells,.int .i64 0,.int .i64 (2)])) l):=qko l _ (by rw[HG.out,if_neg (by rw[hv];intro hh;exact hbt hh.2)]);have hdt:decide ((pv p d).bytes=l.take (k+m))=false:=decide_eq_false hbt;simp only[hdt,Bool.not_false];clear hok hbt hdt HG
    go_upto_region 14 with fail
    refine wp_region_list ?_;refine bu_pk Pk.zero (by kernel_rfl) ?_;go_wp2_with (first | (refine qag (q:=Pk.zero) (old:=Pk.zero) A rfl rfl ?_;intro w9 B9 g9) | fail)
    exact qcu rfl rfl rfl rfl B9 rfl (HB.out _ (qat hb g9 (Nat.le_refl _)))

theorem bt_pre {l t:List UInt8} {p:Nat} (h:p<l.length):bt (l++t) p=bt l p:=by
 unfold bt;rw[List.getD_eq_getElem?_getD,List.getD_eq_getElem?_getD,List.getElem?_append_left h]
theorem getE_ext {b t:List UInt8} (hb:1≤b.length) (h:(getE b 1).2.2≠1):getE (b++t) 1=getE b 1:=by
 unfold getE at h ⊢;rw[if_pos ⟨by omega,by omega⟩] at h;rw[if_pos ⟨by omega,by rw[List.length_append];omega⟩,if_pos ⟨by omega,by omega⟩];exact ansG_ext b t _ 4 (by omega) (fun e=>h (by rw[e]))
theorem headE_ext {b t:List UInt8} (h:headE b≠.inl 1):headE (b++t)=headE b:=by
 unfold headE at h
 by_cases g0:b.length=0
 ·rw[if_pos g0] at h;exact absurd rfl h
 rw[if_neg g0] at h;have hf:bt (b++t) 0=bt b 0:=bt_pre (by omega);have g0':¬(b++t).length=0:=by rw[List.length_append];omega
 by_cases g1:fstOk (bt b 0)=false
 ·unfold headE;rw[if_neg g0',if_neg g0,hf,if_pos g1,if_pos g1]
 rw[if_neg g1] at h
 by_cases g2:(getE b 1).2.2=1
 ·rw[if_pos (by rw[g2];decide),g2] at h;exact absurd rfl h
 have hE:getE (b++t) 1=getE b 1:=getE_ext (by omega) g2;unfold headE;rw[if_neg g0',if_neg g0,hf,hE]
 by_cases g3:(getE b 1).2.2≠0
 ·simp only[if_pos g3]
 rw[if_neg g3] at h;simp only[if_neg g1,if_neg g3]
 by_cases g4:340<(getE b 1).1
 ·simp only[if_pos g4]
 rw[if_neg g4] at h;simp only[if_neg g4]
 by_cases g5:(b.length:Int)-(getE b 1).2.1<(getE b 1).1
 ·rw[if_pos g5] at h;exact absurd rfl h
 rw[if_neg g5,if_neg (by rw[List.length_append];omega)]
theorem begins_ext {b t p:List UInt8} (h:qeg b p=true):qeg (b++t) p=true:=by
 obtain⟨s,rfl⟩:=qew.1 h;exact qew.2 ⟨s++t,by rw[List.append_assoc]⟩
theorem getP_three (b:List UInt8):(getP b).2.2=0∨(getP b).2.2=1∨(getP b).2.2=2:=by
 by_cases h:(getP b).2.2=0
 ·exact .inl h
 ·exact .inr (qob (b:=b) (v:=(getP b).1) (n:=(getP b).2.1) (c:=(getP b).2.2) rfl h).2.2
theorem getP_one {b:List UInt8} (h:(getP b).2.2=1):headE b=.inl 1:=by
 unfold getP at h;cases hh:headE b with
 |inl c=>rw[hh] at h;simp only at h;rw[h]
 |inr nk=>
  obtain⟨n,k⟩:=nk;rw[hh] at h;simp only at h
  split at h<;>simp at h
theorem getP_of1 {b:List UInt8} (h:headE b=.inl 1):getP b=(Pv.zero,0,1):=by
 unfold getP;rw[h]
theorem qrt {b t:List UInt8} (h:(getP b).2.2≠1):getP (b++t)=getP b:=by
 by_cases h0:(getP b).2.2=0
 ·have e:getP b=((getP b).1,(getP b).2.1,0):=by rw[←h0]
  obtain⟨h1,h2,h3⟩:=quw e;rw[qlc h1 (begins_ext h2),qlc h1 h2]
 ·have hb:=qob (b:=b) (v:=(getP b).1) (n:=(getP b).2.1) (c:=(getP b).2.2) rfl h0;have h2:(getP b).2.2=2:=by have:=hb.2.2;omega
  have eb:getP b=(Pv.zero,0,2):=by rw[←hb.1,←hb.2.1,←h2]
  rw[eb];have hne:headE b≠.inl 1:=fun e=>by rw[getP_of1 e] at h2;simp at h2
  have hx:=headE_ext (t:=t) hne
  by_cases g:(getP (b++t)).2.2=0
  ·have e:getP (b++t)=((getP (b++t)).1,(getP (b++t)).2.1,0):=by rw[←g]
   obtain⟨h1,h3,h4⟩:=quw e;have hk:=qoz h1 h3;have hl:=headE_le (hx ▸ hk.1);have hlen:=qhe h1;have:qeg b (getP (b++t)).1.bytes=true:=by
    obtain⟨s,hs⟩:=qew.1 h3;have h5:b=(getP (b++t)).1.bytes++b.drop (getP (b++t)).1.bytes.length:=by
     have h6:b.take (getP (b++t)).1.bytes.length=(getP (b++t)).1.bytes:=by
      have h7:=congrArg (List.take (getP (b++t)).1.bytes.length) hs;rw[List.take_left,List.take_append_of_le_length (by omega)] at h7;exact h7
     conv=>lhs;rw[←List.take_append_drop (getP (b++t)).1.bytes.length b,h6]
    exact qew.2 ⟨_,h5⟩
   rw[qlc h1 this] at h0;exact absurd rfl h0
  ·have hc:=qob (b:=b++t) (v:=(getP (b++t)).1) (n:=(getP (b++t)).2.1) (c:=(getP (b++t)).2.2) rfl g
   rcases hc.2.2 with h5 | h5
   ·exact absurd (hx ▸ getP_one h5) hne
   ·rw[show getP (b++t)=((getP (b++t)).1,(getP (b++t)).2.1,(getP (b++t)).2.2) from rfl,hc.1,hc.2.1,h5]
theorem getP_nil:getP []=(Pv.zero,0,1):=getP_of1 (by unfold headE;rw[if_pos List.length_nil])
def manyF:Nat→List UInt8→List Pv×Nat×Int
 |0,_=>([],0,0)
 |f+1,b=>if b.length=0 then ([],0,0) else if (getP b).2.2≠0 then ([],0,(getP b).2.2)
  else ((getP b).1 :: (manyF f (b.drop (getP b).2.1.toNat)).1,(getP b).2.1.toNat+(manyF f (b.drop (getP b).2.1.toNat)).2.1,(manyF f (b.drop (getP b).2.1.toNat)).2.2)
def many (b:List UInt8):List Pv×Nat×Int:=manyF b.length b
theorem qff {b:List UInt8} (h:(getP b).2.2=0):2≤(getP b).2.1.toNat∧(getP b).2.1.toNat≤b.length∧(getP b).1.ok=true∧b.take (getP b).2.1.toNat=(getP b).1.bytes∧(getP b).2.1=((getP b).2.1.toNat:Int):=by
 have e:getP b=((getP b).1,(getP b).2.1,0):=by rw[←h]
 obtain⟨h1,h2,h3⟩:=quw e;have:=qss h1;obtain⟨s,hs⟩:=qew.1 h2;have hl:=congrArg List.length hs;rw[List.length_append] at hl;refine⟨by omega,by omega,h1,?_,by omega⟩;have e2:(getP b).2.1.toNat=(getP b).1.bytes.length:=by omega
 rw[e2];unfold qeg at h2;exact of_decide_eq_true h2
theorem qto:∀(f g:Nat) (b:List UInt8),b.length≤f→b.length≤g→manyF f b=manyF g b:=by
 intro f
 induction f with
 |zero=>
  intro g b hf hg;cases g with
  |zero=>rfl
  |succ g=>simp only[manyF];rw[if_pos (by omega)]
 |succ f ih=>
  intro g b hf hg;cases g with
  |zero=>simp only[manyF];rw[if_pos (by omega)]
  |succ g=>
   simp only[manyF]
   by_cases h0:b.length=0
   ·rw[if_pos h0,if_pos h0]
   rw[if_neg h0,if_neg h0]
   by_cases h1:(getP b).2.2≠0
   ·rw[if_pos h1,if_pos h1]
   rw[if_neg h1,if_neg h1];have:=qff (b:=b) (by simpa using h1);rw[ih g (b.drop (getP b).2.1.toNat) (by rw[List.length_drop];omega) (by rw[List.length_drop];omega)]
theorem qil:many []=([],0,0):=rfl
theorem qfg {b:List UInt8} (h0:0<b.length) (h:(getP b).2.2≠0):many b=([],0,(getP b).2.2):=by
 unfold many;rw[show b.length=b.length-1+1 from by omega];simp only[manyF];rw[if_neg (by omega),if_pos h]
theorem qdb {b:List UInt8} (h:(getP b).2.2=0):many b=((getP b).1 :: (many (b.drop (getP b).2.1.toNat)).1,(getP b).2.1.toNat+(many (b.drop (getP b).2.1.toNat)).2.1,(many (b.drop (getP b).2.1.toNat)).2.2):=by
 have hp:=qff h;have e:manyF (b.length-1) (b.drop (getP b).2.1.toNat)=many (b.drop (getP b).2.1.toNat):=qto _ _ _ (by rw[List.length_drop];omega) (by omega);rw[←e]
 conv=>lhs;unfold many
 rw[show b.length=b.length-1+1 from by omega];simp only[manyF];rw[if_neg (by omega),if_neg (by simp[h])];simp
theorem qik {P:List UInt8→Prop} (hn:P []) (he:∀b,0<b.length→(getP b).2.2≠0→P b) (hm:∀b,(getP b).2.2=0→P (b.drop (getP b).2.1.toNat)→P b):∀b,P b:=by
 have H:∀(k:Nat) (b:List UInt8),b.length≤k→P b:=by
  intro k
  induction k with
  |zero=>intro b hb;rw[List.length_eq_zero_iff.1 (show b.length=0 by omega)];exact hn
  |succ k ih=>
   intro b hb
   by_cases h0:b.length=0
   ·rw[List.length_eq_zero_iff.1 h0];exact hn
   by_cases h1:(getP b).2.2=0
   ·have:=qff h1;exact hm b h1 (ih _ (by rw[List.length_drop];omega))
   ·exact he b (by omega) h1
 exact fun b=>H b.length b (Nat.le_refl _)
theorem qrz (b:List UInt8):(many b).2.1≤b.length∧(many b).1.length≤b.length:=by
 refine qik (P:=fun b=>(many b).2.1≤b.length∧(many b).1.length≤b.length) ?_ ?_ ?_ b
 ·rw[qil];simp
 ·intro b h0 h1;rw[qfg h0 h1];simp
 ·intro b h1 ih;have:=qff h1;rw[qdb h1];simp only[List.length_cons,List.length_drop] at ih ⊢;omega
theorem many_code (b:List UInt8):(many b).2.2=0∨(many b).2.2=1∨(many b).2.2=2:=by
 refine qik (P:=fun b=>(many b).2.2=0∨(many b).2.2=1∨(many b).2.2=2) ?_ ?_ ?_ b
 ·exact .inl rfl
 ·intro b h0 h1;rw[qfg h0 h1];exact getP_three b
 ·intro b h1 ih;rw[qdb h1];exact ih
def allB (l:List Pv):List UInt8:=l.flatMap Pv.bytes
theorem many_bytes (b:List UInt8):b.take (many b).2.1=allB (many b).1:=by
 refine qik (P:=fun b=>b.take (many b).2.1=allB (many b).1) ?_ ?_ ?_ b
 ·rfl
 ·intro b h0 h1;rw[qfg h0 h1];rfl
 ·intro b h1 ih;have hp:=qff h1;rw[qdb h1];simp only[allB,List.flatMap_cons] at ih ⊢;rw[←hp.2.2.2.1,←ih,List.take_add]
theorem many_left (b:List UInt8):((many b).2.2=0→(many b).2.1=b.length)∧((many b).2.2≠0→(many b).2.1<b.length∧(getP (b.drop (many b).2.1)).2.2=(many b).2.2):=by
 refine qik (P:=fun b=>((many b).2.2=0→(many b).2.1=b.length)∧((many b).2.2≠0→(many b).2.1<b.length∧(getP (b.drop (many b).2.1)).2.2=(many b).2.2)) ?_ ?_ ?_ b
 ·rw[qil];exact⟨fun _=>rfl,fun h=>absurd rfl h⟩
 ·intro b h0 h1;rw[qfg h0 h1];exact⟨fun h=>absurd h h1,fun _=>⟨h0,rfl⟩⟩
 ·intro b h1 ih;have hp:=qff h1;rw[qdb h1];simp only[List.length_drop] at ih ⊢;refine⟨fun h=>?_,fun h=>?_⟩
  ·have:=ih.1 h;omega
  ·have:=ih.2 h;rw[List.drop_drop] at this;exact⟨by omega,this.2⟩
theorem many_app (b t:List UInt8) (h:(many b).2.2≠2):many (b++t)=((many b).1++(many (b.drop (many b).2.1++t)).1,(many b).2.1+(many (b.drop (many b).2.1++t)).2.1,(many (b.drop (many b).2.1++t)).2.2):=by
 revert h
 refine qik (P:=fun b=>(many b).2.2≠2→many (b++t)=((many b).1++(many (b.drop (many b).2.1++t)).1,(many b).2.1+(many (b.drop (many b).2.1++t)).2.1,(many (b.drop (many b).2.1++t)).2.2)) ?_ ?_ ?_ b
 ·intro _;rw[qil];simp
 ·intro b h0 h1 _;rw[qfg h0 h1];simp
 ·intro b h1 ih h;have hp:=qff h1;rw[qdb h1] at h;have e:=qrt (b:=b) (t:=t) (by rw[h1];decide);have:=ih h;rw[qdb (b:=b++t) (by rw[e];exact h1),qdb h1,e];rw[List.drop_append_of_le_length hp.2.1,this];simp only[List.drop_drop,List.cons_append,Nat.add_assoc]
theorem many_bad (b t:List UInt8) (h:(many b).2.2=2):many (b++t)=many b:=by
 revert h
 refine qik (P:=fun b=>(many b).2.2=2→many (b++t)=many b) ?_ ?_ ?_ b
 ·intro h;rw[qil] at h;simp at h
 ·intro b h0 h1 h;rw[qfg h0 h1] at h ⊢;simp only at h;have e:=qrt (b:=b) (t:=t) (by rw[h];decide);rw[qfg (by rw[List.length_append];omega) (by rw[e];exact h1),e]
 ·intro b h1 ih h;have hp:=qff h1;rw[qdb h1] at h;have e:=qrt (b:=b) (t:=t) (by rw[h1];decide);rw[qdb (b:=b++t) (by rw[e];exact h1),qdb h1,e,List.drop_append_of_le_length hp.2.1,ih h]
def bufOk (h:List UInt8) (x:Bool):Bool:=if h.length=0 then true else decide ((getP h).2.2=1)&&!x
def feed (h:List UInt8) (x:Bool) (b:List UInt8):List UInt8×Bool×List Pv :=
 if bufOk h x=false∨x=true then (h,x,[])
 else if (many (h++b)).2.2=2 then ([],true,(many (h++b)).1)
 else ((h++b).drop (many (h++b)).2.1,false,(many (h++b)).1)
def qce (h:List UInt8) (x:Bool):List (List UInt8)→List UInt8×Bool×List Pv
 |[]=>(h,x,[])
 |b :: l=>((qce (feed h x b).1 (feed h x b).2.1 l).1,(qce (feed h x b).1 (feed h x b).2.1 l).2.1,(feed h x b).2.2++(qce (feed h x b).1 (feed h x b).2.1 l).2.2)
theorem bufOk_left (b:List UInt8) (h:(many b).2.2≠2):bufOk (b.drop (many b).2.1) false=true:=by
 unfold bufOk
 split
 ·rfl
 ·rename_i g
  have hl:=many_left b;rw[List.length_drop] at g;have h0:(many b).2.2≠0:=fun e=>by have:=hl.1 e;omega
  have h1:=(hl.2 h0).2;have:=many_code b;simp only[Bool.not_false,Bool.and_true,decide_eq_true_eq];omega
theorem bufOk_many {h:List UInt8} (g:bufOk h false=true):(many h).1 = []∧(many h).2.1=0∧(many h).2.2≠2:=by
 unfold bufOk at g
 split at g
 ·rename_i g0
  rw[List.length_eq_zero_iff.1 g0,qil];simp
 ·rename_i g0
  simp only[Bool.not_false,Bool.and_true,decide_eq_true_eq] at g;rw[qfg (by omega) (by rw[g];decide),g];simp
theorem feed_bad (h:List UInt8) (x:Bool) (hx:bufOk h x=false∨x=true) (l:List (List UInt8)):qce h x l=(h,x,[]):=by
 induction l with
 |nil=>rfl
 |cons b l ih=>
  have e:feed h x b=(h,x,[]):=by unfold feed;rw[if_pos hx]
  simp only[qce,e,ih,List.nil_append]
theorem feedAll_eq (h:List UInt8) (g:bufOk h false=true) (l:List (List UInt8)) :
  qce h false l=if (many (h++l.flatten)).2.2=2 then ([],true,(many (h++l.flatten)).1) else ((h++l.flatten).drop (many (h++l.flatten)).2.1,false,(many (h++l.flatten)).1):=by
 induction l generalizing h with
 |nil=>
  have hb:=bufOk_many g;simp only[List.flatten_nil,List.append_nil];rw[if_neg hb.2.2,hb.1,hb.2.1];rfl
 |cons b l ih=>
  have hf:feed h false b=if (many (h++b)).2.2=2 then ([],true,(many (h++b)).1) else ((h++b).drop (many (h++b)).2.1,false,(many (h++b)).1):=by
   unfold feed;rw[if_neg (by rw[g];simp)]
  have ha:h++(b :: l).flatten=(h++b)++l.flatten:=by simp
  rw[ha]
  by_cases h2:(many (h++b)).2.2=2
  ·rw[if_pos h2] at hf;rw[many_bad _ _ h2,if_pos h2];simp only[qce,hf,feed_bad [] true (.inr rfl) l,List.append_nil]
  ·rw[if_neg h2] at hf;have:=ih _ (bufOk_left _ h2);rw[many_app _ _ h2];simp only[qce,hf,this];have hle:=(qrz (h++b)).1
   by_cases h3:(many ((h++b).drop (many (h++b)).2.1++l.flatten)).2.2=2
   ·rw[if_pos h3,if_pos h3]
   ·rw[if_neg h3,if_neg h3];simp only[←List.drop_drop];rw[List.drop_append_of_le_length hle]

def Many (w w':World) (v:Value) (l:List UInt8):Prop:=∃a c q,v=.slice a (List.length q) c∧QOwn w' w.heap.size a q.length c q∧pvs q=(many l).1∧∀x∈q,Pgd 1048576 x.1 x.2
theorem many_step {l:List UInt8} {t nn:Nat} {v:Pv} {q:List Pv} (hg:getP (l.drop t)=(v,(nn:Int),0)) (h:many l=(q++(many (l.drop t)).1,t+(many (l.drop t)).2.1,(many (l.drop t)).2.2)) :
  many l=((q++[v])++(many (l.drop (t+nn))).1,(t+nn)+(many (l.drop (t+nn))).2.1,(many (l.drop (t+nn))).2.2):=by
 have h0:(getP (l.drop t)).2.2=0:=by rw[hg]
 have hm:=qdb h0;rw[hg] at hm;simp only[Int.toNat_natCast,List.drop_drop] at hm;rw[h,hm];simp only[List.append_assoc,List.singleton_append,Prod.mk.injEq,and_true,true_and];omega
theorem many_stop {l:List UInt8} {t:Nat} {v:Pv} {nn cc:Int} {q:List Pv} (ht:t<l.length) (hg:getP (l.drop t)=(v,nn,cc)) (hc:cc≠0) (h:many l=(q++(many (l.drop t)).1,t+(many (l.drop t)).2.1,(many (l.drop t)).2.2)):many l=(q,t,cc):=by
 have h0:(getP (l.drop t)).2.2≠0:=by rw[hg];exact hc
 have hm:=qfg (by rw[List.length_drop];omega) h0;rw[hg] at hm;rw[h,hm];simp
theorem many_done {l:List UInt8} {t:Nat} {q:List Pv} (ht:l.length≤t) (h:many l=(q++(many (l.drop t)).1,t+(many (l.drop t)).2.1,(many (l.drop t)).2.2)):many l=(q,t,0):=by
 rw[List.drop_of_length_le ht,qil] at h
 simpa using h
theorem many_i (ao:Option Addr) (n cap:Nat) (l:List UInt8) (w:World) (hr:RdIn w ao n cap l) (hn:n≤1048576) (hT:ErrTy w) :
  Calls Tryz.prog 91 #[.slice ao n cap] w fun e w'=>∃v,e=.returned (.tuple #[v,.int .i64 ((many l).2.1:Nat),.int .i64 (many l).2.2])∧Many w w' v l∧Below w.heap.size w w':=by
 have hTl:1<w.heap.size:=World.block_lt_of_cell? _ _ hT;have HT:Hid (∀u,Below w.heap.size w u→ErrTy u):=fun u hu=>hT.below hu hTl
 clear hTl hT;have HR:Hid (∀u,Below w.heap.size w u→RdIn u ao n cap l):=fun u hu=>hr.below hu
 have HL:Hid (l.length=n):=hr.1.1;clear hr;go_enter Tryz.func91,Tryz.ntmps91;go_wp2
 go_loopw [5,6] (fun v i wr=>∃(t:Nat) (a:Option Addr) (c:Nat) (q:PL),i=.int .i64 t∧v=.slice a (List.length q) c∧t≤n∧q.length≤t∧QOwn wr w.heap.size a q.length c q∧Hid (many l=(pvs q++(many (l.drop t)).1,t+(many (l.drop t)).2.1,(many (l.drop t)).2.2))∧(∀x∈q,Pgd 1048576 x.1 x.2)∧Below w.heap.size w wr) (fun _ i _=>n-(intOf i).toNat)
 case atStart=>exact⟨0,_,_,[],rfl,rfl,Nat.zero_le _,Nat.le_refl _,qls w,(by show many l=_;simp[pvs]),fun x h=>(by cases h),qac _ _⟩
 case round=>
  obtain⟨t,a,c,q,rfl,rfl,ht,hqt,hQ,HM,hG,hb⟩:=hrel;have HG:Hid (∀x∈q,Pgd 1048576 x.1 x.2):=hG;clear hG
  by_cases hlt:t<n
  ·have hlt':(t:Int)<n:=by omega
   obtain⟨ax,cx,hsl,hrx⟩:=qhw (HR.out _ hb) t ht;obtain⟨v,nn,cc,hg⟩ : ∃v nn cc,getP (l.drop t)=(v,nn,cc):=⟨_,_,_,rfl⟩;have HGP:Hid (getP (l.drop t)=(v,nn,cc)):=hg;clear hg;have hsz:=hb.size;go_wp2_with fail
   refine (get_i _ _ _ _ _ hrx (by omega) (HT.out _ hb)).mono ?_;intro e u2 hh;unfold Got at hh;rw[HGP.out] at hh;obtain⟨p,d,rfl,ow,gd,hpv,b2⟩:=hh;have HV:Hid (pv p d=v):=hpv;have HS:Hid (∀x∈q,∀k,x.1.has k→¬p.has k):=fun x hx k h1 h2=>by
    have h3:=((hQ.own x hx).lt h1).2;have h4:=(ow.lt h2).1;omega
   have hQ2:=hQ.below b2;replace hb:=bel hb b2;have A:Blk (u2.alloc (.cells p.cells 28)) u2.heap.size p:=heap_alloc_new _ _;have b3:=qac u2 (.cells p.cells 28);have hQ3:=hQ2.below b3;have ow3:=(ow.below b3).low hsz;replace hb:=bel hb b3;clear hsl hrx hpv hQ hQ2 b2 b3 ow hsz
   by_cases hcc:cc=0
   ·subst hcc;obtain⟨k,rfl,hk⟩ : ∃k:Nat,nn=k∧t+k≤n∧2≤k:=by
     have h0:(getP (l.drop t)).2.2=0:=by rw[HGP.out]
     obtain⟨k1,k2,k3,k4,k5⟩:=qff h0;rw[HGP.out] at k1 k2 k5;simp only at k1 k2 k5;rw[List.length_drop,HL.out] at k2;exact⟨_,k5,by omega,by omega⟩
    have HM2:=many_step HGP.out HM.out;rw[←HV.out] at HM2;have HM3:Hid (many l=(pvs (q++[(p,d)])++(many (l.drop (t+k))).1,(t+k)+(many (l.drop (t+k))).2.1,(many (l.drop (t+k))).2.2)):=by
     show many l=_;rw[qvj];exact HM2
    have HG3:Hid (∀x∈q++[(p,d)],Pgd 1048576 x.1 x.2):=fun x hx=>by
     rw[List.mem_append] at hx
     rcases hx with hx | hx
     ·exact HG.out x hx
     ·obtain rfl:x=(p,d):=by simpa using hx
      exact gd
    have b4:=qac (u2.alloc (.cells p.cells 28)) (.cells p.cells 28);have hb4:=bel hb b4;have hQ4:=hQ3.below b4;have ow4:=ow3.below b4;have hsz4:=hb4.size;have hq:=hQ4.row.1;clear HM HM2 HG HGP HV gd b4 hQ3 ow3 hb;go_wp2_with (first | refine qaz (p:=p) rfl rfl ?_ | refine qaj A rfl _ rfl rfl ?_ | refine bs_pk (p:=p) rfl _ rfl rfl ?_ | (at_builtin;refine w_qapp _ rfl _ _ rfl w.heap.size _ _ _ q rfl hQ4 _ p d rfl (heap_alloc_new _ _) ow4 HS.out (by omega) hsz4 ?_) | fail)
    intro a5 c5 w5 hQ5 hg5;have hb5:=qpx hb4 hsz4 hQ4.row hg5;clear hg5 hQ4 ow4 hb4 HS A;go_wp2;go_roundw
    case rel=>exact⟨t+k,_,_,q++[(p,d)],by go_num,by rw[List.length_append];rfl,by omega,by rw[List.length_append];simp;omega,by rw[List.length_append];exact hQ5,HM3,HG3.out,hb5⟩
    case measure=>simp[intOf];omega
   ·have hcc':(cc != 0)=true:=by simpa using hcc
    have HM2:=many_stop (by rw[HL.out];exact hlt) HGP.out hcc HM.out;have HM3:Hid (many l=(pvs q,t,cc)):=HM2;clear HM HM2 HGP HV gd ow3 A HS hcc;go_wp2_with (first | refine qaz (p:=p) rfl rfl ?_ | fail)
    go_ret3;exact⟨.slice a (List.length q) c,by simp only[HM3.out];rfl,⟨a,c,q,rfl,hQ3,by rw[HM3.out],HG.out⟩,hb⟩
  ·have hlt':¬(t:Int)<n:=by omega
   have HM3:Hid (many l=(pvs q,t,0)):=many_done (by rw[HL.out];omega) HM.out;clear HM;go_wp2;go_ret3;exact⟨.slice a (List.length q) c,by simp only[HM3.out];rfl,⟨a,c,q,rfl,hQ,by rw[HM3.out],HG.out⟩,hb⟩
theorem all_i (ao:Option Addr) (n cap:Nat) (l:List UInt8) (w:World) (hr:RdIn w ao n cap l) (hn:n≤1048576) (hT:ErrTy w) :
  Calls Tryz.prog 31 #[.slice ao n cap] w fun e w'=>∃v,e=.returned (.tuple #[v,.int .i64 (many l).2.2])∧Many w w' v l∧Below w.heap.size w w':=by
 go_enter Tryz.func31,Tryz.ntmps31;go_wp2_with fail
 refine (many_i ao n cap l _ hr hn hT).mono ?_;rintro e w1 ⟨v,rfl,hM,hb⟩;go_wp2;go_ret2;exact⟨v,rfl,hM,hb⟩
theorem bytes_le (v:Pv):v.bytes.length≤345:=by
 cases h:v.ok with
 |false=>rw[qoa h];simp
 |true=>
  have h340:=qlt h;have hlen:=qhe h;have hle:=qmi (v.rest.length:Int);have hh:v.hd=1+(lenB v.rest.length).length:=rfl;omega
theorem allB_step (l:PL) (i:Nat) (h:i<l.length):allB (pvs (l.take (i+1)))=allB (pvs (l.take i))++(pv (pk l i) (pd l i)).bytes:=by
 rw[pvs_take l i h];simp[allB]
theorem write_i (ao:Option Addr) (n cap:Nat) (l:PL) (w:World) (hr:QRd w ao n cap l) (hn:n≤1048576) (hs:∀x∈l,Psz x.1 x.2∧Plen x.1 1048576) :
  Calls Tryz.prog 30 #[.slice ao n cap] w fun e w'=>∃a m c,e=.returned (.slice a m c)∧Own w' w.heap.size a m c (allB (pvs l))∧m≤n*345∧Below w.heap.size w w':=by
 have HR:Hid (∀u,Below w.heap.size w u→QRd u ao n cap l):=fun u hu=>hr.below hu
 have HL:Hid (l.length=n):=hr.1.1;clear hr;go_enter Tryz.func30,Tryz.ntmps30;go_wp2
 go_loopw [3,9] (fun v i wr=>∃(t:Nat) (a:Option Addr) (m c:Nat),i=.int .i64 t∧v=.slice a m c∧t≤n∧m≤t*345∧Own wr w.heap.size a m c (allB (pvs (l.take t)))∧Below w.heap.size w wr) (fun _ i _=>n-(intOf i).toNat)
 case atStart=>exact⟨0,_,0,_,rfl,rfl,Nat.zero_le _,Nat.le_refl _,qbm w,qac _ _⟩
 case round=>
  obtain⟨t,a,m,c,rfl,rfl,ht,hm,hO,hb⟩:=hrel
  by_cases hlt:t<n
  ·have hlt':(t:Int)<n:=by omega
   have hkl:t<l.length:=by rw[HL.out];exact hlt
   obtain⟨b0,off,rfl,hrg⟩:=(HR.out _ hb).1.2 t hlt;have hP:=(HR.out _ hb).2.1 _ (pk_mem hkl);obtain⟨hsz,hln⟩:=hs _ (pk_mem hkl);have HST:=allB_step l t hkl;have hbl:=bytes_le (pv (pk l t) (pd l t));simp only at hP hsz hln;generalize pk l t=p at hrg hP hsz hln HST hbl;generalize pd l t=d at hP hsz HST hbl;have HS:Hid (allB (pvs (l.take (t+1)))=allB (pvs (l.take t))++(pv p d).bytes):=HST;clear HST;have hix:=idx_p b0 off n cap t hlt;have A:Blk (wr.alloc (.cells p.cells 28)) wr.heap.size p:=heap_alloc_new _ _;have b1:=qac wr (.cells p.cells 28);replace hP:=hP.below b1;replace hO:=hO.below b1;replace hb:=bel hb b1;clear b1;have HKL:Hid (t<l.length):=hkl;clear hkl;go_wp2_with (first | refine qaz (p:=p) rfl rfl ?_ | refine load_mid hrg rfl _ rfl rfl ?_ | refine qaj A rfl _ rfl rfl ?_ | fail)
   refine (qkk p d _ hP hsz hln).mono ?_;rintro e u2 ⟨a2,n2,c2,rfl,hO2,b2⟩;have hl2:=hO2.1;have hR2:=hO2.rd;replace hO:=hO.below b2;replace hb:=bel hb b2;have hsb:=hb.size;clear b2 hO2 A hrg hP hix;go_wp2_with (at_builtin;refine w_app _ rfl _ _ rfl w.heap.size _ _ _ _ rfl hO _ _ _ (pv p d).bytes rfl hR2 (by omega) hsb ?_)
   intro a3 c3 w3 hO3 hg3;have hb3:=qba hb hsb hO hg3;rw[←HS.out] at hO3;clear hg3 hO hb hR2;go_wp2;go_roundw
   case rel=>exact⟨t+1,a3,m+n2,c3,by go_num,rfl,by omega,by omega,hO3,hb3⟩
   case measure=>simp[intOf];omega
  ·have hlt':¬(t:Int)<n:=by omega
   obtain rfl:t=n:=by omega
   rw[List.take_of_length_le (by rw[HL.out];omega)] at hO;go_wp2;go_ret;exact⟨a,m,c,rfl,hO,hm,hb⟩
theorem cf_isamep (xs:Array Value) (u:World):(callFunc 18 xs).run Tryz.prog u=.ok (.enter 18 xs) u:=by kernel_rfl
theorem same_lsamePackets (ao a2:Option Addr) (n cap cap2:Nat) (l m:PL) (w:World) (hr:QRd w ao n cap l) (hr2:QRd w a2 n cap2 m) (he:pvs l=pvs m) (hn:n≤1048576) :
  Calls Tryz.prog 34 #[.slice ao n cap,.slice a2 n cap2] w fun e w'=>e=.returned (.bool true)∧Below w.heap.size w w':=by
 have HR:Hid (∀u,Below w.heap.size w u→QRd u ao n cap l):=fun u hu=>hr.below hu
 have HR2:Hid (∀u,Below w.heap.size w u→QRd u a2 n cap2 m):=fun u hu=>hr2.below hu
 have HL:Hid (l.length=n):=hr.1.1;have HL2:Hid (m.length=n):=hr2.1.1;have HE:Hid (pvs l=pvs m):=he;clear hr hr2 he;go_enter Tryz.func34,Tryz.ntmps34;go_wp2
 go_loopw [5] (fun i wr=>∃t:Nat,i=.int .i64 t∧t≤n∧Below w.heap.size w wr) (fun i _=>n-(intOf i).toNat)
 case atStart=>exact⟨0,rfl,Nat.zero_le _,Below.refl _ _⟩
 case round=>
  obtain⟨t,rfl,ht,hb⟩:=hrel
  by_cases hlt:t<n
  ·have hlt':(t:Int)<n:=by omega
   have hkl:t<l.length:=by rw[HL.out];exact hlt
   have hkm:t<m.length:=by rw[HL2.out];exact hlt
   obtain⟨b0,off,rfl,hrg⟩:=(HR.out _ hb).1.2 t hlt;obtain⟨b1,off1,rfl,hrg1⟩:=(HR2.out _ hb).1.2 t hlt;have hP:=(HR.out _ hb).2.1 _ (pk_mem hkl);have hQ:=(HR2.out _ hb).2.1 _ (pk_mem hkm);have hpq:pv (pk l t) (pd l t)=pv (pk m t) (pd m t):=by
    have h1:=pvs_at l t hkl;rw[HE.out,pvs_at m t hkm] at h1;exact (Option.some.inj h1).symm
   simp only at hP hQ;generalize pk l t=p at hrg hP hpq;generalize pd l t=d at hP hpq;generalize pk m t=p1 at hrg1 hQ hpq;generalize pd m t=d1 at hQ hpq;have HPQ:Hid (decide (pv p d=pv p1 d1)=true):=decide_eq_true hpq;have HG:Hid (wr.rangeAt b0 (off+t*25) p.cells.toList∧wr.rangeAt b1 (off1+t*25) p1.cells.toList∧PRd wr p d∧PRd wr p1 d1):=⟨hrg,hrg1,hP,hQ⟩;clear hpq hkl hkm hrg hrg1 hP hQ
   go_upto_region 6 with fail
   refine qaw (by kernel_rfl) rfl (fun i u x=>match i with
    |0=>u=.slice (some ⟨b0,off,none⟩) n cap
    |1=>u=.int .i64 (t:Int)
    |2=>u=.pointer (some ⟨b0,off+t*25,none⟩)
    |3=>u=.agg p.cells
    |4=>u=.slice (some ⟨b1,off1,none⟩) n cap2
    |5=>u=.int .i64 (t:Int)
    |6=>u=.pointer (some ⟨b1,off1+t*25,none⟩)
    |7=>u=.agg p1.cells
    |8=>u=.bool true
    |9=>u=.bool (!true)
    |_=>True) ?_ ?_ ?_
   ·intro i u x x' hx h
    match i,h with
    |0,h|1,h|2,h|3,h|4,h|5,h|6,h|7,h|8,h|9,h=>exact h
    |(_+10),h=>trivial
   ·intro i o a u hi hk hbu hdep;replace hdep:=qhdd hdep
    match i,hi with
    |0,hi=>cases hi;exact qggo rfl (qbd _ rfl (qevv hk 0 rfl rfl) (qzqq rfl))
    |1,hi=>cases hi;exact qggo rfl (qbd _ rfl (qevv hk 5 rfl rfl) (qzqq rfl))
    |2,hi=>cases hi;obtain⟨z0,hz0,rfl⟩:=hdep 0 rfl;obtain⟨z1,hz1,rfl⟩:=hdep 1 rfl;exact qggo rfl (z_ix 44 _ _ rfl (qab hz0) (qab hz1) (idx_p b0 off n cap t hlt) (qzqq rfl))
    |3,hi=>cases hi;obtain⟨z2,hz2,rfl⟩:=hdep 2 rfl;exact qggo rfl (st_loadM (qkx HG.out.1 hbu) _ rfl (qab hz2) (qzqq rfl))
    |4,hi=>cases hi;exact qggo rfl (qbd _ rfl (qevv hk 1 rfl rfl) (qzqq rfl))
    |5,hi=>cases hi;exact qggo rfl (qbd _ rfl (qevv hk 5 rfl rfl) (qzqq rfl))
    |6,hi=>cases hi;obtain⟨z4,hz4,rfl⟩:=hdep 4 rfl;obtain⟨z5,hz5,rfl⟩:=hdep 5 rfl;exact qggo rfl (z_ix 44 _ _ rfl (qab hz4) (qab hz5) (idx_p b1 off1 n cap2 t hlt) (qzqq rfl))
    |7,hi=>cases hi;obtain⟨z6,hz6,rfl⟩:=hdep 6 rfl;exact qggo rfl (st_loadM (qkx HG.out.2.1 hbu) _ rfl (qab hz6) (qzqq rfl))
    |8,hi=>cases hi;obtain⟨z3,hz3,rfl⟩:=hdep 3 rfl;obtain⟨z7,hz7,rfl⟩:=hdep 7 rfl;refine qggo rfl (qal (qak _ _ _ _ _ _ _ _ cf_isamep (qab hz3) (qab hz7) (fun _=>rfl) _ _ _ _ _ _) ?_);refine (qiy p p1 d d1 u (HG.out.2.2.1.below hbu) (HG.out.2.2.2.below hbu)).mono ?_;rintro e u' ⟨he,hb'⟩;rw[HPQ.out] at he;exact⟨_,he,_,rfl,hb',rfl⟩
    |9,hi=>cases hi;obtain⟨z8,hz8,rfl⟩:=hdep 8 rfl;exact qggo rfl (z_not _ _ rfl (qab hz8) (qzqq rfl))
    |(_+10),hi=>cases hi
   intro vs y3 b3 hG a3 h3;have g9:vs 9=.bool (!true):=hG 9 (by decide);replace hb:=bel hb b3;clear hG HG HPQ;replace h3:puts _ 1 _ (Fq27)=a3:=h3;replace h3:puts _ 2 _ (Fq27)=a3:=h3;replace h3:puts _ 3 _ (Fq27)=a3:=h3;replace h3:puts _ 4 _ (Fq27)=a3:=h3;replace h3:puts _ 5 _ (Fq27)=a3:=h3;replace h3:puts _ 6 _ (Fq27)=a3:=h3;replace h3:puts _ 7 _ (Fq27)=a3:=h3;replace h3:puts _ 8 _ (Fq27)=a3:=h3;replace h3:puts _ 9 _ (Fq27)=a3:=h3;replace h3:Fq27=_:=h3;unfold Fq27 at h3;subst h3;simp only[g9];clear g9;go_wp2;go_roundw
   case rel=>exact⟨t+1,by go_num,by omega,hb⟩
   case measure=>simp[intOf];omega
  ·have hlt':¬(t:Int)<n:=by omega
   go_wp2;go_ret;exact⟨rfl,hb⟩

theorem bufOk_one (l:List UInt8) (x:Bool):bufOk l x=if x then decide (l.length=0) else decide ((getP l).2.2=1):=by
 unfold bufOk
 by_cases h:l.length=0
 ·rw[if_pos h];obtain rfl:=List.length_eq_zero_iff.1 h;cases x<;>simp[getP_nil]
 ·rw[if_neg h];cases x<;>simp[h]
theorem buf_i (ao:Option Addr) (n cap:Nat) (l:List UInt8) (x:Bool) (w:World) (hr:RdIn w ao n cap l) (hn:n≤1048576) (hT:ErrTy w) :
  Calls Tryz.prog 38 #[.agg #[.slice ao n cap,.bool x]] w fun e w'=>e=.returned (.bool (bufOk l x))∧Below w.heap.size w w':=by
 have hb:=qac w (.cells #[.slice ao n cap,.bool x] 51);have hTl:1<w.heap.size:=World.block_lt_of_cell? _ _ hT;have hl:l.length=n:=hr.1.1;rw[bufOk_one,hl];cases x with
 |true=>
  have hz:decide (n=0)=((n:Int)==0):=by
   by_cases h:n=0<;>simp[h]
  simp only[if_true,hz];clear hz;go_enter Tryz.func38,Tryz.ntmps38;go_wp2;go_ret;exact⟨rfl,hb⟩
 |false=>
  simp only[Bool.false_eq_true,if_false];obtain⟨v,nn,cc,hg⟩ : ∃v nn cc,getP l=(v,nn,cc):=⟨_,_,_,rfl⟩;have HG:Hid (∀u u' e,Got u u' e l=Good u u' e v nn (.int .i64 cc)):=fun u u' e=>by unfold Got;rw[hg]
  rw[hg];have hz:decide (cc=1)=(cc==1):=rfl;simp only[hz];clear hg hz;have hr1:=hr.below hb;have hT1:=hT.below hb hTl;clear hr hT;go_enter Tryz.func38,Tryz.ntmps38;go_wp2_with fail
  refine (get_i _ _ _ l _ hr1 hn hT1).mono ?_;intro e u hh;rw[HG.out] at hh;obtain⟨p,d,rfl,ow,gd,hpv,b2⟩:=hh;replace hb:=bel hb b2;replace hb:=bel hb (qac u (.cells p.cells 28));clear b2 ow gd hpv;go_wp2_with (first | refine qaz (p:=p) rfl rfl ?_ | fail)
  go_ret;exact⟨rfl,hb⟩
theorem buf_s (ao:Option Addr) (n cap:Nat) (l:List UInt8) (x:Bool) (w:World) (hr:RdIn w ao n cap l) (hn:n≤1048576) :
  Calls Tryz.prog 39 #[.agg #[.slice ao n cap,.bool x]] w fun e w'=>e=.returned (.bool (bufOk l x))∧Below w.heap.size w w':=by
 have hb:=qac w (.cells #[.slice ao n cap,.bool x] 51);have hl:l.length=n:=hr.1.1
 by_cases h0:n=0
 ·have hB:bufOk l x=true:=by unfold bufOk;rw[if_pos (by omega)]
  rw[hB];subst h0;clear hB;go_enter Tryz.func39,Tryz.ntmps39;go_wp2;go_ret;exact⟨rfl,hb⟩
 ·have hn0:((n:Int)==0)=false:=by simpa using h0
  obtain⟨v,nn,cc,hg⟩ : ∃v nn cc,getP l=(v,nn,cc):=⟨_,_,_,rfl⟩;have HG:Hid (∀u u' e,Got u u' e l=Good u u' e v nn (.int .i64 cc)):=fun u u' e=>by unfold Got;rw[hg]
  have hB:bufOk l x=((cc==1)&&!x):=by unfold bufOk;rw[if_neg (by omega),hg];rfl
  rw[hB];clear hg hB;have hr1:=hr.below hb;clear hr;go_enter Tryz.func39,Tryz.ntmps39;go_wp2_with fail
  refine (get_s _ _ _ l _ hr1 hn).mono ?_;intro e u hh;rw[HG.out] at hh;obtain⟨p,d,rfl,ow,gd,hpv,b2⟩:=hh;have f1:(w.alloc (.cells #[.slice ao n cap,.bool x] 51)).cell? ⟨w.heap.size,1,none⟩ = some (.bool x):=(qbr (heap_alloc_new _ _) 1).trans rfl;have f1u:=(b2.cell (p:=⟨w.heap.size,1,none⟩) (by simp)).trans f1;have f1v:=((qac u (.cells p.cells 28)).cell (p:=⟨w.heap.size,1,none⟩) (World.block_lt_of_cell? _ _ f1u)).trans f1u;replace hb:=bel hb b2;replace hb:=bel hb (qac u (.cells p.cells 28));clear b2 ow gd hpv f1 f1u
  by_cases hc:cc=1
  ·have hcb:(cc==1)=true:=by simpa using hc
   go_wp2_with (first | refine qaz (p:=p) rfl rfl ?_ | fail)
   go_ret;exact⟨by simp[hcb],hb⟩
  ·have hcb:(cc==1)=false:=by simpa using hc
   go_wp2_with (first | refine qaz (p:=p) rfl rfl ?_ | fail)
   go_ret;exact⟨by simp[hcb],hb⟩
