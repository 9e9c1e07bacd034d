/- Lemmas. -/
import Derived.Test.YtobgmpaalnpdcaaGreatDoorV24
import Derived.Test.YtobgmpaalnpdcaaGreatDoorV38
import Derived.Test.YtobgmpaalnpdcaaGreatDoorV01
set_option linter.unusedVariables false
set_option linter.unusedSimpArgs false
set_option maxRecDepth 100000
set_option maxHeartbeats 20000000
namespace Go.Proofs.YtobgmpaalnpdcaaGreatDoor
open Go.RowKit

theorem cf_sPutLen (xs:Array Value) (u:World):(callFunc 134 xs).run Tryz.prog u=.ok (.enter 134 xs) u:=by kernel_rfl
theorem mki3 (x y z:Int) (u:World):(Instr.buildSlice 26 3 #[(0,.int .i64 x),(1,.int .i64 y),(2,.int .i64 z)]).run Tryz.prog u=.ok (.slice (some ⟨u.heap.size,0,none⟩) 3 3) (u.alloc (.cells #[.int .i64 x,.int .i64 y,.int .i64 z] 3)):=by kernel_rfl
theorem mkb0 (u:World):(Instr.buildSlice 22 0 #[]).run Tryz.prog u=.ok (.slice (some ⟨u.heap.size,0,none⟩) 0 0) (u.alloc (.cells #[] 5)):=by kernel_rfl
theorem idx_k (b n c k:Nat) (h:k<n) (u:World):(Instr.indexAt 22 (.slice (some ⟨b,0,none⟩) n c) (.int .i64 (k:Int))).run Tryz.prog u=.ok (.pointer (some ⟨b,k,none⟩)) u:=by
 have h1:(k:Int)<n:=by omega
 have h2:(sizeOf (Tryz.prog.elem 22)).run Tryz.prog u=.ok 1 u:=by kernel_rfl
 simp[Instr.indexAt,Instr.index,go_sem,Tryz.underlying22,h1,h2,h,Addr.add]
 try exact fun h0=>h0.symm
theorem len_345 {v:Pv} (h:v.ok=true):2≤v.bytes.length∧v.bytes.length≤345:=by
 have h340:=qkt h;have h2:=hd_two h;have hlen:=qgl h;have hle:=qlk (v.rest.length:Int);have hh:v.hd=1+(lenB v.rest.length).length:=rfl;omega
theorem in3 {z:Int} (h:z∈[(1:Int),2,255]):1≤z∧z≤255:=by
 simp only[List.mem_cons,List.not_mem_nil,or_false] at h;omega
theorem own_one (w:World) (x:Nat) (hx:x<256):∃y:List UInt8,y.length=1∧Own (w.alloc (.cells #[.int .u8 (x:Int)] 5)) w.heap.size (some ⟨w.heap.size,0,none⟩) 1 1 y:=by
 obtain⟨y,hy,hr⟩:=rd_one w (x:Int) (by omega) (by omega);refine⟨[UInt8.ofNat x],rfl,rfl,by simp[bvals],.inr ⟨w.heap.size,1,#[.int .u8 (x:Int)],rfl,Nat.le_refl _,heap_alloc_new w _,Nat.le_refl _,by decide,rfl,?_⟩⟩;have e:bvals [UInt8.ofNat x] = [.int .u8 (x:Int)]:=by
  simp[bvals];omega
 rw[e];rfl
theorem Own.head {w:World} {B:Nat} {a:Option Addr} {n c:Nat} {x:List UInt8} (h:Own w B a n c x) (h0:0<n):∃g,a=some ⟨g,0,none⟩:=by
 rcases h.2.2 with ⟨_,e⟩ | ⟨g,c',cur,e,_⟩
 ·omega
 ·simp only[Value.slice.injEq] at e;exact⟨g,e.1⟩
theorem ints_blk {u:World} {blk:Nat} (zs:List Int) (h:u.heap[blk]? = some (.cells (zs.map (Value.int .i64)).toArray 3)) (i:Nat) (hi:i<zs.length):u.cell? ⟨blk,i,none⟩ = some (.int .i64 (zs.getD i 0)):=by
 rw[qcl h];simp[List.getD_eq_getElem?_getD,List.getElem?_eq_getElem hi]
theorem addw (x y:Int) (u:World) (a b:Operand):(do eqGuard .add 3 a b (.int .i64 x) (.int .i64 y);binOp .add 3 (.int .i64 x) (.int .i64 y):Sem Value).run Tryz.prog u=.ok (.int .i64 (IntKind.i64.wrap (x+y))) u:=by
 simp[eqGuard,binOp,go_sem]
theorem heap_cur {u u':World} {g blk B:Nat} {o:Obj} (hg:u.grownBy u' (some g)) (hB:B≤blk) (hlt:g<B) (h:u.heap[blk]? = some o):u'.heap[blk]? = some o :=
 (hg.block blk (Array.getElem?_eq_some_iff.1 h).1 (fun e=>by simp at e;omega)).trans h
theorem qjn (g:Nat) (ao:Option Addr) (n cap:Nat) (l:List UInt8) (w:World) (hc:Cur w g ao n cap l) (hn:n≤1048576) :
  Calls Tryz.prog 83 #[.pointer (some ⟨g,0,none⟩)] w fun e w'=>∃a m c x,m≤350∧e=.returned (.slice a m c)∧Own w' w.heap.size a m c x∧Cur w' g ao n cap l∧w.grownBy w' (some g):=by
 have hlt:=hc.lt;go_enter Tryz.func83,Tryz.ntmps83;go_wp2_with fail
 refine (qag g ao n cap l 14 _ hc hn (by omega) (by omega)).mono ?_;rintro e w1 ⟨k,hk0,hk1,rfl,hc1,hg1⟩;go_wp2_with fail
 refine (qjp g ao n cap l (1+k) _ hc1 hn (by omega) (by omega)).mono ?_;rintro e w2 ⟨p,d,hok,rfl,hp,hd,hc2,hg2⟩;have hsz:=hg1.size;replace hg2:=qad hg1 hg2;clear hc1 hg1;go_wp2_with fail
 refine (qgh p d _ hp.rd hd.sz (Pgd.ln (hd.mono (by omega)))).mono ?_;rintro e w3 ⟨a1,n1,c1,rfl,ho3,hb3⟩;have hlen:=len_345 hok;rw[ho3.1] at hlen;generalize (pv p d).bytes=x at ho3;have hc3:=hc2.below hb3;have hg3:=qbg hg2 hb3;have ho:=ho3.mono hg2.size;clear ho3 hb3 hc2 hg2 hp hd hok hsz;obtain⟨g1,e⟩:=ho.head (by omega);subst e;have hgB:=(ho.block rfl).1;go_wp2_with fail
 refine (qag g ao n cap l 10 _ hc3 hn (by omega) (by omega)).mono ?_;rintro e w4 ⟨q,hq0,hq1,rfl,hc4,hg4⟩;replace ho:=ho.cur hlt hg4;replace hg4:=qad hg3 hg4;clear hc3 hg3
 by_cases q0:q=0
 ·subst q0;go_wp2_with fail
  refine (qcu g ao n cap l _ hc4 hn).mono ?_;rintro e w5 ⟨y,hy0,hy1,rfl,hc5,hg5⟩;replace ho:=ho.cur hlt hg5;replace hg5:=qad hg4 hg5;have hz:=ho.cell 0 (by omega);have hf:=ho.frozen 0;have hp0:0<n1:=by omega
  go_wp2;go_ret;exact⟨_,n1,c1,_,by omega,rfl,ho.storeI 0 _ (by omega) (by omega),(hc5.own ho hlt (by simpa[Value.ownBlock] using qah _ _ _ _)),qcm hg5 ho (Nat.le_refl _) (by simpa[Value.ownBlock] using qah _ _ _ _)⟩
 have n0:(q==0)=false:=by simpa using q0
 by_cases q1:q=1
 ·subst q1
  by_cases h3:3<n1
  ·have h3':(3:Int)<n1:=by omega
   go_wp2_with fail
   refine (qag g ao n cap l ((n1:Int)-2) _ hc4 hn (by omega) (by omega)).mono ?_;rintro e w5 ⟨i,hi0,hi1,rfl,hc5,hg5⟩;replace ho:=ho.cur hlt hg5;replace hg5:=qad hg4 hg5;have lts:=hc5.lt;go_wp2_with fail
   refine (qbd g ao n cap l _ 6 6 [0,1,3,43,35,255] _ (hc5.alloc _) hn (by omega) (by omega) rfl (fun i hi=>qez _ [0,1,3,43,35,255] _ (by simp) i hi) (by omega)).mono ?_;rintro e w6 ⟨z,hz_,rfl,hc6,hg6⟩;replace hg6:=qad (World.grownBy_alloc _ _ _) hg6;replace ho:=ho.cur hlt hg6;replace hg6:=qad hg5 hg6;obtain⟨j,rfl⟩:=Int.eq_ofNat_of_zero_le hi0;have hz:=ho.cell (2+j) (by omega);have hf:=ho.frozen (2+j);have hj0:(0:Int)≤2+j:=by omega
   have hj1:(2:Int)+j<n1:=by omega
   have hj2:((2:Int)+j).toNat=2+j:=by omega
   go_wp2;go_ret;exact⟨_,n1,c1,_,by omega,rfl,ho.storeI (2+j) _ (by omega) (by omega),(hc6.own ho hlt (by simpa[Value.ownBlock] using qah _ _ _ _)),qcm hg6 ho (Nat.le_refl _) (by simpa[Value.ownBlock] using qah _ _ _ _)⟩
  ·have h3':¬(3:Int)<n1:=by omega
   go_wp2;go_ret;exact⟨_,n1,c1,x,by omega,rfl,ho,hc4,hg4⟩
 have n1_:(q==1)=false:=by simpa using q1
 by_cases q2:q=2
 ·subst q2;have hOc:Hid (∀u,w4.grownBy u (some g)→Own u w.heap.size (some ⟨g1,0,none⟩) n1 c1 x):=fun u hu=>ho.cur hlt hu
  go_wp2;refine qcd 11 (by kernel_rfl) rfl (fun _ u u'=>u.grownBy u' (some g)∧(Cur u g ao n cap l→Cur u' g ao n cap l)) (fun i v u=>match i with
   |0=>v=.slice (some ⟨g1,0,none⟩) n1 c1
   |1=>v=.slice (some ⟨g1,0,none⟩) n1 c1
   |2=>v=.pointer (some ⟨g1,1,none⟩)
   |3=>v=.int .u8 (bt x 1)
   |4=>v=.int .i64 (bt x 1)
   |5=>v=.pointer (some ⟨g,0,none⟩)
   |6=>∃blk,v=.slice (some ⟨blk,0,none⟩) 3 3∧w4.heap.size≤blk∧u.heap[blk]? = some (.cells #[.int .i64 1,.int .i64 2,.int .i64 255] 3)
   |7=>∃z,v=.int .i64 z∧1≤z∧z≤255
   |8=>∃z,v=.int .i64 z
   |9=>∃z,v=.int .u8 z∧0≤z∧z<256
   |10=>v=.pointer (some ⟨g1,1,none⟩)
   |_=>True) (fun _ u=>Cur u g ao n cap l∧w4.grownBy u (some g)) ?_ ?_ ?_ ?_ ?_
  ·intro i j v u x_ hi hj hr hne hR hG
   match j,hj,hr,hne,hG with
   |0,_,_,_,hG=>exact hG
   |1,_,_,_,hG=>exact hG
   |2,_,_,_,hG=>exact hG
   |3,_,_,_,hG=>exact hG
   |4,_,_,_,hG=>exact hG
   |5,_,_,_,hG=>exact hG
   |6,_,_,_,hG=>
    obtain⟨blk,e1,e2,e3⟩:=hG;exact⟨blk,e1,e2,heap_cur hR.1 e2 hc4.lt e3⟩
   |7,_,_,_,hG=>exact hG
   |8,_,_,_,hG=>exact hG
   |9,_,_,_,hG=>exact hG
   |10,_,_,_,hG=>exact hG
   |(_+11),h,_,_,_=>omega
  ·exact fun i k u x_ hi hk hr hne hR hH=>⟨hR.2 hH.1,qad hH.2 hR.1⟩
  ·exact fun k=>⟨hc4.drew,qfz (World.grownBy.refl _ _)⟩
  ·intro i o a u hi hk hH hdep
   match i,hi with
   |0,hi=>
    cases hi;exact g_run (wanted_none rfl _) (z_move _ rfl (eval_at ((hk.at 3 rfl).trans rfl)) ⟨_,rfl,⟨World.grownBy.refl _ _,fun h=>h⟩,rfl⟩)
   |1,hi=>
    cases hi;exact g_run (wanted_none rfl _) (z_move _ rfl (eval_at ((hk.at 3 rfl).trans rfl)) ⟨_,rfl,⟨World.grownBy.refl _ _,fun h=>h⟩,rfl⟩)
   |2,hi=>
    cases hi;obtain⟨z1,hz1,rfl⟩:=hdep 1 _ _ rfl rfl rfl;exact g_run (wanted_none rfl _) (z_ix 22 _ _ rfl (eval_at hz1) rfl (idx_k g1 n1 c1 1 (by omega)) ⟨_,rfl,⟨World.grownBy.refl _ _,fun h=>h⟩,rfl⟩)
   |3,hi=>
    cases hi;obtain⟨z2,hz2,rfl⟩:=hdep 2 _ _ rfl rfl rfl;exact g_run (wanted_none rfl _) (z_ld 5 _ rfl (eval_at hz2) (by kernel_rfl) ((hOc.out _ hH.2).cell 1 (by omega)) ⟨_,rfl,⟨World.grownBy.refl _ _,fun h=>h⟩,rfl⟩)
   |4,hi=>
    cases hi;obtain⟨z3,hz3,rfl⟩:=hdep 3 _ _ rfl rfl rfl;exact g_run (wanted_none rfl _) (qfv 5 3 _ rfl (eval_at hz3) (cvi (bt x 1) u (bt_lt x 1)) ⟨_,rfl,⟨World.grownBy.refl _ _,fun h=>h⟩,rfl⟩)
   |5,hi=>
    cases hi;exact g_run (wanted_none rfl _) (z_move _ rfl (eval_at ((hk.at 0 rfl).trans rfl)) ⟨_,rfl,⟨World.grownBy.refl _ _,fun h=>h⟩,rfl⟩)
   |6,hi=>
    cases hi;exact g_run (wanted_none rfl _) (z_mk _ _ rfl (by simp<;>and_intros<;>rfl) (mki3 1 2 255 u) ⟨_,rfl,⟨World.grownBy_alloc _ _ _,fun h=>h.alloc _⟩,⟨_,rfl,hH.2.size,heap_alloc_new _ _⟩⟩)
   |7,hi=>
    cases hi;obtain⟨z5,hz5,rfl⟩:=hdep 5 _ _ rfl rfl rfl;obtain⟨z6,hz6,⟨blk,e1,e2,e3⟩⟩:=hdep 6 _ _ rfl rfl rfl;subst e1;refine g_run (wanted_none rfl _) (st_call (exec_call2 _ _ _ _ _ _ _ _ cf_int (eval_at hz5) (eval_at hz6) (fun _=>rfl) _ _ _ _ _ _) ?_);refine (qbd g ao n cap l blk 3 3 [1,2,255] u hH.1 hn (by omega) (by omega) rfl (fun i hi=>ints_blk [1,2,255] e3 i hi) (by have:=hc4.lt;omega)).mono ?_;rintro e x' ⟨z,hz,rfl,hc,hg⟩;exact⟨_,rfl,_,rfl,⟨hg,fun _=>hc⟩,z,rfl,in3 hz⟩
   |8,hi=>
    cases hi;obtain⟨z4,hz4,rfl⟩:=hdep 4 _ _ rfl rfl rfl;obtain⟨z7,hz7,⟨z,rfl,h1,h2⟩⟩:=hdep 7 _ _ rfl rfl rfl;exact g_run (wanted_none rfl _) (z_bin .add 3 3 _ _ rfl (eval_at hz4) (eval_at hz7) (addw _ _ u _ _) ⟨_,rfl,⟨World.grownBy.refl _ _,fun h=>h⟩,_,rfl⟩)
   |9,hi=>
    cases hi;obtain⟨z8,hz8,⟨z,rfl⟩⟩:=hdep 8 _ _ rfl rfl rfl;exact g_run (wanted_none rfl _) (qfv 3 5 _ rfl (eval_at hz8) (cvb z u) ⟨_,rfl,⟨World.grownBy.refl _ _,fun h=>h⟩,_,rfl,by omega,by omega⟩)
   |10,hi=>
    cases hi;obtain⟨z0,hz0,rfl⟩:=hdep 0 _ _ rfl rfl rfl;exact g_run (wanted_none rfl _) (z_ix 22 _ _ rfl (eval_at hz0) rfl (idx_k g1 n1 c1 1 (by omega)) ⟨_,rfl,⟨World.grownBy.refl _ _,fun h=>h⟩,rfl⟩)
   |(_+11),hi=>cases hi
  intro vs y9 hH hG a3_ h3;obtain⟨hc9,hg9⟩:=hH;obtain⟨z9,e9,r0,r1⟩:=hG 9 (by decide);have e10:=hG 10 (by decide);replace e10:vs 10=.pointer (some ⟨g1,1,none⟩):=e10;clear hG;replace h3:puts _ 1 _ (Fq74)=a3_:=h3;replace h3:puts _ 2 _ (Fq74)=a3_:=h3;replace h3:puts _ 3 _ (Fq74)=a3_:=h3;replace h3:puts _ 4 _ (Fq74)=a3_:=h3;replace h3:puts _ 5 _ (Fq74)=a3_:=h3;replace h3:puts _ 6 _ (Fq74)=a3_:=h3;replace h3:puts _ 7 _ (Fq74)=a3_:=h3;replace h3:puts _ 8 _ (Fq74)=a3_:=h3;replace h3:puts _ 9 _ (Fq74)=a3_:=h3;replace h3:puts _ 10 _ (Fq74)=a3_:=h3;replace h3:Fq74=_:=h3;unfold Fq74 at h3;subst h3;simp only[List.drop_succ_cons,List.drop_zero];simp only[e9,e10];clear e9 e10;have ho9:=hOc.out _ hg9;have hz:=ho9.cell 1 (by omega);have hf:=ho9.frozen 1;have ho10:=ho9.storeI 1 z9 r0 r1;have hc10:Cur (y9.setCell ⟨g1,1,none⟩ (.int .u8 z9)) g ao n cap l:=hc9.own ho9 hlt (by simpa[Value.ownBlock] using qah _ _ _ _);have hg10:w.grownBy (y9.setCell ⟨g1,1,none⟩ (.int .u8 z9)) (some g):=qcm (qad hg4 hg9) ho9 (Nat.le_refl _) (by simpa[Value.ownBlock] using qah _ _ _ _);clear hc9 hg9 ho hg4 hOc;go_wp2_with fail
  refine (qag g ao n cap l 3 _ hc10 hn (by omega) (by omega)).mono ?_;rintro e w5 ⟨y,hy0,hy1,rfl,hc5,hg5⟩;have ho3:=ho10.cur hlt hg5;have hG3:=qad hg10 hg5;obtain⟨t,htl,hrt⟩:=rd_one w5 y hy0 (by omega);have hy:y%256=y:=by omega
  clear ho10 hc10 hg10 hg5;go_wp2_with (at_builtin;refine w_app _ rfl _ _ rfl w.heap.size _ _ _ _ rfl (ho3.alloc _) _ _ _ t rfl hrt (by omega) (by have:=hG3.size;simp;omega) ?_)
  intro a4 c4 w4_ ho4 hg4_;have hc4_:=(hc5.alloc _).own (ho3.alloc _) hlt hg4_;have hG4:=qcm (qeg hG3 _) (ho3.alloc _) (Nat.le_refl _) hg4_;clear hg4_ hrt ho3 hG3 hc5;go_wp2;go_ret;exact⟨a4,n1+1,c4,_,by omega,rfl,ho4,hc4_,hG4⟩
 have n2_:(q==2)=false:=by simpa using q2
 by_cases q3:q=3
 ·subst q3;have hOc:Hid (∀u,w4.grownBy u (some g)→Own u w.heap.size (some ⟨g1,0,none⟩) n1 c1 x):=fun u hu=>ho.cur hlt hu
  go_wp2;refine qcd 9 (by kernel_rfl) rfl (fun _ u u'=>u.grownBy u' (some g)∧(Cur u g ao n cap l→Cur u' g ao n cap l)) (fun i v u=>match i with
   |0=>v=.slice (some ⟨g1,0,none⟩) n1 c1
   |1=>v=.pointer (some ⟨g1,0,none⟩)
   |2=>v=.int .u8 (bt x 0)
   |3=>∃(blk:Nat) (y:List UInt8),v=.slice (some ⟨blk,0,none⟩) 1 1∧w4.heap.size≤blk∧Own u w4.heap.size (some ⟨blk,0,none⟩) 1 1 y
   |4=>∃blk,v=.slice (some ⟨blk,0,none⟩) 0 0∧w4.heap.size≤blk∧RdIn u (some ⟨blk,0,none⟩) 0 0 []
   |5=>v=.pointer (some ⟨g,0,none⟩)
   |6=>∃blk,v=.slice (some ⟨blk,0,none⟩) 4 4∧w4.heap.size≤blk∧u.heap[blk]? = some (.cells #[.int .i64 340,.int .i64 341,.int .i64 5,.int .i64 268435455] 3)
   |7=>∃z,v=.int .i64 z
   |8=>∃(a:Option Addr) (m c:Nat) (y:List UInt8),v=.slice a m c∧m≤4∧Own u w4.heap.size a m c y
   |_=>True) (fun _ u=>Cur u g ao n cap l∧w4.grownBy u (some g)) ?_ ?_ ?_ ?_ ?_
  ·intro i j v u x_ hi hj hr hne hR hG
   match j,hj,hr,hne,hG with
   |0,_,_,_,hG=>exact hG
   |1,_,_,_,hG=>exact hG
   |2,_,_,_,hG=>exact hG
   |3,_,_,_,hG=>
    obtain⟨blk,y,e1,e2,e3⟩:=hG;exact⟨blk,y,e1,e2,e3.cur hc4.lt hR.1⟩
   |4,_,_,_,hG=>
    obtain⟨blk,e1,e2,e3⟩:=hG;exact⟨blk,e1,e2,e3.cur (fun d hd=>by cases hd;have:=hc4.lt;show g<blk;omega) hR.1⟩
   |5,_,_,_,hG=>exact hG
   |6,_,_,_,hG=>
    obtain⟨blk,e1,e2,e3⟩:=hG;exact⟨blk,e1,e2,heap_cur hR.1 e2 hc4.lt e3⟩
   |7,_,_,_,hG=>exact hG
   |8,_,_,_,hG=>
    obtain⟨a,m,c,y,e1,e2,e3⟩:=hG;exact⟨a,m,c,y,e1,e2,e3.cur hc4.lt hR.1⟩
   |(_+9),h,_,_,_=>omega
  ·exact fun i k u x_ hi hk hr hne hR hH=>⟨hR.2 hH.1,qad hH.2 hR.1⟩
  ·exact fun k=>⟨hc4.drew,qfz (World.grownBy.refl _ _)⟩
  ·intro i o a u hi hk hH hdep
   match i,hi with
   |0,hi=>
    cases hi;exact g_run (wanted_none rfl _) (z_move _ rfl (eval_at ((hk.at 3 rfl).trans rfl)) ⟨_,rfl,⟨World.grownBy.refl _ _,fun h=>h⟩,rfl⟩)
   |1,hi=>
    cases hi;obtain⟨z0,hz0,rfl⟩:=hdep 0 _ _ rfl rfl rfl;exact g_run (wanted_none rfl _) (z_ix 22 _ _ rfl (eval_at hz0) rfl (idx_k g1 n1 c1 0 (by omega)) ⟨_,rfl,⟨World.grownBy.refl _ _,fun h=>h⟩,rfl⟩)
   |2,hi=>
    cases hi;obtain⟨z1,hz1,rfl⟩:=hdep 1 _ _ rfl rfl rfl;exact g_run (wanted_none rfl _) (z_ld 5 _ rfl (eval_at hz1) (by kernel_rfl) ((hOc.out _ hH.2).cell 0 (by omega)) ⟨_,rfl,⟨World.grownBy.refl _ _,fun h=>h⟩,rfl⟩)
   |3,hi=>
    cases hi;obtain⟨z2,hz2,rfl⟩:=hdep 2 _ _ rfl rfl rfl;obtain⟨y,hy,hO⟩:=own_one u (bt x 0) (bt_lt x 0);exact g_run (wanted_none rfl _) (z_mk _ _ rfl (by simp[eval_at hz2]) (mkb1 (bt x 0) u) ⟨_,rfl,⟨World.grownBy_alloc _ _ _,fun h=>h.alloc _⟩,⟨_,y,rfl,hH.2.size,hO.mono hH.2.size⟩⟩)
   |4,hi=>
    cases hi;exact g_run (wanted_none rfl _) (z_mk _ _ rfl (by simp<;>and_intros<;>rfl) (mkb0 u) ⟨_,rfl,⟨World.grownBy_alloc _ _ _,fun h=>h.alloc _⟩,⟨_,rfl,hH.2.size,(own_lit0 u).rd⟩⟩)
   |5,hi=>
    cases hi;exact g_run (wanted_none rfl _) (z_move _ rfl (eval_at ((hk.at 0 rfl).trans rfl)) ⟨_,rfl,⟨World.grownBy.refl _ _,fun h=>h⟩,rfl⟩)
   |6,hi=>
    cases hi;exact g_run (wanted_none rfl _) (z_mk _ _ rfl (by simp<;>and_intros<;>rfl) (mki4 340 341 5 268435455 u) ⟨_,rfl,⟨World.grownBy_alloc _ _ _,fun h=>h.alloc _⟩,⟨_,rfl,hH.2.size,heap_alloc_new _ _⟩⟩)
   |7,hi=>
    cases hi;obtain⟨z5,hz5,rfl⟩:=hdep 5 _ _ rfl rfl rfl;obtain⟨z6,hz6,⟨blk,e1,e2,e3⟩⟩:=hdep 6 _ _ rfl rfl rfl;subst e1;refine g_run (wanted_none rfl _) (st_call (exec_call2 _ _ _ _ _ _ _ _ cf_int (eval_at hz5) (eval_at hz6) (fun _=>rfl) _ _ _ _ _ _) ?_);refine (qbd g ao n cap l blk 4 4 [340,341,5,268435455] u hH.1 hn (by omega) (by omega) rfl (fun i hi=>ints_blk [340,341,5,268435455] e3 i hi) (by have:=hc4.lt;omega)).mono ?_;rintro e x' ⟨z,hz,rfl,hc,hg⟩;exact⟨_,rfl,_,rfl,⟨hg,fun _=>hc⟩,z,rfl⟩
   |8,hi=>
    cases hi;obtain⟨z4,hz4,⟨blk,e1,e2,e3⟩⟩:=hdep 4 _ _ rfl rfl rfl;obtain⟨z7,hz7,⟨z,rfl⟩⟩:=hdep 7 _ _ rfl rfl rfl;subst e1;refine g_run (wanted_none rfl _) (st_call (exec_call2 _ _ _ _ _ _ _ _ cf_sPutLen (eval_at hz4) (eval_at hz7) (fun _=>rfl) _ _ _ _ _ _) ?_);refine (qoq _ _ 0 0 z [] u rfl e3 (by omega)).mono ?_;rintro e x' ⟨a',c',rfl,hO,hb⟩;exact⟨_,rfl,_,rfl,⟨qnr hb,fun h=>h.below hb⟩,a',_,c',_,rfl,by have:=qlk z;omega,hO.mono hH.2.size⟩
   |(_+9),hi=>cases hi
  intro vs y9 hH hG a3_ h3;obtain⟨hc9,hg9⟩:=hH;obtain⟨b3,t3,e3,hb3_,ho3⟩:=hG 3 (by decide);obtain⟨a8,m8,c8,t8,e8,hm8,ho8⟩:=hG 8 (by decide);clear hG;replace h3:puts _ 1 _ (Fq74)=a3_:=h3;replace h3:puts _ 2 _ (Fq74)=a3_:=h3;replace h3:puts _ 3 _ (Fq74)=a3_:=h3;replace h3:puts _ 4 _ (Fq74)=a3_:=h3;replace h3:puts _ 5 _ (Fq74)=a3_:=h3;replace h3:puts _ 6 _ (Fq74)=a3_:=h3;replace h3:puts _ 7 _ (Fq74)=a3_:=h3;replace h3:puts _ 8 _ (Fq74)=a3_:=h3;replace h3:Fq74=_:=h3;unfold Fq74 at h3;subst h3;simp only[List.drop_succ_cons,List.drop_zero];simp only[e3,e8];clear e3 e8;replace hg9:=qad hg4 hg9;have ho3':=ho3.mono hg4.size;have hr8:=ho8.rd;clear hg4 hOc ho;refine w_app _ rfl _ _ rfl w.heap.size _ _ _ t3 rfl ho3' _ _ _ t8 rfl hr8 (by omega) hg9.size ?_;intro a4 c4 w4_ ho4 hg4_;have hc4_:=hc9.own ho3' hlt hg4_;have hG4:=qcm hg9 ho3' (Nat.le_refl _) hg4_;clear hg4_ ho3 ho3' hr8 ho8 hc9 hg9;go_wp2;go_ret;exact⟨a4,1+m8,c4,_,by omega,rfl,ho4,hc4_,hG4⟩
 have n3_:(q==3)=false:=by simpa using q3
 by_cases q4:q=4
 ·subst q4;go_wp2_with fail
  refine (qag g ao n cap l 6 _ hc4 hn (by omega) (by omega)).mono ?_;rintro e w5 ⟨i,hi0,hi1,rfl,hc5,hg5⟩;replace hg5:=qad hg4 hg5;obtain⟨j,rfl⟩:=Int.eq_ofNat_of_zero_le hi0;go_wp2_with fail
  refine (qcb g ao n cap l j _ hc5 hn (by omega)).mono ?_;rintro e w6 ⟨a6,c6,y6,rfl,ho6,hc6,hg6⟩;go_wp2;go_ret;exact⟨a6,j,c6,y6,by omega,rfl,ho6.mono hg5.size,hc6,qad hg5 hg6⟩
 have n4_:(q==4)=false:=by simpa using q4
 go_wp2;go_ret;exact⟨_,n1,c1,x,by omega,rfl,ho,hc4,hg4⟩

theorem bt_pre {l t:List UInt8} {p:Nat} (h:p<l.length):bt (l++t) p=bt l p:=by
 unfold bt;rw[List.getD_eq_getElem?_getD,List.getD_eq_getElem?_getD,List.getElem?_append_left h]
theorem getE_ext {b t:List UInt8} (hb:1≤b.length) (h:(getE b 1).2.2≠1):getE (b++t) 1=getE b 1:=by
 unfold getE at h ⊢;rw[if_pos ⟨by omega,by omega⟩] at h;rw[if_pos ⟨by omega,by rw[List.length_append];omega⟩,if_pos ⟨by omega,by omega⟩];exact ansG_ext b t _ 4 (by omega) (fun e=>h (by rw[e]))
theorem headE_ext {b t:List UInt8} (h:headE b≠.inl 1):headE (b++t)=headE b:=by
 unfold headE at h
 by_cases g0:b.length=0
 ·rw[if_pos g0] at h;exact absurd rfl h
 rw[if_neg g0] at h;have hf:bt (b++t) 0=bt b 0:=bt_pre (by omega);have g0':¬(b++t).length=0:=by rw[List.length_append];omega
 by_cases g1:fstOk (bt b 0)=false
 ·unfold headE;rw[if_neg g0',if_neg g0,hf,if_pos g1,if_pos g1]
 rw[if_neg g1] at h
 by_cases g2:(getE b 1).2.2=1
 ·rw[if_pos (by rw[g2];decide),g2] at h;exact absurd rfl h
 have hE:getE (b++t) 1=getE b 1:=getE_ext (by omega) g2;unfold headE;rw[if_neg g0',if_neg g0,hf,hE]
 by_cases g3:(getE b 1).2.2≠0
 ·simp only[if_pos g3]
 rw[if_neg g3] at h;simp only[if_neg g1,if_neg g3]
 by_cases g4:340<(getE b 1).1
 ·simp only[if_pos g4]
 rw[if_neg g4] at h;simp only[if_neg g4]
 by_cases g5:(b.length:Int)-(getE b 1).2.1<(getE b 1).1
 ·rw[if_pos g5] at h;exact absurd rfl h
 rw[if_neg g5,if_neg (by rw[List.length_append];omega)]
theorem begins_ext {b t p:List UInt8} (h:qdp b p=true):qdp (b++t) p=true:=by
 obtain⟨s,rfl⟩:=begins_iff.1 h;exact begins_iff.2 ⟨s++t,by rw[List.append_assoc]⟩
theorem getP_one {b:List UInt8} (h:(getP b).2.2=1):headE b=.inl 1:=by
 unfold getP at h;cases hh:headE b with
 |inl c=>rw[hh] at h;simp only at h;rw[h]
 |inr nk=>
  obtain⟨n,k⟩:=nk;rw[hh] at h;simp only at h
  split at h<;>simp at h
theorem getP_of1 {b:List UInt8} (h:headE b=.inl 1):getP b=(Pv.zero,0,1):=by
 unfold getP;rw[h]
theorem getP_ext {b t:List UInt8} (h:(getP b).2.2≠1):getP (b++t)=getP b:=by
 by_cases h0:(getP b).2.2=0
 ·have e:getP b=((getP b).1,(getP b).2.1,0):=by rw[←h0]
  obtain⟨h1,h2,h3⟩:=qqq e;rw[getP_good h1 (begins_ext h2),getP_good h1 h2]
 ·have hb:=qqp (b:=b) (v:=(getP b).1) (n:=(getP b).2.1) (c:=(getP b).2.2) rfl h0;have h2:(getP b).2.2=2:=by have:=hb.2.2;omega
  have eb:getP b=(Pv.zero,0,2):=by rw[←hb.1,←hb.2.1,←h2]
  rw[eb];have hne:headE b≠.inl 1:=fun e=>by rw[getP_of1 e] at h2;simp at h2
  have hx:=headE_ext (t:=t) hne
  by_cases g:(getP (b++t)).2.2=0
  ·have e:getP (b++t)=((getP (b++t)).1,(getP (b++t)).2.1,0):=by rw[←g]
   obtain⟨h1,h3,h4⟩:=qqq e;have hk:=qnt h1 h3;have hl:=headE_le (hx ▸ hk.1);have hlen:=qgl h1;have:qdp b (getP (b++t)).1.bytes=true:=by
    obtain⟨s,hs⟩:=begins_iff.1 h3;have h5:b=(getP (b++t)).1.bytes++b.drop (getP (b++t)).1.bytes.length:=by
     have h6:b.take (getP (b++t)).1.bytes.length=(getP (b++t)).1.bytes:=by
      have h7:=congrArg (List.take (getP (b++t)).1.bytes.length) hs;rw[List.take_left,List.take_append_of_le_length (by omega)] at h7;exact h7
     conv=>lhs;rw[←List.take_append_drop (getP (b++t)).1.bytes.length b,h6]
    exact begins_iff.2 ⟨_,h5⟩
   rw[getP_good h1 this] at h0;exact absurd rfl h0
  ·have hc:=qqp (b:=b++t) (v:=(getP (b++t)).1) (n:=(getP (b++t)).2.1) (c:=(getP (b++t)).2.2) rfl g
   rcases hc.2.2 with h5 | h5
   ·exact absurd (hx ▸ getP_one h5) hne
   ·rw[show getP (b++t)=((getP (b++t)).1,(getP (b++t)).2.1,(getP (b++t)).2.2) from rfl,hc.1,hc.2.1,h5]
theorem getP_part {v:Pv} (h:v.ok=true) {k:Nat} (hk:k<v.bytes.length):getP (v.bytes.take k)=(Pv.zero,0,1):=by
 by_cases g:(getP (v.bytes.take k)).2.2=1
 ·exact getP_of1 (getP_one g)
 ·have e:=getP_ext (t:=v.bytes.drop k) g;rw[List.take_append_drop,getP_good h (begins_iff.2 ⟨[],by simp⟩)] at e;obtain⟨h1,h2,h3⟩:=qqq e.symm;have h4:v.bytes.length≤(v.bytes.take k).length:=by
   obtain⟨s,hs⟩:=begins_iff.1 h2;rw[hs,List.length_append];omega
  rw[List.length_take] at h4;omega
theorem getP_nil:getP []=(Pv.zero,0,1):=getP_of1 (by unfold headE;rw[if_pos List.length_nil])
def manyF:Nat→List UInt8→List Pv×Nat×Int
 |0,_=>([],0,0)
 |f+1,b=>if b.length=0 then ([],0,0) else if (getP b).2.2≠0 then ([],0,(getP b).2.2)
  else ((getP b).1 :: (manyF f (b.drop (getP b).2.1.toNat)).1,(getP b).2.1.toNat+(manyF f (b.drop (getP b).2.1.toNat)).2.1,(manyF f (b.drop (getP b).2.1.toNat)).2.2)
def many (b:List UInt8):List Pv×Nat×Int:=manyF b.length b
theorem getP_pos {b:List UInt8} (h:(getP b).2.2=0):2≤(getP b).2.1.toNat∧(getP b).2.1.toNat≤b.length∧(getP b).1.ok=true∧b.take (getP b).2.1.toNat=(getP b).1.bytes∧(getP b).2.1=((getP b).2.1.toNat:Int):=by
 have e:getP b=((getP b).1,(getP b).2.1,0):=by rw[←h]
 obtain⟨h1,h2,h3⟩:=qqq e;have:=qrr h1;obtain⟨s,hs⟩:=begins_iff.1 h2;have hl:=congrArg List.length hs;rw[List.length_append] at hl;refine⟨by omega,by omega,h1,?_,by omega⟩;have e2:(getP b).2.1.toNat=(getP b).1.bytes.length:=by omega
 rw[e2];unfold qdp at h2;exact of_decide_eq_true h2
theorem qsj:∀(f g:Nat) (b:List UInt8),b.length≤f→b.length≤g→manyF f b=manyF g b:=by
 intro f
 induction f with
 |zero=>
  intro g b hf hg;cases g with
  |zero=>rfl
  |succ g=>simp only[manyF];rw[if_pos (by omega)]
 |succ f ih=>
  intro g b hf hg;cases g with
  |zero=>simp only[manyF];rw[if_pos (by omega)]
  |succ g=>
   simp only[manyF]
   by_cases h0:b.length=0
   ·rw[if_pos h0,if_pos h0]
   rw[if_neg h0,if_neg h0]
   by_cases h1:(getP b).2.2≠0
   ·rw[if_pos h1,if_pos h1]
   rw[if_neg h1,if_neg h1];have:=getP_pos (b:=b) (by simpa using h1);rw[ih g (b.drop (getP b).2.1.toNat) (by rw[List.length_drop];omega) (by rw[List.length_drop];omega)]
theorem many_nil:many []=([],0,0):=rfl
theorem qqw {b:List UInt8} (h0:0<b.length) (h:(getP b).2.2≠0):many b=([],0,(getP b).2.2):=by
 unfold many;rw[show b.length=b.length-1+1 from by omega];simp only[manyF];rw[if_neg (by omega),if_pos h]
theorem qki {b:List UInt8} (h:(getP b).2.2=0):many b=((getP b).1 :: (many (b.drop (getP b).2.1.toNat)).1,(getP b).2.1.toNat+(many (b.drop (getP b).2.1.toNat)).2.1,(many (b.drop (getP b).2.1.toNat)).2.2):=by
 have hp:=getP_pos h;have e:manyF (b.length-1) (b.drop (getP b).2.1.toNat)=many (b.drop (getP b).2.1.toNat):=qsj _ _ _ (by rw[List.length_drop];omega) (by omega);rw[←e]
 conv=>lhs;unfold many
 rw[show b.length=b.length-1+1 from by omega];simp only[manyF];rw[if_neg (by omega),if_neg (by simp[h])];simp
theorem many_ind {P:List UInt8→Prop} (hn:P []) (he:∀b,0<b.length→(getP b).2.2≠0→P b) (hm:∀b,(getP b).2.2=0→P (b.drop (getP b).2.1.toNat)→P b):∀b,P b:=by
 have H:∀(k:Nat) (b:List UInt8),b.length≤k→P b:=by
  intro k
  induction k with
  |zero=>intro b hb;rw[List.length_eq_zero_iff.1 (show b.length=0 by omega)];exact hn
  |succ k ih=>
   intro b hb
   by_cases h0:b.length=0
   ·rw[List.length_eq_zero_iff.1 h0];exact hn
   by_cases h1:(getP b).2.2=0
   ·have:=getP_pos h1;exact hm b h1 (ih _ (by rw[List.length_drop];omega))
   ·exact he b (by omega) h1
 exact fun b=>H b.length b (Nat.le_refl _)
theorem many_le (b:List UInt8):(many b).2.1≤b.length∧(many b).1.length≤b.length:=by
 refine many_ind (P:=fun b=>(many b).2.1≤b.length∧(many b).1.length≤b.length) ?_ ?_ ?_ b
 ·rw[many_nil];simp
 ·intro b h0 h1;rw[qqw h0 h1];simp
 ·intro b h1 ih;have:=getP_pos h1;rw[qki h1];simp only[List.length_cons,List.length_drop] at ih ⊢;omega
def allB (l:List Pv):List UInt8:=l.flatMap Pv.bytes
theorem many_bytes (b:List UInt8):b.take (many b).2.1=allB (many b).1:=by
 refine many_ind (P:=fun b=>b.take (many b).2.1=allB (many b).1) ?_ ?_ ?_ b
 ·rfl
 ·intro b h0 h1;rw[qqw h0 h1];rfl
 ·intro b h1 ih;have hp:=getP_pos h1;rw[qki h1];simp only[allB,List.flatMap_cons] at ih ⊢;rw[←hp.2.2.2.1,←ih,List.take_add]
theorem many_back (l:List Pv):many (allB l)=(l.filter Pv.ok,(allB l).length,0):=by
 induction l with
 |nil=>rfl
 |cons v l ih=>
  cases h:v.ok with
  |false=>
   have:allB (v :: l)=allB l:=by simp[allB,bytes_no h]
   rw[this,ih,List.filter_cons_of_neg (by simp[h])]
  |true=>
   have e:allB (v :: l)=v.bytes++allB l:=by simp[allB]
   have hg:=getP_good (b:=v.bytes++allB l) h (begins_iff.2 ⟨_,rfl⟩);rw[e,qki (by rw[hg]),hg];simp only[Int.toNat_natCast,List.drop_left,ih,List.filter_cons_of_pos h,List.length_append]

theorem draw_sDrawGetPacket (ao:Option Addr) (n cap:Nat) (l:List UInt8) (w:World) (hr:RdIn w ao n cap l) (hn:n≤1048576) :
  Calls Tryz.prog 25 #[.slice ao n cap] w fun e w'=>∃a m c x,m≤800∧e=.returned (.slice a m c)∧Own w' w.heap.size a m c x∧Below w.heap.size w w':=by
 go_enter Tryz.func25,Tryz.ntmps25;go_wp2_with fail
 refine (qjc ao n cap l _ hr hn).mono ?_;rintro e w0 ⟨rfl,hc0,hb0⟩;have hz0:w.heap.size<w0.heap.size:=hc0.lt;go_wp2_with fail
 refine (qjn w.heap.size ao n cap l _ hc0 hn).mono ?_;rintro e w1 ⟨a1,m1,c1,x1,hm1,rfl,ho1,hc1,hg1⟩;go_wp2_with fail
 refine (qax w.heap.size ao n cap l 3 _ hc1 hn (by omega) (by omega)).mono ?_;rintro e w2 ⟨b1,rfl,hc2,hg2⟩;have ho2:=ho1.cur hz0 hg2;replace hg2:=qad hg1 hg2;clear hg1 hc1 ho1;cases b1
 ·go_wp2_with fail
  refine (qax w.heap.size ao n cap l 3 _ hc2 hn (by omega) (by omega)).mono ?_;rintro e w3 ⟨b2,rfl,hc3,hg3⟩;have ho3:=ho2.cur hz0 hg3;replace hg3:=qad hg2 hg3;clear hg2 hc2 ho2;cases b2
  ·go_wp2;go_ret;exact⟨a1,m1,c1,x1,by omega,rfl,ho3.mono (Nat.le_of_lt hz0),qih hb0 hg3 (Nat.le_of_lt hz0)⟩
  ·go_wp2_with fail
   refine (qjn w.heap.size ao n cap l _ hc3 hn).mono ?_;rintro e w4 ⟨a4,m4,c4,x4,hm4,rfl,ho4,hc4,hg4⟩;have ho5:=ho3.cur hz0 hg4;replace hg4:=qad hg3 hg4;have hr4:=ho4.rd;clear hg3 hc3 ho3 ho4;go_wp2_with (at_builtin;refine w_app _ rfl _ _ rfl w0.heap.size _ _ _ x1 rfl ho5 _ _ _ x4 rfl hr4 (by omega) hg4.size ?_)
   intro a6 c6 w6 ho6 hg6;have hG:=qcm hg4 ho5 (Nat.le_refl _) hg6;clear hg6 ho5 hr4 hg4;go_wp2;go_ret;exact⟨a6,m1+m4,c6,_,by omega,rfl,ho6.mono (Nat.le_of_lt hz0),qih hb0 hG (Nat.le_of_lt hz0)⟩
 ·go_wp2_with fail
  refine (qro w.heap.size ao n cap l _ _ _ x1 _ hc2 hn ho2.rd (by omega)).mono ?_;rintro e w3 ⟨a3,m3,c3,x3,hm3,rfl,ho3,hc3,hg3⟩;have hs:=hg2.size;go_wp2;go_ret;exact⟨a3,m3,c3,x3,by omega,rfl,ho3.mono (by omega),qih hb0 (qad hg2 hg3) (Nat.le_of_lt hz0)⟩
theorem at_lat (ao:Option Addr) (n cap k:Nat) (l:List UInt8) (w:World) (hr:RdIn w ao n cap l) (hn:n≤1048576) (hk:k≤100) :
  Calls Tryz.prog 26 #[.slice ao n cap,.int .i64 k] w fun e w'=>∃z:Nat,z<256∧e=.returned (.int .i64 z)∧w'=w:=by
 by_cases h:k<n
 ·obtain⟨b,off,rfl,hc⟩:=hr.1.at (show 0<n by omega);have q:=hc k h;have h':(k:Int)<n:=by omega
  have hb:=bt_lt l k;go_enter Tryz.func26,Tryz.ntmps26;go_wp2;go_ret;exact⟨bt l k,hb,rfl,rfl⟩
 ·have h':¬(k:Int)<n:=by omega
  obtain⟨z,hz⟩ : ∃z:Nat,((k:Int)*31+(n:Int)*7).tmod 256=z:=⟨(k*31+n*7)%256,by rw[Int.tmod_eq_emod_of_nonneg (by omega)];omega⟩;have hz2:z<256:=by
   rw[Int.tmod_eq_emod_of_nonneg (by omega)] at hz;omega
  go_enter Tryz.func26,Tryz.ntmps26;go_wp2;go_ret;exact⟨z,hz2,by simp[hz],rfl⟩
