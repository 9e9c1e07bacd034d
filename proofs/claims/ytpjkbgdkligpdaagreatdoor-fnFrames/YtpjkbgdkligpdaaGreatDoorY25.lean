/- Lemmas. -/
import Derived.Test.YtpjkbgdkligpdaaGreatDoorY24
import Derived.Test.YtpjkbgdkligpdaaGreatDoorY01
set_option linter.all false
set_option maxRecDepth 100000
set_option maxHeartbeats 20000000
namespace Go.Proofs.YtpjkbgdkligpdaaGreatDoor
open Go.RowKit

theorem cf_sPutLen (xs:Array Value) (u:World):(callFunc 134 xs).run Tryz.prog u=.ok (.enter 134 xs) u:=by kernel_rfl
theorem mki3 (x y z:Int) (u:World):(Instr.buildSlice 26 3 #[(0,.int .i64 x),(1,.int .i64 y),(2,.int .i64 z)]).run Tryz.prog u=.ok (.slice (some ⟨u.heap.size,0,none⟩) 3 3) (u.alloc (.cells #[.int .i64 x,.int .i64 y,.int .i64 z] 3)):=by kernel_rfl
theorem mkb0 (u:World):(Instr.buildSlice 22 0 #[]).run Tryz.prog u=.ok (.slice (some ⟨u.heap.size,0,none⟩) 0 0) (u.alloc (.cells #[] 5)):=by kernel_rfl
theorem idx_k (b n c k:Nat) (h:k<n) (u:World):(Instr.indexAt 22 (.slice (some ⟨b,0,none⟩) n c) (.int .i64 (k:Int))).run Tryz.prog u=.ok (.pointer (some ⟨b,k,none⟩)) u:=by
 have h1:(k:Int)<n:=by omega
 have h2:(sizeOf (Tryz.prog.elem 22)).run Tryz.prog u=.ok 1 u:=by kernel_rfl
 simp[Instr.indexAt,Instr.index,go_sem,Tryz.underlying22,h1,h2,h,Addr.add]
 try exact fun h0=>h0.symm
theorem len_345 {v:Pv} (h:v.ok=true):2≤v.bytes.length∧v.bytes.length≤345:=by
 have h340:=qlt h;have h2:=hd_two h;have hlen:=qhe h;have hle:=qmi (v.rest.length:Int);have hh:v.hd=1+(lenB v.rest.length).length:=rfl;omega
theorem in3 {z:Int} (h:z∈[(1:Int),2,255]):1≤z∧z≤255:=by
 simp only[List.mem_cons,List.not_mem_nil,or_false] at h;omega
theorem own_one (w:World) (x:Nat) (hx:x<256):∃y:List UInt8,y.length=1∧Own (w.alloc (.cells #[.int .u8 (x:Int)] 5)) w.heap.size (some ⟨w.heap.size,0,none⟩) 1 1 y:=by
 obtain⟨y,hy,hr⟩:=rd_one w (x:Int) (by omega) (by omega);refine⟨[UInt8.ofNat x],rfl,rfl,by simp[bvals],.inr ⟨w.heap.size,1,#[.int .u8 (x:Int)],rfl,Nat.le_refl _,heap_alloc_new w _,Nat.le_refl _,by decide,rfl,?_⟩⟩;have e:bvals [UInt8.ofNat x] = [.int .u8 (x:Int)]:=by
  simp[bvals];omega
 rw[e];rfl
theorem Own.head {w:World} {B:Nat} {a:Option Addr} {n c:Nat} {x:List UInt8} (h:Own w B a n c x) (h0:0<n):∃g,a=some ⟨g,0,none⟩:=by
 rcases h.2.2 with ⟨_,e⟩ | ⟨g,c',cur,e,_⟩
 ·omega
 ·simp only[Value.slice.injEq] at e;exact⟨g,e.1⟩
theorem ints_blk {u:World} {blk:Nat} (zs:List Int) (h:u.heap[blk]? = some (.cells (zs.map (Value.int .i64)).toArray 3)) (i:Nat) (hi:i<zs.length):u.cell? ⟨blk,i,none⟩ = some (.int .i64 (zs.getD i 0)):=by
 rw[qbr h];simp[List.getD_eq_getElem?_getD,List.getElem?_eq_getElem hi]
theorem addw (x y:Int) (u:World) (a b:Operand):(do eqGuard .add 3 a b (.int .i64 x) (.int .i64 y);binOp .add 3 (.int .i64 x) (.int .i64 y):Sem Value).run Tryz.prog u=.ok (.int .i64 (IntKind.i64.wrap (x+y))) u:=by
 simp[eqGuard,binOp,go_sem]
theorem heap_cur {u u':World} {g blk B:Nat} {o:Obj} (hg:u.grownBy u' (some g)) (hB:B≤blk) (hlt:g<B) (h:u.heap[blk]? = some o):u'.heap[blk]? = some o :=
 (hg.block blk (Array.getElem?_eq_some_iff.1 h).1 (fun e=>by simp at e;omega)).trans h
theorem qkl (g:Nat) (ao:Option Addr) (n cap:Nat) (l:List UInt8) (w:World) (hc:Cur w g ao n cap l) (hn:n≤1048576) :
  Calls Tryz.prog 83 #[.pointer (some ⟨g,0,none⟩)] w fun e w'=>∃a m c x,m≤350∧e=.returned (.slice a m c)∧Own w' w.heap.size a m c x∧Cur w' g ao n cap l∧w.grownBy w' (some g):=by
 have hlt:=hc.lt;go_enter Tryz.func83,Tryz.ntmps83;go_wp2_with fail
 refine (qah g ao n cap l 14 _ hc hn (by omega) (by omega)).mono ?_;rintro e w1 ⟨k,hk0,hk1,rfl,hc1,hg1⟩;go_wp2_with fail
 refine (qon g ao n cap l (1+k) _ hc1 hn (by omega) (by omega)).mono ?_;rintro e w2 ⟨p,d,hok,rfl,hp,hd,hc2,hg2⟩;have hsz:=hg1.size;replace hg2:=qap hg1 hg2;clear hc1 hg1;go_wp2_with fail
 refine (qhb p d _ hp.rd hd.sz (Pgd.ln (hd.mono (by omega)))).mono ?_;rintro e w3 ⟨a1,n1,c1,rfl,ho3,hb3⟩;have hlen:=len_345 hok;rw[ho3.1] at hlen;generalize (pv p d).bytes=x at ho3;have hc3:=hc2.below hb3;have hg3:=qcb hg2 hb3;have ho:=ho3.mono hg2.size;clear ho3 hb3 hc2 hg2 hp hd hok hsz;obtain⟨g1,e⟩:=ho.head (by omega);subst e;have hgB:=(ho.block rfl).1;go_wp2_with fail
 refine (qah g ao n cap l 10 _ hc3 hn (by omega) (by omega)).mono ?_;rintro e w4 ⟨q,hq0,hq1,rfl,hc4,hg4⟩;replace ho:=ho.cur hlt hg4;replace hg4:=qap hg3 hg4;clear hc3 hg3
 by_cases q0:q=0
 ·subst q0;go_wp2_with fail
  refine (qea g ao n cap l _ hc4 hn).mono ?_;rintro e w5 ⟨y,hy0,hy1,rfl,hc5,hg5⟩;replace ho:=ho.cur hlt hg5;replace hg5:=qap hg4 hg5;have hz:=ho.cell 0 (by omega);have hf:=ho.frozen 0;have hp0:0<n1:=by omega
  go_wp2;go_ret;exact⟨_,n1,c1,_,by omega,rfl,ho.storeI 0 _ (by omega) (by omega),(hc5.own ho hlt (by simpa[Value.ownBlock] using qai _ _ _ _)),qhm hg5 ho (Nat.le_refl _) (by simpa[Value.ownBlock] using qai _ _ _ _)⟩
 have n0:(q==0)=false:=by simpa using q0
 by_cases q1:q=1
 ·subst q1
  by_cases h3:3<n1
  ·have h3':(3:Int)<n1:=by omega
   go_wp2_with fail
   refine (qah g ao n cap l ((n1:Int)-2) _ hc4 hn (by omega) (by omega)).mono ?_;rintro e w5 ⟨i,hi0,hi1,rfl,hc5,hg5⟩;replace ho:=ho.cur hlt hg5;replace hg5:=qap hg4 hg5;have lts:=hc5.lt;go_wp2_with fail
   refine (qez g ao n cap l _ 6 6 [0,1,3,43,35,255] _ (hc5.alloc _) hn (by omega) (by omega) rfl (fun i hi=>qrw _ [0,1,3,43,35,255] _ (by simp) i hi) (by omega)).mono ?_;rintro e w6 ⟨z,hz_,rfl,hc6,hg6⟩;replace hg6:=qap (World.grownBy_alloc _ _ _) hg6;replace ho:=ho.cur hlt hg6;replace hg6:=qap hg5 hg6;obtain⟨j,rfl⟩:=Int.eq_ofNat_of_zero_le hi0;have hz:=ho.cell (2+j) (by omega);have hf:=ho.frozen (2+j);have hj0:(0:Int)≤2+j:=by omega
   have hj1:(2:Int)+j<n1:=by omega
   have hj2:((2:Int)+j).toNat=2+j:=by omega
   go_wp2;go_ret;exact⟨_,n1,c1,_,by omega,rfl,ho.storeI (2+j) _ (by omega) (by omega),(hc6.own ho hlt (by simpa[Value.ownBlock] using qai _ _ _ _)),qhm hg6 ho (Nat.le_refl _) (by simpa[Value.ownBlock] using qai _ _ _ _)⟩
  ·have h3':¬(3:Int)<n1:=by omega
   go_wp2;go_ret;exact⟨_,n1,c1,x,by omega,rfl,ho,hc4,hg4⟩
 have n1_:(q==1)=false:=by simpa using q1
 by_cases q2:q=2
 ·subst q2;have hOc:Hid (∀u,w4.grownBy u (some g)→Own u w.heap.size (some ⟨g1,0,none⟩) n1 c1 x):=fun u hu=>ho.cur hlt hu
  go_wp2;refine qda 11 (by kernel_rfl) rfl (fun _ u u'=>u.grownBy u' (some g)∧(Cur u g ao n cap l→Cur u' g ao n cap l)) (fun i v u=>match i with
   |0=>v=.slice (some ⟨g1,0,none⟩) n1 c1
   |1=>v=.slice (some ⟨g1,0,none⟩) n1 c1
   |2=>v=.pointer (some ⟨g1,1,none⟩)
   |3=>v=.int .u8 (bt x 1)
   |4=>v=.int .i64 (bt x 1)
   |5=>v=.pointer (some ⟨g,0,none⟩)
   |6=>∃blk,v=.slice (some ⟨blk,0,none⟩) 3 3∧w4.heap.size≤blk∧u.heap[blk]? = some (.cells #[.int .i64 1,.int .i64 2,.int .i64 255] 3)
   |7=>∃z,v=.int .i64 z∧1≤z∧z≤255
   |8=>∃z,v=.int .i64 z
   |9=>∃z,v=.int .u8 z∧0≤z∧z<256
   |10=>v=.pointer (some ⟨g1,1,none⟩)
   |_=>True) (fun _ u=>Cur u g ao n cap l∧w4.grownBy u (some g)) ?_ ?_ ?_ ?_ ?_
  ·intro i j v u x_ hi hj hr hne hR hG
   match j,hj,hr,hne,hG with
   |0,_,_,_,hG=>exact hG
   |1,_,_,_,hG=>exact hG
   |2,_,_,_,hG=>exact hG
   |3,_,_,_,hG=>exact hG
   |4,_,_,_,hG=>exact hG
   |5,_,_,_,hG=>exact hG
   |6,_,_,_,hG=>
    obtain⟨blk,e1,e2,e3⟩:=hG;exact⟨blk,e1,e2,heap_cur hR.1 e2 hc4.lt e3⟩
   |7,_,_,_,hG=>exact hG
   |8,_,_,_,hG=>exact hG
   |9,_,_,_,hG=>exact hG
   |10,_,_,_,hG=>exact hG
   |(_+11),h,_,_,_=>omega
  ·exact fun i k u x_ hi hk hr hne hR hH=>⟨hR.2 hH.1,qap hH.2 hR.1⟩
  ·exact fun k=>⟨hc4.drew,qne (World.grownBy.refl _ _)⟩
  ·intro i o a u hi hk hH hdep;replace hdep:=qhdd hdep
   match i,hi with
   |0,hi=>cases hi;exact qggo rfl (qbd _ rfl (qevv hk 3 rfl rfl) ⟨_,rfl,⟨World.grownBy.refl _ _,fun h=>h⟩,rfl⟩)
   |1,hi=>cases hi;exact qggo rfl (qbd _ rfl (qevv hk 3 rfl rfl) ⟨_,rfl,⟨World.grownBy.refl _ _,fun h=>h⟩,rfl⟩)
   |2,hi=>cases hi;obtain⟨z1,hz1,rfl⟩:=hdep 1 rfl;exact qggo rfl (z_ix 22 _ _ rfl (qab hz1) rfl (idx_k g1 n1 c1 1 (by omega)) ⟨_,rfl,⟨World.grownBy.refl _ _,fun h=>h⟩,rfl⟩)
   |3,hi=>cases hi;obtain⟨z2,hz2,rfl⟩:=hdep 2 rfl;exact qggo rfl (z_ld 5 _ rfl (qab hz2) (by kernel_rfl) ((hOc.out _ hH.2).cell 1 (by omega)) ⟨_,rfl,⟨World.grownBy.refl _ _,fun h=>h⟩,rfl⟩)
   |4,hi=>cases hi;obtain⟨z3,hz3,rfl⟩:=hdep 3 rfl;exact qggo rfl (qgp 5 3 _ rfl (qab hz3) (cvi (bt x 1) u (bt_lt x 1)) ⟨_,rfl,⟨World.grownBy.refl _ _,fun h=>h⟩,rfl⟩)
   |5,hi=>cases hi;exact qggo rfl (qbd _ rfl (qevv hk 0 rfl rfl) ⟨_,rfl,⟨World.grownBy.refl _ _,fun h=>h⟩,rfl⟩)
   |6,hi=>cases hi;exact qggo rfl (z_mk _ _ rfl (by simp<;>and_intros<;>rfl) (mki3 1 2 255 u) ⟨_,rfl,⟨World.grownBy_alloc _ _ _,fun h=>h.alloc _⟩,⟨_,rfl,hH.2.size,heap_alloc_new _ _⟩⟩)
   |7,hi=>cases hi;obtain⟨z5,hz5,rfl⟩:=hdep 5 rfl;obtain⟨z6,hz6,⟨blk,e1,e2,e3⟩⟩:=hdep 6 rfl;subst e1;refine qggo rfl (qal (qak _ _ _ _ _ _ _ _ cf_int (qab hz5) (qab hz6) (fun _=>rfl) _ _ _ _ _ _) ?_);refine (qez g ao n cap l blk 3 3 [1,2,255] u hH.1 hn (by omega) (by omega) rfl (fun i hi=>ints_blk [1,2,255] e3 i hi) (by have:=hc4.lt;omega)).mono ?_;rintro e x' ⟨z,hz,rfl,hc,hg⟩;exact⟨_,rfl,_,rfl,⟨hg,fun _=>hc⟩,z,rfl,in3 hz⟩
   |8,hi=>cases hi;obtain⟨z4,hz4,rfl⟩:=hdep 4 rfl;obtain⟨z7,hz7,⟨z,rfl,h1,h2⟩⟩:=hdep 7 rfl;exact qggo rfl (z_bin .add 3 3 _ _ rfl (qab hz4) (qab hz7) (addw _ _ u _ _) ⟨_,rfl,⟨World.grownBy.refl _ _,fun h=>h⟩,_,rfl⟩)
   |9,hi=>cases hi;obtain⟨z8,hz8,⟨z,rfl⟩⟩:=hdep 8 rfl;exact qggo rfl (qgp 3 5 _ rfl (qab hz8) (cvb z u) ⟨_,rfl,⟨World.grownBy.refl _ _,fun h=>h⟩,_,rfl,by omega,by omega⟩)
   |10,hi=>cases hi;obtain⟨z0,hz0,rfl⟩:=hdep 0 rfl;exact qggo rfl (z_ix 22 _ _ rfl (qab hz0) rfl (idx_k g1 n1 c1 1 (by omega)) ⟨_,rfl,⟨World.grownBy.refl _ _,fun h=>h⟩,rfl⟩)
   |(_+11),hi=>cases hi
  intro vs y9 hH hG a3_ h3;obtain⟨hc9,hg9⟩:=hH;obtain⟨z9,e9,r0,r1⟩:=hG 9 (by decide);have e10:=hG 10 (by decide);replace e10:vs 10=.pointer (some ⟨g1,1,none⟩):=e10;clear hG;replace h3:puts _ 1 _ (Fq74)=a3_:=h3;replace h3:puts _ 2 _ (Fq74)=a3_:=h3;replace h3:puts _ 3 _ (Fq74)=a3_:=h3;replace h3:puts _ 4 _ (Fq74)=a3_:=h3;replace h3:puts _ 5 _ (Fq74)=a3_:=h3;replace h3:puts _ 6 _ (Fq74)=a3_:=h3;replace h3:puts _ 7 _ (Fq74)=a3_:=h3;replace h3:puts _ 8 _ (Fq74)=a3_:=h3;replace h3:puts _ 9 _ (Fq74)=a3_:=h3;replace h3:puts _ 10 _ (Fq74)=a3_:=h3;replace h3:Fq74=_:=h3;unfold Fq74 at h3;subst h3;simp only[List.drop_succ_cons,List.drop_zero];simp only[e9,e10];clear e9 e10;have ho9:=hOc.out _ hg9;have hz:=ho9.cell 1 (by omega);have hf:=ho9.frozen 1;have ho10:=ho9.storeI 1 z9 r0 r1;have hc10:Cur (y9.setCell ⟨g1,1,none⟩ (.int .u8 z9)) g ao n cap l:=hc9.own ho9 hlt (by simpa[Value.ownBlock] using qai _ _ _ _);have hg10:w.grownBy (y9.setCell ⟨g1,1,none⟩ (.int .u8 z9)) (some g):=qhm (qap hg4 hg9) ho9 (Nat.le_refl _) (by simpa[Value.ownBlock] using qai _ _ _ _);clear hc9 hg9 ho hg4 hOc;go_wp2_with fail
  refine (qah g ao n cap l 3 _ hc10 hn (by omega) (by omega)).mono ?_;rintro e w5 ⟨y,hy0,hy1,rfl,hc5,hg5⟩;have ho3:=ho10.cur hlt hg5;have hG3:=qap hg10 hg5;obtain⟨t,htl,hrt⟩:=rd_one w5 y hy0 (by omega);have hy:y%256=y:=by omega
  clear ho10 hc10 hg10 hg5;go_wp2_with (at_builtin;refine w_app _ rfl _ _ rfl w.heap.size _ _ _ _ rfl (ho3.alloc _) _ _ _ t rfl hrt (by omega) (by have:=hG3.size;simp;omega) ?_)
  intro a4 c4 w4_ ho4 hg4_;have hc4_:=(hc5.alloc _).own (ho3.alloc _) hlt hg4_;have hG4:=qhm (qge hG3 _) (ho3.alloc _) (Nat.le_refl _) hg4_;clear hg4_ hrt ho3 hG3 hc5;go_wp2;go_ret;exact⟨a4,n1+1,c4,_,by omega,rfl,ho4,hc4_,hG4⟩
 have n2_:(q==2)=false:=by simpa using q2
 by_cases q3:q=3
 ·subst q3;have hOc:Hid (∀u,w4.grownBy u (some g)→Own u w.heap.size (some ⟨g1,0,none⟩) n1 c1 x):=fun u hu=>ho.cur hlt hu
  go_wp2;refine qda 9 (by kernel_rfl) rfl (fun _ u u'=>u.grownBy u' (some g)∧(Cur u g ao n cap l→Cur u' g ao n cap l)) (fun i v u=>match i with
   |0=>v=.slice (some ⟨g1,0,none⟩) n1 c1
   |1=>v=.pointer (some ⟨g1,0,none⟩)
   |2=>v=.int .u8 (bt x 0)
   |3=>∃(blk:Nat) (y:List UInt8),v=.slice (some ⟨blk,0,none⟩) 1 1∧w4.heap.size≤blk∧Own u w4.heap.size (some ⟨blk,0,none⟩) 1 1 y
   |4=>∃blk,v=.slice (some ⟨blk,0,none⟩) 0 0∧w4.heap.size≤blk∧RdIn u (some ⟨blk,0,none⟩) 0 0 []
   |5=>v=.pointer (some ⟨g,0,none⟩)
   |6=>∃blk,v=.slice (some ⟨blk,0,none⟩) 4 4∧w4.heap.size≤blk∧u.heap[blk]? = some (.cells #[.int .i64 340,.int .i64 341,.int .i64 5,.int .i64 268435455] 3)
   |7=>∃z,v=.int .i64 z
   |8=>∃(a:Option Addr) (m c:Nat) (y:List UInt8),v=.slice a m c∧m≤4∧Own u w4.heap.size a m c y
   |_=>True) (fun _ u=>Cur u g ao n cap l∧w4.grownBy u (some g)) ?_ ?_ ?_ ?_ ?_
  ·intro i j v u x_ hi hj hr hne hR hG
   match j,hj,hr,hne,hG with
   |0,_,_,_,hG=>exact hG
   |1,_,_,_,hG=>exact hG
   |2,_,_,_,hG=>exact hG
   |3,_,_,_,hG=>
    obtain⟨blk,y,e1,e2,e3⟩:=hG;exact⟨blk,y,e1,e2,e3.cur hc4.lt hR.1⟩
   |4,_,_,_,hG=>
    obtain⟨blk,e1,e2,e3⟩:=hG;exact⟨blk,e1,e2,e3.cur (fun d hd=>by cases hd;have:=hc4.lt;show g<blk;omega) hR.1⟩
   |5,_,_,_,hG=>exact hG
   |6,_,_,_,hG=>
    obtain⟨blk,e1,e2,e3⟩:=hG;exact⟨blk,e1,e2,heap_cur hR.1 e2 hc4.lt e3⟩
   |7,_,_,_,hG=>exact hG
   |8,_,_,_,hG=>
    obtain⟨a,m,c,y,e1,e2,e3⟩:=hG;exact⟨a,m,c,y,e1,e2,e3.cur hc4.lt hR.1⟩
   |(_+9),h,_,_,_=>omega
  ·exact fun i k u x_ hi hk hr hne hR hH=>⟨hR.2 hH.1,qap hH.2 hR.1⟩
  ·exact fun k=>⟨hc4.drew,qne (World.grownBy.refl _ _)⟩
  ·intro i o a u hi hk hH hdep;replace hdep:=qhdd hdep
   match i,hi with
   |0,hi=>cases hi;exact qggo rfl (qbd _ rfl (qevv hk 3 rfl rfl) ⟨_,rfl,⟨World.grownBy.refl _ _,fun h=>h⟩,rfl⟩)
   |1,hi=>cases hi;obtain⟨z0,hz0,rfl⟩:=hdep 0 rfl;exact qggo rfl (z_ix 22 _ _ rfl (qab hz0) rfl (idx_k g1 n1 c1 0 (by omega)) ⟨_,rfl,⟨World.grownBy.refl _ _,fun h=>h⟩,rfl⟩)
   |2,hi=>cases hi;obtain⟨z1,hz1,rfl⟩:=hdep 1 rfl;exact qggo rfl (z_ld 5 _ rfl (qab hz1) (by kernel_rfl) ((hOc.out _ hH.2).cell 0 (by omega)) ⟨_,rfl,⟨World.grownBy.refl _ _,fun h=>h⟩,rfl⟩)
   |3,hi=>cases hi;obtain⟨z2,hz2,rfl⟩:=hdep 2 rfl;obtain⟨y,hy,hO⟩:=own_one u (bt x 0) (bt_lt x 0);exact qggo rfl (z_mk _ _ rfl (by simp[qab hz2]) (mkb1 (bt x 0) u) ⟨_,rfl,⟨World.grownBy_alloc _ _ _,fun h=>h.alloc _⟩,⟨_,y,rfl,hH.2.size,hO.mono hH.2.size⟩⟩)
   |4,hi=>cases hi;exact qggo rfl (z_mk _ _ rfl (by simp<;>and_intros<;>rfl) (mkb0 u) ⟨_,rfl,⟨World.grownBy_alloc _ _ _,fun h=>h.alloc _⟩,⟨_,rfl,hH.2.size,(qbm u).rd⟩⟩)
   |5,hi=>cases hi;exact qggo rfl (qbd _ rfl (qevv hk 0 rfl rfl) ⟨_,rfl,⟨World.grownBy.refl _ _,fun h=>h⟩,rfl⟩)
   |6,hi=>cases hi;exact qggo rfl (z_mk _ _ rfl (by simp<;>and_intros<;>rfl) (mki4 340 341 5 268435455 u) ⟨_,rfl,⟨World.grownBy_alloc _ _ _,fun h=>h.alloc _⟩,⟨_,rfl,hH.2.size,heap_alloc_new _ _⟩⟩)
   |7,hi=>cases hi;obtain⟨z5,hz5,rfl⟩:=hdep 5 rfl;obtain⟨z6,hz6,⟨blk,e1,e2,e3⟩⟩:=hdep 6 rfl;subst e1;refine qggo rfl (qal (qak _ _ _ _ _ _ _ _ cf_int (qab hz5) (qab hz6) (fun _=>rfl) _ _ _ _ _ _) ?_);refine (qez g ao n cap l blk 4 4 [340,341,5,268435455] u hH.1 hn (by omega) (by omega) rfl (fun i hi=>ints_blk [340,341,5,268435455] e3 i hi) (by have:=hc4.lt;omega)).mono ?_;rintro e x' ⟨z,hz,rfl,hc,hg⟩;exact⟨_,rfl,_,rfl,⟨hg,fun _=>hc⟩,z,rfl⟩
   |8,hi=>cases hi;obtain⟨z4,hz4,⟨blk,e1,e2,e3⟩⟩:=hdep 4 rfl;obtain⟨z7,hz7,⟨z,rfl⟩⟩:=hdep 7 rfl;subst e1;refine qggo rfl (qal (qak _ _ _ _ _ _ _ _ cf_sPutLen (qab hz4) (qab hz7) (fun _=>rfl) _ _ _ _ _ _) ?_);refine (qpw _ _ 0 0 z [] u rfl e3 (by omega)).mono ?_;rintro e x' ⟨a',c',rfl,hO,hb⟩;exact⟨_,rfl,_,rfl,⟨qox hb,fun h=>h.below hb⟩,a',_,c',_,rfl,by have:=qmi z;omega,hO.mono hH.2.size⟩
   |(_+9),hi=>cases hi
  intro vs y9 hH hG a3_ h3;obtain⟨hc9,hg9⟩:=hH;obtain⟨b3,t3,e3,hb3_,ho3⟩:=hG 3 (by decide);obtain⟨a8,m8,c8,t8,e8,hm8,ho8⟩:=hG 8 (by decide);clear hG;replace h3:puts _ 1 _ (Fq74)=a3_:=h3;replace h3:puts _ 2 _ (Fq74)=a3_:=h3;replace h3:puts _ 3 _ (Fq74)=a3_:=h3;replace h3:puts _ 4 _ (Fq74)=a3_:=h3;replace h3:puts _ 5 _ (Fq74)=a3_:=h3;replace h3:puts _ 6 _ (Fq74)=a3_:=h3;replace h3:puts _ 7 _ (Fq74)=a3_:=h3;replace h3:puts _ 8 _ (Fq74)=a3_:=h3;replace h3:Fq74=_:=h3;unfold Fq74 at h3;subst h3;simp only[List.drop_succ_cons,List.drop_zero];simp only[e3,e8];clear e3 e8;replace hg9:=qap hg4 hg9;have ho3':=ho3.mono hg4.size;have hr8:=ho8.rd;clear hg4 hOc ho;refine w_app _ rfl _ _ rfl w.heap.size _ _ _ t3 rfl ho3' _ _ _ t8 rfl hr8 (by omega) hg9.size ?_;intro a4 c4 w4_ ho4 hg4_;have hc4_:=hc9.own ho3' hlt hg4_;have hG4:=qhm hg9 ho3' (Nat.le_refl _) hg4_;clear hg4_ ho3 ho3' hr8 ho8 hc9 hg9;go_wp2;go_ret;exact⟨a4,1+m8,c4,_,by omega,rfl,ho4,hc4_,hG4⟩
 have n3_:(q==3)=false:=by simpa using q3
 by_cases q4:q=4
 ·subst q4;go_wp2_with fail
  refine (qah g ao n cap l 6 _ hc4 hn (by omega) (by omega)).mono ?_;rintro e w5 ⟨i,hi0,hi1,rfl,hc5,hg5⟩;replace hg5:=qap hg4 hg5;obtain⟨j,rfl⟩:=Int.eq_ofNat_of_zero_le hi0;go_wp2_with fail
  refine (qdd g ao n cap l j _ hc5 hn (by omega)).mono ?_;rintro e w6 ⟨a6,c6,y6,rfl,ho6,hc6,hg6⟩;go_wp2;go_ret;exact⟨a6,j,c6,y6,by omega,rfl,ho6.mono hg5.size,hc6,qap hg5 hg6⟩
 have n4_:(q==4)=false:=by simpa using q4
 go_wp2;go_ret;exact⟨_,n1,c1,x,by omega,rfl,ho,hc4,hg4⟩

structure A7 (w y:World) (g:Nat) (ao:Option Addr) (n cap:Nat) (l:List UInt8) (a:Option Addr) (k c:Nat) (x:Bool) (h:List UInt8):Prop where
 cur:Cur y g ao n cap l
 gro:w.grownBy y (some g)
 row:RowB y (w.heap.size+1) a k c x
 res:RowB y w.heap.size none 0 0 false
 rd:RdIn y a k c h
 le:k≤350
 blk:∀q,a=some q→w.heap.size+2≤q.block
 sz:w.heap.size+2≤y.heap.size
 lt:g<w.heap.size
section
variable {w y y' : World} {g : Nat} {ao : Option Addr} {n cap : Nat} {l : List UInt8} {a : Option Addr} {k c : Nat} {x : Bool} {h : List UInt8}
theorem A7.draw (s:A7 w y g ao n cap l a k c x h) (hc:Cur y' g ao n cap l) (hg:y.grownBy y' (some g)):A7 w y' g ao n cap l a k c x h :=
 ⟨hc,qap s.gro hg,(hg.block _ s.row.lt (fun e=>by have:=s.lt;simp at e;omega)).trans s.row,(hg.block _ s.res.lt (fun e=>by have:=s.lt;simp at e;omega)).trans s.res,
  s.rd.cur (fun d e=>by have:=s.blk d e;have:=s.lt;omega) hg,s.le,s.blk,Nat.le_trans s.sz hg.size,s.lt⟩
theorem A7.new (s:A7 w y g ao n cap l a k c x h) (hb:Below y.heap.size y y'):A7 w y' g ao n cap l a k c x h :=
 ⟨s.cur.below hb,qcb s.gro hb,s.row.next hb,s.res.next hb,s.rd.below hb,s.le,s.blk,Nat.le_trans s.sz hb.size,s.lt⟩
theorem A7.set (s:A7 w y g ao n cap l a k c x h) (i:Nat) (v:Value) (a':Option Addr) (k' c':Nat) (x':Bool) (h':List UInt8) (hv:(#[Value.slice a k c,.bool x]:Array Value).setIfInBounds i v = #[.slice a' k' c',.bool x'])
  (hr:RdIn y a' k' c' h') (hk:k'≤350) (hb:∀q,a'=some q→w.heap.size+2≤q.block):A7 w (y.setCell ⟨w.heap.size+1,i,none⟩ v) g ao n cap l a' k' c' x' h':=by
 have hg:=qai y (w.heap.size+1) i v;have hlt:=s.lt;refine⟨s.cur.keep hg (fun k e=>by cases e;omega),qcc s.gro hg (by omega),?_,(hg.block _ s.res.lt (fun e=>by simp at e)).trans s.res,hr.grown hg (fun d e he=>by have:=hb d e;simp at he;omega),hk,hb,Nat.le_trans s.sz hg.size,hlt⟩;have e:=qaf s.row i v;rw[hv] at e;exact e
end
theorem any_sl7Any (g:Nat) (ao:Option Addr) (n cap:Nat) (l:List UInt8) (w:World) (hc:Cur w g ao n cap l) (hn:n≤1048576) :
  Calls Tryz.prog 93 #[.pointer (some ⟨g,0,none⟩)] w fun e w'=>∃a k c x h,e=.returned (.agg #[.slice a k c,.bool x])∧k≤350∧RdIn w' a k c h∧(∀q,a=some q→w.heap.size≤q.block)∧Cur w' g ao n cap l∧w.grownBy w' (some g):=by
 have hlt:=hc.lt;have Z0:RowB (w.alloc (.cells #[.slice none 0 0,.bool false] 51)) w.heap.size none 0 0 false:=heap_alloc_new _ _;have b2:=qac (w.alloc (.cells #[.slice none 0 0,.bool false] 51)) (.cells #[.slice none 0 0,.bool false] 51);have X0:RowB ((w.alloc (.cells #[.slice none 0 0,.bool false] 51)).alloc (.cells #[.slice none 0 0,.bool false] 51)) (w.heap.size+1) none 0 0 false:=by
  have:=heap_alloc_new (w.alloc (.cells #[.slice none 0 0,.bool false] 51)) (.cells #[.slice none 0 0,.bool false] 51)
  rwa [World.size_alloc] at this
 have s0:A7 w ((w.alloc (.cells #[.slice none 0 0,.bool false] 51)).alloc (.cells #[.slice none 0 0,.bool false] 51)) g ao n cap l none 0 0 false [] :=
  ⟨(hc.alloc _).alloc _,qge (World.grownBy_alloc _ _ _) _,X0,Z0.next b2,RdIn.nil _,by omega,fun q e=>(by cases e),by simp,hlt⟩
 clear hc Z0 b2;go_enter Tryz.func93,Tryz.ntmps93;go_wp2_with (first | (refine qcg (a:=none) (n:=0) (c:=0) (x:=false) X0 rfl _ _ rfl rfl rfl rfl ?_;intro y1 X1 g1) | fail)
 have s:A7 w y1 g ao n cap l none 0 0 false []:=⟨s0.cur.keep g1 (fun k e=>by cases e;omega),qcc s0.gro g1 (by omega),X1,(g1.block _ s0.res.lt (fun e=>by simp at e)).trans s0.res,RdIn.nil _,by omega,fun q e=>(by cases e),Nat.le_trans s0.sz g1.size,hlt⟩;clear s0 X0 X1 g1;go_wp2_with fail
 refine (qah g ao n cap l 6 _ s.cur hn (by omega) (by omega)).mono ?_;rintro e y2 ⟨k,hk0,hk1,rfl,hc_,hg_⟩;replace s:=s.draw hc_ hg_;clear hc_ hg_;have HE:Hid (∀(y:World) (a:Option Addr) (k c:Nat) (x:Bool) (h:List UInt8),A7 w y g ao n cap l a k c x h→∀y',y.grownBy y' (some w.heap.size)→∃a' k' c' x' h',Ending.returned (.agg #[.slice a k c,.bool x])=.returned (.agg #[.slice a' k' c',.bool x'])∧k'≤350∧RdIn y' a' k' c' h'∧(∀q,a'=some q→w.heap.size≤q.block)∧Cur y' g ao n cap l∧w.grownBy y' (some g)):=fun y a k c x h s y' hg=>
  ⟨a,k,c,x,h,rfl,s.le,s.rd.grown hg (fun q e he=>by have:=s.blk q e;simp at he;omega),fun q e=>by have:=s.blk q e;omega,s.cur.keep hg (fun k e=>by cases e;exact s.lt),qcc s.gro hg (Nat.le_refl _)⟩
 by_cases k0:k=0
 ·subst k0;have c1:=qbr s.row 1;have z1:=Lib.frozen_of_heap s.row 1;simp only[List.getElem?_toArray,List.getElem?_cons_zero,List.getElem?_cons_succ] at c1;have s2:=s.set 1 (.bool true) none 0 0 true [] rfl (RdIn.nil _) (by omega) (fun q e=>(by cases e));clear s;go_wp2_with (first | refine qdy s2.row rfl _ rfl rfl ?_ | (refine qcg (a:=none) (n:=0) (c:=0) (x:=true) s2.res rfl _ _ rfl rfl rfl rfl ?_;intro y9 B9 g9) | fail)
  exact qrj rfl rfl B9 rfl (HE.out _ _ _ _ _ _ s2 _ g9)
 have n0:(k==0)=false:=by simpa using k0
 by_cases k1:k=1
 ·subst k1;go_wp2_with fail
  refine (qkl g ao n cap l _ s.cur hn).mono ?_;rintro e y3 ⟨a3,m3,c3,x3,hm3,rfl,ho3,hc3,hg3⟩;have hsz:=s.sz;replace s:=s.draw hc3 hg3;have c1:=qbr s.row 0;have z1:=Lib.frozen_of_heap s.row 0;simp only[List.getElem?_toArray,List.getElem?_cons_zero,List.getElem?_cons_succ] at c1;have s2:=s.set 0 (.slice a3 m3 c3) a3 m3 c3 false x3 rfl ho3.rd hm3 (fun q e=>by have:=(ho3.block e).1;omega);clear s hc3 hg3 ho3;go_wp2_with (first | refine qdy s2.row rfl _ rfl rfl ?_ | (refine qcg (a:=a3) (n:=m3) (c:=c3) (x:=false) s2.res rfl _ _ rfl rfl rfl rfl ?_;intro y9 B9 g9) | fail)
  exact qrj rfl rfl B9 rfl (HE.out _ _ _ _ _ _ s2 _ g9)
 have n1:(k==1)=false:=by simpa using k1
 by_cases k2:k=2∨k=3
 ·have key:(k==2)=true∨((k==2)=false∧(k==3)=true):=by
   rcases k2 with rfl | rfl
   ·exact .inl rfl
   ·exact .inr ⟨rfl,rfl⟩
  clear k0 k1 k2
  rcases key with q2 | ⟨q2,q3⟩
  all_goals
   go_wp2_with fail
   refine (qah g ao n cap l 14 _ s.cur hn (by omega) (by omega)).mono ?_;rintro e y3 ⟨j,hj0,hj1,rfl,hc_,hg_⟩;replace s:=s.draw hc_ hg_;clear hc_ hg_;go_wp2_with fail
   refine (qon g ao n cap l (1+j) _ s.cur hn (by omega) (by omega)).mono ?_;rintro e y4 ⟨p,d,hok,rfl,hp,hd,hc_,hg_⟩;replace s:=s.draw hc_ hg_;clear hc_ hg_;go_wp2_with fail
   refine (qhb p d _ hp.rd hd.sz (Pgd.ln (hd.mono (by omega)))).mono ?_;rintro e y5 ⟨a5,n5,c5,rfl,ho5,hb5⟩;have hlen:=len_345 hok;rw[ho5.1] at hlen;generalize (pv p d).bytes=z at ho5;have hsz:=s.sz;replace s:=s.new hb5;clear hb5 hp hd hok;go_wp2_with fail
   refine (qah g ao n cap l n5 _ s.cur hn (by omega) (by omega)).mono ?_;rintro e y6 ⟨i,hi0,hi1,rfl,hc_,hg_⟩;replace s:=s.draw hc_ hg_;have ho6:=ho5.cur (by have:=s.lt;omega) hg_;clear hc_ hg_ ho5;obtain⟨i,rfl⟩:=Int.eq_ofNat_of_zero_le hi0;have hcb:=ho6.rd.2.1;have hsl:∀w',(Instr.slice 22 (.slice a5 n5 c5) none (some (.int .i64 (i:Int))) none).run Tryz.prog w'=.ok (.slice a5 i c5) w':=fun w'=>qmu a5 n5 c5 i (by omega) w'
   have c1:=qbr s.row 0;have z1:=Lib.frozen_of_heap s.row 0;simp only[List.getElem?_toArray,List.getElem?_cons_zero,List.getElem?_cons_succ] at c1;have s2:=s.set 0 (.slice a5 i c5) a5 i c5 false (z.take i) rfl (rd_headS ho6.rd (by omega)) (by omega) (fun q e=>by have:=(ho6.block e).1;omega);clear s ho6;go_wp2_with (first | refine qdy s2.row rfl _ rfl rfl ?_ | (refine qcg (a:=a5) (n:=i) (c:=c5) (x:=false) s2.res rfl _ _ rfl rfl rfl rfl ?_;intro y9 B9 g9) | fail)
   exact qrj rfl rfl B9 rfl (HE.out _ _ _ _ _ _ s2 _ g9)
 have n2:(k==2)=false:=by simp;omega
 have n3:(k==3)=false:=by simp;omega
 by_cases k4:k=4
 ·subst k4;go_wp2_with fail
  refine (qah g ao n cap l 3 _ s.cur hn (by omega) (by omega)).mono ?_;rintro e y3 ⟨i,hi0,hi1,rfl,hc_,hg_⟩;replace s:=s.draw hc_ hg_;clear hc_ hg_;obtain⟨i,rfl⟩:=Int.eq_ofNat_of_zero_le hi0;go_wp2_with fail
  refine (qdd g ao n cap l i _ s.cur hn (by omega)).mono ?_;rintro e y4 ⟨a4,c4,x4,rfl,ho4,hc_,hg_⟩;have hsz:=s.sz;replace s:=s.draw hc_ hg_;clear hc_ hg_;have c1:=qbr s.row 0;have z1:=Lib.frozen_of_heap s.row 0;simp only[List.getElem?_toArray,List.getElem?_cons_zero,List.getElem?_cons_succ] at c1;have s2:=s.set 0 (.slice a4 i c4) a4 i c4 false x4 rfl ho4.rd (by omega) (fun q e=>by have:=(ho4.block e).1;omega);clear s ho4;go_wp2_with fail
  refine (qbq g ao n cap l 2 _ s2.cur hn (by omega) (by omega)).mono ?_;rintro e y5 ⟨b5,rfl,hc_,hg_⟩;have s3:=s2.draw hc_ hg_;clear hc_ hg_ s2 c1 z1;have c1:=qbr s3.row 1;have z1:=Lib.frozen_of_heap s3.row 1;simp only[List.getElem?_toArray,List.getElem?_cons_zero,List.getElem?_cons_succ] at c1;have s4:=s3.set 1 (.bool b5) a4 i c4 b5 x4 rfl s3.rd (by omega) s3.blk;clear s3;go_wp2_with (first | refine qdy s4.row rfl _ rfl rfl ?_ | (refine qcg (a:=a4) (n:=i) (c:=c4) (x:=b5) s4.res rfl _ _ rfl rfl rfl rfl ?_;intro y9 B9 g9) | fail)
  exact qrj rfl rfl B9 rfl (HE.out _ _ _ _ _ _ s4 _ g9)
 have n4:(k==4)=false:=by simpa using k4
 go_wp2_with (first | refine qdy s.row rfl _ rfl rfl ?_ | (refine qcg (a:=none) (n:=0) (c:=0) (x:=false) s.res rfl _ _ rfl rfl rfl rfl ?_;intro y9 B9 g9) | fail)
 exact qrj rfl rfl B9 rfl (HE.out _ _ _ _ _ _ s _ g9)

theorem infoBb:(Tryz.prog.info? 22).map (fun i=>(i.zero,i.size,i.bytes))=some (some (.slice none 0 0),1,24):=by kernel_rfl
def cutA (ab:Option Addr) (cb p:Nat):Option Addr:=if cb=p then ab else ab.map (·.add (p*1))
theorem qhv {w:World} {ao:Option Addr} {n cap:Nat} {l:List UInt8} (hr:RdIn w ao n cap l) (p m:Nat) (hpm:p+m≤n) :
  (∀w',(Instr.slice 22 (.slice ao n cap) (some (.int .i64 (p:Int))) (some (.int .i64 ((p:Int)+(m:Int)))) none).run Tryz.prog w'=.ok (.slice (cutA ao cap p) m (cap-p)) w')∧RdIn w (cutA ao cap p) m (cap-p) ((l.drop p).take m):=by
 obtain⟨i0,hi,hz0,hz1,hz2⟩:=info_parts info5;obtain⟨⟨hl,hc⟩,hcap,hmax,hnil⟩:=hr;have he:Tryz.prog.elem 22=5:=by kernel_rfl
 have ht:Tryz.prog.underlying 22=some (.slice (Tryz.prog.elem 22)):=by rw[he];exact Tryz.underlying22
 refine⟨fun w'=>?_,⟨by simp;omega,fun i hi'=>?_⟩,by omega,by omega,fun h=>?_⟩
 ·have h:=run_slice_lh (P:=Tryz.prog) w' 22 ao n cap ht .i64 .i64 (p:Int) ((p:Int)+(m:Int)) (by omega) (by omega) (by omega);rw[h,he];have e1:((p:Int)+(m:Int)).toNat=p+m:=by omega
  simp only[sizeOf,typeInfo,Sem.run_bind,Sem.run_pure,hi,hz1,Result.andThen_ok,sliced,Int.toNat_natCast,e1];simp[hi,hz1,Result.andThen,sliced,cutA]
 ·obtain⟨b,off,rfl,hcell⟩:=hc (p+i) (by omega);refine⟨b,off+p,?_,?_⟩
  ·unfold cutA;rw[if_neg (by omega)];simp[Addr.add_lit]
  ·rw[Nat.add_assoc,hcell];have e:bt ((l.drop p).take m) i=bt l (p+i):=by rw[quk _ _ _ hi',qfr]
   rw[e]
 ·unfold cutA at h
  split at h
  ·rename_i g
   omega
  ·cases ao with
   |none=>have:=hnil rfl;omega
   |some a=>simp at h
def cvals (ab:Option Addr) (cb:Nat) (P:List (Nat×Nat)):List Value:=P.map fun x=>.slice (cutA ab cb x.1) x.2 (cb-x.1)
def COwn (w:World) (B:Nat) (ao:Option Addr) (n cap:Nat) (ab:Option Addr) (cb:Nat) (P:List (Nat×Nat)):Prop:=P.length=n∧w.ownsRow B 22 1 (.slice ao n cap) n (cvals ab cb P)
theorem cvals_one (ab:Option Addr) (cb:Nat) (P:List (Nat×Nat)):∀u∈cvals ab cb P,u.oneCell'=true:=by
 intro u hu;simp only[cvals,List.mem_map] at hu;obtain⟨x,_,rfl⟩:=hu;rfl
theorem COwn.grown {w w':World} {B:Nat} {ao:Option Addr} {n cap:Nat} {ab:Option Addr} {cb:Nat} {P:List (Nat×Nat)} {row:Option Nat} (h:COwn w B ao n cap ab cb P) (hg:w.grownBy w' row) (hne:∀k,row=some k→k<B):COwn w' B ao n cap ab cb P:=by
 refine⟨h.1,h.2.kept hg ?_⟩;cases ao with
 |none=>exact .inl rfl
 |some a=>exact .inr (fun e=>by have h1:=hne _ e.symm;have h2:=(h.2.lt _ rfl).1;omega)
theorem cown_open {w:World} {B:Nat} {v:Value} {n:Nat} {ab:Option Addr} {cb:Nat} {P:List (Nat×Nat)} (hl:P.length=n) (h:w.ownsRow B 22 1 v n (cvals ab cb P)):∃ao cap,v=.slice ao n cap∧COwn w B ao n cap ab cb P:=by
 rcases h.2 with ⟨rfl,rfl⟩ | ⟨g,c,cur,rfl,_⟩
 ·exact⟨none,0,rfl,hl,h⟩
 ·exact⟨_,_,rfl,hl,h⟩
theorem w_capp {ops:Array Oper} {rest:List Oper} {o:Oper} {a:Act} {Q:Exit→Act→World→Prop} (w:World) (hgd:o.guard=none) (s x:Operand)
  (ho:o.op=.call { callee:=.builtin .append,args:=#[s,x],argTypes:=#[52,52] })
  (B:Nat) (ao:Option Addr) (n cap:Nat) (ab:Option Addr) (cb:Nat) (P:List (Nat×Nat)) (hs:a.eval s=.slice ao n cap) (hown:COwn w B ao n cap ab cb P)
  (ad:Nat) (u:Nat×Nat) (hx:a.eval x=.slice (some ⟨ad,0,none⟩) 1 1) (hc:w.cell? ⟨ad,0,none⟩ = some (.slice (cutA ab cb u.1) u.2 (cb-u.1))) (hb:n<10737418240) (hB:B≤w.heap.size)
  (h:∀ao' cap' w',COwn w' B ao' (n+1) cap' ab cb (P++[u])→w.grownBy w' (Value.slice ao n cap).ownBlock→wpList Tryz.prog ops Q rest (a.put o.dst (.slice ao' (n+1) cap')) w') :
  wpList Tryz.prog ops Q (o :: rest) a w:=by
 obtain⟨i0,hi,hz0,hz1,hz2⟩:=info_parts infoBb;have hlen:(P++[u]).length=n+1:=by rw[List.length_append,hown.1];rfl
 refine wpList_append_own w hgd s x 52 ho B 22 i0 (.slice none 0 0) 1 24 Tryz.underlying52 hi hz0 hz1 hz2 rfl (by decide) (.slice ao n cap) n (cvals ab cb P) hs hown.2 ⟨ad,0,none⟩ 1 1 (cvals ab cb [u]) hx rfl ?_ (cvals_one ab cb [u]) (by unfold maxLen;omega) (by omega) hB ?_
 ·intro j v hv;have hj:j=0:=by
   have:=(List.getElem?_eq_some_iff.1 hv).1
   simpa[cvals] using this
  subst hj;rw[Addr.add_lit,hc]
  simpa[cvals] using hv
 ·intro v' w' hv hg _;rw[show cvals ab cb P++cvals ab cb [u]=cvals ab cb (P++[u]) from by simp[cvals]] at hv;obtain⟨ao',cap',rfl,hown'⟩:=cown_open hlen hv;exact h ao' cap' w' hown' hg
theorem COwn.rd {w:World} {B:Nat} {ao:Option Addr} {n cap:Nat} {ab:Option Addr} {M cb:Nat} {x:List UInt8} {P:List (Nat×Nat)} (h:COwn w B ao n cap ab cb P) (hr:RdIn w ab M cb x) (hP:∀p∈P,p.1+p.2≤M):BsRd w ao n cap (P.map fun p=>(x.drop p.1).take p.2):=by
 obtain⟨hl,h1,h2⟩:=h;refine⟨by simpa using hl,fun i hi=>?_⟩
 rcases h2 with ⟨e,_⟩ | ⟨g,c,cur,e,hb,hg,hc,hm,hs,ht⟩
 ·simp only[Value.slice.injEq] at e;omega
 ·simp only[Value.slice.injEq] at e;obtain⟨rfl,_,rfl⟩:=e;have own:w.ownsRow B 22 1 (.slice (some ⟨g,0,none⟩) n cap) n (cvals ab cb P):=⟨h1,.inr ⟨g,cap,cur,rfl,hb,hg,hc,hm,hs,ht⟩⟩;have hi':i<P.length:=by omega
  refine⟨g,0,rfl,cutA ab cb (P[i]'hi').1,(P[i]'hi').2,cb-(P[i]'hi').1,?_,?_⟩
  ·rw[Nat.zero_add,own.cellAt i (by omega)];simp[cvals,List.getElem?_eq_getElem hi']
  ·have e2:(P.map fun p=>(x.drop p.1).take p.2).getD i []=(x.drop (P[i]'hi').1).take (P[i]'hi').2:=by
    simp[List.getD_eq_getElem?_getD,List.getElem?_eq_getElem hi']
   rw[e2];exact (qhv hr _ _ (hP _ (List.getElem_mem hi'))).2
theorem bs_sl {ops:Array Oper} {rest:List Oper} {o:Oper} {a:Act} {w:World} {Q:Exit→Act→World→Prop} {ad:Option Addr} {n c:Nat} (hw:Region.wanted o (yielded ops a.tmps)=true) (x:Operand) (ho:o.op=.buildSlice 52 1 #[(0,x)]) (hx:a.eval x=.slice ad n c)
  (h:wpList Tryz.prog ops Q rest (a.put o.dst (.slice (some ⟨w.heap.size,0,none⟩) 1 1)) (w.alloc (.cells #[.slice ad n c] 22))):wpList Tryz.prog ops Q (o :: rest) a w:=by
 have e:((#[(0,x)]:Array (Nat×Operand)).map fun (i,x)=>(i,a.eval x)) = #[(0,.slice ad n c)]:=by simp[hx]
 have r:(Instr.buildSlice 52 1 #[(0,.slice ad n c)]).run Tryz.prog w=.ok (.slice (some ⟨w.heap.size,0,none⟩) 1 1) (w.alloc (.cells #[.slice ad n c] 22)):=by kernel_rfl
 refine qcr hw (w':=w.alloc (.cells #[.slice ad n c] 22)) (v:=.slice (some ⟨w.heap.size,0,none⟩) 1 1) ?_ h;simp only[execOp,ho,e,Sem.run_bind,r,Result.andThen_ok,Sem.run_pure]
theorem qsu (w:World) (ab:Option Addr) (cb:Nat):COwn (w.alloc (.cells #[] 22)) w.heap.size (some ⟨w.heap.size,0,none⟩) 0 0 ab cb [] :=
 ⟨rfl,World.ownsRow_made w #[] 0 (Nat.le_refl _) (Nat.zero_le _) (by simp)⟩
theorem qoe (x:List UInt8) (t m:Nat):x.take t++(x.drop t).take m=x.take (t+m):=by rw[List.take_add]
structure D7 (w y:World) (g:Nat) (ao:Option Addr) (n cap:Nat) (l:List UInt8) (r:Nat) (a:Option Addr) (k c:Nat) (x:Bool) (h:List UInt8):Prop where
 cur:Cur y g ao n cap l
 blw:Below w.heap.size w y
 row:RowB y r a k c x
 res:RowB y w.heap.size none 0 0 false
 rd:RdIn y a k c h
 le:k≤350
 blk:∀q,a=some q→w.heap.size+2≤q.block
 rg:w.heap.size+2≤r
 ge:g=w.heap.size+1
 gy:g<y.heap.size
section
variable {w y y' : World} {g : Nat} {ao : Option Addr} {n cap : Nat} {l : List UInt8} {r : Nat} {a : Option Addr} {k c : Nat} {x : Bool} {h : List UInt8}
theorem D7.draw (s:D7 w y g ao n cap l r a k c x h) (hc:Cur y' g ao n cap l) (hg:y.grownBy y' (some g)):D7 w y' g ao n cap l r a k c x h :=
 have e:=s.ge;have h1:=s.rg
 ⟨hc,qat s.blw hg (by omega),(hg.block _ s.row.lt (fun e=>by simp at e;omega)).trans s.row,(hg.block _ s.res.lt (fun e=>by simp at e;omega)).trans s.res,
  s.rd.cur (fun d e=>by have:=s.blk d e;omega) hg,s.le,s.blk,s.rg,s.ge,Nat.lt_of_lt_of_le s.gy hg.size⟩
theorem D7.new (s:D7 w y g ao n cap l r a k c x h) (hb:Below y.heap.size y y'):D7 w y' g ao n cap l r a k c x h :=
 ⟨s.cur.below hb,bel s.blw hb,s.row.next hb,s.res.next hb,s.rd.below hb,s.le,s.blk,s.rg,s.ge,Nat.lt_of_lt_of_le s.gy hb.size⟩
theorem D7.zero (s:D7 w y g ao n cap l r a k c x h) (X:RowB y' r none 0 0 false) (hg:y.grownBy y' (some r)):D7 w y' g ao n cap l r none 0 0 false [] :=
 have e:=s.ge;have h1:=s.rg
 ⟨s.cur.keep hg (fun k e=>by cases e;omega),qat s.blw hg (by omega),X,(hg.block _ s.res.lt (fun e=>by simp at e;omega)).trans s.res,RdIn.nil _,by omega,fun q e=>(by cases e),s.rg,s.ge,Nat.lt_of_lt_of_le s.gy hg.size⟩
theorem D7.own (s:D7 w y g ao n cap l r a k c x h) {B:Nat} {ab:Option Addr} {m cb:Nat} {z:List UInt8} (ho:Own y B ab m cb z) (hB:g<B) (hlt:0<k→∀q,a=some q→q.block<B) (hg:y.grownBy y' (Value.slice ab m cb).ownBlock):D7 w y' g ao n cap l r a k c x h:=by
 have hbuf:∀(u:Nat) (a':Option Addr) (n' c':Nat) (x':Bool),RowB y u a' n' c' x'→RowB y' u a' n' c' x':=fun u a' n' c' x' hr=>(hg.block u hr.lt (fun e=>by
  cases ab with
  |none=>simp[Value.ownBlock] at e
  |some q=>
   have e':u=q.block:=by simpa[Value.ownBlock] using e
   obtain⟨cur,hc⟩:=qbl ho.2;exact ty_ne hc hr (by decide) e'.symm)).trans hr
 refine⟨s.cur.own ho hB hg,qba s.blw s.blw.size (ho.mono (by have:=s.ge;omega)) hg,hbuf _ _ _ _ _ s.row,hbuf _ _ _ _ _ s.res,s.rd.grown' hg (fun h0 q hq e=>?_),s.le,s.blk,s.rg,s.ge,Nat.lt_of_lt_of_le s.gy hg.size⟩;cases ab with
 |none=>simp[Value.ownBlock] at e
 |some z=>
  have e':q.block=z.block:=by simpa[Value.ownBlock] using e
  have h1:=hlt h0 q hq;have h2:=(ho.block rfl).1;omega
structure C7 (w y y7:World) (g:Nat) (ao:Option Addr) (n cap:Nat) (l:List UInt8) (r:Nat) (a:Option Addr) (k c:Nat) (x:Bool) (h:List UInt8) (ab:Option Addr) (M cb:Nat) (z:List UInt8) (B:Nat):Prop where
 d:D7 w y g ao n cap l r a k c x h
 own:Own y B ab M cb z
 lt:∀q,ab=some q→q.block<y7.heap.size
 gB:g<B
section
variable {y7 : World} {ab : Option Addr} {M cb : Nat} {z : List UInt8} {B : Nat}
theorem C7.draw (s:C7 w y y7 g ao n cap l r a k c x h ab M cb z B) (hc:Cur y' g ao n cap l) (hg:y.grownBy y' (some g)):C7 w y' y7 g ao n cap l r a k c x h ab M cb z B :=
 ⟨s.d.draw hc hg,s.own.cur s.gB hg,s.lt,s.gB⟩
theorem C7.new (s:C7 w y y7 g ao n cap l r a k c x h ab M cb z B) (hb:Below y.heap.size y y'):C7 w y' y7 g ao n cap l r a k c x h ab M cb z B :=
 ⟨s.d.new hb,s.own.below hb,s.lt,s.gB⟩
theorem C7.capp (s:C7 w y y7 g ao n cap l r a k c x h ab M cb z B) {a8:Option Addr} {n8 c8:Nat} {P:List (Nat×Nat)} (hC:COwn y y7.heap.size a8 n8 c8 ab cb P) (hz:B≤y7.heap.size) (hlt:0<k→∀q,a=some q→q.block<B) (hg:y.grownBy y' (Value.slice a8 n8 c8).ownBlock):C7 w y' y7 g ao n cap l r a k c x h ab M cb z B:=by
 have hbuf:∀(u:Nat) (a':Option Addr) (n' c':Nat) (x':Bool),RowB y u a' n' c' x'→RowB y' u a' n' c' x':=fun u a' n' c' x' hr=>(hg.block u hr.lt (fun e=>by
  cases a8 with
  |none=>simp[Value.ownBlock] at e
  |some q=>
   have e':u=q.block:=by simpa[Value.ownBlock] using e
   obtain⟨cur,hc⟩:=qbl hC.2;exact ty_ne hc hr (by decide) e'.symm)).trans hr
 have hge:∀u,(Value.slice a8 n8 c8).ownBlock=some u→y7.heap.size≤u:=fun u e=>by
  cases a8 with
  |none=>simp[Value.ownBlock] at e
  |some q=>
   obtain rfl:q.block=u:=by simpa[Value.ownBlock] using e
   exact (hC.2.lt _ rfl).1
 have hg1:=s.gB;have hge':=s.d.ge;refine⟨⟨s.d.cur.keep hg (fun u e=>by have:=hge u e;omega),s.d.blw.grown hg s.d.blw.size (fun u e=>by have:=hge u e;omega),hbuf _ _ _ _ _ s.d.row,hbuf _ _ _ _ _ s.d.res,s.d.rd.grown' hg (fun h0 q hq e=>?_),s.d.le,s.d.blk,s.d.rg,s.d.ge,Nat.lt_of_lt_of_le s.d.gy hg.size⟩,s.own.grown hg (fun q e he=>?_),s.lt,s.gB⟩
 ·have h1:=hlt h0 q hq;have h2:=hge _ e.symm;omega
 ·have h1:=s.lt q e;have h2:=hge _ he.symm;omega
end
end
def FeedDraw (w w':World) (e:Ending):Prop:=∃(a:Option Addr) (k c:Nat) (x:Bool) (h:List UInt8) (b:Option Addr) (m d:Nat) (L:List (List UInt8)),e=.returned (.tuple #[.agg #[.slice a k c,.bool x],.slice b m d])∧k≤350∧RdIn w' a k c h∧BsRd w' b m d L∧L.flatten.length≤1400∧m≤1400∧Below w.heap.size w w'
theorem draw_sDrawFeedAll (ao:Option Addr) (n cap:Nat) (l:List UInt8) (w:World) (hr:RdIn w ao n cap l) (hn:n≤1048576) :
  Calls Tryz.prog 36 #[.slice ao n cap] w fun e w'=>FeedDraw w w' e:=by
 have Z0:RowB (w.alloc (.cells #[.slice none 0 0,.bool false] 51)) w.heap.size none 0 0 false:=heap_alloc_new _ _;have b1:=qac w (.cells #[.slice none 0 0,.bool false] 51);have hs1:(w.alloc (.cells #[.slice none 0 0,.bool false] 51)).heap.size=w.heap.size+1:=by simp
 have hr1:=hr.below b1;clear hr;go_enter Tryz.func36,Tryz.ntmps36;go_wp2_with fail
 refine (new_sl1New ao n cap l _ hr1 hn).mono ?_;rintro e y0 ⟨rfl,hc,b2⟩;rw[hs1] at hc ⊢;have Z:=Z0.next b2;have hb:=bel b1 b2;have hg0:w.heap.size+1<y0.heap.size:=hc.lt;clear Z0 b1 b2 hr1 hs1;go_wp2_with fail
 refine (any_sl7Any (w.heap.size+1) ao n cap l _ hc hn).mono ?_;rintro e y1 ⟨a,k,c,x,h,rfl,hk,hR,hB,hc1,hg1⟩;have Z1:RowB y1 w.heap.size none 0 0 false:=(hg1.block _ Z.lt (fun e=>by simp at e)).trans Z;replace hb:=qat hb hg1 (by omega);have hz1:=hg1.size;have HB:Hid (∀q,a=some q→w.heap.size+2≤q.block):=fun q e=>by have:=hB q e;omega
 have b3:=qac y1 (.cells #[.slice none 0 0,.bool false] 51);have X:RowB (y1.alloc (.cells #[.slice none 0 0,.bool false] 51)) y1.heap.size none 0 0 false:=heap_alloc_new _ _
 -- the rest is written by genfde.py
 have hc2:=hc1.below b3;have Z2:=Z1.next b3;have hR2:=hR.below b3;replace hb:=bel hb b3;have hz3:=b3.size;have hne:0<k→∀q,a=some q→some q.block≠some y1.heap.size:=fun h0 q hq e=>by
  obtain⟨b9,o9,e9,hc9⟩:=hR.1.2 0 h0;rw[hq] at e9;have h1:=World.block_lt_of_cell? _ _ hc9;simp only[Option.some.injEq] at e9 e;rw[e9] at e;simp only at e h1;omega
 clear hR Z1 hc1 b3;go_wp2_with (first | (refine qcg (a:=a) (n:=k) (c:=c) (x:=x) X rfl _ _ rfl rfl rfl rfl ?_;intro y2 X2 g2) | fail)
 have S2:D7 w y2 (w.heap.size+1) ao n cap l y1.heap.size a k c x h :=
  ⟨hc2.keep g2 (fun k e=>by cases e;omega),qat hb g2 (by omega),X2,(g2.block _ Z2.lt (fun e=>by simp at e;omega)).trans Z2,hR2.grown' g2 hne,hk,HB.out,by omega,rfl,by have:=g2.size;omega⟩
 clear hc2 hb X X2 Z2 hR2 g2 hne hg1;refine (qbq (w.heap.size+1) ao n cap l 3 _ S2.cur hn (by omega) (by omega)).mono ?_;rintro e y3 ⟨b3,rfl,hc3,hg3⟩;have S3:=S2.draw hc3 hg3;clear S2 hc3 hg3;generalize y1.heap.size=r at *;cases b3
 ·go_wp2_with (first | (refine qcg (a:=none) (n:=0) (c:=0) (x:=false) S3.row rfl _ _ rfl rfl rfl rfl ?_;intro y4 X4 g4) | fail)
  have S:D7 w y4 (w.heap.size+1) ao n cap l r none 0 0 false []:=S3.zero X4 g4;clear S3 X4 g4;refine (qah (w.heap.size+1) ao n cap l 5 _ (S.cur.alloc _) hn (by omega) (by omega)).mono ?_;rintro e y6 ⟨j,hj0,hj1,rfl,hc6,hg6⟩;have ho6:=(qbm y4).cur S.gy hg6;have S6:=(S.new (qac y4 (.cells #[] 5))).draw hc6 hg6;have hz6:y4.heap.size≤y6.heap.size:=Nat.le_trans (qac y4 (.cells #[] 5)).size hg6.size;have hgy:=S.gy;obtain⟨X,rfl⟩:=Int.eq_ofNat_of_zero_le hj0;have HLT:Hid (0<0→∀q:Addr,none=some q→q.block<y4.heap.size):=fun h0 q hq=>by
   obtain⟨b9,o9,e9,hc9⟩:=S.rd.1.2 0 h0;rw[hq] at e9;have h1:=World.block_lt_of_cell? _ _ hc9;simp only[Option.some.injEq] at e9;rw[e9];exact h1
  clear hc6 hg6 S;go_wp2
  go_loopw [6,7] (fun v i wr=>∃(j:Nat) (ab:Option Addr) (M cb:Nat) (x5:List UInt8),i=.int .i64 j∧v=.slice ab M cb∧j≤4∧M+350*j≤1400∧Own wr y4.heap.size ab M cb x5∧D7 w wr (w.heap.size+1) ao n cap l r none 0 0 false []∧y4.heap.size≤wr.heap.size) (fun _ i _=>(intOf i).toNat)
  case atStart=>exact⟨X,_,0,_,[],rfl,rfl,by omega,by omega,ho6,S6,hz6⟩
  case round=>
   clear ho6 S6 hz6;obtain⟨j,ab,M,cb,x5,rfl,rfl,hj,hM,ho,S,hz⟩:=hrel
   by_cases h0:0<j
   ·have h0':(0:Int)<j:=by omega
    go_wp2_with fail
    refine (qkl (w.heap.size+1) ao n cap l _ S.cur hn).mono ?_;rintro e y7 ⟨a7,m7,c7,x7,hm7,rfl,ho7,hc7,hg7⟩;have ho2:=ho.cur hgy hg7;have S7:=S.draw hc7 hg7;have hz7:=Nat.le_trans hz hg7.size;have hr7:=ho7.rd;clear hc7 hg7 ho S ho7 hz;go_wp2_with (at_builtin;refine w_app _ rfl _ _ rfl y4.heap.size _ _ _ x5 rfl ho2 _ _ _ x7 rfl hr7 (by omega) hz7 ?_)
    intro a8 c8 y8 ho8 hg8;have S8:=S7.own ho2 hgy HLT.out hg8;have hz8:=Nat.le_trans hz7 hg8.size;clear hg8 ho2 S7 hr7;go_wp2;go_roundw
    case rel=>exact⟨j-1,_,M+m7,c8,_,by go_num,rfl,by omega,by omega,ho8,S8,hz8⟩
    case measure=>simp[intOf];omega
   ·have h0':¬(0:Int)<j:=by omega
    have hC0:=qsu wr ab cb;have b7:=qac wr (.cells #[] 22);have S7:C7 w (wr.alloc (.cells #[] 22)) wr (w.heap.size+1) ao n cap l r none 0 0 false [] ab M cb x5 y4.heap.size:=⟨S.new b7,ho.below b7,fun q e=>(ho.block e).2,hgy⟩;have hz7:=hz;clear S ho b7;go_wp2;generalize hy7:wr=y7 at *;clear hy7
    go_loopw [8,9] (fun v i wr=>∃(t:Nat) (a7:Option Addr) (c7:Nat) (P:List (Nat×Nat)),i=.int .i64 t∧v=.slice a7 (List.length P) c7∧t≤M∧P.length≤t∧COwn wr y7.heap.size a7 P.length c7 ab cb P∧(∀p∈P,p.1+p.2≤M)∧Hid ((P.map fun p=>(x5.drop p.1).take p.2).flatten=x5.take t)∧C7 w wr y7 (w.heap.size+1) ao n cap l r none 0 0 false [] ab M cb x5 y4.heap.size∧y7.heap.size≤wr.heap.size) (fun _ i _=>M-(intOf i).toNat)
    case atStart=>exact⟨0,_,_,[],rfl,rfl,Nat.zero_le _,Nat.le_refl _,hC0,fun p h=>(by cases h),(by show _=_;simp),S7,by simp⟩
    case round=>
     clear hC0 S7;obtain⟨t,a8,c8,P,rfl,rfl,ht,hPt,hC8,hP,HF,S8,hz8⟩:=hrel;have HP:Hid (∀p∈P,p.1+p.2≤M):=hP;clear hP
     by_cases hlt:t<M
     ·have hlt':(t:Int)<M:=by omega
      go_wp2_with fail
      refine (qah (w.heap.size+1) ao n cap l 9 _ S8.d.cur hn (by omega) (by omega)).mono ?_;rintro e y9 ⟨j9,hj90,hj91,rfl,hc9,hg9⟩;have S9:=S8.draw hc9 hg9;have hC9:=hC8.grown hg9 (fun k e=>by cases e;exact Nat.lt_of_lt_of_le hgy hz7);have hz9:=Nat.le_trans hz8 hg9.size;obtain⟨j9,rfl⟩:=Int.eq_ofNat_of_zero_le hj90;clear hc9 hg9 S8 hC8
      by_cases hcut:(M:Int)-t<1+j9
      ·have hmM:t+(M-t)≤M:=by omega
       have hm1:1≤M-t:=by omega
       obtain⟨hsl,hrp⟩:=qhv S9.own.rd t (M-t) hmM;have esl:(t:Int)+((M-t:Nat):Int)=(M:Int):=by omega
       have hsl2:=hsl;rw[esl] at hsl;have etm:((M-t:Nat):Int)=(M:Int)-t:=by omega
       rw[etm] at hsl2;have HFL:Hid (((P++[(t,M-t)]).map fun p=>(x5.drop p.1).take p.2).flatten=x5.take (t+(M-t))):=by
        have e:=HF.out;show _=_;rw[List.map_append,List.flatten_append,e];simp only[List.map_cons,List.map_nil,List.flatten_cons,List.flatten_nil,List.append_nil];exact qoe x5 t (M-t)
       have HPM:Hid (∀p∈P++[(t,M-t)],p.1+p.2≤M):=fun p hp=>by
        rw[List.mem_append] at hp
        rcases hp with hp | hp
        ·exact HP.out p hp
        ·obtain rfl:p=(t,M-t):=by simpa using hp
         exact hmM
       have b10:=qac y9 (.cells #[.slice (cutA ab cb t) (M-t) (cb-t)] 22);have S10:=S9.new b10;have hC10:=hC9.grown (row:=none) (World.grownBy_alloc y9 (.cells #[.slice (cutA ab cb t) (M-t) (cb-t)] 22) none) (fun k e=>by cases e);have hcell:(y9.alloc (.cells #[.slice (cutA ab cb t) (M-t) (cb-t)] 22)).cell? ⟨y9.heap.size,0,none⟩ = some (.slice (cutA ab cb t) (M-t) (cb-t)):=(qbr (heap_alloc_new _ _) 0).trans rfl;have hz10:=Nat.le_trans hz9 b10.size;clear b10 hrp;go_wp2_with (first | refine bs_sl (ad:=cutA ab cb t) (n:=M-t) (c:=cb-t) rfl _ rfl rfl ?_ | (at_builtin;refine w_capp _ rfl _ _ rfl y7.heap.size _ _ _ ab cb P rfl hC10 _ (t,M-t) rfl hcell (by omega) hz10 ?_) | fail)
       intro a11 c11 y11 hC11 hg11;have S11:=S10.capp hC10 hz7 HLT.out hg11;have hz11:=Nat.le_trans hz10 hg11.size;clear hg11 hC10 S10 S9 hC9 hcell hsl;go_wp2;go_roundw
       case rel=>exact⟨t+(M-t),a11,c11,P++[(t,M-t)],by go_num,by rw[List.length_append];rfl,by omega,by rw[List.length_append];simp;omega,by rw[List.length_append];exact hC11,HPM.out,HFL,S11,hz11⟩
       case measure=>simp[intOf];omega
      ·have hmM:t+(1+j9)≤M:=by omega
       have hm1:1≤1+j9:=by omega
       obtain⟨hsl,hrp⟩:=qhv S9.own.rd t (1+j9) hmM;have esl:(t:Int)+((1+j9:Nat):Int)=(t:Int)+(1+(j9:Int)):=by omega
       rw[esl] at hsl;have HFL:Hid (((P++[(t,1+j9)]).map fun p=>(x5.drop p.1).take p.2).flatten=x5.take (t+(1+j9))):=by
        have e:=HF.out;show _=_;rw[List.map_append,List.flatten_append,e];simp only[List.map_cons,List.map_nil,List.flatten_cons,List.flatten_nil,List.append_nil];exact qoe x5 t (1+j9)
       have HPM:Hid (∀p∈P++[(t,1+j9)],p.1+p.2≤M):=fun p hp=>by
        rw[List.mem_append] at hp
        rcases hp with hp | hp
        ·exact HP.out p hp
        ·obtain rfl:p=(t,1+j9):=by simpa using hp
         exact hmM
       have b10:=qac y9 (.cells #[.slice (cutA ab cb t) (1+j9) (cb-t)] 22);have S10:=S9.new b10;have hC10:=hC9.grown (row:=none) (World.grownBy_alloc y9 (.cells #[.slice (cutA ab cb t) (1+j9) (cb-t)] 22) none) (fun k e=>by cases e);have hcell:(y9.alloc (.cells #[.slice (cutA ab cb t) (1+j9) (cb-t)] 22)).cell? ⟨y9.heap.size,0,none⟩ = some (.slice (cutA ab cb t) (1+j9) (cb-t)):=(qbr (heap_alloc_new _ _) 0).trans rfl;have hz10:=Nat.le_trans hz9 b10.size;clear b10 hrp;go_wp2_with (first | refine bs_sl (ad:=cutA ab cb t) (n:=1+j9) (c:=cb-t) rfl _ rfl rfl ?_ | (at_builtin;refine w_capp _ rfl _ _ rfl y7.heap.size _ _ _ ab cb P rfl hC10 _ (t,1+j9) rfl hcell (by omega) hz10 ?_) | fail)
       intro a11 c11 y11 hC11 hg11;have S11:=S10.capp hC10 hz7 HLT.out hg11;have hz11:=Nat.le_trans hz10 hg11.size;clear hg11 hC10 S10 S9 hC9 hcell hsl;go_wp2;go_roundw
       case rel=>exact⟨t+(1+j9),a11,c11,P++[(t,1+j9)],by go_num,by rw[List.length_append];rfl,by omega,by rw[List.length_append];simp;omega,by rw[List.length_append];exact hC11,HPM.out,HFL,S11,hz11⟩
       case measure=>simp[intOf];omega
     ·have hlt':¬(t:Int)<M:=by omega
      have D:=S8.d;go_wp2_with (first | refine qdy D.row rfl _ rfl rfl ?_ | (refine qcg (a:=none) (n:=0) (c:=0) (x:=false) D.res rfl _ _ rfl rfl rfl rfl ?_;intro w9 B9 g9) | fail)
      have hR9:=D.rd.grown g9 (fun q he hq=>by have h1:=D.blk q he;have h2:q.block=w.heap.size:=(by simpa using hq);omega);have hBs:=(hC8.grown g9 (fun k e=>by cases e;omega)).rd (S8.own.cur (by omega) g9).rd HP.out;have hfl:=congrArg List.length HF.out;rw[List.length_take] at hfl;exact qky rfl rfl rfl B9 rfl ⟨none,0,0,false,[],_,_,_,_,rfl,D.le,hR9,hBs,by omega,by omega,qat D.blw g9 (Nat.le_refl _)⟩
 ·go_wp2_with fail
  have S:=S3;clear S3;refine (qah (w.heap.size+1) ao n cap l 5 _ (S.cur.alloc _) hn (by omega) (by omega)).mono ?_;rintro e y6 ⟨j,hj0,hj1,rfl,hc6,hg6⟩;have ho6:=(qbm y3).cur S.gy hg6;have S6:=(S.new (qac y3 (.cells #[] 5))).draw hc6 hg6;have hz6:y3.heap.size≤y6.heap.size:=Nat.le_trans (qac y3 (.cells #[] 5)).size hg6.size;have hgy:=S.gy;obtain⟨X,rfl⟩:=Int.eq_ofNat_of_zero_le hj0;have HLT:Hid (0<k→∀q:Addr,a=some q→q.block<y3.heap.size):=fun h0 q hq=>by
   obtain⟨b9,o9,e9,hc9⟩:=S.rd.1.2 0 h0;rw[hq] at e9;have h1:=World.block_lt_of_cell? _ _ hc9;simp only[Option.some.injEq] at e9;rw[e9];exact h1
  clear hc6 hg6 S;go_wp2
  go_loopw [6,7] (fun v i wr=>∃(j:Nat) (ab:Option Addr) (M cb:Nat) (x5:List UInt8),i=.int .i64 j∧v=.slice ab M cb∧j≤4∧M+350*j≤1400∧Own wr y3.heap.size ab M cb x5∧D7 w wr (w.heap.size+1) ao n cap l r a k c x h∧y3.heap.size≤wr.heap.size) (fun _ i _=>(intOf i).toNat)
  case atStart=>exact⟨X,_,0,_,[],rfl,rfl,by omega,by omega,ho6,S6,hz6⟩
  case round=>
   clear ho6 S6 hz6;obtain⟨j,ab,M,cb,x5,rfl,rfl,hj,hM,ho,S,hz⟩:=hrel
   by_cases h0:0<j
   ·have h0':(0:Int)<j:=by omega
    go_wp2_with fail
    refine (qkl (w.heap.size+1) ao n cap l _ S.cur hn).mono ?_;rintro e y7 ⟨a7,m7,c7,x7,hm7,rfl,ho7,hc7,hg7⟩;have ho2:=ho.cur hgy hg7;have S7:=S.draw hc7 hg7;have hz7:=Nat.le_trans hz hg7.size;have hr7:=ho7.rd;clear hc7 hg7 ho S ho7 hz;go_wp2_with (at_builtin;refine w_app _ rfl _ _ rfl y3.heap.size _ _ _ x5 rfl ho2 _ _ _ x7 rfl hr7 (by omega) hz7 ?_)
    intro a8 c8 y8 ho8 hg8;have S8:=S7.own ho2 hgy HLT.out hg8;have hz8:=Nat.le_trans hz7 hg8.size;clear hg8 ho2 S7 hr7;go_wp2;go_roundw
    case rel=>exact⟨j-1,_,M+m7,c8,_,by go_num,rfl,by omega,by omega,ho8,S8,hz8⟩
    case measure=>simp[intOf];omega
   ·have h0':¬(0:Int)<j:=by omega
    have hC0:=qsu wr ab cb;have b7:=qac wr (.cells #[] 22);have S7:C7 w (wr.alloc (.cells #[] 22)) wr (w.heap.size+1) ao n cap l r a k c x h ab M cb x5 y3.heap.size:=⟨S.new b7,ho.below b7,fun q e=>(ho.block e).2,hgy⟩;have hz7:=hz;clear S ho b7;go_wp2;generalize hy7:wr=y7 at *;clear hy7
    go_loopw [8,9] (fun v i wr=>∃(t:Nat) (a7:Option Addr) (c7:Nat) (P:List (Nat×Nat)),i=.int .i64 t∧v=.slice a7 (List.length P) c7∧t≤M∧P.length≤t∧COwn wr y7.heap.size a7 P.length c7 ab cb P∧(∀p∈P,p.1+p.2≤M)∧Hid ((P.map fun p=>(x5.drop p.1).take p.2).flatten=x5.take t)∧C7 w wr y7 (w.heap.size+1) ao n cap l r a k c x h ab M cb x5 y3.heap.size∧y7.heap.size≤wr.heap.size) (fun _ i _=>M-(intOf i).toNat)
    case atStart=>exact⟨0,_,_,[],rfl,rfl,Nat.zero_le _,Nat.le_refl _,hC0,fun p h=>(by cases h),(by show _=_;simp),S7,by simp⟩
    case round=>
     clear hC0 S7;obtain⟨t,a8,c8,P,rfl,rfl,ht,hPt,hC8,hP,HF,S8,hz8⟩:=hrel;have HP:Hid (∀p∈P,p.1+p.2≤M):=hP;clear hP
     by_cases hlt:t<M
     ·have hlt':(t:Int)<M:=by omega
      go_wp2_with fail
      refine (qah (w.heap.size+1) ao n cap l 9 _ S8.d.cur hn (by omega) (by omega)).mono ?_;rintro e y9 ⟨j9,hj90,hj91,rfl,hc9,hg9⟩;have S9:=S8.draw hc9 hg9;have hC9:=hC8.grown hg9 (fun k e=>by cases e;exact Nat.lt_of_lt_of_le hgy hz7);have hz9:=Nat.le_trans hz8 hg9.size;obtain⟨j9,rfl⟩:=Int.eq_ofNat_of_zero_le hj90;clear hc9 hg9 S8 hC8
      by_cases hcut:(M:Int)-t<1+j9
      ·have hmM:t+(M-t)≤M:=by omega
       have hm1:1≤M-t:=by omega
       obtain⟨hsl,hrp⟩:=qhv S9.own.rd t (M-t) hmM;have esl:(t:Int)+((M-t:Nat):Int)=(M:Int):=by omega
       have hsl2:=hsl;rw[esl] at hsl;have etm:((M-t:Nat):Int)=(M:Int)-t:=by omega
       rw[etm] at hsl2;have HFL:Hid (((P++[(t,M-t)]).map fun p=>(x5.drop p.1).take p.2).flatten=x5.take (t+(M-t))):=by
        have e:=HF.out;show _=_;rw[List.map_append,List.flatten_append,e];simp only[List.map_cons,List.map_nil,List.flatten_cons,List.flatten_nil,List.append_nil];exact qoe x5 t (M-t)
       have HPM:Hid (∀p∈P++[(t,M-t)],p.1+p.2≤M):=fun p hp=>by
        rw[List.mem_append] at hp
        rcases hp with hp | hp
        ·exact HP.out p hp
        ·obtain rfl:p=(t,M-t):=by simpa using hp
         exact hmM
       have b10:=qac y9 (.cells #[.slice (cutA ab cb t) (M-t) (cb-t)] 22);have S10:=S9.new b10;have hC10:=hC9.grown (row:=none) (World.grownBy_alloc y9 (.cells #[.slice (cutA ab cb t) (M-t) (cb-t)] 22) none) (fun k e=>by cases e);have hcell:(y9.alloc (.cells #[.slice (cutA ab cb t) (M-t) (cb-t)] 22)).cell? ⟨y9.heap.size,0,none⟩ = some (.slice (cutA ab cb t) (M-t) (cb-t)):=(qbr (heap_alloc_new _ _) 0).trans rfl;have hz10:=Nat.le_trans hz9 b10.size;clear b10 hrp;go_wp2_with (first | refine bs_sl (ad:=cutA ab cb t) (n:=M-t) (c:=cb-t) rfl _ rfl rfl ?_ | (at_builtin;refine w_capp _ rfl _ _ rfl y7.heap.size _ _ _ ab cb P rfl hC10 _ (t,M-t) rfl hcell (by omega) hz10 ?_) | fail)
       intro a11 c11 y11 hC11 hg11;have S11:=S10.capp hC10 hz7 HLT.out hg11;have hz11:=Nat.le_trans hz10 hg11.size;clear hg11 hC10 S10 S9 hC9 hcell hsl;go_wp2;go_roundw
       case rel=>exact⟨t+(M-t),a11,c11,P++[(t,M-t)],by go_num,by rw[List.length_append];rfl,by omega,by rw[List.length_append];simp;omega,by rw[List.length_append];exact hC11,HPM.out,HFL,S11,hz11⟩
       case measure=>simp[intOf];omega
      ·have hmM:t+(1+j9)≤M:=by omega
       have hm1:1≤1+j9:=by omega
       obtain⟨hsl,hrp⟩:=qhv S9.own.rd t (1+j9) hmM;have esl:(t:Int)+((1+j9:Nat):Int)=(t:Int)+(1+(j9:Int)):=by omega
       rw[esl] at hsl;have HFL:Hid (((P++[(t,1+j9)]).map fun p=>(x5.drop p.1).take p.2).flatten=x5.take (t+(1+j9))):=by
        have e:=HF.out;show _=_;rw[List.map_append,List.flatten_append,e];simp only[List.map_cons,List.map_nil,List.flatten_cons,List.flatten_nil,List.append_nil];exact qoe x5 t (1+j9)
       have HPM:Hid (∀p∈P++[(t,1+j9)],p.1+p.2≤M):=fun p hp=>by
        rw[List.mem_append] at hp
        rcases hp with hp | hp
        ·exact HP.out p hp
        ·obtain rfl:p=(t,1+j9):=by simpa using hp
         exact hmM
       have b10:=qac y9 (.cells #[.slice (cutA ab cb t) (1+j9) (cb-t)] 22);have S10:=S9.new b10;have hC10:=hC9.grown (row:=none) (World.grownBy_alloc y9 (.cells #[.slice (cutA ab cb t) (1+j9) (cb-t)] 22) none) (fun k e=>by cases e);have hcell:(y9.alloc (.cells #[.slice (cutA ab cb t) (1+j9) (cb-t)] 22)).cell? ⟨y9.heap.size,0,none⟩ = some (.slice (cutA ab cb t) (1+j9) (cb-t)):=(qbr (heap_alloc_new _ _) 0).trans rfl;have hz10:=Nat.le_trans hz9 b10.size;clear b10 hrp;go_wp2_with (first | refine bs_sl (ad:=cutA ab cb t) (n:=1+j9) (c:=cb-t) rfl _ rfl rfl ?_ | (at_builtin;refine w_capp _ rfl _ _ rfl y7.heap.size _ _ _ ab cb P rfl hC10 _ (t,1+j9) rfl hcell (by omega) hz10 ?_) | fail)
       intro a11 c11 y11 hC11 hg11;have S11:=S10.capp hC10 hz7 HLT.out hg11;have hz11:=Nat.le_trans hz10 hg11.size;clear hg11 hC10 S10 S9 hC9 hcell hsl;go_wp2;go_roundw
       case rel=>exact⟨t+(1+j9),a11,c11,P++[(t,1+j9)],by go_num,by rw[List.length_append];rfl,by omega,by rw[List.length_append];simp;omega,by rw[List.length_append];exact hC11,HPM.out,HFL,S11,hz11⟩
       case measure=>simp[intOf];omega
     ·have hlt':¬(t:Int)<M:=by omega
      have D:=S8.d;go_wp2_with (first | refine qdy D.row rfl _ rfl rfl ?_ | (refine qcg (a:=a) (n:=k) (c:=c) (x:=x) D.res rfl _ _ rfl rfl rfl rfl ?_;intro w9 B9 g9) | fail)
      have hR9:=D.rd.grown g9 (fun q he hq=>by have h1:=D.blk q he;have h2:q.block=w.heap.size:=(by simpa using hq);omega);have hBs:=(hC8.grown g9 (fun k e=>by cases e;omega)).rd (S8.own.cur (by omega) g9).rd HP.out;have hfl:=congrArg List.length HF.out;rw[List.length_take] at hfl;exact qky rfl rfl rfl B9 rfl ⟨a,k,c,x,h,_,_,_,_,rfl,D.le,hR9,hBs,by omega,by omega,qat D.blw g9 (Nat.le_refl _)⟩
