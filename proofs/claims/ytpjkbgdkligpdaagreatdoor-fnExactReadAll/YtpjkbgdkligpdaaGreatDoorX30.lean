/- Lemmas. -/
import Derived.Test.YtpjkbgdkligpdaaGreatDoorX27
import Derived.Test.YtpjkbgdkligpdaaGreatDoorX29
import Derived.Test.YtpjkbgdkligpdaaGreatDoorX01
set_option linter.unusedVariables false
set_option linter.unusedSimpArgs false
set_option maxRecDepth 100000
set_option maxHeartbeats 20000000
namespace Go.Proofs.YtpjkbgdkligpdaaGreatDoor
open Go.RowKit

theorem low_pub3 (dup:Bool) (qos:Int) (ret:Bool) (id:Int) (top:ByteArray) (b:Sl) (w:World) (hq:0≤qos∧qos≤3) :
  Calls Tryz.prog 117 #[.iface 129 (.agg (pubC dup qos ret id top b))] w fun e w'=>e=.returned (.int .i64 (pubL dup qos ret))∧Below w.heap.size w w':=by
 have i1:=qdl dup 8 (by omega);have i2:=qdl ret 1 (by omega);have A:Row (w.alloc (.cells (pubC dup qos ret id top b) 129)) w.heap.size (pubC dup qos ret id top b) 129:=Row.new _ _ _;have hb:Below w.heap.size w (w.alloc (.cells (pubC dup qos ret id top b) 129)):=qac _ _;unfold pubC at A hb ⊢;have h0:=qel (X:=76) Tryz.underlying129;go_enter Tryz.func117,Tryz.ntmps117;go_wp2;refine qan (by kernel_rfl) rfl (fun i u x=>match i with
  |0=>u=.pointer (some ⟨w.heap.size,0,none⟩)
  |1=>u=.bool dup
  |2=>u=.int .i64 (bit dup 8)
  |3=>u=.pointer (some ⟨w.heap.size,1,none⟩)
  |4=>u=.int .i64 (qos)
  |5=>u=.int .i64 (2*qos)
  |6=>u=.int .i64 (bit dup 8+2*qos)
  |7=>u=.pointer (some ⟨w.heap.size,2,none⟩)
  |8=>u=.bool ret
  |9=>u=.int .i64 (bit ret 1)
  |10=>u=.int .i64 (bit dup 8+2*qos+bit ret 1)
  |11=>u=.int .i64 (bit dup 8+2*qos+bit ret 1)
  |_=>True) ?_ ?_ ?_
 ·intro i u x x' hx h
  match i,h with
  |0,h=>exact h
  |1,h=>exact h
  |2,h=>exact h
  |3,h=>exact h
  |4,h=>exact h
  |5,h=>exact h
  |6,h=>exact h
  |7,h=>exact h
  |8,h=>exact h
  |9,h=>exact h
  |10,h=>exact h
  |11,h=>exact h
  |(_+12),h=>trivial
 ·intro i o a u hi hk hbu hdep
  match i,hi with
  |0,hi=>
   cases hi;exact g_run (qab rfl _) (z_fld (X:=⟨w.heap.size,0,none⟩) (Y:=⟨w.heap.size,0,none⟩) 129 _ 0 rfl (qaa ((hk.at 3 rfl).trans rfl)) (fun _=>by kernel_rfl) ⟨_,rfl,Below.refl _ _,rfl⟩)
  |1,hi=>
   cases hi;obtain⟨z0,hz0,rfl⟩:=hdep 0 _ _ rfl rfl rfl;exact g_run (qab rfl _) (z_ld 4 _ rfl (qaa hz0) (by kernel_rfl) ((A.next hbu).cell 0 rfl) ⟨_,rfl,Below.refl _ _,rfl⟩)
  |2,hi=>
   cases hi;obtain⟨z1,hz1,rfl⟩:=hdep 1 _ _ rfl rfl rfl;refine g_run (qab rfl _) (qak (qam _ _ _ _ _ _ _ _ qjl (qaa hz1) (rfl) (fun _=>rfl) _ _ _ _ _ _) ?_);refine (bit_i dup 8 u).mono ?_;rintro e u' ⟨rfl,hu⟩;exact⟨_,rfl,_,rfl,hu ▸ Below.refl _ _,rfl⟩
  |3,hi=>
   cases hi;exact g_run (qab rfl _) (z_fld (X:=⟨w.heap.size,0,none⟩) (Y:=⟨w.heap.size,1,none⟩) 129 _ 1 rfl (qaa ((hk.at 3 rfl).trans rfl)) (fun _=>by kernel_rfl) ⟨_,rfl,Below.refl _ _,rfl⟩)
  |4,hi=>
   cases hi;obtain⟨z3,hz3,rfl⟩:=hdep 3 _ _ rfl rfl rfl;exact g_run (qab rfl _) (z_ld 3 _ rfl (qaa hz3) (by kernel_rfl) ((A.next hbu).cell 1 rfl) ⟨_,rfl,Below.refl _ _,rfl⟩)
  |5,hi=>
   cases hi;obtain⟨z4,hz4,rfl⟩:=hdep 4 _ _ rfl rfl rfl;exact g_run (qab rfl _) (z_bin _ _ _ _ _ rfl (rfl) (qaa hz4) (muli _ _ _ _ _ (by rw[qav]<;>omega)) ⟨_,rfl,Below.refl _ _,rfl⟩)
  |6,hi=>
   cases hi;obtain⟨z2,hz2,rfl⟩:=hdep 2 _ _ rfl rfl rfl;obtain⟨z5,hz5,rfl⟩:=hdep 5 _ _ rfl rfl rfl;exact g_run (qab rfl _) (z_bin _ _ _ _ _ rfl (qaa hz2) (qaa hz5) (addi _ _ _ _ _ (by rw[qav]<;>omega)) ⟨_,rfl,Below.refl _ _,rfl⟩)
  |7,hi=>
   cases hi;exact g_run (qab rfl _) (z_fld (X:=⟨w.heap.size,0,none⟩) (Y:=⟨w.heap.size,2,none⟩) 129 _ 2 rfl (qaa ((hk.at 3 rfl).trans rfl)) (fun _=>by kernel_rfl) ⟨_,rfl,Below.refl _ _,rfl⟩)
  |8,hi=>
   cases hi;obtain⟨z7,hz7,rfl⟩:=hdep 7 _ _ rfl rfl rfl;exact g_run (qab rfl _) (z_ld 4 _ rfl (qaa hz7) (by kernel_rfl) ((A.next hbu).cell 2 rfl) ⟨_,rfl,Below.refl _ _,rfl⟩)
  |9,hi=>
   cases hi;obtain⟨z8,hz8,rfl⟩:=hdep 8 _ _ rfl rfl rfl;refine g_run (qab rfl _) (qak (qam _ _ _ _ _ _ _ _ qjl (qaa hz8) (rfl) (fun _=>rfl) _ _ _ _ _ _) ?_);refine (bit_i ret 1 u).mono ?_;rintro e u' ⟨rfl,hu⟩;exact⟨_,rfl,_,rfl,hu ▸ Below.refl _ _,rfl⟩
  |10,hi=>
   cases hi;obtain⟨z6,hz6,rfl⟩:=hdep 6 _ _ rfl rfl rfl;obtain⟨z9,hz9,rfl⟩:=hdep 9 _ _ rfl rfl rfl;exact g_run (qab rfl _) (z_bin _ _ _ _ _ rfl (qaa hz6) (qaa hz9) (addi _ _ _ _ _ (by rw[qav]<;>omega)) ⟨_,rfl,Below.refl _ _,rfl⟩)
  |11,hi=>
   cases hi;obtain⟨z10,hz10,rfl⟩:=hdep 10 _ _ rfl rfl rfl;exact g_run (qab rfl _) (qae (v:=_) (w':=u) (by first | (simp[execOp,qaa hz10];done) | (simp[execOp,qaa hz10];rfl)) ⟨_,rfl,Below.refl _ _,rfl⟩)
  |(_+12),hi=>cases hi
 intro vs y3 b3 hG a3 h3;have gr:vs 11=.int .i64 (bit dup 8+2*qos+bit ret 1):=hG 11 (by decide);have s2:=qfz h3 rfl 11 rfl rfl;rw[gr] at s2;have hd:=(qhs h3).trans (show _ = [] from rfl);clear h3 hG;go_wp2;refine bodyPost_ret (results_tmp rfl _ _ _) hd ⟨?_,bel hb b3⟩;rw[qiq s2];rfl
theorem or48b (dup:Bool) (qos:Int) (ret:Bool) (hq:0≤qos∧qos≤3):bits .or .i64 48 (pubL dup qos ret)=48+pubL dup qos ret:=by
 have h:qos=0∨qos=1∨qos=2∨qos=3:=by omega
 rcases h with rfl | rfl | rfl | rfl<;>cases dup<;>cases ret<;>decide
theorem pubL_in3 (dup:Bool) (qos:Int) (ret:Bool) (hq:0≤qos∧qos≤3):0≤pubL dup qos ret∧pubL dup qos ret≤15:=by
 unfold pubL;have:=qdl dup 8 (by omega);have:=qdl ret 1 (by omega);omega
theorem first_pub3 (dup:Bool) (qos:Int) (ret:Bool) (id:Int) (top:ByteArray) (b:Sl) (w:World) (hq:0≤qos∧qos≤3) :
  Calls Tryz.prog 65 #[.iface 129 (.agg (pubC dup qos ret id top b))] w fun e w'=>e=.returned (.int .u8 (48+pubL dup qos ret))∧Below w.heap.size w w':=by
 have h1:=or48b dup qos ret hq;have h2:=pubL_in3 dup qos ret hq;have h3:=fun u=>low_pub3 dup qos ret id top b u hq
 generalize pubL dup qos ret=L at h1 h2 h3 ⊢;generalize pubC dup qos ret id top b=cs at h3 ⊢;have H3:Hid (∀u:World,Calls Tryz.prog 117 #[.iface 129 (.agg cs)] u fun e u'=>e=.returned (.int .i64 L)∧Below u.heap.size u u'):=h3;clear h3;have h4:(48+L)%256=48+L:=by omega
 go_enter Tryz.func65,Tryz.ntmps65;go_wp2_with fail
 refine (qfk _ _).mono ?_;rintro e y ⟨rfl,hy⟩;rw[hy];go_wp2_with fail
 refine (H3.out _).mono ?_;rintro e y2 ⟨rfl,b2⟩;go_wp2;go_ret;exact⟨rfl,b2⟩
def fstX (x:Nat):Pk:=if x / 16=3 then fstP 3 (fl x 8) ((x:Int) / 2%4) (fl x 1) else fstP (x / 16:Nat) false 0 false
theorem fstX_pv (x:Nat):pv (fstX x) dnil=qcb x:=by
 unfold fstX qcb
 split<;>rfl
theorem bits8 (x:Nat) (h:x<256):(bits BinOp.and IntKind.u8 (x:Int) 8 != 0)=fl x 8∧(bits BinOp.and IntKind.u8 (x:Int) 1 != 0)=fl x 1∧wrap64 ((wrap64 (bits BinOp.and IntKind.u8 (x:Int) 6)).tdiv 2)=(x:Int) / 2%4:=by
 have hh:∀x:Fin 256,(bits BinOp.and IntKind.u8 (x.val:Int) 8 != 0)=fl x.val 8∧(bits BinOp.and IntKind.u8 (x.val:Int) 1 != 0)=fl x.val 1∧wrap64 ((wrap64 (bits BinOp.and IntKind.u8 (x.val:Int) 6)).tdiv 2)=(x.val:Int) / 2%4:=by decide +kernel
 exact hh ⟨x,h⟩
theorem fst3 (x:Nat) (h:x<256) (h3:x / 16=3):fstOk x=(decide (48+pubL (if 0<(x:Int) / 2%4 then fl x 8 else false) ((x:Int) / 2%4) (fl x 1)=(x:Int))&&inB ((x:Int) / 2%4) 0 2):=by
 have hh:∀x:Fin 256,x.val / 16=3→fstOk x.val=(decide (48+pubL (if 0<(x.val:Int) / 2%4 then fl x.val 8 else false) ((x.val:Int) / 2%4) (fl x.val 1)=(x.val:Int))&&inB ((x.val:Int) / 2%4) 0 2):=by decide +kernel
 exact hh ⟨x,h⟩ h3
def First (w w':World) (e:Ending) (x:Nat):Prop:=e=.returned (.tuple #[.agg (if fstOk x then fstX x else Pk.zero).cells,errV (!fstOk x)])∧Below w.heap.size w w'
theorem below_st {w u u':World} {r:Nat} (hb:Below w.heap.size w u) (hg:u.grownBy u' (some r)) (hr:w.heap.size≤r):Below w.heap.size w u':=hb.grown hg hb.size (fun k e=>by cases e;exact hr)
theorem first_3 (x:Nat) (hx:x<256) (h3:x / 16=3) (w:World) :
  Calls Tryz.prog 149 #[.int .u8 x] w fun e w'=>First w w' e x:=by
 have hk:(x:Int) / 16=3:=by omega
 have hfo0:=fst3 x hx h3;obtain⟨e8,e1,e6⟩:=bits8 x hx;have hX3:Hid (fstX x=fstP 3 (fl x 8) ((x:Int) / 2%4) (fl x 1)):=by unfold Hid fstX;rw[if_pos h3]
 obtain⟨f8,hf8⟩ : ∃f,fl x 8=f:=⟨_,rfl⟩;obtain⟨f1,hf1⟩ : ∃f,fl x 1=f:=⟨_,rfl⟩;obtain⟨v,hv⟩ : ∃v,(x:Int) / 2%4=v:=⟨_,rfl⟩;have hv3:0≤v∧v≤3:=by omega
 rw[hf8,hf1,hv] at hfo0;rw[hf8] at e8;rw[hf1] at e1;rw[hv] at e6;rw[hf8,hf1,hv] at hX3;clear hf8 hf1 hv;have HF:Hid (∀u,Calls Tryz.prog 65 #[.iface 129 (.agg (pubOf (fstP 3 f8 v f1)))] u fun e u'=>e=.returned (.int .u8 (48+pubL (if 0<v then f8 else false) v f1))∧Below u.heap.size u u'):=fun u=>first_pub3 _ _ _ _ _ _ u hv3
 have HK:Hid (∀u,Calls Tryz.prog 63 #[.agg (fstP 3 f8 v f1).cells] u fun e u'=>e=.returned (.iface 129 (.agg (pubOf (fstP 3 f8 v f1))))∧Below u.heap.size u u'):=fun u=>qfj (fstP 3 f8 v f1) u rfl
 obtain⟨L,hL⟩ : ∃L,48+pubL (if 0<v then f8 else false) v f1=L:=⟨_,rfl⟩;rw[hL] at HF hfo0;clear hL;generalize pubOf (fstP 3 f8 v f1)=cs at HF HK;go_enter Tryz.func149,Tryz.ntmps149
 go_upto_region 2 with (first | refine qbb (p:=ofT 3) rfl rfl ?_ | refine al_pk ?_ | (refine bu_pk (ofT 3) (by kernel_rfl) ?_) | fail)
 have A2:Blk ((w.alloc (.cells Pk.zero.cells 28)).alloc (.cells (ofT 3).cells 28)) (w.heap.size+1) (ofT 3):=heap_alloc2_new _ _ _;have A1:Blk ((w.alloc (.cells Pk.zero.cells 28)).alloc (.cells (ofT 3).cells 28)) w.heap.size Pk.zero:=heap_alloc2_old _ _ _;have hb:Below w.heap.size w ((w.alloc (.cells Pk.zero.cells 28)).alloc (.cells (ofT 3).cells 28)):=((Below.refl _ _).alloc (Nat.le_refl _) _).alloc (by simp) _;generalize (w.alloc (.cells Pk.zero.cells 28)).alloc (.cells (ofT 3).cells 28)=y at *
 try simp only[World.size_alloc]
 generalize hB1:w.heap.size+1=b at *;have c0:=(A2.cell 0).trans (Pk.c0 _);replace c0:y.cell? ⟨b,0,none⟩ = some (.int .i64 (3)):=c0;have c1:=(A2.cell 1).trans (Pk.c1 _);have c2:=(A2.cell 2).trans (Pk.c2 _);have c3:=(A2.cell 3).trans (Pk.c3 _);have z1:=Lib.frozen_of_heap A2 1;have z2:=Lib.frozen_of_heap A2 2;have z3:=Lib.frozen_of_heap A2 3
 go_upto_region 4 with fail
 have A3:Blk (((y.setCell ⟨b,1,none⟩ (.bool f8)).setCell ⟨b,2,none⟩ (.int .i64 v)).setCell ⟨b,3,none⟩ (.bool f1)) b (fstP 3 f8 v f1):=qaf (qaf (qaf A2 1 _) 2 _) 3 _;have hne:w.heap.size≠b:=by omega
 have A4:Blk (((y.setCell ⟨b,1,none⟩ (.bool f8)).setCell ⟨b,2,none⟩ (.int .i64 v)).setCell ⟨b,3,none⟩ (.bool f1)) w.heap.size Pk.zero:=(Below.heap_setCell _ _ _ _ hne).trans ((Below.heap_setCell _ _ _ _ hne).trans ((Below.heap_setCell _ _ _ _ hne).trans A1));have hb3:Below w.heap.size w (((y.setCell ⟨b,1,none⟩ (.bool f8)).setCell ⟨b,2,none⟩ (.int .i64 v)).setCell ⟨b,3,none⟩ (.bool f1)):=below_st (below_st (below_st hb (qah _ b 1 _) (by omega)) (qah _ b 2 _) (by omega)) (qah _ b 3 _) (by omega);clear c0 c1 c2 c3 z1 z2 z3 A1 A2 hb e8 e1 e6;generalize ((y.setCell ⟨b,1,none⟩ (.bool f8)).setCell ⟨b,2,none⟩ (.int .i64 v)).setCell ⟨b,3,none⟩ (.bool f1)=y3 at *;go_wp2_with (first | refine qal A3 rfl _ rfl rfl ?_ | fail)
 refine (HK.out _).mono ?_;rintro e y4 ⟨rfl,b4⟩;replace A3:=A3.next b4;replace A4:=A4.next b4;replace hb3:=bel hb3 b4;clear b4;go_wp2_with fail
 refine (HF.out _).mono ?_;rintro e y5 ⟨rfl,b5⟩;have A2:=A3.next b5;have A1:=A4.next b5;have hb:=bel hb3 b5;clear b5 A3 A4 hb3;have c2:=(A2.cell 2).trans (Pk.c2 _);replace c2:y5.cell? ⟨b,2,none⟩ = some (.int .i64 v):=c2
 by_cases hLx:L=(x:Int)
 ·have hd:decide (L=(x:Int))=true:=decide_eq_true hLx;rw[hd,Bool.true_and] at hfo0;go_wp2_with fail
  refine (qlf v _).mono ?_;rintro e y6 ⟨rfl,rfl⟩;cases hq:inB v 0 2 with
  |true=>
   have HX:Hid (∀w w' e,First w w' e x=(e=.returned (.tuple #[.agg (fstP 3 f8 v f1).cells,errV false])∧Below w.heap.size w w')):=fun w w' e=>by unfold First;rw[hfo0,hq,←hX3.out];rfl
   clear hfo0 hq
   go_upto_region 7 with fail
   refine wp_region_list ?_;refine qal A2 rfl _ rfl rfl ?_;go_wp2_with (first | (refine qag (q:=fstP 3 f8 v f1) (old:=Pk.zero) A1 rfl rfl ?_;intro w9 B9 g9) | fail)
   exact qek rfl rfl rfl B9 rfl (by
    rw[HX.out];exact⟨rfl,below_st hb g9 (Nat.le_refl _)⟩)
  |false=>
   have HX:Hid (∀w w' e,First w w' e x=(e=.returned (.tuple #[.agg (Pk.zero).cells,errV true])∧Below w.heap.size w w')):=fun w w' e=>by unfold First;rw[hfo0,hq];rfl
   clear hfo0 hq
   go_upto_region 6 with fail
   refine wp_region_list ?_;refine bu_pk Pk.zero (by kernel_rfl) ?_;go_wp2_with (first | (refine qag (q:=Pk.zero) (old:=Pk.zero) A1 rfl rfl ?_;intro w9 B9 g9) | fail)
   exact qek rfl rfl rfl B9 rfl (by
    rw[HX.out];exact⟨rfl,below_st hb g9 (Nat.le_refl _)⟩)
 ·have hd:decide (L=(x:Int))=false:=decide_eq_false hLx;rw[hd,Bool.false_and] at hfo0;have HX:Hid (∀w w' e,First w w' e x=(e=.returned (.tuple #[.agg (Pk.zero).cells,errV true])∧Below w.heap.size w w')):=fun w w' e=>by unfold First;rw[hfo0];rfl
  clear hfo0
  go_upto_region 6 with fail
  refine wp_region_list ?_;refine bu_pk Pk.zero (by kernel_rfl) ?_;go_wp2_with (first | (refine qag (q:=Pk.zero) (old:=Pk.zero) A1 rfl rfl ?_;intro w9 B9 g9) | fail)
  exact qek rfl rfl rfl B9 rfl (by
   rw[HX.out];exact⟨rfl,below_st hb g9 (Nat.le_refl _)⟩)
theorem qby (x k:Nat) (hx:x<256) (h3:x / 16=k) (hk3:k≠3) (T:TypeId) (v:Value) (c:Int) (hc:0≤c∧c<256)
  (hK:∀u:World,Calls Tryz.prog 63 #[.agg (ofT (k:Nat)).cells] u fun e u'=>e=.returned (.iface T v)∧Below u.heap.size u u')
  (hF:∀u:World,Calls Tryz.prog 65 #[.iface T v] u fun e u'=>e=.returned (.int .u8 c)∧Below u.heap.size u u')
  (hfo0:fstOk x=decide (c=(x:Int))) (w:World) :
  Calls Tryz.prog 149 #[.int .u8 x] w fun e w'=>First w w' e x:=by
 have hk:(x:Int) / 16=(k:Int):=by omega
 have hkn:((k:Int)==3)=false:=by simp;omega
 have hX3:Hid (fstX x=ofT (k:Nat)):=by unfold Hid fstX;rw[if_neg (by omega),h3];rfl
 have HK:Hid (∀u:World,Calls Tryz.prog 63 #[.agg (ofT (k:Nat)).cells] u fun e u'=>e=.returned (.iface T v)∧Below u.heap.size u u'):=hK;have HF:Hid (∀u:World,Calls Tryz.prog 65 #[.iface T v] u fun e u'=>e=.returned (.int .u8 c)∧Below u.heap.size u u'):=hF;clear hK hF;go_enter Tryz.func149,Tryz.ntmps149
 go_upto_region 2 with (first | refine qbb (p:=ofT (k:Nat)) rfl rfl ?_ | refine al_pk ?_ | (refine bu_pk (ofT (k:Nat)) (by kernel_rfl) ?_) | fail)
 have A2:Blk ((w.alloc (.cells Pk.zero.cells 28)).alloc (.cells (ofT (k:Nat)).cells 28)) (w.heap.size+1) (ofT (k:Nat)):=heap_alloc2_new _ _ _;have A1:Blk ((w.alloc (.cells Pk.zero.cells 28)).alloc (.cells (ofT (k:Nat)).cells 28)) w.heap.size Pk.zero:=heap_alloc2_old _ _ _;have hb:Below w.heap.size w ((w.alloc (.cells Pk.zero.cells 28)).alloc (.cells (ofT (k:Nat)).cells 28)):=((Below.refl _ _).alloc (Nat.le_refl _) _).alloc (by simp) _;generalize (w.alloc (.cells Pk.zero.cells 28)).alloc (.cells (ofT (k:Nat)).cells 28)=y at *
 try simp only[World.size_alloc]
 generalize hB1:w.heap.size+1=b at *;have c0:=(A2.cell 0).trans (Pk.c0 _);replace c0:y.cell? ⟨b,0,none⟩ = some (.int .i64 ((k:Nat))):=c0;go_wp2_with (first | refine qal A2 rfl _ rfl rfl ?_ | fail)
 refine (HK.out _).mono ?_;rintro e y4 ⟨rfl,b4⟩;replace A2:=A2.next b4;replace A1:=A1.next b4;replace hb:=bel hb b4;clear b4 c0;go_wp2_with fail
 refine (HF.out _).mono ?_;rintro e y5 ⟨rfl,b5⟩;replace A2:=A2.next b5;replace A1:=A1.next b5;replace hb:=bel hb b5;clear b5;have c2:=(A2.cell 2).trans (Pk.c2 _);replace c2:y5.cell? ⟨b,2,none⟩ = some (.int .i64 0):=c2
 by_cases hLx:c=(x:Int)
 ·have hd:decide (c=(x:Int))=true:=decide_eq_true hLx;rw[hd] at hfo0;go_wp2_with fail
  refine (qlf 0 _).mono ?_;rintro e y6 ⟨rfl,rfl⟩;have HX:Hid (∀w w' e,First w w' e x=(e=.returned (.tuple #[.agg (ofT (k:Nat)).cells,errV false])∧Below w.heap.size w w')):=fun w w' e=>by unfold First;rw[hfo0,←hX3.out];rfl
  clear hfo0;rw[show inB 0 0 2=true from rfl]
  go_upto_region 7 with fail
  refine wp_region_list ?_;refine qal A2 rfl _ rfl rfl ?_;go_wp2_with (first | (refine qag (q:=ofT (k:Nat)) (old:=Pk.zero) A1 rfl rfl ?_;intro w9 B9 g9) | fail)
  exact qek rfl rfl rfl B9 rfl (by
   rw[HX.out];exact⟨rfl,below_st hb g9 (Nat.le_refl _)⟩)
 ·have hd:decide (c=(x:Int))=false:=decide_eq_false hLx;rw[hd] at hfo0;have HX:Hid (∀w w' e,First w w' e x=(e=.returned (.tuple #[.agg (Pk.zero).cells,errV true])∧Below w.heap.size w w')):=fun w w' e=>by unfold First;rw[hfo0];rfl
  clear hfo0
  go_upto_region 6 with fail
  refine wp_region_list ?_;refine bu_pk Pk.zero (by kernel_rfl) ?_;go_wp2_with (first | (refine qag (q:=Pk.zero) (old:=Pk.zero) A1 rfl rfl ?_;intro w9 B9 g9) | fail)
  exact qek rfl rfl rfl B9 rfl (by
   rw[HX.out];exact⟨rfl,below_st hb g9 (Nat.le_refl _)⟩)
theorem qpy (x k:Nat) (hx:x<256) (h3:x / 16=k) (hk3:k=0∨k=15) (w:World) :
  Calls Tryz.prog 149 #[.int .u8 x] w fun e w'=>First w w' e x:=by
 have hk:(x:Int) / 16=(k:Int):=by omega
 have hkn:((k:Int)==3)=false:=by simp;omega
 have hfo0:fstOk x=false:=by unfold fstOk;rw[if_pos (by omega)]
 have HK:Hid (∀u:World,Calls Tryz.prog 63 #[.agg (ofT (k:Nat)).cells] u fun e u'=>e=.returned .nilIface∧Below u.heap.size u u'):=fun u=>qsf (ofT (k:Nat)) u (by show ¬(1≤(k:Int)∧(k:Int)≤14);omega)
 have HX:Hid (∀w w' e,First w w' e x=(e=.returned (.tuple #[.agg (Pk.zero).cells,errV true])∧Below w.heap.size w w')):=fun w w' e=>by unfold First;rw[hfo0];rfl
 clear hfo0;go_enter Tryz.func149,Tryz.ntmps149
 go_upto_region 2 with (first | refine qbb (p:=ofT (k:Nat)) rfl rfl ?_ | refine al_pk ?_ | (refine bu_pk (ofT (k:Nat)) (by kernel_rfl) ?_) | fail)
 have A2:Blk ((w.alloc (.cells Pk.zero.cells 28)).alloc (.cells (ofT (k:Nat)).cells 28)) (w.heap.size+1) (ofT (k:Nat)):=heap_alloc2_new _ _ _;have A1:Blk ((w.alloc (.cells Pk.zero.cells 28)).alloc (.cells (ofT (k:Nat)).cells 28)) w.heap.size Pk.zero:=heap_alloc2_old _ _ _;have hb:Below w.heap.size w ((w.alloc (.cells Pk.zero.cells 28)).alloc (.cells (ofT (k:Nat)).cells 28)):=((Below.refl _ _).alloc (Nat.le_refl _) _).alloc (by simp) _;generalize (w.alloc (.cells Pk.zero.cells 28)).alloc (.cells (ofT (k:Nat)).cells 28)=y at *
 try simp only[World.size_alloc]
 generalize hB1:w.heap.size+1=b at *;have c0:=(A2.cell 0).trans (Pk.c0 _);replace c0:y.cell? ⟨b,0,none⟩ = some (.int .i64 ((k:Nat))):=c0;go_wp2_with (first | refine qal A2 rfl _ rfl rfl ?_ | fail)
 refine (HK.out _).mono ?_;rintro e y4 ⟨rfl,b4⟩;replace A1:=A1.next b4;replace hb:=bel hb b4;clear b4 c0
 go_upto_region 6 with fail
 refine wp_region_list ?_;refine bu_pk Pk.zero (by kernel_rfl) ?_;go_wp2_with (first | (refine qag (q:=Pk.zero) (old:=Pk.zero) A1 rfl rfl ?_;intro w9 B9 g9) | fail)
 exact qek rfl rfl rfl B9 rfl (by
  rw[HX.out];exact⟨rfl,below_st hb g9 (Nat.le_refl _)⟩)
theorem first_i (x:Nat) (hx:x<256) (w:World):Calls Tryz.prog 149 #[.int .u8 x] w fun e w'=>First w w' e x:=by
 have h16:x / 16=0∨x / 16=15∨x / 16=3∨x / 16=1∨x / 16=2∨x / 16=4∨x / 16=5∨x / 16=6∨x / 16=7∨x / 16=8∨x / 16=9∨x / 16=10∨x / 16=11∨x / 16=12∨x / 16=13∨x / 16=14:=by omega
 rcases h16 with h | h | h | h | h | h | h | h | h | h | h | h | h | h | h | h
 ·exact qpy x 0 hx h (by decide) w
 ·exact qpy x 15 hx h (by decide) w
 ·exact first_3 x hx h w
 ·exact qby x 1 hx h (by decide) _ _ 16 (by decide) (fun u=>qfg (ofT (1:Nat)) u rfl) (fun u=>qgu _ u) (by
   have hh:∀x:Fin 256,x.val / 16=1→fstOk x.val=decide ((16:Int)=(x.val:Int)):=by decide +kernel
   exact hh ⟨x,hx⟩ h) w
 ·exact qby x 2 hx h (by decide) _ _ 32 (by decide) (fun u=>qff (ofT (2:Nat)) u rfl) (fun u=>qgt _ u) (by
   have hh:∀x:Fin 256,x.val / 16=2→fstOk x.val=decide ((32:Int)=(x.val:Int)):=by decide +kernel
   exact hh ⟨x,hx⟩ h) w
 ·exact qby x 4 hx h (by decide) _ _ 64 (by decide) (fun u=>qfu (ofT (4:Nat)) u rfl) (fun u=>qhw _ u) (by
   have hh:∀x:Fin 256,x.val / 16=4→fstOk x.val=decide ((64:Int)=(x.val:Int)):=by decide +kernel
   exact hh ⟨x,hx⟩ h) w
 ·exact qby x 5 hx h (by decide) _ _ 80 (by decide) (fun u=>qfv (ofT (5:Nat)) u rfl) (fun u=>qhx _ u) (by
   have hh:∀x:Fin 256,x.val / 16=5→fstOk x.val=decide ((80:Int)=(x.val:Int)):=by decide +kernel
   exact hh ⟨x,hx⟩ h) w
 ·exact qby x 6 hx h (by decide) _ _ 98 (by decide) (fun u=>qfw (ofT (6:Nat)) u rfl) (fun u=>qhy _ u) (by
   have hh:∀x:Fin 256,x.val / 16=6→fstOk x.val=decide ((98:Int)=(x.val:Int)):=by decide +kernel
   exact hh ⟨x,hx⟩ h) w
 ·exact qby x 7 hx h (by decide) _ _ 112 (by decide) (fun u=>qfi (ofT (7:Nat)) u rfl) (fun u=>qgw _ u) (by
   have hh:∀x:Fin 256,x.val / 16=7→fstOk x.val=decide ((112:Int)=(x.val:Int)):=by decide +kernel
   exact hh ⟨x,hx⟩ h) w
 ·exact qby x 8 hx h (by decide) _ _ 130 (by decide) (fun u=>qed (ofT (8:Nat)) u rfl) (fun u=>qfr _ u) (by
   have hh:∀x:Fin 256,x.val / 16=8→fstOk x.val=decide ((130:Int)=(x.val:Int)):=by decide +kernel
   exact hh ⟨x,hx⟩ h) w
 ·exact qby x 9 hx h (by decide) _ _ 144 (by decide) (fun u=>qfx (ofT (9:Nat)) u rfl) (fun u=>qhz _ u) (by
   have hh:∀x:Fin 256,x.val / 16=9→fstOk x.val=decide ((144:Int)=(x.val:Int)):=by decide +kernel
   exact hh ⟨x,hx⟩ h) w
 ·exact qby x 10 hx h (by decide) _ _ 162 (by decide) (fun u=>qdk (ofT (10:Nat)) u rfl) (fun u=>qex _ u) (by
   have hh:∀x:Fin 256,x.val / 16=10→fstOk x.val=decide ((162:Int)=(x.val:Int)):=by decide +kernel
   exact hh ⟨x,hx⟩ h) w
 ·exact qby x 11 hx h (by decide) _ _ 176 (by decide) (fun u=>qeq (ofT (11:Nat)) u rfl) (fun u=>qgf _ u) (by
   have hh:∀x:Fin 256,x.val / 16=11→fstOk x.val=decide ((176:Int)=(x.val:Int)):=by decide +kernel
   exact hh ⟨x,hx⟩ h) w
 ·exact qby x 12 hx h (by decide) _ _ 192 (by decide) (fun u=>qfh (ofT (12:Nat)) u rfl) (fun u=>qgv _ u) (by
   have hh:∀x:Fin 256,x.val / 16=12→fstOk x.val=decide ((192:Int)=(x.val:Int)):=by decide +kernel
   exact hh ⟨x,hx⟩ h) w
 ·exact qby x 13 hx h (by decide) _ _ 208 (by decide) (fun u=>qep (ofT (13:Nat)) u rfl) (fun u=>qge _ u) (by
   have hh:∀x:Fin 256,x.val / 16=13→fstOk x.val=decide ((208:Int)=(x.val:Int)):=by decide +kernel
   exact hh ⟨x,hx⟩ h) w
 ·exact qby x 14 hx h (by decide) _ _ 224 (by decide) (fun u=>qdr (ofT (14:Nat)) u rfl) (fun u=>qfm _ u) (by
   have hh:∀x:Fin 256,x.val / 16=14→fstOk x.val=decide ((224:Int)=(x.val:Int)):=by decide +kernel
   exact hh ⟨x,hx⟩ h) w

def errC (c:Int):Value:=.iface 98 (.agg #[.int .i64 c])
def Head (w w':World) (e:Ending) (b:List UInt8) (cap:Nat):Prop:=match headE b with
 |.inl c=>e=.returned (.tuple #[.agg Pk.zero.cells,.slice none 0 0,errC c])∧Below w.heap.size w w'
 |.inr (n,k)=>∃ax cx,e=.returned (.tuple #[.agg (fstX (bt b 0)).cells,.slice ax n cx,.nilIface])∧RdIn w' ax n cx ((b.drop k).take n)∧Below w.heap.size w w'
theorem qnl {l:List UInt8} {a b:Int} (hl:1≤l.length) (h:getE l 1=(a,b,0)):∃m k:Nat,a=m∧b=k∧k≤l.length∧m≤268435455:=by
 unfold getE at h;rw[if_pos ⟨by omega,by omega⟩] at h;obtain⟨k,m,h1,h2,h3,h4,_⟩:=ansG_good (p:=(1:Int).toNat) (by simpa using hl) h;exact⟨m,_,h1,h3,h4,h2⟩
theorem z_slice {o:Oper} {a:Act} {w:World} {K:Act→World→Prop} {Q:Exit→Act→World→Prop} {s v1 v2 r:Value} (x y z:Operand) (ho:o.op=.slice 22 x (some y) (some z) none) (hx:a.eval x=s) (hy:a.eval y=v1) (hz:a.eval z=v2) (hr:(Instr.slice 22 s (some v1) (some v2) none).run Tryz.prog w=.ok r w) (h:K (a.put o.dst r) w):Oper.wp Tryz.prog o a w K Q :=
 qae (w':=w) (v:=r) (by unfold execOp;rw[ho];simp only[Option.map_some,Option.map_none,hx,hy,hz,Instr.sliceAt,Sem.run_bind,run_underlying Tryz.underlying22,hr,Result.andThen_ok,Sem.run_pure]) h
def R7 (r:Nat) (p:Pk) (i:Nat) (u u':World):Prop:=if i=7 then u'=u.setRow r p.cells else u'=u
structure J7 (w0:World) (r b:Nat) (p:Pk) (u:World):Prop where
 blk:Blk u b p
 res:∃p0,Blk u r p0
 gro:Below w0.heap.size w0 u
theorem J7.set {w0 u:World} {r b:Nat} {p:Pk} (h:J7 w0 r b p u) (hrb:r≠b) (hr:w0.heap.size≤r):J7 w0 r b p (u.setRow r p.cells):=by
 obtain⟨p0,h0⟩:=h.res;exact⟨(setRow_other u r b _ (fun e=>hrb e.symm)).trans h.blk,⟨p,setRow_heap u r p0.cells p.cells 28 (0,0) h0⟩,h.gro.grown (qgz u r _) h.gro.size (fun k e=>by cases e;exact hr)⟩
theorem head_i (ao:Option Addr) (n cap:Nat) (l:List UInt8) (w:World) (hr:RdIn w ao n cap l) (hn:n≤1048576) :
  Calls Tryz.prog 127 #[.slice ao n cap] w fun e w'=>Head w w' e l cap:=by
 have hl:=hr.1.1;have A1:Blk (w.alloc (.cells Pk.zero.cells 28)) w.heap.size Pk.zero:=heap_alloc_new _ _;have hb:=qac w (.cells Pk.zero.cells 28)
 by_cases h0:n=0
 ·have HX:Hid (∀w w' e,Head w w' e l cap=(e=.returned (.tuple #[.agg Pk.zero.cells,.slice none 0 0,errC 1])∧Below w.heap.size w w')):=fun w w' e=>by
   unfold Head headE;rw[if_pos (by omega)]
  subst h0;clear hl hr;go_enter Tryz.func127,Tryz.ntmps127
  go_upto_region 1 with (first | refine al_pk ?_ | fail)
  go_upto_region 2 with fail
  refine wp_region_list ?_;refine bu_pk Pk.zero (by kernel_rfl) ?_;go_wp2_with (first | (refine qag (q:=Pk.zero) (old:=Pk.zero) A1 rfl rfl ?_;intro w9 B9 g9) | fail)
  exact qcl rfl rfl rfl rfl B9 rfl (by
   rw[HX.out];exact⟨rfl,below_st hb g9 (Nat.le_refl _)⟩)
 have h0':((n:Int)==0)=false:=by simp;omega
 obtain⟨b0,off,rfl,hc⟩:=hr.1.at (show 0<n by omega);have hcell:=hc 0 (by omega);have hA:(w.alloc (.cells Pk.zero.cells 28)).cell? ⟨b0,off+0,none⟩ = some (.int .u8 (bt l 0)):=by
  have hlt:b0<w.heap.size:=by
   rcases Nat.lt_or_ge b0 w.heap.size with h | h
   ·exact h
   ·simp[World.cell?,Array.getElem?_eq_none h] at hcell
  exact (hb.cell (p:=⟨b0,off+0,none⟩) hlt).trans hcell
 rw[Nat.add_zero] at hA;clear hc hcell;obtain⟨x,hx⟩ : ∃x,bt l 0=x:=⟨_,rfl⟩;have hx256:x<256:=by rw[←hx];exact bt_lt l 0
 rw[hx] at hA;have hn0:¬n=0:=h0;have H0:Hid (0<n):=Nat.pos_of_ne_zero h0;have HL:Hid (l.length=n):=hl;have HR:Hid (RdIn w (some ⟨b0,off,none⟩) n cap l):=hr;clear hr h0 hl;cases hf:fstOk x with
 |false=>
  have HX:Hid (∀w w' e,Head w w' e l cap=(e=.returned (.tuple #[.agg Pk.zero.cells,.slice none 0 0,errC 2])∧Below w.heap.size w w')):=fun w w' e=>by
   unfold Head headE;rw[if_neg (by have:=HL.out;omega),if_pos (by rw[hx];exact hf)]
  have HF:Hid (∀w w' e,First w w' e x→e=.returned (.tuple #[.agg Pk.zero.cells,.iface 98 (.agg #[.int .i64 2])])∧Below w.heap.size w w'):=fun w w' e h=>by
   unfold First at h;rw[hf] at h;exact h
  clear hf hx HL HR;go_enter Tryz.func127,Tryz.ntmps127
  go_upto_region 3 with (first | refine al_pk ?_ | fail)
  go_wp2_with fail
  refine (first_i x hx256 _).mono ?_;intro e w1 hfst;obtain⟨rfl,b1⟩:=HF.out _ _ _ hfst;clear hfst hA;replace A1:=A1.next b1;replace hb:=bel hb b1;clear b1
  go_upto_region 4 with (first | refine qbb (p:=Pk.zero) rfl rfl ?_ | fail)
  replace A1:=A1.next (qac _ (.cells Pk.zero.cells 28));replace hb:=bel hb (qac _ (.cells Pk.zero.cells 28))
  go_upto_region 5 with fail
  refine wp_region_list ?_;refine bu_pk Pk.zero (by kernel_rfl) ?_;go_wp2_with (first | (refine qag (q:=Pk.zero) (old:=Pk.zero) A1 rfl rfl ?_;intro w9 B9 g9) | fail)
  exact qcl rfl rfl rfl rfl B9 rfl (by
   rw[HX.out];exact⟨rfl,below_st hb g9 (Nat.le_refl _)⟩)
 |true=>
  have HP:Hid (fstX x=fstX (bt l 0)):=by unfold Hid;rw[hx]
  have HF:Hid (∀w w' e,First w w' e x→e=.returned (.tuple #[.agg (fstX x).cells,.nilIface])∧Below w.heap.size w w'):=fun w w' e h=>by
   unfold First at h;rw[hf] at h;exact h
  have HE:Hid (l.length≠0∧¬fstOk (bt l 0)=false):=⟨by have:=HL.out;have:=H0.out;omega,by rw[hx,hf];simp⟩;clear hf;obtain⟨p,hp⟩ : ∃p,fstX x=p:=⟨_,rfl⟩;rw[hp] at HF HP;clear hp hx;obtain⟨T,hT⟩ : ∃T,getE l 1=T:=⟨_,rfl⟩;have HT:Hid (getE l 1=T):=hT;have HG:Hid (∀u:World,RdIn u (some ⟨b0,off,none⟩) n cap l→Calls Tryz.prog 19 #[.slice (some ⟨b0,off,none⟩) n cap,.int .i64 1] u fun e w'=>e=.returned (.tuple #[.int .i64 T.1,.int .i64 T.2.1,.int .i64 T.2.2])∧w'=u):=fun u hr=>by
   have:=qts (some ⟨b0,off,none⟩) n cap 1 l u hr (by omega);rw[hT] at this;exact this
  obtain⟨a,bb,c⟩:=T;have HM:Hid (c=0→∃m k:Nat,a=m∧bb=k∧k≤l.length∧m≤268435455):=fun hc=>qnl (by have:=HL.out;have:=H0.out;omega) (by rw[hT,hc])
  clear hT;have hRA:=HR.out.below hb;go_enter Tryz.func127,Tryz.ntmps127
  go_upto_region 3 with (first | refine al_pk ?_ | fail)
  go_wp2_with fail
  refine (first_i x hx256 _).mono ?_;intro e w1 hfst;obtain⟨rfl,b1⟩:=HF.out _ _ _ hfst;clear hfst hA;replace A1:=A1.next b1;replace hb:=bel hb b1;replace hRA:=hRA.below b1;clear b1
  go_upto_region 4 with (first | refine qbb (p:=p) rfl rfl ?_ | fail)
  have A2:Blk (w1.alloc (.cells p.cells 28)) w1.heap.size p:=heap_alloc_new _ _;have hne:w.heap.size≠w1.heap.size:=Nat.ne_of_lt A1.lt;replace A1:=A1.next (qac _ (.cells p.cells 28));replace hRA:=hRA.below (qac _ (.cells p.cells 28));replace hb:=bel hb (qac _ (.cells p.cells 28));generalize w1.alloc (.cells p.cells 28)=y at *;generalize w1.heap.size=b at *;go_wp2_with fail
  refine (HG.out _ hRA).mono ?_;rintro e w2 ⟨rfl,rfl⟩;clear HG HF;have HH:Hid (∀w w' e,Head w w' e l cap=(match (if c≠0 then Sum.inl c else if 340<a then Sum.inl 2 else if (l.length:Int)-bb<a then Sum.inl 1 else Sum.inr (a.toNat,bb.toNat):Int ⊕ (Nat×Nat)) with
    |.inl c=>e=.returned (.tuple #[.agg Pk.zero.cells,.slice none 0 0,errC c])∧Below w.heap.size w w'
    |.inr (n,k)=>∃ax cx,e=.returned (.tuple #[.agg p.cells,.slice ax n cx,.nilIface])∧RdIn w' ax n cx ((l.drop k).take n)∧Below w.heap.size w w')):=fun w w' e=>by
   unfold Head headE;rw[if_neg HE.out.1,if_neg HE.out.2,HT.out,←HP.out]
  clear HE HT HP
  by_cases hc:c=0
  ·obtain⟨m,k,rfl,rfl,hkl,hm⟩:=HM.out hc;subst hc;clear HM;rw[HL.out] at hkl
   by_cases h340:340<m
   ·have h340':(340:Int)<m:=by omega
    have HX:Hid (∀w w' e,Head w w' e l cap=(e=.returned (.tuple #[.agg Pk.zero.cells,.slice none 0 0,errC 2])∧Below w.heap.size w w')):=fun w w' e=>by
     rw[HH.out,if_neg (by simp),if_pos h340']
    clear HH HL HR h340
    go_upto_region 10 with fail
    refine wp_region_list ?_;refine bu_pk Pk.zero (by kernel_rfl) ?_;go_wp2_with (first | (refine qag (q:=Pk.zero) (old:=Pk.zero) A1 rfl rfl ?_;intro w9 B9 g9) | fail)
    exact qcl rfl rfl rfl rfl B9 rfl (by
     rw[HX.out];exact⟨rfl,below_st hb g9 (Nat.le_refl _)⟩)
   ·have h340':¬(340:Int)<m:=by omega
    by_cases hw:(n:Int)-k<m
    ·have HX:Hid (∀w w' e,Head w w' e l cap=(e=.returned (.tuple #[.agg Pk.zero.cells,.slice none 0 0,errC 1])∧Below w.heap.size w w')):=fun w w' e=>by
      rw[HH.out,if_neg (by simp),if_neg h340',if_pos (by rw[HL.out];exact hw)]
     clear HH HL HR h340
     go_upto_region 12 with fail
     refine wp_region_list ?_;refine bu_pk Pk.zero (by kernel_rfl) ?_;go_wp2_with (first | (refine qag (q:=Pk.zero) (old:=Pk.zero) A1 rfl rfl ?_;intro w9 B9 g9) | fail)
     exact qcl rfl rfl rfl rfl B9 rfl (by
      rw[HX.out];exact⟨rfl,below_st hb g9 (Nat.le_refl _)⟩)
    ·have HX:Hid (∀w w' e,Head w w' e l cap=(∃ax cx,e=.returned (.tuple #[.agg p.cells,.slice ax m cx,.nilIface])∧RdIn w' ax m cx ((l.drop k).take m)∧Below w.heap.size w w')):=fun w w' e=>by
      rw[HH.out,if_neg (by simp),if_neg h340',if_neg (by rw[HL.out];exact hw)];simp
     obtain⟨ax,cx,hsl,hrx⟩:=qiv HR.out k m (by omega);have HRX:Hid (RdIn w ax m cx ((l.drop k).take m)):=hrx;clear HH HL HR h340 hrx hRA;go_wp2;refine qbn (by kernel_rfl) rfl (J7 w w.heap.size b p) ⟨A2,⟨_,A1⟩,⟨hb.os,hb.tape,hb.output,hb.size,hb.block⟩⟩ (R7 w.heap.size p) (fun i v u=>match i with
      |0=>v=.agg p.cells
      |1=>v=.slice (some ⟨b0,off,none⟩) n cap
      |2=>v=.int .i64 (k:Nat)
      |3=>v=.int .i64 (k:Nat)
      |4=>v=.int .i64 (m:Nat)
      |5=>v=.int .i64 ((k:Int)+(m:Int))
      |6=>v=.slice ax m cx
      |8=>v=.slice ax m cx
      |9=>v=.nilIface
      |_=>True) (fun i a u=>if i=7 then Blk u w.heap.size p else True) ?_ ?_ ?_ ?_ ?_
     ·intro i u u' hR hJ;unfold R7 at hR
      split at hR
      ·rw[hR];exact hJ.set hne (Nat.le_refl _)
      ·rw[hR];exact hJ
     ·intro i0 i v u u' _ hx h
      match i,h with
      |0,h=>exact h
      |1,h=>exact h
      |2,h=>exact h
      |3,h=>exact h
      |4,h=>exact h
      |5,h=>exact h
      |6,h=>exact h
      |7,h=>exact h
      |8,h=>exact h
      |9,h=>exact h
      |(_+10),h=>trivial
     ·intro i j o oj a v u u' hi hj hne hdj hx hS
      by_cases h7:j=7
      ·rw[if_pos h7] at hS ⊢;unfold R7 at hx;rw[if_neg (by omega)] at hx;rw[hx];exact hS
      ·rw[if_neg h7];trivial
     ·intro i o a u hi hk hJ hdep
      match i,hi with
      |0,hi=>
       cases hi;exact (qbd hJ.blk _ rfl (qaa ((hk.at 5 rfl).trans rfl)) ⟨_,rfl,rfl,rfl,trivial⟩)
      |1,hi=>
       cases hi;exact (qax _ rfl (qaa ((hk.at 0 rfl).trans rfl)) ⟨_,rfl,rfl,rfl,trivial⟩)
      |2,hi=>
       cases hi;exact (qax _ rfl (qaa ((hk.at 8 rfl).trans rfl)) ⟨_,rfl,rfl,rfl,trivial⟩)
      |3,hi=>
       cases hi;exact (qax _ rfl (qaa ((hk.at 8 rfl).trans rfl)) ⟨_,rfl,rfl,rfl,trivial⟩)
      |4,hi=>
       cases hi;exact (qax _ rfl (qaa ((hk.at 7 rfl).trans rfl)) ⟨_,rfl,rfl,rfl,trivial⟩)
      |5,hi=>
       cases hi;obtain⟨z3,hz3,rfl,_⟩:=hdep 3 _ rfl rfl;replace hz3:=hz3 _ rfl;obtain⟨z4,hz4,rfl,_⟩:=hdep 4 _ rfl rfl;replace hz4:=hz4 _ rfl;exact (z_bin _ _ _ _ _ rfl (qaa hz3) (qaa hz4) (addi _ _ _ _ _ (by rw[qav]<;>omega)) ⟨_,rfl,rfl,rfl,trivial⟩)
      |6,hi=>
       cases hi;obtain⟨z1,hz1,rfl,_⟩:=hdep 1 _ rfl rfl;replace hz1:=hz1 _ rfl;obtain⟨z2,hz2,rfl,_⟩:=hdep 2 _ rfl rfl;replace hz2:=hz2 _ rfl;obtain⟨z5,hz5,rfl,_⟩:=hdep 5 _ rfl rfl;replace hz5:=hz5 _ rfl;exact (z_slice _ _ _ rfl (qaa hz1) (qaa hz2) (qaa hz5) (hsl _) ⟨_,rfl,rfl,rfl,trivial⟩)
      |7,hi=>
       cases hi;obtain⟨z0,hz0,rfl,_⟩:=hdep 0 _ rfl rfl;replace hz0:=hz0 _ rfl;obtain⟨p0,h0⟩:=hJ.res;exact wp_store_row 28 _ _ rfl w.heap.size p.cells (qaa ((hk.at 2 rfl).trans rfl)) (qaa hz0) 28 p0.cells h0 (infoP.trans (by rw[Pk.csize])) rfl p.ones ⟨_,rfl,rfl,trivial,setRow_heap u w.heap.size p0.cells p.cells 28 (0,0) h0⟩
      |8,hi=>
       cases hi;obtain⟨z6,hz6,rfl,_⟩:=hdep 6 _ rfl rfl;replace hz6:=hz6 _ rfl;exact (z_asg _ rfl (qaa hz6) ⟨_,rfl,rfl,rfl,trivial⟩)
      |9,hi=>
       cases hi;exact (z_asg _ rfl rfl ⟨_,rfl,rfl,rfl,trivial⟩)
      |(_+10),hi=>cases hi
     intro vs u9 hJ hG a3_ h3 hS_;have B9:=hS_ 7 (by decide);rw[if_pos rfl] at B9;clear hS_;have e8:=hG 8 (by decide);replace e8:vs 8=.slice ax m cx:=e8;have e9:=hG 9 (by decide);replace e9:vs 9=.nilIface:=e9;clear hG;replace h3:puts _ 1 _ (Fq63)=_:=h3;replace h3:puts _ 2 _ (Fq63)=_:=h3;replace h3:puts _ 3 _ (Fq63)=_:=h3;replace h3:puts _ 4 _ (Fq63)=_:=h3;replace h3:puts _ 5 _ (Fq63)=_:=h3;replace h3:puts _ 6 _ (Fq63)=_:=h3;replace h3:puts _ 7 _ (Fq63)=_:=h3;replace h3:puts _ 8 _ (Fq63)=_:=h3;replace h3:puts _ 9 _ (Fq63)=_:=h3;replace h3:Fq63=_:=h3;unfold Fq63 at h3;subst h3;simp only[e8,e9];clear e8 e9;go_wp2_with fail
     exact qcl rfl rfl rfl rfl B9 rfl (by
      rw[HX.out];exact⟨ax,cx,rfl,HRX.out.below hJ.gro,hJ.gro⟩)
  ·have HX:Hid (∀w w' e,Head w w' e l cap=(e=.returned (.tuple #[.agg Pk.zero.cells,.slice none 0 0,errC c])∧Below w.heap.size w w')):=fun w w' e=>by
    rw[HH.out,if_pos hc]
   clear HH HL HR HM
   go_upto_region 8 with fail
   refine wp_region_list ?_;refine bu_pk Pk.zero (by kernel_rfl) ?_;go_wp2_with (first | (refine qag (q:=Pk.zero) (old:=Pk.zero) A1 rfl rfl ?_;intro w9 B9 g9) | fail)
   exact qcl rfl rfl rfl rfl B9 rfl (by
    rw[HX.out];exact⟨rfl,below_st hb g9 (Nat.le_refl _)⟩)
