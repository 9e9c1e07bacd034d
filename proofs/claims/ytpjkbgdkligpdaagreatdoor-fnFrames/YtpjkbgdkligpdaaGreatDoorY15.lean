/- Lemmas. -/
import Derived.Deep.MidRow
import Derived.Test.YtpjkbgdkligpdaaGreatDoorY13
import Derived.Test.YtpjkbgdkligpdaaGreatDoorY14
import Derived.Test.YtpjkbgdkligpdaaGreatDoorY01
set_option linter.all false
set_option maxRecDepth 100000
set_option maxHeartbeats 20000000
namespace Go.Proofs.YtpjkbgdkligpdaaGreatDoor
open Go.RowKit

theorem low_pub3 (dup:Bool) (qos:Int) (ret:Bool) (id:Int) (top:ByteArray) (b:Sl) (w:World) (hq:0≤qos∧qos≤3) :
  Calls Tryz.prog 117 #[.iface 129 (.agg (pubC dup qos ret id top b))] w fun e w'=>e=.returned (.int .i64 (pubL dup qos ret))∧Below w.heap.size w w':=by
 have i1:=qds dup 8 (by omega);have i2:=qds ret 1 (by omega);have A:Row (w.alloc (.cells (pubC dup qos ret id top b) 129)) w.heap.size (pubC dup qos ret id top b) 129:=Row.new _ _ _;have hb:Below w.heap.size w (w.alloc (.cells (pubC dup qos ret id top b) 129)):=qac _ _;unfold pubC at A hb ⊢;have h0:=qes (X:=76) Tryz.underlying129;go_enter Tryz.func117,Tryz.ntmps117;go_wp2;refine qaw (by kernel_rfl) rfl (fun i u x=>match i with
  |0=>u=.pointer (some ⟨w.heap.size,0,none⟩)
  |1=>u=.bool dup
  |2=>u=.int .i64 (bit dup 8)
  |3=>u=.pointer (some ⟨w.heap.size,1,none⟩)
  |4=>u=.int .i64 (qos)
  |5=>u=.int .i64 (2*qos)
  |6=>u=.int .i64 (bit dup 8+2*qos)
  |7=>u=.pointer (some ⟨w.heap.size,2,none⟩)
  |8=>u=.bool ret
  |9=>u=.int .i64 (bit ret 1)
  |10=>u=.int .i64 (bit dup 8+2*qos+bit ret 1)
  |11=>u=.int .i64 (bit dup 8+2*qos+bit ret 1)
  |_=>True) ?_ ?_ ?_
 ·intro i u x x' hx h
  match i,h with
  |0,h|1,h|2,h|3,h|4,h|5,h|6,h|7,h|8,h|9,h|10,h|11,h=>exact h
  |(_+12),h=>trivial
 ·intro i o a u hi hk hbu hdep;replace hdep:=qhdd hdep
  match i,hi with
  |0,hi=>cases hi;exact qggo rfl (z_fld (X:=⟨w.heap.size,0,none⟩) (Y:=⟨w.heap.size,0,none⟩) 129 _ 0 rfl (qevv hk 3 rfl rfl) (fun _=>by kernel_rfl) (qzqq rfl))
  |1,hi=>cases hi;obtain⟨z0,hz0,rfl⟩:=hdep 0 rfl;exact qggo rfl (z_ld 4 _ rfl (qab hz0) (by kernel_rfl) ((A.next hbu).cell 0 rfl) (qzqq rfl))
  |2,hi=>cases hi;obtain⟨z1,hz1,rfl⟩:=hdep 1 rfl;refine qggo rfl (qal (qak _ _ _ _ _ _ _ _ qkg (qab hz1) (rfl) (fun _=>rfl) _ _ _ _ _ _) ?_);refine (bit_i dup 8 u).mono ?_;rintro e u' ⟨rfl,hu⟩;exact⟨_,rfl,_,rfl,hu ▸ Below.refl _ _,rfl⟩
  |3,hi=>cases hi;exact qggo rfl (z_fld (X:=⟨w.heap.size,0,none⟩) (Y:=⟨w.heap.size,1,none⟩) 129 _ 1 rfl (qevv hk 3 rfl rfl) (fun _=>by kernel_rfl) (qzqq rfl))
  |4,hi=>cases hi;obtain⟨z3,hz3,rfl⟩:=hdep 3 rfl;exact qggo rfl (z_ld 3 _ rfl (qab hz3) (by kernel_rfl) ((A.next hbu).cell 1 rfl) (qzqq rfl))
  |5,hi=>cases hi;obtain⟨z4,hz4,rfl⟩:=hdep 4 rfl;exact qggo rfl (z_bin _ _ _ _ _ rfl (rfl) (qab hz4) (muli _ _ _ _ _ (by rw[qay]<;>omega)) (qzqq rfl))
  |6,hi=>cases hi;obtain⟨z2,hz2,rfl⟩:=hdep 2 rfl;obtain⟨z5,hz5,rfl⟩:=hdep 5 rfl;exact qggo rfl (z_bin _ _ _ _ _ rfl (qab hz2) (qab hz5) (addi _ _ _ _ _ (by rw[qay]<;>omega)) (qzqq rfl))
  |7,hi=>cases hi;exact qggo rfl (z_fld (X:=⟨w.heap.size,0,none⟩) (Y:=⟨w.heap.size,2,none⟩) 129 _ 2 rfl (qevv hk 3 rfl rfl) (fun _=>by kernel_rfl) (qzqq rfl))
  |8,hi=>cases hi;obtain⟨z7,hz7,rfl⟩:=hdep 7 rfl;exact qggo rfl (z_ld 4 _ rfl (qab hz7) (by kernel_rfl) ((A.next hbu).cell 2 rfl) (qzqq rfl))
  |9,hi=>cases hi;obtain⟨z8,hz8,rfl⟩:=hdep 8 rfl;refine qggo rfl (qal (qak _ _ _ _ _ _ _ _ qkg (qab hz8) (rfl) (fun _=>rfl) _ _ _ _ _ _) ?_);refine (bit_i ret 1 u).mono ?_;rintro e u' ⟨rfl,hu⟩;exact⟨_,rfl,_,rfl,hu ▸ Below.refl _ _,rfl⟩
  |10,hi=>cases hi;obtain⟨z6,hz6,rfl⟩:=hdep 6 rfl;obtain⟨z9,hz9,rfl⟩:=hdep 9 rfl;exact qggo rfl (z_bin _ _ _ _ _ rfl (qab hz6) (qab hz9) (addi _ _ _ _ _ (by rw[qay]<;>omega)) (qzqq rfl))
  |11,hi=>cases hi;obtain⟨z10,hz10,rfl⟩:=hdep 10 rfl;exact qggo rfl (qae (v:=_) (w':=u) (by first | (simp[execOp,qab hz10];done) | (simp[execOp,qab hz10];rfl)) (qzqq rfl))
  |(_+12),hi=>cases hi
 intro vs y3 b3 hG a3 h3;have gr:vs 11=.int .i64 (bit dup 8+2*qos+bit ret 1):=hG 11 (by decide);have s2:=qgl h3 rfl 11 rfl rfl;rw[gr] at s2;have hd:=(qim h3).trans (show _ = [] from rfl);clear h3 hG;go_wp2;refine bodyPost_ret (results_tmp rfl _ _ _) hd ⟨?_,bel hb b3⟩;rw[qjl s2];rfl
theorem or48b (dup:Bool) (qos:Int) (ret:Bool) (hq:0≤qos∧qos≤3):bits .or .i64 48 (pubL dup qos ret)=48+pubL dup qos ret:=by
 have h:qos=0∨qos=1∨qos=2∨qos=3:=by omega
 rcases h with rfl | rfl | rfl | rfl<;>cases dup<;>cases ret<;>decide
theorem pubL_in3 (dup:Bool) (qos:Int) (ret:Bool) (hq:0≤qos∧qos≤3):0≤pubL dup qos ret∧pubL dup qos ret≤15:=by
 unfold pubL;have:=qds dup 8 (by omega);have:=qds ret 1 (by omega);omega
theorem first_pub3 (dup:Bool) (qos:Int) (ret:Bool) (id:Int) (top:ByteArray) (b:Sl) (w:World) (hq:0≤qos∧qos≤3) :
  Calls Tryz.prog 65 #[.iface 129 (.agg (pubC dup qos ret id top b))] w fun e w'=>e=.returned (.int .u8 (48+pubL dup qos ret))∧Below w.heap.size w w':=by
 have h1:=or48b dup qos ret hq;have h2:=pubL_in3 dup qos ret hq;have h3:=fun u=>low_pub3 dup qos ret id top b u hq
 generalize pubL dup qos ret=L at h1 h2 h3 ⊢;generalize pubC dup qos ret id top b=cs at h3 ⊢;have H3:Hid (∀u:World,Calls Tryz.prog 117 #[.iface 129 (.agg cs)] u fun e u'=>e=.returned (.int .i64 L)∧Below u.heap.size u u'):=h3;clear h3;have h4:(48+L)%256=48+L:=by omega
 go_enter Tryz.func65,Tryz.ntmps65;go_wp2_with fail
 refine (qfx _ _).mono ?_;rintro e y ⟨rfl,hy⟩;rw[hy];go_wp2_with fail
 refine (H3.out _).mono ?_;rintro e y2 ⟨rfl,b2⟩;go_wp2;go_ret;exact⟨rfl,b2⟩
def fstX (x:Nat):Pk:=if x / 16=3 then fstP 3 (fl x 8) ((x:Int) / 2%4) (fl x 1) else fstP (x / 16:Nat) false 0 false
theorem fstX_pv (x:Nat):pv (fstX x) dnil=qck x:=by
 unfold fstX qck
 split<;>rfl
theorem bits8 (x:Nat) (h:x<256):(bits BinOp.and IntKind.u8 (x:Int) 8 != 0)=fl x 8∧(bits BinOp.and IntKind.u8 (x:Int) 1 != 0)=fl x 1∧wrap64 ((wrap64 (bits BinOp.and IntKind.u8 (x:Int) 6)).tdiv 2)=(x:Int) / 2%4:=by
 have hh:∀x:Fin 256,(bits BinOp.and IntKind.u8 (x.val:Int) 8 != 0)=fl x.val 8∧(bits BinOp.and IntKind.u8 (x.val:Int) 1 != 0)=fl x.val 1∧wrap64 ((wrap64 (bits BinOp.and IntKind.u8 (x.val:Int) 6)).tdiv 2)=(x.val:Int) / 2%4:=by decide +kernel
 exact hh ⟨x,h⟩
theorem fst3 (x:Nat) (h:x<256) (h3:x / 16=3):fstOk x=(decide (48+pubL (if 0<(x:Int) / 2%4 then fl x 8 else false) ((x:Int) / 2%4) (fl x 1)=(x:Int))&&inB ((x:Int) / 2%4) 0 2):=by
 have hh:∀x:Fin 256,x.val / 16=3→fstOk x.val=(decide (48+pubL (if 0<(x.val:Int) / 2%4 then fl x.val 8 else false) ((x.val:Int) / 2%4) (fl x.val 1)=(x.val:Int))&&inB ((x.val:Int) / 2%4) 0 2):=by decide +kernel
 exact hh ⟨x,h⟩ h3
def First (w w':World) (e:Ending) (x:Nat):Prop:=e=.returned (.tuple #[.agg (if fstOk x then fstX x else Pk.zero).cells,errV (!fstOk x)])∧Below w.heap.size w w'
theorem qat {w u u':World} {r:Nat} (hb:Below w.heap.size w u) (hg:u.grownBy u' (some r)) (hr:w.heap.size≤r):Below w.heap.size w u':=hb.grown hg hb.size (fun k e=>by cases e;exact hr)
theorem first_3 (x:Nat) (hx:x<256) (h3:x / 16=3) (w:World) :
  Calls Tryz.prog 149 #[.int .u8 x] w fun e w'=>First w w' e x:=by
 have hk:(x:Int) / 16=3:=by omega
 have hfo0:=fst3 x hx h3;obtain⟨e8,e1,e6⟩:=bits8 x hx;have hX3:Hid (fstX x=fstP 3 (fl x 8) ((x:Int) / 2%4) (fl x 1)):=by unfold Hid fstX;rw[if_pos h3]
 obtain⟨f8,hf8⟩ : ∃f,fl x 8=f:=⟨_,rfl⟩;obtain⟨f1,hf1⟩ : ∃f,fl x 1=f:=⟨_,rfl⟩;obtain⟨v,hv⟩ : ∃v,(x:Int) / 2%4=v:=⟨_,rfl⟩;have hv3:0≤v∧v≤3:=by omega
 rw[hf8,hf1,hv] at hfo0;rw[hf8] at e8;rw[hf1] at e1;rw[hv] at e6;rw[hf8,hf1,hv] at hX3;clear hf8 hf1 hv;have HF:Hid (∀u,Calls Tryz.prog 65 #[.iface 129 (.agg (pubOf (fstP 3 f8 v f1)))] u fun e u'=>e=.returned (.int .u8 (48+pubL (if 0<v then f8 else false) v f1))∧Below u.heap.size u u'):=fun u=>first_pub3 _ _ _ _ _ _ u hv3
 have HK:Hid (∀u,Calls Tryz.prog 63 #[.agg (fstP 3 f8 v f1).cells] u fun e u'=>e=.returned (.iface 129 (.agg (pubOf (fstP 3 f8 v f1))))∧Below u.heap.size u u'):=fun u=>qfw (fstP 3 f8 v f1) u rfl
 obtain⟨L,hL⟩ : ∃L,48+pubL (if 0<v then f8 else false) v f1=L:=⟨_,rfl⟩;rw[hL] at HF hfo0;clear hL;generalize pubOf (fstP 3 f8 v f1)=cs at HF HK;go_enter Tryz.func149,Tryz.ntmps149
 go_upto_region 2 with (first | refine qaz (p:=ofT 3) rfl rfl ?_ | refine al_pk ?_ | (refine bu_pk (ofT 3) (by kernel_rfl) ?_) | fail)
 have A2:Blk ((w.alloc (.cells Pk.zero.cells 28)).alloc (.cells (ofT 3).cells 28)) (w.heap.size+1) (ofT 3):=heap_alloc2_new _ _ _;have A1:Blk ((w.alloc (.cells Pk.zero.cells 28)).alloc (.cells (ofT 3).cells 28)) w.heap.size Pk.zero:=heap_alloc2_old _ _ _;have hb:Below w.heap.size w ((w.alloc (.cells Pk.zero.cells 28)).alloc (.cells (ofT 3).cells 28)):=((Below.refl _ _).alloc (Nat.le_refl _) _).alloc (by simp) _;generalize (w.alloc (.cells Pk.zero.cells 28)).alloc (.cells (ofT 3).cells 28)=y at *
 try simp only[World.size_alloc]
 generalize hB1:w.heap.size+1=b at *;have c0:=(A2.cell 0).trans (Pk.c0 _);replace c0:y.cell? ⟨b,0,none⟩ = some (.int .i64 (3)):=c0;have c1:=(A2.cell 1).trans (Pk.c1 _);have c2:=(A2.cell 2).trans (Pk.c2 _);have c3:=(A2.cell 3).trans (Pk.c3 _);have z1:=Lib.frozen_of_heap A2 1;have z2:=Lib.frozen_of_heap A2 2;have z3:=Lib.frozen_of_heap A2 3
 go_upto_region 4 with fail
 have A3:Blk (((y.setCell ⟨b,1,none⟩ (.bool f8)).setCell ⟨b,2,none⟩ (.int .i64 v)).setCell ⟨b,3,none⟩ (.bool f1)) b (fstP 3 f8 v f1):=qaf (qaf (qaf A2 1 _) 2 _) 3 _;have hne:w.heap.size≠b:=by omega
 have A4:Blk (((y.setCell ⟨b,1,none⟩ (.bool f8)).setCell ⟨b,2,none⟩ (.int .i64 v)).setCell ⟨b,3,none⟩ (.bool f1)) w.heap.size Pk.zero:=(Below.heap_setCell _ _ _ _ hne).trans ((Below.heap_setCell _ _ _ _ hne).trans ((Below.heap_setCell _ _ _ _ hne).trans A1));have hb3:Below w.heap.size w (((y.setCell ⟨b,1,none⟩ (.bool f8)).setCell ⟨b,2,none⟩ (.int .i64 v)).setCell ⟨b,3,none⟩ (.bool f1)):=qat (qat (qat hb (qai _ b 1 _) (by omega)) (qai _ b 2 _) (by omega)) (qai _ b 3 _) (by omega);clear c0 c1 c2 c3 z1 z2 z3 A1 A2 hb e8 e1 e6;generalize ((y.setCell ⟨b,1,none⟩ (.bool f8)).setCell ⟨b,2,none⟩ (.int .i64 v)).setCell ⟨b,3,none⟩ (.bool f1)=y3 at *;go_wp2_with (first | refine qaj A3 rfl _ rfl rfl ?_ | fail)
 refine (HK.out _).mono ?_;rintro e y4 ⟨rfl,b4⟩;replace A3:=A3.next b4;replace A4:=A4.next b4;replace hb3:=bel hb3 b4;clear b4;go_wp2_with fail
 refine (HF.out _).mono ?_;rintro e y5 ⟨rfl,b5⟩;have A2:=A3.next b5;have A1:=A4.next b5;have hb:=bel hb3 b5;clear b5 A3 A4 hb3;have c2:=(A2.cell 2).trans (Pk.c2 _);replace c2:y5.cell? ⟨b,2,none⟩ = some (.int .i64 v):=c2
 by_cases hLx:L=(x:Int)
 ·have hd:decide (L=(x:Int))=true:=decide_eq_true hLx;rw[hd,Bool.true_and] at hfo0;go_wp2_with fail
  refine (qmh v _).mono ?_;rintro e y6 ⟨rfl,rfl⟩;cases hq:inB v 0 2 with
  |true=>
   have HX:Hid (∀w w' e,First w w' e x=(e=.returned (.tuple #[.agg (fstP 3 f8 v f1).cells,errV false])∧Below w.heap.size w w')):=fun w w' e=>by unfold First;rw[hfo0,hq,←hX3.out];rfl
   clear hfo0 hq
   go_upto_region 7 with fail
   refine wp_region_list ?_;refine qaj A2 rfl _ rfl rfl ?_;go_wp2_with (first | (refine qag (q:=fstP 3 f8 v f1) (old:=Pk.zero) A1 rfl rfl ?_;intro w9 B9 g9) | fail)
   exact qer rfl rfl rfl B9 rfl (by
    rw[HX.out];exact⟨rfl,qat hb g9 (Nat.le_refl _)⟩)
  |false=>
   have HX:Hid (∀w w' e,First w w' e x=(e=.returned (.tuple #[.agg (Pk.zero).cells,errV true])∧Below w.heap.size w w')):=fun w w' e=>by unfold First;rw[hfo0,hq];rfl
   clear hfo0 hq
   go_upto_region 6 with fail
   refine wp_region_list ?_;refine bu_pk Pk.zero (by kernel_rfl) ?_;go_wp2_with (first | (refine qag (q:=Pk.zero) (old:=Pk.zero) A1 rfl rfl ?_;intro w9 B9 g9) | fail)
   exact qer rfl rfl rfl B9 rfl (by
    rw[HX.out];exact⟨rfl,qat hb g9 (Nat.le_refl _)⟩)
 ·have hd:decide (L=(x:Int))=false:=decide_eq_false hLx;rw[hd,Bool.false_and] at hfo0;have HX:Hid (∀w w' e,First w w' e x=(e=.returned (.tuple #[.agg (Pk.zero).cells,errV true])∧Below w.heap.size w w')):=fun w w' e=>by unfold First;rw[hfo0];rfl
  clear hfo0
  go_upto_region 6 with fail
  refine wp_region_list ?_;refine bu_pk Pk.zero (by kernel_rfl) ?_;go_wp2_with (first | (refine qag (q:=Pk.zero) (old:=Pk.zero) A1 rfl rfl ?_;intro w9 B9 g9) | fail)
  exact qer rfl rfl rfl B9 rfl (by
   rw[HX.out];exact⟨rfl,qat hb g9 (Nat.le_refl _)⟩)
theorem qch (x k:Nat) (hx:x<256) (h3:x / 16=k) (hk3:k≠3) (T:TypeId) (v:Value) (c:Int) (hc:0≤c∧c<256)
  (hK:∀u:World,Calls Tryz.prog 63 #[.agg (ofT (k:Nat)).cells] u fun e u'=>e=.returned (.iface T v)∧Below u.heap.size u u')
  (hF:∀u:World,Calls Tryz.prog 65 #[.iface T v] u fun e u'=>e=.returned (.int .u8 c)∧Below u.heap.size u u')
  (hfo0:fstOk x=decide (c=(x:Int))) (w:World) :
  Calls Tryz.prog 149 #[.int .u8 x] w fun e w'=>First w w' e x:=by
 have hk:(x:Int) / 16=(k:Int):=by omega
 have hkn:((k:Int)==3)=false:=by simp;omega
 have hX3:Hid (fstX x=ofT (k:Nat)):=by unfold Hid fstX;rw[if_neg (by omega),h3];rfl
 have HK:Hid (∀u:World,Calls Tryz.prog 63 #[.agg (ofT (k:Nat)).cells] u fun e u'=>e=.returned (.iface T v)∧Below u.heap.size u u'):=hK;have HF:Hid (∀u:World,Calls Tryz.prog 65 #[.iface T v] u fun e u'=>e=.returned (.int .u8 c)∧Below u.heap.size u u'):=hF;clear hK hF;go_enter Tryz.func149,Tryz.ntmps149
 go_upto_region 2 with (first | refine qaz (p:=ofT (k:Nat)) rfl rfl ?_ | refine al_pk ?_ | (refine bu_pk (ofT (k:Nat)) (by kernel_rfl) ?_) | fail)
 have A2:Blk ((w.alloc (.cells Pk.zero.cells 28)).alloc (.cells (ofT (k:Nat)).cells 28)) (w.heap.size+1) (ofT (k:Nat)):=heap_alloc2_new _ _ _;have A1:Blk ((w.alloc (.cells Pk.zero.cells 28)).alloc (.cells (ofT (k:Nat)).cells 28)) w.heap.size Pk.zero:=heap_alloc2_old _ _ _;have hb:Below w.heap.size w ((w.alloc (.cells Pk.zero.cells 28)).alloc (.cells (ofT (k:Nat)).cells 28)):=((Below.refl _ _).alloc (Nat.le_refl _) _).alloc (by simp) _;generalize (w.alloc (.cells Pk.zero.cells 28)).alloc (.cells (ofT (k:Nat)).cells 28)=y at *
 try simp only[World.size_alloc]
 generalize hB1:w.heap.size+1=b at *;have c0:=(A2.cell 0).trans (Pk.c0 _);replace c0:y.cell? ⟨b,0,none⟩ = some (.int .i64 ((k:Nat))):=c0;go_wp2_with (first | refine qaj A2 rfl _ rfl rfl ?_ | fail)
 refine (HK.out _).mono ?_;rintro e y4 ⟨rfl,b4⟩;replace A2:=A2.next b4;replace A1:=A1.next b4;replace hb:=bel hb b4;clear b4 c0;go_wp2_with fail
 refine (HF.out _).mono ?_;rintro e y5 ⟨rfl,b5⟩;replace A2:=A2.next b5;replace A1:=A1.next b5;replace hb:=bel hb b5;clear b5;have c2:=(A2.cell 2).trans (Pk.c2 _);replace c2:y5.cell? ⟨b,2,none⟩ = some (.int .i64 0):=c2
 by_cases hLx:c=(x:Int)
 ·have hd:decide (c=(x:Int))=true:=decide_eq_true hLx;rw[hd] at hfo0;go_wp2_with fail
  refine (qmh 0 _).mono ?_;rintro e y6 ⟨rfl,rfl⟩;have HX:Hid (∀w w' e,First w w' e x=(e=.returned (.tuple #[.agg (ofT (k:Nat)).cells,errV false])∧Below w.heap.size w w')):=fun w w' e=>by unfold First;rw[hfo0,←hX3.out];rfl
  clear hfo0;rw[show inB 0 0 2=true from rfl]
  go_upto_region 7 with fail
  refine wp_region_list ?_;refine qaj A2 rfl _ rfl rfl ?_;go_wp2_with (first | (refine qag (q:=ofT (k:Nat)) (old:=Pk.zero) A1 rfl rfl ?_;intro w9 B9 g9) | fail)
  exact qer rfl rfl rfl B9 rfl (by
   rw[HX.out];exact⟨rfl,qat hb g9 (Nat.le_refl _)⟩)
 ·have hd:decide (c=(x:Int))=false:=decide_eq_false hLx;rw[hd] at hfo0;have HX:Hid (∀w w' e,First w w' e x=(e=.returned (.tuple #[.agg (Pk.zero).cells,errV true])∧Below w.heap.size w w')):=fun w w' e=>by unfold First;rw[hfo0];rfl
  clear hfo0
  go_upto_region 6 with fail
  refine wp_region_list ?_;refine bu_pk Pk.zero (by kernel_rfl) ?_;go_wp2_with (first | (refine qag (q:=Pk.zero) (old:=Pk.zero) A1 rfl rfl ?_;intro w9 B9 g9) | fail)
  exact qer rfl rfl rfl B9 rfl (by
   rw[HX.out];exact⟨rfl,qat hb g9 (Nat.le_refl _)⟩)
theorem qrc (x k:Nat) (hx:x<256) (h3:x / 16=k) (hk3:k=0∨k=15) (w:World) :
  Calls Tryz.prog 149 #[.int .u8 x] w fun e w'=>First w w' e x:=by
 have hk:(x:Int) / 16=(k:Int):=by omega
 have hkn:((k:Int)==3)=false:=by simp;omega
 have hfo0:fstOk x=false:=by unfold fstOk;rw[if_pos (by omega)]
 have HK:Hid (∀u:World,Calls Tryz.prog 63 #[.agg (ofT (k:Nat)).cells] u fun e u'=>e=.returned .nilIface∧Below u.heap.size u u'):=fun u=>qti (ofT (k:Nat)) u (by show ¬(1≤(k:Int)∧(k:Int)≤14);omega)
 have HX:Hid (∀w w' e,First w w' e x=(e=.returned (.tuple #[.agg (Pk.zero).cells,errV true])∧Below w.heap.size w w')):=fun w w' e=>by unfold First;rw[hfo0];rfl
 clear hfo0;go_enter Tryz.func149,Tryz.ntmps149
 go_upto_region 2 with (first | refine qaz (p:=ofT (k:Nat)) rfl rfl ?_ | refine al_pk ?_ | (refine bu_pk (ofT (k:Nat)) (by kernel_rfl) ?_) | fail)
 have A2:Blk ((w.alloc (.cells Pk.zero.cells 28)).alloc (.cells (ofT (k:Nat)).cells 28)) (w.heap.size+1) (ofT (k:Nat)):=heap_alloc2_new _ _ _;have A1:Blk ((w.alloc (.cells Pk.zero.cells 28)).alloc (.cells (ofT (k:Nat)).cells 28)) w.heap.size Pk.zero:=heap_alloc2_old _ _ _;have hb:Below w.heap.size w ((w.alloc (.cells Pk.zero.cells 28)).alloc (.cells (ofT (k:Nat)).cells 28)):=((Below.refl _ _).alloc (Nat.le_refl _) _).alloc (by simp) _;generalize (w.alloc (.cells Pk.zero.cells 28)).alloc (.cells (ofT (k:Nat)).cells 28)=y at *
 try simp only[World.size_alloc]
 generalize hB1:w.heap.size+1=b at *;have c0:=(A2.cell 0).trans (Pk.c0 _);replace c0:y.cell? ⟨b,0,none⟩ = some (.int .i64 ((k:Nat))):=c0;go_wp2_with (first | refine qaj A2 rfl _ rfl rfl ?_ | fail)
 refine (HK.out _).mono ?_;rintro e y4 ⟨rfl,b4⟩;replace A1:=A1.next b4;replace hb:=bel hb b4;clear b4 c0
 go_upto_region 6 with fail
 refine wp_region_list ?_;refine bu_pk Pk.zero (by kernel_rfl) ?_;go_wp2_with (first | (refine qag (q:=Pk.zero) (old:=Pk.zero) A1 rfl rfl ?_;intro w9 B9 g9) | fail)
 exact qer rfl rfl rfl B9 rfl (by
  rw[HX.out];exact⟨rfl,qat hb g9 (Nat.le_refl _)⟩)
theorem first_i (x:Nat) (hx:x<256) (w:World):Calls Tryz.prog 149 #[.int .u8 x] w fun e w'=>First w w' e x:=by
 have h16:x / 16=0∨x / 16=15∨x / 16=3∨x / 16=1∨x / 16=2∨x / 16=4∨x / 16=5∨x / 16=6∨x / 16=7∨x / 16=8∨x / 16=9∨x / 16=10∨x / 16=11∨x / 16=12∨x / 16=13∨x / 16=14:=by omega
 rcases h16 with h | h | h | h | h | h | h | h | h | h | h | h | h | h | h | h
 ·exact qrc x 0 hx h (by decide) w
 ·exact qrc x 15 hx h (by decide) w
 ·exact first_3 x hx h w
 ·exact qch x 1 hx h (by decide) _ _ 16 (by decide) (fun u=>qft (ofT (1:Nat)) u rfl) (fun u=>qhh _ u) (by
   have hh:∀x:Fin 256,x.val / 16=1→fstOk x.val=decide ((16:Int)=(x.val:Int)):=by decide +kernel
   exact hh ⟨x,hx⟩ h) w
 ·exact qch x 2 hx h (by decide) _ _ 32 (by decide) (fun u=>qfs (ofT (2:Nat)) u rfl) (fun u=>qhg _ u) (by
   have hh:∀x:Fin 256,x.val / 16=2→fstOk x.val=decide ((32:Int)=(x.val:Int)):=by decide +kernel
   exact hh ⟨x,hx⟩ h) w
 ·exact qch x 4 hx h (by decide) _ _ 64 (by decide) (fun u=>qgg (ofT (4:Nat)) u rfl) (fun u=>qiq _ u) (by
   have hh:∀x:Fin 256,x.val / 16=4→fstOk x.val=decide ((64:Int)=(x.val:Int)):=by decide +kernel
   exact hh ⟨x,hx⟩ h) w
 ·exact qch x 5 hx h (by decide) _ _ 80 (by decide) (fun u=>qgh (ofT (5:Nat)) u rfl) (fun u=>qir _ u) (by
   have hh:∀x:Fin 256,x.val / 16=5→fstOk x.val=decide ((80:Int)=(x.val:Int)):=by decide +kernel
   exact hh ⟨x,hx⟩ h) w
 ·exact qch x 6 hx h (by decide) _ _ 98 (by decide) (fun u=>qgi (ofT (6:Nat)) u rfl) (fun u=>qis _ u) (by
   have hh:∀x:Fin 256,x.val / 16=6→fstOk x.val=decide ((98:Int)=(x.val:Int)):=by decide +kernel
   exact hh ⟨x,hx⟩ h) w
 ·exact qch x 7 hx h (by decide) _ _ 112 (by decide) (fun u=>qfv (ofT (7:Nat)) u rfl) (fun u=>qhj _ u) (by
   have hh:∀x:Fin 256,x.val / 16=7→fstOk x.val=decide ((112:Int)=(x.val:Int)):=by decide +kernel
   exact hh ⟨x,hx⟩ h) w
 ·exact qch x 8 hx h (by decide) _ _ 130 (by decide) (fun u=>qel (ofT (8:Nat)) u rfl) (fun u=>qgd _ u) (by
   have hh:∀x:Fin 256,x.val / 16=8→fstOk x.val=decide ((130:Int)=(x.val:Int)):=by decide +kernel
   exact hh ⟨x,hx⟩ h) w
 ·exact qch x 9 hx h (by decide) _ _ 144 (by decide) (fun u=>qgj (ofT (9:Nat)) u rfl) (fun u=>qit _ u) (by
   have hh:∀x:Fin 256,x.val / 16=9→fstOk x.val=decide ((144:Int)=(x.val:Int)):=by decide +kernel
   exact hh ⟨x,hx⟩ h) w
 ·exact qch x 10 hx h (by decide) _ _ 162 (by decide) (fun u=>qdr (ofT (10:Nat)) u rfl) (fun u=>qfj _ u) (by
   have hh:∀x:Fin 256,x.val / 16=10→fstOk x.val=decide ((162:Int)=(x.val:Int)):=by decide +kernel
   exact hh ⟨x,hx⟩ h) w
 ·exact qch x 11 hx h (by decide) _ _ 176 (by decide) (fun u=>qfb (ofT (11:Nat)) u rfl) (fun u=>qgs _ u) (by
   have hh:∀x:Fin 256,x.val / 16=11→fstOk x.val=decide ((176:Int)=(x.val:Int)):=by decide +kernel
   exact hh ⟨x,hx⟩ h) w
 ·exact qch x 12 hx h (by decide) _ _ 192 (by decide) (fun u=>qfu (ofT (12:Nat)) u rfl) (fun u=>qhi _ u) (by
   have hh:∀x:Fin 256,x.val / 16=12→fstOk x.val=decide ((192:Int)=(x.val:Int)):=by decide +kernel
   exact hh ⟨x,hx⟩ h) w
 ·exact qch x 13 hx h (by decide) _ _ 208 (by decide) (fun u=>qfa (ofT (13:Nat)) u rfl) (fun u=>qgr _ u) (by
   have hh:∀x:Fin 256,x.val / 16=13→fstOk x.val=decide ((208:Int)=(x.val:Int)):=by decide +kernel
   exact hh ⟨x,hx⟩ h) w
 ·exact qch x 14 hx h (by decide) _ _ 224 (by decide) (fun u=>qdx (ofT (14:Nat)) u rfl) (fun u=>qfy _ u) (by
   have hh:∀x:Fin 256,x.val / 16=14→fstOk x.val=decide ((224:Int)=(x.val:Int)):=by decide +kernel
   exact hh ⟨x,hx⟩ h) w

def errC (c:Int):Value:=.iface 98 (.agg #[.int .i64 c])
def Head (w w':World) (e:Ending) (b:List UInt8) (cap:Nat):Prop:=match headE b with
 |.inl c=>e=.returned (.tuple #[.agg Pk.zero.cells,.slice none 0 0,errC c])∧Below w.heap.size w w'
 |.inr (n,k)=>∃ax cx,e=.returned (.tuple #[.agg (fstX (bt b 0)).cells,.slice ax n cx,.nilIface])∧RdIn w' ax n cx ((b.drop k).take n)∧Below w.heap.size w w'
theorem qor {l:List UInt8} {a b:Int} (hl:1≤l.length) (h:getE l 1=(a,b,0)):∃m k:Nat,a=m∧b=k∧k≤l.length∧m≤268435455:=by
 unfold getE at h;rw[if_pos ⟨by omega,by omega⟩] at h;obtain⟨k,m,h1,h2,h3,h4,_⟩:=ansG_good (p:=(1:Int).toNat) (by simpa using hl) h;exact⟨m,_,h1,h3,h4,h2⟩
theorem z_slice {o:Oper} {a:Act} {w:World} {K:Act→World→Prop} {Q:Exit→Act→World→Prop} {s v1 v2 r:Value} (x y z:Operand) (ho:o.op=.slice 22 x (some y) (some z) none) (hx:a.eval x=s) (hy:a.eval y=v1) (hz:a.eval z=v2) (hr:(Instr.slice 22 s (some v1) (some v2) none).run Tryz.prog w=.ok r w) (h:K (a.put o.dst r) w):Oper.wp Tryz.prog o a w K Q :=
 qae (w':=w) (v:=r) (by unfold execOp;rw[ho];simp only[Option.map_some,Option.map_none,hx,hy,hz,Instr.sliceAt,Sem.run_bind,run_underlying Tryz.underlying22,hr,Result.andThen_ok,Sem.run_pure]) h
def R7 (r:Nat) (p:Pk) (i:Nat) (u u':World):Prop:=if i=7 then u'=u.setRow r p.cells else u'=u
structure J7 (w0:World) (r b:Nat) (p:Pk) (u:World):Prop where
 blk:Blk u b p
 res:∃p0,Blk u r p0
 gro:Below w0.heap.size w0 u
theorem J7.set {w0 u:World} {r b:Nat} {p:Pk} (h:J7 w0 r b p u) (hrb:r≠b) (hr:w0.heap.size≤r):J7 w0 r b p (u.setRow r p.cells):=by
 obtain⟨p0,h0⟩:=h.res;exact⟨(setRow_other u r b _ (fun e=>hrb e.symm)).trans h.blk,⟨p,setRow_heap u r p0.cells p.cells 28 (0,0) h0⟩,h.gro.grown (qhn u r _) h.gro.size (fun k e=>by cases e;exact hr)⟩
theorem head_i (ao:Option Addr) (n cap:Nat) (l:List UInt8) (w:World) (hr:RdIn w ao n cap l) (hn:n≤1048576) :
  Calls Tryz.prog 127 #[.slice ao n cap] w fun e w'=>Head w w' e l cap:=by
 have hl:=hr.1.1;have A1:Blk (w.alloc (.cells Pk.zero.cells 28)) w.heap.size Pk.zero:=heap_alloc_new _ _;have hb:=qac w (.cells Pk.zero.cells 28)
 by_cases h0:n=0
 ·have HX:Hid (∀w w' e,Head w w' e l cap=(e=.returned (.tuple #[.agg Pk.zero.cells,.slice none 0 0,errC 1])∧Below w.heap.size w w')):=fun w w' e=>by
   unfold Head headE;rw[if_pos (by omega)]
  subst h0;clear hl hr;go_enter Tryz.func127,Tryz.ntmps127
  go_upto_region 1 with (first | refine al_pk ?_ | fail)
  go_upto_region 2 with fail
  refine wp_region_list ?_;refine bu_pk Pk.zero (by kernel_rfl) ?_;go_wp2_with (first | (refine qag (q:=Pk.zero) (old:=Pk.zero) A1 rfl rfl ?_;intro w9 B9 g9) | fail)
  exact qcu rfl rfl rfl rfl B9 rfl (by
   rw[HX.out];exact⟨rfl,qat hb g9 (Nat.le_refl _)⟩)
 have h0':((n:Int)==0)=false:=by simp;omega
 obtain⟨b0,off,rfl,hc⟩:=hr.1.at (show 0<n by omega);have hcell:=hc 0 (by omega);have hA:(w.alloc (.cells Pk.zero.cells 28)).cell? ⟨b0,off+0,none⟩ = some (.int .u8 (bt l 0)):=by
  have hlt:b0<w.heap.size:=by
   rcases Nat.lt_or_ge b0 w.heap.size with h | h
   ·exact h
   ·simp[World.cell?,Array.getElem?_eq_none h] at hcell
  exact (hb.cell (p:=⟨b0,off+0,none⟩) hlt).trans hcell
 rw[Nat.add_zero] at hA;clear hc hcell;obtain⟨x,hx⟩ : ∃x,bt l 0=x:=⟨_,rfl⟩;have hx256:x<256:=by rw[←hx];exact bt_lt l 0
 rw[hx] at hA;have hn0:¬n=0:=h0;have H0:Hid (0<n):=Nat.pos_of_ne_zero h0;have HL:Hid (l.length=n):=hl;have HR:Hid (RdIn w (some ⟨b0,off,none⟩) n cap l):=hr;clear hr h0 hl;cases hf:fstOk x with
 |false=>
  have HX:Hid (∀w w' e,Head w w' e l cap=(e=.returned (.tuple #[.agg Pk.zero.cells,.slice none 0 0,errC 2])∧Below w.heap.size w w')):=fun w w' e=>by
   unfold Head headE;rw[if_neg (by have:=HL.out;omega),if_pos (by rw[hx];exact hf)]
  have HF:Hid (∀w w' e,First w w' e x→e=.returned (.tuple #[.agg Pk.zero.cells,.iface 98 (.agg #[.int .i64 2])])∧Below w.heap.size w w'):=fun w w' e h=>by
   unfold First at h;rw[hf] at h;exact h
  clear hf hx HL HR;go_enter Tryz.func127,Tryz.ntmps127
  go_upto_region 3 with (first | refine al_pk ?_ | fail)
  go_wp2_with fail
  refine (first_i x hx256 _).mono ?_;intro e w1 hfst;obtain⟨rfl,b1⟩:=HF.out _ _ _ hfst;clear hfst hA;replace A1:=A1.next b1;replace hb:=bel hb b1;clear b1
  go_upto_region 4 with (first | refine qaz (p:=Pk.zero) rfl rfl ?_ | fail)
  replace A1:=A1.next (qac _ (.cells Pk.zero.cells 28));replace hb:=bel hb (qac _ (.cells Pk.zero.cells 28))
  go_upto_region 5 with fail
  refine wp_region_list ?_;refine bu_pk Pk.zero (by kernel_rfl) ?_;go_wp2_with (first | (refine qag (q:=Pk.zero) (old:=Pk.zero) A1 rfl rfl ?_;intro w9 B9 g9) | fail)
  exact qcu rfl rfl rfl rfl B9 rfl (by
   rw[HX.out];exact⟨rfl,qat hb g9 (Nat.le_refl _)⟩)
 |true=>
  have HP:Hid (fstX x=fstX (bt l 0)):=by unfold Hid;rw[hx]
  have HF:Hid (∀w w' e,First w w' e x→e=.returned (.tuple #[.agg (fstX x).cells,.nilIface])∧Below w.heap.size w w'):=fun w w' e h=>by
   unfold First at h;rw[hf] at h;exact h
  have HE:Hid (l.length≠0∧¬fstOk (bt l 0)=false):=⟨by have:=HL.out;have:=H0.out;omega,by rw[hx,hf];simp⟩;clear hf;obtain⟨p,hp⟩ : ∃p,fstX x=p:=⟨_,rfl⟩;rw[hp] at HF HP;clear hp hx;obtain⟨T,hT⟩ : ∃T,getE l 1=T:=⟨_,rfl⟩;have HT:Hid (getE l 1=T):=hT;have HG:Hid (∀u:World,RdIn u (some ⟨b0,off,none⟩) n cap l→Calls Tryz.prog 19 #[.slice (some ⟨b0,off,none⟩) n cap,.int .i64 1] u fun e w'=>e=.returned (.tuple #[.int .i64 T.1,.int .i64 T.2.1,.int .i64 T.2.2])∧w'=u):=fun u hr=>by
   have:=qux (some ⟨b0,off,none⟩) n cap 1 l u hr (by omega);rw[hT] at this;exact this
  obtain⟨a,bb,c⟩:=T;have HM:Hid (c=0→∃m k:Nat,a=m∧bb=k∧k≤l.length∧m≤268435455):=fun hc=>qor (by have:=HL.out;have:=H0.out;omega) (by rw[hT,hc])
  clear hT;have hRA:=HR.out.below hb;go_enter Tryz.func127,Tryz.ntmps127
  go_upto_region 3 with (first | refine al_pk ?_ | fail)
  go_wp2_with fail
  refine (first_i x hx256 _).mono ?_;intro e w1 hfst;obtain⟨rfl,b1⟩:=HF.out _ _ _ hfst;clear hfst hA;replace A1:=A1.next b1;replace hb:=bel hb b1;replace hRA:=hRA.below b1;clear b1
  go_upto_region 4 with (first | refine qaz (p:=p) rfl rfl ?_ | fail)
  have A2:Blk (w1.alloc (.cells p.cells 28)) w1.heap.size p:=heap_alloc_new _ _;have hne:w.heap.size≠w1.heap.size:=Nat.ne_of_lt A1.lt;replace A1:=A1.next (qac _ (.cells p.cells 28));replace hRA:=hRA.below (qac _ (.cells p.cells 28));replace hb:=bel hb (qac _ (.cells p.cells 28));generalize w1.alloc (.cells p.cells 28)=y at *;generalize w1.heap.size=b at *;go_wp2_with fail
  refine (HG.out _ hRA).mono ?_;rintro e w2 ⟨rfl,rfl⟩;clear HG HF;have HH:Hid (∀w w' e,Head w w' e l cap=(match (if c≠0 then Sum.inl c else if 340<a then Sum.inl 2 else if (l.length:Int)-bb<a then Sum.inl 1 else Sum.inr (a.toNat,bb.toNat):Int ⊕ (Nat×Nat)) with
    |.inl c=>e=.returned (.tuple #[.agg Pk.zero.cells,.slice none 0 0,errC c])∧Below w.heap.size w w'
    |.inr (n,k)=>∃ax cx,e=.returned (.tuple #[.agg p.cells,.slice ax n cx,.nilIface])∧RdIn w' ax n cx ((l.drop k).take n)∧Below w.heap.size w w')):=fun w w' e=>by
   unfold Head headE;rw[if_neg HE.out.1,if_neg HE.out.2,HT.out,←HP.out]
  clear HE HT HP
  by_cases hc:c=0
  ·obtain⟨m,k,rfl,rfl,hkl,hm⟩:=HM.out hc;subst hc;clear HM;rw[HL.out] at hkl
   by_cases h340:340<m
   ·have h340':(340:Int)<m:=by omega
    have HX:Hid (∀w w' e,Head w w' e l cap=(e=.returned (.tuple #[.agg Pk.zero.cells,.slice none 0 0,errC 2])∧Below w.heap.size w w')):=fun w w' e=>by
     rw[HH.out,if_neg (by simp),if_pos h340']
    clear HH HL HR h340
    go_upto_region 10 with fail
    refine wp_region_list ?_;refine bu_pk Pk.zero (by kernel_rfl) ?_;go_wp2_with (first | (refine qag (q:=Pk.zero) (old:=Pk.zero) A1 rfl rfl ?_;intro w9 B9 g9) | fail)
    exact qcu rfl rfl rfl rfl B9 rfl (by
     rw[HX.out];exact⟨rfl,qat hb g9 (Nat.le_refl _)⟩)
   ·have h340':¬(340:Int)<m:=by omega
    by_cases hw:(n:Int)-k<m
    ·have HX:Hid (∀w w' e,Head w w' e l cap=(e=.returned (.tuple #[.agg Pk.zero.cells,.slice none 0 0,errC 1])∧Below w.heap.size w w')):=fun w w' e=>by
      rw[HH.out,if_neg (by simp),if_neg h340',if_pos (by rw[HL.out];exact hw)]
     clear HH HL HR h340
     go_upto_region 12 with fail
     refine wp_region_list ?_;refine bu_pk Pk.zero (by kernel_rfl) ?_;go_wp2_with (first | (refine qag (q:=Pk.zero) (old:=Pk.zero) A1 rfl rfl ?_;intro w9 B9 g9) | fail)
     exact qcu rfl rfl rfl rfl B9 rfl (by
      rw[HX.out];exact⟨rfl,qat hb g9 (Nat.le_refl _)⟩)
    ·have HX:Hid (∀w w' e,Head w w' e l cap=(∃ax cx,e=.returned (.tuple #[.agg p.cells,.slice ax m cx,.nilIface])∧RdIn w' ax m cx ((l.drop k).take m)∧Below w.heap.size w w')):=fun w w' e=>by
      rw[HH.out,if_neg (by simp),if_neg h340',if_neg (by rw[HL.out];exact hw)];simp
     obtain⟨ax,cx,hsl,hrx⟩:=qjr HR.out k m (by omega);have HRX:Hid (RdIn w ax m cx ((l.drop k).take m)):=hrx;clear HH HL HR h340 hrx hRA;go_wp2;refine qbt (by kernel_rfl) rfl (J7 w w.heap.size b p) ⟨A2,⟨_,A1⟩,⟨hb.os,hb.tape,hb.output,hb.size,hb.block⟩⟩ (R7 w.heap.size p) (fun i v u=>match i with
      |0=>v=.agg p.cells
      |1=>v=.slice (some ⟨b0,off,none⟩) n cap
      |2=>v=.int .i64 (k:Nat)
      |3=>v=.int .i64 (k:Nat)
      |4=>v=.int .i64 (m:Nat)
      |5=>v=.int .i64 ((k:Int)+(m:Int))
      |6=>v=.slice ax m cx
      |8=>v=.slice ax m cx
      |9=>v=.nilIface
      |_=>True) (fun i a u=>if i=7 then Blk u w.heap.size p else True) ?_ ?_ ?_ ?_ ?_
     ·intro i u u' hR hJ;unfold R7 at hR
      split at hR
      ·rw[hR];exact hJ.set hne (Nat.le_refl _)
      ·rw[hR];exact hJ
     ·intro i0 i v u u' _ hx h
      match i,h with
      |0,h|1,h|2,h|3,h|4,h|5,h|6,h|7,h|8,h|9,h=>exact h
      |(_+10),h=>trivial
     ·intro i j o oj a v u u' hi hj hne hdj hx hS
      by_cases h7:j=7
      ·rw[if_pos h7] at hS ⊢;unfold R7 at hx;rw[if_neg (by omega)] at hx;rw[hx];exact hS
      ·rw[if_neg h7];trivial
     ·intro i o a u hi hk hJ hdep
      match i,hi with
      |0,hi=>cases hi;exact (qbg hJ.blk _ rfl (qevv hk 5 rfl rfl) ⟨_,rfl,rfl,rfl,trivial⟩)
      |1,hi=>cases hi;exact (qbd _ rfl (qevv hk 0 rfl rfl) ⟨_,rfl,rfl,rfl,trivial⟩)
      |2,hi=>cases hi;exact (qbd _ rfl (qevv hk 8 rfl rfl) ⟨_,rfl,rfl,rfl,trivial⟩)
      |3,hi=>cases hi;exact (qbd _ rfl (qevv hk 8 rfl rfl) ⟨_,rfl,rfl,rfl,trivial⟩)
      |4,hi=>cases hi;exact (qbd _ rfl (qevv hk 7 rfl rfl) ⟨_,rfl,rfl,rfl,trivial⟩)
      |5,hi=>cases hi;obtain⟨z3,hz3,rfl,_⟩:=hdep 3 _ rfl rfl;replace hz3:=hz3 _ rfl;obtain⟨z4,hz4,rfl,_⟩:=hdep 4 _ rfl rfl;replace hz4:=hz4 _ rfl;exact (z_bin _ _ _ _ _ rfl (qab hz3) (qab hz4) (addi _ _ _ _ _ (by rw[qay]<;>omega)) ⟨_,rfl,rfl,rfl,trivial⟩)
      |6,hi=>cases hi;obtain⟨z1,hz1,rfl,_⟩:=hdep 1 _ rfl rfl;replace hz1:=hz1 _ rfl;obtain⟨z2,hz2,rfl,_⟩:=hdep 2 _ rfl rfl;replace hz2:=hz2 _ rfl;obtain⟨z5,hz5,rfl,_⟩:=hdep 5 _ rfl rfl;replace hz5:=hz5 _ rfl;exact (z_slice _ _ _ rfl (qab hz1) (qab hz2) (qab hz5) (hsl _) ⟨_,rfl,rfl,rfl,trivial⟩)
      |7,hi=>cases hi;obtain⟨z0,hz0,rfl,_⟩:=hdep 0 _ rfl rfl;replace hz0:=hz0 _ rfl;obtain⟨p0,h0⟩:=hJ.res;exact wp_store_row 28 _ _ rfl w.heap.size p.cells (qevv hk 2 rfl rfl) (qab hz0) 28 p0.cells h0 (infoP.trans (by rw[Pk.csize])) rfl p.ones ⟨_,rfl,rfl,trivial,setRow_heap u w.heap.size p0.cells p.cells 28 (0,0) h0⟩
      |8,hi=>cases hi;obtain⟨z6,hz6,rfl,_⟩:=hdep 6 _ rfl rfl;replace hz6:=hz6 _ rfl;exact (z_asg _ rfl (qab hz6) ⟨_,rfl,rfl,rfl,trivial⟩)
      |9,hi=>cases hi;exact (z_asg _ rfl rfl ⟨_,rfl,rfl,rfl,trivial⟩)
      |(_+10),hi=>cases hi
     intro vs u9 hJ hG a3_ h3 hS_;have B9:=hS_ 7 (by decide);rw[if_pos rfl] at B9;clear hS_;have e8:=hG 8 (by decide);replace e8:vs 8=.slice ax m cx:=e8;have e9:=hG 9 (by decide);replace e9:vs 9=.nilIface:=e9;clear hG;replace h3:puts _ 2 _ (Fq63)=_:=h3;replace h3:puts _ 4 _ (Fq63)=_:=h3;replace h3:puts _ 6 _ (Fq63)=_:=h3;replace h3:puts _ 8 _ (Fq63)=_:=h3;replace h3:Fq63=_:=h3;unfold Fq63 at h3;subst h3;simp only[e8,e9];clear e8 e9;go_wp2_with fail
     exact qcu rfl rfl rfl rfl B9 rfl (by
      rw[HX.out];exact⟨ax,cx,rfl,HRX.out.below hJ.gro,hJ.gro⟩)
  ·have HX:Hid (∀w w' e,Head w w' e l cap=(e=.returned (.tuple #[.agg Pk.zero.cells,.slice none 0 0,errC c])∧Below w.heap.size w w')):=fun w w' e=>by
    rw[HH.out,if_pos hc]
   clear HH HL HR HM
   go_upto_region 8 with fail
   refine wp_region_list ?_;refine bu_pk Pk.zero (by kernel_rfl) ?_;go_wp2_with (first | (refine qag (q:=Pk.zero) (old:=Pk.zero) A1 rfl rfl ?_;intro w9 B9 g9) | fail)
   exact qcu rfl rfl rfl rfl B9 rfl (by
    rw[HX.out];exact⟨rfl,qat hb g9 (Nat.le_refl _)⟩)

theorem Pgd.sz {p:Pk} {d:Pd} {m:Nat} (h:Pgd m p d):Psz p d:=⟨Nat.le_trans h.top (by decide),Nat.le_trans h.cli (by decide),Nat.le_trans h.wt (by decide),Nat.le_trans h.us (by decide),fun x hx=>Nat.le_trans (h.wans x hx) (by decide),fun x hx=>Nat.le_trans (h.nams x hx) (by decide)⟩
theorem Pgd.ln {p:Pk} {d:Pd} (h:Pgd 1048576 p d):Plen p 1048576:=⟨h.bod,h.wb,h.pa,h.wan,h.nam,h.cds⟩
def Good (w w':World) (e:Ending) (v:Pv) (n:Int) (x:Value):Prop:=∃p d,e=.returned (.tuple #[.agg (Pk.cells p),.int .i64 n,x])∧POwn w' w.heap.size p d∧Pgd 1048576 p d∧pv p d=v∧Below w.heap.size w w'
def Pack (w w':World) (e:Ending) (b:List UInt8):Prop:=if (getP b).2.2=0 then Good w w' e (getP b).1 (getP b).2.1 .nilIface else e=.returned (.tuple #[.agg Pk.zero.cells,.int .i64 0,errC (getP b).2.2])∧Below w.heap.size w w'
theorem POwn.low {w:World} {B B':Nat} {p:Pk} {d:Pd} (h:POwn w B p d) (hB:B'≤B):POwn w B' p d :=
 ⟨⟨h.bod.1,qbc h.bod.2 hB⟩,⟨h.wb.1,qbc h.wb.2 hB⟩,⟨h.pa.1,qbc h.pa.2 hB⟩,⟨h.wan.1,qbc h.wan.2 hB⟩,⟨h.nam.1,qbc h.nam.2 hB⟩,⟨h.cds.1,qbc h.cds.2 hB⟩,h.dis⟩
theorem qss {v:Pv} (h:v.ok=true):2≤v.bytes.length:=by
 have h1:=qhe h;have h2:1≤(lenB v.rest.length).length:=by
  have h340:=qlt h;rw[qlf (by omega)];exact (lenF_len 3 _).1
 unfold Pv.hd at h1;omega
theorem fst_tyJ {x:Nat} (hx:x<256) (h:fstOk x=true):1≤(qck x).ty∧(qck x).ty≤14:=by
 have hh:∀x:Fin 256,fstOk x.val=true→1≤(qck x.val).ty∧(qck x.val).ty≤14:=by decide +kernel
 exact hh ⟨x,hx⟩ h
theorem headE_le {b:List UInt8} {m k:Nat} (h:headE b=.inr (m,k)):m≤340∧m+k≤b.length:=by
 unfold headE at h
 repeat' split at h
 all_goals first | (cases h;done) | skip
 rename_i h0 h1 h2 h3 h4
 obtain⟨m',k',e1,e2,e3,e4⟩:=qor (l:=b) (a:=(getE b 1).1) (b:=(getE b 1).2.1) (by omega) (by
  have:(getE b 1).2.2=0:=by simpa using h2
  rw[←this])
 simp only[Sum.inr.injEq,Prod.mk.injEq] at h;omega
theorem parts_x (x:Nat) (hty:1≤(qck x).ty∧(qck x).ty≤14) (ao:Option Addr) (n cap:Nat) (l:List UInt8) (w:World) (hr:RdIn w ao n cap l) (hn:n≤1048576) :
  Calls Tryz.prog 128 #[.agg (fstX x).cells,.slice ao n cap] w fun e' w'=>Parts w w' e' (qbj (qck x) l):=by
 rw[←fstX_pv x] at hty ⊢;unfold fstX at hty ⊢
 split at hty
 ·rename_i h;rw[if_pos h];exact parts_i 3 (by decide) _ _ _ ao n cap l w hr hn
 ·rename_i h;rw[if_neg h];exact parts_i _ hty _ _ _ ao n cap l w hr hn
theorem pack_i (ao:Option Addr) (n cap:Nat) (l:List UInt8) (w:World) (hr:RdIn w ao n cap l) (hn:n≤1048576) :
  Calls Tryz.prog 81 #[.slice ao n cap] w fun e w'=>Pack w w' e l:=by
 have HL:Hid (l.length=n):=hr.1.1;have A1:Blk (w.alloc (.cells Pk.zero.cells 28)) w.heap.size Pk.zero:=heap_alloc_new _ _;have hb:=qac w (.cells Pk.zero.cells 28);have HR:Hid (RdIn w ao n cap l):=hr;have hr1:=hr.below hb;clear hr;cases hE:headE l with
 |inl c=>
  have HC:c≠0:=headE_ne hE;have hc:(getP l).2.2=c:=by unfold getP;rw[hE]
  have HX:Hid (∀w w' e,Pack w w' e l=(e=.returned (.tuple #[.agg Pk.zero.cells,.int .i64 0,errC (c)])∧Below w.heap.size w w')):=fun w w' e=>by
   unfold Pack;rw[hc,if_neg HC]
  have HD:Hid (∀w w' e,Head w w' e l cap→e=.returned (.tuple #[.agg Pk.zero.cells,.slice none 0 0,.iface 98 (.agg #[.int .i64 c])])∧Below w.heap.size w w'):=fun w w' e h=>by
   unfold Head at h;rw[hE] at h;exact h
  clear hE hc;go_enter Tryz.func81,Tryz.ntmps81
  go_upto_region 1 with (first | refine al_pk ?_ | fail)
  go_wp2_with fail
  refine (head_i ao n cap l _ hr1 hn).mono ?_;intro e w1 hh;obtain⟨rfl,b1⟩:=HD.out _ _ _ hh;clear hh HD hr1;replace A1:=A1.next b1;replace hb:=bel hb b1;clear b1
  go_upto_region 2 with (first | refine qaz (p:=Pk.zero) rfl rfl ?_ | fail)
  replace A1:=A1.next (qac _ (.cells Pk.zero.cells 28));replace hb:=bel hb (qac _ (.cells Pk.zero.cells 28))
  go_upto_region 3 with fail
  refine wp_region_list ?_;refine bu_pk Pk.zero (by kernel_rfl) ?_;go_wp2_with (first | (refine qag (q:=Pk.zero) (old:=Pk.zero) A1 rfl rfl ?_;intro w9 B9 g9) | fail)
  exact qcu rfl rfl rfl rfl B9 rfl (by
   rw[HX.out];exact⟨rfl,qat hb g9 (Nat.le_refl _)⟩)
 |inr nk=>
  obtain⟨m,k⟩:=nk;obtain⟨r,hr0⟩ : ∃r,qbj (qck (bt l 0)) ((l.drop k).take m)=r:=⟨_,rfl⟩;have HG:Hid (getP l=if r.2.2=false∧r.1.ok=true∧qeg l r.1.bytes=true then (r.1,(r.1.bytes.length:Int),0) else (Pv.zero,0,2)):=by
   unfold Hid getP;rw[hE];simp only[hr0]
  have hfo:fstOk (bt l 0)=true:=by
   unfold headE at hE
   split at hE
   ·cases hE
   split at hE
   ·cases hE
   ·rename_i h;simpa using h
  have hty:1≤(qck (bt l 0)).ty∧(qck (bt l 0)).ty≤14:=fst_tyJ (bt_lt l 0) hfo;have HD:Hid (∀w w' e,Head w w' e l cap→∃ax cx,e=.returned (.tuple #[.agg (fstX (bt l 0)).cells,.slice ax m cx,.nilIface])∧RdIn w' ax m cx ((l.drop k).take m)∧Below w.heap.size w w'):=fun w w' e h=>by
   unfold Head at h;rw[hE] at h;exact h
  have hm:m≤n:=by
   have h1:((l.drop k).take m).length≤l.length:=by rw[List.length_take,List.length_drop];omega
   have:=headE_le hE;have:=HL.out;omega
  have HPt:Hid (∀(ax:Option Addr) (cx:Nat) (u:World),RdIn u ax m cx ((l.drop k).take m)→Calls Tryz.prog 128 #[.agg (fstX (bt l 0)).cells,.slice ax m cx] u fun e' w'=>Parts u w' e' r):=fun ax cx u hu=>by
   have:=parts_x (bt l 0) hty ax m cx _ u hu (by omega);rw[hr0] at this;exact this
  clear hE hr0 hfo hty;obtain⟨p0,hp0⟩ : ∃p0,fstX (bt l 0)=p0:=⟨_,rfl⟩;rw[hp0] at HD HPt;clear hp0;generalize hfl:(l.drop k).take m=fo at *;clear hfl;go_enter Tryz.func81,Tryz.ntmps81
  go_upto_region 1 with (first | refine al_pk ?_ | fail)
  go_wp2_with fail
  refine (head_i ao n cap l _ hr1 hn).mono ?_;intro e w1 hh;obtain⟨ax,cx,rfl,hrx,b1⟩:=HD.out _ _ _ hh;clear hh HD hr1;replace A1:=A1.next b1;replace hb:=bel hb b1;clear b1
  go_upto_region 2 with (first | refine qaz (p:=p0) rfl rfl ?_ | fail)
  have A2:Blk (w1.alloc (.cells p0.cells 28)) w1.heap.size p0:=heap_alloc_new _ _;have hne:w.heap.size≠w1.heap.size:=Nat.ne_of_lt A1.lt;have hbn:w.heap.size≤w1.heap.size:=Nat.le_of_lt A1.lt;replace A1:=A1.next (qac _ (.cells p0.cells 28));replace hrx:=hrx.below (qac _ (.cells p0.cells 28));replace hb:=bel hb (qac _ (.cells p0.cells 28));generalize w1.alloc (.cells p0.cells 28)=y at *;generalize w1.heap.size=b at *
  go_upto_region 4 with fail
  refine wp_region_list ?_;refine qaj A2 rfl _ rfl rfl ?_;go_wp2_with fail
  refine (HPt.out ax cx _ hrx).mono ?_;rintro e w2 ⟨p,d,rfl,ow,gd,b2,hpd⟩;obtain⟨v,z,er⟩:=r;simp only at hpd HG ⊢;subst hpd;clear HPt hrx;replace ow:POwn w2 w.heap.size p d:=ow.low (by have:=hb.size;omega);replace A1:=A1.next b2;replace A2:=A2.next b2;replace hb:=bel hb b2;clear b2;cases er with
  |true=>
   have hc:(getP l).2.2=2:=by rw[HG.out,if_neg (by simp)]
   have HX:Hid (∀w w' e,Pack w w' e l=(e=.returned (.tuple #[.agg Pk.zero.cells,.int .i64 0,errC (2)])∧Below w.heap.size w w')):=fun w w' e=>by
    unfold Pack;rw[hc,if_neg (by decide)]
   clear hc HG;rw[show errV true=.iface 98 (.agg #[.int .i64 2]) from rfl]
   go_upto_region 6 with (first | (refine qag (q:=p) (old:=p0) A2 rfl rfl ?_;intro w3 A3 g3) | fail)
   replace A1:Blk w3 w.heap.size Pk.zero:=(g3.block w.heap.size A1.lt (fun e=>hne (by simpa using e))).trans A1;replace hb:=qat hb g3 hbn
   go_upto_region 6 with fail
   refine wp_region_list ?_;refine bu_pk Pk.zero (by kernel_rfl) ?_;go_wp2_with (first | (refine qag (q:=Pk.zero) (old:=Pk.zero) A1 rfl rfl ?_;intro w9 B9 g9) | fail)
   exact qcu rfl rfl rfl rfl B9 rfl (by
    rw[HX.out];exact⟨rfl,qat hb g9 (Nat.le_refl _)⟩)
  |false=>
   rw[show errV false=.nilIface from rfl]
   go_upto_region 7 with (first | (refine qag (q:=p) (old:=p0) A2 rfl rfl ?_;intro w3 A3 g3) | fail)
   replace A1:Blk w3 w.heap.size Pk.zero:=(g3.block w.heap.size A1.lt (fun e=>hne (by simpa using e))).trans A1;replace ow:=ow.grown g3 (fun k e=>by cases e;exact ow.ne A2);replace hb:=qat hb g3 hbn;clear A2 g3;refine wp_region_list ?_;refine qaj A3 rfl _ rfl rfl ?_;go_wp2_with fail
   refine (qkk p d _ ow.rd gd.sz gd.ln).mono ?_;rintro e w4 ⟨a4,n4,c4,rfl,O4,b4⟩;replace A1:=A1.next b4;replace A3:=A3.next b4;replace ow:=ow.below b4;replace hb:=bel hb b4;clear b4;cases hok:(pv p d).ok with
   |false=>
    have hn4:n4=0:=by have:=O4.1;rw[qoa hok] at this;exact this.symm
    have hc:(getP l).2.2=2:=by rw[HG.out,if_neg (by simp[hok])]
    have HX:Hid (∀w w' e,Pack w w' e l=(e=.returned (.tuple #[.agg Pk.zero.cells,.int .i64 0,errC (2)])∧Below w.heap.size w w')):=fun w w' e=>by
     unfold Pack;rw[hc,if_neg (by decide)]
    clear hc HG hok O4;subst hn4
    go_upto_region 9 with fail
    refine wp_region_list ?_;refine bu_pk Pk.zero (by kernel_rfl) ?_;go_wp2_with (first | (refine qag (q:=Pk.zero) (old:=Pk.zero) A1 rfl rfl ?_;intro w9 B9 g9) | fail)
    exact qcu rfl rfl rfl rfl B9 rfl (by
     rw[HX.out];exact⟨rfl,qat hb g9 (Nat.le_refl _)⟩)
   |true=>
    have hpos:=qss hok;have hn4:((n4:Int)==0)=false:=by have:=O4.1;simp;omega
    have hrl:=HR.out.below hb;go_wp2_with fail
    refine (qqz ao a4 n cap n4 c4 l (pv p d).bytes _ hrl O4.rd).mono ?_;rintro e w5 ⟨rfl,rfl⟩;cases hbg:qeg l (pv p d).bytes with
    |false=>
     have hc:(getP l).2.2=2:=by rw[HG.out,if_neg (by simp[hbg])]
     have HX:Hid (∀w w' e,Pack w w' e l=(e=.returned (.tuple #[.agg Pk.zero.cells,.int .i64 0,errC (2)])∧Below w.heap.size w w')):=fun w w' e=>by
      unfold Pack;rw[hc,if_neg (by decide)]
     clear hc HG hok O4 hrl
     go_upto_region 9 with fail
     refine wp_region_list ?_;refine bu_pk Pk.zero (by kernel_rfl) ?_;go_wp2_with (first | (refine qag (q:=Pk.zero) (old:=Pk.zero) A1 rfl rfl ?_;intro w9 B9 g9) | fail)
     exact qcu rfl rfl rfl rfl B9 rfl (by
      rw[HX.out];exact⟨rfl,qat hb g9 (Nat.le_refl _)⟩)
    |true=>
     have hN:Hid (((pv p d).bytes.length:Int)=n4):=by unfold Hid;rw[O4.1]
     have hg:getP l=(pv p d,((pv p d).bytes.length:Int),0):=by rw[HG.out,if_pos (by simp[hok,hbg])]
     have HX:Hid (∀w w' e,Pack w w' e l=Good w w' e (pv p d) n4 .nilIface):=fun w w' e=>by
      unfold Pack;rw[hg,if_pos rfl,hN.out]
     clear hg HG hrl
     go_upto_region 10 with fail
     refine wp_region_list ?_;refine qaj A3 rfl _ rfl rfl ?_;go_wp2_with (first | (refine qag (q:=p) (old:=Pk.zero) A1 rfl rfl ?_;intro w9 B9 g9) | fail)
     exact qcu rfl rfl rfl rfl B9 rfl (by
      rw[HX.out];exact⟨p,d,rfl,ow.grown g9 (fun k e=>by cases e;exact ow.ne A1),gd,rfl,qat hb g9 (Nat.le_refl _)⟩)
theorem as_hit2 (c old:Int) (t:Nat) (w:World) (hg:ErrTy w) (ht:Row w t #[.int .i64 old] 98) :
  Calls Tryz.prog 82 #[.iface 98 (.agg #[.int .i64 c]),.iface 100 (.pointer (some ⟨t,0,none⟩))] w fun ev w'=>ev=.returned (.bool true)∧Row w' t #[.int .i64 c] 98∧w.grownBy w' (some t):=by
 refine (as_hit c old t w hg ht).mono ?_;rintro e w' ⟨rfl,rfl⟩;have hb:=bel (bel (bel (qac w (.cells #[.pointer (some ⟨t,0,none⟩)] 100)) (qac _ (.cells #[.pointer (some ⟨5,100,none⟩),.pointer (some ⟨w.heap.size,0,none⟩),.int .u64 150] 166))) (qac _ (.cells #[.pointer (some ⟨5,100,none⟩),.pointer (some ⟨w.heap.size,0,none⟩),.int .u64 150] 166))) (qac _ (.cells #[.int .i64 c] 98));exact⟨rfl,setRow_heap _ t #[.int .i64 old] _ 98 (0,0) (ht.next hb),qap (qdv hb) (qhn _ t _)⟩
def R4 (r i:Nat) (u u':World):Prop:=if i=3 then u'=u.setRow r Pk.zero.cells else u'=u
structure J4 (w0:World) (r t:Nat) (c:Int) (u:World):Prop where
 tar:Row u t #[.int .i64 c] 98
 res:∃p0,Blk u r p0
 gro:Below w0.heap.size w0 u
theorem J4.set {w0 u:World} {r t:Nat} {c:Int} (h:J4 w0 r t c u) (htr:t≠r) (hr:w0.heap.size≤r):J4 w0 r t c (u.setRow r Pk.zero.cells):=by
 obtain⟨p0,h0⟩:=h.res;exact⟨(setRow_other u r t _ htr).trans h.tar,⟨Pk.zero,setRow_heap u r p0.cells Pk.zero.cells 28 (0,0) h0⟩,h.gro.grown (qhn u r _) h.gro.size (fun k e=>by cases e;exact hr)⟩
theorem build_zero (u:World):(Instr.build 28 #[]).run Tryz.prog u=.ok (.agg Pk.zero.cells) u:=by kernel_rfl
theorem z_buildZ {o:Oper} {a:Act} {w:World} {K:Act→World→Prop} {Q:Exit→Act→World→Prop} (ho:o.op=.build 28 #[]) (h:K (a.put o.dst (.agg Pk.zero.cells)) w):Oper.wp Tryz.prog o a w K Q :=
 qae (w':=w) (v:=.agg Pk.zero.cells) (by unfold execOp;rw[ho];simp only[List.map_toArray,List.map_nil,Sem.run_bind,build_zero,Result.andThen_ok,Sem.run_pure]) h
def Got (w w':World) (e:Ending) (b:List UInt8):Prop:=Good w w' e (getP b).1 (getP b).2.1 (.int .i64 (getP b).2.2)
theorem qtb {w w':World} {c:Int} (hb:Below w.heap.size w w'):Good w w' (.returned (.tuple #[.agg Pk.zero.cells,.int .i64 0,.int .i64 c])) Pv.zero 0 (.int .i64 c) :=
 ⟨Pk.zero,dnil,rfl,own_nils w' w.heap.size 0 false 0 false,gd_nils 0 false 0 false,rfl,hb⟩
theorem get_i (ao:Option Addr) (n cap:Nat) (l:List UInt8) (w:World) (hr:RdIn w ao n cap l) (hn:n≤1048576) (hT:ErrTy w) :
  Calls Tryz.prog 24 #[.slice ao n cap] w fun e w'=>Got w w' e l:=by
 have A1:Blk (w.alloc (.cells Pk.zero.cells 28)) w.heap.size Pk.zero:=heap_alloc_new _ _;have hb:=qac w (.cells Pk.zero.cells 28);have hr1:=hr.below hb;have hTl:1<w.heap.size:=by
  unfold ErrTy at hT
  rcases Nat.lt_or_ge 1 w.heap.size with h | h
  ·exact h
  ·simp[World.cell?,Array.getElem?_eq_none h] at hT
 clear hr;cases hg:getP l with
 |mk v nc=>
  obtain⟨nn,c⟩:=nc
  by_cases hc:c=0
  ·subst hc;have HX:Hid (∀w w' e,Got w w' e l=Good w w' e v nn (.int .i64 0)):=fun w w' e=>by unfold Got;rw[hg]
   have HD:Hid (∀w w' e,Pack w w' e l→Good w w' e v nn .nilIface):=fun w w' e h=>by
    unfold Pack at h;rw[hg,if_pos rfl] at h;exact h
   clear hg hT;go_enter Tryz.func24,Tryz.ntmps24
   go_upto_region 1 with (first | refine al_pk ?_ | fail)
   go_wp2_with fail
   refine (pack_i ao n cap l _ hr1 hn).mono ?_;intro e w1 hh;obtain⟨p,d,rfl,ow,gd,hpd,b1⟩:=HD.out _ _ _ hh;clear hh HD hr1;replace ow:POwn w1 w.heap.size p d:=ow.low (by have:=hb.size;omega);replace A1:=A1.next b1;replace hb:=bel hb b1;clear b1
   go_upto_region 2 with (first | refine qaz (p:=p) rfl rfl ?_ | fail)
   have A2:Blk (w1.alloc (.cells p.cells 28)) w1.heap.size p:=heap_alloc_new _ _;replace A1:=A1.next (qac _ (.cells p.cells 28));replace ow:=ow.below (qac _ (.cells p.cells 28));replace hb:=bel hb (qac _ (.cells p.cells 28));generalize w1.alloc (.cells p.cells 28)=y at *;generalize w1.heap.size=b at *;go_wp2_with fail
   refine (as_nil _ _).mono ?_;rintro e w2 ⟨rfl,hw2⟩;have b2:=qac y (.cells #[.int .i64 0] 98);rw[hw2];clear hw2;replace A1:=A1.next b2;replace A2:=A2.next b2;replace ow:=ow.below b2;replace hb:=bel hb b2;clear b2;generalize y.alloc (.cells #[.int .i64 0] 98)=y2 at *
   go_upto_region 5 with fail
   refine wp_region_list ?_;refine qaj A2 rfl _ rfl rfl ?_;go_wp2_with (first | (refine qag (q:=p) (old:=Pk.zero) A1 rfl rfl ?_;intro w9 B9 g9) | fail)
   exact qcu rfl rfl rfl rfl B9 rfl (by
    rw[HX.out];exact⟨p,d,rfl,ow.grown g9 (fun k e=>by cases e;exact ow.ne A1),gd,hpd,qat hb g9 (Nat.le_refl _)⟩)
  ·obtain⟨rfl,rfl,hc12⟩:=qob hg hc;have HX:Hid (∀w w',Got w w' (.returned (.tuple #[.agg Pk.zero.cells,.int .i64 0,.int .i64 c])) l=(True∧Below w.heap.size w w')):=fun w w'=>by
    unfold Got;rw[hg];exact propext ⟨fun h=>⟨trivial,h.choose_spec.choose_spec.2.2.2.2⟩,fun h=>qtb h.2⟩
   have HD:Hid (∀w w' e,Pack w w' e l→e=.returned (.tuple #[.agg Pk.zero.cells,.int .i64 0,.iface 98 (.agg #[.int .i64 c])])∧Below w.heap.size w w'):=fun w w' e h=>by
    unfold Pack at h;rw[hg,if_neg hc] at h;exact h
   clear hg hc hc12;go_enter Tryz.func24,Tryz.ntmps24
   go_upto_region 1 with (first | refine al_pk ?_ | fail)
   go_wp2_with fail
   refine (pack_i ao n cap l _ hr1 hn).mono ?_;intro e w1 hh;obtain⟨rfl,b1⟩:=HD.out _ _ _ hh;clear hh HD hr1;replace A1:=A1.next b1;replace hb:=bel hb b1;clear b1
   go_upto_region 2 with (first | refine qaz (p:=Pk.zero) rfl rfl ?_ | fail)
   replace A1:=A1.next (qac _ (.cells Pk.zero.cells 28));replace hb:=bel hb (qac _ (.cells Pk.zero.cells 28));generalize w1.alloc (.cells Pk.zero.cells 28)=y at *;generalize w1.heap.size=b at *;have T2:Row (y.alloc (.cells #[.int .i64 0] 98)) y.heap.size #[.int .i64 0] 98:=Row.new _ _ _;have hTy:=(hT.below hb hTl).below (qac y (.cells #[.int .i64 0] 98)) (Nat.lt_of_lt_of_le hTl hb.size);have htr:y.heap.size≠w.heap.size:=Nat.ne_of_gt A1.lt;have htn:w.heap.size≤y.heap.size:=Nat.le_of_lt A1.lt;replace A1:=A1.next (qac y (.cells #[.int .i64 0] 98));replace hb:=bel hb (qac y (.cells #[.int .i64 0] 98));go_wp2_with fail
   generalize hy:y.alloc (.cells #[.int .i64 0] 98)=y2 at *;clear hy;generalize y.heap.size=t at *;refine (as_hit2 c 0 t y2 hTy T2).mono ?_;rintro e w3 ⟨rfl,T3,g3⟩;replace A1:Blk w3 w.heap.size Pk.zero:=(g3.block w.heap.size A1.lt (fun e=>htr (by simpa using e.symm))).trans A1;replace hb:=qat hb g3 htn;clear T2 hTy g3;have T2:=T3;clear T3;go_wp2;refine qbt (by kernel_rfl) rfl (J4 w w.heap.size t c) ⟨T2,⟨_,A1⟩,⟨hb.os,hb.tape,hb.output,hb.size,hb.block⟩⟩ (R4 w.heap.size) (fun i v u=>match i with
    |0=>v=.agg Pk.zero.cells
    |1=>v=.pointer (some ⟨t,0,none⟩)
    |2=>v=.int .i64 c
    |4=>v=.int .i64 0
    |5=>v=.int .i64 c
    |_=>True) (fun i a u=>if i=3 then Blk u w.heap.size Pk.zero else True) ?_ ?_ ?_ ?_ ?_
   ·intro i u u' hR hJ;unfold R4 at hR
    split at hR
    ·rw[hR];exact hJ.set htr (Nat.le_refl _)
    ·rw[hR];exact hJ
   ·intro i0 i v u u' _ hx h
    match i,h with
    |0,h|1,h|2,h|3,h|4,h|5,h=>exact h
    |(_+6),h=>trivial
   ·intro i j o oj a v u u' hi hj hne hdj hx hS
    by_cases h3:j=3
    ·rw[if_pos h3] at hS ⊢;unfold R4 at hx;rw[if_neg (by omega)] at hx;rw[hx];exact hS
    ·rw[if_neg h3];trivial
   ·intro i o a u hi hk hJ hdep
    match i,hi with
    |0,hi=>cases hi;exact (z_buildZ rfl ⟨_,rfl,rfl,rfl,trivial⟩)
    |1,hi=>cases hi;exact (z_fld (X:=⟨t,0,none⟩) (Y:=⟨t,0,none⟩) 98 _ 0 rfl (qevv hk 8 rfl rfl) (fun _=>by kernel_rfl) ⟨_,rfl,rfl,rfl,trivial⟩)
    |2,hi=>cases hi;obtain⟨z1,hz1,rfl,_⟩:=hdep 1 _ rfl rfl;replace hz1:=hz1 _ rfl;exact (z_ld 3 _ rfl (qab hz1) (by kernel_rfl) (hJ.tar.cell 0 rfl) ⟨_,rfl,rfl,rfl,trivial⟩)
    |3,hi=>cases hi;obtain⟨z0,hz0,rfl,_⟩:=hdep 0 _ rfl rfl;replace hz0:=hz0 _ rfl;obtain⟨p0,h0⟩:=hJ.res;exact wp_store_row 28 _ _ rfl w.heap.size Pk.zero.cells (qevv hk 2 rfl rfl) (qab hz0) 28 p0.cells h0 (infoP.trans (by rw[Pk.csize])) rfl Pk.zero.ones ⟨_,rfl,rfl,trivial,setRow_heap u w.heap.size p0.cells Pk.zero.cells 28 (0,0) h0⟩
    |4,hi=>cases hi;exact (z_asg _ rfl rfl ⟨_,rfl,rfl,rfl,trivial⟩)
    |5,hi=>cases hi;obtain⟨z2,hz2,rfl,_⟩:=hdep 2 _ rfl rfl;replace hz2:=hz2 _ rfl;exact (z_asg _ rfl (qab hz2) ⟨_,rfl,rfl,rfl,trivial⟩)
    |(_+6),hi=>cases hi
   intro vs u9 hJ hG a3_ h3 hS_;have B9:=hS_ 3 (by decide);rw[if_pos rfl] at B9;clear hS_;have e4:=hG 4 (by decide);replace e4:vs 4=.int .i64 0:=e4;have e5:=hG 5 (by decide);replace e5:vs 5=.int .i64 c:=e5;clear hG;replace h3:puts _ 2 _ (Fq23)=_:=h3;replace h3:puts _ 4 _ (Fq23)=_:=h3;replace h3:Fq23=_:=h3;unfold Fq23 at h3;subst h3;simp only[e4,e5];clear e4 e5;go_wp2_with fail
   exact qcu (v2:=.int .i64 0) (v3:=.int .i64 c) rfl rfl rfl rfl B9 rfl (by
    rw[HX.out];exact⟨trivial,hJ.gro⟩)

abbrev PL:=List (Pk×Pd)
def pks (l:PL):List Pk:=l.map Prod.fst
def pvs (l:PL):List Pv:=l.map fun x=>pv x.1 x.2
def pk (l:PL) (i:Nat):Pk:=(l.getD i (Pk.zero,dnil)).1
def pd (l:PL) (i:Nat):Pd:=(l.getD i (Pk.zero,dnil)).2
theorem pk_mem {l:PL} {i:Nat} (h:i<l.length):(pk l i,pd l i)∈l:=by
 have e:(pk l i,pd l i)=l[i]'h:=by simp[pk,pd,List.getD_eq_getElem?_getD,List.getElem?_eq_getElem h]
 rw[e];exact List.getElem_mem h
theorem qmq (l:PL):(pks l).length=l.length:=by simp[pks]
theorem pvs_length (l:PL):(pvs l).length=l.length:=by simp[pvs]
theorem pks_app (a b:PL):pks (a++b)=pks a++pks b:=by simp[pks]
theorem qvj (a b:PL):pvs (a++b)=pvs a++pvs b:=by simp[pvs]
theorem pks_at (l:PL) (i:Nat):(pks l).getD i Pk.zero=pk l i:=by
 simp only[pks,pk,List.getD_eq_getElem?_getD,List.getElem?_map];cases l[i]?<;>rfl
theorem pvs_at (l:PL) (i:Nat) (h:i<l.length):(pvs l)[i]? = some (pv (pk l i) (pd l i)):=by
 simp[pvs,pk,pd,List.getD_eq_getElem?_getD,List.getElem?_eq_getElem h]
theorem pvs_take (l:PL) (i:Nat) (h:i<l.length):pvs (l.take (i+1))=pvs (l.take i)++[pv (pk l i) (pd l i)]:=by
 rw[List.take_succ_eq_append_getElem h,qvj];simp[pvs,pk,pd,List.getD_eq_getElem?_getD,List.getElem?_eq_getElem h]
theorem qkx {w w':World} {b o:Nat} {cs:List Value} (h:w.rangeAt b o cs) (hb:Below w.heap.size w w'):w'.rangeAt b o cs:=fun j v hv=>
 (hb.cell (p:=⟨b,o+j,none⟩) (World.block_lt_of_cell? w _ (h j v hv))).trans (h j v hv)
def QRd (w:World) (ao:Option Addr) (n cap:Nat) (l:PL):Prop :=
 (l.length=n∧∀i,i<n→∃b off,ao=some ⟨b,off,none⟩∧w.rangeAt b (off+i*25) (pk l i).cells.toList)∧(∀x∈l,PRd w x.1 x.2)∧n≤cap∧cap≤maxLen∧(ao=none→cap=0)
theorem QRd.below {w w':World} {ao:Option Addr} {n cap:Nat} {l:PL} (h:QRd w ao n cap l) (hb:Below w.heap.size w w'):QRd w' ao n cap l:=by
 refine⟨⟨h.1.1,fun i hi=>?_⟩,fun x hx=>(h.2.1 x hx).below hb,h.2.2⟩;obtain⟨b,off,e,hr⟩:=h.1.2 i hi;exact⟨b,off,e,qkx hr hb⟩
theorem POwnR.rd {w:World} {B:Nat} {ao:Option Addr} {n cap:Nat} {l:PL} (h:POwnR w B ao n cap (pks l)) (hp:∀x∈l,PRd w x.1 x.2):QRd w ao n cap l:=by
 obtain⟨hl,h1,h2⟩:=h;rw[qmq] at hl
 rcases h2 with ⟨e,_⟩ | ⟨g,c,cur,e,hb,hg,hc,hm,hs,ht⟩
 ·simp only[Value.slice.injEq] at e;obtain⟨rfl,rfl,rfl⟩:=e;exact⟨⟨hl,fun i hi=>by omega⟩,hp,Nat.le_refl _,Nat.zero_le _,fun _=>rfl⟩
 ·simp only[Value.slice.injEq] at e;obtain⟨rfl,_,rfl⟩:=e;refine⟨⟨hl,fun i hi=>⟨g,0,rfl,fun j v hv=>?_⟩⟩,hp,hc,hm,fun h=>by simp at h⟩;have own:w.ownsRow B 28 25 (.slice (some ⟨g,0,none⟩) n cap) n (pvals (pks l)):=⟨h1,.inr ⟨g,cap,cur,rfl,hb,hg,hc,hm,hs,ht⟩⟩;have hj:j<25:=by
   have:=(List.getElem?_eq_some_iff.1 hv).1
   rwa [qfc] at this
  rw[Nat.zero_add,own.cellAt (i*25+j) (by omega),pvals_at _ i j (by rw[qmq];omega) hj,pks_at];rw[←hv];simp
structure QOwn (w:World) (B:Nat) (ao:Option Addr) (n cap:Nat) (l:PL):Prop where
 row:POwnR w B ao n cap (pks l)
 own:∀x∈l,POwn w B x.1 x.2
 dis:l.Pairwise fun x y=>∀k,x.1.has k→¬y.1.has k
theorem QOwn.rd {w:World} {B:Nat} {ao:Option Addr} {n cap:Nat} {l:PL} (h:QOwn w B ao n cap l):QRd w ao n cap l:=h.row.rd fun x hx=>(h.own x hx).rd
theorem QOwn.len {w:World} {B:Nat} {ao:Option Addr} {n cap:Nat} {l:PL} (h:QOwn w B ao n cap l):l.length=n:=by
 rw[←h.row.1,qmq]
theorem QOwn.nil (w:World) (B:Nat):QOwn w B none 0 0 []:=⟨POwnR.nil w B,fun x h=>(by cases h),List.Pairwise.nil⟩
theorem QOwn.below {w w':World} {B:Nat} {ao:Option Addr} {n cap:Nat} {l:PL} (h:QOwn w B ao n cap l) (hb:Below w.heap.size w w'):QOwn w' B ao n cap l :=
 ⟨h.row.below hb,fun x hx=>(h.own x hx).below hb,h.dis⟩
theorem QOwn.mono {w:World} {B B':Nat} {ao:Option Addr} {n cap:Nat} {l:PL} (h:QOwn w B ao n cap l) (hB:B'≤B):QOwn w B' ao n cap l :=
 ⟨⟨h.row.1,qbc h.row.2 hB⟩,fun x hx=>(h.own x hx).low hB,h.dis⟩
theorem POwnR.lt {w:World} {B:Nat} {ao:Option Addr} {n cap:Nat} {ps:List Pk} (h:POwnR w B ao n cap ps) {a:Addr} (e:ao=some a):B≤a.block∧a.block<w.heap.size:=by
 subst e;exact h.2.lt _ rfl
theorem POwnR.grown {w w':World} {B:Nat} {ao:Option Addr} {n cap:Nat} {ps:List Pk} {row:Option Nat} (h:POwnR w B ao n cap ps) (hg:w.grownBy w' row) (hne:∀a,ao=some a→some a.block≠row):POwnR w' B ao n cap ps:=by
 refine⟨h.1,h.2.kept hg ?_⟩;cases ao with
 |none=>exact .inl rfl
 |some a=>exact .inr (hne a rfl)
theorem QOwn.cur {w w':World} {B g:Nat} {ao:Option Addr} {n cap:Nat} {l:PL} (h:QOwn w B ao n cap l) (hB:g<B) (hg:w.grownBy w' (some g)):QOwn w' B ao n cap l :=
 ⟨h.row.grown hg (fun a e he=>by cases he;have:=(h.row.lt e).1;omega),fun x hx=>(h.own x hx).grown hg (fun k e hk=>by cases e;have:=((h.own x hx).lt hk).1;omega),h.dis⟩
theorem POwn.neR {w:World} {B:Nat} {p:Pk} {d:Pd} {b:Nat} {cs:Array Value} (h:POwn w B p d) (hb:w.heap[b]? = some (.cells cs 28)):¬p.has b:=by
 rintro ⟨a,ha,hab⟩;simp only[List.mem_cons,List.not_mem_nil,or_false] at ha
 rcases ha with ha | ha | ha | ha | ha | ha
 ·have hh:=h.bod.2;rw[←ha] at hh;obtain⟨cur,hc⟩:=qbl hh;exact ty_ne hc hb (by decide) hab
 ·have hh:=h.wb.2;rw[←ha] at hh;obtain⟨cur,hc⟩:=qbl hh;exact ty_ne hc hb (by decide) hab
 ·have hh:=h.pa.2;rw[←ha] at hh;obtain⟨cur,hc⟩:=qbl hh;exact ty_ne hc hb (by decide) hab
 ·have hh:=h.wan.2;rw[←ha] at hh;obtain⟨cur,hc⟩:=qbl hh;exact ty_ne hc hb (by decide) hab
 ·have hh:=h.nam.2;rw[←ha] at hh;obtain⟨cur,hc⟩:=qbl hh;exact ty_ne hc hb (by decide) hab
 ·have hh:=h.cds.2;rw[←ha] at hh;obtain⟨cur,hc⟩:=qbl hh;exact ty_ne hc hb (by decide) hab
theorem POwn.rowed {w w':World} {B B2:Nat} {p:Pk} {d:Pd} {ao:Option Addr} {n cap:Nat} {ps:List Pk} (h:POwn w B p d) (hR:POwnR w B2 ao n cap ps) (hg:w.grownBy w' (Value.slice ao n cap).ownBlock):POwn w' B p d:=by
 refine h.grown hg fun k e=>?_
 cases ao with
 |none=>simp[Value.ownBlock] at e
 |some a=>
  obtain rfl:a.block=k:=by simpa[Value.ownBlock] using e
  obtain⟨cur,hc⟩:=qbl hR.2;exact h.neR hc
theorem w_qapp {ops:Array Oper} {rest:List Oper} {o:Oper} {a:Act} {Q:Exit→Act→World→Prop} (w:World) (hgd:o.guard=none) (s x:Operand)
  (ho:o.op=.call { callee:=.builtin .append,args:=#[s,x],argTypes:=#[44,44] })
  (B:Nat) (ao:Option Addr) (n cap:Nat) (l:PL) (hs:a.eval s=.slice ao n cap) (hown:QOwn w B ao n cap l)
  (ad:Nat) (u:Pk) (du:Pd) (hx:a.eval x=.slice (some ⟨ad,0,none⟩) 1 1) (hc:Blk w ad u) (hu:POwn w B u du) (hsep:∀x∈l,∀k,x.1.has k→¬u.has k) (hb:n<10737418240) (hB:B≤w.heap.size)
  (h:∀ao' cap' w',QOwn w' B ao' (n+1) cap' (l++[(u,du)])→w.grownBy w' (Value.slice ao n cap).ownBlock→wpList Tryz.prog ops Q rest (a.put o.dst (.slice ao' (n+1) cap')) w') :
  wpList Tryz.prog ops Q (o :: rest) a w:=by
 refine w_papp w hgd s x ho B ao n cap (pks l) hs hown.row ad u hx hc hb hB ?_;intro ao' cap' w' hr hg;refine h ao' cap' w' ⟨?_,?_,?_⟩ hg
 ·rw[pks_app];exact hr
 ·intro y hy;rw[List.mem_append] at hy
  rcases hy with hy | hy
  ·exact (hown.own y hy).rowed hown.row hg
  ·obtain rfl:y=(u,du):=by simpa using hy
   exact hu.rowed hown.row hg
 ·rw[List.pairwise_append];refine⟨hown.dis,List.pairwise_singleton _ _,fun x hx y hy=>?_⟩;obtain rfl:y=(u,du):=by simpa using hy
  exact hsep x hx
theorem qpx {w w1 w2:World} {B:Nat} {ao:Option Addr} {n cap:Nat} {ps:List Pk} (hb:Below B w w1) (hB:B≤w1.heap.size) (ho:POwnR w1 B ao n cap ps) (hg:w1.grownBy w2 (Value.slice ao n cap).ownBlock):Below B w w2 :=
 hb.grown hg hB (fun k e=>by
  cases ao with
  |none=>simp[Value.ownBlock] at e
  |some a=>
   obtain rfl:a.block=k:=by simpa[Value.ownBlock] using e
   exact (ho.lt rfl).1)
theorem mkp1 (p:Pk) (u:World):(Instr.buildSlice 44 1 #[(0,.agg p.cells)]).run Tryz.prog u=.ok (.slice (some ⟨u.heap.size,0,none⟩) 1 1) (u.alloc (.cells p.cells 28)):=by kernel_rfl
theorem qls (w:World):QOwn (w.alloc (.cells #[] 28)) w.heap.size (some ⟨w.heap.size,0,none⟩) 0 0 [] :=
 ⟨⟨rfl,World.ownsRow_made w #[] 0 (Nat.le_refl _) (Nat.zero_le _) (by simp)⟩,fun x h=>(by cases h),List.Pairwise.nil⟩
theorem load_mid {ops:Array Oper} {rest:List Oper} {o:Oper} {a:Act} {w:World} {Q:Exit→Act→World→Prop} {b i:Nat} {p:Pk} (hB:w.rangeAt b i p.cells.toList) (hw:Region.wanted o (yielded ops a.tmps)=true) (x:Operand) (ho:o.op=.load 28 x)
  (hx:a.eval x=.pointer (some ⟨b,i,none⟩))
  (h:wpList Tryz.prog ops Q rest (a.put o.dst (.agg p.cells)) w):wpList Tryz.prog ops Q (o :: rest) a w:=by
 refine qcr hw (w':=w) (v:=.agg p.cells) ?_ h;have e:=run_loadVar_mid (P:=Tryz.prog) w b i 28 p.cells.toList _ hB Tryz.underlying28 rfl (infoP.trans (by rw[qfc]));rw[Array.toArray_toList] at e;simp only[execOp,ho,hx,Instr.loadAt,Instr.sureAddr,Sem.run_bind,Sem.run_pure,Result.andThen_ok,e]
theorem st_loadM {o:Oper} {a:Act} {w:World} {K:Act→World→Prop} {Q:Exit→Act→World→Prop} {b i:Nat} {p:Pk} (hB:w.rangeAt b i p.cells.toList) (x:Operand) (ho:o.op=.load 28 x)
  (hx:a.eval x=.pointer (some ⟨b,i,none⟩)) (h:K (a.put o.dst (.agg p.cells)) w):Oper.wp Tryz.prog o a w K Q:=by
 have e:=run_loadVar_mid (P:=Tryz.prog) w b i 28 p.cells.toList _ hB Tryz.underlying28 rfl (infoP.trans (by rw[qfc]));rw[Array.toArray_toList] at e;exact qae (w':=w) (v:=.agg p.cells) (by simp only[execOp,ho,hx,Instr.loadAt,Instr.sureAddr,Sem.run_bind,Sem.run_pure,Result.andThen_ok,e]) h
theorem bs_pk {ops:Array Oper} {rest:List Oper} {o:Oper} {a:Act} {w:World} {Q:Exit→Act→World→Prop} {p:Pk} (hw:Region.wanted o (yielded ops a.tmps)=true) (x:Operand) (ho:o.op=.buildSlice 44 1 #[(0,x)]) (hx:a.eval x=.agg p.cells)
  (h:wpList Tryz.prog ops Q rest (a.put o.dst (.slice (some ⟨w.heap.size,0,none⟩) 1 1)) (w.alloc (.cells p.cells 28))):wpList Tryz.prog ops Q (o :: rest) a w:=by
 have e:((#[(0,x)]:Array (Nat×Operand)).map fun (i,x)=>(i,a.eval x)) = #[(0,.agg p.cells)]:=by simp[hx]
 refine qcr hw (w':=w.alloc (.cells p.cells 28)) (v:=.slice (some ⟨w.heap.size,0,none⟩) 1 1) ?_ h;simp only[execOp,ho,e,Sem.run_bind,mkp1,Result.andThen_ok,Sem.run_pure]
theorem idx_p (b off n c k:Nat) (h:k<n) (u:World):(Instr.indexAt 44 (.slice (some ⟨b,off,none⟩) n c) (.int .i64 (k:Int))).run Tryz.prog u=.ok (.pointer (some ⟨b,off+k*25,none⟩)) u:=by
 have h1:(k:Int)<n:=by omega
 have h2:(sizeOf (Tryz.prog.elem 44)).run Tryz.prog u=.ok 25 u:=by kernel_rfl
 simp[Instr.indexAt,Instr.index,go_sem,Tryz.underlying44,h1,h2,h,Addr.add]
