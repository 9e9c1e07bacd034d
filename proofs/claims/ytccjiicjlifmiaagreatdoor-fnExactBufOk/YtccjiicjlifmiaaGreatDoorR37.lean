/- Texts that the law FnExactBufOk uses. -/
import Derived.Test.YtccjiicjlifmiaaGreatDoorR34
import Derived.Test.YtccjiicjlifmiaaGreatDoorR36
import Derived.Test.YtccjiicjlifmiaaGreatDoorR26
set_option linter.unusedVariables false
set_option linter.unusedSimpArgs false
set_option maxRecDepth 100000
set_option maxHeartbeats 20000000
namespace Go.Proofs.YtccjiicjlifmiaaGreatDoor
open Go.RowKit

theorem low_pub3 (dup : Bool) (qos : Int) (ret : Bool) (id : Int) (top : ByteArray) (b : Sl) (w : World) (hq : 0 ≤ qos ∧ qos ≤ 3) :
  Calls Tryz.prog 117 #[.iface 129 (.agg (pubC dup qos ret id top b))] w fun e w' => e = .returned (.int .i64 (pubL dup qos ret)) ∧ Below w.heap.size w w' := by
 have i1 := qdf dup 8 (by omega)
 have i2 := qdf ret 1 (by omega)
 have A : Row (w.alloc (.cells (pubC dup qos ret id top b) 129)) w.heap.size (pubC dup qos ret id top b) 129 := Row.new _ _ _
 have hb : Below w.heap.size w (w.alloc (.cells (pubC dup qos ret id top b) 129)) := bel_new _ _
 unfold pubC at A hb ⊢
 have h0 := qeb (X := 76) Tryz.underlying129
 go_enter Tryz.func117, Tryz.ntmps117
 go_wp2
 refine qaq (by kernel_rfl) rfl (fun i u x => match i with
  | 0 => u = .pointer (some ⟨w.heap.size, 0, none⟩)
  | 1 => u = .bool dup
  | 2 => u = .int .i64 (bit dup 8)
  | 3 => u = .pointer (some ⟨w.heap.size, 1, none⟩)
  | 4 => u = .int .i64 (qos)
  | 5 => u = .int .i64 (2 * qos)
  | 6 => u = .int .i64 (bit dup 8 + 2 * qos)
  | 7 => u = .pointer (some ⟨w.heap.size, 2, none⟩)
  | 8 => u = .bool ret
  | 9 => u = .int .i64 (bit ret 1)
  | 10 => u = .int .i64 (bit dup 8 + 2 * qos + bit ret 1)
  | 11 => u = .int .i64 (bit dup 8 + 2 * qos + bit ret 1)
  | _ => True) ?_ ?_ ?_
 ·intro i u x x' hx h
  match i, h with
  | 0, h => exact h
  | 1, h => exact h
  | 2, h => exact h
  | 3, h => exact h
  | 4, h => exact h
  | 5, h => exact h
  | 6, h => exact h
  | 7, h => exact h
  | 8, h => exact h
  | 9, h => exact h
  | 10, h => exact h
  | 11, h => exact h
  | (_ + 12), h => trivial
 ·intro i o a u hi hk hbu hdep
  match i, hi with
  | 0, hi =>
   cases hi
   exact g_run (qaa rfl _) (z_fld (X := ⟨w.heap.size, 0, none⟩) (Y := ⟨w.heap.size, 0, none⟩) 129 _ 0 rfl (eval_at ((hk.at 3 rfl).trans rfl)) (fun _ => by kernel_rfl) ⟨_, rfl, Below.refl _ _, rfl⟩)
  | 1, hi =>
   cases hi
   obtain ⟨z0, hz0, rfl⟩ := hdep 0 _ _ rfl rfl rfl
   exact g_run (qaa rfl _) (z_ld 4 _ rfl (eval_at hz0) (by kernel_rfl) ((A.next hbu).cell 0 rfl) ⟨_, rfl, Below.refl _ _, rfl⟩)
  | 2, hi =>
   cases hi
   obtain ⟨z1, hz1, rfl⟩ := hdep 1 _ _ rfl rfl rfl
   refine g_run (qaa rfl _) (st_call (exec_call2 _ _ _ _ _ _ _ _ qix (eval_at hz1) (rfl) (fun _ => rfl) _ _ _ _ _ _) ?_)
   refine (bit_i dup 8 u).mono ?_
   rintro e u' ⟨rfl, hu⟩
   exact ⟨_, rfl, _, rfl, hu ▸ Below.refl _ _, rfl⟩
  | 3, hi =>
   cases hi
   exact g_run (qaa rfl _) (z_fld (X := ⟨w.heap.size, 0, none⟩) (Y := ⟨w.heap.size, 1, none⟩) 129 _ 1 rfl (eval_at ((hk.at 3 rfl).trans rfl)) (fun _ => by kernel_rfl) ⟨_, rfl, Below.refl _ _, rfl⟩)
  | 4, hi =>
   cases hi
   obtain ⟨z3, hz3, rfl⟩ := hdep 3 _ _ rfl rfl rfl
   exact g_run (qaa rfl _) (z_ld 3 _ rfl (eval_at hz3) (by kernel_rfl) ((A.next hbu).cell 1 rfl) ⟨_, rfl, Below.refl _ _, rfl⟩)
  | 5, hi =>
   cases hi
   obtain ⟨z4, hz4, rfl⟩ := hdep 4 _ _ rfl rfl rfl
   exact g_run (qaa rfl _) (z_bin _ _ _ _ _ rfl (rfl) (eval_at hz4) (muli _ _ _ _ _ (by rw [qar] <;> omega)) ⟨_, rfl, Below.refl _ _, rfl⟩)
  | 6, hi =>
   cases hi
   obtain ⟨z2, hz2, rfl⟩ := hdep 2 _ _ rfl rfl rfl
   obtain ⟨z5, hz5, rfl⟩ := hdep 5 _ _ rfl rfl rfl
   exact g_run (qaa rfl _) (z_bin _ _ _ _ _ rfl (eval_at hz2) (eval_at hz5) (addi _ _ _ _ _ (by rw [qar] <;> omega)) ⟨_, rfl, Below.refl _ _, rfl⟩)
  | 7, hi =>
   cases hi
   exact g_run (qaa rfl _) (z_fld (X := ⟨w.heap.size, 0, none⟩) (Y := ⟨w.heap.size, 2, none⟩) 129 _ 2 rfl (eval_at ((hk.at 3 rfl).trans rfl)) (fun _ => by kernel_rfl) ⟨_, rfl, Below.refl _ _, rfl⟩)
  | 8, hi =>
   cases hi
   obtain ⟨z7, hz7, rfl⟩ := hdep 7 _ _ rfl rfl rfl
   exact g_run (qaa rfl _) (z_ld 4 _ rfl (eval_at hz7) (by kernel_rfl) ((A.next hbu).cell 2 rfl) ⟨_, rfl, Below.refl _ _, rfl⟩)
  | 9, hi =>
   cases hi
   obtain ⟨z8, hz8, rfl⟩ := hdep 8 _ _ rfl rfl rfl
   refine g_run (qaa rfl _) (st_call (exec_call2 _ _ _ _ _ _ _ _ qix (eval_at hz8) (rfl) (fun _ => rfl) _ _ _ _ _ _) ?_)
   refine (bit_i ret 1 u).mono ?_
   rintro e u' ⟨rfl, hu⟩
   exact ⟨_, rfl, _, rfl, hu ▸ Below.refl _ _, rfl⟩
  | 10, hi =>
   cases hi
   obtain ⟨z6, hz6, rfl⟩ := hdep 6 _ _ rfl rfl rfl
   obtain ⟨z9, hz9, rfl⟩ := hdep 9 _ _ rfl rfl rfl
   exact g_run (qaa rfl _) (z_bin _ _ _ _ _ rfl (eval_at hz6) (eval_at hz9) (addi _ _ _ _ _ (by rw [qar] <;> omega)) ⟨_, rfl, Below.refl _ _, rfl⟩)
  | 11, hi =>
   cases hi
   obtain ⟨z10, hz10, rfl⟩ := hdep 10 _ _ rfl rfl rfl
   exact g_run (qaa rfl _) (qac (v := _) (w' := u) (by first | (simp [execOp, eval_at hz10]; done) | (simp [execOp, eval_at hz10]; rfl)) ⟨_, rfl, Below.refl _ _, rfl⟩)
  | (_ + 12), hi => cases hi
 intro vs y3 b3 hG a3 h3
 have gr : vs 11 = .int .i64 (bit dup 8 + 2 * qos + bit ret 1) := hG 11 (by decide)
 have s2 := qfm h3 rfl 11 rfl rfl
 rw [gr] at s2
 have hd := (qhe h3).trans (show _ = [] from rfl)
 clear h3 hG
 go_wp2
 refine bodyPost_ret (results_tmp rfl _ _ _) hd ⟨?_, bel hb b3⟩
 rw [qia s2]
 rfl
theorem or48b (dup : Bool) (qos : Int) (ret : Bool) (hq : 0 ≤ qos ∧ qos ≤ 3) : bits .or .i64 48 (pubL dup qos ret) = 48 + pubL dup qos ret := by
 have h : qos = 0 ∨ qos = 1 ∨ qos = 2 ∨ qos = 3 := by omega
 rcases h with rfl | rfl | rfl | rfl <;> cases dup <;> cases ret <;> decide
theorem pubL_in3 (dup : Bool) (qos : Int) (ret : Bool) (hq : 0 ≤ qos ∧ qos ≤ 3) : 0 ≤ pubL dup qos ret ∧ pubL dup qos ret ≤ 15 := by
 unfold pubL
 have := qdf dup 8 (by omega)
 have := qdf ret 1 (by omega)
 omega
theorem first_pub3 (dup : Bool) (qos : Int) (ret : Bool) (id : Int) (top : ByteArray) (b : Sl) (w : World) (hq : 0 ≤ qos ∧ qos ≤ 3) :
  Calls Tryz.prog 65 #[.iface 129 (.agg (pubC dup qos ret id top b))] w fun e w' => e = .returned (.int .u8 (48 + pubL dup qos ret)) ∧ Below w.heap.size w w' := by
 have h1 := or48b dup qos ret hq
 have h2 := pubL_in3 dup qos ret hq
 have h3 := fun u => low_pub3 dup qos ret id top b u hq
 generalize pubL dup qos ret = L at h1 h2 h3 ⊢
 generalize pubC dup qos ret id top b = cs at h3 ⊢
 have H3 : Hid (∀ u : World, Calls Tryz.prog 117 #[.iface 129 (.agg cs)] u fun e u' => e = .returned (.int .i64 L) ∧ Below u.heap.size u u') := h3
 clear h3
 have h4 : (48 + L) % 256 = 48 + L := by omega
 go_enter Tryz.func65, Tryz.ntmps65
 go_wp2_with fail
 refine (qez _ _).mono ?_
 rintro e y ⟨rfl, hy⟩
 rw [hy]
 go_wp2_with fail
 refine (H3.out _).mono ?_
 rintro e y2 ⟨rfl, b2⟩
 go_wp2
 go_ret
 exact ⟨rfl, b2⟩
def fstX (x : Nat) : Pk := if x / 16 = 3 then fstP 3 (fl x 8) ((x : Int) / 2 % 4) (fl x 1) else fstP (x / 16 : Nat) false 0 false
theorem fstX_pv (x : Nat) : pv (fstX x) dnil = qbu x := by
 unfold fstX qbu
 split <;> rfl
theorem bits8 (x : Nat) (h : x < 256) : (bits BinOp.and IntKind.u8 (x : Int) 8 != 0) = fl x 8 ∧ (bits BinOp.and IntKind.u8 (x : Int) 1 != 0) = fl x 1 ∧ wrap64 ((wrap64 (bits BinOp.and IntKind.u8 (x : Int) 6)).tdiv 2) = (x : Int) / 2 % 4 := by
 have hh : ∀ x : Fin 256, (bits BinOp.and IntKind.u8 (x.val : Int) 8 != 0) = fl x.val 8 ∧ (bits BinOp.and IntKind.u8 (x.val : Int) 1 != 0) = fl x.val 1 ∧ wrap64 ((wrap64 (bits BinOp.and IntKind.u8 (x.val : Int) 6)).tdiv 2) = (x.val : Int) / 2 % 4 := by decide +kernel
 exact hh ⟨x, h⟩
theorem fst3 (x : Nat) (h : x < 256) (h3 : x / 16 = 3) : fstOk x = (decide (48 + pubL (if 0 < (x : Int) / 2 % 4 then fl x 8 else false) ((x : Int) / 2 % 4) (fl x 1) = (x : Int)) && inB ((x : Int) / 2 % 4) 0 2) := by
 have hh : ∀ x : Fin 256, x.val / 16 = 3 → fstOk x.val = (decide (48 + pubL (if 0 < (x.val : Int) / 2 % 4 then fl x.val 8 else false) ((x.val : Int) / 2 % 4) (fl x.val 1) = (x.val : Int)) && inB ((x.val : Int) / 2 % 4) 0 2) := by decide +kernel
 exact hh ⟨x, h⟩ h3
def First (w w' : World) (e : Ending) (x : Nat) : Prop := e = .returned (.tuple #[.agg (if fstOk x then fstX x else Pk.zero).cells, errV (!fstOk x)]) ∧ Below w.heap.size w w'
theorem qat {w u u' : World} {r : Nat} (hb : Below w.heap.size w u) (hg : u.grownBy u' (some r)) (hr : w.heap.size ≤ r) : Below w.heap.size w u' := hb.grown hg hb.size (fun k e => by cases e; exact hr)
theorem first_3 (x : Nat) (hx : x < 256) (h3 : x / 16 = 3) (w : World) :
  Calls Tryz.prog 149 #[.int .u8 x] w fun e w' => First w w' e x := by
 have hk : (x : Int) / 16 = 3 := by omega
 have hfo0 := fst3 x hx h3
 obtain ⟨e8, e1, e6⟩ := bits8 x hx
 have hX3 : Hid (fstX x = fstP 3 (fl x 8) ((x : Int) / 2 % 4) (fl x 1)) := by unfold Hid fstX; rw [if_pos h3]
 obtain ⟨f8, hf8⟩ : ∃ f, fl x 8 = f := ⟨_, rfl⟩
 obtain ⟨f1, hf1⟩ : ∃ f, fl x 1 = f := ⟨_, rfl⟩
 obtain ⟨v, hv⟩ : ∃ v, (x : Int) / 2 % 4 = v := ⟨_, rfl⟩
 have hv3 : 0 ≤ v ∧ v ≤ 3 := by omega
 rw [hf8, hf1, hv] at hfo0
 rw [hf8] at e8
 rw [hf1] at e1
 rw [hv] at e6
 rw [hf8, hf1, hv] at hX3
 clear hf8 hf1 hv
 have HF : Hid (∀ u, Calls Tryz.prog 65 #[.iface 129 (.agg (pubOf (fstP 3 f8 v f1)))] u fun e u' => e = .returned (.int .u8 (48 + pubL (if 0 < v then f8 else false) v f1)) ∧ Below u.heap.size u u') := fun u => first_pub3 _ _ _ _ _ _ u hv3
 have HK : Hid (∀ u, Calls Tryz.prog 63 #[.agg (fstP 3 f8 v f1).cells] u fun e u' => e = .returned (.iface 129 (.agg (pubOf (fstP 3 f8 v f1)))) ∧ Below u.heap.size u u') := fun u => qey (fstP 3 f8 v f1) u rfl
 obtain ⟨L, hL⟩ : ∃ L, 48 + pubL (if 0 < v then f8 else false) v f1 = L := ⟨_, rfl⟩
 rw [hL] at HF hfo0
 clear hL
 generalize pubOf (fstP 3 f8 v f1) = cs at HF HK
 go_enter Tryz.func149, Tryz.ntmps149
 go_upto_region 2 with (first | refine qax (p := ofT 3) rfl rfl ?_ | refine al_pk ?_ | (refine bu_pk (ofT 3) (by kernel_rfl) ?_) | fail)
 have A2 : Blk ((w.alloc (.cells Pk.zero.cells 28)).alloc (.cells (ofT 3).cells 28)) (w.heap.size + 1) (ofT 3) := heap_alloc2_new _ _ _
 have A1 : Blk ((w.alloc (.cells Pk.zero.cells 28)).alloc (.cells (ofT 3).cells 28)) w.heap.size Pk.zero := heap_alloc2_old _ _ _
 have hb : Below w.heap.size w ((w.alloc (.cells Pk.zero.cells 28)).alloc (.cells (ofT 3).cells 28)) := ((Below.refl _ _).alloc (Nat.le_refl _) _).alloc (by simp) _
 generalize (w.alloc (.cells Pk.zero.cells 28)).alloc (.cells (ofT 3).cells 28) = y at *
 try simp only [World.size_alloc]
 generalize hB1 : w.heap.size + 1 = b at *
 have c0 := (A2.cell 0).trans (Pk.c0 _)
 replace c0 : y.cell? ⟨b, 0, none⟩ = some (.int .i64 (3)) := c0
 have c1 := (A2.cell 1).trans (Pk.c1 _)
 have c2 := (A2.cell 2).trans (Pk.c2 _)
 have c3 := (A2.cell 3).trans (Pk.c3 _)
 have z1 := Lib.frozen_of_heap A2 1
 have z2 := Lib.frozen_of_heap A2 2
 have z3 := Lib.frozen_of_heap A2 3
 go_upto_region 4 with fail
 have A3 : Blk (((y.setCell ⟨b, 1, none⟩ (.bool f8)).setCell ⟨b, 2, none⟩ (.int .i64 v)).setCell ⟨b, 3, none⟩ (.bool f1)) b (fstP 3 f8 v f1) := qad (qad (qad A2 1 _) 2 _) 3 _
 have hne : w.heap.size ≠ b := by omega
 have A4 : Blk (((y.setCell ⟨b, 1, none⟩ (.bool f8)).setCell ⟨b, 2, none⟩ (.int .i64 v)).setCell ⟨b, 3, none⟩ (.bool f1)) w.heap.size Pk.zero := (Below.heap_setCell _ _ _ _ hne).trans ((Below.heap_setCell _ _ _ _ hne).trans ((Below.heap_setCell _ _ _ _ hne).trans A1))
 have hb3 : Below w.heap.size w (((y.setCell ⟨b, 1, none⟩ (.bool f8)).setCell ⟨b, 2, none⟩ (.int .i64 v)).setCell ⟨b, 3, none⟩ (.bool f1)) := qat (qat (qat hb (qae _ b 1 _) (by omega)) (qae _ b 2 _) (by omega)) (qae _ b 3 _) (by omega)
 clear c0 c1 c2 c3 z1 z2 z3 A1 A2 hb e8 e1 e6
 generalize ((y.setCell ⟨b, 1, none⟩ (.bool f8)).setCell ⟨b, 2, none⟩ (.int .i64 v)).setCell ⟨b, 3, none⟩ (.bool f1) = y3 at *
 go_wp2_with (first | refine qai A3 rfl _ rfl rfl ?_ | fail)
 refine (HK.out _).mono ?_
 rintro e y4 ⟨rfl, b4⟩
 replace A3 := A3.next b4
 replace A4 := A4.next b4
 replace hb3 := bel hb3 b4
 clear b4
 go_wp2_with fail
 refine (HF.out _).mono ?_
 rintro e y5 ⟨rfl, b5⟩
 have A2 := A3.next b5
 have A1 := A4.next b5
 have hb := bel hb3 b5
 clear b5 A3 A4 hb3
 have c2 := (A2.cell 2).trans (Pk.c2 _)
 replace c2 : y5.cell? ⟨b, 2, none⟩ = some (.int .i64 v) := c2
 by_cases hLx : L = (x : Int)
 ·have hd : decide (L = (x : Int)) = true := decide_eq_true hLx
  rw [hd, Bool.true_and] at hfo0
  go_wp2_with fail
  refine (qkn v _).mono ?_
  rintro e y6 ⟨rfl, rfl⟩
  cases hq : inB v 0 2 with
  | true =>
   have HX : Hid (∀ w w' e, First w w' e x = (e = .returned (.tuple #[.agg (fstP 3 f8 v f1).cells, errV false]) ∧ Below w.heap.size w w')) := fun w w' e => by unfold First; rw [hfo0, hq, ← hX3.out]; rfl
   clear hfo0 hq
   go_upto_region 7 with fail
   refine wp_region_list ?_
   refine qai A2 rfl _ rfl rfl ?_
   go_wp2_with (first | (refine qaf (q := fstP 3 f8 v f1) (old := Pk.zero) A1 rfl rfl ?_; intro w9 B9 g9) | fail)
   exact qea rfl rfl rfl B9 rfl (by
    rw [HX.out]
    exact ⟨rfl, qat hb g9 (Nat.le_refl _)⟩)
  | false =>
   have HX : Hid (∀ w w' e, First w w' e x = (e = .returned (.tuple #[.agg (Pk.zero).cells, errV true]) ∧ Below w.heap.size w w')) := fun w w' e => by unfold First; rw [hfo0, hq]; rfl
   clear hfo0 hq
   go_upto_region 6 with fail
   refine wp_region_list ?_
   refine bu_pk Pk.zero (by kernel_rfl) ?_
   go_wp2_with (first | (refine qaf (q := Pk.zero) (old := Pk.zero) A1 rfl rfl ?_; intro w9 B9 g9) | fail)
   exact qea rfl rfl rfl B9 rfl (by
    rw [HX.out]
    exact ⟨rfl, qat hb g9 (Nat.le_refl _)⟩)
 ·have hd : decide (L = (x : Int)) = false := decide_eq_false hLx
  rw [hd, Bool.false_and] at hfo0
  have HX : Hid (∀ w w' e, First w w' e x = (e = .returned (.tuple #[.agg (Pk.zero).cells, errV true]) ∧ Below w.heap.size w w')) := fun w w' e => by unfold First; rw [hfo0]; rfl
  clear hfo0
  go_upto_region 6 with fail
  refine wp_region_list ?_
  refine bu_pk Pk.zero (by kernel_rfl) ?_
  go_wp2_with (first | (refine qaf (q := Pk.zero) (old := Pk.zero) A1 rfl rfl ?_; intro w9 B9 g9) | fail)
  exact qea rfl rfl rfl B9 rfl (by
   rw [HX.out]
   exact ⟨rfl, qat hb g9 (Nat.le_refl _)⟩)
theorem qbs (x k : Nat) (hx : x < 256) (h3 : x / 16 = k) (hk3 : k ≠ 3) (T : TypeId) (v : Value) (c : Int) (hc : 0 ≤ c ∧ c < 256)
  (hK : ∀ u : World, Calls Tryz.prog 63 #[.agg (ofT (k : Nat)).cells] u fun e u' => e = .returned (.iface T v) ∧ Below u.heap.size u u')
  (hF : ∀ u : World, Calls Tryz.prog 65 #[.iface T v] u fun e u' => e = .returned (.int .u8 c) ∧ Below u.heap.size u u')
  (hfo0 : fstOk x = decide (c = (x : Int))) (w : World) :
  Calls Tryz.prog 149 #[.int .u8 x] w fun e w' => First w w' e x := by
 have hk : (x : Int) / 16 = (k : Int) := by omega
 have hkn : ((k : Int) == 3) = false := by simp; omega
 have hX3 : Hid (fstX x = ofT (k : Nat)) := by unfold Hid fstX; rw [if_neg (by omega), h3]; rfl
 have HK : Hid (∀ u : World, Calls Tryz.prog 63 #[.agg (ofT (k : Nat)).cells] u fun e u' => e = .returned (.iface T v) ∧ Below u.heap.size u u') := hK
 have HF : Hid (∀ u : World, Calls Tryz.prog 65 #[.iface T v] u fun e u' => e = .returned (.int .u8 c) ∧ Below u.heap.size u u') := hF
 clear hK hF
 go_enter Tryz.func149, Tryz.ntmps149
 go_upto_region 2 with (first | refine qax (p := ofT (k : Nat)) rfl rfl ?_ | refine al_pk ?_ | (refine bu_pk (ofT (k : Nat)) (by kernel_rfl) ?_) | fail)
 have A2 : Blk ((w.alloc (.cells Pk.zero.cells 28)).alloc (.cells (ofT (k : Nat)).cells 28)) (w.heap.size + 1) (ofT (k : Nat)) := heap_alloc2_new _ _ _
 have A1 : Blk ((w.alloc (.cells Pk.zero.cells 28)).alloc (.cells (ofT (k : Nat)).cells 28)) w.heap.size Pk.zero := heap_alloc2_old _ _ _
 have hb : Below w.heap.size w ((w.alloc (.cells Pk.zero.cells 28)).alloc (.cells (ofT (k : Nat)).cells 28)) := ((Below.refl _ _).alloc (Nat.le_refl _) _).alloc (by simp) _
 generalize (w.alloc (.cells Pk.zero.cells 28)).alloc (.cells (ofT (k : Nat)).cells 28) = y at *
 try simp only [World.size_alloc]
 generalize hB1 : w.heap.size + 1 = b at *
 have c0 := (A2.cell 0).trans (Pk.c0 _)
 replace c0 : y.cell? ⟨b, 0, none⟩ = some (.int .i64 ((k : Nat))) := c0
 go_wp2_with (first | refine qai A2 rfl _ rfl rfl ?_ | fail)
 refine (HK.out _).mono ?_
 rintro e y4 ⟨rfl, b4⟩
 replace A2 := A2.next b4
 replace A1 := A1.next b4
 replace hb := bel hb b4
 clear b4 c0
 go_wp2_with fail
 refine (HF.out _).mono ?_
 rintro e y5 ⟨rfl, b5⟩
 replace A2 := A2.next b5
 replace A1 := A1.next b5
 replace hb := bel hb b5
 clear b5
 have c2 := (A2.cell 2).trans (Pk.c2 _)
 replace c2 : y5.cell? ⟨b, 2, none⟩ = some (.int .i64 0) := c2
 by_cases hLx : c = (x : Int)
 ·have hd : decide (c = (x : Int)) = true := decide_eq_true hLx
  rw [hd] at hfo0
  go_wp2_with fail
  refine (qkn 0 _).mono ?_
  rintro e y6 ⟨rfl, rfl⟩
  have HX : Hid (∀ w w' e, First w w' e x = (e = .returned (.tuple #[.agg (ofT (k : Nat)).cells, errV false]) ∧ Below w.heap.size w w')) := fun w w' e => by unfold First; rw [hfo0, ← hX3.out]; rfl
  clear hfo0
  rw [show inB 0 0 2 = true from rfl]
  go_upto_region 7 with fail
  refine wp_region_list ?_
  refine qai A2 rfl _ rfl rfl ?_
  go_wp2_with (first | (refine qaf (q := ofT (k : Nat)) (old := Pk.zero) A1 rfl rfl ?_; intro w9 B9 g9) | fail)
  exact qea rfl rfl rfl B9 rfl (by
   rw [HX.out]
   exact ⟨rfl, qat hb g9 (Nat.le_refl _)⟩)
 ·have hd : decide (c = (x : Int)) = false := decide_eq_false hLx
  rw [hd] at hfo0
  have HX : Hid (∀ w w' e, First w w' e x = (e = .returned (.tuple #[.agg (Pk.zero).cells, errV true]) ∧ Below w.heap.size w w')) := fun w w' e => by unfold First; rw [hfo0]; rfl
  clear hfo0
  go_upto_region 6 with fail
  refine wp_region_list ?_
  refine bu_pk Pk.zero (by kernel_rfl) ?_
  go_wp2_with (first | (refine qaf (q := Pk.zero) (old := Pk.zero) A1 rfl rfl ?_; intro w9 B9 g9) | fail)
  exact qea rfl rfl rfl B9 rfl (by
   rw [HX.out]
   exact ⟨rfl, qat hb g9 (Nat.le_refl _)⟩)
theorem qpa (x k : Nat) (hx : x < 256) (h3 : x / 16 = k) (hk3 : k = 0 ∨ k = 15) (w : World) :
  Calls Tryz.prog 149 #[.int .u8 x] w fun e w' => First w w' e x := by
 have hk : (x : Int) / 16 = (k : Int) := by omega
 have hkn : ((k : Int) == 3) = false := by simp; omega
 have hfo0 : fstOk x = false := by unfold fstOk; rw [if_pos (by omega)]
 have HK : Hid (∀ u : World, Calls Tryz.prog 63 #[.agg (ofT (k : Nat)).cells] u fun e u' => e = .returned .nilIface ∧ Below u.heap.size u u') := fun u => qqy (ofT (k : Nat)) u (by show ¬ (1 ≤ (k : Int) ∧ (k : Int) ≤ 14); omega)
 have HX : Hid (∀ w w' e, First w w' e x = (e = .returned (.tuple #[.agg (Pk.zero).cells, errV true]) ∧ Below w.heap.size w w')) := fun w w' e => by unfold First; rw [hfo0]; rfl
 clear hfo0
 go_enter Tryz.func149, Tryz.ntmps149
 go_upto_region 2 with (first | refine qax (p := ofT (k : Nat)) rfl rfl ?_ | refine al_pk ?_ | (refine bu_pk (ofT (k : Nat)) (by kernel_rfl) ?_) | fail)
 have A2 : Blk ((w.alloc (.cells Pk.zero.cells 28)).alloc (.cells (ofT (k : Nat)).cells 28)) (w.heap.size + 1) (ofT (k : Nat)) := heap_alloc2_new _ _ _
 have A1 : Blk ((w.alloc (.cells Pk.zero.cells 28)).alloc (.cells (ofT (k : Nat)).cells 28)) w.heap.size Pk.zero := heap_alloc2_old _ _ _
 have hb : Below w.heap.size w ((w.alloc (.cells Pk.zero.cells 28)).alloc (.cells (ofT (k : Nat)).cells 28)) := ((Below.refl _ _).alloc (Nat.le_refl _) _).alloc (by simp) _
 generalize (w.alloc (.cells Pk.zero.cells 28)).alloc (.cells (ofT (k : Nat)).cells 28) = y at *
 try simp only [World.size_alloc]
 generalize hB1 : w.heap.size + 1 = b at *
 have c0 := (A2.cell 0).trans (Pk.c0 _)
 replace c0 : y.cell? ⟨b, 0, none⟩ = some (.int .i64 ((k : Nat))) := c0
 go_wp2_with (first | refine qai A2 rfl _ rfl rfl ?_ | fail)
 refine (HK.out _).mono ?_
 rintro e y4 ⟨rfl, b4⟩
 replace A1 := A1.next b4
 replace hb := bel hb b4
 clear b4 c0
 go_upto_region 6 with fail
 refine wp_region_list ?_
 refine bu_pk Pk.zero (by kernel_rfl) ?_
 go_wp2_with (first | (refine qaf (q := Pk.zero) (old := Pk.zero) A1 rfl rfl ?_; intro w9 B9 g9) | fail)
 exact qea rfl rfl rfl B9 rfl (by
  rw [HX.out]
  exact ⟨rfl, qat hb g9 (Nat.le_refl _)⟩)
theorem first_i (x : Nat) (hx : x < 256) (w : World) : Calls Tryz.prog 149 #[.int .u8 x] w fun e w' => First w w' e x := by
 have h16 : x / 16 = 0 ∨ x / 16 = 15 ∨ x / 16 = 3 ∨ x / 16 = 1 ∨ x / 16 = 2 ∨ x / 16 = 4 ∨ x / 16 = 5 ∨ x / 16 = 6 ∨ x / 16 = 7 ∨ x / 16 = 8 ∨ x / 16 = 9 ∨ x / 16 = 10 ∨ x / 16 = 11 ∨ x / 16 = 12 ∨ x / 16 = 13 ∨ x / 16 = 14 := by omega
 rcases h16 with h | h | h | h | h | h | h | h | h | h | h | h | h | h | h | h
 ·exact qpa x 0 hx h (by decide) w
 ·exact qpa x 15 hx h (by decide) w
 ·exact first_3 x hx h w
 ·exact qbs x 1 hx h (by decide) _ _ 16 (by decide) (fun u => qev (ofT (1 : Nat)) u rfl) (fun u => qgg _ u) (by
   have hh : ∀ x : Fin 256, x.val / 16 = 1 → fstOk x.val = decide ((16 : Int) = (x.val : Int)) := by decide +kernel
   exact hh ⟨x, hx⟩ h) w
 ·exact qbs x 2 hx h (by decide) _ _ 32 (by decide) (fun u => qeu (ofT (2 : Nat)) u rfl) (fun u => qgf _ u) (by
   have hh : ∀ x : Fin 256, x.val / 16 = 2 → fstOk x.val = decide ((32 : Int) = (x.val : Int)) := by decide +kernel
   exact hh ⟨x, hx⟩ h) w
 ·exact qbs x 4 hx h (by decide) _ _ 64 (by decide) (fun u => qfh (ofT (4 : Nat)) u rfl) (fun u => qhh _ u) (by
   have hh : ∀ x : Fin 256, x.val / 16 = 4 → fstOk x.val = decide ((64 : Int) = (x.val : Int)) := by decide +kernel
   exact hh ⟨x, hx⟩ h) w
 ·exact qbs x 5 hx h (by decide) _ _ 80 (by decide) (fun u => qfi (ofT (5 : Nat)) u rfl) (fun u => qhi _ u) (by
   have hh : ∀ x : Fin 256, x.val / 16 = 5 → fstOk x.val = decide ((80 : Int) = (x.val : Int)) := by decide +kernel
   exact hh ⟨x, hx⟩ h) w
 ·exact qbs x 6 hx h (by decide) _ _ 98 (by decide) (fun u => qfj (ofT (6 : Nat)) u rfl) (fun u => qhj _ u) (by
   have hh : ∀ x : Fin 256, x.val / 16 = 6 → fstOk x.val = decide ((98 : Int) = (x.val : Int)) := by decide +kernel
   exact hh ⟨x, hx⟩ h) w
 ·exact qbs x 7 hx h (by decide) _ _ 112 (by decide) (fun u => qex (ofT (7 : Nat)) u rfl) (fun u => qgi _ u) (by
   have hh : ∀ x : Fin 256, x.val / 16 = 7 → fstOk x.val = decide ((112 : Int) = (x.val : Int)) := by decide +kernel
   exact hh ⟨x, hx⟩ h) w
 ·exact qbs x 8 hx h (by decide) _ _ 130 (by decide) (fun u => qdu (ofT (8 : Nat)) u rfl) (fun u => qff _ u) (by
   have hh : ∀ x : Fin 256, x.val / 16 = 8 → fstOk x.val = decide ((130 : Int) = (x.val : Int)) := by decide +kernel
   exact hh ⟨x, hx⟩ h) w
 ·exact qbs x 9 hx h (by decide) _ _ 144 (by decide) (fun u => qfk (ofT (9 : Nat)) u rfl) (fun u => qhk _ u) (by
   have hh : ∀ x : Fin 256, x.val / 16 = 9 → fstOk x.val = decide ((144 : Int) = (x.val : Int)) := by decide +kernel
   exact hh ⟨x, hx⟩ h) w
 ·exact qbs x 10 hx h (by decide) _ _ 162 (by decide) (fun u => qde (ofT (10 : Nat)) u rfl) (fun u => qem _ u) (by
   have hh : ∀ x : Fin 256, x.val / 16 = 10 → fstOk x.val = decide ((162 : Int) = (x.val : Int)) := by decide +kernel
   exact hh ⟨x, hx⟩ h) w
 ·exact qbs x 11 hx h (by decide) _ _ 176 (by decide) (fun u => qeh (ofT (11 : Nat)) u rfl) (fun u => qft _ u) (by
   have hh : ∀ x : Fin 256, x.val / 16 = 11 → fstOk x.val = decide ((176 : Int) = (x.val : Int)) := by decide +kernel
   exact hh ⟨x, hx⟩ h) w
 ·exact qbs x 12 hx h (by decide) _ _ 192 (by decide) (fun u => qew (ofT (12 : Nat)) u rfl) (fun u => qgh _ u) (by
   have hh : ∀ x : Fin 256, x.val / 16 = 12 → fstOk x.val = decide ((192 : Int) = (x.val : Int)) := by decide +kernel
   exact hh ⟨x, hx⟩ h) w
 ·exact qbs x 13 hx h (by decide) _ _ 208 (by decide) (fun u => qeg (ofT (13 : Nat)) u rfl) (fun u => qfs _ u) (by
   have hh : ∀ x : Fin 256, x.val / 16 = 13 → fstOk x.val = decide ((208 : Int) = (x.val : Int)) := by decide +kernel
   exact hh ⟨x, hx⟩ h) w
 ·exact qbs x 14 hx h (by decide) _ _ 224 (by decide) (fun u => qdk (ofT (14 : Nat)) u rfl) (fun u => qfa _ u) (by
   have hh : ∀ x : Fin 256, x.val / 16 = 14 → fstOk x.val = decide ((224 : Int) = (x.val : Int)) := by decide +kernel
   exact hh ⟨x, hx⟩ h) w

def SRet (w0 w' : World) (e : Ending) (v : Pv) : Prop := ∃ p d, e = .returned (.agg (Pk.cells p)) ∧ POwn w' w0.heap.size p d ∧ Pgd 1048576 p d ∧ v = pv p d ∧ Below w0.heap.size w0 w'
def e0 : Pd := ⟨[], [], [], [], [], []⟩
theorem own_nil6 (p : Pk) (h : p.bod = ⟨none, 0, 0⟩ ∧ p.wb = ⟨none, 0, 0⟩ ∧ p.pa = ⟨none, 0, 0⟩ ∧ p.wan = ⟨none, 0, 0⟩ ∧ p.nam = ⟨none, 0, 0⟩ ∧ p.cds = ⟨none, 0, 0⟩) (u : World) (B : Nat) : POwn u B p e0 := by
 obtain ⟨h1, h2, h3, h4, h5, h6⟩ := h
 refine ⟨?_, ?_, ?_, ?_, ?_, ?_, ?_⟩
 ·rw [h1]; exact ⟨rfl, World.ownsRow_nil _ _ _ _⟩
 ·rw [h2]; exact ⟨rfl, World.ownsRow_nil _ _ _ _⟩
 ·rw [h3]; exact ⟨rfl, World.ownsRow_nil _ _ _ _⟩
 ·rw [h4]; exact ⟨rfl, World.ownsRow_nil _ _ _ _⟩
 ·rw [h5]; exact ⟨rfl, World.ownsRow_nil _ _ _ _⟩
 ·rw [h6]; exact ⟨rfl, World.ownsRow_nil _ _ _ _⟩
 ·rw [h1, h2, h3, h4, h5, h6]
  simp [Dis]
theorem gd_nil6 (p : Pk) (h : p.bod = ⟨none, 0, 0⟩ ∧ p.wb = ⟨none, 0, 0⟩ ∧ p.pa = ⟨none, 0, 0⟩ ∧ p.wan = ⟨none, 0, 0⟩ ∧ p.nam = ⟨none, 0, 0⟩ ∧ p.cds = ⟨none, 0, 0⟩) (hz : p.top.size ≤ 61 ∧ p.cli.size ≤ 61 ∧ p.wt.size ≤ 61 ∧ p.us.size ≤ 61) : Pgd 1048576 p e0 := by
 obtain ⟨h1, h2, h3, h4, h5, h6⟩ := h
 exact ⟨hz.1, hz.2.1, hz.2.2.1, hz.2.2.2, by rw [h1]; decide, by rw [h2]; decide, by rw [h3]; decide, by rw [h4]; decide, by rw [h5]; decide, by rw [h6]; decide, fun x hx => (by cases hx), fun x hx => (by cases hx)⟩
def pkK (k : Int) : Pk := { Pk.zero with ty := k }
theorem Ct.start {w0 y : World} {r b : Nat} (k : Int) (hB : Blk y b (pkK k)) (hR : Blk y r Pk.zero) (hg : Below w0.heap.size w0 y) (bn : w0.heap.size ≤ b) (rn : w0.heap.size ≤ r) (rb : r ≠ b) : Ct w0 y r b (pkK k) e0 :=
 ⟨hB, hR, own_nil6 _ ⟨rfl, rfl, rfl, rfl, rfl, rfl⟩ _ _, hg, bn, rn, rb, gd_nil6 _ ⟨rfl, rfl, rfl, rfl, rfl, rfl⟩ ⟨Nat.zero_le _, Nat.zero_le _, Nat.zero_le _, Nat.zero_le _⟩⟩
theorem Ct.hide {w0 y : World} {r b : Nat} {p : Pk} {d : Pd} (s : Ct w0 y r b p d) : ∃ z, z = y ∧ Ct w0 z r b p d := ⟨y, rfl, s⟩
theorem Ct.same {w0 y : World} {r b : Nat} {p q : Pk} {d : Pd} (s : Ct w0 y r b p d) (h : q = p) : Ct w0 y r b q d := h ▸ s
theorem Ct.none {w0 y y' : World} {r b : Nat} {p : Pk} {d : Pd} {v : Pv} (s : Ct w0 y r b p d) (hg : y.grownBy y' (some r)) (hv : v = Pv.zero) : SRet w0 y' (.returned (.agg Pk.zero.cells)) v :=
 ⟨Pk.zero, e0, rfl, own_nil6 _ ⟨rfl, rfl, rfl, rfl, rfl, rfl⟩ _ _, gd_nil6 _ ⟨rfl, rfl, rfl, rfl, rfl, rfl⟩ ⟨by decide, by decide, by decide, by decide⟩, hv, qat s.gro hg s.rn⟩
theorem Ct.done {w0 y y' : World} {r b : Nat} {p : Pk} {d : Pd} {v : Pv} (s : Ct w0 y r b p d) (hg : y.grownBy y' (some r)) (hv : v = pv p d) : SRet w0 y' (.returned (.agg p.cells)) v :=
 ⟨p, d, rfl, s.own.grown hg (fun k e => by cases e; exact s.own.ne s.res), s.gd, hv, qat s.gro hg s.rn⟩
end Go.Proofs.YtccjiicjlifmiaaGreatDoor
