/- strings.IndexRune in a text of two plain signs: a sign of three bytes or more, and what is no sign. -/
import Derived.Test.YtfpclkkkenekpaaGreatLevs
import Derived.Lib.OthersKept
import Derived.Lib.IndexAny
import Derived.Deep.Quiet
import Derived.WalkMore
set_option linter.unusedVariables false
set_option linter.unusedSimpArgs false
namespace Go.Proofs.YtfpclkkkenekpaaGreat
open Go.RowKit

theorem v116 : (Tryz.prog.info? 148).map (fun i => (i.zero, i.size)) = some (some (.agg (Array.replicate 256 (.bool false))), 256) := by kernel_rfl

set_option maxHeartbeats 1000000 in
set_option maxRecDepth 1000000 in
/-- strings.IndexRune, of a text of two plain signs, the sign of what is no text. -/
theorem ir_err (w : World) :
    Calls Tryz.prog 115 #[.string ⟨#[43, 35]⟩, .int .i32 65533] w fun e w' => e = .returned (.int .i64 (-1)) ∧ Below w.heap.size w w' := by
  have hn0 : ∀ ty, (Instr.next (.pointer (some ⟨w.heap.size, 0, none⟩)) true ty).run Tryz.prog (w.iter ⟨#[43, 35]⟩ 0) = .ok (.tuple #[.bool true, .int .i64 0, .int .i32 43]) (w.iter ⟨#[43, 35]⟩ 1) := fun ty => run_next_ascii w ⟨#[43, 35]⟩ 0 ty (by decide) (by decide)
  have hn1 : ∀ ty, (Instr.next (.pointer (some ⟨w.heap.size, 0, none⟩)) true ty).run Tryz.prog (w.iter ⟨#[43, 35]⟩ 1) = .ok (.tuple #[.bool true, .int .i64 1, .int .i32 35]) (w.iter ⟨#[43, 35]⟩ 2) := fun ty => run_next_ascii w ⟨#[43, 35]⟩ 1 ty (by decide) (by decide)
  have hn2 : ∀ ty, (Instr.next (.pointer (some ⟨w.heap.size, 0, none⟩)) true ty).run Tryz.prog (w.iter ⟨#[43, 35]⟩ 2) = _ := fun ty => run_next_end w ⟨#[43, 35]⟩ 2 ty (by decide)
  go_enter Tryz.func115, Tryz.ntmps115
  go_wp2
  refine wp_loop_rounds 3 ?_
  rw [rounds_succ]
  go_wp2
  rw [rounds_succ]
  go_wp2
  rw [rounds_succ]
  go_wp2
  go_ret
  exact ⟨rfl, iter_below _ _ _⟩

theorem wide_bytes {l : List UInt8} {r k : Nat} (h : runeL l = some (r, k)) (hk : 2 ≤ k) : 128 ≤ r ∧ Lib.validRune (r : Int) = true ∧ ∀ i, i < k → 128 ≤ bt l i := by
  unfold runeL at h
  split at h
  · contradiction
  unfold rune4 at h
  have q : Lib.validRune (r : Int) = decide ((0 ≤ (r : Int) ∧ (r : Int) < 0xD800) ∨ (0xDFFF < (r : Int) ∧ (r : Int) ≤ 0x10FFFF)) := rfl
  rw [q, decide_eq_true_eq]
  repeat' split at h
  all_goals first | (simp only [reduceCtorEq] at h) | (simp only [Option.some.injEq, Prod.mk.injEq] at h)
  · omega
  · refine ⟨by omega, by omega, fun i hi => ?_⟩
    match i, hi with
    | 0, _ => omega
    | 1, _ => omega
    | i + 2, hi => omega
  · refine ⟨by omega, by omega, fun i hi => ?_⟩
    match i, hi with
    | 0, _ => omega
    | 1, _ => omega
    | 2, _ => omega
    | i + 3, hi => omega
  · refine ⟨by omega, by omega, fun i hi => ?_⟩
    match i, hi with
    | 0, _ => omega
    | 1, _ => omega
    | 2, _ => omega
    | 3, _ => omega
    | i + 4, hi => omega

set_option maxHeartbeats 2000000 in
set_option maxRecDepth 1000000 in
/-- strings.IndexRune, of two plain signs, a sign of three bytes or more. -/
theorem ir_long (C : ByteArray) (hC : C.size = 2) (r : Nat) (w : World) (h128 : 128 ≤ r) (hne : r ≠ 65533) (hv : Lib.validRune (r : Int) = true) (k : Nat) (hR : (Utf8.encode (r : Int)).size = k) (hk : 3 ≤ k) (hk4 : k ≤ 4) :
    Calls Tryz.prog 115 #[.string C, .int .i32 r] w fun e w' => e = .returned (.int .i64 (-1)) ∧ Below w.heap.size w w' := by
  have h1 : ¬ (r : Int) < 128 := by omega
  have h2 : ((r : Int) == 65533) = false := by simp; omega
  obtain ⟨R, hRR⟩ : ∃ R, Utf8.encode (r : Int) = R := ⟨_, rfl⟩
  rw [hRR] at hR
  have hv' : Calls Tryz.prog 124 #[.int .i32 r] w fun e w' => e = .returned (.bool true) ∧ w' = w := by
    have := Any.utf8_ValidRune Tryz.lays119 (r : Int) w
    rw [hv] at this
    exact this
  rcases (show k = 3 ∨ k = 4 by omega) with rfl | rfl
  · go_enter Tryz.func115, Tryz.ntmps115
    go_wp2_with (go_at_call 124; refine hv'.mono ?_; rintro e w' ⟨rfl, rfl⟩)
    go_step3
    go_wp2
    go_loop [9] (fun i => i = .int .i64 2) (fun _ => 0)
    case atStart => rfl
    case round =>
      subst hrel
      go_wp2
      go_ret
      exact ⟨rfl, Below.refl _ _⟩
  · go_enter Tryz.func115, Tryz.ntmps115
    go_wp2_with (go_at_call 124; refine hv'.mono ?_; rintro e w' ⟨rfl, rfl⟩)
    go_step3
    go_wp2
    go_loop [9] (fun i => i = .int .i64 3) (fun _ => 0)
    case atStart => rfl
    case round =>
      subst hrel
      go_wp2
      go_ret
      exact ⟨rfl, Below.refl _ _⟩

end Go.Proofs.YtfpclkkkenekpaaGreat
