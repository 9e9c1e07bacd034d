/- strings.IndexRune in a text of two plain signs: a sign of two bytes. -/
import Derived.Test.YtfpclkkkenekpaaGreatIra
set_option linter.unusedVariables false
set_option linter.unusedSimpArgs false
namespace Go.Proofs.YtfpclkkkenekpaaGreat
open Go.RowKit

set_option maxHeartbeats 2000000 in
set_option maxRecDepth 1000000 in
/-- strings.IndexRune, of two plain signs, a sign of two bytes. -/
theorem ir_two (C : ByteArray) (hC : C.size = 2) (r : Nat) (w : World) (h128 : 128 ≤ r) (hne : r ≠ 65533) (hv : Lib.validRune (r : Int) = true) (R : ByteArray) (hRR : Utf8.encode (r : Int) = R) (hR : R.size = 2) (hb : (((C[1]'(by omega)).toNat : Int) != ((R[1]'(by omega)).toNat : Int)) = true) :
    Calls Tryz.prog 115 #[.string C, .int .i32 r] w fun e w' => e = .returned (.int .i64 (-1)) ∧ Below w.heap.size w w' := by
  have h1 : ¬ (r : Int) < 128 := by omega
  have h2 : ((r : Int) == 65533) = false := by simp; omega
  have hv' : Calls Tryz.prog 124 #[.int .i32 r] w fun e w' => e = .returned (.bool true) ∧ w' = w := by
    have := Any.utf8_ValidRune Tryz.lays119 (r : Int) w
    rw [hv] at this
    exact this
  have hib : ∀ (c : Int) (w : World), Calls Tryz.prog 123 #[.string ByteArray.empty, .int .u8 c] w fun e w' => e = .returned (.int .i64 (-1)) ∧ w' = w := fun c w => Any.strings_IndexByte Tryz.lays137 ByteArray.empty c w
  have hw2 : IntKind.i64.wrap 2 = 2 := by decide
  have hz1 : (1 : Int) < (C.size : Int) := by omega
  have hz2 : (1 : Int) < (R.size : Int) := by omega
  go_enter Tryz.func115, Tryz.ntmps115
  go_wp2_with (go_at_call 124; refine hv'.mono ?_; rintro e w' ⟨rfl, rfl⟩)
  go_step3
  go_wp2
  go_loop [9] (fun i => i = .int .i64 1) (fun _ => 0)
  case atStart => rfl
  case round =>
    subst hrel
    go_wp2
    go_step3
    go_wp2_with fail
    go_quiet (fail)
    go_wp2
    go_quiet (first | (go_at_call 123; exact (hib _ _).mono fun e w'' h => ⟨h.1, _, h.2⟩))
    go_wp2
    rw [Exit.noGoto_ret]
    go_wp2
    rw [Exit.noGoto_ret]
    go_wp2
    go_ret
    exact ⟨rfl, below_drewN (Below.refl _ _) _⟩

end Go.Proofs.YtfpclkkkenekpaaGreat
