/- TypeName of both sides. -/
import Derived.Test.YtccjiicjlifmiaaGreatDoorByts
import Derived.Handy
set_option linter.unusedVariables false
set_option linter.unusedSimpArgs false
namespace Go.Proofs.YtccjiicjlifmiaaGreatDoor
open Go.RowKit

/-- The kinds' names. -/
def names : List ByteArray := [⟨#[99, 111, 110, 110, 101, 99, 116]⟩, ⟨#[99, 111, 110, 110, 97, 99, 107]⟩, ⟨#[112, 117, 98, 108, 105, 115, 104]⟩, ⟨#[112, 117, 98, 97, 99, 107]⟩, ⟨#[112, 117, 98, 114, 101, 99]⟩, ⟨#[112, 117, 98, 114, 101, 108]⟩, ⟨#[112, 117, 98, 99, 111, 109, 112]⟩, ⟨#[115, 117, 98, 115, 99, 114, 105, 98, 101]⟩, ⟨#[115, 117, 98, 97, 99, 107]⟩, ⟨#[117, 110, 115, 117, 98, 115, 99, 114, 105, 98, 101]⟩, ⟨#[117, 110, 115, 117, 98, 97, 99, 107]⟩, ⟨#[112, 105, 110, 103, 114, 101, 113]⟩, ⟨#[112, 105, 110, 103, 114, 101, 115, 112]⟩, ⟨#[100, 105, 115, 99, 111, 110, 110, 101, 99, 116]⟩]
/-- A kind's name (nothing of others). -/
def nameOf (n : Int) : ByteArray := if 1 ≤ n ∧ n ≤ 14 then names.getD (n - 1).toNat ByteArray.empty else ByteArray.empty
theorem nameOf_no {n : Int} (h : ¬ (1 ≤ n ∧ n ≤ 14)) : nameOf n = ByteArray.empty := if_neg h
theorem kinds14 {n : Int} (h : 1 ≤ n ∧ n ≤ 14) : n = 1 ∨ n = 2 ∨ n = 3 ∨ n = 4 ∨ n = 5 ∨ n = 6 ∨ n = 7 ∨ n = 8 ∨ n = 9 ∨ n = 10 ∨ n = 11 ∨ n = 12 ∨ n = 13 ∨ n = 14 := by omega
/-- The program's table lies in memory. -/
def Named (w : World) : Prop := ∀ i, i < 14 → w.cell? ⟨0, i, none⟩ = some (.string (names.getD i ByteArray.empty))
theorem Named.below {w w' : World} {B : Nat} (h : Named w) (hb : Below B w w') (hB : 0 < B) : Named w' := fun i hi => (hb.cell (p := ⟨0, i, none⟩) hB).trans (h i hi)
set_option maxHeartbeats 1000000 in
/-- impl.TypeName. -/
theorem name_iTypeName (n : Int) (w : World) (hN : Named w) :
    Calls Tryz.prog 22 #[.int .i64 n] w fun e w' => e = .returned (.string (nameOf n)) ∧ w' = w := by
  by_cases h : 1 ≤ n ∧ n ≤ 14
  · rcases kinds14 h with rfl | rfl | rfl | rfl | rfl | rfl | rfl | rfl | rfl | rfl | rfl | rfl | rfl | rfl
    · have hc : w.cell? ⟨0, 0, none⟩ = some (.string ⟨#[99, 111, 110, 110, 101, 99, 116]⟩) := hN 0 (by decide)
      clear hN h
      go_enter Tryz.func22, Tryz.ntmps22
      go_wp2
      go_ret
      exact ⟨rfl, rfl⟩
    · have hc : w.cell? ⟨0, 1, none⟩ = some (.string ⟨#[99, 111, 110, 110, 97, 99, 107]⟩) := hN 1 (by decide)
      clear hN h
      go_enter Tryz.func22, Tryz.ntmps22
      go_wp2
      go_ret
      exact ⟨rfl, rfl⟩
    · have hc : w.cell? ⟨0, 2, none⟩ = some (.string ⟨#[112, 117, 98, 108, 105, 115, 104]⟩) := hN 2 (by decide)
      clear hN h
      go_enter Tryz.func22, Tryz.ntmps22
      go_wp2
      go_ret
      exact ⟨rfl, rfl⟩
    · have hc : w.cell? ⟨0, 3, none⟩ = some (.string ⟨#[112, 117, 98, 97, 99, 107]⟩) := hN 3 (by decide)
      clear hN h
      go_enter Tryz.func22, Tryz.ntmps22
      go_wp2
      go_ret
      exact ⟨rfl, rfl⟩
    · have hc : w.cell? ⟨0, 4, none⟩ = some (.string ⟨#[112, 117, 98, 114, 101, 99]⟩) := hN 4 (by decide)
      clear hN h
      go_enter Tryz.func22, Tryz.ntmps22
      go_wp2
      go_ret
      exact ⟨rfl, rfl⟩
    · have hc : w.cell? ⟨0, 5, none⟩ = some (.string ⟨#[112, 117, 98, 114, 101, 108]⟩) := hN 5 (by decide)
      clear hN h
      go_enter Tryz.func22, Tryz.ntmps22
      go_wp2
      go_ret
      exact ⟨rfl, rfl⟩
    · have hc : w.cell? ⟨0, 6, none⟩ = some (.string ⟨#[112, 117, 98, 99, 111, 109, 112]⟩) := hN 6 (by decide)
      clear hN h
      go_enter Tryz.func22, Tryz.ntmps22
      go_wp2
      go_ret
      exact ⟨rfl, rfl⟩
    · have hc : w.cell? ⟨0, 7, none⟩ = some (.string ⟨#[115, 117, 98, 115, 99, 114, 105, 98, 101]⟩) := hN 7 (by decide)
      clear hN h
      go_enter Tryz.func22, Tryz.ntmps22
      go_wp2
      go_ret
      exact ⟨rfl, rfl⟩
    · have hc : w.cell? ⟨0, 8, none⟩ = some (.string ⟨#[115, 117, 98, 97, 99, 107]⟩) := hN 8 (by decide)
      clear hN h
      go_enter Tryz.func22, Tryz.ntmps22
      go_wp2
      go_ret
      exact ⟨rfl, rfl⟩
    · have hc : w.cell? ⟨0, 9, none⟩ = some (.string ⟨#[117, 110, 115, 117, 98, 115, 99, 114, 105, 98, 101]⟩) := hN 9 (by decide)
      clear hN h
      go_enter Tryz.func22, Tryz.ntmps22
      go_wp2
      go_ret
      exact ⟨rfl, rfl⟩
    · have hc : w.cell? ⟨0, 10, none⟩ = some (.string ⟨#[117, 110, 115, 117, 98, 97, 99, 107]⟩) := hN 10 (by decide)
      clear hN h
      go_enter Tryz.func22, Tryz.ntmps22
      go_wp2
      go_ret
      exact ⟨rfl, rfl⟩
    · have hc : w.cell? ⟨0, 11, none⟩ = some (.string ⟨#[112, 105, 110, 103, 114, 101, 113]⟩) := hN 11 (by decide)
      clear hN h
      go_enter Tryz.func22, Tryz.ntmps22
      go_wp2
      go_ret
      exact ⟨rfl, rfl⟩
    · have hc : w.cell? ⟨0, 12, none⟩ = some (.string ⟨#[112, 105, 110, 103, 114, 101, 115, 112]⟩) := hN 12 (by decide)
      clear hN h
      go_enter Tryz.func22, Tryz.ntmps22
      go_wp2
      go_ret
      exact ⟨rfl, rfl⟩
    · have hc : w.cell? ⟨0, 13, none⟩ = some (.string ⟨#[100, 105, 115, 99, 111, 110, 110, 101, 99, 116]⟩) := hN 13 (by decide)
      clear hN h
      go_enter Tryz.func22, Tryz.ntmps22
      go_wp2
      go_ret
      exact ⟨rfl, rfl⟩
  · rw [nameOf_no h]
    clear hN
    by_cases h1 : n < 1
    · clear h
      go_enter Tryz.func22, Tryz.ntmps22
      go_wp2
      go_ret
      exact ⟨rfl, rfl⟩
    · have h2 : 14 < n := by omega
      clear h
      go_enter Tryz.func22, Tryz.ntmps22
      go_wp2
      go_ret
      exact ⟨rfl, rfl⟩
end Go.Proofs.YtccjiicjlifmiaaGreatDoor
