/- Contracts of the functions that look at a string alone. -/
import Derived.Test.YtjjplfedaichcaaDoorRows
import Derived.Test.YtjjplfedaichcaaDoorPlain
import Derived.WalkKit
import Derived.WalkSpells
import Derived.WalkLawsBesides
import Derived.Laws.RangeString
import Derived.Laws.RangeAny
import Derived.Lib.Strings
import Derived.Deep.QuietTactic
import Derived.BigQuiet
set_option linter.unusedVariables false
set_option linter.unusedSimpArgs false
namespace Go.Proofs.YtjjplfedaichcaaDoor
open Go.RowKit

theorem ret_bool {a b : Bool} (h : a = b) : Ending.returned (.bool a) = .returned (.bool b) := by rw [h]
theorem ret_int {k : IntKind} {a b : Int} (h : a = b) : Ending.returned (.int k a) = .returned (.int k b) := by rw [h]

theorem starts_extract (s p : ByteArray) (h : p.size ≤ s.size) : ((s.extract 0 p.size).toList == p.toList) = starts s.data.toList p.data.toList := by
  have e1 : s.size = s.data.toList.length := rfl
  have e2 : p.size = p.data.toList.length := rfl
  rw [ByteArray.toList_eq, ByteArray.toList_eq, Lib.extract_data]
  simp only [starts, List.drop_zero, Nat.sub_zero]
  rw [e1, e2] at h
  rw [e2, decide_eq_true h, Bool.true_and]

theorem iter_below (w : World) (s : ByteArray) (p : Nat) : Below w.heap.size w (w.iter s p) := (Below.refl _ _).alloc (Nat.le_refl _) _

theorem drop_size (s : ByteArray) (p : Nat) : (s.extract p s.size).data.toList = s.data.toList.drop p := by
  rw [Lib.extract_data]
  apply List.take_of_length_le
  rw [List.length_drop]
  exact Nat.le_refl _

end Go.Proofs.YtjjplfedaichcaaDoor
