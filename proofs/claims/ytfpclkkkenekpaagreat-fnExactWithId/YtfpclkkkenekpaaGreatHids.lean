/- Hidden of both sides: the first byte is a dollar. -/
import Derived.Test.YtfpclkkkenekpaaGreatStrs
set_option linter.unusedVariables false
set_option linter.unusedSimpArgs false
namespace Go.Proofs.YtfpclkkkenekpaaGreat
open Go.RowKit

theorem at_data (s : ByteArray) (i : Nat) (h : i < s.size) : s.data.toList[i]? = some (s[i]'h) := by
  have e1 : s.size = s.data.toList.length := rfl
  rw [List.getElem?_eq_getElem (by omega)]
  rfl

theorem starts_one (s : ByteArray) (h : 0 < s.size) : starts s.data.toList [36] = (((s[0]'h).toNat : Int) == 36) := by
  have hl : s.data.toList[0]? = some (s[0]'h) := at_data s 0 h
  generalize s[0]'h = x at hl
  generalize s.data.toList = l at hl
  match l, hl with
  | y :: r, hl =>
    simp at hl
    subst hl
    simp only [starts, List.length_cons, List.length_nil, List.take_succ_cons, List.take_zero]
    rw [decide_eq_true (by omega), Bool.true_and]
    by_cases hx : y = 36
    · subst hx; rfl
    · have h1 : ([y] == [36]) = false := by simp [hx]
      have h2 : ((y.toNat : Int) == 36) = false := by
        simp only [beq_eq_false_iff_ne, ne_eq]
        intro e
        apply hx
        apply UInt8.toNat_inj.1
        simpa using (show y.toNat = 36 by omega)
      rw [h1, h2]

theorem starts_empty (s : ByteArray) (h : ¬ 0 < s.size) : starts s.data.toList [36] = false := by
  have e1 : s.size = s.data.toList.length := rfl
  have : s.data.toList = [] := List.eq_nil_of_length_eq_zero (by omega)
  rw [this]
  rfl

end Go.Proofs.YtfpclkkkenekpaaGreat
