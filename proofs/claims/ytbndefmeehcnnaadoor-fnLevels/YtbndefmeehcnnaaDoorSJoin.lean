/- How much a list of strings is; levels put together by the specification. -/
import Derived.Test.YtbndefmeehcnnaaDoorSMem
set_option linter.unusedVariables false
set_option linter.unusedSimpArgs false
namespace Go.Proofs.YtbndefmeehcnnaaDoor
open Go.RowKit

/-- The letters of all. -/
def tot (ss : List ByteArray) : Nat := (ss.map ByteArray.size).sum
theorem tot_take (ss : List ByteArray) (k : Nat) (h : k < ss.length) : tot (ss.take (k + 1)) = tot (ss.take k) + (st ss k).size := by
  have e : st ss k = ss[k]'h := by simp [st, List.getD_eq_getElem?_getD, List.getElem?_eq_getElem h]
  rw [List.take_succ_eq_append_getElem h, e]
  simp only [tot, List.map_append, List.map_cons, List.map_nil, List.sum_append, List.sum_cons, List.sum_nil, Nat.add_zero]
theorem tot_le (ss : List ByteArray) (k : Nat) : tot (ss.take k) ≤ tot ss := by
  have : tot ss = tot (ss.take k) + tot (ss.drop k) := by
    unfold tot
    rw [← List.sum_append, ← List.map_append, List.take_append_drop]
  omega
theorem st_mem {ss : List ByteArray} {k : Nat} (h : k < ss.length) : st ss k ∈ ss := by
  have e : st ss k = ss[k]'h := by simp [st, List.getD_eq_getElem?_getD, List.getElem?_eq_getElem h]
  rw [e]; exact List.getElem_mem h

theorem glue_first (l : List ByteArray) (h : 0 < l.length) : glue (dats (l.take 1)) = (st l 0).data.toList := by
  match l, h with
  | x :: r, _ => rfl
theorem glue_step (l : List ByteArray) (k : Nat) (h0 : 0 < k) (h : k < l.length) : glue (dats (l.take (k + 1))) = glue (dats (l.take k)) ++ 47 :: (st l k).data.toList := by
  have e : st l k = l[k]'h := by simp [st, List.getD_eq_getElem?_getD, List.getElem?_eq_getElem h]
  rw [List.take_succ_eq_append_getElem h, e]
  rw [show dats (l.take k ++ [l[k]'h]) = dats (l.take k) ++ [(l[k]'h).data.toList] by simp only [dats, List.map_append, List.map_cons, List.map_nil]]
  exact glue_snoc _ _ (by intro e; have := congrArg List.length e; rw [dats_length, List.length_take, List.length_nil] at this; omega)
theorem cat_data (a b : ByteArray) : (a ++ b).data.toList = a.data.toList ++ b.data.toList := by simp

end Go.Proofs.YtbndefmeehcnnaaDoor
