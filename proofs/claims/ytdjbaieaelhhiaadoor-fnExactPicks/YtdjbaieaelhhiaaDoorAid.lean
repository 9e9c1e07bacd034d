/- Contracts of the laws' own helpers over lists of bytes: copied, compared, marked, looked at again. -/
import Derived.Test.YtdjbaieaelhhiaaDoorMem
set_option linter.unusedVariables false
set_option linter.unusedSimpArgs false
namespace Go.Proofs.YtdjbaieaelhhiaaDoor
open Go.RowKit

theorem Own.frozen {w : World} {B : Nat} {g n cap : Nat} {l : List UInt8} (h : Own w B (some ⟨g, 0, none⟩) n cap l) (j : Nat) : w.frozen? ⟨g, j, none⟩ = false := h.2.frozenAt j
theorem Own.cell {w : World} {B : Nat} {g n cap : Nat} {l : List UInt8} (h : Own w B (some ⟨g, 0, none⟩) n cap l) (j : Nat) (hj : j < n) : w.cell? ⟨g, j, none⟩ = some (.int .u8 (bt l j)) := by
  rw [h.2.cellAt j (by omega), bvals_at l j (by rw [h.1]; exact hj)]

/-- A byte stored into what is owned. -/
theorem Own.store {w : World} {B : Nat} {g n cap : Nat} {l : List UInt8} (h : Own w B (some ⟨g, 0, none⟩) n cap l) (j : Nat) (u : UInt8) :
    Own (w.setCell ⟨g, j, none⟩ (.int .u8 u.toNat)) B (some ⟨g, 0, none⟩) n cap (l.set j u) := by
  refine ⟨by simpa using h.1, ?_⟩
  have := (h.2.stored j (.int .u8 u.toNat)).1
  have e : (bvals l).set j (.int .u8 u.toNat) = bvals (l.set j u) := by simp [bvals, List.map_set]
  rw [e] at this
  exact this

theorem byte_of (l : List UInt8) (i : Nat) : ((l.getD i 0).toNat : Int) = (bt l i : Int) := rfl

theorem set_take (l : List UInt8) (n k : Nat) (hl : l.length = n) (hk : k < n) : (l.take k ++ List.replicate (n - k) 0).set k (l.getD k 0) = l.take (k + 1) ++ List.replicate (n - (k + 1)) 0 := by
  rw [List.set_append_right _ _ (by simp; omega)]
  rw [List.length_take, hl, Nat.min_eq_left (by omega), Nat.sub_self]
  rw [show n - k = (n - (k + 1)) + 1 from by omega, List.replicate_succ, List.set_cons_zero]
  rw [List.take_succ_eq_append_getElem (by omega)]
  have e : l.getD k 0 = l[k]'(by omega) := by simp [List.getD_eq_getElem?_getD, List.getElem?_eq_getElem (show k < l.length by omega)]
  rw [e, List.append_assoc]
  rfl

/-- The marks from k on. -/
def marks (k n : Nat) : List UInt8 := (List.range n).map fun i => UInt8.ofNat (k + i)
theorem marks_length (k n : Nat) : (marks k n).length = n := by simp [marks]
theorem marks_at (k n i : Nat) (h : i < n) : bt (marks k n) i = (k + i) % 256 := by
  simp [bt, marks, List.getD_eq_getElem?_getD, h]

theorem marks_set (l : List UInt8) (k n j : Nat) (hl : l.length = n) (hj : j < n) : (marks k j ++ l.drop j).set j (UInt8.ofNat (k + j)) = marks k (j + 1) ++ l.drop (j + 1) := by
  rw [List.set_append_right _ _ (by rw [marks_length]; exact Nat.le_refl _), marks_length, Nat.sub_self]
  rw [List.drop_eq_getElem_cons (by omega), List.set_cons_zero]
  simp only [marks, List.range_succ, List.map_append, List.map_cons, List.map_nil, List.append_assoc]
  rfl

end Go.Proofs.YtdjbaieaelhhiaaDoor
