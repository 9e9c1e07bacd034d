/- Contracts of the functions that count a text's signs, of both sides. -/
import Derived.Test.YtjjplfedaichcaaByts
import Derived.Laws.IdiomStrings
set_option linter.unusedVariables false
set_option linter.unusedSimpArgs false
namespace Go.Proofs.Ytjjplfedaichcaa
open Go.RowKit

theorem bytesRow_at (s : ByteArray) (cap i : Nat) (h : i < s.size) : (bytesRow s cap)[i]? = some (.int .u8 (bt s.data.toList i)) := by
  have hs : s.size = s.data.size := rfl
  have e : bt s.data.toList i = (s.data[i]'(by omega)).toNat := by
    simp only [bt, List.getD_eq_getElem?_getD]
    rw [List.getElem?_eq_getElem (by simpa using (by omega : i < s.data.size))]
    simp
  simp only [bytesRow]
  rw [Array.getElem?_append_left (by simpa using (by omega : i < s.data.size))]
  rw [Array.getElem?_map, Array.getElem?_eq_getElem (by omega)]
  simp [e]

theorem bytes_made (s : ByteArray) (w : World) : ∃ wb cap, (convert 9 22 (.string s)).run Try.prog w = .ok (.slice (some ⟨w.heap.size, 0, none⟩) s.size cap) wb ∧
    Rd wb (some ⟨w.heap.size, 0, none⟩) s.size s.data.toList ∧ Below w.heap.size w wb := by
  refine ⟨_, _, run_bytes_of_string w 9 22 5 s Try.underlying9 Try.underlying22 Try.underlying5, ⟨rfl, fun i hi => ⟨_, _, rfl, ?_⟩⟩, ?_⟩
  · show (w.drew.alloc _).cell? ⟨w.drew.heap.size, _, none⟩ = _
    rw [Nat.zero_add, World.cell?_alloc_mark]
    exact bytesRow_at s _ i hi
  · exact ((Below.refl _ _).drew).alloc (Nat.le_refl _) _

theorem countI_some {l : List UInt8} (h : ¬ 60 < l.length) {n : Nat} (hc : countF l.length l = some n) : countI l = n := by simp [countI, countT, h, hc]
theorem countI_none {l : List UInt8} (h : ¬ 60 < l.length) (hc : countF l.length l = none) : countI l = -1 := by simp [countI, countT, h, hc]

end Go.Proofs.Ytjjplfedaichcaa
