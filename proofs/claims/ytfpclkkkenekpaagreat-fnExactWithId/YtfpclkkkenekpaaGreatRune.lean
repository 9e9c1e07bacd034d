/- impl.RuneAt. -/
import Derived.Test.YtfpclkkkenekpaaGreatAid
import Derived.Laws.BytesArg
set_option linter.unusedVariables false
set_option linter.unusedSimpArgs false
namespace Go.Proofs.YtfpclkkkenekpaaGreat
open Go.RowKit

theorem rune_len {l : List UInt8} {r k : Nat} (h : runeL l = some (r, k)) :
    (r ≤ 127 ∧ k = 1) ∨ (128 ≤ r ∧ r ≤ 2047 ∧ k = 2) ∨ (2048 ≤ r ∧ r ≤ 65535 ∧ (r < 55296 ∨ 57343 < r) ∧ k = 3) ∨ (65536 ≤ r ∧ r ≤ 1114111 ∧ k = 4) := by
  have q0 := bt_lt l 0; have q1 := bt_lt l 1; have q2 := bt_lt l 2; have q3 := bt_lt l 3
  unfold runeL at h
  split at h
  · simp at h
  unfold rune4 at h
  repeat' split at h
  all_goals first | (simp only [Option.some.injEq, Prod.mk.injEq] at h; omega) | (simp only [reduceCtorEq] at h)

theorem bt_take (l : List UInt8) (k i : Nat) (h : i < k) : bt (l.take k) i = bt l i := by
  simp only [bt, List.getD_eq_getElem?_getD, List.getElem?_take, h, if_true]

theorem bt_past (l : List UInt8) (i : Nat) (h : l.length ≤ i) : bt l i = 0 := by
  simp [bt, List.getD_eq_getElem?_getD, List.getElem?_eq_none h]

theorem rune4_min (n b0 b1 b2 b3 : Nat) (h : 4 ≤ n) : rune4 4 b0 b1 b2 b3 = rune4 n b0 b1 b2 b3 := by
  have a1 : 1 < n := by omega
  have a2 : 2 < n := by omega
  have a3 : 3 < n := by omega
  unfold rune4
  simp only [show (1 : Nat) < 4 from by decide, show (2 : Nat) < 4 from by decide, show (3 : Nat) < 4 from by decide, a1, a2, a3, true_and]

theorem runeL_take4 (l : List UInt8) (h : 4 ≤ l.length) : runeL (l.take 4) = runeL l := by
  have hl : (l.take 4).length = 4 := by simp; omega
  unfold runeL
  rw [hl, if_neg (by omega), if_neg (by omega), bt_take l 4 0 (by omega), bt_take l 4 1 (by omega), bt_take l 4 2 (by omega), bt_take l 4 3 (by omega)]
  exact rune4_min _ _ _ _ _ h

/-- The bytes m from p on, as a string. -/
def cut (l : List UInt8) (p m : Nat) : ByteArray := ⟨((l.drop p).take m).toArray⟩
theorem cut_data (l : List UInt8) (p m : Nat) : (cut l p m).data.toList = (l.drop p).take m := by simp [cut]
theorem cut_size (l : List UInt8) (p m : Nat) (h : p + m ≤ l.length) : (cut l p m).size = m := by
  show (cut l p m).data.size = m
  simp [cut]
  omega

set_option maxRecDepth 100000 in
/-- string(b[p:p+m]). -/
theorem conv_cut {w : World} {b off n : Nat} {l : List UInt8} (hl : l.length = n) (hc : ∀ i, i < n → w.cell? ⟨b, off + i, none⟩ = some (.int .u8 (bt l i))) (p m : Nat) (hpm : p + m ≤ n) (c : Nat) :
    (convert 22 9 (.slice (some ⟨b, off + p, none⟩) m c)).run Tryz.prog w = .ok (.string (cut l p m)) w := by
  have h := run_convert_bytes_arg (P := Tryz.prog) w 22 5 Tryz.underlying22 Tryz.underlying5 b (off + p) m c (((l.drop p).take m).map fun u => (u.toNat : Int)) (by simp; omega) (fun i hi => by
    rw [Nat.add_assoc, hc (p + i) (by omega)]
    have e : i < ((l.drop p).take m).length := by simp; omega
    simp only [bt, List.getD_eq_getElem?_getD, List.getElem?_map, List.getElem?_take, hi, if_true, List.getElem?_drop]
    rw [List.getElem?_eq_getElem (show p + i < l.length by omega)]
    rfl) 9 Tryz.underlying9
  rw [h]
  congr 2
  simp only [strOfNums, cut, List.map_map]
  congr 2
  apply List.ext_getElem
  · simp
  · intro i h1 h2; simp

theorem ansR_form (l : List UInt8) (p : Nat) : ∃ (x y : Int) (o : Bool), ansR l p = .returned (.tuple #[.int .i64 x, .int .i64 y, .bool o]) := by
  unfold ansR
  split
  · exact ⟨_, _, _, rfl⟩
  · exact ⟨_, _, _, rfl⟩

theorem below_next {w w1 w2 : World} (h1 : Below w.heap.size w w1) (h2 : Below w1.heap.size w1 w2) : Below w.heap.size w w2 := h1.trans (h2.mono h1.size)

end Go.Proofs.YtfpclkkkenekpaaGreat
