/- Contracts of the laws' own helpers over lists of bytes: copied, compared, marked, looked at again. -/
import Derived.Test.YtfpclkkkenekpaaGreatMem
set_option linter.unusedVariables false
set_option linter.unusedSimpArgs false
namespace Go.Proofs.YtfpclkkkenekpaaGreat
open Go.RowKit

theorem Own.frozen {w : World} {B : Nat} {g n cap : Nat} {l : List UInt8} (h : Own w B (some ⟨g, 0, none⟩) n cap l) (j : Nat) : w.frozen? ⟨g, j, none⟩ = false := h.2.frozenAt j
theorem Own.cell {w : World} {B : Nat} {g n cap : Nat} {l : List UInt8} (h : Own w B (some ⟨g, 0, none⟩) n cap l) (j : Nat) (hj : j < n) : w.cell? ⟨g, j, none⟩ = some (.int .u8 (bt l j)) := by
  rw [h.2.cellAt j (by omega), bvals_at l j (by rw [h.1]; exact hj)]

/-- A byte stored into what is owned. -/
theorem Own.store {w : World} {B : Nat} {g n cap : Nat} {l : List UInt8} (h : Own w B (some ⟨g, 0, none⟩) n cap l) (j : Nat) (u : UInt8) :
    Own (w.setCell ⟨g, j, none⟩ (.int .u8 u.toNat)) B (some ⟨g, 0, none⟩) n cap (l.set j u) := by
  refine ⟨by simpa using h.1, ?_⟩
  have := (h.2.stored j (.int .u8 u.toNat)).1
  have e : (bvals l).set j (.int .u8 u.toNat) = bvals (l.set j u) := by simp [bvals, List.map_set]
  rw [e] at this
  exact this

theorem byte_of (l : List UInt8) (i : Nat) : ((l.getD i 0).toNat : Int) = (bt l i : Int) := rfl

theorem set_take (l : List UInt8) (n k : Nat) (hl : l.length = n) (hk : k < n) : (l.take k ++ List.replicate (n - k) 0).set k (l.getD k 0) = l.take (k + 1) ++ List.replicate (n - (k + 1)) 0 := by
  rw [List.set_append_right _ _ (by simp; omega)]
  rw [List.length_take, hl, Nat.min_eq_left (by omega), Nat.sub_self]
  rw [show n - k = (n - (k + 1)) + 1 from by omega, List.replicate_succ, List.set_cons_zero]
  rw [List.take_succ_eq_append_getElem (by omega)]
  have e : l.getD k 0 = l[k]'(by omega) := by simp [List.getD_eq_getElem?_getD, List.getElem?_eq_getElem (show k < l.length by omega)]
  rw [e, List.append_assoc]
  rfl

set_option maxHeartbeats 400000 in
/-- laws.toByteS -/
theorem to_ltoByteS (ao : Option Addr) (n cap : Nat) (l : List UInt8) (w : World) (hr : RdIn w ao n cap l) (hn : n ≤ 1099511627776) :
    Calls Tryz.prog 34 #[.slice ao n cap] w fun e w' => e = .returned (.slice (some ⟨w.heap.size, 0, none⟩) n n) ∧ Own w' w.heap.size (some ⟨w.heap.size, 0, none⟩) n n l ∧ Below w.heap.size w w' := by
  have hl := hr.1.1
  have HL : Hid (l.length = n) := hl
  clear hl
  go_enter Tryz.func34, Tryz.ntmps34
  go_wp2_with (at_make; refine w_maken _ rfl _ _ rfl _ n rfl rfl rfl (by omega) ?_)
  intro w1 hown hb1
  go_wp2
  go_loopw [4] (fun i wr => ∃ k : Nat, i = .int .i64 k ∧ k ≤ n ∧ Own wr w.heap.size (some ⟨w.heap.size, 0, none⟩) n n (l.take k ++ List.replicate (n - k) 0) ∧ Below w.heap.size w wr) (fun i _ => n - (intOf i).toNat)
  case atStart => exact ⟨0, rfl, Nat.zero_le _, by simpa using hown, hb1⟩
  case round =>
    obtain ⟨k, rfl, hk, ho, hb⟩ := hrel
    clear hown hb1
    by_cases hlt : k < n
    · obtain ⟨b, off, e, hc⟩ := hr.1.2 k hlt
      subst e
      have hck : wr.cell? ⟨b, off + k, none⟩ = some (.int .u8 (bt l k)) := (hb.cell (World.block_lt_of_cell? w _ hc)).trans hc
      have hlt' : (k : Int) < n := by omega
      have hz := ho.cell k hlt
      have hf := ho.frozen k
      have HO := ho.store k (l.getD k 0)
      rw [set_take l n k HL.out hlt, byte_of] at HO
      have HO' : Hid (Own (wr.setCell ⟨w.heap.size, k, none⟩ (.int .u8 (bt l k))) w.heap.size (some ⟨w.heap.size, 0, none⟩) n n (l.take (k + 1) ++ List.replicate (n - (k + 1)) 0)) := HO
      clear HO hc ho
      go_wp2
      go_roundw
      case rel => exact ⟨k + 1, by go_num, by omega, HO'.out, hb.setCell (Nat.le_refl _) _⟩
      case measure => simp [intOf]; omega
    · have hlt' : ¬ (k : Int) < n := by omega
      obtain rfl : k = n := by omega
      go_wp2
      go_ret
      refine ⟨rfl, ?_, hb⟩
      have := HL.out
      rw [Nat.sub_self, List.take_of_length_le (by omega)] at ho
      simpa using ho

set_option maxHeartbeats 400000 in
/-- laws.eqByteS, of the same bytes. -/
theorem eq_leqByteS (ao a1 : Option Addr) (n cap cap1 : Nat) (l : List UInt8) (w : World) (hr : RdIn w ao n cap l) (h1 : RdIn w a1 n cap1 l) (hn : n ≤ 1099511627776) :
    Calls Tryz.prog 10 #[.slice ao n cap, .slice a1 n cap1] w fun e w' => e = .returned (.bool true) ∧ Below w.heap.size w w' := by
  have hne : ((n : Int) != n) = false := by simp
  go_enter Tryz.func10, Tryz.ntmps10
  go_wp2
  go_loopw [5] (fun i wr => ∃ k : Nat, i = .int .i64 k ∧ k ≤ n ∧ Below w.heap.size w wr) (fun i _ => n - (intOf i).toNat)
  case atStart => exact ⟨0, rfl, Nat.zero_le _, Below.refl _ _⟩
  case round =>
    obtain ⟨k, rfl, hk, hb⟩ := hrel
    by_cases hlt : k < n
    · obtain ⟨b, off, e, hc⟩ := hr.1.2 k hlt
      subst e
      obtain ⟨b1, off1, e1, hc1⟩ := h1.1.2 k hlt
      subst e1
      have hck : wr.cell? ⟨b, off + k, none⟩ = some (.int .u8 (bt l k)) := (hb.cell (World.block_lt_of_cell? w _ hc)).trans hc
      have hck1 : wr.cell? ⟨b1, off1 + k, none⟩ = some (.int .u8 (bt l k)) := (hb.cell (World.block_lt_of_cell? w _ hc1)).trans hc1
      have hlt' : (k : Int) < n := by omega
      have k0 : (0 : Int) ≤ k := by omega
      have hbn : (((bt l k : Nat) : Int) != ((bt l k : Nat) : Int)) = false := by simp
      clear hc hc1
      go_wp2
      go_quiet (fail)
      go_wp2
      go_roundw
      case rel => exact ⟨k + 1, by go_num, by omega, below_drewN hb _⟩
      case measure => simp [intOf]; omega
    · have hlt' : ¬ (k : Int) < n := by omega
      go_wp2
      go_ret
      exact ⟨rfl, hb⟩

/-- The marks from k on. -/
def marks (k n : Nat) : List UInt8 := (List.range n).map fun i => UInt8.ofNat (k + i)
theorem marks_length (k n : Nat) : (marks k n).length = n := by simp [marks]
theorem marks_at (k n i : Nat) (h : i < n) : bt (marks k n) i = (k + i) % 256 := by
  simp [bt, marks, List.getD_eq_getElem?_getD, h]

theorem marks_set (l : List UInt8) (k n j : Nat) (hl : l.length = n) (hj : j < n) : (marks k j ++ l.drop j).set j (UInt8.ofNat (k + j)) = marks k (j + 1) ++ l.drop (j + 1) := by
  rw [List.set_append_right _ _ (by rw [marks_length]; exact Nat.le_refl _), marks_length, Nat.sub_self]
  rw [List.drop_eq_getElem_cons (by omega), List.set_cons_zero]
  simp only [marks, List.range_succ, List.map_append, List.map_cons, List.map_nil, List.append_assoc]
  rfl

set_option maxHeartbeats 400000 in
/-- laws.markByteS. -/
theorem mark_lmarkByteS (B : Nat) (ao : Option Addr) (n cap k : Nat) (l : List UInt8) (w : World) (ho : Own w B ao n cap l) (hn : n ≤ 1099511627776) (hk : k ≤ 1099511627776) :
    Calls Tryz.prog 13 #[.slice ao n cap, .int .i64 k] w fun e w' => e = .returned (.int .i64 ((k + n : Nat) : Int)) ∧ Own w' B ao n cap (marks k n) ∧ w.grownBy w' (Value.slice ao n cap).ownBlock := by
  have HL : Hid (l.length = n) := ho.1
  go_enter Tryz.func13, Tryz.ntmps13
  go_wp2
  go_loopw [1, 5] (fun q i wr => ∃ j : Nat, i = .int .i64 j ∧ q = .int .i64 ((k + j : Nat) : Int) ∧ j ≤ n ∧ Own wr B ao n cap (marks k j ++ l.drop j) ∧ w.grownBy wr (Value.slice ao n cap).ownBlock) (fun _ i _ => n - (intOf i).toNat)
  case atStart => exact ⟨0, rfl, rfl, Nat.zero_le _, by simpa [marks] using ho, World.grownBy.refl _ _⟩
  case round =>
    obtain ⟨j, rfl, rfl, hj, hoj, hg⟩ := hrel
    by_cases hlt : j < n
    · obtain ⟨g, e⟩ : ∃ g, ao = some ⟨g, 0, none⟩ := by
        rcases ho.2.2 with ⟨_, h0⟩ | ⟨g, c, cur, e, _⟩
        · omega
        · simp only [Value.slice.injEq] at e; exact ⟨g, e.1⟩
      subst e
      have hlt' : (j : Int) < n := by omega
      have hz := hoj.cell j hlt
      have hf := hoj.frozen j
      have HO := hoj.store j (UInt8.ofNat (k + j))
      rw [marks_set l k n j HL.out hlt] at HO
      have eb : ((UInt8.ofNat (k + j)).toNat : Int) = ((k + j : Nat) : Int) % 256 := by simp
      rw [eb] at HO
      have HO' : Hid (Own (wr.setCell ⟨g, j, none⟩ (.int .u8 (((k + j : Nat) : Int) % 256))) B (some ⟨g, 0, none⟩) n cap (marks k (j + 1) ++ l.drop (j + 1))) := HO
      have HG : Hid (w.grownBy (wr.setCell ⟨g, j, none⟩ (.int .u8 (((k + j : Nat) : Int) % 256))) (some g)) :=
        ⟨hg.os, hg.tape, hg.output, by simpa [World.setCell] using hg.size, fun q hq hne => (Below.heap_setCell _ _ _ q (fun e => hne (by rw [e]))).trans (hg.block q hq hne)⟩
      clear HO eb hoj hg ho
      go_wp2
      go_roundw
      case rel => exact ⟨j + 1, by go_num, by go_num, by omega, by simpa using HO'.out, by simpa [Value.ownBlock] using HG.out⟩
      case measure => simp [intOf]; omega
    · have hlt' : ¬ (j : Int) < n := by omega
      obtain rfl : j = n := by omega
      go_wp2
      go_ret
      refine ⟨by simp, ?_, hg⟩
      have := HL.out
      rw [List.drop_of_length_le (by omega), List.append_nil] at hoj
      exact hoj

set_option maxHeartbeats 400000 in
/-- laws.heldByteS, of the marks themselves. -/
theorem held_lheldByteS (ao : Option Addr) (n cap k : Nat) (w : World) (hr : RdIn w ao n cap (marks k n)) (hn : n ≤ 1099511627776) (hk : k ≤ 1099511627776) :
    Calls Tryz.prog 14 #[.slice ao n cap, .int .i64 k] w fun e w' => e = .returned (.int .i64 ((k + n : Nat) : Int)) ∧ w' = w := by
  go_enter Tryz.func14, Tryz.ntmps14
  go_wp2
  go_loop [1, 5] (fun q i => ∃ j : Nat, i = .int .i64 j ∧ q = .int .i64 ((k + j : Nat) : Int) ∧ j ≤ n) (fun _ i => n - (intOf i).toNat)
  case atStart => exact ⟨0, rfl, rfl, Nat.zero_le _⟩
  case round =>
    obtain ⟨j, rfl, rfl, hj⟩ := hrel
    by_cases hlt : j < n
    · obtain ⟨b, off, e, hc⟩ := hr.1.2 j hlt
      subst e
      rw [marks_at k n j hlt] at hc
      have hlt' : (j : Int) < n := by omega
      go_wp2
      go_round
      case rel => exact ⟨j + 1, by go_num, by go_num, by omega⟩
      case measure => simp [intOf]; omega
    · have hlt' : ¬ (j : Int) < n := by omega
      obtain rfl : j = n := by omega
      go_wp2
      go_ret
      exact ⟨by simp, rfl⟩

end Go.Proofs.YtfpclkkkenekpaaGreat
