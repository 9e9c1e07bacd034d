/- How much a list of strings is; levels put together by the specification. -/
import Derived.Test.YtfpclkkkenekpaaGreatSMem
set_option linter.unusedVariables false
set_option linter.unusedSimpArgs false
namespace Go.Proofs.YtfpclkkkenekpaaGreat
open Go.RowKit

/-- The letters of all. -/
def tot (ss : List ByteArray) : Nat := (ss.map ByteArray.size).sum
theorem tot_take (ss : List ByteArray) (k : Nat) (h : k < ss.length) : tot (ss.take (k + 1)) = tot (ss.take k) + (st ss k).size := by
  have e : st ss k = ss[k]'h := by simp [st, List.getD_eq_getElem?_getD, List.getElem?_eq_getElem h]
  rw [List.take_succ_eq_append_getElem h, e]
  simp only [tot, List.map_append, List.map_cons, List.map_nil, List.sum_append, List.sum_cons, List.sum_nil, Nat.add_zero]
theorem tot_le (ss : List ByteArray) (k : Nat) : tot (ss.take k) ≤ tot ss := by
  have : tot ss = tot (ss.take k) + tot (ss.drop k) := by
    unfold tot
    rw [← List.sum_append, ← List.map_append, List.take_append_drop]
  omega
theorem st_mem {ss : List ByteArray} {k : Nat} (h : k < ss.length) : st ss k ∈ ss := by
  have e : st ss k = ss[k]'h := by simp [st, List.getD_eq_getElem?_getD, List.getElem?_eq_getElem h]
  rw [e]; exact List.getElem_mem h

set_option maxHeartbeats 400000 in
/-- laws.szStringS, of 1048576: less than none, or there is no more of it. -/
theorem sz_lszStringS (ao : Option Addr) (n cap : Nat) (l : List ByteArray) (w : World) (hr : SRd w ao n cap l) (hs : ∀ s ∈ l, s.size ≤ maxLen) :
    Calls Tryz.prog 26 #[.slice ao n cap, .int .i64 1048576] w fun e w' => ∃ r : Int, e = .returned (.int .i64 r) ∧ w' = w ∧ (r < 0 ∨ 0 ≤ r ∧ n + tot l ≤ 1048576) := by
  have hl : l.length = n := hr.1.1
  have HL : Hid (l.length = n) := hl
  have hcap : n ≤ maxLen := Nat.le_trans hr.2.1 hr.2.2.1
  unfold maxLen at hcap
  clear hl
  by_cases hbig : 1048576 < n
  · have h' : (1048576 : Int) - n < 0 := by omega
    go_enter Tryz.func26, Tryz.ntmps26
    go_wp2
    go_ret
    exact ⟨_, rfl, rfl, .inl (by decide)⟩
  · have h' : ¬ (1048576 : Int) - n < 0 := by omega
    go_enter Tryz.func26, Tryz.ntmps26
    go_wp2
    go_loop [1, 5] (fun q i => ∃ k L : Nat, i = .int .i64 k ∧ q = .int .i64 L ∧ k ≤ n ∧ L + n + tot (l.take k) = 1048576) (fun _ i => n - (intOf i).toNat)
    case atStart => exact ⟨0, 1048576 - n, rfl, by go_num, Nat.zero_le _, by simp [tot]; omega⟩
    case round =>
      obtain ⟨k, L, rfl, rfl, hk, hT⟩ := hrel
      by_cases hlt : k < n
      · obtain ⟨b, off, e, hc⟩ := hr.1.2 k hlt
        subst e
        have hlt' : (k : Int) < n := by omega
        have hsz := hs _ (st_mem (show k < l.length by rw [HL.out]; exact hlt))
        unfold maxLen at hsz
        have hst := tot_take l k (by rw [HL.out]; exact hlt)
        obtain ⟨x, hx⟩ : ∃ x, st l k = x := ⟨_, rfl⟩
        rw [hx] at hc hsz hst
        have HT : Hid (tot (l.take (k + 1)) = tot (l.take k) + x.size) := hst
        clear hst hx
        by_cases hneg : L < x.size
        · have hn' : (L : Int) - x.size < 0 := by omega
          go_wp2
          go_ret
          exact ⟨_, rfl, rfl, .inl (by decide)⟩
        · have hn' : ¬ (L : Int) - x.size < 0 := by omega
          go_wp2
          go_round
          case rel => exact ⟨k + 1, L - x.size, by go_num, by go_num, by omega, by have := HT.out; omega⟩
          case measure => simp [intOf]; omega
      · have hlt' : ¬ (k : Int) < n := by omega
        obtain rfl : k = n := by omega
        go_wp2
        go_ret
        refine ⟨_, rfl, rfl, .inr ⟨by omega, ?_⟩⟩
        rw [List.take_of_length_le (by rw [HL.out]; exact Nat.le_refl _)] at hT
        omega

theorem glue_first (l : List ByteArray) (h : 0 < l.length) : glue (dats (l.take 1)) = (st l 0).data.toList := by
  match l, h with
  | x :: r, _ => rfl
theorem glue_step (l : List ByteArray) (k : Nat) (h0 : 0 < k) (h : k < l.length) : glue (dats (l.take (k + 1))) = glue (dats (l.take k)) ++ 47 :: (st l k).data.toList := by
  have e : st l k = l[k]'h := by simp [st, List.getD_eq_getElem?_getD, List.getElem?_eq_getElem h]
  rw [List.take_succ_eq_append_getElem h, e]
  rw [show dats (l.take k ++ [l[k]'h]) = dats (l.take k) ++ [(l[k]'h).data.toList] by simp only [dats, List.map_append, List.map_cons, List.map_nil]]
  exact glue_snoc _ _ (by intro e; have := congrArg List.length e; rw [dats_length, List.length_take, List.length_nil] at this; omega)
theorem cat_data (a b : ByteArray) : (a ++ b).data.toList = a.data.toList ++ b.data.toList := by simp

end Go.Proofs.YtfpclkkkenekpaaGreat
