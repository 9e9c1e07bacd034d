/- impl.RuneAt. -/
import Derived.Test.YtbleangknnjlcaaAid
import Derived.Laws.BytesArg
set_option linter.unusedVariables false
set_option linter.unusedSimpArgs false
namespace Go.Proofs.Ytbleangknnjlcaa
open Go.RowKit

theorem rune_len {l : List UInt8} {r k : Nat} (h : runeL l = some (r, k)) :
    (r ≤ 127 ∧ k = 1) ∨ (128 ≤ r ∧ r ≤ 2047 ∧ k = 2) ∨ (2048 ≤ r ∧ r ≤ 65535 ∧ (r < 55296 ∨ 57343 < r) ∧ k = 3) ∨ (65536 ≤ r ∧ r ≤ 1114111 ∧ k = 4) := by
  have q0 := bt_lt l 0; have q1 := bt_lt l 1; have q2 := bt_lt l 2; have q3 := bt_lt l 3
  unfold runeL at h
  split at h
  · simp at h
  unfold rune4 at h
  repeat' split at h
  all_goals first | (simp only [Option.some.injEq, Prod.mk.injEq] at h; omega) | (simp only [reduceCtorEq] at h)

/-- utf8.RuneLen of a sign. -/
theorem len53 {l : List UInt8} {r k : Nat} (h : runeL l = some (r, k)) (w : World) :
    Calls Try.prog 53 #[.int .i32 r] w fun e w' => e = .returned (.int .i64 k) ∧ w' = w := by
  have hr := rune_len h
  clear h
  have h0 : ¬ (r : Int) < 0 := by omega
  rcases hr with ⟨h1, rfl⟩ | ⟨h1, h2, rfl⟩ | ⟨h1, h2, h3, rfl⟩ | ⟨h1, h2, rfl⟩
  · have g1 : (r : Int) ≤ 127 := by omega
    go_enter Try.func53, Try.ntmps53
    go_wp2
    go_ret
    exact ⟨rfl, rfl⟩
  · have g1 : ¬ (r : Int) ≤ 127 := by omega
    have g2 : (r : Int) ≤ 2047 := by omega
    go_enter Try.func53, Try.ntmps53
    go_wp2
    go_ret
    exact ⟨rfl, rfl⟩
  · have g1 : ¬ (r : Int) ≤ 127 := by omega
    have g2 : ¬ (r : Int) ≤ 2047 := by omega
    have g3 : (r : Int) ≤ 65535 := by omega
    rcases h3 with h3 | h3
    · have g4 : ¬ (55296 : Int) ≤ r := by omega
      go_enter Try.func53, Try.ntmps53
      go_wp2
      go_ret
      exact ⟨rfl, rfl⟩
    · have g4 : (55296 : Int) ≤ r := by omega
      have g5 : ¬ (r : Int) ≤ 57343 := by omega
      go_enter Try.func53, Try.ntmps53
      go_wp2
      go_ret
      exact ⟨rfl, rfl⟩
  · have g1 : ¬ (r : Int) ≤ 127 := by omega
    have g2 : ¬ (r : Int) ≤ 2047 := by omega
    have g3 : ¬ (r : Int) ≤ 65535 := by omega
    have g4 : (55296 : Int) ≤ r := by omega
    have g5 : ¬ (r : Int) ≤ 57343 := by omega
    have g6 : (r : Int) ≤ 1114111 := by omega
    go_enter Try.func53, Try.ntmps53
    go_wp2
    go_ret
    exact ⟨rfl, rfl⟩

theorem bt_take (l : List UInt8) (k i : Nat) (h : i < k) : bt (l.take k) i = bt l i := by
  simp only [bt, List.getD_eq_getElem?_getD, List.getElem?_take, h, if_true]

theorem bt_past (l : List UInt8) (i : Nat) (h : l.length ≤ i) : bt l i = 0 := by
  simp [bt, List.getD_eq_getElem?_getD, List.getElem?_eq_none h]

theorem rune4_min (n b0 b1 b2 b3 : Nat) (h : 4 ≤ n) : rune4 4 b0 b1 b2 b3 = rune4 n b0 b1 b2 b3 := by
  have a1 : 1 < n := by omega
  have a2 : 2 < n := by omega
  have a3 : 3 < n := by omega
  unfold rune4
  simp only [show (1 : Nat) < 4 from by decide, show (2 : Nat) < 4 from by decide, show (3 : Nat) < 4 from by decide, a1, a2, a3, true_and]

theorem runeL_take4 (l : List UInt8) (h : 4 ≤ l.length) : runeL (l.take 4) = runeL l := by
  have hl : (l.take 4).length = 4 := by simp; omega
  unfold runeL
  rw [hl, if_neg (by omega), if_neg (by omega), bt_take l 4 0 (by omega), bt_take l 4 1 (by omega), bt_take l 4 2 (by omega), bt_take l 4 3 (by omega)]
  exact rune4_min _ _ _ _ _ h

/-- The bytes m from p on, as a string. -/
def cut (l : List UInt8) (p m : Nat) : ByteArray := ⟨((l.drop p).take m).toArray⟩
theorem cut_data (l : List UInt8) (p m : Nat) : (cut l p m).data.toList = (l.drop p).take m := by simp [cut]
theorem cut_size (l : List UInt8) (p m : Nat) (h : p + m ≤ l.length) : (cut l p m).size = m := by
  show (cut l p m).data.size = m
  simp [cut]
  omega

/-- string(b[p:p+m]). -/
theorem conv_cut {w : World} {b off n : Nat} {l : List UInt8} (hl : l.length = n) (hc : ∀ i, i < n → w.cell? ⟨b, off + i, none⟩ = some (.int .u8 (bt l i))) (p m : Nat) (hpm : p + m ≤ n) (c : Nat) :
    (convert 22 9 (.slice (some ⟨b, off + p, none⟩) m c)).run Try.prog w = .ok (.string (cut l p m)) w := by
  have h := run_convert_bytes_arg (P := Try.prog) w 22 5 Try.underlying22 Try.underlying5 b (off + p) m c (((l.drop p).take m).map fun u => (u.toNat : Int)) (by simp; omega) (fun i hi => by
    rw [Nat.add_assoc, hc (p + i) (by omega)]
    have e : i < ((l.drop p).take m).length := by simp; omega
    simp only [bt, List.getD_eq_getElem?_getD, List.getElem?_map, List.getElem?_take, hi, if_true, List.getElem?_drop]
    rw [List.getElem?_eq_getElem (show p + i < l.length by omega)]
    rfl) 9 Try.underlying9
  rw [h]
  congr 2
  simp only [strOfNums, cut, List.map_map]
  congr 2
  apply List.ext_getElem
  · simp
  · intro i h1 h2; simp

set_option maxRecDepth 100000 in
set_option maxHeartbeats 400000 in
theorem rune17_in (b off n cap p : Nat) (l : List UInt8) (w : World) (hl : l.length = n) (hp : p < n) (hcap : n ≤ cap) (hn : n ≤ 1099511627776) (hc : ∀ i, i < n → w.cell? ⟨b, off + i, none⟩ = some (.int .u8 (bt l i))) :
    Calls Try.prog 17 #[.slice (some ⟨b, off, none⟩) n cap, .int .i64 p] w fun e w' => e = ansR l p ∧ Below w.heap.size w w' := by
  have p0 : ¬ (p : Int) < 0 := by omega
  have p1 : ¬ (n : Int) ≤ p := by omega
  have p2 : (p : Int) ≤ n := by omega
  have hcp : ¬ cap = p := by omega
  obtain ⟨m, hm, hpm, hcase⟩ : ∃ m, 0 < m ∧ p + m ≤ n ∧ ((p + 4 ≤ n ∧ m = 4) ∨ (n < p + 4 ∧ m = n - p)) := by
    by_cases h4 : p + 4 ≤ n
    · exact ⟨4, by omega, by omega, .inl ⟨h4, rfl⟩⟩
    · exact ⟨n - p, by omega, by omega, .inr ⟨by omega, rfl⟩⟩
  have hconv := conv_cut hl hc p m hpm
  have hrl : runeL (cut l p m).data.toList = runeL (l.drop p) := by
    rw [cut_data]
    rcases hcase with ⟨h4, rfl⟩ | ⟨h4, rfl⟩
    · exact runeL_take4 _ (by rw [List.length_drop]; omega)
    · rw [List.take_of_length_le (by rw [List.length_drop, hl]; exact Nat.le_refl _)]
  have hsz : 0 < (cut l p m).size := by rw [cut_size l p m (by omega)]; exact hm
  clear hc hl hm
  cases hr : runeL (l.drop p) with
  | none =>
    rw [hr] at hrl
    have HA : Hid (ansR l p = _) := ansR_none hr
    have HF := fun w => first52_none (cut l p m) w hsz hrl
    clear hr hrl hsz
    rcases hcase with ⟨h4, rfl⟩ | ⟨h4, rfl⟩
    · have h4' : (p : Int) + 4 ≤ n := by omega
      go_enter Try.func17, Try.ntmps17
      go_wp2_with fail
      refine (HF _).mono ?_
      rintro e w1 ⟨rfl, hb⟩
      go_wp2
      go_ret3
      exact ⟨by rw [HA.out]; simp, hb⟩
    · have h4' : ¬ (p : Int) + 4 ≤ n := by omega
      go_enter Try.func17, Try.ntmps17
      go_wp2_with fail
      refine (HF _).mono ?_
      rintro e w1 ⟨rfl, hb⟩
      go_wp2
      go_ret3
      exact ⟨by rw [HA.out]; simp, hb⟩
  | some rk =>
    obtain ⟨r, k⟩ := rk
    rw [hr] at hrl
    have hw := runeL_width hr
    have HA : Hid (ansR l p = _) := ansR_some hr
    have HF := fun w => first52_some (cut l p m) w r k hrl
    have HN := fun w => len53 hr w
    clear hr hrl hsz
    rcases hcase with ⟨h4, rfl⟩ | ⟨h4, rfl⟩
    · have h4' : (p : Int) + 4 ≤ n := by omega
      go_enter Try.func17, Try.ntmps17
      go_wp2_with fail
      refine (HF _).mono ?_
      rintro e w1 ⟨rfl, hb⟩
      go_wp2_with fail
      refine (HN _).mono ?_
      rintro e w2 ⟨rfl, rfl⟩
      go_wp2
      go_ret3
      exact ⟨by rw [HA.out]; simp, hb⟩
    · have h4' : ¬ (p : Int) + 4 ≤ n := by omega
      go_enter Try.func17, Try.ntmps17
      go_wp2_with fail
      refine (HF _).mono ?_
      rintro e w1 ⟨rfl, hb⟩
      go_wp2_with fail
      refine (HN _).mono ?_
      rintro e w2 ⟨rfl, rfl⟩
      go_wp2
      go_ret3
      exact ⟨by rw [HA.out]; simp, hb⟩

theorem rune17_out (ao : Option Addr) (n cap : Nat) (a : Int) (w : World) (h : a < 0 ∨ (n : Int) ≤ a) :
    Calls Try.prog 17 #[.slice ao n cap, .int .i64 a] w fun e w' => e = .returned (.tuple #[.int .i64 0, .int .i64 0, .bool false]) ∧ w' = w := by
  by_cases h0 : a < 0
  · go_enter Try.func17, Try.ntmps17
    go_wp2
    go_ret3
    exact ⟨rfl, rfl⟩
  · have h1 : (n : Int) ≤ a := by omega
    have h2 : 0 ≤ a := by omega
    go_enter Try.func17, Try.ntmps17
    go_wp2
    go_ret3
    exact ⟨rfl, rfl⟩

theorem ansR_form (l : List UInt8) (p : Nat) : ∃ (x y : Int) (o : Bool), ansR l p = .returned (.tuple #[.int .i64 x, .int .i64 y, .bool o]) := by
  unfold ansR
  split
  · exact ⟨_, _, _, rfl⟩
  · exact ⟨_, _, _, rfl⟩

/-- Both sides answer the same, wherever the place. -/
theorem runes_same (n : Nat) (l : List UInt8) (a : Int) (hn : n ≤ 1099511627776) : ∃ (x y : Int) (o : Bool),
    (∀ ao cap w, RdIn w ao n cap l → Calls Try.prog 18 #[.slice ao n cap, .int .i64 a] w fun e w' => e = .returned (.tuple #[.int .i64 x, .int .i64 y, .bool o]) ∧ w' = w) ∧
    (∀ ao cap w, RdIn w ao n cap l → Calls Try.prog 17 #[.slice ao n cap, .int .i64 a] w fun e w' => e = .returned (.tuple #[.int .i64 x, .int .i64 y, .bool o]) ∧ Below w.heap.size w w') := by
  by_cases h : a < 0 ∨ (n : Int) ≤ a
  · refine ⟨0, 0, false, fun ao cap w hr => rune18_out ao n cap a w h, fun ao cap w hr => (rune17_out ao n cap a w h).mono ?_⟩
    rintro e w' ⟨he, rfl⟩
    exact ⟨he, Below.refl _ _⟩
  · obtain ⟨p, rfl⟩ := Int.eq_ofNat_of_zero_le (show 0 ≤ a by omega)
    obtain ⟨x, y, o, e⟩ := ansR_form l p
    refine ⟨x, y, o, fun ao cap w hr => ?_, fun ao cap w hr => ?_⟩
    · rw [← e]
      exact rune18_in ao n cap p l w hr.1 (by omega) (by omega)
    · obtain ⟨b, off, rfl, hc⟩ := hr.1.at (show 0 < n by omega)
      rw [← e]
      exact rune17_in b off n cap p l w hr.1.1 (by omega) hr.2.1 hn hc

theorem below_next {w w1 w2 : World} (h1 : Below w.heap.size w w1) (h2 : Below w1.heap.size w1 w2) : Below w.heap.size w w2 := h1.trans (h2.mono h1.size)

end Go.Proofs.Ytbleangknnjlcaa
