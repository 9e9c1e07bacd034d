/- slices.Equal of bytes, numbers, texts and wishes; spec.l1Same; two wishes held against each other. -/
import Derived.Test.YtfpclkkkenekpaaGreatPMem
import Derived.Test.YtfpclkkkenekpaaGreatPv
import Derived.Test.YtfpclkkkenekpaaGreatGets
import Derived.Laws.StructEq
import Derived.Handy
set_option linter.unusedVariables false
set_option linter.unusedSimpArgs false
namespace Go.Proofs.YtfpclkkkenekpaaGreat
open Go.RowKit

theorem bytes_inj {a b : ByteArray} (h : a.toList = b.toList) : a = b := by
  rw [ByteArray.toList_eq, ByteArray.toList_eq] at h
  obtain ⟨⟨x⟩⟩ := a
  obtain ⟨⟨y⟩⟩ := b
  simpa using h
theorem take_step {α : Type} (l l' : List α) (d : α) (k : Nat) (h : l.take k = l'.take k) (hk : k < l.length) (hk' : k < l'.length) (e : l.getD k d = l'.getD k d) : l.take (k + 1) = l'.take (k + 1) := by
  rw [List.take_succ_eq_append_getElem hk, List.take_succ_eq_append_getElem hk', h]
  simp only [List.getD_eq_getElem?_getD, List.getElem?_eq_getElem hk, List.getElem?_eq_getElem hk', Option.getD_some] at e
  rw [e]
theorem take_all {α : Type} {l l' : List α} {n : Nat} (h : l.length = n) (h' : l'.length = n) (e : l.take n = l'.take n) : l = l' := by
  rwa [List.take_of_length_le (by omega), List.take_of_length_le (by omega)] at e
theorem ne_len {α : Type} {l l' : List α} {n m : Nat} (h : l.length = n) (h' : l'.length = m) (hne : n ≠ m) : l ≠ l' := by
  rintro rfl
  omega
theorem bt_inj {l l' : List UInt8} {k : Nat} (h : bt l k = bt l' k) : l.getD k 0 = l'.getD k 0 := UInt8.toNat_inj.1 h
theorem nt_inj {l l' : List Int} {k : Nat} (h : nt l k = nt l' k) : l.getD k 0 = l'.getD k 0 := h
theorem st_inj {l l' : List ByteArray} {k : Nat} (h : st l k = st l' k) : l.getD k ByteArray.empty = l'.getD k ByteArray.empty := h
theorem wt_inj {l l' : List (ByteArray × Int)} {k : Nat} (h : (wf l k, wq l k) = (wf l' k, wq l' k)) : l.getD k (ByteArray.empty, 0) = l'.getD k (ByteArray.empty, 0) := by
  simp only [wf, wq, Prod.mk.injEq] at h
  exact Prod.ext h.1 h.2
theorem btn_self (a : Nat) : ((a : Int) != (a : Int)) = false := by simp
theorem btn_ne {a b : Nat} (h : a ≠ b) : ((a : Int) != (b : Int)) = true := by simp; omega
theorem ntn_self (a : Int) : (a != a) = false := by simp
theorem ntn_ne {a b : Int} (h : a ≠ b) : (a != b) = true := by simpa using h
theorem stn_self (s : ByteArray) : (s.toList != s.toList) = false := by simp
theorem stn_ne {s t : ByteArray} (h : s ≠ t) : (s.toList == t.toList) = false := by
  simp only [beq_eq_false_iff_ne, ne_eq]
  exact fun e => h (bytes_inj e)
theorem ntq_ne {a b : Int} (h : a ≠ b) : (a == b) = false := by simpa using h

/-- spec.l1Same. -/
theorem same_sl1Same (a b : Option Addr) (n c m c' : Nat) (l l' : List UInt8) (w : World) (h1 : RdIn w a n c l) (h2 : RdIn w b m c' l') :
    Calls Tryz.prog 71 #[.slice a n c, .slice b m c'] w fun e w' => e = .returned (.bool (decide (l = l'))) ∧ w' = w := by
  have e1 := conv_rd h1
  have e2 := conv_rd h2
  go_enter Tryz.func71, Tryz.ntmps71
  go_wp2
  go_ret
  refine ⟨ret_bool ?_, rfl⟩
  rw [Bool.eq_iff_iff]
  simp

/-- '!=' of two wishes. -/
theorem neq_want (w : World) (f f' : ByteArray) (q q' : Int) : (binOp .neq 58 (.agg #[.string f, .int .i64 q]) (.agg #[.string f', .int .i64 q'])).run Tryz.prog w = .ok (.bool (!decide ((f, q) = (f', q')))) w := by
  have hs : Tryz.prog.stoodInHeld 58 = false := by kernel_rfl
  simp [go_sem, Tryz.underlying58, Tryz.underlying9, Tryz.underlying3, hs]
  by_cases h : f = f'
  · subst h
    by_cases h2 : q = q'
    · subst h2
      simp
    · simp [h2]
  · have h' : f.toList ≠ f'.toList := fun e => h (bytes_inj e)
    simp [h, h']

set_option maxHeartbeats 1000000 in
/-- slices.Equal, of bytes. -/
theorem equal_bytes (ao a1 : Option Addr) (n cap m cap1 : Nat) (l l' : List UInt8) (w : World) (hr : RdIn w ao n cap l) (h1 : RdIn w a1 m cap1 l') :
    Calls Tryz.prog 81 #[.slice ao n cap, .slice a1 m cap1] w fun e w' => e = .returned (.bool (decide (l = l'))) ∧ ∃ q, w' = w.drewN q := by
  have hn : n ≤ maxLen := Nat.le_trans hr.2.1 hr.2.2.1
  have HL : Hid (l.length = n) := hr.1.1
  have HL' : Hid (l'.length = m) := h1.1.1
  unfold maxLen at hn
  by_cases hnm : n = m
  rotate_left
  · have hne := btn_ne hnm
    go_enter Tryz.func81, Tryz.ntmps81
    go_wp2
    go_ret
    exact ⟨ret_bool (decide_eq_false (ne_len HL.out HL'.out hnm)).symm, 0, rfl⟩
  subst hnm
  have hne : ((n : Int) != n) = false := by simp
  go_enter Tryz.func81, Tryz.ntmps81
  go_wp2
  go_loopw [13] (fun i wr => ∃ k : Nat, i = .int .i64 k ∧ k ≤ n ∧ Hid (l.take k = l'.take k) ∧ ∃ q, wr = w.drewN q) (fun i _ => n - (intOf i).toNat)
  case atStart => exact ⟨0, rfl, Nat.zero_le _, rfl, 0, rfl⟩
  case round =>
    obtain ⟨k, rfl, hk, hT, qm, rfl⟩ := hrel
    by_cases hlt : k < n
    · obtain ⟨b, off, e, hc⟩ := hr.1.2 k hlt
      subst e
      obtain ⟨b1, off1, e1, hc1⟩ := h1.1.2 k hlt
      subst e1
      have hck : w.cell? ⟨b, off + k, none⟩ = some (.int .u8 (bt l k)) := hc
      have hck1 : w.cell? ⟨b1, off1 + k, none⟩ = some (.int .u8 (bt l' k)) := hc1
      have hlt' : (k : Int) < n := by omega
      have k0 : (0 : Int) ≤ k := by omega
      clear hc hc1
      by_cases he : bt l k = bt l' k
      · have HS : Hid (l.take (k + 1) = l'.take (k + 1)) := take_step l l' _ k hT.out (by rw [HL.out]; exact hlt) (by rw [HL'.out]; exact hlt) (bt_inj he)
        rw [← he] at hck1
        have hbn := btn_self (bt l k)
        clear he
        go_wp2
        go_quiet (fail)
        go_wp2
        go_roundw
        case rel => exact ⟨k + 1, by go_num, by omega, HS, _, rfl⟩
        case measure => simp [intOf]; omega
      · have HN : Hid (l ≠ l') := fun e => he (by rw [e])
        have hbn := btn_ne he
        clear he
        go_wp2
        go_quiet (fail)
        go_wp2
        go_ret
        exact ⟨ret_bool (decide_eq_false HN.out).symm, _, World.drewN_drewN _ _ _⟩
    · have hlt' : ¬ (k : Int) < n := by omega
      obtain rfl : k = n := by omega
      go_wp2
      go_ret
      exact ⟨ret_bool (decide_eq_true (take_all HL.out HL'.out hT.out)).symm, _, rfl⟩

set_option maxHeartbeats 1000000 in
/-- slices.Equal, of ints. -/
theorem equal_ints (ao a1 : Option Addr) (n cap m cap1 : Nat) (l l' : List Int) (w : World) (hr : IRd w ao n cap l) (h1 : IRd w a1 m cap1 l') :
    Calls Tryz.prog 84 #[.slice ao n cap, .slice a1 m cap1] w fun e w' => e = .returned (.bool (decide (l = l'))) ∧ ∃ q, w' = w.drewN q := by
  have hn : n ≤ maxLen := Nat.le_trans hr.2.1 hr.2.2.1
  have HL : Hid (l.length = n) := hr.1.1
  have HL' : Hid (l'.length = m) := h1.1.1
  unfold maxLen at hn
  by_cases hnm : n = m
  rotate_left
  · have hne := btn_ne hnm
    go_enter Tryz.func84, Tryz.ntmps84
    go_wp2
    go_ret
    exact ⟨ret_bool (decide_eq_false (ne_len HL.out HL'.out hnm)).symm, 0, rfl⟩
  subst hnm
  have hne : ((n : Int) != n) = false := by simp
  go_enter Tryz.func84, Tryz.ntmps84
  go_wp2
  go_loopw [13] (fun i wr => ∃ k : Nat, i = .int .i64 k ∧ k ≤ n ∧ Hid (l.take k = l'.take k) ∧ ∃ q, wr = w.drewN q) (fun i _ => n - (intOf i).toNat)
  case atStart => exact ⟨0, rfl, Nat.zero_le _, rfl, 0, rfl⟩
  case round =>
    obtain ⟨k, rfl, hk, hT, qm, rfl⟩ := hrel
    by_cases hlt : k < n
    · obtain ⟨b, off, e, hc⟩ := hr.1.2 k hlt
      subst e
      obtain ⟨b1, off1, e1, hc1⟩ := h1.1.2 k hlt
      subst e1
      have hck : w.cell? ⟨b, off + k, none⟩ = some (.int .i64 (nt l k)) := hc
      have hck1 : w.cell? ⟨b1, off1 + k, none⟩ = some (.int .i64 (nt l' k)) := hc1
      have hlt' : (k : Int) < n := by omega
      have k0 : (0 : Int) ≤ k := by omega
      clear hc hc1
      by_cases he : nt l k = nt l' k
      · have HS : Hid (l.take (k + 1) = l'.take (k + 1)) := take_step l l' _ k hT.out (by rw [HL.out]; exact hlt) (by rw [HL'.out]; exact hlt) (nt_inj he)
        rw [← he] at hck1
        have hbn := ntn_self (nt l k)
        clear he
        go_wp2
        go_quiet (fail)
        go_wp2
        go_roundw
        case rel => exact ⟨k + 1, by go_num, by omega, HS, _, rfl⟩
        case measure => simp [intOf]; omega
      · have HN : Hid (l ≠ l') := fun e => he (by rw [e])
        have hbn := ntn_ne he
        clear he
        go_wp2
        go_quiet (fail)
        go_wp2
        go_ret
        exact ⟨ret_bool (decide_eq_false HN.out).symm, _, World.drewN_drewN _ _ _⟩
    · have hlt' : ¬ (k : Int) < n := by omega
      obtain rfl : k = n := by omega
      go_wp2
      go_ret
      exact ⟨ret_bool (decide_eq_true (take_all HL.out HL'.out hT.out)).symm, _, rfl⟩

set_option maxHeartbeats 1000000 in
/-- slices.Equal, of strs. -/
theorem equal_strs (ao a1 : Option Addr) (n cap m cap1 : Nat) (l l' : List ByteArray) (w : World) (hr : SRd w ao n cap l) (h1 : SRd w a1 m cap1 l') :
    Calls Tryz.prog 83 #[.slice ao n cap, .slice a1 m cap1] w fun e w' => e = .returned (.bool (decide (l = l'))) ∧ ∃ q, w' = w.drewN q := by
  have hn : n ≤ maxLen := Nat.le_trans hr.2.1 hr.2.2.1
  have HL : Hid (l.length = n) := hr.1.1
  have HL' : Hid (l'.length = m) := h1.1.1
  unfold maxLen at hn
  by_cases hnm : n = m
  rotate_left
  · have hne := btn_ne hnm
    go_enter Tryz.func83, Tryz.ntmps83
    go_wp2
    go_ret
    exact ⟨ret_bool (decide_eq_false (ne_len HL.out HL'.out hnm)).symm, 0, rfl⟩
  subst hnm
  have hne : ((n : Int) != n) = false := by simp
  go_enter Tryz.func83, Tryz.ntmps83
  go_wp2
  go_loopw [13] (fun i wr => ∃ k : Nat, i = .int .i64 k ∧ k ≤ n ∧ Hid (l.take k = l'.take k) ∧ ∃ q, wr = w.drewN q) (fun i _ => n - (intOf i).toNat)
  case atStart => exact ⟨0, rfl, Nat.zero_le _, rfl, 0, rfl⟩
  case round =>
    obtain ⟨k, rfl, hk, hT, qm, rfl⟩ := hrel
    by_cases hlt : k < n
    · obtain ⟨b, off, e, hc⟩ := hr.1.2 k hlt
      subst e
      obtain ⟨b1, off1, e1, hc1⟩ := h1.1.2 k hlt
      subst e1
      have hck : w.cell? ⟨b, off + k, none⟩ = some (.string (st l k)) := hc
      have hck1 : w.cell? ⟨b1, off1 + k, none⟩ = some (.string (st l' k)) := hc1
      have hlt' : (k : Int) < n := by omega
      have k0 : (0 : Int) ≤ k := by omega
      clear hc hc1
      by_cases he : st l k = st l' k
      · have HS : Hid (l.take (k + 1) = l'.take (k + 1)) := take_step l l' _ k hT.out (by rw [HL.out]; exact hlt) (by rw [HL'.out]; exact hlt) (st_inj he)
        rw [← he] at hck1
        have hbn := stn_self (st l k)
        clear he
        go_wp2
        go_quiet (fail)
        go_wp2
        go_roundw
        case rel => exact ⟨k + 1, by go_num, by omega, HS, _, rfl⟩
        case measure => simp [intOf]; omega
      · have HN : Hid (l ≠ l') := fun e => he (by rw [e])
        have hbn := stn_ne he
        clear he
        go_wp2
        go_quiet (fail)
        go_wp2
        go_ret
        exact ⟨ret_bool (decide_eq_false HN.out).symm, _, World.drewN_drewN _ _ _⟩
    · have hlt' : ¬ (k : Int) < n := by omega
      obtain rfl : k = n := by omega
      go_wp2
      go_ret
      exact ⟨ret_bool (decide_eq_true (take_all HL.out HL'.out hT.out)).symm, _, rfl⟩

set_option maxHeartbeats 1000000 in
/-- slices.Equal, of wants. -/
theorem equal_wants (ao a1 : Option Addr) (n cap m cap1 : Nat) (l l' : List (ByteArray × Int)) (w : World) (hr : WRd w ao n cap l) (h1 : WRd w a1 m cap1 l') :
    Calls Tryz.prog 82 #[.slice ao n cap, .slice a1 m cap1] w fun e w' => e = .returned (.bool (decide (l = l'))) ∧ ∃ q, w' = w.drewN q := by
  have hn : n ≤ maxLen := Nat.le_trans hr.2.1 hr.2.2.1
  have HL : Hid (l.length = n) := hr.1.1
  have HL' : Hid (l'.length = m) := h1.1.1
  unfold maxLen at hn
  by_cases hnm : n = m
  rotate_left
  · have hne := btn_ne hnm
    go_enter Tryz.func82, Tryz.ntmps82
    go_wp2
    go_ret
    exact ⟨ret_bool (decide_eq_false (ne_len HL.out HL'.out hnm)).symm, 0, rfl⟩
  subst hnm
  have hne : ((n : Int) != n) = false := by simp
  go_enter Tryz.func82, Tryz.ntmps82
  go_wp2
  go_loopw [13] (fun i wr => ∃ k : Nat, i = .int .i64 k ∧ k ≤ n ∧ Hid (l.take k = l'.take k) ∧ ∃ q, wr = w.drewN q) (fun i _ => n - (intOf i).toNat)
  case atStart => exact ⟨0, rfl, Nat.zero_le _, rfl, 0, rfl⟩
  case round =>
    obtain ⟨k, rfl, hk, hT, qm, rfl⟩ := hrel
    by_cases hlt : k < n
    · obtain ⟨b, off, e, hc, hd⟩ := hr.1.2 k hlt
      subst e
      obtain ⟨b1, off1, e1, hc1, hd1⟩ := h1.1.2 k hlt
      subst e1
      have hck : w.cell? ⟨b, off + k * 2, none⟩ = some (.string (wf l k)) := hc
      have hck1 : w.cell? ⟨b1, off1 + k * 2, none⟩ = some (.string (wf l' k)) := hc1
      have hdk : w.cell? ⟨b, off + k * 2 + 1, none⟩ = some (.int .i64 (wq l k)) := hd
      have hdk1 : w.cell? ⟨b1, off1 + k * 2 + 1, none⟩ = some (.int .i64 (wq l' k)) := hd1
      have hlt' : (k : Int) < n := by omega
      have k0 : (0 : Int) ≤ k := by omega
      clear hc hc1 hd hd1
      by_cases he : (wf l k, wq l k) = (wf l' k, wq l' k)
      · have HS : Hid (l.take (k + 1) = l'.take (k + 1)) := take_step l l' _ k hT.out (by rw [HL.out]; exact hlt) (by rw [HL'.out]; exact hlt) (wt_inj he)
        rw [Prod.mk.injEq] at he
        rw [← he.1] at hck1
        rw [← he.2] at hdk1
        clear he
        go_wp2
        go_quiet (fail)
        go_wp2
        go_roundw
        case rel => exact ⟨k + 1, by go_num, by omega, HS, _, rfl⟩
        case measure => simp [intOf]; omega
      · have HN : Hid (l ≠ l') := fun e => he (by rw [e])
        by_cases h2 : wf l k = wf l' k
        · have hbn : (wq l k == wq l' k) = false := ntq_ne (fun e => he (by rw [h2, e]))
          rw [← h2] at hck1
          clear he h2
          go_wp2
          go_quiet (fail)
          go_wp2
          go_ret
          exact ⟨ret_bool (decide_eq_false HN.out).symm, _, World.drewN_drewN _ _ _⟩
        · have hbn := stn_ne h2
          clear he h2
          go_wp2
          go_quiet (fail)
          go_wp2
          go_ret
          exact ⟨ret_bool (decide_eq_false HN.out).symm, _, World.drewN_drewN _ _ _⟩
    · have hlt' : ¬ (k : Int) < n := by omega
      obtain rfl : k = n := by omega
      go_wp2
      go_ret
      exact ⟨ret_bool (decide_eq_true (take_all HL.out HL'.out hT.out)).symm, _, rfl⟩

end Go.Proofs.YtfpclkkkenekpaaGreat
