/- Whether what a kind names is right: the program's side. -/
import Derived.Test.YtfpclkkkenekpaaGreatKCon
import Derived.Test.YtfpclkkkenekpaaGreatFils
import Derived.BigGuardPart
set_option linter.unusedVariables false
set_option linter.unusedSimpArgs false
namespace Go.Proofs.YtfpclkkkenekpaaGreat
open Go.RowKit

theorem all_step {α : Type} (f : α → Bool) (l : List α) (d : α) (k : Nat) (hk : k < l.length) (h : (l.take k).all f = true) (e : f (l.getD k d) = true) : (l.take (k + 1)).all f = true := by
  rw [List.take_succ_eq_append_getElem hk, List.all_append, h]
  simp only [List.getD_eq_getElem?_getD, List.getElem?_eq_getElem hk, Option.getD_some] at e
  simp [e]
theorem all_no {α : Type} (f : α → Bool) (l : List α) (d : α) (k : Nat) (hk : k < l.length) (e : f (l.getD k d) = false) : l.all f = false := by
  simp only [List.getD_eq_getElem?_getD, List.getElem?_eq_getElem hk, Option.getD_some] at e
  cases h : l.all f with
  | false => rfl
  | true => rw [List.all_eq_true] at h; rw [h _ (List.getElem_mem hk)] at e; cases e
theorem all_all {α : Type} (f : α → Bool) (l : List α) (n : Nat) (hn : l.length = n) (h : (l.take n).all f = true) : l.all f = true := by
  rwa [List.take_of_length_le (by omega)] at h
/-- What is asked of a wish. -/
def wishOk (x : ByteArray × Int) : Bool := flt x.1 && inB x.2 0 2
/-- What a list's answer for a wish may be. -/
def codeOk (c : Int) : Bool := inB c 0 2 || decide (c = 128)
theorem isByte_i (n : Int) (w : World) : Calls Tryz.prog 143 #[.int .i64 n] w fun e w' => e = .returned (.bool (inB n 0 255)) ∧ w' = w := by
  by_cases h1 : 0 ≤ n
  · by_cases h2 : n ≤ 255
    · rw [inB_yes h1 h2]
      go_enter Tryz.func143, Tryz.ntmps143
      go_wp2
      go_ret
      exact ⟨ret_bool (by simp [h2]), rfl⟩
    · rw [inB_hi (by omega)]
      go_enter Tryz.func143, Tryz.ntmps143
      go_wp2
      go_ret
      exact ⟨ret_bool (by simp [h2]), rfl⟩
  · rw [inB_lo (by omega)]
    go_enter Tryz.func143, Tryz.ntmps143
    go_wp2
    go_ret
    exact ⟨rfl, rfl⟩
theorem isWord_i (n : Int) (w : World) : Calls Tryz.prog 144 #[.int .i64 n] w fun e w' => e = .returned (.bool (inB n 0 65535)) ∧ w' = w := by
  by_cases h1 : 0 ≤ n
  · by_cases h2 : n ≤ 65535
    · rw [inB_yes h1 h2]
      go_enter Tryz.func144, Tryz.ntmps144
      go_wp2
      go_ret
      exact ⟨ret_bool (by simp [h2]), rfl⟩
    · rw [inB_hi (by omega)]
      go_enter Tryz.func144, Tryz.ntmps144
      go_wp2
      go_ret
      exact ⟨ret_bool (by simp [h2]), rfl⟩
  · rw [inB_lo (by omega)]
    go_enter Tryz.func144, Tryz.ntmps144
    go_wp2
    go_ret
    exact ⟨rfl, rfl⟩
theorem isQos_i (n : Int) (w : World) : Calls Tryz.prog 102 #[.int .i64 n] w fun e w' => e = .returned (.bool (inB n 0 2)) ∧ w' = w := by
  by_cases h1 : 0 ≤ n
  · by_cases h2 : n ≤ 2
    · rw [inB_yes h1 h2]
      go_enter Tryz.func102, Tryz.ntmps102
      go_wp2
      go_ret
      exact ⟨ret_bool (by simp [h2]), rfl⟩
    · rw [inB_hi (by omega)]
      go_enter Tryz.func102, Tryz.ntmps102
      go_wp2
      go_ret
      exact ⟨ret_bool (by simp [h2]), rfl⟩
  · rw [inB_lo (by omega)]
    go_enter Tryz.func102, Tryz.ntmps102
    go_wp2
    go_ret
    exact ⟨rfl, rfl⟩
theorem isId_i (n : Int) (w : World) : Calls Tryz.prog 151 #[.int .i64 n] w fun e w' => e = .returned (.bool (inB n 1 65535)) ∧ w' = w := by
  by_cases h1 : 1 ≤ n
  · by_cases h2 : n ≤ 65535
    · rw [inB_yes h1 h2]
      go_enter Tryz.func151, Tryz.ntmps151
      go_wp2
      go_ret
      exact ⟨ret_bool (by simp [h2]), rfl⟩
    · rw [inB_hi (by omega)]
      go_enter Tryz.func151, Tryz.ntmps151
      go_wp2
      go_ret
      exact ⟨ret_bool (by simp [h2]), rfl⟩
  · rw [inB_lo (by omega)]
    go_enter Tryz.func151, Tryz.ntmps151
    go_wp2
    go_ret
    exact ⟨rfl, rfl⟩
theorem isWantCode_i (n : Int) (w : World) : Calls Tryz.prog 166 #[.int .i64 n] w fun e w' => e = .returned (.bool (codeOk n)) ∧ w' = w := by
  unfold codeOk
  go_enter Tryz.func166, Tryz.ntmps166
  go_wp2_with fail
  refine (isQos_i n _).mono ?_
  rintro e w2 ⟨rfl, rfl⟩
  cases hv : inB n 0 2
  · have HV : Hid (inB n 0 2 = false) := hv
    clear hv
    go_wp2
    go_ret
    exact ⟨ret_bool (by rw [HV.out, Bool.eq_iff_iff]; simp), rfl⟩
  · have HV : Hid (inB n 0 2 = true) := hv
    clear hv
    go_wp2
    go_ret
    exact ⟨ret_bool (by rw [HV.out]; simp), rfl⟩
theorem isWant_i (f : ByteArray) (q : Int) (w : World) (hs : f.size ≤ 1048576) : Calls Tryz.prog 159 #[.agg #[.string f, .int .i64 q]] w fun e w' => e = .returned (.bool (wishOk (f, q))) ∧ Below w.heap.size w w' := by
  unfold wishOk flt
  go_enter Tryz.func159, Tryz.ntmps159
  go_wp2_with fail
  refine (fil_iFilterOk f _ hs).mono ?_
  rintro e w2 ⟨rfl, hb⟩
  have c1 : w2.cell? ⟨w.heap.size, 1, none⟩ = some (.int .i64 q) := (hb.cell (by simp)).trans (by simp)
  replace hb := bel (bel_new _ _) hb
  cases hv : filOk f.data.toList
  · have HV : Hid (filOk f.data.toList = false) := hv
    clear hv
    go_wp2
    go_ret
    exact ⟨ret_bool (by rw [HV.out]; simp), hb⟩
  · have HV : Hid (filOk f.data.toList = true) := hv
    clear hv
    go_wp2_with fail
    refine (isQos_i q _).mono ?_
    rintro e w3 ⟨rfl, rfl⟩
    go_wp2
    go_ret
    exact ⟨ret_bool (by rw [HV.out]; simp), hb⟩
set_option maxRecDepth 100000 in
set_option maxHeartbeats 1000000 in
theorem list_ints (ao : Option Addr) (n cap : Nat) (l : List Int) (w : World) (hr : IRd w ao n cap l) :
    Calls Tryz.prog 165 #[.slice ao n cap, .func (.func 166) #[] #[]] w fun e w' => e = .returned (.bool (l.all codeOk && inB n 1 4)) ∧ Below w.heap.size w w' := by
  have HL : Hid (l.length = n) := hr.1.1
  by_cases h1 : n < 1
  · have h1' : (n : Int) < 1 := by omega
    rw [inB_lo h1', Bool.and_false]
    go_enter Tryz.func165, Tryz.ntmps165
    go_wp2
    go_ret
    exact ⟨rfl, Below.refl _ _⟩
  by_cases h2 : 4 < n
  · have h1' : ¬ (n : Int) < 1 := by omega
    have h2' : 4 < (n : Int) := by omega
    rw [inB_hi h2', Bool.and_false]
    go_enter Tryz.func165, Tryz.ntmps165
    go_wp2
    go_ret
    exact ⟨rfl, Below.refl _ _⟩
  have h1' : ¬ (n : Int) < 1 := by omega
  have h2' : ¬ 4 < (n : Int) := by omega
  have e14 : inB (n : Int) 1 4 = true := inB_yes (by omega) (by omega)
  rw [e14, Bool.and_true]
  clear e14
  go_enter Tryz.func165, Tryz.ntmps165
  go_wp2
  go_loopw [17] (fun i wr => ∃ k : Nat, i = .int .i64 k ∧ k ≤ n ∧ Hid ((l.take k).all codeOk = true) ∧ Below w.heap.size w wr) (fun i _ => n - (intOf i).toNat)
  case atStart => exact ⟨0, rfl, Nat.zero_le _, rfl, Below.refl _ _⟩
  case round =>
    obtain ⟨k, rfl, hk, hT, hb⟩ := hrel
    by_cases hlt : k < n
    · obtain ⟨b, off, e, hc⟩ := hr.1.2 k hlt
      subst e
      have hck : wr.cell? ⟨b, off + k, none⟩ = some (.int .i64 (nt l k)) := (hb.cell (World.block_lt_of_cell? w _ hc)).trans hc
      clear hc
      have hlt' : (k : Int) < n := by omega
      have hkl : Hid (k < l.length) := by show k < l.length; rw [HL.out]; exact hlt
      go_wp2_with fail
      refine (isWantCode_i _ _).mono ?_
      rintro e w2 ⟨rfl, hw2⟩
      have hb2 := hb
      subst hw2
      cases hv : codeOk (nt l k)
      · have HN : Hid (l.all codeOk = false) := all_no codeOk l 0 k hkl.out hv
        clear hv
        go_wp2
        go_ret
        exact ⟨ret_bool HN.out.symm, hb2⟩
      · have HS : Hid ((l.take (k + 1)).all codeOk = true) := all_step codeOk l 0 k hkl.out hT.out hv
        clear hv
        go_wp2
        go_roundw
        case rel => exact ⟨k + 1, by go_num, by omega, HS, hb2⟩
        case measure => simp [intOf]; omega
    · have hlt' : ¬ (k : Int) < n := by omega
      obtain rfl : k = n := by omega
      go_wp2
      go_ret
      exact ⟨ret_bool (all_all codeOk l _ HL.out hT.out).symm, hb⟩
set_option maxRecDepth 100000 in
set_option maxHeartbeats 1000000 in
theorem list_strs (ao : Option Addr) (n cap : Nat) (l : List ByteArray) (w : World) (hr : SRd w ao n cap l) (hs : ∀ s ∈ l, s.size ≤ 1048576) :
    Calls Tryz.prog 170 #[.slice ao n cap, .func (.func 160) #[] #[]] w fun e w' => e = .returned (.bool (l.all flt && inB n 1 4)) ∧ Below w.heap.size w w' := by
  have HL : Hid (l.length = n) := hr.1.1
  by_cases h1 : n < 1
  · have h1' : (n : Int) < 1 := by omega
    rw [inB_lo h1', Bool.and_false]
    go_enter Tryz.func170, Tryz.ntmps170
    go_wp2
    go_ret
    exact ⟨rfl, Below.refl _ _⟩
  by_cases h2 : 4 < n
  · have h1' : ¬ (n : Int) < 1 := by omega
    have h2' : 4 < (n : Int) := by omega
    rw [inB_hi h2', Bool.and_false]
    go_enter Tryz.func170, Tryz.ntmps170
    go_wp2
    go_ret
    exact ⟨rfl, Below.refl _ _⟩
  have h1' : ¬ (n : Int) < 1 := by omega
  have h2' : ¬ 4 < (n : Int) := by omega
  have e14 : inB (n : Int) 1 4 = true := inB_yes (by omega) (by omega)
  rw [e14, Bool.and_true]
  clear e14
  go_enter Tryz.func170, Tryz.ntmps170
  go_wp2
  go_loopw [17] (fun i wr => ∃ k : Nat, i = .int .i64 k ∧ k ≤ n ∧ Hid ((l.take k).all flt = true) ∧ Below w.heap.size w wr) (fun i _ => n - (intOf i).toNat)
  case atStart => exact ⟨0, rfl, Nat.zero_le _, rfl, Below.refl _ _⟩
  case round =>
    obtain ⟨k, rfl, hk, hT, hb⟩ := hrel
    by_cases hlt : k < n
    · obtain ⟨b, off, e, hc⟩ := hr.1.2 k hlt
      subst e
      have hck : wr.cell? ⟨b, off + k, none⟩ = some (.string (st l k)) := (hb.cell (World.block_lt_of_cell? w _ hc)).trans hc
      clear hc
      have hlt' : (k : Int) < n := by omega
      have hkl : Hid (k < l.length) := by show k < l.length; rw [HL.out]; exact hlt
      go_wp2_with fail
      refine (fil_iFilterOk (st l k) _ (hs _ (st_mem hkl.out))).mono ?_
      rintro e w2 ⟨he, hw2⟩
      have hb2 := bel hb hw2
      obtain rfl : e = .returned (.bool (flt (st l k))) := he
      cases hv : flt (st l k)
      · have HN : Hid (l.all flt = false) := all_no flt l ByteArray.empty k hkl.out hv
        clear hv
        go_wp2
        go_ret
        exact ⟨ret_bool HN.out.symm, hb2⟩
      · have HS : Hid ((l.take (k + 1)).all flt = true) := all_step flt l ByteArray.empty k hkl.out hT.out hv
        clear hv
        go_wp2
        go_roundw
        case rel => exact ⟨k + 1, by go_num, by omega, HS, hb2⟩
        case measure => simp [intOf]; omega
    · have hlt' : ¬ (k : Int) < n := by omega
      obtain rfl : k = n := by omega
      go_wp2
      go_ret
      exact ⟨ret_bool (all_all flt l _ HL.out hT.out).symm, hb⟩
theorem wt_mem {l : List (ByteArray × Int)} {k : Nat} (h : k < l.length) : (wf l k, wq l k) ∈ l := by
  have e : (wf l k, wq l k) = l[k]'h := by simp [wf, wq, List.getD_eq_getElem?_getD, List.getElem?_eq_getElem h]
  rw [e]
  exact List.getElem_mem h
set_option maxRecDepth 100000 in
set_option maxHeartbeats 1000000 in
theorem list_wants (ao : Option Addr) (n cap : Nat) (l : List (ByteArray × Int)) (w : World) (hr : WRd w ao n cap l) (hs : ∀ x ∈ l, x.1.size ≤ 1048576) :
    Calls Tryz.prog 158 #[.slice ao n cap, .func (.func 159) #[] #[]] w fun e w' => e = .returned (.bool (l.all wishOk && inB n 1 4)) ∧ Below w.heap.size w w' := by
  have HL : Hid (l.length = n) := hr.1.1
  by_cases h1 : n < 1
  · have h1' : (n : Int) < 1 := by omega
    rw [inB_lo h1', Bool.and_false]
    go_enter Tryz.func158, Tryz.ntmps158
    go_wp2
    go_ret
    exact ⟨rfl, Below.refl _ _⟩
  by_cases h2 : 4 < n
  · have h1' : ¬ (n : Int) < 1 := by omega
    have h2' : 4 < (n : Int) := by omega
    rw [inB_hi h2', Bool.and_false]
    go_enter Tryz.func158, Tryz.ntmps158
    go_wp2
    go_ret
    exact ⟨rfl, Below.refl _ _⟩
  have h1' : ¬ (n : Int) < 1 := by omega
  have h2' : ¬ 4 < (n : Int) := by omega
  have e14 : inB (n : Int) 1 4 = true := inB_yes (by omega) (by omega)
  rw [e14, Bool.and_true]
  clear e14
  go_enter Tryz.func158, Tryz.ntmps158
  go_wp2
  go_loopw [17] (fun i wr => ∃ k : Nat, i = .int .i64 k ∧ k ≤ n ∧ Hid ((l.take k).all wishOk = true) ∧ Below w.heap.size w wr) (fun i _ => n - (intOf i).toNat)
  case atStart => exact ⟨0, rfl, Nat.zero_le _, rfl, Below.refl _ _⟩
  case round =>
    obtain ⟨k, rfl, hk, hT, hb⟩ := hrel
    by_cases hlt : k < n
    · obtain ⟨b, off, e, hc, hd⟩ := hr.1.2 k hlt
      subst e
      have hck : wr.cell? ⟨b, off + k * 2, none⟩ = some (.string (wf l k)) := (hb.cell (World.block_lt_of_cell? w _ hc)).trans hc
      have hdk : wr.cell? ⟨b, off + k * 2 + 1, none⟩ = some (.int .i64 (wq l k)) := (hb.cell (World.block_lt_of_cell? w _ hd)).trans hd
      clear hc hd
      have hlt' : (k : Int) < n := by omega
      have hkl : Hid (k < l.length) := by show k < l.length; rw [HL.out]; exact hlt
      go_wp2_with fail
      refine (isWant_i (wf l k) (wq l k) _ (hs _ (wt_mem hkl.out))).mono ?_
      rintro e w2 ⟨rfl, hw2⟩
      have hb2 := bel hb (bel (bel_new _ _) hw2)
      cases hv : wishOk (wf l k, wq l k)
      · have HN : Hid (l.all wishOk = false) := all_no wishOk l (ByteArray.empty, 0) k hkl.out hv
        clear hv
        go_wp2
        go_ret
        exact ⟨ret_bool HN.out.symm, hb2⟩
      · have HS : Hid ((l.take (k + 1)).all wishOk = true) := all_step wishOk l (ByteArray.empty, 0) k hkl.out hT.out hv
        clear hv
        go_wp2
        go_roundw
        case rel => exact ⟨k + 1, by go_num, by omega, HS, hb2⟩
        case measure => simp [intOf]; omega
    · have hlt' : ¬ (k : Int) < n := by omega
      obtain rfl : k = n := by omega
      go_wp2
      go_ret
      exact ⟨ret_bool (all_all wishOk l _ HL.out hT.out).symm, hb⟩
end Go.Proofs.YtfpclkkkenekpaaGreat
