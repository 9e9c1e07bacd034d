/- What may be told of, what may be wanted: both sides. -/
import Derived.Test.YtfpclkkkenekpaaGreatWilds
import Derived.Test.YtfpclkkkenekpaaGreatCnts
set_option linter.unusedVariables false
set_option linter.unusedSimpArgs false
namespace Go.Proofs.YtfpclkkkenekpaaGreat
open Go.RowKit

theorem text_is {s : ByteArray} {l : List UInt8} (h : s.data.toList = l) : (s.toList == l) = true := by
  rw [ByteArray.toList_eq, h]; simp
theorem text_not {s : ByteArray} {l : List UInt8} (h : s.data.toList ≠ l) : (s.toList == l) = false := by
  rw [ByteArray.toList_eq]; exact beq_eq_false_iff_ne.2 h
theorem text_is' {s : ByteArray} {l : List UInt8} (h : s.data.toList = l) : (s.toList != l) = false := by
  rw [ByteArray.toList_eq, h]; simp
theorem text_not' {s : ByteArray} {l : List UInt8} (h : s.data.toList ≠ l) : (s.toList != l) = true := by
  rw [ByteArray.toList_eq]; simpa using h
theorem text_empty {s : ByteArray} (h : s.data.toList = []) : s.toList.isEmpty = true := by
  rw [ByteArray.toList_eq, h]; rfl
theorem text_some {s : ByteArray} (h : s.data.toList ≠ []) : s.toList.isEmpty = false := by
  rw [ByteArray.toList_eq]
  cases hl : s.data.toList with
  | nil => exact absurd hl h
  | cons a r => rfl

/-- impl.mayBeWanted. -/
theorem may_imayBeWanted (s : ByteArray) (last : Bool) (w : World) (hs : s.size ≤ 1048576) :
    Calls Tryz.prog 161 #[.string s, .bool last] w fun e w' => e = .returned (.bool (may s.data.toList last)) ∧ Below w.heap.size w w' := by
  by_cases h1 : s.data.toList = [43]
  · have e1 := text_is h1
    have HM : Hid (may s.data.toList last = true) := by unfold Hid may; rw [if_pos h1]
    clear h1
    go_enter Tryz.func161, Tryz.ntmps161
    go_wp2
    go_ret
    exact ⟨ret_bool HM.out.symm, Below.refl _ _⟩
  · have e1 := text_not h1
    by_cases h2 : s.data.toList = [35]
    · have e2 := text_is h2
      have HM : Hid (may s.data.toList last = last) := by unfold Hid may; rw [if_neg h1, if_pos h2]
      clear h1 h2
      go_enter Tryz.func161, Tryz.ntmps161
      go_wp2
      go_ret
      exact ⟨ret_bool HM.out.symm, Below.refl _ _⟩
    · have e2 := text_not h2
      have HM : Hid (may s.data.toList last = !wildB s.data.toList) := by unfold Hid may; rw [if_neg h1, if_neg h2]
      clear h1 h2
      go_enter Tryz.func161, Tryz.ntmps161
      go_wp2_with fail
      refine (wild_ihasWild s _ hs).mono ?_
      rintro e w1 ⟨rfl, hb⟩
      go_wp2
      go_ret
      exact ⟨ret_bool HM.out.symm, hb⟩

/-- impl.levelsOk. -/
theorem lev_ilevelsOk (s : ByteArray) (w : World) (hs : s.size ≤ 1048576) :
    Calls Tryz.prog 103 #[.string s] w fun e w' => e = .returned (.bool (levOk s.data.toList)) ∧ Below w.heap.size w w' := by
  by_cases h0 : s.data.toList = []
  · have e0 := text_empty h0
    have HM : Hid (levOk s.data.toList = false) := by unfold Hid levOk; simp [h0]
    clear h0
    go_enter Tryz.func103, Tryz.ntmps103
    go_wp2
    go_ret
    exact ⟨ret_bool HM.out.symm, Below.refl _ _⟩
  · have e0 := text_some h0
    cases hok : okT s.data.toList with
    | false =>
      have HM : Hid (levOk s.data.toList = false) := by unfold Hid levOk; simp [hok]
      have c := ok_iTextOk s w (by omega)
      rw [hok] at c
      clear h0 hok
      go_enter Tryz.func103, Tryz.ntmps103
      go_wp2_with fail
      refine c.mono ?_
      rintro e w1 ⟨rfl, hb⟩
      go_wp2
      go_ret
      exact ⟨ret_bool HM.out.symm, hb⟩
    | true =>
      obtain ⟨n, hN⟩ : ∃ n, (lvl s.data.toList).length = n := ⟨_, rfl⟩
      have HM : Hid (levOk s.data.toList = decide ((n : Int) ≤ 6)) := by
        unfold Hid levOk
        rw [hok, hN]
        simp only [ne_eq, h0, not_false_eq_true, decide_true, Bool.true_and]
        congr 1
        rw [eq_iff_iff]
        constructor <;> intro _ <;> omega
      have HN : Hid ((lvl s.data.toList).length = n) := hN
      have c := ok_iTextOk s w (by omega)
      rw [hok] at c
      clear h0 hok hN
      go_enter Tryz.func103, Tryz.ntmps103
      go_wp2_with fail
      refine c.mono ?_
      rintro e w1 ⟨rfl, hb⟩
      go_wp2_with fail
      refine (lev_iLevels s n w1 hs HN.out).mono ?_
      rintro e w2 ⟨rfl, ho2, hb2⟩
      go_wp2
      go_ret
      exact ⟨ret_bool HM.out.symm, bel2 hb hb2⟩

/-- impl.TopicOk. -/
theorem top_iTopicOk (s : ByteArray) (w : World) (hs : s.size ≤ 1048576) :
    Calls Tryz.prog 101 #[.string s] w fun e w' => e = .returned (.bool (topOk s.data.toList)) ∧ Below w.heap.size w w' := by
  have c := lev_ilevelsOk s w hs
  cases hl : levOk s.data.toList with
  | false =>
    have HM : Hid (topOk s.data.toList = false) := by unfold Hid topOk; rw [hl]; rfl
    rw [hl] at c
    clear hl
    go_enter Tryz.func101, Tryz.ntmps101
    go_wp2_with fail
    refine c.mono ?_
    rintro e w1 ⟨rfl, hb⟩
    go_wp2
    go_ret
    exact ⟨ret_bool HM.out.symm, hb⟩
  | true =>
    have HM : Hid (topOk s.data.toList = !wildB s.data.toList) := by unfold Hid topOk; rw [hl]; rfl
    rw [hl] at c
    clear hl
    go_enter Tryz.func101, Tryz.ntmps101
    go_wp2_with fail
    refine c.mono ?_
    rintro e w1 ⟨rfl, hb⟩
    go_wp2_with fail
    refine (wild_ihasWild s _ hs).mono ?_
    rintro e w2 ⟨rfl, hb2⟩
    go_wp2
    go_ret
    exact ⟨ret_bool HM.out.symm, bel2 hb hb2⟩

theorem topOk_alt (l : List UInt8) : topOk l = (okT l && (decide (l ≠ []) && (!has l 43 && (!has l 35 && decide ((lvl l).length ≤ 6))))) := by
  unfold topOk levOk wildB
  cases okT l <;> cases has l 43 <;> cases has l 35 <;> cases decide (l ≠ []) <;> cases decide ((lvl l).length ≤ 6) <;> rfl

set_option maxHeartbeats 1000000 in
/-- spec.TopicOk. -/
theorem top_sTopicOk (s : ByteArray) (w : World) (hs : s.size ≤ 1048576) :
    Calls Tryz.prog 58 #[.string s] w fun e w' => e = .returned (.bool (topOk s.data.toList)) ∧ Below w.heap.size w w' := by
  have HT : Hid (topOk s.data.toList = _) := topOk_alt s.data.toList
  have c := ok_sTextOk s w (by omega)
  have cp := fun w => has_sl3Has s 43 43 rfl w hs
  have cn := fun w => has_sl3Has s 35 35 rfl w hs
  cases hok : okT s.data.toList with
  | false =>
    have HM : Hid (topOk s.data.toList = false) := by unfold Hid; rw [HT.out, hok]; rfl
    rw [hok] at c
    clear hok
    go_enter Tryz.func58, Tryz.ntmps58
    go_wp2_with fail
    refine c.mono ?_
    rintro e w1 ⟨rfl, hb⟩
    go_wp2
    go_ret
    exact ⟨ret_bool HM.out.symm, hb⟩
  | true =>
    rw [hok] at c
    by_cases h0 : s.data.toList = []
    · have HM : Hid (topOk s.data.toList = false) := by unfold Hid; rw [HT.out, h0]; simp
      have e0 := text_empty h0
      clear hok h0
      go_enter Tryz.func58, Tryz.ntmps58
      go_wp2_with fail
      refine c.mono ?_
      rintro e w1 ⟨rfl, hb⟩
      go_wp2
      go_ret
      exact ⟨ret_bool HM.out.symm, hb⟩
    · have e0 := text_some h0
      cases hp : has s.data.toList 43 with
      | true =>
        have HM : Hid (topOk s.data.toList = false) := by unfold Hid; rw [HT.out, hp]; simp
        rw [hp] at cp
        clear hok h0 hp
        go_enter Tryz.func58, Tryz.ntmps58
        go_wp2_with fail
        refine c.mono ?_
        rintro e w1 ⟨rfl, hb⟩
        go_wp2_with fail
        refine (cp w1).mono ?_
        rintro e w2 ⟨rfl, hw⟩
        rw [hw]
        go_wp2
        go_ret
        exact ⟨ret_bool HM.out.symm, hb⟩
      | false =>
        rw [hp] at cp
        cases hn : has s.data.toList 35 with
        | true =>
          have HM : Hid (topOk s.data.toList = false) := by unfold Hid; rw [HT.out, hn]; simp
          rw [hn] at cn
          clear hok h0 hp hn
          go_enter Tryz.func58, Tryz.ntmps58
          go_wp2_with fail
          refine c.mono ?_
          rintro e w1 ⟨rfl, hb⟩
          go_wp2_with fail
          refine (cp w1).mono ?_
          rintro e w2 ⟨rfl, hw⟩
          rw [hw]
          go_wp2_with fail
          refine (cn w1).mono ?_
          rintro e w3 ⟨rfl, hw3⟩
          rw [hw3]
          go_wp2
          go_ret
          exact ⟨ret_bool HM.out.symm, hb⟩
        | false =>
          rw [hn] at cn
          obtain ⟨n, hN⟩ : ∃ n, (lvl s.data.toList).length = n := ⟨_, rfl⟩
          have HM : Hid (topOk s.data.toList = decide ((n : Int) ≤ 6)) := by
            unfold Hid
            rw [HT.out, hok, hp, hn, hN]
            simp only [ne_eq, h0, not_false_eq_true, decide_true, Bool.true_and, Bool.not_false]
            congr 1
            rw [eq_iff_iff]
            constructor <;> intro _ <;> omega
          have HN : Hid ((lvl s.data.toList).length = n) := hN
          clear hok h0 hp hn hN
          go_enter Tryz.func58, Tryz.ntmps58
          go_wp2_with fail
          refine c.mono ?_
          rintro e w1 ⟨rfl, hb⟩
          go_wp2_with fail
          refine (cp w1).mono ?_
          rintro e w2 ⟨rfl, hw⟩
          rw [hw]
          go_wp2_with fail
          refine (cn w1).mono ?_
          rintro e w3 ⟨rfl, hw3⟩
          rw [hw3]
          go_wp2_with fail
          refine (lev_sLevels s n w1 hs HN.out).mono ?_
          rintro e w4 ⟨ao, cap, rfl, ho4, hb4⟩
          go_wp2
          go_ret
          exact ⟨ret_bool HM.out.symm, bel2 hb hb4⟩

end Go.Proofs.YtfpclkkkenekpaaGreat
