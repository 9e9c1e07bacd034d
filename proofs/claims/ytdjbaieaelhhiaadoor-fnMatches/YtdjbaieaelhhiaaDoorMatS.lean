/- What fits what: the specification's side. -/
import Derived.Test.YtdjbaieaelhhiaaDoorFils
import Derived.Test.YtdjbaieaelhhiaaDoorFits
import Derived.Test.YtdjbaieaelhhiaaDoorIMem
set_option linter.unusedVariables false
set_option linter.unusedSimpArgs false
namespace Go.Proofs.YtdjbaieaelhhiaaDoor
open Go.RowKit

theorem dats_nth {ss : List ByteArray} {k n : Nat} (hl : ss.length = n) (h : k < n) : (dats ss).getD k [] = (st ss k).data.toList := dats_at ss k (by omega)

theorem loose_at (s : ByteArray) (h : 0 < s.size) : looseB s.data.toList = ((((s[0]'h).toNat : Int) == 43) || (((s[0]'h).toNat : Int) == 35)) := by
  rw [byte_lit _ 43 43 rfl, byte_lit _ 35 35 rfl]
  have hl : s.data.toList[0]? = some (s[0]'h) := at_data s 0 h
  generalize s[0]'h = x at hl
  generalize s.data.toList = l at hl
  match l, hl with
  | y :: r, hl =>
    simp at hl
    subst hl
    simp only [looseB]
    rw [Bool.eq_iff_iff]
    simp only [Bool.or_eq_true, beq_iff_eq]
    exact ⟨fun e => e.elim (fun a => .inl a.symm) (fun a => .inr a.symm), fun e => e.elim (fun a => .inl a.symm) (fun a => .inr a.symm)⟩

/-- spec.l4Loose. -/
theorem loose_sl4Loose (s : ByteArray) (w : World) :
    Calls Tryd.prog 39 #[.string s] w fun e w' => e = .returned (.bool (looseB s.data.toList)) ∧ w' = w := by
  by_cases h0 : s.data.toList = []
  · have HL : Hid (looseB s.data.toList = false) := by unfold Hid; rw [h0]; rfl
    have e0 := text_empty h0
    clear h0
    go_enter Tryd.func39, Tryd.ntmps39
    go_wp2
    go_ret
    exact ⟨ret_bool HL.out.symm, rfl⟩
  · have h : 0 < s.size := by
      have e1 : s.size = s.data.toList.length := rfl
      have := List.length_pos_iff.2 h0
      omega
    have HL : Hid (looseB s.data.toList = _) := loose_at s h
    have h' : (0 : Int) < (s.size : Int) := by omega
    have e0 := text_some h0
    clear h0
    cases hp : (((s[0]'h).toNat : Int) == 43) with
    | true =>
      have HM : Hid (looseB s.data.toList = true) := by unfold Hid; rw [HL.out, hp]; rfl
      go_enter Tryd.func39, Tryd.ntmps39
      go_wp2
      go_ret
      exact ⟨ret_bool HM.out.symm, rfl⟩
    | false =>
      have HM : Hid (looseB s.data.toList = (((s[0]'h).toNat : Int) == 35)) := by unfold Hid; rw [HL.out, hp]; rfl
      go_enter Tryd.func39, Tryd.ntmps39
      go_wp2
      go_ret
      exact ⟨ret_bool HM.out.symm, rfl⟩

set_option maxHeartbeats 4000000 in
set_option maxRecDepth 100000 in
/-- spec.l4Fits. -/
theorem fits_sl4Fits (ao a1 : Option Addr) (n cap m cap1 : Nat) (fs gs : List ByteArray) (w : World) (hr : SRd w ao n cap fs) (h1 : SRd w a1 m cap1 gs) (hn : n ≤ 1048577) (hm : m ≤ 1048577) :
    Calls Tryd.prog 41 #[.slice ao n cap, .slice a1 m cap1] w fun e w' => e = .returned (.bool (fits (dats fs) (dats gs))) ∧ Below w.heap.size w w' := by
  have HF : Hid (fs.length = n) := hr.1.1
  have HG : Hid (gs.length = m) := h1.1.1
  go_enter Tryd.func41, Tryd.ntmps41
  go_wp2
  go_loopw [5] (fun i wr => ∃ k : Nat, i = .int .i64 k ∧ k ≤ n ∧ k ≤ m ∧ fits (dats fs) (dats gs) = fits ((dats fs).drop k) ((dats gs).drop k) ∧ Below w.heap.size w wr) (fun i _ => n - (intOf i).toNat)
  case atStart => exact ⟨0, rfl, Nat.zero_le _, Nat.zero_le _, rfl, Below.refl _ _⟩
  case round =>
    obtain ⟨k, rfl, hk, hkm0, hfit, hb⟩ := hrel
    have HK : Hid (fits (dats fs) (dats gs) = fits ((dats fs).drop k) ((dats gs).drop k)) := hfit
    clear hfit
    by_cases hlt : k < n
    · obtain ⟨b, off, e, hc⟩ := hr.1.2 k hlt
      subst e
      have hck : wr.cell? ⟨b, off + k, none⟩ = some (.string (st fs k)) := (hb.cell (World.block_lt_of_cell? w _ hc)).trans hc
      have hlt' : (k : Int) < n := by omega
      have hlf : k < (dats fs).length := by rw [dats_length, HF.out]; exact hlt
      have hx := dats_nth HF.out hlt
      generalize st fs k = x at hck hx
      clear hc
      by_cases h35 : x.data.toList = [35]
      · have F : Hid (fits (dats fs) (dats gs) = true) := by unfold Hid; rw [HK.out]; exact fits_all _ _ k hlf (hx.trans h35)
        have e1 := text_is h35
        clear h35 hx hlf
        go_wp2
        go_ret
        exact ⟨ret_bool F.out.symm, hb⟩
      · have e1 := text_not h35
        have k0 : (0 : Int) ≤ k := by omega
        by_cases hkm : m ≤ k
        · have F : Hid (fits (dats fs) (dats gs) = false) := by unfold Hid; rw [HK.out]; exact fits_short _ _ k hlf (by rw [hx]; exact h35) (by rw [dats_length, HG.out]; exact hkm)
          have hge : decide ((m : Int) ≤ (k : Int)) = true := decide_eq_true (by omega)
          have hge' : (m : Int) ≤ (k : Int) := by omega
          clear h35 hx hlf
          go_wp2
          go_quiet (fail)
          go_wp2
          go_ret
          exact ⟨ret_bool F.out.symm, below_drewN hb _⟩
        · have hge : decide ((m : Int) ≤ (k : Int)) = false := decide_eq_false (by omega)
          have hkm' : (k : Int) < m := by omega
          obtain ⟨b1, off1, e2, hc1⟩ := h1.1.2 k (by omega)
          subst e2
          have hck1 : wr.cell? ⟨b1, off1 + k, none⟩ = some (.string (st gs k)) := (hb.cell (World.block_lt_of_cell? w _ hc1)).trans hc1
          have hy := dats_nth HG.out (show k < m by omega)
          generalize st gs k = y at hck1 hy
          have hstep := fits_step (dats fs) (dats gs) k hlf (by rw [hx]; exact h35) (by rw [dats_length, HG.out]; omega)
          rw [hx, hy] at hstep
          have HS : Hid (fits ((dats fs).drop k) ((dats gs).drop k) = (fit1 x.data.toList y.data.toList && fits ((dats fs).drop (k + 1)) ((dats gs).drop (k + 1)))) := hstep
          clear hstep hc1 hx hy hlf
          have bad : fit1 x.data.toList y.data.toList = false → Hid (fits (dats fs) (dats gs) = false) := fun h => by unfold Hid; rw [HK.out, HS.out, h]; rfl
          have good : fit1 x.data.toList y.data.toList = true → Hid (fits (dats fs) (dats gs) = fits ((dats fs).drop (k + 1)) ((dats gs).drop (k + 1))) := fun h => by unfold Hid; rw [HK.out, HS.out, h]; rfl
          by_cases h43 : x.data.toList = [43]
          · have e3 := text_is h43
            by_cases hy35 : y.data.toList = [35]
            · have F := bad (by unfold fit1; rw [if_pos h43]; simp [hy35])
              have e4 := text_is hy35
              clear bad good h35 h43 hy35
              go_wp2
              go_quiet (fail)
              go_wp2
              go_ret
              exact ⟨ret_bool F.out.symm, below_drewN hb _⟩
            · have G := good (by unfold fit1; rw [if_pos h43]; simp [hy35])
              have e4 := text_not hy35
              clear bad good h35 h43 hy35
              go_wp2
              go_quiet (fail)
              go_wp2
              go_roundw
              case rel => exact ⟨k + 1, by go_num, by omega, by omega, G.out, below_drewN hb _⟩
              case measure => simp [intOf] <;> omega
          · have e3 := text_not h43
            by_cases hxy : x.data.toList = y.data.toList
            · have G := good (by unfold fit1; rw [if_neg h43]; simp [hxy])
              have e4 : (x.toList == y.toList) = true := by rw [ByteArray.toList_eq, ByteArray.toList_eq, hxy]; simp
              clear bad good h35 h43 hxy
              go_wp2
              go_quiet (fail)
              go_wp2
              go_roundw
              case rel => exact ⟨k + 1, by go_num, by omega, by omega, G.out, below_drewN hb _⟩
              case measure => simp [intOf] <;> omega
            · have F := bad (by unfold fit1; rw [if_neg h43]; simp [hxy])
              have e4 : (x.toList == y.toList) = false := by rw [ByteArray.toList_eq, ByteArray.toList_eq]; exact beq_eq_false_iff_ne.2 hxy
              clear bad good h35 h43 hxy
              go_wp2
              go_quiet (fail)
              go_wp2
              go_ret
              exact ⟨ret_bool F.out.symm, below_drewN hb _⟩
    · have hlt' : ¬ (k : Int) < n := by omega
      obtain rfl : k = n := by omega
      have hend := fits_end (dats fs) (dats gs) k (by rw [dats_length, HF.out]; exact Nat.le_refl _)
      rw [dats_length, HG.out] at hend
      have HE : Hid (fits (dats fs) (dats gs) = decide (m ≤ k)) := by unfold Hid; rw [HK.out, hend]
      clear hend
      have HE2 : Hid (fits (dats fs) (dats gs) = ((k : Int) == (m : Int))) := by
        unfold Hid
        rw [HE.out, Bool.eq_iff_iff, beq_iff_eq, decide_eq_true_eq]
        constructor <;> intro _ <;> omega
      go_wp2
      go_ret
      exact ⟨ret_bool HE2.out.symm, hb⟩

/-- spec.Hidden, in the words of what fits. -/
theorem hid_sHidden' (s : ByteArray) (w : World) :
    Calls Tryd.prog 40 #[.string s] w fun e w' => e = .returned (.bool (hidB s.data.toList)) ∧ w' = w := by
  rw [← hidB_starts]; exact hid_sHidden s w

/-- impl.Hidden, in the words of what fits. -/
theorem hid_iHidden' (s : ByteArray) (w : World) :
    Calls Tryd.prog 15 #[.string s] w fun e w' => e = .returned (.bool (hidB s.data.toList)) ∧ w' = w := by
  rw [← hidB_starts]; exact hid_iHidden s w

set_option maxHeartbeats 1000000 in
/-- spec.Match. -/
theorem mat_sMatch (f t : ByteArray) (w : World) (hf : f.size ≤ 1048576) (ht : t.size ≤ 1048576) :
    Calls Tryd.prog 12 #[.string f, .string t] w fun e w' => e = .returned (.bool (matchB f.data.toList t.data.toList)) ∧ Below w.heap.size w w' := by
  have HM : Hid (matchB f.data.toList t.data.toList = (filOk f.data.toList && (topOk t.data.toList && (!(looseB f.data.toList && hidB t.data.toList) && fits (lvl f.data.toList) (lvl t.data.toList))))) := rfl
  have cF := fun w => fil_sFilterOk f w hf
  have cT := fun w => top_sTopicOk t w ht
  have cL := fun w => loose_sl4Loose f w
  have cH := fun w => hid_sHidden' t w
  cases h1 : filOk f.data.toList with
  | false =>
    have F : Hid (matchB f.data.toList t.data.toList = false) := by unfold Hid; rw [HM.out, h1]; rfl
    rw [h1] at cF
    clear h1
    go_enter Tryd.func12, Tryd.ntmps12
    go_wp2_with fail
    refine (cF w).mono ?_
    rintro e w1 ⟨rfl, hb1⟩
    go_wp2
    go_ret
    exact ⟨ret_bool F.out.symm, hb1⟩
  | true =>
    rw [h1] at cF
    cases h2 : topOk t.data.toList with
    | false =>
      have F : Hid (matchB f.data.toList t.data.toList = false) := by unfold Hid; rw [HM.out, h1, h2]; rfl
      rw [h2] at cT
      clear h1 h2
      go_enter Tryd.func12, Tryd.ntmps12
      go_wp2_with fail
      refine (cF w).mono ?_
      rintro e w1 ⟨rfl, hb1⟩
      go_wp2_with fail
      refine (cT w1).mono ?_
      rintro e w2 ⟨rfl, hb2⟩
      go_wp2
      go_ret
      exact ⟨ret_bool F.out.symm, bel2 hb1 hb2⟩
    | true =>
      rw [h2] at cT
      cases h3 : (looseB f.data.toList && hidB t.data.toList) with
      | true =>
        have F : Hid (matchB f.data.toList t.data.toList = false) := by unfold Hid; rw [HM.out, h1, h2, h3]; rfl
        rw [Bool.and_eq_true] at h3
        rw [h3.1] at cL
        rw [h3.2] at cH
        clear h1 h2 h3
        go_enter Tryd.func12, Tryd.ntmps12
        go_wp2_with fail
        refine (cF w).mono ?_
        rintro e w1 ⟨rfl, hb1⟩
        go_wp2_with fail
        refine (cT w1).mono ?_
        rintro e w2 ⟨rfl, hb2⟩
        go_wp2_with fail
        refine (cL w2).mono ?_
        rintro e w3 ⟨rfl, hw3⟩
        rw [hw3]
        go_wp2_with fail
        refine (cH w2).mono ?_
        rintro e w4 ⟨rfl, hw4⟩
        rw [hw4]
        go_wp2
        go_ret
        exact ⟨ret_bool F.out.symm, bel2 hb1 hb2⟩
      | false =>
        have F : Hid (matchB f.data.toList t.data.toList = fits (lvl f.data.toList) (lvl t.data.toList)) := by unfold Hid; rw [HM.out, h1, h2, h3]; rfl
        obtain ⟨n, hN⟩ : ∃ n, (lvl f.data.toList).length = n := ⟨_, rfl⟩
        obtain ⟨m, hM⟩ : ∃ m, (lvl t.data.toList).length = m := ⟨_, rfl⟩
        have hn : n ≤ f.size + 1 := by rw [← hN]; exact lvl_length_le _
        have hm : m ≤ t.size + 1 := by rw [← hM]; exact lvl_length_le _
        have HN : Hid ((lvl f.data.toList).length = n) := hN
        have HMM : Hid ((lvl t.data.toList).length = m) := hM
        have HFF : Hid (fits (dats (lvs f.data.toList)) (dats (lvs t.data.toList)) = fits (lvl f.data.toList) (lvl t.data.toList)) := by unfold Hid; rw [dats_lvs, dats_lvs]
        clear h1 h2 hN hM
        cases h4 : looseB f.data.toList with
        | false =>
          rw [h4] at cL
          clear h3 h4
          go_enter Tryd.func12, Tryd.ntmps12
          go_wp2_with fail
          refine (cF w).mono ?_
          rintro e w1 ⟨rfl, hb1⟩
          go_wp2_with fail
          refine (cT w1).mono ?_
          rintro e w2 ⟨rfl, hb2⟩
          go_wp2_with fail
          refine (cL w2).mono ?_
          rintro e w3 ⟨rfl, hw3⟩
          rw [hw3]
          go_wp2_with fail
          refine (lev_sLevels f n w2 hf HN.out).mono ?_
          rintro e w5 ⟨ao, cap, rfl, ho5, hb5⟩
          go_wp2_with fail
          refine (lev_sLevels t m w5 ht HMM.out).mono ?_
          rintro e w6 ⟨a1, cap1, rfl, ho6, hb6⟩
          go_wp2_with fail
          refine (fits_sl4Fits ao a1 n cap m cap1 _ _ w6 (ho5.below hb6).rd ho6.rd (by omega) (by omega)).mono ?_
          rintro e w7 ⟨he, hb7⟩
          rw [HFF.out, ← F.out] at he
          subst he
          go_wp2
          go_ret
          exact ⟨rfl, bel2 hb1 (bel2 hb2 (bel2 hb5 (bel2 hb6 hb7)))⟩
        | true =>
          rw [h4, Bool.true_and] at h3
          rw [h4] at cL
          rw [h3] at cH
          clear h3 h4
          go_enter Tryd.func12, Tryd.ntmps12
          go_wp2_with fail
          refine (cF w).mono ?_
          rintro e w1 ⟨rfl, hb1⟩
          go_wp2_with fail
          refine (cT w1).mono ?_
          rintro e w2 ⟨rfl, hb2⟩
          go_wp2_with fail
          refine (cL w2).mono ?_
          rintro e w3 ⟨rfl, hw3⟩
          rw [hw3]
          go_wp2_with fail
          refine (cH w2).mono ?_
          rintro e w4 ⟨rfl, hw4⟩
          rw [hw4]
          go_wp2_with fail
          refine (lev_sLevels f n w2 hf HN.out).mono ?_
          rintro e w5 ⟨ao, cap, rfl, ho5, hb5⟩
          go_wp2_with fail
          refine (lev_sLevels t m w5 ht HMM.out).mono ?_
          rintro e w6 ⟨a1, cap1, rfl, ho6, hb6⟩
          go_wp2_with fail
          refine (fits_sl4Fits ao a1 n cap m cap1 _ _ w6 (ho5.below hb6).rd ho6.rd (by omega) (by omega)).mono ?_
          rintro e w7 ⟨he, hb7⟩
          rw [HFF.out, ← F.out] at he
          subst he
          go_wp2
          go_ret
          exact ⟨rfl, bel2 hb1 (bel2 hb2 (bel2 hb5 (bel2 hb6 hb7)))⟩

set_option maxHeartbeats 1000000 in
/-- spec.Covers. -/
theorem cov_sCovers (f t : ByteArray) (w : World) (hf : f.size ≤ 1048576) (ht : t.size ≤ 1048576) :
    Calls Tryd.prog 19 #[.string f, .string t] w fun e w' => e = .returned (.bool (covB f.data.toList t.data.toList)) ∧ Below w.heap.size w w' := by
  have HM : Hid (covB f.data.toList t.data.toList = (filOk f.data.toList && (filOk t.data.toList && (!(looseB f.data.toList && hidB t.data.toList) && fits (lvl f.data.toList) (lvl t.data.toList))))) := rfl
  have cF := fun w => fil_sFilterOk f w hf
  have cT := fun w => fil_sFilterOk t w ht
  have cL := fun w => loose_sl4Loose f w
  have cH := fun w => hid_sHidden' t w
  cases h1 : filOk f.data.toList with
  | false =>
    have F : Hid (covB f.data.toList t.data.toList = false) := by unfold Hid; rw [HM.out, h1]; rfl
    rw [h1] at cF
    clear h1
    go_enter Tryd.func19, Tryd.ntmps19
    go_wp2_with fail
    refine (cF w).mono ?_
    rintro e w1 ⟨rfl, hb1⟩
    go_wp2
    go_ret
    exact ⟨ret_bool F.out.symm, hb1⟩
  | true =>
    rw [h1] at cF
    cases h2 : filOk t.data.toList with
    | false =>
      have F : Hid (covB f.data.toList t.data.toList = false) := by unfold Hid; rw [HM.out, h1, h2]; rfl
      rw [h2] at cT
      clear h1 h2
      go_enter Tryd.func19, Tryd.ntmps19
      go_wp2_with fail
      refine (cF w).mono ?_
      rintro e w1 ⟨rfl, hb1⟩
      go_wp2_with fail
      refine (cT w1).mono ?_
      rintro e w2 ⟨rfl, hb2⟩
      go_wp2
      go_ret
      exact ⟨ret_bool F.out.symm, bel2 hb1 hb2⟩
    | true =>
      rw [h2] at cT
      cases h3 : (looseB f.data.toList && hidB t.data.toList) with
      | true =>
        have F : Hid (covB f.data.toList t.data.toList = false) := by unfold Hid; rw [HM.out, h1, h2, h3]; rfl
        rw [Bool.and_eq_true] at h3
        rw [h3.1] at cL
        rw [h3.2] at cH
        clear h1 h2 h3
        go_enter Tryd.func19, Tryd.ntmps19
        go_wp2_with fail
        refine (cF w).mono ?_
        rintro e w1 ⟨rfl, hb1⟩
        go_wp2_with fail
        refine (cT w1).mono ?_
        rintro e w2 ⟨rfl, hb2⟩
        go_wp2_with fail
        refine (cL w2).mono ?_
        rintro e w3 ⟨rfl, hw3⟩
        rw [hw3]
        go_wp2_with fail
        refine (cH w2).mono ?_
        rintro e w4 ⟨rfl, hw4⟩
        rw [hw4]
        go_wp2
        go_ret
        exact ⟨ret_bool F.out.symm, bel2 hb1 hb2⟩
      | false =>
        have F : Hid (covB f.data.toList t.data.toList = fits (lvl f.data.toList) (lvl t.data.toList)) := by unfold Hid; rw [HM.out, h1, h2, h3]; rfl
        obtain ⟨n, hN⟩ : ∃ n, (lvl f.data.toList).length = n := ⟨_, rfl⟩
        obtain ⟨m, hM⟩ : ∃ m, (lvl t.data.toList).length = m := ⟨_, rfl⟩
        have hn : n ≤ f.size + 1 := by rw [← hN]; exact lvl_length_le _
        have hm : m ≤ t.size + 1 := by rw [← hM]; exact lvl_length_le _
        have HN : Hid ((lvl f.data.toList).length = n) := hN
        have HMM : Hid ((lvl t.data.toList).length = m) := hM
        have HFF : Hid (fits (dats (lvs f.data.toList)) (dats (lvs t.data.toList)) = fits (lvl f.data.toList) (lvl t.data.toList)) := by unfold Hid; rw [dats_lvs, dats_lvs]
        clear h1 h2 hN hM
        cases h4 : looseB f.data.toList with
        | false =>
          rw [h4] at cL
          clear h3 h4
          go_enter Tryd.func19, Tryd.ntmps19
          go_wp2_with fail
          refine (cF w).mono ?_
          rintro e w1 ⟨rfl, hb1⟩
          go_wp2_with fail
          refine (cT w1).mono ?_
          rintro e w2 ⟨rfl, hb2⟩
          go_wp2_with fail
          refine (cL w2).mono ?_
          rintro e w3 ⟨rfl, hw3⟩
          rw [hw3]
          go_wp2_with fail
          refine (lev_sLevels f n w2 hf HN.out).mono ?_
          rintro e w5 ⟨ao, cap, rfl, ho5, hb5⟩
          go_wp2_with fail
          refine (lev_sLevels t m w5 ht HMM.out).mono ?_
          rintro e w6 ⟨a1, cap1, rfl, ho6, hb6⟩
          go_wp2_with fail
          refine (fits_sl4Fits ao a1 n cap m cap1 _ _ w6 (ho5.below hb6).rd ho6.rd (by omega) (by omega)).mono ?_
          rintro e w7 ⟨he, hb7⟩
          rw [HFF.out, ← F.out] at he
          subst he
          go_wp2
          go_ret
          exact ⟨rfl, bel2 hb1 (bel2 hb2 (bel2 hb5 (bel2 hb6 hb7)))⟩
        | true =>
          rw [h4, Bool.true_and] at h3
          rw [h4] at cL
          rw [h3] at cH
          clear h3 h4
          go_enter Tryd.func19, Tryd.ntmps19
          go_wp2_with fail
          refine (cF w).mono ?_
          rintro e w1 ⟨rfl, hb1⟩
          go_wp2_with fail
          refine (cT w1).mono ?_
          rintro e w2 ⟨rfl, hb2⟩
          go_wp2_with fail
          refine (cL w2).mono ?_
          rintro e w3 ⟨rfl, hw3⟩
          rw [hw3]
          go_wp2_with fail
          refine (cH w2).mono ?_
          rintro e w4 ⟨rfl, hw4⟩
          rw [hw4]
          go_wp2_with fail
          refine (lev_sLevels f n w2 hf HN.out).mono ?_
          rintro e w5 ⟨ao, cap, rfl, ho5, hb5⟩
          go_wp2_with fail
          refine (lev_sLevels t m w5 ht HMM.out).mono ?_
          rintro e w6 ⟨a1, cap1, rfl, ho6, hb6⟩
          go_wp2_with fail
          refine (fits_sl4Fits ao a1 n cap m cap1 _ _ w6 (ho5.below hb6).rd ho6.rd (by omega) (by omega)).mono ?_
          rintro e w7 ⟨he, hb7⟩
          rw [HFF.out, ← F.out] at he
          subst he
          go_wp2
          go_ret
          exact ⟨rfl, bel2 hb1 (bel2 hb2 (bel2 hb5 (bel2 hb6 hb7)))⟩

/-- The places of those that fit, from the front. -/
def picksN (ds : List (List UInt8)) (t : List UInt8) (k : Nat) : List Int := ((List.range k).filter fun i => matchB (ds.getD i []) t).map fun i => ((i : Nat) : Int)
def picksB (ds : List (List UInt8)) (t : List UInt8) : List Int := picksN ds t ds.length
theorem picksN_yes {ds : List (List UInt8)} {t : List UInt8} {k : Nat} (h : matchB (ds.getD k []) t = true) : picksN ds t (k + 1) = picksN ds t k ++ [((k : Nat) : Int)] := by
  unfold picksN
  rw [List.range_succ, List.filter_append, List.map_append, List.filter_cons, if_pos h, List.filter_nil]
  rfl
theorem picksN_no {ds : List (List UInt8)} {t : List UInt8} {k : Nat} (h : matchB (ds.getD k []) t = false) : picksN ds t (k + 1) = picksN ds t k := by
  unfold picksN
  rw [List.range_succ, List.filter_append, List.filter_cons, if_neg (by rw [h]; simp), List.filter_nil, List.append_nil]
theorem picksN_le (ds : List (List UInt8)) (t : List UInt8) (k : Nat) : (picksN ds t k).length ≤ k := by
  unfold picksN
  rw [List.length_map]
  exact Nat.le_trans (List.length_filter_le _ _) (by simp)

theorem picksN_prefix (ds : List (List UInt8)) (t : List UInt8) (j : Nat) : ∀ d, ∃ r, picksN ds t (j + d) = picksN ds t j ++ r
  | 0 => ⟨[], by simp⟩
  | d + 1 => by
    obtain ⟨r, hr⟩ := picksN_prefix ds t j d
    cases h : matchB (ds.getD (j + d) []) t with
    | false => exact ⟨r, by rw [show j + (d + 1) = (j + d) + 1 by omega, picksN_no h, hr]⟩
    | true => exact ⟨r ++ [((j + d : Nat) : Int)], by rw [show j + (d + 1) = (j + d) + 1 by omega, picksN_yes h, hr, List.append_assoc]⟩
theorem picks_at {ds : List (List UInt8)} {t : List UInt8} {i : Nat} (h : matchB (ds.getD i []) t = true) (hi : i < ds.length) : (picksN ds t i).length < (picksB ds t).length ∧ nt (picksB ds t) (picksN ds t i).length = (i : Int) := by
  obtain ⟨r, hr⟩ := picksN_prefix ds t (i + 1) (ds.length - (i + 1))
  rw [show i + 1 + (ds.length - (i + 1)) = ds.length by omega, picksN_yes h] at hr
  unfold picksB
  rw [hr]
  refine ⟨by simp <;> omega, ?_⟩
  unfold nt
  rw [List.getD_eq_getElem?_getD, List.append_assoc, List.getElem?_append_right (Nat.le_refl _), Nat.sub_self]
  rfl

set_option maxHeartbeats 1000000 in
/-- spec.Picks. -/
theorem pick_sPicks (ao : Option Addr) (n cap m : Nat) (ss : List ByteArray) (t : ByteArray) (w : World) (hr : SRd w ao n cap ss) (hn : n ≤ 1048576) (hs : ∀ k, k < n → (st ss k).size ≤ 1048576) (ht : t.size ≤ 1048576) (hM : (picksB (dats ss) t.data.toList).length = m) :
    Calls Tryd.prog 23 #[.slice ao n cap, .string t] w fun e w' => ∃ ao' cap', e = .returned (.slice ao' m cap') ∧ IOwn w' w.heap.size ao' m cap' (picksB (dats ss) t.data.toList) ∧ Below w.heap.size w w' := by
  have HF : Hid (ss.length = n) := hr.1.1
  have HS : Hid (∀ k, k < n → (st ss k).size ≤ 1048576) := hs
  have HM : Hid ((picksB (dats ss) t.data.toList).length = m) := hM
  clear hs hM
  go_enter Tryd.func23, Tryd.ntmps23
  go_wp2
  have ho0 := iown_lit0 w
  have hb0 : Below w.heap.size w (w.alloc (.cells #[] 3)) := (Below.refl _ _).alloc (Nat.le_refl _) _
  go_loopw [5, 6] (fun o i wr => ∃ (k q c : Nat) (a : Option Addr), i = .int .i64 k ∧ o = .slice a q c ∧ k ≤ n ∧ IOwn wr w.heap.size a q c (picksN (dats ss) t.data.toList k) ∧ Below w.heap.size w wr) (fun _ i _ => n - (intOf i).toNat)
  case atStart => exact ⟨0, 0, 0, _, rfl, rfl, Nat.zero_le _, ho0, hb0⟩
  case round =>
    obtain ⟨k, q, c, a, rfl, rfl, hk, ho, hb⟩ := hrel
    clear ho0 hb0
    have hq : q ≤ k := by rw [← ho.1]; exact picksN_le _ _ _
    by_cases hlt : k < n
    · obtain ⟨b, off, e, hc⟩ := hr.1.2 k hlt
      subst e
      have hck : wr.cell? ⟨b, off + k, none⟩ = some (.string (st ss k)) := (hb.cell (World.block_lt_of_cell? w _ hc)).trans hc
      have hlt' : (k : Int) < n := by omega
      have hx := dats_nth HF.out hlt
      have cm := mat_sMatch (st ss k) t wr (HS.out k hlt) ht
      rw [← hx] at cm
      have HY : Hid (matchB ((dats ss).getD k []) t.data.toList = true → picksN (dats ss) t.data.toList (k + 1) = picksN (dats ss) t.data.toList k ++ [((k : Nat) : Int)]) := picksN_yes
      have HNo : Hid (matchB ((dats ss).getD k []) t.data.toList = false → picksN (dats ss) t.data.toList (k + 1) = picksN (dats ss) t.data.toList k) := picksN_no
      generalize st ss k = x at hck cm hx
      clear hc hx
      cases hmat : matchB ((dats ss).getD k []) t.data.toList with
      | false =>
        rw [hmat] at cm
        have HP : Hid (picksN (dats ss) t.data.toList (k + 1) = picksN (dats ss) t.data.toList k) := HNo.out hmat
        clear hmat
        go_wp2_with fail
        refine cm.mono ?_
        rintro e w3 ⟨rfl, hb3⟩
        go_wp2
        go_roundw
        case rel => exact ⟨k + 1, q, c, a, by go_num, rfl, by omega, by rw [HP.out]; exact ho.below hb3, hb.trans (hb3.mono hb.size)⟩
        case measure => simp [intOf] <;> omega
      | true =>
        rw [hmat] at cm
        have HP : Hid (picksN (dats ss) t.data.toList (k + 1) = picksN (dats ss) t.data.toList k ++ [((k : Nat) : Int)]) := HY.out hmat
        clear hmat
        go_wp2_with fail
        refine cm.mono ?_
        rintro e w3 ⟨rfl, hb3⟩
        have ho3 := ho.below hb3
        have hb4 := hb.trans (hb3.mono hb.size)
        clear ho hb hb3
        go_wp2_with (at_builtin; refine w_iapp _ rfl _ _ rfl w.heap.size a q c (picksN (dats ss) t.data.toList k) rfl (ho3.below ((Below.refl _ _).alloc (Nat.le_refl _) _)) w3.heap.size (k : Int) rfl (new_cell _ _ _) (by omega) (by have := hb4.size; simp; omega) ?_)
        intro a' c' w' ho' hg'
        have hb' := ibelow_grow (hb4.alloc hb4.size _) (by have := hb4.size; simp; omega) (ho3.below ((Below.refl _ _).alloc (Nat.le_refl _) _)) hg'
        clear hg' ho3 hb4
        go_wp2
        go_roundw
        case rel => exact ⟨k + 1, q + 1, c', a', by go_num, rfl, by omega, by rw [HP.out]; exact ho', hb'⟩
        case measure => simp [intOf] <;> omega
    · have hlt' : ¬ (k : Int) < n := by omega
      obtain rfl : k = n := by omega
      have hq2 : q = m := by rw [← ho.1, ← HM.out]; unfold picksB; rw [dats_length, HF.out]
      subst hq2
      go_wp2
      go_ret
      refine ⟨a, c, rfl, ?_, hb⟩
      unfold picksB
      rw [dats_length, HF.out]
      exact ho

end Go.Proofs.YtdjbaieaelhhiaaDoor
