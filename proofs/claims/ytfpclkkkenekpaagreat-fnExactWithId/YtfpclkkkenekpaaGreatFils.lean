/- FilterOk and Wild of both sides. -/
import Derived.Test.YtfpclkkkenekpaaGreatOks
set_option linter.unusedVariables false
set_option linter.unusedSimpArgs false
namespace Go.Proofs.YtfpclkkkenekpaaGreat
open Go.RowKit

theorem lvs_at (l : List UInt8) (k : Nat) (h : k < (lvl l).length) : (st (lvs l) k).data.toList = (lvl l).getD k [] := by
  rw [← dats_at (lvs l) k (by rw [lvs_length]; exact h), dats_lvs]

set_option maxHeartbeats 1000000 in
/-- impl.FilterOk. -/
theorem fil_iFilterOk (s : ByteArray) (w : World) (hs : s.size ≤ 1048576) :
    Calls Tryz.prog 160 #[.string s] w fun e w' => e = .returned (.bool (filOk s.data.toList)) ∧ Below w.heap.size w w' := by
  have c := lev_ilevelsOk s w hs
  cases hl : levOk s.data.toList with
  | false =>
    have HM : Hid (filOk s.data.toList = false) := by unfold Hid filOk; rw [hl]; rfl
    rw [hl] at c
    clear hl
    go_enter Tryz.func160, Tryz.ntmps160
    go_wp2_with fail
    refine c.mono ?_
    rintro e w1 ⟨rfl, hb⟩
    go_wp2
    go_ret
    exact ⟨ret_bool HM.out.symm, hb⟩
  | true =>
    have HM : Hid (filOk s.data.toList = mayAll (lvl s.data.toList)) := by unfold Hid filOk; rw [hl]; rfl
    rw [hl] at c
    obtain ⟨n, hN⟩ : ∃ n, (lvl s.data.toList).length = n := ⟨_, rfl⟩
    have hle : n ≤ s.size + 1 := by rw [← hN]; exact lvl_length_le s.data.toList
    have HN : Hid ((lvl s.data.toList).length = n) := hN
    have HS : Hid (∀ k, k < n → (st (lvs s.data.toList) k).size ≤ 1048576) := fun k hk => by
      have := lvs_small s.data.toList k (by rw [lvs_length, hN]; exact hk)
      have e1 : s.size = s.data.toList.length := rfl
      omega
    have HX : Hid (∀ k, k < n → (st (lvs s.data.toList) k).data.toList = (lvl s.data.toList).getD k []) := fun k hk => lvs_at _ _ (by rw [hN]; exact hk)
    have HD : Hid (∀ k, k < n → mayAll ((lvl s.data.toList).drop k) = (may ((lvl s.data.toList).getD k []) (decide (k + 1 = n)) && mayAll ((lvl s.data.toList).drop (k + 1)))) := fun k hk => by
      have := mayAll_drop (lvl s.data.toList) k (by rw [hN]; exact hk)
      rw [hN] at this
      exact this
    have HE : Hid (mayAll ((lvl s.data.toList).drop n) = true) := mayAll_end _ _ (by rw [hN]; exact Nat.le_refl _)
    clear hl hN
    go_enter Tryz.func160, Tryz.ntmps160
    go_wp2_with fail
    refine c.mono ?_
    rintro e w1 ⟨rfl, hb1⟩
    go_wp2_with fail
    refine (lev_iLevels s n w1 hs HN.out).mono ?_
    rintro e w2 ⟨rfl, ho2, hb2⟩
    have hr2 := ho2.rd
    generalize lvs s.data.toList = ss at *
    generalize lvl s.data.toList = ls at *
    have hb12 := bel2 hb1 hb2
    clear ho2 hb1 hb2 c
    go_wp2
    go_loopw [13] (fun i wr => ∃ k : Nat, i = .int .i64 k ∧ k ≤ n ∧ mayAll ls = mayAll (ls.drop k) ∧ Below w2.heap.size w2 wr) (fun i _ => n - (intOf i).toNat)
    case atStart => exact ⟨0, rfl, Nat.zero_le _, rfl, Below.refl _ _⟩
    case round =>
      obtain ⟨k, rfl, hk, hm, hb⟩ := hrel
      have HK : Hid (mayAll ls = mayAll (ls.drop k)) := hm
      clear hm
      by_cases hlt : k < n
      · obtain ⟨b, off, e, hc⟩ := hr2.1.2 k hlt
        have e := e
        simp only [Option.some.injEq, Addr.mk.injEq, and_true] at e
        obtain ⟨rfl, rfl⟩ := e
        have hck := (hb.cell (World.block_lt_of_cell? w2 _ hc)).trans hc
        rw [Nat.zero_add] at hck
        have hlt' : (k : Int) < n := by omega
        obtain ⟨q, hq⟩ : ∃ q, ((k : Int) == (n : Int) - 1) = q := ⟨_, rfl⟩
        have hq2 : q = decide (k + 1 = n) := by
          rw [← hq, Bool.eq_iff_iff, beq_iff_eq, decide_eq_true_eq]
          constructor <;> intro _ <;> omega
        have HDK := HD.out k hlt
        rw [← hq2, ← HX.out k hlt] at HDK
        have HDK' : Hid (mayAll (ls.drop k) = (may (st ss k).data.toList q && mayAll (ls.drop (k + 1)))) := HDK
        have cm := may_imayBeWanted (st ss k) q wr (HS.out k hlt)
        clear hc hq2 HDK
        cases hmay : may (st ss k).data.toList q with
        | false =>
          rw [hmay] at cm
          have HF : Hid (filOk s.data.toList = false) := by unfold Hid; rw [HM.out, HK.out, HDK'.out, hmay]; rfl
          clear hmay
          go_wp2_with fail
          refine cm.mono ?_
          rintro e w3 ⟨rfl, hb3⟩
          go_wp2
          go_ret
          exact ⟨ret_bool HF.out.symm, bel2 hb12 (bel2 hb hb3)⟩
        | true =>
          rw [hmay] at cm
          have HF : Hid (mayAll ls = mayAll (ls.drop (k + 1))) := by unfold Hid; rw [HK.out, HDK'.out, hmay]; rfl
          clear hmay
          go_wp2_with fail
          refine cm.mono ?_
          rintro e w3 ⟨rfl, hb3⟩
          go_wp2
          go_roundw
          case rel => exact ⟨k + 1, by go_num, by omega, HF.out, bel2 hb hb3⟩
          case measure => simp [intOf] <;> omega
      · have hlt' : ¬ (k : Int) < n := by omega
        obtain rfl : k = n := by omega
        go_wp2
        go_ret
        exact ⟨ret_bool (by rw [HM.out, HK.out, HE.out]), bel2 hb12 hb⟩

set_option maxHeartbeats 2000000 in
/-- spec.FilterOk. -/
theorem fil_sFilterOk (s : ByteArray) (w : World) (hs : s.size ≤ 1048576) :
    Calls Tryz.prog 60 #[.string s] w fun e w' => e = .returned (.bool (filOk s.data.toList)) ∧ Below w.heap.size w w' := by
  obtain ⟨n, hN⟩ : ∃ n, (lvl s.data.toList).length = n := ⟨_, rfl⟩
  have hle : n ≤ s.size + 1 := by rw [← hN]; exact lvl_length_le s.data.toList
  have HN : Hid ((lvl s.data.toList).length = n) := hN
  have HM : Hid (filOk s.data.toList = ((decide (s.data.toList ≠ []) && (okT s.data.toList && decide (n ≤ 6))) && mayAll (lvl s.data.toList))) := by unfold Hid filOk levOk; rw [hN]
  have HS : Hid (∀ k, k < n → (st (lvs s.data.toList) k).size ≤ 1048576) := fun k hk => by
    have := lvs_small s.data.toList k (by rw [lvs_length, hN]; exact hk)
    have e1 : s.size = s.data.toList.length := rfl
    omega
  have HX : Hid (∀ k, k < n → (st (lvs s.data.toList) k).data.toList = (lvl s.data.toList).getD k []) := fun k hk => lvs_at _ _ (by rw [hN]; exact hk)
  have HD : Hid (∀ k, k < n → mayAll ((lvl s.data.toList).drop k) = (may ((lvl s.data.toList).getD k []) (decide (k + 1 = n)) && mayAll ((lvl s.data.toList).drop (k + 1)))) := fun k hk => by
    have := mayAll_drop (lvl s.data.toList) k (by rw [hN]; exact hk)
    rw [hN] at this
    exact this
  have HE : Hid (mayAll ((lvl s.data.toList).drop n) = true) := mayAll_end _ _ (by rw [hN]; exact Nat.le_refl _)
  clear hN
  go_enter Tryz.func60, Tryz.ntmps60
  go_wp2_with fail
  refine (lev_sLevels s n w hs HN.out).mono ?_
  rintro e w2 ⟨ao, cap, rfl, ho2, hb12⟩
  have hr2 := ho2.rd
  generalize lvs s.data.toList = ss at *
  generalize lvl s.data.toList = ls at *
  clear ho2
  go_wp2
  go_loop [4] (fun i => ∃ k : Nat, i = .int .i64 k ∧ k ≤ n ∧ mayAll ls = mayAll (ls.drop k)) (fun i => n - (intOf i).toNat)
  case atStart => exact ⟨0, rfl, Nat.zero_le _, rfl⟩
  case round =>
    obtain ⟨k, rfl, hk, hm⟩ := hrel
    have HK : Hid (mayAll ls = mayAll (ls.drop k)) := hm
    clear hm
    by_cases hlt : k < n
    · obtain ⟨b, off, e, hc⟩ := hr2.1.2 k hlt
      subst e
      have hlt' : (k : Int) < n := by omega
      have HDK := HD.out k hlt
      rw [← HX.out k hlt] at HDK
      have hsz := HS.out k hlt
      generalize st ss k = x at *
      have cp := fun w => has_sl3Has x 43 43 rfl w hsz
      have cn := fun w => has_sl3Has x 35 35 rfl w hsz
      have hmay := may_spec x.data.toList (decide (k + 1 = n))
      have HDK' : Hid (mayAll (ls.drop k) = (may x.data.toList (decide (k + 1 = n)) && mayAll (ls.drop (k + 1)))) := HDK
      clear HDK
      have bad : may x.data.toList (decide (k + 1 = n)) = false → Hid (filOk s.data.toList = false) := fun h => by
        unfold Hid; rw [HM.out, HK.out, HDK'.out, h]; simp
      have good : may x.data.toList (decide (k + 1 = n)) = true → Hid (mayAll ls = mayAll (ls.drop (k + 1))) := fun h => by
        unfold Hid; rw [HK.out, HDK'.out, h]; rfl
      cases hp : has x.data.toList 43 with
      | true =>
        rw [hp] at cp hmay
        by_cases h1 : x.data.toList = [43]
        · have hn : has x.data.toList 35 = false := by rw [h1]; rfl
          rw [hn] at cn hmay
          have G := good (by rw [hmay]; simp [h1])
          have e1 := text_is h1
          clear bad good hmay h1 hn hp
          go_wp2_with fail
          refine (cp w2).mono ?_
          rintro e w3 ⟨rfl, hw⟩
          rw [hw]
          go_wp2_with fail
          refine (cn w2).mono ?_
          rintro e w4 ⟨rfl, hw4⟩
          rw [hw4]
          go_wp2
          go_round
          case rel => exact ⟨k + 1, by go_num, by omega, G.out⟩
          case measure => simp [intOf] <;> omega
        · have F := bad (by rw [hmay]; simp [h1])
          have e1 := text_not h1
          clear bad good hmay h1 hp
          go_wp2_with fail
          refine (cp w2).mono ?_
          rintro e w3 ⟨rfl, hw⟩
          rw [hw]
          go_wp2
          go_ret
          exact ⟨ret_bool F.out.symm, hb12⟩
      | false =>
        rw [hp] at cp hmay
        cases hn : has x.data.toList 35 with
        | false =>
          rw [hn] at cn hmay
          have G := good (by rw [hmay]; rfl)
          clear bad good hmay hn hp
          go_wp2_with fail
          refine (cp w2).mono ?_
          rintro e w3 ⟨rfl, hw⟩
          rw [hw]
          go_wp2_with fail
          refine (cn w2).mono ?_
          rintro e w4 ⟨rfl, hw4⟩
          rw [hw4]
          go_wp2
          go_round
          case rel => exact ⟨k + 1, by go_num, by omega, G.out⟩
          case measure => simp [intOf] <;> omega
        | true =>
          rw [hn] at cn hmay
          by_cases h1 : x.data.toList = [35]
          · have e1 := text_is h1
            by_cases hlast : k + 1 = n
            · have G := good (by rw [hmay]; simp [h1, hlast])
              have hl' : ¬ (k : Int) < (n : Int) - 1 := by omega
              clear bad good hmay hn hp h1
              go_wp2_with fail
              refine (cp w2).mono ?_
              rintro e w3 ⟨rfl, hw⟩
              rw [hw]
              go_wp2_with fail
              refine (cn w2).mono ?_
              rintro e w4 ⟨rfl, hw4⟩
              rw [hw4]
              go_wp2
              go_round
              case rel => exact ⟨k + 1, by go_num, by omega, G.out⟩
              case measure => simp [intOf] <;> omega
            · have F := bad (by rw [hmay]; simp [h1, hlast])
              have hl' : (k : Int) < (n : Int) - 1 := by omega
              clear bad good hmay hn hp h1
              go_wp2_with fail
              refine (cp w2).mono ?_
              rintro e w3 ⟨rfl, hw⟩
              rw [hw]
              go_wp2_with fail
              refine (cn w2).mono ?_
              rintro e w4 ⟨rfl, hw4⟩
              rw [hw4]
              go_wp2
              go_ret
              exact ⟨ret_bool F.out.symm, hb12⟩
          · have F := bad (by rw [hmay]; simp [h1])
            have e1 := text_not h1
            clear bad good hmay hn hp h1
            go_wp2_with fail
            refine (cp w2).mono ?_
            rintro e w3 ⟨rfl, hw⟩
            rw [hw]
            go_wp2_with fail
            refine (cn w2).mono ?_
            rintro e w4 ⟨rfl, hw4⟩
            rw [hw4]
            go_wp2
            go_ret
            exact ⟨ret_bool F.out.symm, hb12⟩
    · have hlt' : ¬ (k : Int) < n := by omega
      obtain rfl : k = n := by omega
      have c := ok_sTextOk s w2 (by omega)
      have HA : Hid (mayAll ls = true) := by unfold Hid; rw [HK.out, HE.out]
      have HM2 : Hid (filOk s.data.toList = (decide (s.data.toList ≠ []) && (okT s.data.toList && decide (k ≤ 6)))) := by unfold Hid; rw [HM.out, HA.out, Bool.and_true]
      cases hok : okT s.data.toList with
      | false =>
        have F : Hid (filOk s.data.toList = false) := by unfold Hid; rw [HM2.out, hok]; simp
        rw [hok] at c
        clear hok
        go_wp2_with fail
        refine c.mono ?_
        rintro e w3 ⟨rfl, hb3⟩
        go_wp2
        go_ret
        exact ⟨ret_bool F.out.symm, bel2 hb12 hb3⟩
      | true =>
        rw [hok] at c
        by_cases h0 : s.data.toList = []
        · have F : Hid (filOk s.data.toList = false) := by unfold Hid; rw [HM2.out, h0]; simp
          have e0 := text_empty h0
          clear hok h0
          go_wp2_with fail
          refine c.mono ?_
          rintro e w3 ⟨rfl, hb3⟩
          go_wp2
          go_ret
          exact ⟨ret_bool F.out.symm, bel2 hb12 hb3⟩
        · have F : Hid (filOk s.data.toList = decide ((k : Int) ≤ 6)) := by
            unfold Hid
            rw [HM2.out, hok]
            simp only [ne_eq, h0, not_false_eq_true, decide_true, Bool.true_and]
            congr 1
            rw [eq_iff_iff]
            constructor <;> intro _ <;> omega
          have e0 := text_some h0
          clear hok h0
          go_wp2_with fail
          refine c.mono ?_
          rintro e w3 ⟨rfl, hb3⟩
          go_wp2
          go_ret
          exact ⟨ret_bool F.out.symm, bel2 hb12 hb3⟩

end Go.Proofs.YtfpclkkkenekpaaGreat
