/- FnPicks: whatever it is handed, the law function laws.FnPicks returns true, and its arguments read afterwards as before. No condition. -/
import Derived.Test.YtdjbaieaelhhiaaDoorRows
import Derived.Test.YtdjbaieaelhhiaaDoorMatI
import Derived.Test.YtdjbaieaelhhiaaDoorTie
import Derived.Test.YtdjbaieaelhhiaaDoorCards
import Derived.LaidMore
import Derived.Lay
import Derived.SevenTiedAt
import Derived.Stop.Joined
import Derived.WalkKit
import Derived.ProofKit
import Derived.OpenShut
import Derived.ShutString
import Derived.ChangeOld
import Derived.Below
import Derived.Deep.Strs
namespace Go.Proofs.YtdjbaieaelhhiaaDoor
open Go.ChangeShapes Go.WideShapes Go.ChangeAt Go.RowKit
open Go.ChangeMaps (open_string shut_string)
set_option linter.unusedVariables false
set_option linter.unusedSimpArgs false

set_option maxRecDepth 100000 in
set_option maxHeartbeats 2000000 in
theorem fnPicks_walk (a0 : Option Addr) (len0 cap0 : Nat) (l : List UInt8) (w : World) (w0 : RdIn w a0 len0 cap0 l) :
    Calls Tryd.prog 5 #[.slice a0 len0 cap0] w fun e w' => e = .returned (.bool true) ∧ Below w.heap.size w w' := by
  by_cases hbig : 1048576 < len0
  · go_enter Tryd.func5, Tryd.ntmps5
    go_wp2_with fail
    refine (big_lbig _ _ _ true _ (decide_eq_true hbig)).mono ?_
    rintro e u ⟨rfl, rfl⟩
    go_wp2
    go_ret
    exact ⟨rfl, Below.refl _ _⟩
  go_enter Tryd.func5, Tryd.ntmps5
  go_wp2_with fail
  refine (big_lbig _ _ _ false _ (decide_eq_false hbig)).mono ?_
  rintro e u ⟨rfl, hu⟩
  rw [hu]
  go_wp2_with fail
  refine (draw_sDrawPicks _ _ _ l _ w0 (by omega)).mono ?_
  rintro e wa ⟨a, n, c, ss, t, hn9, hss, ht, rfl, ho1, hb1⟩
  have HF : Hid (ss.length = n) := ho1.1
  have HS : Hid (∀ k, k < n → (st ss k).size ≤ 1048576) := fun k hk => by
    have := hss _ (st_mem (show k < ss.length by rw [HF.out]; exact hk))
    omega
  obtain ⟨m, hM⟩ : ∃ m, (picksB (dats ss) t.data.toList).length = m := ⟨_, rfl⟩
  have hmn : m ≤ n := by rw [← hM]; unfold picksB; rw [dats_length, HF.out]; exact picksN_le _ _ _
  have HM : Hid ((picksB (dats ss) t.data.toList).length = m) := hM
  have HP : Hid (∀ i, i < n → matchB ((dats ss).getD i []) t.data.toList = true → (picksN (dats ss) t.data.toList i).length < m ∧ nt (picksB (dats ss) t.data.toList) (picksN (dats ss) t.data.toList i).length = (i : Int)) := fun i hi h => by
    have := picks_at h (show i < (dats ss).length by rw [dats_length, HF.out]; exact hi)
    rw [hM] at this
    exact this
  clear hss hM
  go_wp2_with fail
  refine (pick_iPicks a n c m ss t wa ho1.rd (by omega) HS.out (by omega) HM.out).mono ?_
  rintro e wb ⟨ap, cp, rfl, ho2, hb2⟩
  have hr1 := (ho1.below hb2).rd
  have hB2 := bel2 hb1 hb2
  have hpz := ho2.rd
  clear ho1 ho2 hb1 hb2
  go_wp2
  go_loopw [6, 7] (fun q i wr => ∃ (k j : Nat), i = .int .i64 k ∧ q = .int .i64 j ∧ k ≤ n ∧ j = (picksN (dats ss) t.data.toList k).length ∧ Below wb.heap.size wb wr) (fun _ i _ => n - (intOf i).toNat)
  case atStart => exact ⟨0, 0, rfl, rfl, Nat.zero_le _, rfl, Below.refl _ _⟩
  case round =>
    obtain ⟨k, j, rfl, rfl, hk, hj, hb⟩ := hrel
    have HJ : Hid (j = (picksN (dats ss) t.data.toList k).length) := hj
    have hjk : j ≤ k := by rw [hj]; exact picksN_le _ _ _
    clear hj
    by_cases hlt : k < n
    · obtain ⟨b, off, e, hc⟩ := hr1.1.2 k hlt
      subst e
      have hck : wr.cell? ⟨b, off + k, none⟩ = some (.string (st ss k)) := (hb.cell (World.block_lt_of_cell? wb _ hc)).trans hc
      have hlt' : (k : Int) < n := by omega
      have cm := mat_iMatch (st ss k) t wr (HS.out k hlt) (by omega)
      rw [← dats_nth HF.out hlt] at cm
      have HPk := HP.out k hlt
      have HYes : Hid (matchB ((dats ss).getD k []) t.data.toList = true → picksN (dats ss) t.data.toList (k + 1) = picksN (dats ss) t.data.toList k ++ [((k : Nat) : Int)]) := picksN_yes
      have HNo : Hid (matchB ((dats ss).getD k []) t.data.toList = false → picksN (dats ss) t.data.toList (k + 1) = picksN (dats ss) t.data.toList k) := picksN_no
      generalize st ss k = x at hck cm
      clear hc
      cases hmat : matchB ((dats ss).getD k []) t.data.toList with
      | false =>
        rw [hmat] at cm
        have HQ : Hid (picksN (dats ss) t.data.toList (k + 1) = picksN (dats ss) t.data.toList k) := HNo.out hmat
        clear hmat HPk
        go_wp2_with fail
        refine cm.mono ?_
        rintro e w3 ⟨rfl, hb3⟩
        go_wp2
        go_roundw
        case rel => exact ⟨k + 1, j, by go_num, rfl, by omega, by rw [HQ.out]; exact HJ.out, bel2 hb hb3⟩
        case measure => simp [intOf] <;> omega
      | true =>
        rw [hmat] at cm
        have HQ : Hid (picksN (dats ss) t.data.toList (k + 1) = picksN (dats ss) t.data.toList k ++ [((k : Nat) : Int)]) := HYes.out hmat
        obtain ⟨hjm, hnt⟩ := HPk hmat
        rw [← HJ.out] at hjm hnt
        clear hmat
        go_wp2_with fail
        refine cm.mono ?_
        rintro e w3 ⟨rfl, hb3⟩
        have hb4 := bel2 hb hb3
        obtain ⟨b2, off2, e2, hc2⟩ := hpz.1.2 j hjm
        subst e2
        have hcj : w3.cell? ⟨b2, off2 + j, none⟩ = some (.int .i64 (nt (picksB (dats ss) t.data.toList) j)) := (hb4.cell (World.block_lt_of_cell? wb _ hc2)).trans hc2
        rw [hnt] at hcj
        have hjm' : (j : Int) < (m : Int) := by omega
        have hge : ¬ (m : Int) ≤ (j : Int) := by omega
        have hkk : ((k : Int) != (k : Int)) = false := by simp
        clear hc2 hnt hb hb3
        go_wp2
        go_roundw
        case rel => exact ⟨k + 1, j + 1, by go_num, by go_num, by omega, by rw [HQ.out, List.length_append, ← HJ.out]; rfl, hb4⟩
        case measure => simp [intOf] <;> omega
    · have hlt' : ¬ (k : Int) < n := by omega
      obtain rfl : k = n := by omega
      have hjm : j = m := by rw [HJ.out, ← HM.out]; unfold picksB; rw [dats_length, HF.out]
      subst hjm
      have hjj : ((j : Int) == (j : Int)) = true := by simp
      go_wp2_with fail
      refine (pick_sPicks a k c j ss t wr (hr1.below hb) (by omega) HS.out (by omega) HM.out).mono ?_
      rintro e w3 ⟨aq, cq, rfl, ho3, hb3⟩
      go_wp2_with fail
      refine (same_lsameInts ap aq j cp cq _ w3 ((hpz.below hb).below hb3) ho3.rd (by omega)).mono ?_
      rintro e w4 ⟨rfl, hb4⟩
      go_wp2
      go_ret
      exact ⟨rfl, bel2 hB2 (bel2 hb (bel2 hb3 hb4))⟩

namespace fnPicks
theorem own : ownKnob Tryd.prog.godebug = none := by kernel_rfl
theorem laidOut : laidOutB Tryd.prog = true := by kernel_rfl
set_option maxRecDepth 100000 in
theorem lifted (os : Os) (started : os.Started) (H : Type) (enc : TypeId × Value → H) :
    ReturnsInHanded {} Tryd.checked os 5 .any (fun w args => (Rows.fnPicksSpec.pre enc Tryd.prog Tryd.f5 Rows.fnPicksRow.domain false w args ∧ laidMetH Tryd.prog Rows.fnPicksRow.laid w) ∧ sizedMet enc Tryd.prog Tryd.f5 (OpenSpec.ofChange Rows.fnPicksSpec) false w args) (Rows.fnPicksSpec.post enc Tryd.prog Tryd.f5 false true false false) := by
  refine returnsInHanded_of_change_and (C := Tryd.checked) (X := fun w _ => laidMetH Tryd.prog Rows.fnPicksRow.laid w) (fun _ _ _ hh h => h.of_heap hh) own started (by kernel_rfl) Tryd.func5
    (ChangeSpec.witness_shaped (enc := enc) (C := Tryd.checked) (os := os) (X := fun w _ => laidMetH Tryd.prog Rows.fnPicksRow.laid w) false (World.laidAll Tryd.prog os Rows.fnPicksRow.laid) #[.slice none 0 0] 8 (World.laidAll_os _ _ _)
      (World.shaped_of_ZipB (by kernel_rfl) (by kernel_rfl)) (by kernel_rfl) (by kernel_rfl) (by kernel_rfl)
      (by rw [MakeChecks.laidMetH_plain _ _ _ (by kernel_rfl)]; exact laidMet_laidAll _ (by kernel_rfl) (by kernel_rfl))) ?_
  intro W base args ds gs before hval0 hW hcnd _ hL _
  have hval : ∀ (j : Nat) t v, Tryd.f5.params[j]? = some t → args[j]? = some v → Value.okWide Tryd.prog W .any base t v := hval0
  have hW' := hW
  obtain ⟨p, q, hA0, hV, rfl, hfz, hnd⟩ := hW
  have hA : DataW.TrodAll enc Tryd.prog W 0 (fun _ => true) true Tryd.f5.params.toList args.toList ds p := hA0
  rw [Tryd.params5] at hA hval
  obtain ⟨v0, vs0, d0, ds0, p0, q0, hargs, rfl, rfl, h0, r0⟩ := trodAll_cons hA
  obtain ⟨rfl, rfl, rfl⟩ := trodAll_nil r0
  obtain rfl : args = #[v0] := by cases args; simp_all
  obtain ⟨rfl, rfl⟩ := trodVars_none hV
  obtain ⟨a0, len0, cap0, rfl⟩ := okWide_slice Tryd.underlying22 (hval 0 22 v0 rfl rfl)
  have k0 := h0
  have lt0 : ∀ x ∈ p0, x.block < W.heap.size := by obtain ⟨m, hm⟩ := k0; exact DataW.trod_lt m _ _ _ hm
  obtain ⟨z0, w0⟩ : ∃ l, RdIn W a0 len0 cap0 l := by
    obtain ⟨fuel, hf⟩ := h0
    rcases open_ints Tryd.underlying22 Tryd.underlying5 (by kernel_rfl) hf with ⟨hcs, _⟩ | ⟨x, l, c, zs, hcs, _, hl, hm, hz, _, hcell, hwz⟩
    · simp [Value.cells] at hcs
      obtain ⟨rfl, rfl, rfl⟩ := hcs
      exact ⟨[], RdIn.nil _⟩
    · simp [Value.cells] at hcs
      obtain ⟨rfl, rfl, rfl⟩ := hcs
      exact RdIn.of_ints hl hm (by simpa using hz) hcell hwz
  clear hA0 hval0
  refine (fnPicks_walk a0 len0 cap0 z0 W w0).mono fun e W' ⟨he, bel⟩ => ?_
  subst he
  exact ⟨_, rfl, _, _, _, [], _, [], hW', trodAll_mk1 (shut_bool Tryd.underlying4 _), (trodAll_cons_mk (Below.trod laidOut (by kernel_rfl) (of_decide_eq_true (by kernel_rfl)) k0 bel lt0) trodAll_mk0), rfl, bel.frame _, fun h => by cases h⟩

theorem over : Rows.fnPicksRow.holds Tryd.pinned (OpenSpec.ofChange Rows.fnPicksSpec) :=
  OpenClaim.holds_of_wide 5 Tryd.f5 rfl rfl rfl rfl rfl rfl rfl ⟨rfl, rfl, rfl, rfl, rfl⟩ rfl rfl rfl rfl rfl (by kernel_rfl) Tryd.func5 (by kernel_rfl)
    (of_decide_eq_true (by kernel_rfl)) (by unfold Func.isWrapper; first | (rw [if_pos (by decide +kernel)]; kernel_rfl) | (rw [if_neg (by decide +kernel)]; exact ⟨rfl, rfl⟩))
    (fun os started H enc _ => lifted os started H enc)
end fnPicks

theorem fnPicks_holds : Rows.FnPicksCardSaid :=
  Claim7.holds_tied_plain_at .later [] [.data, .pinned] true Rows.fnPicksCard.stood.harness false fnPicks.over (fun _ h => by cases h) (by kernel_rfl) (fun _ h => by cases h) fnPicks_row_tie rfl ⟨rfl, rfl⟩ (by kernel_rfl) rfl
    (fun f fn hf hfn => by
      obtain rfl : f = 5 := Option.some.inj ((show Tryd.prog.funcNamed Rows.fnPicksRow.func = some 5 by kernel_rfl).symm.trans hf) |>.symm
      obtain rfl : fn = Tryd.f5 := (Option.some.inj (Tryd.func5.symm.trans hfn)).symm
      exact ⟨by kernel_rfl, fun j t ht => by
        rw [Tryd.params5] at ht
        have hm : t ∈ [22] := by simpa using Array.mem_of_getElem? ht
        have hall : ([22].all fun u => !Tryd.prog.wantsStandIn u) = true := by kernel_rfl
        exact (show Tryd.prog.wantsStandIn t = false by simpa using List.all_eq_true.1 hall t hm)⟩)
    (by kernel_rfl)
end Go.Proofs.YtdjbaieaelhhiaaDoor
