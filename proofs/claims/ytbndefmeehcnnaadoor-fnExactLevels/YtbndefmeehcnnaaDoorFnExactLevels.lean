/- FnExactLevels: whatever it is handed, the law function laws.FnExactLevels returns true, and its arguments read afterwards as before. No condition. -/
import Derived.Test.YtbndefmeehcnnaaDoorRows
import Derived.Test.YtbndefmeehcnnaaDoorSMark
import Derived.Test.YtbndefmeehcnnaaDoorTie
import Derived.Test.YtbndefmeehcnnaaDoorCards
import Derived.LaidMore
import Derived.Lay
import Derived.SevenTiedAt
import Derived.Stop.Joined
import Derived.WalkKit
import Derived.ProofKit
import Derived.OpenShut
import Derived.ShutString
import Derived.ChangeOld
import Derived.Below
import Derived.Deep.Strs
namespace Go.Proofs.YtbndefmeehcnnaaDoor
open Go.ChangeShapes Go.WideShapes Go.ChangeAt Go.RowKit
open Go.ChangeMaps (open_string shut_string)
set_option linter.unusedVariables false
set_option linter.unusedSimpArgs false

set_option maxHeartbeats 1000000 in
theorem fnExactLevels_walk (a0 : ByteArray) (w : World) (w0 : a0.size ≤ maxLen) :
    Calls Tryd.prog 4 #[.string a0] w fun e w' => e = .returned (.bool true) ∧ Below w.heap.size w w' := by
  by_cases hbig : 1048576 < a0.size
  · have hb' : (1048576 : Int) < (a0.size : Int) := by omega
    go_enter Tryd.func4, Tryd.ntmps4
    go_wp2
    go_ret
    exact ⟨rfl, Below.refl _ _⟩
  · have hb' : ¬ (1048576 : Int) < (a0.size : Int) := by omega
    obtain ⟨n, hN⟩ : ∃ n, (lvl a0.data.toList).length = n := ⟨_, rfl⟩
    have hle : n ≤ a0.size + 1 := by rw [← hN]; exact lvl_length_le a0.data.toList
    have HN : Hid ((lvl a0.data.toList).length = n) := hN
    clear hN
    have hq : ¬ (((1 + n : Nat) : Int) < 0) := by omega
    have hqe : (((1 + n : Nat) : Int) != ((1 + n : Nat) : Int)) = false := by simp
    go_enter Tryd.func4, Tryd.ntmps4
    go_wp2_with fail
    refine (lev_sLevels a0 n w (by omega) HN.out).mono ?_
    rintro e u1 ⟨ao, cap, rfl, ho1, hb1⟩
    go_wp2_with fail
    refine (lev_iLevels a0 n u1 (by omega) HN.out).mono ?_
    rintro e u2 ⟨rfl, ho2, hb2⟩
    go_wp2_with fail
    refine (eq_leqStringS _ _ n n cap _ _ ho2.rd (ho1.below hb2).rd (by omega)).mono ?_
    rintro e u3 ⟨rfl, hb3⟩
    have d3 := bel2 hb2 hb3
    go_wp2_with fail
    refine (mark_lmarkStringS u1.heap.size _ n n 1 _ u3 (ho2.below hb3) d3.size (by omega) (by omega) (by omega)).mono ?_
    rintro e u4 ⟨rfl, ho4, hb4⟩
    have d4 := d3.trans hb4
    go_wp2_with fail
    refine (held_lheldStringS _ n n 1 u4 ho4.rd (by omega) (by omega) (by omega)).mono ?_
    rintro e u5 ⟨rfl, hb5⟩
    have d5 := bel2 d4 hb5
    have ho5 := ho4.below hb5
    clear ho4
    go_wp2_with fail
    refine (lev_iLevels a0 n u5 (by omega) HN.out).mono ?_
    rintro e u6 ⟨rfl, ho6, hb6⟩
    have d6 := bel2 d5 hb6
    go_wp2_with fail
    refine (eq_leqStringS _ _ n n cap _ _ ho6.rd (ho1.below d6).rd (by omega)).mono ?_
    rintro e u7 ⟨rfl, hb7⟩
    have d7 := bel2 d6 hb7
    go_wp2_with fail
    refine (held_lheldStringS _ n n 1 u7 ((ho5.below hb6).below hb7).rd (by omega) (by omega) (by omega)).mono ?_
    rintro e u8 ⟨rfl, hb8⟩
    go_wp2
    go_ret
    exact ⟨rfl, bel2 hb1 (bel2 d7 hb8)⟩

namespace fnExactLevels
theorem own : ownKnob Tryd.prog.godebug = none := by kernel_rfl
theorem laidOut : laidOutB Tryd.prog = true := by kernel_rfl
set_option maxRecDepth 100000 in
theorem lifted (os : Os) (started : os.Started) (H : Type) (enc : TypeId × Value → H) :
    ReturnsInHanded {} Tryd.checked os 4 .any (fun w args => (Rows.fnExactLevelsSpec.pre enc Tryd.prog Tryd.f4 Rows.fnExactLevelsRow.domain false w args ∧ laidMetH Tryd.prog Rows.fnExactLevelsRow.laid w) ∧ sizedMet enc Tryd.prog Tryd.f4 (OpenSpec.ofChange Rows.fnExactLevelsSpec) false w args) (Rows.fnExactLevelsSpec.post enc Tryd.prog Tryd.f4 false true false false) := by
  refine returnsInHanded_of_change_and (C := Tryd.checked) (X := fun w _ => laidMetH Tryd.prog Rows.fnExactLevelsRow.laid w) (fun _ _ _ hh h => h.of_heap hh) own started (by kernel_rfl) Tryd.func4
    (ChangeSpec.witness_shaped (enc := enc) (C := Tryd.checked) (os := os) (X := fun w _ => laidMetH Tryd.prog Rows.fnExactLevelsRow.laid w) false (World.laidAll Tryd.prog os Rows.fnExactLevelsRow.laid) #[.string ByteArray.empty] 8 (World.laidAll_os _ _ _)
      (World.shaped_of_ZipB (by kernel_rfl) (by kernel_rfl)) (by kernel_rfl) (by kernel_rfl) (by kernel_rfl)
      (by rw [MakeChecks.laidMetH_plain _ _ _ (by kernel_rfl)]; exact laidMet_laidAll _ (by kernel_rfl) (by kernel_rfl))) ?_
  intro W base args ds gs before hval0 hW hcnd _ hL _
  have hval : ∀ (j : Nat) t v, Tryd.f4.params[j]? = some t → args[j]? = some v → Value.okWide Tryd.prog W .any base t v := hval0
  have hW' := hW
  obtain ⟨p, q, hA0, hV, rfl, hfz, hnd⟩ := hW
  have hA : DataW.TrodAll enc Tryd.prog W 0 (fun _ => true) true Tryd.f4.params.toList args.toList ds p := hA0
  rw [Tryd.params4] at hA hval
  obtain ⟨v0, vs0, d0, ds0, p0, q0, hargs, rfl, rfl, h0, r0⟩ := trodAll_cons hA
  obtain ⟨rfl, rfl, rfl⟩ := trodAll_nil r0
  obtain rfl : args = #[v0] := by cases args; simp_all
  obtain ⟨rfl, rfl⟩ := trodVars_none hV
  obtain ⟨a0, rfl, rfl, rfl, w0⟩ := open_string Tryd.underlying9 (hval 0 9 v0 rfl rfl) h0
  clear hA0 hval0
  refine (fnExactLevels_walk a0 W w0).mono fun e W' ⟨he, bel⟩ => ?_
  subst he
  exact ⟨_, rfl, _, _, _, [], _, [], hW', trodAll_mk1 (shut_bool Tryd.underlying4 _), (trodAll_cons_mk (shut_string Tryd.underlying9 w0) trodAll_mk0), rfl, bel.frame _, fun h => by cases h⟩

theorem over : Rows.fnExactLevelsRow.holds Tryd.pinned (OpenSpec.ofChange Rows.fnExactLevelsSpec) :=
  OpenClaim.holds_of_wide 4 Tryd.f4 rfl rfl rfl rfl rfl rfl rfl ⟨rfl, rfl, rfl, rfl, rfl⟩ rfl rfl rfl rfl rfl (by kernel_rfl) Tryd.func4 (by kernel_rfl)
    (of_decide_eq_true (by kernel_rfl)) (by unfold Func.isWrapper; first | (rw [if_pos (by decide +kernel)]; kernel_rfl) | (rw [if_neg (by decide +kernel)]; exact ⟨rfl, rfl⟩))
    (fun os started H enc _ => lifted os started H enc)
end fnExactLevels

theorem fnExactLevels_holds : Rows.FnExactLevelsCardSaid :=
  Claim7.holds_tied_plain_at .later [] [.data, .pinned] true Rows.fnExactLevelsCard.stood.harness false fnExactLevels.over (fun _ h => by cases h) (by kernel_rfl) (fun _ h => by cases h) fnExactLevels_row_tie rfl ⟨rfl, rfl⟩ (by kernel_rfl) rfl
    (fun f fn hf hfn => by
      obtain rfl : f = 4 := Option.some.inj ((show Tryd.prog.funcNamed Rows.fnExactLevelsRow.func = some 4 by kernel_rfl).symm.trans hf) |>.symm
      obtain rfl : fn = Tryd.f4 := (Option.some.inj (Tryd.func4.symm.trans hfn)).symm
      exact ⟨by kernel_rfl, fun j t ht => by
        rw [Tryd.params4] at ht
        have hm : t ∈ [9] := by simpa using Array.mem_of_getElem? ht
        have hall : ([9].all fun u => !Tryd.prog.wantsStandIn u) = true := by kernel_rfl
        exact (show Tryd.prog.wantsStandIn t = false by simpa using List.all_eq_true.1 hall t hm)⟩)
    (by kernel_rfl)
end Go.Proofs.YtbndefmeehcnnaaDoor
