/- FnCovers: whatever it is handed, the law function laws.FnCovers returns true, and its arguments read afterwards as before. No condition. -/
import Derived.Test.YtdjbaieaelhhiaaDoorRows
import Derived.Test.YtdjbaieaelhhiaaDoorMatI
import Derived.Test.YtdjbaieaelhhiaaDoorTie
import Derived.Test.YtdjbaieaelhhiaaDoorCards
import Derived.LaidMore
import Derived.Lay
import Derived.SevenTiedAt
import Derived.Stop.Joined
import Derived.WalkKit
import Derived.ProofKit
import Derived.OpenShut
import Derived.ShutString
import Derived.ChangeOld
import Derived.Below
import Derived.Deep.Strs
namespace Go.Proofs.YtdjbaieaelhhiaaDoor
open Go.ChangeShapes Go.WideShapes Go.ChangeAt Go.RowKit
open Go.ChangeMaps (open_string shut_string)
set_option linter.unusedVariables false
set_option linter.unusedSimpArgs false

set_option maxRecDepth 100000 in
set_option maxHeartbeats 2000000 in
theorem fnCovers_walk (a0 : Option Addr) (len0 cap0 : Nat) (l : List UInt8) (w : World) (w0 : RdIn w a0 len0 cap0 l) :
    Calls Tryd.prog 4 #[.slice a0 len0 cap0] w fun e w' => e = .returned (.bool true) ∧ Below w.heap.size w w' := by
  by_cases hbig : 1048576 < len0
  · go_enter Tryd.func4, Tryd.ntmps4
    go_wp2_with fail
    refine (big_lbig _ _ _ true _ (decide_eq_true hbig)).mono ?_
    rintro e u ⟨rfl, rfl⟩
    go_wp2
    go_ret
    exact ⟨rfl, Below.refl _ _⟩
  go_enter Tryd.func4, Tryd.ntmps4
  go_wp2_with fail
  refine (big_lbig _ _ _ false _ (decide_eq_false hbig)).mono ?_
  rintro e u ⟨rfl, hu⟩
  rw [hu]
  go_wp2_with fail
  refine (draw_sDrawCovers _ _ _ l _ w0 (by omega)).mono ?_
  rintro e u1 ⟨f, g, hf, hg, rfl, hb1⟩
  go_wp2_with fail
  refine (draw_sDrawMatch _ _ _ l _ (w0.below hb1) (by omega)).mono ?_
  rintro e u2 ⟨h, t, hh, ht, rfl, hb2⟩
  have cC := fun w => cov_iCovers f g w (by omega) (by omega)
  have sC := fun w => cov_sCovers f g w (by omega) (by omega)
  have cF := fun w => fil_iFilterOk f w (by omega)
  have cS := fun w => cov_iCovers f f w (by omega) (by omega)
  have cM := fun w => mat_iMatch g t w (by omega) (by omega)
  have cN := fun w => mat_iMatch f t w (by omega) (by omega)
  have cD := fun w => cov_iCovers g h w (by omega) (by omega)
  have cE := fun w => cov_iCovers f h w (by omega) (by omega)
  rw [covB_self] at cS
  have H1 : Hid (covB f.data.toList g.data.toList = true → matchB g.data.toList t.data.toList = true → matchB f.data.toList t.data.toList = true) := covB_match
  have H2 : Hid (covB f.data.toList g.data.toList = true → covB g.data.toList h.data.toList = true → covB f.data.toList h.data.toList = true) := covB_cov
  generalize covB f.data.toList g.data.toList = c at *
  generalize covB g.data.toList h.data.toList = c2 at *
  generalize covB f.data.toList h.data.toList = c3 at *
  generalize filOk f.data.toList = F at *
  generalize matchB g.data.toList t.data.toList = m at *
  generalize matchB f.data.toList t.data.toList = m2 at *
  have hB2 := bel2 hb1 hb2
  clear hb1 hb2
  have hcc : (c != c) = false := by simp
  have hFF : (F != F) = false := by simp
  go_wp2_with fail
  refine (cC u2).mono ?_
  rintro e u3 ⟨rfl, hb3⟩
  go_wp2_with fail
  refine (sC u3).mono ?_
  rintro e u4 ⟨rfl, hb4⟩
  go_wp2_with fail
  refine (cF u4).mono ?_
  rintro e u5 ⟨rfl, hb5⟩
  go_wp2_with fail
  refine (cS u5).mono ?_
  rintro e u6 ⟨rfl, hb6⟩
  have hB6 := bel2 hB2 (bel2 hb3 (bel2 hb4 (bel2 hb5 hb6)))
  clear hB2 hb3 hb4 hb5 hb6
  go_wp2_with fail
  refine (cC u6).mono ?_
  rintro e u7 ⟨rfl, hb7⟩
  have hB7 := bel2 hB6 hb7
  clear hB6 hb7
  cases c with
  | false =>
    go_wp2_with fail
    refine (cC u7).mono ?_
    rintro e u8 ⟨rfl, hb8⟩
    go_wp2
    go_ret
    exact ⟨rfl, bel2 hB7 hb8⟩
  | true =>
    go_wp2_with fail
    refine (cM u7).mono ?_
    rintro e u8 ⟨rfl, hb8⟩
    have hB8 := bel2 hB7 hb8
    clear hB7 hb8
    cases m with
    | false =>
      go_wp2_with fail
      refine (cC u8).mono ?_
      rintro e u9 ⟨rfl, hb9⟩
      go_wp2_with fail
      refine (cD u9).mono ?_
      rintro e u10 ⟨rfl, hb10⟩
      have hB10 := bel2 hB8 (bel2 hb9 hb10)
      clear hB8 hb9 hb10
      cases c2 with
      | false =>
        go_wp2
        go_ret
        exact ⟨rfl, hB10⟩
      | true =>
        obtain rfl := H2.out (by simp) (by simp)
        go_wp2_with fail
        refine (cE u10).mono ?_
        rintro e u11 ⟨rfl, hb11⟩
        go_wp2
        go_ret
        exact ⟨rfl, bel2 hB10 hb11⟩
    | true =>
      obtain rfl := H1.out (by simp) (by simp)
      go_wp2_with fail
      refine (cN u8).mono ?_
      rintro e v1 ⟨rfl, hb11⟩
      have hB11 := bel2 hB8 hb11
      clear hB8 hb11
      go_wp2_with fail
      refine (cC v1).mono ?_
      rintro e u9 ⟨rfl, hb9⟩
      go_wp2_with fail
      refine (cD u9).mono ?_
      rintro e u10 ⟨rfl, hb10⟩
      have hB10 := bel2 hB11 (bel2 hb9 hb10)
      clear hB11 hb9 hb10
      cases c2 with
      | false =>
        go_wp2
        go_ret
        exact ⟨rfl, hB10⟩
      | true =>
        obtain rfl := H2.out (by simp) (by simp)
        go_wp2_with fail
        refine (cE u10).mono ?_
        rintro e u11 ⟨rfl, hb12⟩
        go_wp2
        go_ret
        exact ⟨rfl, bel2 hB10 hb12⟩

namespace fnCovers
theorem own : ownKnob Tryd.prog.godebug = none := by kernel_rfl
theorem laidOut : laidOutB Tryd.prog = true := by kernel_rfl
set_option maxRecDepth 100000 in
theorem lifted (os : Os) (started : os.Started) (H : Type) (enc : TypeId × Value → H) :
    ReturnsInHanded {} Tryd.checked os 4 .any (fun w args => (Rows.fnCoversSpec.pre enc Tryd.prog Tryd.f4 Rows.fnCoversRow.domain false w args ∧ laidMetH Tryd.prog Rows.fnCoversRow.laid w) ∧ sizedMet enc Tryd.prog Tryd.f4 (OpenSpec.ofChange Rows.fnCoversSpec) false w args) (Rows.fnCoversSpec.post enc Tryd.prog Tryd.f4 false true false false) := by
  refine returnsInHanded_of_change_and (C := Tryd.checked) (X := fun w _ => laidMetH Tryd.prog Rows.fnCoversRow.laid w) (fun _ _ _ hh h => h.of_heap hh) own started (by kernel_rfl) Tryd.func4
    (ChangeSpec.witness_shaped (enc := enc) (C := Tryd.checked) (os := os) (X := fun w _ => laidMetH Tryd.prog Rows.fnCoversRow.laid w) false (World.laidAll Tryd.prog os Rows.fnCoversRow.laid) #[.slice none 0 0] 8 (World.laidAll_os _ _ _)
      (World.shaped_of_ZipB (by kernel_rfl) (by kernel_rfl)) (by kernel_rfl) (by kernel_rfl) (by kernel_rfl)
      (by rw [MakeChecks.laidMetH_plain _ _ _ (by kernel_rfl)]; exact laidMet_laidAll _ (by kernel_rfl) (by kernel_rfl))) ?_
  intro W base args ds gs before hval0 hW hcnd _ hL _
  have hval : ∀ (j : Nat) t v, Tryd.f4.params[j]? = some t → args[j]? = some v → Value.okWide Tryd.prog W .any base t v := hval0
  have hW' := hW
  obtain ⟨p, q, hA0, hV, rfl, hfz, hnd⟩ := hW
  have hA : DataW.TrodAll enc Tryd.prog W 0 (fun _ => true) true Tryd.f4.params.toList args.toList ds p := hA0
  rw [Tryd.params4] at hA hval
  obtain ⟨v0, vs0, d0, ds0, p0, q0, hargs, rfl, rfl, h0, r0⟩ := trodAll_cons hA
  obtain ⟨rfl, rfl, rfl⟩ := trodAll_nil r0
  obtain rfl : args = #[v0] := by cases args; simp_all
  obtain ⟨rfl, rfl⟩ := trodVars_none hV
  obtain ⟨a0, len0, cap0, rfl⟩ := okWide_slice Tryd.underlying22 (hval 0 22 v0 rfl rfl)
  have k0 := h0
  have lt0 : ∀ x ∈ p0, x.block < W.heap.size := by obtain ⟨m, hm⟩ := k0; exact DataW.trod_lt m _ _ _ hm
  obtain ⟨z0, w0⟩ : ∃ l, RdIn W a0 len0 cap0 l := by
    obtain ⟨fuel, hf⟩ := h0
    rcases open_ints Tryd.underlying22 Tryd.underlying5 (by kernel_rfl) hf with ⟨hcs, _⟩ | ⟨x, l, c, zs, hcs, _, hl, hm, hz, _, hcell, hwz⟩
    · simp [Value.cells] at hcs
      obtain ⟨rfl, rfl, rfl⟩ := hcs
      exact ⟨[], RdIn.nil _⟩
    · simp [Value.cells] at hcs
      obtain ⟨rfl, rfl, rfl⟩ := hcs
      exact RdIn.of_ints hl hm (by simpa using hz) hcell hwz
  clear hA0 hval0
  refine (fnCovers_walk a0 len0 cap0 z0 W w0).mono fun e W' ⟨he, bel⟩ => ?_
  subst he
  exact ⟨_, rfl, _, _, _, [], _, [], hW', trodAll_mk1 (shut_bool Tryd.underlying4 _), (trodAll_cons_mk (Below.trod laidOut (by kernel_rfl) (of_decide_eq_true (by kernel_rfl)) k0 bel lt0) trodAll_mk0), rfl, bel.frame _, fun h => by cases h⟩

theorem over : Rows.fnCoversRow.holds Tryd.pinned (OpenSpec.ofChange Rows.fnCoversSpec) :=
  OpenClaim.holds_of_wide 4 Tryd.f4 rfl rfl rfl rfl rfl rfl rfl ⟨rfl, rfl, rfl, rfl, rfl⟩ rfl rfl rfl rfl rfl (by kernel_rfl) Tryd.func4 (by kernel_rfl)
    (of_decide_eq_true (by kernel_rfl)) (by unfold Func.isWrapper; first | (rw [if_pos (by decide +kernel)]; kernel_rfl) | (rw [if_neg (by decide +kernel)]; exact ⟨rfl, rfl⟩))
    (fun os started H enc _ => lifted os started H enc)
end fnCovers

theorem fnCovers_holds : Rows.FnCoversCardSaid :=
  Claim7.holds_tied_plain_at .later [] [.data, .pinned] true Rows.fnCoversCard.stood.harness false fnCovers.over (fun _ h => by cases h) (by kernel_rfl) (fun _ h => by cases h) fnCovers_row_tie rfl ⟨rfl, rfl⟩ (by kernel_rfl) rfl
    (fun f fn hf hfn => by
      obtain rfl : f = 4 := Option.some.inj ((show Tryd.prog.funcNamed Rows.fnCoversRow.func = some 4 by kernel_rfl).symm.trans hf) |>.symm
      obtain rfl : fn = Tryd.f4 := (Option.some.inj (Tryd.func4.symm.trans hfn)).symm
      exact ⟨by kernel_rfl, fun j t ht => by
        rw [Tryd.params4] at ht
        have hm : t ∈ [22] := by simpa using Array.mem_of_getElem? ht
        have hall : ([22].all fun u => !Tryd.prog.wantsStandIn u) = true := by kernel_rfl
        exact (show Tryd.prog.wantsStandIn t = false by simpa using List.all_eq_true.1 hall t hm)⟩)
    (by kernel_rfl)
end Go.Proofs.YtdjbaieaelhhiaaDoor
