/- FnMatches: whatever it is handed, the law function laws.FnMatches returns true, and its arguments read afterwards as before. No condition. -/
import Derived.Test.YtdjbaieaelhhiaaDoorRows
import Derived.Test.YtdjbaieaelhhiaaDoorMatI
import Derived.Test.YtdjbaieaelhhiaaDoorTie
import Derived.Test.YtdjbaieaelhhiaaDoorCards
import Derived.LaidMore
import Derived.Lay
import Derived.SevenTiedAt
import Derived.Stop.Joined
import Derived.WalkKit
import Derived.ProofKit
import Derived.OpenShut
import Derived.ShutString
import Derived.ChangeOld
import Derived.Below
import Derived.Deep.Strs
namespace Go.Proofs.YtdjbaieaelhhiaaDoor
open Go.ChangeShapes Go.WideShapes Go.ChangeAt Go.RowKit
open Go.ChangeMaps (open_string shut_string)
set_option linter.unusedVariables false
set_option linter.unusedSimpArgs false

set_option maxRecDepth 100000 in
set_option maxHeartbeats 2000000 in
theorem fnMatches_walk (a0 : Option Addr) (len0 cap0 : Nat) (l : List UInt8) (w : World) (w0 : RdIn w a0 len0 cap0 l) :
    Calls Tryd.prog 3 #[.slice a0 len0 cap0] w fun e w' => e = .returned (.bool true) ∧ Below w.heap.size w w' := by
  by_cases hbig : 1048576 < len0
  · go_enter Tryd.func3, Tryd.ntmps3
    go_wp2_with fail
    refine (big_lbig _ _ _ true _ (decide_eq_true hbig)).mono ?_
    rintro e u ⟨rfl, rfl⟩
    go_wp2
    go_ret
    exact ⟨rfl, Below.refl _ _⟩
  go_enter Tryd.func3, Tryd.ntmps3
  go_wp2_with fail
  refine (big_lbig _ _ _ false _ (decide_eq_false hbig)).mono ?_
  rintro e u ⟨rfl, hu⟩
  rw [hu]
  go_wp2_with fail
  refine (draw_sDrawMatch _ _ _ l _ w0 (by omega)).mono ?_
  rintro e u1 ⟨f, t, hf, ht, rfl, hb1⟩
  have cM := fun w => mat_iMatch f t w (by omega) (by omega)
  have sM := fun w => mat_sMatch f t w (by omega) (by omega)
  have cF := fun w => fil_iFilterOk f w (by omega)
  have cT := fun w => top_iTopicOk t w (by omega)
  have cW := fun w => wild_iWild f w (by omega)
  have cS := fun w => mat_iMatch t t w (by omega) (by omega)
  have cX := fun w => mat_iMatch ⟨#[35]⟩ t w (by decide) (by omega)
  have cH := fun w => hid_iHidden' t w
  have HP : Hid (matchB f.data.toList t.data.toList = true → filOk f.data.toList = true ∧ topOk t.data.toList = true) := matchB_parts
  have HS : Hid (topOk t.data.toList = true → matchB t.data.toList t.data.toList = true) := matchB_self
  have HX : Hid (topOk t.data.toList = true → matchB [35] t.data.toList = !hidB t.data.toList) := matchB_hash
  have HW : Hid (topOk t.data.toList = true → wildOk f.data.toList = false → matchB f.data.toList t.data.toList = (f.toList == t.toList)) := fun h1 h2 => by
    rw [matchB_plain h1 h2, ByteArray.toList_eq, ByteArray.toList_eq, Bool.eq_iff_iff]
    simp
  obtain ⟨eq, heq⟩ : ∃ b, (f.toList == t.toList) = b := ⟨_, rfl⟩
  rw [heq] at HW
  generalize matchB f.data.toList t.data.toList = m at *
  generalize matchB t.data.toList t.data.toList = m2 at *
  have cX' : ∀ w, Calls Tryd.prog 11 #[.string ⟨#[35]⟩, .string t] w fun e w' => e = .returned (.bool (matchB [35] t.data.toList)) ∧ Below w.heap.size w w' := cX
  clear cX
  generalize matchB [35] t.data.toList = m3 at *
  generalize topOk t.data.toList = T at *
  generalize filOk f.data.toList = F at *
  generalize wildOk f.data.toList = v at *
  generalize hidB t.data.toList = h at *
  go_wp2_with fail
  refine (cM u1).mono ?_
  rintro e u2 ⟨rfl, hb2⟩
  have hmm : (m != m) = false := by simp
  go_wp2_with fail
  refine (sM u2).mono ?_
  rintro e u3 ⟨rfl, hb3⟩
  have hB3 := bel2 hb1 (bel2 hb2 hb3)
  clear hb1 hb2 hb3
  cases m with
  | true =>
    obtain ⟨rfl, rfl⟩ := HP.out (by simp)
    obtain rfl := HS.out (by simp)
    obtain rfl := HX.out (by simp)
    go_wp2_with fail
    refine (cF u3).mono ?_
    rintro e u4 ⟨rfl, hb4⟩
    go_wp2_with fail
    refine (cT u4).mono ?_
    rintro e u5 ⟨rfl, hb5⟩
    go_wp2_with fail
    refine (cT u5).mono ?_
    rintro e u6 ⟨rfl, hb6⟩
    go_wp2_with fail
    refine (cS u6).mono ?_
    rintro e u7 ⟨rfl, hb7⟩
    go_wp2_with fail
    refine (cX' u7).mono ?_
    rintro e u8 ⟨rfl, hb8⟩
    go_wp2_with fail
    refine (cH u8).mono ?_
    rintro e u9 ⟨rfl, hw9⟩
    rw [hw9]
    have hB8 := bel2 hB3 (bel2 hb4 (bel2 hb5 (bel2 hb6 (bel2 hb7 hb8))))
    clear hB3 hb4 hb5 hb6 hb7 hb8
    cases h with
    | true =>
      go_wp2_with fail
      refine (cW u8).mono ?_
      rintro e u10 ⟨rfl, hb10⟩
      cases v with
      | true =>
        go_wp2
        go_ret
        exact ⟨rfl, bel2 hB8 hb10⟩
      | false =>
        obtain rfl := HW.out (by simp) (by simp)
        go_wp2
        go_ret
        exact ⟨rfl, bel2 hB8 hb10⟩
    | false =>
      go_wp2_with fail
      refine (cW u8).mono ?_
      rintro e u10 ⟨rfl, hb10⟩
      cases v with
      | true =>
        go_wp2
        go_ret
        exact ⟨rfl, bel2 hB8 hb10⟩
      | false =>
        obtain rfl := HW.out (by simp) (by simp)
        go_wp2
        go_ret
        exact ⟨rfl, bel2 hB8 hb10⟩
  | false =>
    go_wp2_with fail
    refine (cT u3).mono ?_
    rintro e u4 ⟨rfl, hb4⟩
    have hB4 := bel2 hB3 hb4
    clear hB3 hb4
    cases T with
    | false =>
      go_wp2
      go_ret
      exact ⟨rfl, hB4⟩
    | true =>
      obtain rfl := HS.out (by simp)
      obtain rfl := HX.out (by simp)
      go_wp2_with fail
      refine (cS u4).mono ?_
      rintro e u7 ⟨rfl, hb7⟩
      go_wp2_with fail
      refine (cX' u7).mono ?_
      rintro e u8 ⟨rfl, hb8⟩
      go_wp2_with fail
      refine (cH u8).mono ?_
      rintro e u9 ⟨rfl, hw9⟩
      rw [hw9]
      have hB8 := bel2 hB4 (bel2 hb7 hb8)
      clear hB4 hb7 hb8
      cases h with
      | true =>
        go_wp2_with fail
        refine (cW u8).mono ?_
        rintro e u10 ⟨rfl, hb10⟩
        cases v with
        | true =>
          go_wp2
          go_ret
          exact ⟨rfl, bel2 hB8 hb10⟩
        | false =>
          obtain rfl := HW.out (by simp) (by simp)
          go_wp2
          go_ret
          exact ⟨rfl, bel2 hB8 hb10⟩
      | false =>
        go_wp2_with fail
        refine (cW u8).mono ?_
        rintro e u10 ⟨rfl, hb10⟩
        cases v with
        | true =>
          go_wp2
          go_ret
          exact ⟨rfl, bel2 hB8 hb10⟩
        | false =>
          obtain rfl := HW.out (by simp) (by simp)
          go_wp2
          go_ret
          exact ⟨rfl, bel2 hB8 hb10⟩

namespace fnMatches
theorem own : ownKnob Tryd.prog.godebug = none := by kernel_rfl
theorem laidOut : laidOutB Tryd.prog = true := by kernel_rfl
set_option maxRecDepth 100000 in
theorem lifted (os : Os) (started : os.Started) (H : Type) (enc : TypeId × Value → H) :
    ReturnsInHanded {} Tryd.checked os 3 .any (fun w args => (Rows.fnMatchesSpec.pre enc Tryd.prog Tryd.f3 Rows.fnMatchesRow.domain false w args ∧ laidMetH Tryd.prog Rows.fnMatchesRow.laid w) ∧ sizedMet enc Tryd.prog Tryd.f3 (OpenSpec.ofChange Rows.fnMatchesSpec) false w args) (Rows.fnMatchesSpec.post enc Tryd.prog Tryd.f3 false true false false) := by
  refine returnsInHanded_of_change_and (C := Tryd.checked) (X := fun w _ => laidMetH Tryd.prog Rows.fnMatchesRow.laid w) (fun _ _ _ hh h => h.of_heap hh) own started (by kernel_rfl) Tryd.func3
    (ChangeSpec.witness_shaped (enc := enc) (C := Tryd.checked) (os := os) (X := fun w _ => laidMetH Tryd.prog Rows.fnMatchesRow.laid w) false (World.laidAll Tryd.prog os Rows.fnMatchesRow.laid) #[.slice none 0 0] 8 (World.laidAll_os _ _ _)
      (World.shaped_of_ZipB (by kernel_rfl) (by kernel_rfl)) (by kernel_rfl) (by kernel_rfl) (by kernel_rfl)
      (by rw [MakeChecks.laidMetH_plain _ _ _ (by kernel_rfl)]; exact laidMet_laidAll _ (by kernel_rfl) (by kernel_rfl))) ?_
  intro W base args ds gs before hval0 hW hcnd _ hL _
  have hval : ∀ (j : Nat) t v, Tryd.f3.params[j]? = some t → args[j]? = some v → Value.okWide Tryd.prog W .any base t v := hval0
  have hW' := hW
  obtain ⟨p, q, hA0, hV, rfl, hfz, hnd⟩ := hW
  have hA : DataW.TrodAll enc Tryd.prog W 0 (fun _ => true) true Tryd.f3.params.toList args.toList ds p := hA0
  rw [Tryd.params3] at hA hval
  obtain ⟨v0, vs0, d0, ds0, p0, q0, hargs, rfl, rfl, h0, r0⟩ := trodAll_cons hA
  obtain ⟨rfl, rfl, rfl⟩ := trodAll_nil r0
  obtain rfl : args = #[v0] := by cases args; simp_all
  obtain ⟨rfl, rfl⟩ := trodVars_none hV
  obtain ⟨a0, len0, cap0, rfl⟩ := okWide_slice Tryd.underlying22 (hval 0 22 v0 rfl rfl)
  have k0 := h0
  have lt0 : ∀ x ∈ p0, x.block < W.heap.size := by obtain ⟨m, hm⟩ := k0; exact DataW.trod_lt m _ _ _ hm
  obtain ⟨z0, w0⟩ : ∃ l, RdIn W a0 len0 cap0 l := by
    obtain ⟨fuel, hf⟩ := h0
    rcases open_ints Tryd.underlying22 Tryd.underlying5 (by kernel_rfl) hf with ⟨hcs, _⟩ | ⟨x, l, c, zs, hcs, _, hl, hm, hz, _, hcell, hwz⟩
    · simp [Value.cells] at hcs
      obtain ⟨rfl, rfl, rfl⟩ := hcs
      exact ⟨[], RdIn.nil _⟩
    · simp [Value.cells] at hcs
      obtain ⟨rfl, rfl, rfl⟩ := hcs
      exact RdIn.of_ints hl hm (by simpa using hz) hcell hwz
  clear hA0 hval0
  refine (fnMatches_walk a0 len0 cap0 z0 W w0).mono fun e W' ⟨he, bel⟩ => ?_
  subst he
  exact ⟨_, rfl, _, _, _, [], _, [], hW', trodAll_mk1 (shut_bool Tryd.underlying4 _), (trodAll_cons_mk (Below.trod laidOut (by kernel_rfl) (of_decide_eq_true (by kernel_rfl)) k0 bel lt0) trodAll_mk0), rfl, bel.frame _, fun h => by cases h⟩

theorem over : Rows.fnMatchesRow.holds Tryd.pinned (OpenSpec.ofChange Rows.fnMatchesSpec) :=
  OpenClaim.holds_of_wide 3 Tryd.f3 rfl rfl rfl rfl rfl rfl rfl ⟨rfl, rfl, rfl, rfl, rfl⟩ rfl rfl rfl rfl rfl (by kernel_rfl) Tryd.func3 (by kernel_rfl)
    (of_decide_eq_true (by kernel_rfl)) (by unfold Func.isWrapper; first | (rw [if_pos (by decide +kernel)]; kernel_rfl) | (rw [if_neg (by decide +kernel)]; exact ⟨rfl, rfl⟩))
    (fun os started H enc _ => lifted os started H enc)
end fnMatches

theorem fnMatches_holds : Rows.FnMatchesCardSaid :=
  Claim7.holds_tied_plain_at .later [] [.data, .pinned] true Rows.fnMatchesCard.stood.harness false fnMatches.over (fun _ h => by cases h) (by kernel_rfl) (fun _ h => by cases h) fnMatches_row_tie rfl ⟨rfl, rfl⟩ (by kernel_rfl) rfl
    (fun f fn hf hfn => by
      obtain rfl : f = 3 := Option.some.inj ((show Tryd.prog.funcNamed Rows.fnMatchesRow.func = some 3 by kernel_rfl).symm.trans hf) |>.symm
      obtain rfl : fn = Tryd.f3 := (Option.some.inj (Tryd.func3.symm.trans hfn)).symm
      exact ⟨by kernel_rfl, fun j t ht => by
        rw [Tryd.params3] at ht
        have hm : t ∈ [22] := by simpa using Array.mem_of_getElem? ht
        have hall : ([22].all fun u => !Tryd.prog.wantsStandIn u) = true := by kernel_rfl
        exact (show Tryd.prog.wantsStandIn t = false by simpa using List.all_eq_true.1 hall t hm)⟩)
    (by kernel_rfl)
end Go.Proofs.YtdjbaieaelhhiaaDoor
