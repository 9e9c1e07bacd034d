/- FnExactJoin: whatever it is handed, the law function laws.FnExactJoin returns true, and its arguments read afterwards as before. No condition. -/
import Derived.Test.YtbndefmeehcnnaaRows
import Derived.Test.YtbndefmeehcnnaaBuil
import Derived.WalkKit
import Derived.ProofKit
import Derived.OpenShut
import Derived.ShutString
import Derived.ChangeOld
import Derived.Below
import Derived.Deep.Strs
namespace Go.Proofs.Ytbndefmeehcnnaa
open Go.ChangeShapes Go.WideShapes Go.ChangeAt Go.RowKit
open Go.ChangeMaps (open_string shut_string)
set_option linter.unusedVariables false
set_option linter.unusedSimpArgs false

set_option maxHeartbeats 1000000 in
theorem fnExactJoin_walk (a0 : Option Addr) (n0 c0 : Nat) (l0 : List ByteArray) (w : World) (w0 : SRd w a0 n0 c0 l0 ∧ ∀ s ∈ l0, s.size ≤ maxLen) :
    Calls Try.prog 3 #[.slice a0 n0 c0] w fun e w' => e = .returned (.bool true) ∧ Below w.heap.size w w' := by
  obtain ⟨hr, hs⟩ := w0
  have hS : Hid (∀ s ∈ l0, s.size ≤ maxLen) := hs
  clear hs
  go_enter Try.func3, Try.ntmps3
  go_wp2_with fail
  refine (sz_lszStringS a0 n0 c0 l0 _ hr hS.out).mono ?_
  rintro e w1 ⟨r, rfl, hw, hcase⟩
  subst hw
  rcases hcase with hneg | ⟨hpos, htot⟩
  · go_wp2
    go_ret
    exact ⟨rfl, Below.refl _ _⟩
  · have hpos' : ¬ r < 0 := by omega
    obtain ⟨J, hJ⟩ : ∃ J : ByteArray, (⟨(glue (dats l0)).toArray⟩ : ByteArray) = J := ⟨_, rfl⟩
    have hJn := str_ne_self J
    go_wp2_with fail
    refine (to_ltoStringS a0 n0 c0 l0 _ hr (by omega)).mono ?_
    rintro e w2 ⟨rfl, ho2, hb2⟩
    go_wp2_with fail
    refine (join_sJoin _ n0 n0 l0 _ ho2.rd (by omega)).mono ?_
    rintro e w3 ⟨he, hw⟩
    subst hw
    rw [hJ] at he
    subst he
    go_wp2_with fail
    refine (to_ltoStringS a0 n0 c0 l0 _ (hr.below hb2) (by omega)).mono ?_
    rintro e w4 ⟨rfl, ho4, hb4⟩
    go_wp2_with fail
    refine (join_iJoin _ n0 n0 l0 _ ho4.rd (by omega) (fun a h => (ho4.block h).2)).mono ?_
    rintro e w5 ⟨he, hb5⟩
    rw [hJ] at he
    subst he
    have hb6 := bel2 (bel2 hb2 hb4) hb5
    go_wp2_with fail
    refine (to_ltoStringS a0 n0 c0 l0 _ (hr.below hb6) (by omega)).mono ?_
    rintro e w7 ⟨rfl, ho7, hb7⟩
    go_wp2_with fail
    refine (eq_leqStringS _ _ n0 n0 n0 l0 _ ((ho4.rd.below hb5).below hb7) ho7.rd (by omega)).mono ?_
    rintro e w8 ⟨rfl, hb8⟩
    go_wp2
    go_ret
    exact ⟨rfl, bel2 (bel2 hb6 hb7) hb8⟩

namespace fnExactJoin
theorem own : ownKnob Try.prog.godebug = none := by kernel_rfl
theorem laidOut : laidOutB Try.prog = true := by kernel_rfl
set_option maxRecDepth 100000 in
theorem lifted (os : Os) (started : os.Started) (H : Type) (enc : TypeId × Value → H) :
    ReturnsInHanded {} Try.checked os 3 .any (Rows.fnExactJoinSpec.pre6 enc Try.prog Try.f3 Rows.fnExactJoinRow.domain false) (Rows.fnExactJoinSpec.post enc Try.prog Try.f3 false true false false) := by
  refine returnsInHanded_of_change (C := Try.checked) own started (by kernel_rfl) Try.func3
    (ChangeSpec.witness6 (enc := enc) (C := Try.checked) false ⟨#[], #[.slice none 0 0], []⟩ 8 (by kernel_rfl) (by kernel_rfl) (by kernel_rfl) (by kernel_rfl)) ?_
  intro W base args ds gs before hval0 hW hcnd _
  have hval : ∀ (j : Nat) t v, Try.f3.params[j]? = some t → args[j]? = some v → Value.okWide Try.prog W .any base t v := hval0
  have hW' := hW
  obtain ⟨p, q, hA0, hV, rfl, hfz, hnd⟩ := hW
  have hA : DataW.TrodAll enc Try.prog W 0 (fun _ => true) true Try.f3.params.toList args.toList ds p := hA0
  rw [Try.params3] at hA hval
  obtain ⟨v0, vs0, d0, ds0, p0, q0, hargs, rfl, rfl, h0, r0⟩ := trodAll_cons hA
  obtain ⟨rfl, rfl, rfl⟩ := trodAll_nil r0
  obtain rfl : args = #[v0] := by cases args; simp_all
  obtain ⟨rfl, rfl⟩ := trodVars_none hV
  obtain ⟨a0, len0, cap0, rfl⟩ := okWide_slice Try.underlying22 (hval 0 22 v0 rfl rfl)
  have k0 := h0
  have lt0 : ∀ x ∈ p0, x.block < W.heap.size := by obtain ⟨m, hm⟩ := k0; exact DataW.trod_lt m _ _ _ hm
  obtain ⟨z0, w0⟩ : ∃ l, SRd W a0 len0 cap0 l ∧ ∀ s ∈ l, s.size ≤ maxLen := by
    obtain ⟨fuel, hf⟩ := h0
    rcases Go.Deep.open_strs Try.underlying22 Try.underlying9 (by kernel_rfl) hf with ⟨hcs, _⟩ | ⟨x, l, c, m, Sx, hcs, _, hl, hm, hmm, _, hcell⟩
    · simp [Value.cells] at hcs
      obtain ⟨rfl, rfl, rfl⟩ := hcs
      exact ⟨[], SRd.nil _, fun s hs => by simp at hs⟩
    · simp [Value.cells] at hcs
      obtain ⟨rfl, rfl, rfl⟩ := hcs
      exact SRd.of_cells hl hm (by rw [hmm]; split <;> omega) hcell
  clear hA0 hval0
  refine (fnExactJoin_walk a0 len0 cap0 z0 W w0).mono fun e W' ⟨he, bel⟩ => ?_
  subst he
  exact ⟨_, rfl, _, _, _, [], _, [], hW', trodAll_mk1 (shut_bool Try.underlying4 _), (trodAll_cons_mk (Below.trod laidOut (by kernel_rfl) (of_decide_eq_true (by kernel_rfl)) k0 bel lt0) trodAll_mk0), rfl, bel.frame _, fun h => by cases h⟩

theorem over : Rows.fnExactJoinRow.holds Try.pinned (OpenSpec.ofChange Rows.fnExactJoinSpec) :=
  OpenClaim.holds_of_wide 3 Try.f3 rfl rfl rfl rfl rfl rfl rfl ⟨rfl, rfl, rfl, rfl, rfl⟩ rfl rfl rfl rfl rfl (by kernel_rfl) Try.func3 (by kernel_rfl)
    (of_decide_eq_true (by kernel_rfl)) (by unfold Func.isWrapper; first | (rw [if_pos (by decide +kernel)]; kernel_rfl) | (rw [if_neg (by decide +kernel)]; exact ⟨rfl, rfl⟩))
    (fun os started H enc _ => lifted os started H enc)
end fnExactJoin

theorem fnExactJoin_holds : Rows.FnExactJoinSaid := fnExactJoin.over
end Go.Proofs.Ytbndefmeehcnnaa
