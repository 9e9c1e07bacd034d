/- FnExactGetLen: whatever it is handed, the law function laws.FnExactGetLen returns true, and its arguments read afterwards as before. No condition. -/
import Derived.Test.YtoolaeeodalieaaRows
import Derived.Test.YtoolaeeodalieaaLenG
import Derived.WalkKit
import Derived.ProofKit
import Derived.OpenShut
import Derived.ShutString
import Derived.ChangeOld
import Derived.Below
namespace Go.Proofs.Ytoolaeeodalieaa
open Go.ChangeShapes Go.WideShapes Go.ChangeAt Go.RowKit
open Go.ChangeMaps (open_string shut_string)
set_option linter.unusedVariables false
set_option linter.unusedSimpArgs false

set_option maxHeartbeats 400000 in
theorem fnExactGetLen_walk (a0 : Option Addr) (len0 cap0 : Nat) (l : List UInt8) (a1 : Int) (w : World) (w0 : RdIn w a0 len0 cap0 l) (w1 : (Lit.int .i64 a1).wf = true) :
    Calls Try.prog 6 #[.slice a0 len0 cap0, .int .i64 a1] w fun e w' => e = .returned (.bool true) ∧ Below w.heap.size w w' := by
  by_cases hbig : 1048576 < len0
  · have hb' : (1048576 : Int) < (len0 : Int) := by omega
    go_enter Try.func6, Try.ntmps6
    go_wp2
    go_ret
    exact ⟨rfl, Below.refl _ _⟩
  · have hb' : ¬ (1048576 : Int) < (len0 : Int) := by omega
    obtain ⟨x, y, z, hE⟩ : ∃ x y z, getE l a1 = (x, y, z) := ⟨_, _, _, rfl⟩
    have HE : Hid (ret3 (getE l a1) = .returned (.tuple #[.int .i64 x, .int .i64 y, .int .i64 z])) := by unfold Hid; rw [hE]; rfl
    clear hE
    have hx : (x != x) = false := by simp
    have hy : (y != y) = false := by simp
    have hz : (z != z) = false := by simp
    go_enter Try.func6, Try.ntmps6
    go_wp2_with fail
    refine (to_ltoByteS _ _ _ l _ w0 (by omega)).mono ?_
    rintro e u1 ⟨rfl, ho1, hb1⟩
    go_wp2_with fail
    refine (get_sGetLen _ _ _ a1 l _ ho1.rd (by omega)).mono ?_
    rintro e u2 ⟨he, rfl⟩
    rw [HE.out] at he
    subst he
    go_wp2_with fail
    refine (to_ltoByteS _ _ _ l _ (w0.below hb1) (by omega)).mono ?_
    rintro e u3 ⟨rfl, ho3, hb3⟩
    go_wp2_with fail
    refine (get_iGetLen _ _ _ a1 l _ ho3.rd (by omega)).mono ?_
    rintro e u4 ⟨he, rfl⟩
    rw [HE.out] at he
    subst he
    have b3 := below_next hb1 hb3
    go_wp2_with fail
    refine (to_ltoByteS _ _ _ l _ (w0.below b3) (by omega)).mono ?_
    rintro e u5 ⟨rfl, ho5, hb5⟩
    go_wp2_with fail
    refine (eq_leqByteS _ _ _ _ _ l _ (ho3.below hb5).rd ho5.rd (by omega)).mono ?_
    rintro e u6 ⟨rfl, hb6⟩
    go_wp2
    go_ret
    exact ⟨rfl, below_next (below_next b3 hb5) hb6⟩


namespace fnExactGetLen
theorem own : ownKnob Try.prog.godebug = none := by kernel_rfl
theorem laidOut : laidOutB Try.prog = true := by kernel_rfl
set_option maxRecDepth 100000 in
theorem lifted (os : Os) (started : os.Started) (H : Type) (enc : TypeId × Value → H) :
    ReturnsInHanded {} Try.checked os 6 .any (Rows.fnExactGetLenSpec.pre6 enc Try.prog Try.f6 Rows.fnExactGetLenRow.domain false) (Rows.fnExactGetLenSpec.post enc Try.prog Try.f6 false true false false) := by
  refine returnsInHanded_of_change (C := Try.checked) own started (by kernel_rfl) Try.func6
    (ChangeSpec.witness6 (enc := enc) (C := Try.checked) false ⟨#[], #[.slice none 0 0, .int .i64 0], []⟩ 8 (by kernel_rfl) (by kernel_rfl) (by kernel_rfl) (by kernel_rfl)) ?_
  intro W base args ds gs before hval0 hW hcnd _
  have hval : ∀ (j : Nat) t v, Try.f6.params[j]? = some t → args[j]? = some v → Value.okWide Try.prog W .any base t v := hval0
  have hW' := hW
  obtain ⟨p, q, hA0, hV, rfl, hfz, hnd⟩ := hW
  have hA : DataW.TrodAll enc Try.prog W 0 (fun _ => true) true Try.f6.params.toList args.toList ds p := hA0
  rw [Try.params6] at hA hval
  obtain ⟨v0, vs0, d0, ds0, p0, q0, hargs, rfl, rfl, h0, r0⟩ := trodAll_cons hA
  obtain ⟨v1, vs1, d1, ds1, p1, q1, rfl, rfl, rfl, h1, r1⟩ := trodAll_cons r0
  obtain ⟨rfl, rfl, rfl⟩ := trodAll_nil r1
  obtain rfl : args = #[v0, v1] := by cases args; simp_all
  obtain ⟨rfl, rfl⟩ := trodVars_none hV
  obtain ⟨a0, len0, cap0, rfl⟩ := okWide_slice Try.underlying22 (hval 0 22 v0 rfl rfl)
  have k0 := h0
  have lt0 : ∀ x ∈ p0, x.block < W.heap.size := by obtain ⟨m, hm⟩ := k0; exact DataW.trod_lt m _ _ _ hm
  obtain ⟨z0, w0⟩ : ∃ l, RdIn W a0 len0 cap0 l := by
    obtain ⟨fuel, hf⟩ := h0
    rcases open_ints Try.underlying22 Try.underlying5 (by kernel_rfl) hf with ⟨hcs, _⟩ | ⟨x, l, c, zs, hcs, _, hl, hm, hz, _, hcell, hwz⟩
    · simp [Value.cells] at hcs
      obtain ⟨rfl, rfl, rfl⟩ := hcs
      exact ⟨[], RdIn.nil _⟩
    · simp [Value.cells] at hcs
      obtain ⟨rfl, rfl, rfl⟩ := hcs
      exact RdIn.of_ints hl hm (by simpa using hz) hcell hwz
  obtain ⟨a1, rfl, rfl, rfl, w1⟩ := open_int Try.underlying3 (hval 1 3 v1 rfl rfl) h1
  clear hA0 hval0
  refine (fnExactGetLen_walk a0 len0 cap0 z0 a1 W w0 w1).mono fun e W' ⟨he, bel⟩ => ?_
  subst he
  exact ⟨_, rfl, _, _, _, [], _, [], hW', trodAll_mk1 (shut_bool Try.underlying4 _), (trodAll_cons_mk (Below.trod laidOut (by kernel_rfl) (of_decide_eq_true (by kernel_rfl)) k0 bel lt0) (trodAll_cons_mk (shut_int Try.underlying3 w1) trodAll_mk0)), rfl, bel.frame _, fun h => by cases h⟩

theorem over : Rows.fnExactGetLenRow.holds Try.pinned (OpenSpec.ofChange Rows.fnExactGetLenSpec) :=
  OpenClaim.holds_of_wide 6 Try.f6 rfl rfl rfl rfl rfl rfl rfl ⟨rfl, rfl, rfl, rfl, rfl⟩ rfl rfl rfl rfl rfl (by kernel_rfl) Try.func6 (by kernel_rfl)
    (of_decide_eq_true (by kernel_rfl)) (by unfold Func.isWrapper; first | (rw [if_pos (by decide +kernel)]; kernel_rfl) | (rw [if_neg (by decide +kernel)]; exact ⟨rfl, rfl⟩))
    (fun os started H enc _ => lifted os started H enc)
end fnExactGetLen

theorem fnExactGetLen_holds : Rows.FnExactGetLenSaid := fnExactGetLen.over
end Go.Proofs.Ytoolaeeodalieaa
