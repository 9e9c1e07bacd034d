/- FnExactPutLen: whatever it is handed, the law function laws.FnExactPutLen returns true, and its arguments read afterwards as before. No condition. -/
import Derived.Test.YtoolaeeodalieaaRows
import Derived.Test.YtoolaeeodalieaaLenG
import Derived.WalkKit
import Derived.ProofKit
import Derived.OpenShut
import Derived.ShutString
import Derived.ChangeOld
import Derived.Below
namespace Go.Proofs.Ytoolaeeodalieaa
open Go.ChangeShapes Go.WideShapes Go.ChangeAt Go.RowKit
open Go.ChangeMaps (open_string shut_string)
set_option linter.unusedVariables false
set_option linter.unusedSimpArgs false

set_option maxHeartbeats 1000000 in
theorem fnExactPutLen_walk (a0 : Option Addr) (len0 cap0 : Nat) (l : List UInt8) (a1 : Int) (w : World) (w0 : RdIn w a0 len0 cap0 l) (w1 : (Lit.int .i64 a1).wf = true) :
    Calls Try.prog 5 #[.slice a0 len0 cap0, .int .i64 a1] w fun e w' => e = .returned (.bool true) ∧ Below w.heap.size w w' := by
  by_cases hbig : 1048576 < len0
  · have hb' : (1048576 : Int) < (len0 : Int) := by omega
    go_enter Try.func5, Try.ntmps5
    go_wp2
    go_ret
    exact ⟨rfl, Below.refl _ _⟩
  · have hb' : ¬ (1048576 : Int) < (len0 : Int) := by omega
    obtain ⟨N, hN⟩ : ∃ N, (lenB a1).length = N := ⟨_, rfl⟩
    have hN4 : N ≤ 4 := by rw [← hN]; exact lenB_le a1
    go_enter Try.func5, Try.ntmps5
    go_wp2_with fail
    refine (to_ltoByteS _ _ _ l _ w0 (by omega)).mono ?_
    rintro e u1 ⟨rfl, ho1, hb1⟩
    go_wp2_with fail
    refine (put_sPutLen N _ _ _ a1 l _ hN ho1.rd (by omega)).mono ?_
    rintro e u2 ⟨aw, cw, rfl, ho2, hb2⟩
    have d2 := below_next hb1 hb2
    go_wp2_with fail
    refine (to_ltoByteS _ _ _ l _ (w0.below d2) (by omega)).mono ?_
    rintro e u3 ⟨rfl, ho3, hb3⟩
    go_wp2_with fail
    refine (put_iPutLen N _ _ _ a1 l _ hN ho3.rd (by omega)).mono ?_
    rintro e u4 ⟨ag, cg, rfl, ho4, hb4⟩
    have d4 := below_next hb3 hb4
    go_wp2_with fail
    refine (eq_leqByteS _ _ _ _ _ (l ++ lenB a1) _ ho4.rd (ho2.below d4).rd (by omega)).mono ?_
    rintro e u5 ⟨rfl, hb5⟩
    have d5 := below_next d4 hb5
    go_wp2_with fail
    refine (to_ltoByteS _ _ _ l _ (w0.below (below_next d2 d5)) (by omega)).mono ?_
    rintro e u6 ⟨rfl, ho6, hb6⟩
    have x6 := below_next hb4 (below_next hb5 hb6)
    go_wp2_with fail
    refine (eq_leqByteS _ _ _ _ _ l _ (ho3.below x6).rd ho6.rd (by omega)).mono ?_
    rintro e u7 ⟨rfl, hb7⟩
    have x7 := below_next x6 hb7
    have g7 := ho4.below (below_next hb5 (below_next hb6 hb7))
    have k7 := ho3.below x7
    have d7 := below_next hb3 x7
    clear ho6
    go_wp2_with fail
    refine (mark_lmarkByteS _ _ _ _ 1 l _ k7 (by omega) (by omega)).mono ?_
    rintro e u8 ⟨rfl, ho8, hg8⟩
    have g8 := own_keep g7 ho3 (Nat.le_refl _) hg8
    have m8 : Below u2.heap.size u7 u8 := mark_below k7 hg8 (Nat.le_refl _) d7.size
    have d8 := d7.trans m8
    go_wp2_with fail
    refine (eq_leqByteS _ _ _ _ _ (l ++ lenB a1) _ g8.rd (ho2.below d8).rd (by omega)).mono ?_
    rintro e u9 ⟨rfl, hb9⟩
    have d9 := below_next d8 hb9
    have g9 := g8.below hb9
    go_wp2_with fail
    refine (mark_lmarkByteS _ _ _ _ 1 (l ++ lenB a1) _ g9 (by omega) (by omega)).mono ?_
    rintro e u10 ⟨rfl, ho10, hg10⟩
    have m10 : Below u2.heap.size u9 u10 := mark_below g9 hg10 hb3.size d9.size
    have d10 := d9.trans m10
    go_wp2_with fail
    refine (held_lheldByteS _ _ _ 1 _ ho10.rd (by omega) (by omega)).mono ?_
    rintro e u ⟨rfl, rfl⟩
    go_wp2_with fail
    refine (to_ltoByteS _ _ _ l _ (w0.below (below_next d2 d10)) (by omega)).mono ?_
    rintro e u11 ⟨rfl, ho11, hb11⟩
    go_wp2_with fail
    refine (put_iPutLen N _ _ _ a1 l _ hN ho11.rd (by omega)).mono ?_
    rintro e u12 ⟨ah, ch, rfl, ho12, hb12⟩
    have d12 := below_next d10 (below_next hb11 hb12)
    go_wp2_with fail
    refine (eq_leqByteS _ _ _ _ _ (l ++ lenB a1) _ ho12.rd (ho2.below d12).rd (by omega)).mono ?_
    rintro e u13 ⟨rfl, hb13⟩
    go_wp2_with fail
    refine (held_lheldByteS _ _ _ 1 _ (ho10.below (below_next hb11 (below_next hb12 hb13))).rd (by omega) (by omega)).mono ?_
    rintro e u ⟨rfl, rfl⟩
    go_wp2
    go_ret
    exact ⟨rfl, below_next d2 (below_next d12 hb13)⟩

namespace fnExactPutLen
theorem own : ownKnob Try.prog.godebug = none := by kernel_rfl
theorem laidOut : laidOutB Try.prog = true := by kernel_rfl
set_option maxRecDepth 100000 in
theorem lifted (os : Os) (started : os.Started) (H : Type) (enc : TypeId × Value → H) :
    ReturnsInHanded {} Try.checked os 5 .any (Rows.fnExactPutLenSpec.pre6 enc Try.prog Try.f5 Rows.fnExactPutLenRow.domain false) (Rows.fnExactPutLenSpec.post enc Try.prog Try.f5 false true false false) := by
  refine returnsInHanded_of_change (C := Try.checked) own started (by kernel_rfl) Try.func5
    (ChangeSpec.witness6 (enc := enc) (C := Try.checked) false ⟨#[], #[.slice none 0 0, .int .i64 0], []⟩ 8 (by kernel_rfl) (by kernel_rfl) (by kernel_rfl) (by kernel_rfl)) ?_
  intro W base args ds gs before hval0 hW hcnd _
  have hval : ∀ (j : Nat) t v, Try.f5.params[j]? = some t → args[j]? = some v → Value.okWide Try.prog W .any base t v := hval0
  have hW' := hW
  obtain ⟨p, q, hA0, hV, rfl, hfz, hnd⟩ := hW
  have hA : DataW.TrodAll enc Try.prog W 0 (fun _ => true) true Try.f5.params.toList args.toList ds p := hA0
  rw [Try.params5] at hA hval
  obtain ⟨v0, vs0, d0, ds0, p0, q0, hargs, rfl, rfl, h0, r0⟩ := trodAll_cons hA
  obtain ⟨v1, vs1, d1, ds1, p1, q1, rfl, rfl, rfl, h1, r1⟩ := trodAll_cons r0
  obtain ⟨rfl, rfl, rfl⟩ := trodAll_nil r1
  obtain rfl : args = #[v0, v1] := by cases args; simp_all
  obtain ⟨rfl, rfl⟩ := trodVars_none hV
  obtain ⟨a0, len0, cap0, rfl⟩ := okWide_slice Try.underlying22 (hval 0 22 v0 rfl rfl)
  have k0 := h0
  have lt0 : ∀ x ∈ p0, x.block < W.heap.size := by obtain ⟨m, hm⟩ := k0; exact DataW.trod_lt m _ _ _ hm
  obtain ⟨z0, w0⟩ : ∃ l, RdIn W a0 len0 cap0 l := by
    obtain ⟨fuel, hf⟩ := h0
    rcases open_ints Try.underlying22 Try.underlying5 (by kernel_rfl) hf with ⟨hcs, _⟩ | ⟨x, l, c, zs, hcs, _, hl, hm, hz, _, hcell, hwz⟩
    · simp [Value.cells] at hcs
      obtain ⟨rfl, rfl, rfl⟩ := hcs
      exact ⟨[], RdIn.nil _⟩
    · simp [Value.cells] at hcs
      obtain ⟨rfl, rfl, rfl⟩ := hcs
      exact RdIn.of_ints hl hm (by simpa using hz) hcell hwz
  obtain ⟨a1, rfl, rfl, rfl, w1⟩ := open_int Try.underlying3 (hval 1 3 v1 rfl rfl) h1
  clear hA0 hval0
  refine (fnExactPutLen_walk a0 len0 cap0 z0 a1 W w0 w1).mono fun e W' ⟨he, bel⟩ => ?_
  subst he
  exact ⟨_, rfl, _, _, _, [], _, [], hW', trodAll_mk1 (shut_bool Try.underlying4 _), (trodAll_cons_mk (Below.trod laidOut (by kernel_rfl) (of_decide_eq_true (by kernel_rfl)) k0 bel lt0) (trodAll_cons_mk (shut_int Try.underlying3 w1) trodAll_mk0)), rfl, bel.frame _, fun h => by cases h⟩

theorem over : Rows.fnExactPutLenRow.holds Try.pinned (OpenSpec.ofChange Rows.fnExactPutLenSpec) :=
  OpenClaim.holds_of_wide 5 Try.f5 rfl rfl rfl rfl rfl rfl rfl ⟨rfl, rfl, rfl, rfl, rfl⟩ rfl rfl rfl rfl rfl (by kernel_rfl) Try.func5 (by kernel_rfl)
    (of_decide_eq_true (by kernel_rfl)) (by unfold Func.isWrapper; first | (rw [if_pos (by decide +kernel)]; kernel_rfl) | (rw [if_neg (by decide +kernel)]; exact ⟨rfl, rfl⟩))
    (fun os started H enc _ => lifted os started H enc)
end fnExactPutLen

theorem fnExactPutLen_holds : Rows.FnExactPutLenSaid := fnExactPutLen.over
end Go.Proofs.Ytoolaeeodalieaa
