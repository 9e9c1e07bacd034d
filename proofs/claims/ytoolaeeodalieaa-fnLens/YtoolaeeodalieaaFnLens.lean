/- FnLens: whatever it is handed, the law function laws.FnLens returns true, and its arguments read afterwards as before. No condition. -/
import Derived.Test.YtoolaeeodalieaaRows
import Derived.Test.YtoolaeeodalieaaLenD
import Derived.WalkKit
import Derived.ProofKit
import Derived.OpenShut
import Derived.ShutString
import Derived.ChangeOld
import Derived.Below
namespace Go.Proofs.Ytoolaeeodalieaa
open Go.ChangeShapes Go.WideShapes Go.ChangeAt Go.RowKit
open Go.ChangeMaps (open_string shut_string)
set_option linter.unusedVariables false
set_option linter.unusedSimpArgs false

set_option maxRecDepth 100000 in
set_option maxHeartbeats 2000000 in
theorem fnLens_walk (a0 : Option Addr) (len0 cap0 : Nat) (l : List UInt8) (w : World) (w0 : RdIn w a0 len0 cap0 l) :
    Calls Try.prog 3 #[.slice a0 len0 cap0] w fun e w' => e = .returned (.bool true) ∧ Below w.heap.size w w' := by
  by_cases hbig : 1048576 < len0
  · go_enter Try.func3, Try.ntmps3
    go_wp2_with fail
    refine (big_lbig _ _ _ true _ (decide_eq_true hbig)).mono ?_
    rintro e u ⟨rfl, rfl⟩
    go_wp2
    go_ret
    exact ⟨rfl, Below.refl _ _⟩
  go_enter Try.func3, Try.ntmps3
  go_wp2_with fail
  refine (big_lbig _ _ _ false _ (decide_eq_false hbig)).mono ?_
  rintro e u ⟨rfl, rfl⟩
  go_wp2_with fail
  refine (draw_sDrawPutLen _ _ _ l _ w0 (by omega)).mono ?_
  rintro e u1 ⟨a, m, c, x, i, hm, rfl, ho1, hb1⟩
  obtain ⟨N, hN⟩ : ∃ N, (lenB i).length = N := ⟨_, rfl⟩
  have hN4 : N ≤ 4 := by rw [← hN]; exact lenB_le i
  have HX : Hid (x.length = m) := ho1.1
  have HN : Hid ((lenB i).length = N) := hN
  clear hN
  go_wp2_with fail
  refine (put_iPutLen N _ _ _ i x _ HN.out ho1.rd (by omega)).mono ?_
  rintro e u2 ⟨ap, cp, rfl, ho2, hb2⟩
  go_wp2_with fail
  refine (size_iLenSize N i _ HN.out).mono ?_
  rintro e u3 ⟨rfl, hb3⟩
  have d3 := below_next hb1 (below_next hb2 hb3)
  have hp3 := ho2.below hb3
  have hx3 := ho1.below (below_next hb2 hb3)
  clear ho1 ho2
  by_cases h0 : i < 0
  · have HB : Hid (lenB i = []) := lenB_no (.inl h0)
    have hN0 : N = 0 := by rw [← HN.out, HB.out]; rfl
    subst hN0
    rw [HB.out, List.append_nil] at hp3
    go_wp2_with fail
    refine (same_lsame _ _ _ _ _ _ x _ hp3.rd hx3.rd).mono ?_
    rintro e u4 ⟨rfl, rfl⟩
    go_wp2
    go_ret
    exact ⟨rfl, d3⟩
  by_cases h1 : 268435455 < i
  · have HB : Hid (lenB i = []) := lenB_no (.inr h1)
    have hN0 : N = 0 := by rw [← HN.out, HB.out]; rfl
    subst hN0
    rw [HB.out, List.append_nil] at hp3
    go_wp2_with fail
    refine (same_lsame _ _ _ _ _ _ x _ hp3.rd hx3.rd).mono ?_
    rintro e u4 ⟨rfl, rfl⟩
    go_wp2
    go_ret
    exact ⟨rfl, d3⟩
  obtain ⟨n, rfl⟩ := Int.eq_ofNat_of_zero_le (show 0 ≤ i by omega)
  have hn : n ≤ 268435455 := by omega
  have HB : Hid (lenB (n : Int) = lenF 3 n) := lenB_nat hn
  have hN1 : 1 ≤ N := by rw [← HN.out, HB.out]; exact (lenF_len 3 n).1
  rw [HB.out] at hp3
  have HL : Hid ((lenF 3 n).length = N) := by rw [← HB.out]; exact HN.out
  have HG : Hid (ansG (x ++ lenF 3 n) m 4 = ((n : Int), ((m + N : Nat) : Int), 0)) := by
    have := ansG_put x n hn
    rw [HX.out, HL.out] at this
    exact this
  have HC : Hid (ansG ((x ++ lenF 3 n).take (m + N - 1)) m 4 = (0, 0, 1)) := by
    have := ansG_cut x n hn
    rw [HX.out, HL.out] at this
    exact this
  have HT : Hid ((x ++ lenF 3 n).take m = x) := by unfold Hid; rw [← HX.out]; simp
  have hcp := hp3.rd.2.1
  have hcut := hp3.cut (m + N - 1) (by omega)
  obtain ⟨M, hM⟩ : ∃ M, m + N - 1 = M := ⟨_, rfl⟩
  rw [hM] at hcut
  have HC' : Hid (ansG ((x ++ lenF 3 n).take M) m 4 = (0, 0, 1)) := by unfold Hid; rw [← hM]; exact HC.out
  have hes : ∀ w', (Instr.slice 22 (.slice ap (m + N) cp) none (some (.int .i64 ((m : Int) + (N : Int) - 1))) none).run Try.prog w' = .ok (.slice ap M cp) w' := fun w' => by
    have := slice_head ap (m + N) cp M (by omega) w'
    rw [show ((M : Nat) : Int) = (m : Int) + (N : Int) - 1 from by omega] at this
    exact this
  have hMm : m ≤ M := by omega
  have hM2 : M ≤ 300 := by omega
  clear hM
  go_wp2_with fail
  refine (get_iGetLen_in _ _ _ m (x ++ lenF 3 n) _ hp3.rd (by omega) (by omega)).mono ?_
  rintro e u4 ⟨he, rfl⟩
  rw [HG.out] at he
  simp only [ret3] at he
  subst he
  go_wp2_with fail
  refine (get_iGetLen_in _ _ _ m _ _ hcut.rd hMm (by omega)).mono ?_
  rintro e u5 ⟨he, rfl⟩
  rw [HC'.out] at he
  simp only [ret3] at he
  subst he
  go_wp2_with fail
  refine (starts_lstarts _ _ _ _ _ _ _ x _ hp3.rd hx3.rd (by omega) HT.out (by omega)).mono ?_
  rintro e u6 ⟨rfl, hb6⟩
  go_wp2
  go_ret
  exact ⟨by simp, below_next d3 hb6⟩


namespace fnLens
theorem own : ownKnob Try.prog.godebug = none := by kernel_rfl
theorem laidOut : laidOutB Try.prog = true := by kernel_rfl
set_option maxRecDepth 100000 in
theorem lifted (os : Os) (started : os.Started) (H : Type) (enc : TypeId × Value → H) :
    ReturnsInHanded {} Try.checked os 3 .any (Rows.fnLensSpec.pre6 enc Try.prog Try.f3 Rows.fnLensRow.domain false) (Rows.fnLensSpec.post enc Try.prog Try.f3 false true false false) := by
  refine returnsInHanded_of_change (C := Try.checked) own started (by kernel_rfl) Try.func3
    (ChangeSpec.witness6 (enc := enc) (C := Try.checked) false ⟨#[], #[.slice none 0 0], []⟩ 8 (by kernel_rfl) (by kernel_rfl) (by kernel_rfl) (by kernel_rfl)) ?_
  intro W base args ds gs before hval0 hW hcnd _
  have hval : ∀ (j : Nat) t v, Try.f3.params[j]? = some t → args[j]? = some v → Value.okWide Try.prog W .any base t v := hval0
  have hW' := hW
  obtain ⟨p, q, hA0, hV, rfl, hfz, hnd⟩ := hW
  have hA : DataW.TrodAll enc Try.prog W 0 (fun _ => true) true Try.f3.params.toList args.toList ds p := hA0
  rw [Try.params3] at hA hval
  obtain ⟨v0, vs0, d0, ds0, p0, q0, hargs, rfl, rfl, h0, r0⟩ := trodAll_cons hA
  obtain ⟨rfl, rfl, rfl⟩ := trodAll_nil r0
  obtain rfl : args = #[v0] := by cases args; simp_all
  obtain ⟨rfl, rfl⟩ := trodVars_none hV
  obtain ⟨a0, len0, cap0, rfl⟩ := okWide_slice Try.underlying22 (hval 0 22 v0 rfl rfl)
  have k0 := h0
  have lt0 : ∀ x ∈ p0, x.block < W.heap.size := by obtain ⟨m, hm⟩ := k0; exact DataW.trod_lt m _ _ _ hm
  obtain ⟨z0, w0⟩ : ∃ l, RdIn W a0 len0 cap0 l := by
    obtain ⟨fuel, hf⟩ := h0
    rcases open_ints Try.underlying22 Try.underlying5 (by kernel_rfl) hf with ⟨hcs, _⟩ | ⟨x, l, c, zs, hcs, _, hl, hm, hz, _, hcell, hwz⟩
    · simp [Value.cells] at hcs
      obtain ⟨rfl, rfl, rfl⟩ := hcs
      exact ⟨[], RdIn.nil _⟩
    · simp [Value.cells] at hcs
      obtain ⟨rfl, rfl, rfl⟩ := hcs
      exact RdIn.of_ints hl hm (by simpa using hz) hcell hwz
  clear hA0 hval0
  refine (fnLens_walk a0 len0 cap0 z0 W w0).mono fun e W' ⟨he, bel⟩ => ?_
  subst he
  exact ⟨_, rfl, _, _, _, [], _, [], hW', trodAll_mk1 (shut_bool Try.underlying4 _), (trodAll_cons_mk (Below.trod laidOut (by kernel_rfl) (of_decide_eq_true (by kernel_rfl)) k0 bel lt0) trodAll_mk0), rfl, bel.frame _, fun h => by cases h⟩

theorem over : Rows.fnLensRow.holds Try.pinned (OpenSpec.ofChange Rows.fnLensSpec) :=
  OpenClaim.holds_of_wide 3 Try.f3 rfl rfl rfl rfl rfl rfl rfl ⟨rfl, rfl, rfl, rfl, rfl⟩ rfl rfl rfl rfl rfl (by kernel_rfl) Try.func3 (by kernel_rfl)
    (of_decide_eq_true (by kernel_rfl)) (by unfold Func.isWrapper; first | (rw [if_pos (by decide +kernel)]; kernel_rfl) | (rw [if_neg (by decide +kernel)]; exact ⟨rfl, rfl⟩))
    (fun os started H enc _ => lifted os started H enc)
end fnLens

theorem fnLens_holds : Rows.FnLensSaid := fnLens.over
end Go.Proofs.Ytoolaeeodalieaa
