/- FnRunes: whatever it is handed, the law function laws.FnRunes returns true, and its arguments read afterwards as before. No condition. -/
import Derived.Test.YtbleangknnjlcaaRows
import Derived.Test.YtbleangknnjlcaaDraws
import Derived.WalkKit
import Derived.ProofKit
import Derived.OpenShut
import Derived.ShutString
import Derived.ChangeOld
import Derived.Below
namespace Go.Proofs.Ytbleangknnjlcaa
open Go.ChangeShapes Go.WideShapes Go.ChangeAt Go.RowKit
open Go.ChangeMaps (open_string shut_string)
set_option linter.unusedVariables false
set_option linter.unusedSimpArgs false

set_option maxRecDepth 100000 in
set_option maxHeartbeats 4000000 in
/-- A sign's own bytes read as that sign. -/
theorem runeL_self {l : List UInt8} {r k : Nat} (h : runeL l = some (r, k)) : runeL (l.take k) = some (r, k) := by
  have hw := runeL_width h
  have hl : (l.take k).length = k := by simp; omega
  unfold runeL at h ⊢
  rw [hl, if_neg (by omega)]
  rw [if_neg (by omega)] at h
  have hk : k = 1 ∨ k = 2 ∨ k = 3 ∨ k = 4 := by omega
  unfold rune4 at h ⊢
  rcases hk with rfl | rfl | rfl | rfl
  · rw [bt_take l 1 0 (by omega)]
    repeat' split at h
    all_goals first | (simp only [Option.some.injEq, Prod.mk.injEq] at h; exfalso; omega) | (simp only [reduceCtorEq] at h) | skip
    rw [if_pos (by omega)]
    exact h
  · rw [bt_take l 2 0 (by omega), bt_take l 2 1 (by omega)]
    repeat' split at h
    all_goals first | (simp only [Option.some.injEq, Prod.mk.injEq] at h; exfalso; omega) | (simp only [reduceCtorEq] at h) | skip
    rw [if_neg (by omega), if_neg (by omega), if_pos (by omega), if_pos (by omega)]
    exact h
  · rw [bt_take l 3 0 (by omega), bt_take l 3 1 (by omega), bt_take l 3 2 (by omega)]
    repeat' split at h
    all_goals first | (simp only [Option.some.injEq, Prod.mk.injEq] at h; exfalso; omega) | (simp only [reduceCtorEq] at h) | skip
    rw [if_neg (by omega), if_neg (by omega), if_neg (by omega), if_pos (by omega), if_pos (by omega)]
    exact h
  · rw [bt_take l 4 0 (by omega), bt_take l 4 1 (by omega), bt_take l 4 2 (by omega), bt_take l 4 3 (by omega)]
    repeat' split at h
    all_goals first | (simp only [Option.some.injEq, Prod.mk.injEq] at h; exfalso; omega) | (simp only [reduceCtorEq] at h) | skip
    rw [if_neg (by omega), if_neg (by omega), if_neg (by omega), if_neg (by omega), if_pos (by omega), if_pos (by omega)]
    exact h

theorem okT_rune {l : List UInt8} {r k : Nat} (h : runeL l = some (r, k)) : okT (l.take k) = ((r : Int) != 0) := by
  have hw := runeL_width h
  have hs := runeL_self h
  have hl : (l.take k).length = k := by simp; omega
  rw [okT_short (by omega), hl]
  by_cases hr : r = 0
  · subst hr
    rw [countF_bad (by omega) (.inr ⟨k, hs⟩)]
    rfl
  · obtain ⟨f, rfl⟩ : ∃ f, k = f + 1 := ⟨k - 1, by omega⟩
    rw [countF_step (by omega) hs hr, countF_end _ _ (by simp)]
    simp
    omega

set_option maxRecDepth 100000 in
set_option maxHeartbeats 4000000 in
theorem fnRunes_walk (a0 : Option Addr) (len0 cap0 : Nat) (l0 : List UInt8) (w : World) (w0 : RdIn w a0 len0 cap0 l0) :
    Calls Try.prog 3 #[.slice a0 len0 cap0] w fun e w' => e = .returned (.bool true) ∧ Below w.heap.size w w' := by
  by_cases hbig : 1048576 < len0
  · go_enter Try.func3, Try.ntmps3
    go_wp2_with fail
    refine (big15 _ _ _ true _ (by simpa using hbig)).mono ?_
    rintro e u ⟨rfl, rfl⟩
    go_wp2
    go_ret
    exact ⟨rfl, Below.refl _ _⟩
  · go_enter Try.func3, Try.ntmps3
    go_wp2_with fail
    refine (big15 _ _ _ false _ (by simpa using hbig)).mono ?_
    rintro e u ⟨rfl, rfl⟩
    go_wp2_with fail
    refine (draw16 _ _ _ l0 _ w0 (by omega)).mono ?_
    rintro e u1 ⟨a, m, c, x, i, hm, hi0, hi1, rfl, ho1, hb1⟩
    have hxl := ho1.1
    by_cases hout : i < 0 ∨ (m : Int) ≤ i
    · go_wp2_with fail
      refine (rune17_out _ _ _ _ _ hout).mono ?_
      rintro e u2 ⟨rfl, rfl⟩
      go_wp2_with fail
      refine (rune18_out _ _ _ _ _ hout).mono ?_
      rintro e u3 ⟨rfl, rfl⟩
      go_wp2_with fail
      refine (draw19 _ _ _ l0 _ (w0.below hb1) (by omega)).mono ?_
      rintro e u4 ⟨s, hs, rfl, hb4⟩
      go_wp2_with fail
      refine (count20 s _ (by omega)).mono ?_
      rintro e u5 ⟨rfl, hb5⟩
      have q1 := countI_le s.data.toList
      have q2 := countI_ge s.data.toList
      have e1 : s.data.toList.length = s.size := rfl
      rw [e1] at q1
      have HC : Hid (∀ w, Calls Try.prog 21 #[.string s] w fun e w' => e = .returned (.int .i64 (countI s.data.toList)) ∧ Below w.heap.size w w') := fun w => count21 s w (by omega)
      have HO : Hid (∀ w, Calls Try.prog 22 #[.string s] w fun e w' => e = .returned (.bool (okT s.data.toList)) ∧ Below w.heap.size w w') := fun w => ok22 s w (by omega)
      clear e1
      generalize countI s.data.toList = q at *
      generalize okT s.data.toList = t at *
      have q3 : ¬ (s.size : Int) < q := by omega
      go_wp2_with fail
      refine (HC.out _).mono ?_
      rintro e u6 ⟨rfl, hb6⟩
      go_wp2_with fail
      refine (HO.out _).mono ?_
      rintro e u7 ⟨rfl, hb7⟩
      go_wp2
      go_ret
      exact ⟨rfl, below_next hb1 (below_next hb4 (below_next hb5 (below_next hb6 hb7)))⟩
    · obtain ⟨p, rfl⟩ := Int.eq_ofNat_of_zero_le (show 0 ≤ i by omega)
      have hp : p < m := by omega
      have hrd1 := ho1.rd
      obtain ⟨b, off, ea, hc⟩ := hrd1.1.at (show 0 < m by omega)
      subst ea
      have HI : Hid (∀ w, w = u1 → Calls Try.prog 17 #[.slice (some ⟨b, off, none⟩) m c, .int .i64 p] w fun e w' => e = ansR x p ∧ Below w.heap.size w w') := fun w hw => by subst hw; exact rune17_in b off m c p x _ hxl hp hrd1.2.1 (by omega) hc
      have HS : Hid (∀ w, RdIn w (some ⟨b, off, none⟩) m c x → Calls Try.prog 18 #[.slice (some ⟨b, off, none⟩) m c, .int .i64 p] w fun e w' => e = ansR x p ∧ w' = w) := fun w hr => rune18_in _ m c p x w hr.1 hp (by omega)
      clear hc
      cases hr : runeL (x.drop p) with
      | none =>
        have HA : Hid (ansR x p = _) := ansR_none hr
        clear hr
        go_wp2_with fail
        refine (HI.out _ rfl).mono ?_
        rintro e u2 ⟨he, hb2⟩
        rw [HA.out] at he
        subst he
        go_wp2_with fail
        refine (HS.out _ (hrd1.below hb2)).mono ?_
        rintro e u3 ⟨he, rfl⟩
        rw [HA.out] at he
        subst he
        have hb12 := below_next hb1 hb2
        go_wp2_with fail
        refine (draw19 _ _ _ l0 _ (w0.below hb12) (by omega)).mono ?_
        rintro e u4 ⟨s, hs, rfl, hb4⟩
        go_wp2_with fail
        refine (count20 s _ (by omega)).mono ?_
        rintro e u5 ⟨rfl, hb5⟩
        have q1 := countI_le s.data.toList
        have q2 := countI_ge s.data.toList
        have e1 : s.data.toList.length = s.size := rfl
        rw [e1] at q1
        have HC : Hid (∀ w, Calls Try.prog 21 #[.string s] w fun e w' => e = .returned (.int .i64 (countI s.data.toList)) ∧ Below w.heap.size w w') := fun w => count21 s w (by omega)
        have HO : Hid (∀ w, Calls Try.prog 22 #[.string s] w fun e w' => e = .returned (.bool (okT s.data.toList)) ∧ Below w.heap.size w w') := fun w => ok22 s w (by omega)
        clear e1
        generalize countI s.data.toList = q at *
        generalize okT s.data.toList = t at *
        have q3 : ¬ (s.size : Int) < q := by omega
        go_wp2_with fail
        refine (HC.out _).mono ?_
        rintro e u6 ⟨rfl, hb6⟩
        go_wp2_with fail
        refine (HO.out _).mono ?_
        rintro e u7 ⟨rfl, hb7⟩
        go_wp2
        go_ret
        exact ⟨rfl, below_next hb12 (below_next hb4 (below_next hb5 (below_next hb6 hb7)))⟩
      | some rk =>
        obtain ⟨r, k⟩ := rk
        have hw := runeL_width hr
        rw [List.length_drop, hxl] at hw
        have HA : Hid (ansR x p = _) := ansR_some hr
        have HT : Hid (okT ((x.drop p).take k) = ((r : Int) != 0)) := okT_rune hr
        obtain ⟨ax, cx, hsl, hrx⟩ := slice_cut hrd1 p k (by omega)
        clear hr
        go_wp2_with fail
        refine (HI.out _ rfl).mono ?_
        rintro e u2 ⟨he, hb2⟩
        rw [HA.out] at he
        subst he
        go_wp2_with fail
        refine (HS.out _ (hrd1.below hb2)).mono ?_
        rintro e u3 ⟨he, rfl⟩
        rw [HA.out] at he
        subst he
        have hb12 := below_next hb1 hb2
        go_wp2_with fail
        refine (draw19 _ _ _ l0 _ (w0.below hb12) (by omega)).mono ?_
        rintro e u4 ⟨s, hs, rfl, hb4⟩
        go_wp2_with fail
        refine (count20 s _ (by omega)).mono ?_
        rintro e u5 ⟨rfl, hb5⟩
        have q1 := countI_le s.data.toList
        have q2 := countI_ge s.data.toList
        have e1 : s.data.toList.length = s.size := rfl
        rw [e1] at q1
        have HC : Hid (∀ w, Calls Try.prog 21 #[.string s] w fun e w' => e = .returned (.int .i64 (countI s.data.toList)) ∧ Below w.heap.size w w') := fun w => count21 s w (by omega)
        have HO : Hid (∀ w, Calls Try.prog 22 #[.string s] w fun e w' => e = .returned (.bool (okT s.data.toList)) ∧ Below w.heap.size w w') := fun w => ok22 s w (by omega)
        clear e1
        generalize countI s.data.toList = q at *
        generalize okT s.data.toList = t at *
        have q3 : ¬ (s.size : Int) < q := by omega
        go_wp2_with fail
        refine (HC.out _).mono ?_
        rintro e u6 ⟨rfl, hb6⟩
        go_wp2_with fail
        refine (HO.out _).mono ?_
        rintro e u7 ⟨rfl, hb7⟩
        have hz := below_next hb2 (below_next hb4 (below_next hb5 (below_next hb6 hb7)))
        have hcv : (convert 22 9 (.slice ax k cx)).run Try.prog u7 = .ok (.string (strOf ((x.drop p).take k))) u7 := conv_rd (hrx.below hz)
        have g1 : (p : Int) < (p : Int) + k := by omega
        have g2 : (p : Int) + k ≤ (p : Int) + 4 := by omega
        have g3 : (p : Int) + k ≤ m := by omega
        have hsx : (strOf ((x.drop p).take k)).size < 9223372036854775807 := by show ((x.drop p).take k).toArray.size < _; simp; omega
        have HOK : Hid (∀ w, Calls Try.prog 22 #[.string (strOf ((x.drop p).take k))] w fun e w' => e = .returned (.bool ((r : Int) != 0)) ∧ Below w.heap.size w w') := fun w => by
          have := ok22 (strOf ((x.drop p).take k)) w hsx
          rw [strOf_data, HT.out] at this
          exact this
        clear hsx
        generalize strOf ((x.drop p).take k) = sx at *
        go_wp2_with fail
        refine (HOK.out _).mono ?_
        rintro e u8 ⟨rfl, hb8⟩
        go_wp2
        go_ret
        exact ⟨by simp, below_next hb1 (below_next hz hb8)⟩

namespace fnRunes
theorem own : ownKnob Try.prog.godebug = none := by kernel_rfl
theorem laidOut : laidOutB Try.prog = true := by kernel_rfl
set_option maxRecDepth 100000 in
theorem lifted (os : Os) (started : os.Started) (H : Type) (enc : TypeId × Value → H) :
    ReturnsInHanded {} Try.checked os 3 .any (Rows.fnRunesSpec.pre6 enc Try.prog Try.f3 Rows.fnRunesRow.domain false) (Rows.fnRunesSpec.post enc Try.prog Try.f3 false true false false) := by
  refine returnsInHanded_of_change (C := Try.checked) own started (by kernel_rfl) Try.func3
    (ChangeSpec.witness6 (enc := enc) (C := Try.checked) false ⟨#[], #[.slice none 0 0], []⟩ 8 (by kernel_rfl) (by kernel_rfl) (by kernel_rfl) (by kernel_rfl)) ?_
  intro W base args ds gs before hval0 hW hcnd _
  have hval : ∀ (j : Nat) t v, Try.f3.params[j]? = some t → args[j]? = some v → Value.okWide Try.prog W .any base t v := hval0
  have hW' := hW
  obtain ⟨p, q, hA0, hV, rfl, hfz, hnd⟩ := hW
  have hA : DataW.TrodAll enc Try.prog W 0 (fun _ => true) true Try.f3.params.toList args.toList ds p := hA0
  rw [Try.params3] at hA hval
  obtain ⟨v0, vs0, d0, ds0, p0, q0, hargs, rfl, rfl, h0, r0⟩ := trodAll_cons hA
  obtain ⟨rfl, rfl, rfl⟩ := trodAll_nil r0
  obtain rfl : args = #[v0] := by cases args; simp_all
  obtain ⟨rfl, rfl⟩ := trodVars_none hV
  obtain ⟨a0, len0, cap0, rfl⟩ := okWide_slice Try.underlying22 (hval 0 22 v0 rfl rfl)
  have k0 := h0
  have lt0 : ∀ x ∈ p0, x.block < W.heap.size := by obtain ⟨m, hm⟩ := k0; exact DataW.trod_lt m _ _ _ hm
  obtain ⟨z0, w0⟩ : ∃ l, RdIn W a0 len0 cap0 l := by
    obtain ⟨fuel, hf⟩ := h0
    rcases open_ints Try.underlying22 Try.underlying5 (by kernel_rfl) hf with ⟨hcs, _⟩ | ⟨x, l, c, zs, hcs, _, hl, hm, hz, _, hcell, hwz⟩
    · simp [Value.cells] at hcs
      obtain ⟨rfl, rfl, rfl⟩ := hcs
      exact ⟨[], RdIn.nil _⟩
    · simp [Value.cells] at hcs
      obtain ⟨rfl, rfl, rfl⟩ := hcs
      exact RdIn.of_ints hl hm (by simpa using hz) hcell hwz
  clear hA0 hval0
  refine (fnRunes_walk a0 len0 cap0 z0 W w0).mono fun e W' ⟨he, bel⟩ => ?_
  subst he
  exact ⟨_, rfl, _, _, _, [], _, [], hW', trodAll_mk1 (shut_bool Try.underlying4 _), (trodAll_cons_mk (Below.trod laidOut (by kernel_rfl) (of_decide_eq_true (by kernel_rfl)) k0 bel lt0) trodAll_mk0), rfl, bel.frame _, fun h => by cases h⟩

theorem over : Rows.fnRunesRow.holds Try.pinned (OpenSpec.ofChange Rows.fnRunesSpec) :=
  OpenClaim.holds_of_wide 3 Try.f3 rfl rfl rfl rfl rfl rfl rfl ⟨rfl, rfl, rfl, rfl, rfl⟩ rfl rfl rfl rfl rfl (by kernel_rfl) Try.func3 (by kernel_rfl)
    (of_decide_eq_true (by kernel_rfl)) (by unfold Func.isWrapper; first | (rw [if_pos (by decide +kernel)]; kernel_rfl) | (rw [if_neg (by decide +kernel)]; exact ⟨rfl, rfl⟩))
    (fun os started H enc _ => lifted os started H enc)
end fnRunes

theorem fnRunes_holds : Rows.FnRunesSaid := fnRunes.over
end Go.Proofs.Ytbleangknnjlcaa
