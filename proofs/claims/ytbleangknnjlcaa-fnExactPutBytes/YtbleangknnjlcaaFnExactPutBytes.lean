/- FnExactPutBytes: whatever it is handed, the law function laws.FnExactPutBytes returns true, and its arguments read afterwards as before. No condition. -/
import Derived.Test.YtbleangknnjlcaaRows
import Derived.Test.YtbleangknnjlcaaPuts
import Derived.WalkKit
import Derived.ProofKit
import Derived.OpenShut
import Derived.ShutString
import Derived.ChangeOld
import Derived.Below
namespace Go.Proofs.Ytbleangknnjlcaa
open Go.ChangeShapes Go.WideShapes Go.ChangeAt Go.RowKit
open Go.ChangeMaps (open_string shut_string)
set_option linter.unusedVariables false
set_option linter.unusedSimpArgs false

set_option maxHeartbeats 1000000 in
theorem fnExactPutBytes_walk (a0 : Option Addr) (len0 cap0 : Nat) (l : List UInt8) (a1 : Option Addr) (len1 cap1 : Nat) (x : List UInt8) (w : World) (w0 : RdIn w a0 len0 cap0 l) (w1 : RdIn w a1 len1 cap1 x) :
    Calls Try.prog 13 #[.slice a0 len0 cap0, .slice a1 len1 cap1] w fun e w' => e = .returned (.bool true) ∧ Below w.heap.size w w' := by
  by_cases hbig : 1048576 < len0
  · have hb' : (1048576 : Int) < (len0 : Int) := by omega
    go_enter Try.func13, Try.ntmps13
    go_wp2
    go_ret
    exact ⟨rfl, Below.refl _ _⟩
  have hb' : ¬ (1048576 : Int) < (len0 : Int) := by omega
  by_cases hbig2 : 1048576 < len1
  · have hb2 : (1048576 : Int) < (len1 : Int) := by omega
    go_enter Try.func13, Try.ntmps13
    go_wp2
    go_ret
    exact ⟨rfl, Below.refl _ _⟩
  have hs2 : ¬ (1048576 : Int) < (len1 : Int) := by omega
  obtain ⟨N, hN⟩ : ∃ N, (putB l x).length = N := ⟨_, rfl⟩
  have hNle : N ≤ len0 + 62 := by have := putB_le l x; have := w0.1.1; omega
  have HN : Hid ((putB l x).length = N) := hN
  clear hN
  go_enter Try.func13, Try.ntmps13
  go_wp2_with fail
  refine (to38 _ _ _ l _ w0 (by omega)).mono ?_
  rintro e u1 ⟨rfl, ho1, hb1⟩
  go_wp2_with fail
  refine (to38 _ _ _ x _ (w1.below hb1) (by omega)).mono ?_
  rintro e v1 ⟨rfl, hp1, hc1⟩
  have c1 := below_next hb1 hc1
  go_wp2_with fail
  refine (put45N N _ _ _ l _ _ _ x _ HN.out (ho1.below hc1).rd hp1.rd (by omega)).mono ?_
  rintro e u2 ⟨aw, cw, rfl, ho2, hb2⟩
  have d2 := below_next c1 hb2
  go_wp2_with fail
  refine (to38 _ _ _ l _ (w0.below d2) (by omega)).mono ?_
  rintro e u3 ⟨rfl, ho3, hb3⟩
  go_wp2_with fail
  refine (to38 _ _ _ x _ (w1.below (below_next d2 hb3)) (by omega)).mono ?_
  rintro e v3 ⟨rfl, hp3, hc3⟩
  go_wp2_with fail
  refine (put26N N _ _ _ l _ _ _ x _ HN.out (ho3.below hc3).rd hp3.rd (by omega)).mono ?_
  rintro e u4 ⟨ag, cg, rfl, ho4, hb4⟩
  have d4 := below_next hb3 (below_next hc3 hb4)
  go_wp2_with fail
  refine (eq39 _ _ _ _ _ (putB l x) _ ho4.rd (ho2.below d4).rd (by omega)).mono ?_
  rintro e u5 ⟨rfl, hb5⟩
  have d5 := below_next d4 hb5
  go_wp2_with fail
  refine (to38 _ _ _ l _ (w0.below (below_next d2 d5)) (by omega)).mono ?_
  rintro e u6 ⟨rfl, ho6, hb6⟩
  have x6 := below_next hc3 (below_next hb4 (below_next hb5 hb6))
  go_wp2_with fail
  refine (eq39 _ _ _ _ _ l _ (ho3.below x6).rd ho6.rd (by omega)).mono ?_
  rintro e u7 ⟨rfl, hb7⟩
  have d7 := below_next d5 (below_next hb6 hb7)
  go_wp2_with fail
  refine (to38 _ _ _ x _ (w1.below (below_next d2 d7)) (by omega)).mono ?_
  rintro e v7 ⟨rfl, hp7, hc7⟩
  have y7 := below_next hb4 (below_next hb5 (below_next hb6 (below_next hb7 hc7)))
  go_wp2_with fail
  refine (eq39 _ _ _ _ _ x _ (hp3.below y7).rd hp7.rd (by omega)).mono ?_
  rintro e v8 ⟨rfl, hc8⟩
  have d8 := below_next d7 (below_next hc7 hc8)
  have g8 := ho4.below (below_next hb5 (below_next hb6 (below_next hb7 (below_next hc7 hc8))))
  have k8 := ho3.below (below_next hc3 (below_next y7 hc8))
  have j8 := hp3.below (below_next y7 hc8)
  clear ho6 hp7
  go_wp2_with fail
  refine (mark41 _ _ _ _ 1 l _ k8 (by omega) (by omega)).mono ?_
  rintro e u9 ⟨rfl, ho9, hg9⟩
  have g9 := own_keep g8 ho3 hc3.size hg9
  have j9 := own_keep j8 ho3 (Nat.le_refl _) hg9
  have m9 : Below u2.heap.size v8 u9 := mark_below k8 hg9 (Nat.le_refl _) d8.size
  have d9 := d8.trans m9
  go_wp2_with fail
  refine (mark41q _ _ _ _ (1 + len0) _ x _ (by simp) j9 (by omega) (by omega)).mono ?_
  rintro e v9 ⟨rfl, hp9, hh9⟩
  have gg9 := own_keep g9 hp3 (Nat.le_refl _) hh9
  have n9 : Below u2.heap.size u9 v9 := mark_below j9 hh9 hb3.size d9.size
  have dd9 := d9.trans n9
  go_wp2_with fail
  refine (eq39 _ _ _ _ _ (putB l x) _ gg9.rd (ho2.below dd9).rd (by omega)).mono ?_
  rintro e u10 ⟨rfl, hb10⟩
  have d10 := below_next dd9 hb10
  have g10 := gg9.below hb10
  go_wp2_with fail
  refine (mark41 _ _ _ _ 1 (putB l x) _ g10 (by omega) (by omega)).mono ?_
  rintro e u11 ⟨rfl, ho11, hg11⟩
  have m11 : Below u2.heap.size u10 u11 := mark_below g10 hg11 (Nat.le_trans hb3.size hc3.size) d10.size
  have d11 := d10.trans m11
  go_wp2_with fail
  refine (held42 _ _ _ 1 _ ho11.rd (by omega) (by omega)).mono ?_
  rintro e u ⟨rfl, rfl⟩
  go_wp2_with fail
  refine (to38 _ _ _ l _ (w0.below (below_next d2 d11)) (by omega)).mono ?_
  rintro e u12 ⟨rfl, ho12, hb12⟩
  go_wp2_with fail
  refine (to38 _ _ _ x _ (w1.below (below_next (below_next d2 d11) hb12)) (by omega)).mono ?_
  rintro e v12 ⟨rfl, hp12, hc12⟩
  go_wp2_with fail
  refine (put26N N _ _ _ l _ _ _ x _ HN.out (ho12.below hc12).rd hp12.rd (by omega)).mono ?_
  rintro e u13 ⟨ah, ch, rfl, ho13, hb13⟩
  have z13 := below_next hb12 (below_next hc12 hb13)
  have d13 := below_next d11 z13
  go_wp2_with fail
  refine (eq39 _ _ _ _ _ (putB l x) _ ho13.rd (ho2.below d13).rd (by omega)).mono ?_
  rintro e u14 ⟨rfl, hb14⟩
  go_wp2_with fail
  refine (held42 _ _ _ 1 _ (ho11.below (below_next z13 hb14)).rd (by omega) (by omega)).mono ?_
  rintro e u ⟨rfl, rfl⟩
  go_wp2
  go_ret
  exact ⟨rfl, below_next d2 (below_next d13 hb14)⟩

namespace fnExactPutBytes
theorem own : ownKnob Try.prog.godebug = none := by kernel_rfl
theorem laidOut : laidOutB Try.prog = true := by kernel_rfl
set_option maxRecDepth 100000 in
theorem lifted (os : Os) (started : os.Started) (H : Type) (enc : TypeId × Value → H) :
    ReturnsInHanded {} Try.checked os 13 .any (Rows.fnExactPutBytesSpec.pre6 enc Try.prog Try.f13 Rows.fnExactPutBytesRow.domain false) (Rows.fnExactPutBytesSpec.post enc Try.prog Try.f13 false true false false) := by
  refine returnsInHanded_of_change (C := Try.checked) own started (by kernel_rfl) Try.func13
    (ChangeSpec.witness6 (enc := enc) (C := Try.checked) false ⟨#[], #[.slice none 0 0, .slice none 0 0], []⟩ 8 (by kernel_rfl) (by kernel_rfl) (by kernel_rfl) (by kernel_rfl)) ?_
  intro W base args ds gs before hval0 hW hcnd _
  have hval : ∀ (j : Nat) t v, Try.f13.params[j]? = some t → args[j]? = some v → Value.okWide Try.prog W .any base t v := hval0
  have hW' := hW
  obtain ⟨p, q, hA0, hV, rfl, hfz, hnd⟩ := hW
  have hA : DataW.TrodAll enc Try.prog W 0 (fun _ => true) true Try.f13.params.toList args.toList ds p := hA0
  rw [Try.params13] at hA hval
  obtain ⟨v0, vs0, d0, ds0, p0, q0, hargs, rfl, rfl, h0, r0⟩ := trodAll_cons hA
  obtain ⟨v1, vs1, d1, ds1, p1, q1, rfl, rfl, rfl, h1, r1⟩ := trodAll_cons r0
  obtain ⟨rfl, rfl, rfl⟩ := trodAll_nil r1
  obtain rfl : args = #[v0, v1] := by cases args; simp_all
  obtain ⟨rfl, rfl⟩ := trodVars_none hV
  obtain ⟨a0, len0, cap0, rfl⟩ := okWide_slice Try.underlying22 (hval 0 22 v0 rfl rfl)
  have k0 := h0
  have lt0 : ∀ x ∈ p0, x.block < W.heap.size := by obtain ⟨m, hm⟩ := k0; exact DataW.trod_lt m _ _ _ hm
  obtain ⟨z0, w0⟩ : ∃ l, RdIn W a0 len0 cap0 l := by
    obtain ⟨fuel, hf⟩ := h0
    rcases open_ints Try.underlying22 Try.underlying5 (by kernel_rfl) hf with ⟨hcs, _⟩ | ⟨x, l, c, zs, hcs, _, hl, hm, hz, _, hcell, hwz⟩
    · simp [Value.cells] at hcs
      obtain ⟨rfl, rfl, rfl⟩ := hcs
      exact ⟨[], RdIn.nil _⟩
    · simp [Value.cells] at hcs
      obtain ⟨rfl, rfl, rfl⟩ := hcs
      exact RdIn.of_ints hl hm (by simpa using hz) hcell hwz
  obtain ⟨a1, len1, cap1, rfl⟩ := okWide_slice Try.underlying22 (hval 1 22 v1 rfl rfl)
  have k1 := h1
  have lt1 : ∀ x ∈ p1, x.block < W.heap.size := by obtain ⟨m, hm⟩ := k1; exact DataW.trod_lt m _ _ _ hm
  obtain ⟨z1, w1⟩ : ∃ l, RdIn W a1 len1 cap1 l := by
    obtain ⟨fuel, hf⟩ := h1
    rcases open_ints Try.underlying22 Try.underlying5 (by kernel_rfl) hf with ⟨hcs, _⟩ | ⟨x, l, c, zs, hcs, _, hl, hm, hz, _, hcell, hwz⟩
    · simp [Value.cells] at hcs
      obtain ⟨rfl, rfl, rfl⟩ := hcs
      exact ⟨[], RdIn.nil _⟩
    · simp [Value.cells] at hcs
      obtain ⟨rfl, rfl, rfl⟩ := hcs
      exact RdIn.of_ints hl hm (by simpa using hz) hcell hwz
  clear hA0 hval0
  refine (fnExactPutBytes_walk a0 len0 cap0 z0 a1 len1 cap1 z1 W w0 w1).mono fun e W' ⟨he, bel⟩ => ?_
  subst he
  exact ⟨_, rfl, _, _, _, [], _, [], hW', trodAll_mk1 (shut_bool Try.underlying4 _), (trodAll_cons_mk (Below.trod laidOut (by kernel_rfl) (of_decide_eq_true (by kernel_rfl)) k0 bel lt0) (trodAll_cons_mk (Below.trod laidOut (by kernel_rfl) (of_decide_eq_true (by kernel_rfl)) k1 bel lt1) trodAll_mk0)), rfl, bel.frame _, fun h => by cases h⟩

theorem over : Rows.fnExactPutBytesRow.holds Try.pinned (OpenSpec.ofChange Rows.fnExactPutBytesSpec) :=
  OpenClaim.holds_of_wide 13 Try.f13 rfl rfl rfl rfl rfl rfl rfl ⟨rfl, rfl, rfl, rfl, rfl⟩ rfl rfl rfl rfl rfl (by kernel_rfl) Try.func13 (by kernel_rfl)
    (of_decide_eq_true (by kernel_rfl)) (by unfold Func.isWrapper; first | (rw [if_pos (by decide +kernel)]; kernel_rfl) | (rw [if_neg (by decide +kernel)]; exact ⟨rfl, rfl⟩))
    (fun os started H enc _ => lifted os started H enc)
end fnExactPutBytes

theorem fnExactPutBytes_holds : Rows.FnExactPutBytesSaid := fnExactPutBytes.over
end Go.Proofs.Ytbleangknnjlcaa
