/- FnExactWithId: whatever it is handed, the law function laws.FnExactWithId returns true, and its arguments read afterwards as before. No condition. -/
import Derived.Test.YtfpclkkkenekpaaGreatRows
import Derived.Test.YtfpclkkkenekpaaGreatWid
import Derived.Test.YtfpclkkkenekpaaGreatMark
import Derived.WalkKit
import Derived.ProofKit
import Derived.OpenShut
import Derived.ShutString
import Derived.ChangeOld
import Derived.Below
import Derived.Deep.Strs
namespace Go.Proofs.YtfpclkkkenekpaaGreat
open Go.ChangeShapes Go.WideShapes Go.ChangeAt Go.RowKit
open Go.ChangeMaps (open_string shut_string)
set_option linter.unusedVariables false
set_option linter.unusedSimpArgs false

theorem wid_nil (n id : Int) : (widR n id).bod = ⟨none, 0, 0⟩ ∧ (widR n id).wb = ⟨none, 0, 0⟩ ∧ (widR n id).pa = ⟨none, 0, 0⟩ ∧ (widR n id).wan = ⟨none, 0, 0⟩ ∧ (widR n id).nam = ⟨none, 0, 0⟩ ∧ (widR n id).cds = ⟨none, 0, 0⟩ := by
  unfold widR
  split <;> exact ⟨rfl, rfl, rfl, rfl, rfl, rfl⟩
theorem nil_own {r : Pk} (h : r.bod = ⟨none, 0, 0⟩ ∧ r.wb = ⟨none, 0, 0⟩ ∧ r.pa = ⟨none, 0, 0⟩ ∧ r.wan = ⟨none, 0, 0⟩ ∧ r.nam = ⟨none, 0, 0⟩ ∧ r.cds = ⟨none, 0, 0⟩) (u : World) (B : Nat) : POwn u B r d0 := by
  obtain ⟨h1, h2, h3, h4, h5, h6⟩ := h
  refine ⟨?_, ?_, ?_, ?_, ?_, ?_, ?_⟩
  · rw [h1]; exact ⟨rfl, World.ownsRow_nil _ _ _ _⟩
  · rw [h2]; exact ⟨rfl, World.ownsRow_nil _ _ _ _⟩
  · rw [h3]; exact ⟨rfl, World.ownsRow_nil _ _ _ _⟩
  · rw [h4]; exact ⟨rfl, World.ownsRow_nil _ _ _ _⟩
  · rw [h5]; exact ⟨rfl, World.ownsRow_nil _ _ _ _⟩
  · rw [h6]; exact ⟨rfl, World.ownsRow_nil _ _ _ _⟩
  · rw [h1, h2, h3, h4, h5, h6]
    simp [Dis]
theorem nil_re {r : Pk} (h : r.bod = ⟨none, 0, 0⟩ ∧ r.wb = ⟨none, 0, 0⟩ ∧ r.pa = ⟨none, 0, 0⟩ ∧ r.wan = ⟨none, 0, 0⟩ ∧ r.nam = ⟨none, 0, 0⟩ ∧ r.cds = ⟨none, 0, 0⟩) : r.re ⟨(none, 0), (none, 0), (none, 0), (none, 0), (none, 0), (none, 0)⟩ = r := by
  obtain ⟨h1, h2, h3, h4, h5, h6⟩ := h
  obtain ⟨_, _, _, _, _, _, _, _, _, _, _, _, _, _, _, _, _, _, _, _, _, _, _, _, _⟩ := r
  simp only at h1 h2 h3 h4 h5 h6
  subst h1 h2 h3 h4 h5 h6
  rfl
theorem nil_cnt {r : Pk} (h : r.bod = ⟨none, 0, 0⟩ ∧ r.wb = ⟨none, 0, 0⟩ ∧ r.pa = ⟨none, 0, 0⟩ ∧ r.wan = ⟨none, 0, 0⟩ ∧ r.nam = ⟨none, 0, 0⟩ ∧ r.cds = ⟨none, 0, 0⟩) : r.cnt = 0 := by
  obtain ⟨h1, h2, h3, h4, h5, h6⟩ := h
  unfold Pk.cnt
  rw [h1, h2, h3, h4, h5, h6]
  rfl
theorem nil_has {r : Pk} (h : r.bod = ⟨none, 0, 0⟩ ∧ r.wb = ⟨none, 0, 0⟩ ∧ r.pa = ⟨none, 0, 0⟩ ∧ r.wan = ⟨none, 0, 0⟩ ∧ r.nam = ⟨none, 0, 0⟩ ∧ r.cds = ⟨none, 0, 0⟩) (k : Nat) : ¬ r.has k := by
  obtain ⟨h1, h2, h3, h4, h5, h6⟩ := h
  rintro ⟨a, ha, _⟩
  rw [h1, h2, h3, h4, h5, h6] at ha
  simp at ha
theorem nil_len {r : Pk} (h : r.bod = ⟨none, 0, 0⟩ ∧ r.wb = ⟨none, 0, 0⟩ ∧ r.pa = ⟨none, 0, 0⟩ ∧ r.wan = ⟨none, 0, 0⟩ ∧ r.nam = ⟨none, 0, 0⟩ ∧ r.cds = ⟨none, 0, 0⟩) : Plen r 1099511627776 := by
  obtain ⟨h1, h2, h3, h4, h5, h6⟩ := h
  unfold Plen
  rw [h1, h2, h3, h4, h5, h6]
  decide
/-- laws.eqPacket of two that are the same and have no lists. -/
theorem nil_eq {r : Pk} (h : r.bod = ⟨none, 0, 0⟩ ∧ r.wb = ⟨none, 0, 0⟩ ∧ r.pa = ⟨none, 0, 0⟩ ∧ r.wan = ⟨none, 0, 0⟩ ∧ r.nam = ⟨none, 0, 0⟩ ∧ r.cds = ⟨none, 0, 0⟩) (w : World) :
    Calls Tryz.prog 11 #[.agg r.cells, .agg r.cells] w fun e w' => e = .returned (.bool true) ∧ Below w.heap.size w w' := by
  have := eq_leqPacket r ⟨(none, 0), (none, 0), (none, 0), (none, 0), (none, 0), (none, 0)⟩ d0 w (nil_own h w 0).rd (by rw [nil_re h]; exact (nil_own h w 0).rd) (nil_len h)
  rwa [nil_re h] at this
theorem nil_mark {r : Pk} (h : r.bod = ⟨none, 0, 0⟩ ∧ r.wb = ⟨none, 0, 0⟩ ∧ r.pa = ⟨none, 0, 0⟩ ∧ r.wan = ⟨none, 0, 0⟩ ∧ r.nam = ⟨none, 0, 0⟩ ∧ r.cds = ⟨none, 0, 0⟩) (w : World) :
    Calls Tryz.prog 12 #[.agg r.cells, .int .i64 1] w fun e w' => e = .returned (.int .i64 1) ∧ Below w.heap.size w w' := by
  refine (mark_lmarkPacket 0 r d0 1 w (nil_own h w 0) (by decide) (by rw [nil_cnt h]; decide)).mono ?_
  rintro e w' ⟨he, _, ht⟩
  refine ⟨he.trans (by rw [nil_cnt h]; rfl), ht.below (Nat.le_refl _) (fun k hk => absurd hk (nil_has h k))⟩
theorem nil_held {r : Pk} (h : r.bod = ⟨none, 0, 0⟩ ∧ r.wb = ⟨none, 0, 0⟩ ∧ r.pa = ⟨none, 0, 0⟩ ∧ r.wan = ⟨none, 0, 0⟩ ∧ r.nam = ⟨none, 0, 0⟩ ∧ r.cds = ⟨none, 0, 0⟩) (w : World) :
    Calls Tryz.prog 17 #[.agg r.cells, .int .i64 1] w fun e w' => e = .returned (.int .i64 1) ∧ Below w.heap.size w w' := by
  have hm : r.mrk 1 = d0 := by
    obtain ⟨h1, h2, h3, h4, h5, h6⟩ := h
    unfold Pk.mrk
    rw [h1, h2, h3, h4, h5, h6]
    rfl
  refine (held_lheldPacket r 1 w (by rw [hm]; exact (nil_own h w 0).rd) (by decide) (by rw [nil_cnt h]; decide)).mono ?_
  rintro e w' ⟨he, hb⟩
  exact ⟨he.trans (by rw [nil_cnt h]; rfl), hb⟩
set_option maxRecDepth 100000 in
set_option maxHeartbeats 4000000 in
theorem fnExactWithId_walk (n id : Int) (w : World) (h0 : (Lit.int .i64 n).wf = true) (h1 : (Lit.int .i64 id).wf = true) :
    Calls Tryz.prog 4 #[.int .i64 n, .int .i64 id] w fun e w' => e = .returned (.bool true) ∧ Below w.heap.size w w' := by
  clear h0 h1
  have cs := fun u => wid_sWithId n id u
  have ci := fun u => wid_iWithId n id u
  have hr := wid_nil n id
  generalize widR n id = r at cs ci hr
  have CS : Hid (∀ u : World, Calls Tryz.prog 15 #[.int .i64 n, .int .i64 id] u fun e u' => e = .returned (.agg r.cells) ∧ Below u.heap.size u u') := cs
  have CI : Hid (∀ u : World, Calls Tryz.prog 16 #[.int .i64 n, .int .i64 id] u fun e u' => e = .returned (.agg r.cells) ∧ Below u.heap.size u u') := ci
  have HR : Hid (r.bod = ⟨none, 0, 0⟩ ∧ r.wb = ⟨none, 0, 0⟩ ∧ r.pa = ⟨none, 0, 0⟩ ∧ r.wan = ⟨none, 0, 0⟩ ∧ r.nam = ⟨none, 0, 0⟩ ∧ r.cds = ⟨none, 0, 0⟩) := hr
  clear cs ci hr
  go_enter Tryz.func4, Tryz.ntmps4
  go_wp2_with fail
  refine (CS.out _).mono ?_
  rintro e y1 ⟨rfl, hb⟩
  have A : Blk (y1.alloc (.cells r.cells 32)) y1.heap.size r := heap_alloc_new _ _
  replace hb := bel hb (bel_new y1 (.cells r.cells 32))
  go_wp2_with (first | refine var_pk (p := r) rfl rfl ?_ | fail)
  refine (CI.out _).mono ?_
  rintro e y2 ⟨rfl, b2⟩
  replace hb := bel hb b2
  replace A := A.next b2
  clear b2
  have D : Blk (y2.alloc (.cells r.cells 32)) y2.heap.size r := heap_alloc_new _ _
  have b3 := bel_new y2 (.cells r.cells 32)
  replace hb := bel hb b3
  replace A := A.next b3
  clear b3
  go_wp2_with (first | refine var_pk (p := r) rfl rfl ?_ | refine load_pk D rfl _ rfl rfl ?_ | refine load_pk A rfl _ rfl rfl ?_ | fail)
  refine (nil_eq HR.out _).mono ?_
  rintro e y4 ⟨rfl, b4⟩
  replace hb := bel hb b4
  replace A := A.next b4
  replace D := D.next b4
  clear b4
  go_wp2_with (first | refine load_pk D rfl _ rfl rfl ?_ | fail)
  refine (nil_mark HR.out _).mono ?_
  rintro e y5 ⟨rfl, b5⟩
  replace hb := bel hb b5
  replace A := A.next b5
  replace D := D.next b5
  clear b5
  go_wp2_with (first | refine load_pk D rfl _ rfl rfl ?_ | fail)
  refine (nil_held HR.out _).mono ?_
  rintro e y6 ⟨rfl, b6⟩
  replace hb := bel hb b6
  replace A := A.next b6
  replace D := D.next b6
  clear b6
  go_wp2_with fail
  refine (CI.out _).mono ?_
  rintro e y7 ⟨rfl, b7⟩
  replace hb := bel hb b7
  replace A := A.next b7
  replace D := D.next b7
  clear b7
  have E : Blk (y7.alloc (.cells r.cells 32)) y7.heap.size r := heap_alloc_new _ _
  have b8 := bel_new y7 (.cells r.cells 32)
  replace hb := bel hb b8
  replace A := A.next b8
  replace D := D.next b8
  clear b8
  go_wp2_with (first | refine var_pk (p := r) rfl rfl ?_ | refine load_pk E rfl _ rfl rfl ?_ | refine load_pk A rfl _ rfl rfl ?_ | fail)
  refine (nil_eq HR.out _).mono ?_
  rintro e y9 ⟨rfl, b9⟩
  replace hb := bel hb b9
  replace D := D.next b9
  clear b9
  go_wp2_with (first | refine load_pk D rfl _ rfl rfl ?_ | fail)
  refine (nil_held HR.out _).mono ?_
  rintro e y10 ⟨rfl, b10⟩
  replace hb := bel hb b10
  go_wp2
  go_ret
  exact ⟨rfl, hb⟩

namespace fnExactWithId
theorem own : ownKnob Tryz.prog.godebug = none := by kernel_rfl
theorem laidOut : laidOutB Tryz.prog = true := by kernel_rfl
set_option maxRecDepth 100000 in
theorem lifted (os : Os) (started : os.Started) (H : Type) (enc : TypeId × Value → H) :
    ReturnsInHanded {} Tryz.checked os 4 .any (Rows.fnExactWithIdSpec.pre6 enc Tryz.prog Tryz.f4 Rows.fnExactWithIdRow.domain false) (Rows.fnExactWithIdSpec.post enc Tryz.prog Tryz.f4 false true false false) := by
  refine returnsInHanded_of_change (C := Tryz.checked) own started (by kernel_rfl) Tryz.func4
    (ChangeSpec.witness6 (enc := enc) (C := Tryz.checked) false ⟨#[], #[.int .i64 0, .int .i64 0], []⟩ 8 (by kernel_rfl) (by kernel_rfl) (by kernel_rfl) (by kernel_rfl)) ?_
  intro W base args ds gs before hval0 hW hcnd _
  have hval : ∀ (j : Nat) t v, Tryz.f4.params[j]? = some t → args[j]? = some v → Value.okWide Tryz.prog W .any base t v := hval0
  have hW' := hW
  obtain ⟨p, q, hA0, hV, rfl, hfz, hnd⟩ := hW
  have hA : DataW.TrodAll enc Tryz.prog W 0 (fun _ => true) true Tryz.f4.params.toList args.toList ds p := hA0
  rw [Tryz.params4] at hA hval
  obtain ⟨v0, vs0, d0, ds0, p0, q0, hargs, rfl, rfl, h0, r0⟩ := trodAll_cons hA
  obtain ⟨v1, vs1, d1, ds1, p1, q1, rfl, rfl, rfl, h1, r1⟩ := trodAll_cons r0
  obtain ⟨rfl, rfl, rfl⟩ := trodAll_nil r1
  obtain rfl : args = #[v0, v1] := by cases args; simp_all
  obtain ⟨rfl, rfl⟩ := trodVars_none hV
  obtain ⟨a0, rfl, rfl, rfl, w0⟩ := open_int Tryz.underlying3 (hval 0 3 v0 rfl rfl) h0
  obtain ⟨a1, rfl, rfl, rfl, w1⟩ := open_int Tryz.underlying3 (hval 1 3 v1 rfl rfl) h1
  clear hA0 hval0
  refine (fnExactWithId_walk a0 a1 W w0 w1).mono fun e W' ⟨he, bel⟩ => ?_
  subst he
  exact ⟨_, rfl, _, _, _, [], _, [], hW', trodAll_mk1 (shut_bool Tryz.underlying4 _), (trodAll_cons_mk (shut_int Tryz.underlying3 w0) (trodAll_cons_mk (shut_int Tryz.underlying3 w1) trodAll_mk0)), rfl, bel.frame _, fun h => by cases h⟩

theorem over : Rows.fnExactWithIdRow.holds Tryz.pinned (OpenSpec.ofChange Rows.fnExactWithIdSpec) :=
  OpenClaim.holds_of_wide 4 Tryz.f4 rfl rfl rfl rfl rfl rfl rfl ⟨rfl, rfl, rfl, rfl, rfl⟩ rfl rfl rfl rfl rfl (by kernel_rfl) Tryz.func4 (by kernel_rfl)
    (of_decide_eq_true (by kernel_rfl)) (by unfold Func.isWrapper; first | (rw [if_pos (by decide +kernel)]; kernel_rfl) | (rw [if_neg (by decide +kernel)]; exact ⟨rfl, rfl⟩))
    (fun os started H enc _ => lifted os started H enc)
end fnExactWithId

theorem fnExactWithId_holds : Rows.FnExactWithIdSaid := fnExactWithId.over
end Go.Proofs.YtfpclkkkenekpaaGreat
