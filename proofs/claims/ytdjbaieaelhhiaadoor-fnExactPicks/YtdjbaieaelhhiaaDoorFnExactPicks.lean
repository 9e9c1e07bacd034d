/- FnExactPicks: whatever it is handed, the law function laws.FnExactPicks returns true, and its arguments read afterwards as before. No condition. -/
import Derived.Test.YtdjbaieaelhhiaaDoorRows
import Derived.Test.YtdjbaieaelhhiaaDoorMatI
import Derived.Test.YtdjbaieaelhhiaaDoorTie
import Derived.Test.YtdjbaieaelhhiaaDoorCards
import Derived.LaidMore
import Derived.Lay
import Derived.SevenTiedAt
import Derived.Stop.Joined
import Derived.WalkKit
import Derived.ProofKit
import Derived.OpenShut
import Derived.ShutString
import Derived.ChangeOld
import Derived.Below
import Derived.Deep.Strs
namespace Go.Proofs.YtdjbaieaelhhiaaDoor
open Go.ChangeShapes Go.WideShapes Go.ChangeAt Go.RowKit
open Go.ChangeMaps (open_string shut_string)
set_option linter.unusedVariables false
set_option linter.unusedSimpArgs false

set_option maxRecDepth 100000 in
set_option maxHeartbeats 2000000 in
theorem fnExactPicks_walk (a0 : Option Addr) (n0 c0 : Nat) (l0 : List ByteArray) (a1 : ByteArray) (w : World) (w0 : SRd w a0 n0 c0 l0 ∧ ∀ s ∈ l0, s.size ≤ maxLen) (w1 : a1.size ≤ maxLen) :
    Calls Tryd.prog 8 #[.slice a0 n0 c0, .string a1] w fun e w' => e = .returned (.bool true) ∧ Below w.heap.size w w' := by
  obtain ⟨hr, hs⟩ := w0
  have hS : Hid (∀ s ∈ l0, s.size ≤ maxLen) := hs
  clear hs
  by_cases hbig : 1048576 < a1.size
  · have hb' : (1048576 : Int) < (a1.size : Int) := by omega
    go_enter Tryd.func8, Tryd.ntmps8
    go_wp2
    go_ret
    exact ⟨rfl, Below.refl _ _⟩
  have hb' : ¬ (1048576 : Int) < (a1.size : Int) := by omega
  go_enter Tryd.func8, Tryd.ntmps8
  go_wp2_with fail
  refine (sz_lszStringS a0 n0 c0 l0 _ hr hS.out).mono ?_
  rintro e wz ⟨r, rfl, hw, hcase⟩
  rw [hw]
  rcases hcase with hneg | ⟨hpos, htot⟩
  · go_wp2
    go_ret
    exact ⟨rfl, Below.refl _ _⟩
  · have hpos' : ¬ r < 0 := by omega
    have HF : Hid (l0.length = n0) := hr.1.1
    have HS : Hid (∀ k, k < n0 → (st l0 k).size ≤ 1048576) := fun k hk => by
      have h1 := tot_take l0 k (by rw [HF.out]; exact hk)
      have h2 := tot_le l0 (k + 1)
      omega
    obtain ⟨m, hM⟩ : ∃ m, (picksB (dats l0) a1.data.toList).length = m := ⟨_, rfl⟩
    have hmn : m ≤ n0 := by rw [← hM]; unfold picksB; rw [dats_length, HF.out]; exact picksN_le _ _ _
    have HM : Hid ((picksB (dats l0) a1.data.toList).length = m) := hM
    clear hM
    have hq1 : ¬ (((1 + n0 : Nat) : Int) < 0) := by omega
    have hq2 : ¬ (((1 + m : Nat) : Int) < 0) := by omega
    have hqe : (((1 + m : Nat) : Int) != ((1 + m : Nat) : Int)) = false := by simp
    go_wp2_with fail
    refine (to_ltoStringS a0 n0 c0 l0 w hr (by omega)).mono ?_
    rintro e u1 ⟨rfl, ho1, hb1⟩
    go_wp2_with fail
    refine (pick_sPicks _ n0 n0 m l0 a1 u1 ho1.rd (by omega) HS.out (by omega) HM.out).mono ?_
    rintro e u2 ⟨aw, cw, rfl, ho2, hb2⟩
    have d2 := bel2 hb1 hb2
    go_wp2_with fail
    refine (to_ltoStringS a0 n0 c0 l0 u2 (hr.below d2) (by omega)).mono ?_
    rintro e u3 ⟨rfl, ho3, hb3⟩
    go_wp2_with fail
    refine (pick_iPicks _ n0 n0 m l0 a1 u3 ho3.rd (by omega) HS.out (by omega) HM.out).mono ?_
    rintro e u4 ⟨ag, cg, rfl, ho4, hb4⟩
    have hg4 := ho4
    have hx3lt : u2.heap.size < u3.heap.size := (ho3.block rfl).2
    have hw2lt : ∀ a, aw = some a → a.block < u2.heap.size := fun a e => (ho2.block e).2
    have hw4 := (ho2.below hb3).below hb4
    have hx4 := ho3.below hb4
    have d4 := bel2 d2 (bel2 hb3 hb4)
    clear ho1 ho2 ho3 ho4
    go_wp2_with fail
    refine (eq_leqIntS _ _ m cg cw _ u4 hg4.rd hw4.rd (by omega)).mono ?_
    rintro e u5 ⟨rfl, hb5⟩
    have d5 := bel2 d4 hb5
    go_wp2_with fail
    refine (to_ltoStringS a0 n0 c0 l0 u5 (hr.below d5) (by omega)).mono ?_
    rintro e u6 ⟨rfl, ho6, hb6⟩
    have q6 := bel2 hb5 hb6
    go_wp2_with fail
    refine (eq_leqStringS _ _ n0 n0 n0 l0 u6 (hx4.below q6).rd ho6.rd (by omega)).mono ?_
    rintro e u7 ⟨rfl, hb7⟩
    have q7 := bel2 q6 hb7
    have hx7 := hx4.below q7
    have hg7 := hg4.below q7
    have hw7 := hw4.below q7
    have d7 := bel2 d4 q7
    have hw7lt := hw2lt
    have hB7 : u2.heap.size ≤ u7.heap.size := by have h1 := hb3.size; have h2 := hb4.size; have h3 := q7.size; omega
    clear ho6 hx4 hg4 hw4 hb5 hb6 hb7 q6 q7 d5
    go_wp2_with fail
    refine (mark_lmarkStringSg u2.heap.size _ n0 n0 1 l0 u7 hx7 (by omega) (by omega) (by omega)).mono ?_
    rintro e u8 ⟨rfl, ho8, hg8⟩
    have hxb := (hx7.block rfl).1
    have hg8i := hg7.grown hg8 (fun a e => by have := (hg7.block e).1; intro he; simp [Value.ownBlock] at he; have h3 := hb3.size; have hx3 := hx3lt; omega)
    have hw8i := hw7.grown hg8 (fun a e => by have := hw7lt a e; intro he; simp [Value.ownBlock] at he; omega)
    have m8 : Below u2.heap.size u7 u8 := sbelow_grow (Below.refl _ _) hB7 hx7 hg8
    have d8 : Below w.heap.size w u8 := d7.trans (m8.mono d2.size)
    clear hg7 hw7 hx7 ho8 hg8
    go_wp2_with fail
    refine (eq_leqIntS _ _ m cg cw _ u8 hg8i.rd hw8i.rd (by omega)).mono ?_
    rintro e u9 ⟨rfl, hb9⟩
    have d9 := bel2 d8 hb9
    have hg9 := hg8i.below hb9
    have hw9 := hw8i.below hb9
    clear hg8i hw8i
    go_wp2_with fail
    refine (mark_lmarkIntS u3.heap.size _ m cg 1 _ u9 hg9 (by omega) (by omega)).mono ?_
    rintro e u10 ⟨rfl, ho10, hb10⟩
    have hu23 : u2.heap.size ≤ u3.heap.size := hb3.size
    have hw10 := hw9.rd.lowly hb10 (fun a e => by have := hw2lt a e; omega)
    have d10 : Below w.heap.size w u10 := d9.trans (hb10.mono (by have := d2.size; omega))
    clear hw9 hg9
    go_wp2_with fail
    refine (held_lheldIntS _ m cg 1 u10 ho10.rd (by omega) (by omega)).mono ?_
    rintro e u11 ⟨rfl, hw11⟩
    rw [hw11]
    go_wp2_with fail
    refine (to_ltoStringS a0 n0 c0 l0 u10 (hr.below d10) (by omega)).mono ?_
    rintro e u12 ⟨rfl, ho12, hb12⟩
    go_wp2_with fail
    refine (pick_iPicks _ n0 n0 m l0 a1 u12 ho12.rd (by omega) HS.out (by omega) HM.out).mono ?_
    rintro e u13 ⟨ah, ch, rfl, ho13, hb13⟩
    have q13 := bel2 hb12 hb13
    go_wp2_with fail
    refine (eq_leqIntS _ _ m ch cw _ u13 ho13.rd (hw10.below q13) (by omega)).mono ?_
    rintro e u14 ⟨rfl, hb14⟩
    have q14 := bel2 q13 hb14
    go_wp2_with fail
    refine (held_lheldIntS _ m cg 1 u14 (ho10.below q14).rd (by omega) (by omega)).mono ?_
    rintro e u15 ⟨rfl, hw15⟩
    rw [hw15]
    go_wp2
    go_ret
    exact ⟨rfl, bel2 d10 q14⟩

namespace fnExactPicks
theorem own : ownKnob Tryd.prog.godebug = none := by kernel_rfl
theorem laidOut : laidOutB Tryd.prog = true := by kernel_rfl
set_option maxRecDepth 100000 in
theorem lifted (os : Os) (started : os.Started) (H : Type) (enc : TypeId × Value → H) :
    ReturnsInHanded {} Tryd.checked os 8 .any (fun w args => (Rows.fnExactPicksSpec.pre enc Tryd.prog Tryd.f8 Rows.fnExactPicksRow.domain false w args ∧ laidMetH Tryd.prog Rows.fnExactPicksRow.laid w) ∧ sizedMet enc Tryd.prog Tryd.f8 (OpenSpec.ofChange Rows.fnExactPicksSpec) false w args) (Rows.fnExactPicksSpec.post enc Tryd.prog Tryd.f8 false true false false) := by
  refine returnsInHanded_of_change_and (C := Tryd.checked) (X := fun w _ => laidMetH Tryd.prog Rows.fnExactPicksRow.laid w) (fun _ _ _ hh h => h.of_heap hh) own started (by kernel_rfl) Tryd.func8
    (ChangeSpec.witness_shaped (enc := enc) (C := Tryd.checked) (os := os) (X := fun w _ => laidMetH Tryd.prog Rows.fnExactPicksRow.laid w) false (World.laidAll Tryd.prog os Rows.fnExactPicksRow.laid) #[.slice none 0 0, .string ByteArray.empty] 8 (World.laidAll_os _ _ _)
      (World.shaped_of_ZipB (by kernel_rfl) (by kernel_rfl)) (by kernel_rfl) (by kernel_rfl) (by kernel_rfl)
      (by rw [MakeChecks.laidMetH_plain _ _ _ (by kernel_rfl)]; exact laidMet_laidAll _ (by kernel_rfl) (by kernel_rfl))) ?_
  intro W base args ds gs before hval0 hW hcnd _ hL _
  have hval : ∀ (j : Nat) t v, Tryd.f8.params[j]? = some t → args[j]? = some v → Value.okWide Tryd.prog W .any base t v := hval0
  have hW' := hW
  obtain ⟨p, q, hA0, hV, rfl, hfz, hnd⟩ := hW
  have hA : DataW.TrodAll enc Tryd.prog W 0 (fun _ => true) true Tryd.f8.params.toList args.toList ds p := hA0
  rw [Tryd.params8] at hA hval
  obtain ⟨v0, vs0, d0, ds0, p0, q0, hargs, rfl, rfl, h0, r0⟩ := trodAll_cons hA
  obtain ⟨v1, vs1, d1, ds1, p1, q1, rfl, rfl, rfl, h1, r1⟩ := trodAll_cons r0
  obtain ⟨rfl, rfl, rfl⟩ := trodAll_nil r1
  obtain rfl : args = #[v0, v1] := by cases args; simp_all
  obtain ⟨rfl, rfl⟩ := trodVars_none hV
  obtain ⟨a0, len0, cap0, rfl⟩ := okWide_slice Tryd.underlying28 (hval 0 28 v0 rfl rfl)
  have k0 := h0
  have lt0 : ∀ x ∈ p0, x.block < W.heap.size := by obtain ⟨m, hm⟩ := k0; exact DataW.trod_lt m _ _ _ hm
  obtain ⟨z0, w0⟩ : ∃ l, SRd W a0 len0 cap0 l ∧ ∀ s ∈ l, s.size ≤ maxLen := by
    obtain ⟨fuel, hf⟩ := h0
    rcases Go.Deep.open_strs Tryd.underlying28 Tryd.underlying9 (by kernel_rfl) hf with ⟨hcs, _⟩ | ⟨x, l, c, m, Sx, hcs, _, hl, hm, hmm, _, hcell⟩
    · simp [Value.cells] at hcs
      obtain ⟨rfl, rfl, rfl⟩ := hcs
      exact ⟨[], SRd.nil _, fun s hs => by simp at hs⟩
    · simp [Value.cells] at hcs
      obtain ⟨rfl, rfl, rfl⟩ := hcs
      exact SRd.of_cells hl hm (by rw [hmm]; split <;> omega) hcell
  obtain ⟨a1, rfl, rfl, rfl, w1⟩ := open_string Tryd.underlying9 (hval 1 9 v1 rfl rfl) h1
  clear hA0 hval0
  refine (fnExactPicks_walk a0 len0 cap0 z0 a1 W w0 w1).mono fun e W' ⟨he, bel⟩ => ?_
  subst he
  exact ⟨_, rfl, _, _, _, [], _, [], hW', trodAll_mk1 (shut_bool Tryd.underlying4 _), (trodAll_cons_mk (Below.trod laidOut (by kernel_rfl) (of_decide_eq_true (by kernel_rfl)) k0 bel lt0) (trodAll_cons_mk (shut_string Tryd.underlying9 w1) trodAll_mk0)), rfl, bel.frame _, fun h => by cases h⟩

theorem over : Rows.fnExactPicksRow.holds Tryd.pinned (OpenSpec.ofChange Rows.fnExactPicksSpec) :=
  OpenClaim.holds_of_wide 8 Tryd.f8 rfl rfl rfl rfl rfl rfl rfl ⟨rfl, rfl, rfl, rfl, rfl⟩ rfl rfl rfl rfl rfl (by kernel_rfl) Tryd.func8 (by kernel_rfl)
    (of_decide_eq_true (by kernel_rfl)) (by unfold Func.isWrapper; first | (rw [if_pos (by decide +kernel)]; kernel_rfl) | (rw [if_neg (by decide +kernel)]; exact ⟨rfl, rfl⟩))
    (fun os started H enc _ => lifted os started H enc)
end fnExactPicks

theorem fnExactPicks_holds : Rows.FnExactPicksCardSaid :=
  Claim7.holds_tied_plain_at .later [] [.data, .pinned] true Rows.fnExactPicksCard.stood.harness false fnExactPicks.over (fun _ h => by cases h) (by kernel_rfl) (fun _ h => by cases h) fnExactPicks_row_tie rfl ⟨rfl, rfl⟩ (by kernel_rfl) rfl
    (fun f fn hf hfn => by
      obtain rfl : f = 8 := Option.some.inj ((show Tryd.prog.funcNamed Rows.fnExactPicksRow.func = some 8 by kernel_rfl).symm.trans hf) |>.symm
      obtain rfl : fn = Tryd.f8 := (Option.some.inj (Tryd.func8.symm.trans hfn)).symm
      exact ⟨by kernel_rfl, fun j t ht => by
        rw [Tryd.params8] at ht
        have hm : t ∈ [28, 9] := by simpa using Array.mem_of_getElem? ht
        have hall : ([28, 9].all fun u => !Tryd.prog.wantsStandIn u) = true := by kernel_rfl
        exact (show Tryd.prog.wantsStandIn t = false by simpa using List.all_eq_true.1 hall t hm)⟩)
    (by kernel_rfl)
end Go.Proofs.YtdjbaieaelhhiaaDoor
