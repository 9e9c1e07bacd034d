/- FnLevels: whatever it is handed, the law function laws.FnLevels returns true, and its arguments read afterwards as before. No condition. -/
import Derived.Test.YtbndefmeehcnnaaDoorRows
import Derived.Test.YtbndefmeehcnnaaDoorTopD
import Derived.Test.YtbndefmeehcnnaaDoorTie
import Derived.Test.YtbndefmeehcnnaaDoorCards
import Derived.LaidMore
import Derived.Lay
import Derived.SevenTiedAt
import Derived.Stop.Joined
import Derived.WalkKit
import Derived.ProofKit
import Derived.OpenShut
import Derived.ShutString
import Derived.ChangeOld
import Derived.Below
import Derived.Deep.Strs
namespace Go.Proofs.YtbndefmeehcnnaaDoor
open Go.ChangeShapes Go.WideShapes Go.ChangeAt Go.RowKit
open Go.ChangeMaps (open_string shut_string)
set_option linter.unusedVariables false
set_option linter.unusedSimpArgs false

set_option maxRecDepth 100000 in
set_option maxHeartbeats 2000000 in
theorem fnLevels_walk (a0 : Option Addr) (len0 cap0 : Nat) (l : List UInt8) (w : World) (w0 : RdIn w a0 len0 cap0 l) :
    Calls Tryd.prog 3 #[.slice a0 len0 cap0] w fun e w' => e = .returned (.bool true) ∧ Below w.heap.size w w' := by
  by_cases hbig : 1048576 < len0
  · go_enter Tryd.func3, Tryd.ntmps3
    go_wp2_with fail
    refine (big_lbig _ _ _ true _ (decide_eq_true hbig)).mono ?_
    rintro e u ⟨rfl, rfl⟩
    go_wp2
    go_ret
    exact ⟨rfl, Below.refl _ _⟩
  go_enter Tryd.func3, Tryd.ntmps3
  go_wp2_with fail
  refine (big_lbig _ _ _ false _ (decide_eq_false hbig)).mono ?_
  rintro e u ⟨rfl, hu⟩
  rw [hu]
  go_wp2_with fail
  refine (draw_sDrawLevels _ _ _ l _ w0 (by omega)).mono ?_
  rintro e u1 ⟨s, hs, rfl, hb1⟩
  obtain ⟨n, hN⟩ : ∃ n, (lvl s.data.toList).length = n := ⟨_, rfl⟩
  have hle : n ≤ s.size + 1 := by rw [← hN]; exact lvl_length_le s.data.toList
  have hpos : 1 ≤ n := by rw [← hN]; exact lvl_pos _
  have HN : Hid ((lvl s.data.toList).length = n) := hN
  have HT : Hid (tot (lvs s.data.toList) ≤ s.size) := tot_lvs s.data.toList
  have HG : Hid ((⟨(glue (dats (lvs s.data.toList))).toArray⟩ : ByteArray) = s) := glue_lvs s
  have HS : Hid (∀ k, k < n → (st (lvs s.data.toList) k).size ≤ 1048576) := fun k hk => by
    have := lvs_small s.data.toList k (by rw [lvs_length, hN]; exact hk)
    have e1 : s.size = s.data.toList.length := rfl
    omega
  have HX : Hid (∀ k, k < n → (lvl (st (lvs s.data.toList) k).data.toList).length = 1) := fun k hk => by
    have hk' : k < (lvs s.data.toList).length := by rw [lvs_length, hN]; exact hk
    have hm : (st (lvs s.data.toList) k).data.toList ∈ lvl s.data.toList := by
      rw [← dats_lvs s.data.toList]
      exact List.mem_map_of_mem (st_mem hk')
    rw [lvl_level hm]
    rfl
  have H6 : Hid (filOk s.data.toList = true → n ≤ 6) := fun h => by rw [← hN]; exact filOk_six h
  have cT := fun w => top_iTopicOk s w (by omega)
  have cF := fun w => fil_iFilterOk s w (by omega)
  have cW := fun w => wild_iWild s w (by omega)
  have sT := fun w => top_sTopicOk s w (by omega)
  have sF := fun w => fil_sFilterOk s w (by omega)
  have sW := fun w => wild_sWild s w (by omega)
  have hT1 : topOk s.data.toList = true → filOk s.data.toList = true ∧ wildOk s.data.toList = false := fun h => ⟨topOk_fil h, topOk_plain h⟩
  have hT2 : filOk s.data.toList = true → wildOk s.data.toList = !topOk s.data.toList := fun h => filOk_wild h
  have hT3 : filOk s.data.toList = false → wildOk s.data.toList = false := fun h => by unfold wildOk; rw [h]; rfl
  have HT1 : Hid (topOk s.data.toList = true → filOk s.data.toList = true ∧ wildOk s.data.toList = false) := hT1
  have HT2 : Hid (filOk s.data.toList = true → wildOk s.data.toList = !topOk s.data.toList) := hT2
  have HT3 : Hid (filOk s.data.toList = false → wildOk s.data.toList = false) := hT3
  clear hN hT1 hT2 hT3
  generalize topOk s.data.toList = t at *
  generalize filOk s.data.toList = f at *
  generalize wildOk s.data.toList = v at *
  go_wp2_with fail
  refine (lev_iLevels s n u1 (by omega) HN.out).mono ?_
  rintro e u2 ⟨rfl, ho2, hb2⟩
  go_wp2_with fail
  refine (join_iJoin _ n n _ u2 ho2.rd (by have := HT.out; omega) (fun a h => (ho2.block h).2)).mono ?_
  rintro e u3 ⟨he, hb3⟩
  rw [HG.out] at he
  subst he
  have ho3 := ho2.below hb3
  have hne := str_ne_self s
  have hn1 : ¬ (n : Int) < 1 := by omega
  have hB3 := bel2 hb1 (bel2 hb2 hb3)
  clear hb1 hb2 hb3 ho2
  go_wp2
  go_loopw [5] (fun i wr => ∃ k : Nat, i = .int .i64 k ∧ k ≤ n ∧ Below u3.heap.size u3 wr) (fun i _ => n - (intOf i).toNat)
  case atStart => exact ⟨0, rfl, Nat.zero_le _, Below.refl _ _⟩
  case round =>
    obtain ⟨k, rfl, hk, hb⟩ := hrel
    by_cases hlt : k < n
    · have hlt' : (k : Int) < n := by omega
      have hz := (ho3.below hb).cell k hlt
      go_wp2_with fail
      refine (lev_iLevels _ 1 wr (HS.out k hlt) (HX.out k hlt)).mono ?_
      rintro e w2 ⟨rfl, _, hb4⟩
      go_wp2
      go_roundw
      case rel => exact ⟨k + 1, by go_num, by omega, bel2 hb hb4⟩
      case measure => simp [intOf] <;> omega
    · have hlt' : ¬ (k : Int) < n := by omega
      have hB := bel2 hB3 hb
      clear hb hB3 ho3
      go_wp2_with fail
      refine (cT wr).mono ?_
      rintro e v1 ⟨rfl, hb1⟩
      go_wp2_with fail
      refine (cF v1).mono ?_
      rintro e v2 ⟨rfl, hb2⟩
      have hB2 := bel2 hB (bel2 hb1 hb2)
      clear hB hb1 hb2
      go_wp2_with fail
      refine (sT v2).mono ?_
      rintro e v3 ⟨rfl, hb3⟩
      have htt : (t == t) = true := by simp
      have hff : (f == f) = true := by simp
      have hvv : (v == v) = true := by simp
      go_wp2_with fail
      refine (sF v3).mono ?_
      rintro e v4 ⟨rfl, hb4⟩
      have hB4 := bel2 hB2 (bel2 hb3 hb4)
      clear hB2 hb3 hb4
      cases t with
      | true =>
        obtain ⟨rfl, rfl⟩ := HT1.out rfl
        have h6 : (n : Int) ≤ 6 := by have := H6.out rfl; omega
        go_wp2_with fail
        refine (cW v4).mono ?_
        rintro e v5 ⟨rfl, hb5⟩
        go_wp2_with fail
        refine (cW v5).mono ?_
        rintro e v6 ⟨rfl, hb6⟩
        go_wp2_with fail
        refine (sW v6).mono ?_
        rintro e v7 ⟨rfl, hb7⟩
        go_wp2_with fail
        refine (cW v7).mono ?_
        rintro e v8 ⟨rfl, hb8⟩
        go_wp2
        go_ret
        exact ⟨rfl, bel2 hB4 (bel2 hb5 (bel2 hb6 (bel2 hb7 hb8)))⟩
      | false =>
        cases f with
        | true =>
          have hv := HT2.out rfl
          simp at hv
          subst hv
          have h6 : (n : Int) ≤ 6 := by have := H6.out rfl; omega
          go_wp2_with fail
          refine (cW v4).mono ?_
          rintro e v6 ⟨rfl, hb6⟩
          go_wp2_with fail
          refine (sW v6).mono ?_
          rintro e v7 ⟨rfl, hb7⟩
          go_wp2_with fail
          refine (cW v7).mono ?_
          rintro e v8 ⟨rfl, hb8⟩
          go_wp2
          go_ret
          exact ⟨rfl, bel2 hB4 (bel2 hb6 (bel2 hb7 hb8))⟩
        | false =>
          have hv := HT3.out rfl
          subst hv
          go_wp2_with fail
          refine (cW v4).mono ?_
          rintro e v6 ⟨rfl, hb6⟩
          go_wp2_with fail
          refine (sW v6).mono ?_
          rintro e v7 ⟨rfl, hb7⟩
          go_wp2
          go_ret
          exact ⟨rfl, bel2 hB4 (bel2 hb6 hb7)⟩

namespace fnLevels
theorem own : ownKnob Tryd.prog.godebug = none := by kernel_rfl
theorem laidOut : laidOutB Tryd.prog = true := by kernel_rfl
set_option maxRecDepth 100000 in
theorem lifted (os : Os) (started : os.Started) (H : Type) (enc : TypeId × Value → H) :
    ReturnsInHanded {} Tryd.checked os 3 .any (fun w args => (Rows.fnLevelsSpec.pre enc Tryd.prog Tryd.f3 Rows.fnLevelsRow.domain false w args ∧ laidMetH Tryd.prog Rows.fnLevelsRow.laid w) ∧ sizedMet enc Tryd.prog Tryd.f3 (OpenSpec.ofChange Rows.fnLevelsSpec) false w args) (Rows.fnLevelsSpec.post enc Tryd.prog Tryd.f3 false true false false) := by
  refine returnsInHanded_of_change_and (C := Tryd.checked) (X := fun w _ => laidMetH Tryd.prog Rows.fnLevelsRow.laid w) (fun _ _ _ hh h => h.of_heap hh) own started (by kernel_rfl) Tryd.func3
    (ChangeSpec.witness_shaped (enc := enc) (C := Tryd.checked) (os := os) (X := fun w _ => laidMetH Tryd.prog Rows.fnLevelsRow.laid w) false (World.laidAll Tryd.prog os Rows.fnLevelsRow.laid) #[.slice none 0 0] 8 (World.laidAll_os _ _ _)
      (World.shaped_of_ZipB (by kernel_rfl) (by kernel_rfl)) (by kernel_rfl) (by kernel_rfl) (by kernel_rfl)
      (by rw [MakeChecks.laidMetH_plain _ _ _ (by kernel_rfl)]; exact laidMet_laidAll _ (by kernel_rfl) (by kernel_rfl))) ?_
  intro W base args ds gs before hval0 hW hcnd _ hL _
  have hval : ∀ (j : Nat) t v, Tryd.f3.params[j]? = some t → args[j]? = some v → Value.okWide Tryd.prog W .any base t v := hval0
  have hW' := hW
  obtain ⟨p, q, hA0, hV, rfl, hfz, hnd⟩ := hW
  have hA : DataW.TrodAll enc Tryd.prog W 0 (fun _ => true) true Tryd.f3.params.toList args.toList ds p := hA0
  rw [Tryd.params3] at hA hval
  obtain ⟨v0, vs0, d0, ds0, p0, q0, hargs, rfl, rfl, h0, r0⟩ := trodAll_cons hA
  obtain ⟨rfl, rfl, rfl⟩ := trodAll_nil r0
  obtain rfl : args = #[v0] := by cases args; simp_all
  obtain ⟨rfl, rfl⟩ := trodVars_none hV
  obtain ⟨a0, len0, cap0, rfl⟩ := okWide_slice Tryd.underlying22 (hval 0 22 v0 rfl rfl)
  have k0 := h0
  have lt0 : ∀ x ∈ p0, x.block < W.heap.size := by obtain ⟨m, hm⟩ := k0; exact DataW.trod_lt m _ _ _ hm
  obtain ⟨z0, w0⟩ : ∃ l, RdIn W a0 len0 cap0 l := by
    obtain ⟨fuel, hf⟩ := h0
    rcases open_ints Tryd.underlying22 Tryd.underlying5 (by kernel_rfl) hf with ⟨hcs, _⟩ | ⟨x, l, c, zs, hcs, _, hl, hm, hz, _, hcell, hwz⟩
    · simp [Value.cells] at hcs
      obtain ⟨rfl, rfl, rfl⟩ := hcs
      exact ⟨[], RdIn.nil _⟩
    · simp [Value.cells] at hcs
      obtain ⟨rfl, rfl, rfl⟩ := hcs
      exact RdIn.of_ints hl hm (by simpa using hz) hcell hwz
  clear hA0 hval0
  refine (fnLevels_walk a0 len0 cap0 z0 W w0).mono fun e W' ⟨he, bel⟩ => ?_
  subst he
  exact ⟨_, rfl, _, _, _, [], _, [], hW', trodAll_mk1 (shut_bool Tryd.underlying4 _), (trodAll_cons_mk (Below.trod laidOut (by kernel_rfl) (of_decide_eq_true (by kernel_rfl)) k0 bel lt0) trodAll_mk0), rfl, bel.frame _, fun h => by cases h⟩

theorem over : Rows.fnLevelsRow.holds Tryd.pinned (OpenSpec.ofChange Rows.fnLevelsSpec) :=
  OpenClaim.holds_of_wide 3 Tryd.f3 rfl rfl rfl rfl rfl rfl rfl ⟨rfl, rfl, rfl, rfl, rfl⟩ rfl rfl rfl rfl rfl (by kernel_rfl) Tryd.func3 (by kernel_rfl)
    (of_decide_eq_true (by kernel_rfl)) (by unfold Func.isWrapper; first | (rw [if_pos (by decide +kernel)]; kernel_rfl) | (rw [if_neg (by decide +kernel)]; exact ⟨rfl, rfl⟩))
    (fun os started H enc _ => lifted os started H enc)
end fnLevels

theorem fnLevels_holds : Rows.FnLevelsCardSaid :=
  Claim7.holds_tied_plain_at .later [] [.data, .pinned] true Rows.fnLevelsCard.stood.harness false fnLevels.over (fun _ h => by cases h) (by kernel_rfl) (fun _ h => by cases h) fnLevels_row_tie rfl ⟨rfl, rfl⟩ (by kernel_rfl) rfl
    (fun f fn hf hfn => by
      obtain rfl : f = 3 := Option.some.inj ((show Tryd.prog.funcNamed Rows.fnLevelsRow.func = some 3 by kernel_rfl).symm.trans hf) |>.symm
      obtain rfl : fn = Tryd.f3 := (Option.some.inj (Tryd.func3.symm.trans hfn)).symm
      exact ⟨by kernel_rfl, fun j t ht => by
        rw [Tryd.params3] at ht
        have hm : t ∈ [22] := by simpa using Array.mem_of_getElem? ht
        have hall : ([22].all fun u => !Tryd.prog.wantsStandIn u) = true := by kernel_rfl
        exact (show Tryd.prog.wantsStandIn t = false by simpa using List.all_eq_true.1 hall t hm)⟩)
    (by kernel_rfl)
end Go.Proofs.YtbndefmeehcnnaaDoor
