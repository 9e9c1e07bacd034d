/- FnExactKeptOk: whatever it is handed, the law function laws.FnExactKeptOk returns true, and its arguments read afterwards as before. No condition. -/
import Derived.Test.YtpgkbkbhhmfgnaaDoorK11
import Derived.Test.YtpgkbkbhhmfgnaaDoorRows
import Derived.Test.YtpgkbkbhhmfgnaaDoorTie
import Derived.Test.YtpgkbkbhhmfgnaaDoorCards
import Derived.LaidMore
import Derived.Lay
import Derived.SevenTiedAt
import Derived.Stop.Joined
import Derived.WalkKit
import Derived.ProofKit
import Derived.OpenShut
import Derived.ShutString
import Derived.ChangeOld
import Derived.Below
import Derived.Deep.Strs
namespace Go.Proofs.YtpgkbkbhhmfgnaaDoor
open Go.ChangeShapes Go.WideShapes Go.ChangeAt Go.RowKit
open Go.ChangeMaps (open_string shut_string)
set_option linter.unusedVariables false
set_option linter.unusedSimpArgs false

set_option maxRecDepth 100000 in
set_option maxHeartbeats 1000000 in
theorem fnExactKeptOk_walk (a0 : Option Addr) (n0 c0 : Nat) (l0 : KtL) (w : World) (w0 : KRd w a0 n0 c0 l0 ∧ ∀ y ∈ l0, y.1.t.size ≤ maxLen) :
  Calls Tryd.prog 3 #[.slice a0 n0 c0] w fun e w' => e = .returned (.bool true) ∧ Below w.heap.size w w' := by
 obtain ⟨hr, hs⟩ := w0
 have HR : Hid (∀ u, Below w.heap.size w u → KRd u a0 n0 c0 l0) := fun u hu => hr.below hu
 have HS : Hid (∀ y ∈ l0, y.1.t.size ≤ maxLen) := hs
 clear hr hs
 go_enter Tryd.func3, Tryd.ntmps3
 go_wp2_with fail
 refine (sz_lszKeptS a0 n0 c0 1048576 l0 _ (HR.out _ (Below.refl _ _)) HS.out (by decide)).mono ?_
 rintro e w1 ⟨r, rfl, hb, hcase⟩
 rcases hcase with hneg | ⟨R, rfl, hR⟩
 ·go_wp2
  go_ret
  exact ⟨rfl, hb⟩
 ·have hpos' : ¬ (R : Int) < 0 := by omega
  have hn : n0 ≤ 1048576 := by omega
  have HT : Hid (ktot l0 ≤ 1048576) := by show _ ≤ _; omega
  have HLN : Hid (l0.length = n0) := (HR.out _ (Below.refl _ _)).len
  have HX : Hid (∀ i, i < n0 → (kf l0 i).t.size ≤ 1048576 ∧ (kf l0 i).n ≤ 1048576 ∧ (kd l0 i).length ≤ 1048576) := fun i hi => by
   have hm := kf_mem (l := l0) (i := i) (by rw [HLN.out]; exact hi)
   have h1 := ktot_mem hm
   have h2 := ((HR.out _ (Below.refl _ _)).2 _ hm).1.1
   have h3 := HT.out
   simp only at h1 h2
   exact ⟨by omega, by omega, by omega⟩
  clear hR
  obtain ⟨B, hB⟩ : ∃ B, keptB (kvs l0) = B := ⟨_, rfl⟩
  have HKB : Hid (keptB (kvs l0) = B) := hB
  have hBn : (B != B) = false := by simp
  clear hB
  go_wp2_with fail
  refine (to_ltoKeptS a0 n0 c0 l0 _ (HR.out _ hb) (by omega) (fun i hi => by have := (HX.out i hi).2.1; omega)).mono ?_
  rintro e w2 ⟨rfl, hd2, hb2⟩
  obtain ⟨ds, hv, ow, hx⟩ := hd2.get HLN.out
  replace hb := g_bel hb hb2
  clear hd2 hb2
  have HSX : Hid (∀ x ∈ ds, x.1.t.size ≤ 1048576 ∧ x.1.n ≤ 1048576) := kt_bounds (by rw [ow.len, HLN.out]) hv (fun x hx => (ow.own x hx).1) (fun i hi => by have h := HX.out i (by rw [← HLN.out]; exact hi); exact ⟨h.1, h.2.2⟩)
  have hk := keptB_eq hv HKB.out
  go_wp2_with fail
  have C := ok_sKeptOk _ _ _ ds _ ow.rd hn (fun x hx => (HSX.out x hx).1)
  rw [hk] at C
  refine C.mono ?_
  clear C ow hx HSX hk hv
  rintro e w3 ⟨rfl, b3⟩
  replace hb := g_bel hb b3
  clear b3
  go_wp2_with fail
  refine (to_ltoKeptS a0 n0 c0 l0 _ (HR.out _ hb) (by omega) (fun i hi => by have := (HX.out i hi).2.1; omega)).mono ?_
  rintro e w4 ⟨rfl, hd2, hb2⟩
  obtain ⟨es, hv, ow, hx⟩ := hd2.get HLN.out
  replace hb := g_bel hb hb2
  clear hd2 hb2
  have HSX : Hid (∀ x ∈ es, x.1.t.size ≤ 1048576 ∧ x.1.n ≤ 1048576) := kt_bounds (by rw [ow.len, HLN.out]) hv (fun x hx => (ow.own x hx).1) (fun i hi => by have h := HX.out i (by rw [← HLN.out]; exact hi); exact ⟨h.1, h.2.2⟩)
  have hk := keptB_eq hv HKB.out
  go_wp2_with fail
  have C := ok_iKeptOk _ _ _ es _ ow.rd hn (fun x hx => ⟨(HSX.out x hx).1, by have := (HSX.out x hx).2; omega⟩)
  rw [hk] at C
  refine C.mono ?_
  clear C hk
  rintro e w5 ⟨rfl, b5⟩
  replace hb := g_bel hb b5
  have HR4 : Hid (∀ u, Below w5.heap.size w5 u → KRd u _ n0 n0 es) := fun u hu => (ow.below b5).rd.below hu
  have HV : Hid (kvs es = kvs l0) := hv
  clear b5 ow hx hv HSX
  go_wp2_with fail
  refine (to_ltoKeptS a0 n0 c0 l0 _ (HR.out _ hb) (by omega) (fun i hi => by have := (HX.out i hi).2.1; omega)).mono ?_
  rintro e w6 ⟨rfl, hd2, hb2⟩
  obtain ⟨fs, hv, ow, hx⟩ := hd2.get HLN.out
  replace hb := g_bel hb hb2
  have r4 := HR4.out _ hb2
  clear hd2 hb2
  go_wp2_with fail
  refine (eq_leqKeptS _ _ _ _ _ es fs _ r4 ow.rd (HV.out.trans hv.symm) (by omega) (fun i hi => by
   have h := kvs_same HV.out i (by rw [r4.len]; exact hi)
   rw [h.2.1]
   have := (HX.out i hi).2.2
   omega)).mono ?_
  rintro e w7 ⟨rfl, b7⟩
  replace hb := g_bel hb b7
  clear b7 r4 ow hx hv
  go_wp2
  go_ret
  exact ⟨rfl, hb⟩

namespace fnExactKeptOk
theorem own : ownKnob Tryd.prog.godebug = none := by kernel_rfl
theorem laidOut : laidOutB Tryd.prog = true := by kernel_rfl
set_option maxRecDepth 100000 in
theorem lifted (os : Os) (started : os.Started) (H : Type) (enc : TypeId × Value → H) :
  ReturnsInHanded {} Tryd.checked os 3 .any (fun w args => (Rows.fnExactKeptOkSpec.pre enc Tryd.prog Tryd.f3 Rows.fnExactKeptOkRow.domain false w args ∧ laidMetH Tryd.prog Rows.fnExactKeptOkRow.laid w) ∧ sizedMet enc Tryd.prog Tryd.f3 (OpenSpec.ofChange Rows.fnExactKeptOkSpec) false w args) (Rows.fnExactKeptOkSpec.post enc Tryd.prog Tryd.f3 false true false false) := by
 refine returnsInHanded_of_change_and (C := Tryd.checked) (X := fun w _ => laidMetH Tryd.prog Rows.fnExactKeptOkRow.laid w) (fun _ _ _ hh h => h.of_heap hh) own started (by kernel_rfl) Tryd.func3
  (ChangeSpec.witness_shaped (enc := enc) (C := Tryd.checked) (os := os) (X := fun w _ => laidMetH Tryd.prog Rows.fnExactKeptOkRow.laid w) false (World.laidAll Tryd.prog os Rows.fnExactKeptOkRow.laid) #[.slice none 0 0] 8 (World.laidAll_os _ _ _)
   (World.shaped_of_ZipB (by kernel_rfl) (by kernel_rfl)) (by kernel_rfl) (by kernel_rfl) (by kernel_rfl)
   (by rw [MakeChecks.laidMetH_plain _ _ _ (by kernel_rfl)]; exact laidMet_laidAll _ (by kernel_rfl) (by kernel_rfl))) ?_
 intro W base args ds gs before hval0 hW hcnd _ hL _
 have hval : ∀ (j : Nat) t v, Tryd.f3.params[j]? = some t → args[j]? = some v → Value.okWide Tryd.prog W .any base t v := hval0
 have hW' := hW
 obtain ⟨p, q, hA0, hV, rfl, hfz, hnd⟩ := hW
 have hA : DataW.TrodAll enc Tryd.prog W 0 (fun _ => true) true Tryd.f3.params.toList args.toList ds p := hA0
 rw [Tryd.params3] at hA hval
 obtain ⟨v0, vs0, d0, ds0, p0, q0, hargs, rfl, rfl, h0, r0⟩ := trodAll_cons hA
 obtain ⟨rfl, rfl, rfl⟩ := trodAll_nil r0
 obtain rfl : args = #[v0] := by cases args; simp_all
 obtain ⟨rfl, rfl⟩ := trodVars_none hV
 obtain ⟨a0, len0, cap0, rfl⟩ := okWide_slice Tryd.underlying22 (hval 0 22 v0 rfl rfl)
 have k0 := h0
 have lt0 : ∀ x ∈ p0, x.block < W.heap.size := by obtain ⟨m, hm⟩ := k0; exact DataW.trod_lt m _ _ _ hm
 obtain ⟨z0, w0⟩ : ∃ l : KtL, KRd W a0 len0 cap0 l ∧ ∀ y ∈ l, y.1.t.size ≤ maxLen := by
  obtain ⟨fuel, hf⟩ := h0
  obtain ⟨ao, n, c, l, hcs, hr, hs⟩ := open_kepts hf
  simp [Value.cells] at hcs
  obtain ⟨rfl, rfl, rfl⟩ := hcs
  exact ⟨l, hr, hs⟩
 clear hA0 hval0
 refine (fnExactKeptOk_walk a0 len0 cap0 z0 W w0).mono fun e W' ⟨he, bel⟩ => ?_
 subst he
 exact ⟨_, rfl, _, _, _, [], _, [], hW', trodAll_mk1 (shut_bool Tryd.underlying4 _), (trodAll_cons_mk (Below.trod laidOut (by kernel_rfl) (of_decide_eq_true (by kernel_rfl)) k0 bel lt0) trodAll_mk0), rfl, bel.frame _, fun h => by cases h⟩

theorem over : Rows.fnExactKeptOkRow.holds Tryd.pinned (OpenSpec.ofChange Rows.fnExactKeptOkSpec) :=
 OpenClaim.holds_of_wide 3 Tryd.f3 rfl rfl rfl rfl rfl rfl rfl ⟨rfl, rfl, rfl, rfl, rfl⟩ rfl rfl rfl rfl rfl (by kernel_rfl) Tryd.func3 (by kernel_rfl)
  (of_decide_eq_true (by kernel_rfl)) (by unfold Func.isWrapper; first | (rw [if_pos (by decide +kernel)]; kernel_rfl) | (rw [if_neg (by decide +kernel)]; exact ⟨rfl, rfl⟩))
  (fun os started H enc _ => lifted os started H enc)
end fnExactKeptOk

theorem fnExactKeptOk_holds : Rows.FnExactKeptOkCardSaid :=
 Claim7.holds_tied_plain_at .later [] [.data, .pinned] true Rows.fnExactKeptOkCard.stood.harness false fnExactKeptOk.over (fun _ h => by cases h) (by kernel_rfl) (fun _ h => by cases h) fnExactKeptOk_row_tie rfl ⟨rfl, rfl⟩ (by kernel_rfl) rfl
  (fun f fn hf hfn => by
   obtain rfl : f = 3 := Option.some.inj ((show Tryd.prog.funcNamed Rows.fnExactKeptOkRow.func = some 3 by kernel_rfl).symm.trans hf) |>.symm
   obtain rfl : fn = Tryd.f3 := (Option.some.inj (Tryd.func3.symm.trans hfn)).symm
   exact ⟨by kernel_rfl, fun j t ht => by
    rw [Tryd.params3] at ht
    have hm : t ∈ [22] := by simpa using Array.mem_of_getElem? ht
    have hall : ([22].all fun u => !Tryd.prog.wantsStandIn u) = true := by kernel_rfl
    exact (show Tryd.prog.wantsStandIn t = false by simpa using List.all_eq_true.1 hall t hm)⟩)
  (by kernel_rfl)
end Go.Proofs.YtpgkbkbhhmfgnaaDoor
