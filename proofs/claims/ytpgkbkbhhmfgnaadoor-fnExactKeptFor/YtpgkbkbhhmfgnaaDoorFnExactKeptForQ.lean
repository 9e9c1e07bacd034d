/- FnExactKeptFor: whatever it is handed, the law function laws.FnExactKeptFor returns true, and its arguments read afterwards as before. No condition. -/
import Derived.Test.YtpgkbkbhhmfgnaaDoorK11
import Derived.Test.YtpgkbkbhhmfgnaaDoorK15
import Derived.Test.YtpgkbkbhhmfgnaaDoorRows
import Derived.Test.YtpgkbkbhhmfgnaaDoorTie
import Derived.Test.YtpgkbkbhhmfgnaaDoorCards
import Derived.LaidMore
import Derived.Lay
import Derived.SevenTiedAt
import Derived.Stop.Joined
import Derived.WalkKit
import Derived.ProofKit
import Derived.OpenShut
import Derived.ShutString
import Derived.ChangeOld
import Derived.Below
import Derived.Deep.Strs
namespace Go.Proofs.YtpgkbkbhhmfgnaaDoor
open Go.ChangeShapes Go.WideShapes Go.ChangeAt Go.RowKit
open Go.ChangeMaps (open_string shut_string)
set_option linter.unusedVariables false
set_option linter.unusedSimpArgs false

set_option maxRecDepth 100000 in
set_option maxHeartbeats 2000000 in
theorem fnExactKeptFor_walk (a0 : Option Addr) (n0 c0 : Nat) (l0 : KtL) (f : ByteArray) (w : World) (w0 : KRd w a0 n0 c0 l0 ∧ ∀ y ∈ l0, y.1.t.size ≤ maxLen) (w1 : f.size ≤ maxLen) :
  Calls Tryd.prog 5 #[.slice a0 n0 c0, .string f] w fun e w' => e = .returned (.bool true) ∧ Below w.heap.size w w' := by
 by_cases hbig : 1048576 < f.size
 ·have hb' : (1048576 : Int) < (f.size : Int) := by omega
  go_enter Tryd.func5, Tryd.ntmps5
  go_wp2
  go_ret
  exact ⟨rfl, Below.refl _ _⟩
 have hb' : ¬ (1048576 : Int) < (f.size : Int) := by omega
 have hfs : f.size ≤ 1048576 := by omega
 obtain ⟨hr, hs⟩ := w0
 have HR : Hid (∀ u, Below w.heap.size w u → KRd u a0 n0 c0 l0) := fun u hu => hr.below hu
 have HS : Hid (∀ y ∈ l0, y.1.t.size ≤ maxLen) := hs
 clear hr hs w1
 go_enter Tryd.func5, Tryd.ntmps5
 go_wp2_with fail
 refine (sz_lszKeptS a0 n0 c0 1048576 l0 _ (HR.out _ (Below.refl _ _)) HS.out (by decide)).mono ?_
 rintro e w1 ⟨r, rfl, hb, hcase⟩
 rcases hcase with hneg | ⟨R, rfl, hR⟩
 ·go_wp2
  go_ret
  exact ⟨rfl, hb⟩
 ·have hpos' : ¬ (R : Int) < 0 := by omega
  have hn : n0 ≤ 1048576 := by omega
  have HT : Hid (ktot l0 ≤ 1048576) := by show _ ≤ _; omega
  have HLN : Hid (l0.length = n0) := (HR.out _ (Below.refl _ _)).len
  have HBL : Hid (∀ x ∈ l0, x.2.length = x.1.n) := fun x hx => ((HR.out _ (Below.refl _ _)).2 x hx).1.1
  have HX : Hid (∀ i, i < n0 → (kf l0 i).t.size ≤ 1048576 ∧ (kf l0 i).n ≤ 1048576 ∧ (kd l0 i).length ≤ 1048576) := fun i hi => by
   have hm := kf_mem (l := l0) (i := i) (by rw [HLN.out]; exact hi)
   have h1 := ktot_mem hm
   have h2 := HBL.out _ hm
   have h3 := HT.out
   simp only at h1 h2
   exact ⟨by omega, by omega, by omega⟩
  have HVC : Hid (vcnt (kvs l0) ≤ 10000000) := by
   show _ ≤ _
   have h1 := vcnt_tot HBL.out
   have h2 := HT.out
   have h3 := HLN.out
   omega
  have HVB : Hid (∀ v ∈ kvs l0, v.b.length ≤ 1048576) := fun v hv => by
   obtain ⟨x, hx, rfl⟩ := List.mem_map.1 hv
   have h1 := ktot_mem hx
   have h2 := HBL.out _ hx
   have h3 := HT.out
   simp only [kv]
   omega
  obtain ⟨V, hV⟩ : ∃ V, forK f (kvs l0) = V := ⟨_, rfl⟩
  have HV : Hid (forK f (kvs l0) = V) := hV
  have HVB2 : Hid (∀ v ∈ V, v.b.length ≤ 1048576) := fun v hv => HVB.out v (by rw [← HV.out] at hv; exact (List.mem_filter.1 hv).1)
  have HVC2 : Hid (vcnt V ≤ 10000000) := by
   show _ ≤ _
   rw [← HV.out]
   exact Nat.le_trans (vcnt_filter _ _) HVC.out
  obtain ⟨M, hM⟩ : ∃ M, V.length = M := ⟨_, rfl⟩
  have HM : Hid (V.length = M) := hM
  have hMn : M ≤ 1048576 := by
   have h1 := forK_len f (kvs l0)
   rw [hV, hM, kvs_length, HLN.out] at h1
   omega
  have HX2 : Hid (∀ i, i < n0 → (kf l0 i).n ≤ 1099511627776) := fun i hi => by have := (HX.out i hi).2.1; omega
  have HSX : Hid (∀ ds : KtL, kvs ds = kvs l0 → (∀ x ∈ ds, x.2.length = x.1.n) → ∀ x ∈ ds, x.1.t.size ≤ 1048576 ∧ x.1.n ≤ 1048576) := fun ds hv hl => kt_bounds (by rw [← kvs_length ds, hv, kvs_length]) hv hl (fun i hi => by have h := HX.out i (by rw [← HLN.out]; exact hi); exact ⟨h.1, h.2.2⟩)
  clear hR hV hM
  go_wp2_with fail
  refine (to_ltoKeptS a0 n0 c0 l0 _ (HR.out _ hb) (by omega) HX2.out).mono ?_
  rintro e u2 ⟨rfl, hd2, hb2⟩
  obtain ⟨es, hv, ow, hx⟩ := hd2.get HLN.out
  replace hb := g_bel hb hb2
  clear hd2 hb2 hx
  go_wp2_with fail
  refine (for_sKeptFor _ _ _ es f _ ow.rd hn (HSX.out es hv (fun x hx => (ow.own x hx).1)) hfs).mono ?_
  rintro e u3 ⟨aw, m, cw, ws, rfl, hvw, oww, b3⟩
  replace hb := g_bel hb b3
  rw [hv, HV.out] at hvw
  obtain rfl : m = M := by rw [← oww.len, ← kvs_length ws, hvw, HM.out]
  have HVW : Hid (kvs ws = V) := hvw
  have HW : Hid (∀ u, Below u3.heap.size u3 u → KRd u aw m cw ws) := fun u hu => oww.rd.below hu
  have HB : Hid (∀ u, Below u3.heap.size u3 u → Below w.heap.size w u) := fun u hu => g_bel hb hu
  have h3 : Below u3.heap.size u3 u3 := Below.refl _ _
  clear hv ow hvw oww b3 hb es
  go_wp2_with fail
  refine (to_ltoKeptS a0 n0 c0 l0 _ (HR.out _ (HB.out _ h3)) (by omega) HX2.out).mono ?_
  rintro e u4 ⟨rfl, hd4, b4⟩
  obtain ⟨xs, hvx, owx, hx⟩ := hd4.get HLN.out
  have HVX : Hid (kvs xs = kvs l0) := hvx
  have HHI : Hid (KHi u4.heap.size (some ⟨u3.heap.size, 0, none⟩) xs) := owx.hi
  have HXB : Hid (∀ x ∈ xs, x.1.t.size ≤ 1048576 ∧ x.1.n ≤ 1048576) := HSX.out xs hvx (fun x hx => (owx.own x hx).1)
  replace h3 := g_bel h3 b4
  clear hd4 b4 hx hvx
  go_wp2_with fail
  refine (for_iKeptFor _ _ _ xs f _ owx.rd hn HXB.out hfs).mono ?_
  rintro e u5 ⟨ag, m2, cg, gs, rfl, hvg, owg, b5⟩
  rw [HVX.out, HV.out] at hvg
  obtain rfl : m2 = m := by rw [← owg.len, ← kvs_length gs, hvg, HM.out]
  have HVG : Hid (kvs gs = V) := hvg
  have h34 : u3.heap.size ≤ u4.heap.size := h3.size
  have h45 : u4.heap.size ≤ u5.heap.size := b5.size
  replace owx := owx.below b5
  replace h3 := g_bel h3 b5
  clear b5 hvg
  go_wp2_with fail
  refine (eq_leqKeptS _ _ _ _ _ gs ws _ owg.rd (HW.out _ h3) (HVG.out.trans HVW.out.symm) (by omega) (fun i hi => kd_le HVG.out HVB2.out i (by rw [owg.len]; exact hi))).mono ?_
  rintro e u6 ⟨rfl, b6⟩
  replace owx := owx.below b6
  replace owg := owg.below b6
  replace h3 := g_bel h3 b6
  replace h45 := Nat.le_trans h45 b6.size
  clear b6
  go_wp2_with fail
  refine (to_ltoKeptS a0 n0 c0 l0 _ (HR.out _ (HB.out _ h3)) (by omega) HX2.out).mono ?_
  rintro e u7 ⟨rfl, hd7, b7⟩
  obtain ⟨ys, hvy, owy, hx⟩ := hd7.get HLN.out
  replace owx := owx.below b7
  replace owg := owg.below b7
  replace h3 := g_bel h3 b7
  replace h45 := Nat.le_trans h45 b7.size
  clear b7 hd7 hx
  go_wp2_with fail
  refine (eq_leqKeptS _ _ _ _ _ xs ys _ owx.rd owy.rd (HVX.out.trans hvy.symm) (by omega) (fun i hi => kd_le HVX.out HVB.out i (by rw [owx.len]; exact hi))).mono ?_
  rintro e u8 ⟨rfl, b8⟩
  replace owx := owx.below b8
  replace owg := owg.below b8
  replace h3 := g_bel h3 b8
  replace h45 := Nat.le_trans h45 b8.size
  clear b8 hvy owy
  have hc1 : 1 + kcnt xs ≤ 100000000000 := by have h1 := owx.cnt; rw [HVX.out] at h1; have := HVC.out; omega
  go_wp2_with fail
  refine (mark_lmarkKeptS u3.heap.size u4.heap.size _ _ _ 1 xs _ owx (Nat.le_trans h34 h45) HHI.out hn (by decide) hc1).mono ?_
  rintro e u9 ⟨rfl, owx9, sp⟩
  replace owg := owg.span sp (Nat.le_refl _)
  replace h3 := h3.trans sp.below
  replace h45 := Nat.le_trans h45 sp.size
  have hneg : ¬ ((1 + kcnt xs : Nat) : Int) < 0 := by omega
  generalize (1 + kcnt xs : Nat) = cx at hneg
  clear owx owx9 sp hc1
  go_wp2_with fail
  refine (eq_leqKeptS _ _ _ _ _ gs ws _ owg.rd (HW.out _ h3) (HVG.out.trans HVW.out.symm) (by omega) (fun i hi => kd_le HVG.out HVB2.out i (by rw [owg.len]; exact hi))).mono ?_
  rintro e u10 ⟨rfl, b10⟩
  replace owg := owg.below b10
  replace h3 := g_bel h3 b10
  replace h45 := Nat.le_trans h45 b10.size
  clear b10
  have hc2 : 1 + kcnt gs ≤ 100000000000 := by have h1 := owg.cnt; rw [HVG.out] at h1; have := HVC2.out; omega
  have HC2 : Hid (1 + kcnt gs ≤ 100000000000) := hc2
  have hhi := owg.hi
  go_wp2_with fail
  refine (mark_lmarkKeptS u4.heap.size u10.heap.size _ _ _ 1 gs _ owg h45 hhi hMn (by decide) hc2).mono ?_
  rintro e u11 ⟨rfl, owg11, sp⟩
  replace h3 := h3.trans ((sp.below).mono h34)
  have hcc : (((1 + kcnt gs : Nat) : Int) != ((1 + kcnt gs : Nat) : Int)) = false := by simp
  have hneg2 : ¬ ((1 + kcnt gs : Nat) : Int) < 0 := by omega
  obtain ⟨cn, hcn⟩ : ∃ cn, 1 + kcnt gs = cn := ⟨_, rfl⟩
  have HCN : Hid (1 + kcnt gs = cn) := hcn
  rw [hcn] at hcc hneg2 ⊢
  clear owg sp hc2 hhi hcn
  go_wp2_with fail
  have C3 := held_lheldKeptS _ _ _ 1 gs _ owg11.rd hMn (by decide) HC2.out
  rw [HCN.out] at C3
  refine C3.mono ?_
  clear C3
  rintro e u12 ⟨rfl, b12⟩
  replace owg11 := owg11.below b12
  replace h3 := g_bel h3 b12
  clear b12
  go_wp2_with fail
  refine (to_ltoKeptS a0 n0 c0 l0 _ (HR.out _ (HB.out _ h3)) (by omega) HX2.out).mono ?_
  rintro e u13 ⟨rfl, hd13, b13⟩
  obtain ⟨zs, hvz, owz, hx⟩ := hd13.get HLN.out
  replace owg11 := owg11.below b13
  replace h3 := g_bel h3 b13
  clear b13 hd13 hx
  go_wp2_with fail
  refine (for_iKeptFor _ _ _ zs f _ owz.rd hn (HSX.out zs hvz (fun x hx => (owz.own x hx).1)) hfs).mono ?_
  rintro e u14 ⟨ah, m3, ch, hs, rfl, hvh, owh, b14⟩
  rw [hvz, HV.out] at hvh
  obtain rfl : m3 = m2 := by rw [← owh.len, ← kvs_length hs, hvh, HM.out]
  replace owg11 := owg11.below b14
  replace h3 := g_bel h3 b14
  clear b14 owz hvz
  go_wp2_with fail
  refine (eq_leqKeptS _ _ _ _ _ hs ws _ owh.rd (HW.out _ h3) (hvh.trans HVW.out.symm) (by omega) (fun i hi => kd_le hvh HVB2.out i (by rw [owh.len]; exact hi))).mono ?_
  rintro e u15 ⟨rfl, b15⟩
  replace owg11 := owg11.below b15
  replace h3 := g_bel h3 b15
  clear b15 owh hvh
  go_wp2_with fail
  have C5 := held_lheldKeptS _ _ _ 1 gs _ owg11.rd hMn (by decide) HC2.out
  rw [HCN.out] at C5
  refine C5.mono ?_
  clear C5
  rintro e u16 ⟨rfl, b16⟩
  replace h3 := g_bel h3 b16
  go_wp2
  go_ret
  exact ⟨rfl, HB.out _ h3⟩

namespace fnExactKeptFor
theorem own : ownKnob Tryd.prog.godebug = none := by kernel_rfl
theorem laidOut : laidOutB Tryd.prog = true := by kernel_rfl
set_option maxRecDepth 100000 in
theorem lifted (os : Os) (started : os.Started) (H : Type) (enc : TypeId × Value → H) :
  ReturnsInHanded {} Tryd.checked os 5 .any (fun w args => (Rows.fnExactKeptForSpec.pre enc Tryd.prog Tryd.f5 Rows.fnExactKeptForRow.domain false w args ∧ laidMetH Tryd.prog Rows.fnExactKeptForRow.laid w) ∧ sizedMet enc Tryd.prog Tryd.f5 (OpenSpec.ofChange Rows.fnExactKeptForSpec) false w args) (Rows.fnExactKeptForSpec.post enc Tryd.prog Tryd.f5 false true false false) := by
 refine returnsInHanded_of_change_and (C := Tryd.checked) (X := fun w _ => laidMetH Tryd.prog Rows.fnExactKeptForRow.laid w) (fun _ _ _ hh h => h.of_heap hh) own started (by kernel_rfl) Tryd.func5
  (ChangeSpec.witness_shaped (enc := enc) (C := Tryd.checked) (os := os) (X := fun w _ => laidMetH Tryd.prog Rows.fnExactKeptForRow.laid w) false (World.laidAll Tryd.prog os Rows.fnExactKeptForRow.laid) #[.slice none 0 0, .string ByteArray.empty] 8 (World.laidAll_os _ _ _)
   (World.shaped_of_ZipB (by kernel_rfl) (by kernel_rfl)) (by kernel_rfl) (by kernel_rfl) (by kernel_rfl)
   (by rw [MakeChecks.laidMetH_plain _ _ _ (by kernel_rfl)]; exact laidMet_laidAll _ (by kernel_rfl) (by kernel_rfl))) ?_
 intro W base args ds gs before hval0 hW hcnd _ hL _
 have hval : ∀ (j : Nat) t v, Tryd.f5.params[j]? = some t → args[j]? = some v → Value.okWide Tryd.prog W .any base t v := hval0
 have hW' := hW
 obtain ⟨p, q, hA0, hV, rfl, hfz, hnd⟩ := hW
 have hA : DataW.TrodAll enc Tryd.prog W 0 (fun _ => true) true Tryd.f5.params.toList args.toList ds p := hA0
 rw [Tryd.params5] at hA hval
 obtain ⟨v0, vs0, d0, ds0, p0, q0, hargs, rfl, rfl, h0, r0⟩ := trodAll_cons hA
 obtain ⟨v1, vs1, d1, ds1, p1, q1, rfl, rfl, rfl, h1, r1⟩ := trodAll_cons r0
 obtain ⟨rfl, rfl, rfl⟩ := trodAll_nil r1
 obtain rfl : args = #[v0, v1] := by cases args; simp_all
 obtain ⟨rfl, rfl⟩ := trodVars_none hV
 obtain ⟨a0, len0, cap0, rfl⟩ := okWide_slice Tryd.underlying22 (hval 0 22 v0 rfl rfl)
 have k0 := h0
 have lt0 : ∀ x ∈ p0, x.block < W.heap.size := by obtain ⟨m, hm⟩ := k0; exact DataW.trod_lt m _ _ _ hm
 obtain ⟨z0, w0⟩ : ∃ l : KtL, KRd W a0 len0 cap0 l ∧ ∀ y ∈ l, y.1.t.size ≤ maxLen := by
  obtain ⟨fuel, hf⟩ := h0
  obtain ⟨ao, n, c, l, hcs, hr, hs⟩ := open_kepts hf
  simp [Value.cells] at hcs
  obtain ⟨rfl, rfl, rfl⟩ := hcs
  exact ⟨l, hr, hs⟩
 obtain ⟨a1, rfl, rfl, rfl, w1⟩ := open_string Tryd.underlying9 (hval 1 9 v1 rfl rfl) h1
 clear hA0 hval0
 refine (fnExactKeptFor_walk a0 len0 cap0 z0 a1 W w0 w1).mono fun e W' ⟨he, bel⟩ => ?_
 subst he
 exact ⟨_, rfl, _, _, _, [], _, [], hW', trodAll_mk1 (shut_bool Tryd.underlying4 _), (trodAll_cons_mk (Below.trod laidOut (by kernel_rfl) (of_decide_eq_true (by kernel_rfl)) k0 bel lt0) (trodAll_cons_mk (shut_string Tryd.underlying9 w1) trodAll_mk0)), rfl, bel.frame _, fun h => by cases h⟩

theorem over : Rows.fnExactKeptForRow.holds Tryd.pinned (OpenSpec.ofChange Rows.fnExactKeptForSpec) :=
 OpenClaim.holds_of_wide 5 Tryd.f5 rfl rfl rfl rfl rfl rfl rfl ⟨rfl, rfl, rfl, rfl, rfl⟩ rfl rfl rfl rfl rfl (by kernel_rfl) Tryd.func5 (by kernel_rfl)
  (of_decide_eq_true (by kernel_rfl)) (by unfold Func.isWrapper; first | (rw [if_pos (by decide +kernel)]; kernel_rfl) | (rw [if_neg (by decide +kernel)]; exact ⟨rfl, rfl⟩))
  (fun os started H enc _ => lifted os started H enc)
end fnExactKeptFor

theorem fnExactKeptFor_holds : Rows.FnExactKeptForCardSaid :=
 Claim7.holds_tied_plain_at .later [] [.data, .pinned] true Rows.fnExactKeptForCard.stood.harness false fnExactKeptFor.over (fun _ h => by cases h) (by kernel_rfl) (fun _ h => by cases h) fnExactKeptFor_row_tie rfl ⟨rfl, rfl⟩ (by kernel_rfl) rfl
  (fun f fn hf hfn => by
   obtain rfl : f = 5 := Option.some.inj ((show Tryd.prog.funcNamed Rows.fnExactKeptForRow.func = some 5 by kernel_rfl).symm.trans hf) |>.symm
   obtain rfl : fn = Tryd.f5 := (Option.some.inj (Tryd.func5.symm.trans hfn)).symm
   exact ⟨by kernel_rfl, fun j t ht => by
    rw [Tryd.params5] at ht
    have hm : t ∈ [22, 9] := by simpa using Array.mem_of_getElem? ht
    have hall : ([22, 9].all fun u => !Tryd.prog.wantsStandIn u) = true := by kernel_rfl
    exact (show Tryd.prog.wantsStandIn t = false by simpa using List.all_eq_true.1 hall t hm)⟩)
  (by kernel_rfl)
end Go.Proofs.YtpgkbkbhhmfgnaaDoor
