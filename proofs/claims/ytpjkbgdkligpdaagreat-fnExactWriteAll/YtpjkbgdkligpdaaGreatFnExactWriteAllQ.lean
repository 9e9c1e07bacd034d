/- FnExactWriteAll: whatever it is handed, the law function laws.FnExactWriteAll returns true, and its arguments read afterwards as before. No condition. -/
import Derived.Test.YtpjkbgdkligpdaaGreatW29
import Derived.Test.YtpjkbgdkligpdaaGreatW26
import Derived.Test.YtpjkbgdkligpdaaGreatRows
import Derived.WalkKit
import Derived.ProofKit
import Derived.OpenShut
import Derived.ShutString
import Derived.ChangeOld
import Derived.Below
import Derived.Deep.Strs
namespace Go.Proofs.YtpjkbgdkligpdaaGreat
open Go.ChangeShapes Go.WideShapes Go.ChangeAt Go.RowKit
open Go.ChangeMaps (open_string shut_string)
set_option linter.unusedVariables false
set_option linter.unusedSimpArgs false

set_option maxRecDepth 100000 in
set_option maxHeartbeats 4000000 in
theorem fnExactWriteAll_walk (a0 : Option Addr) (n0 c0 : Nat) (l0 : PL) (w : World) (w0 : QRd w a0 n0 c0 l0 ∧ ∀ y ∈ l0, Pok y.1 y.2) :
  Calls Tryz.prog 4 #[.slice a0 n0 c0] w fun e w' => e = .returned (.bool true) ∧ Below w.heap.size w w' := by
 obtain ⟨hr, hs⟩ := w0
 have HR : Hid (∀ u, Below w.heap.size w u → QRd u a0 n0 c0 l0) := fun u hu => hr.below hu
 have HS : Hid (∀ y ∈ l0, Pok y.1 y.2) := hs
 clear hr hs
 go_enter Tryz.func4, Tryz.ntmps4
 go_wp2_with fail
 refine (sz_lszPacketS a0 n0 c0 1048576 l0 _ (HR.out _ (Below.refl _ _)) HS.out (by decide)).mono ?_
 rintro e w1 ⟨r, rfl, hb, hcase⟩
 rcases hcase with hneg | ⟨R, rfl, hR⟩
 ·go_wp2
  go_ret
  exact ⟨rfl, hb⟩
 ·have hpos' : ¬ (R : Int) < 0 := by omega
  have hn : n0 ≤ 1048576 := by omega
  have HT : Hid (n0 + qtot l0 ≤ 1048576) := by show _ ≤ _; omega
  have HLN : Hid (l0.length = n0) := (HR.out _ (Below.refl _ _)).1.1
  have HPL : Hid (∀ x ∈ l0, Plen x.1 1048576) := fun x hx => psz_len _ _ (by have := qtot_mem hx; have := HT.out; omega)
  obtain ⟨L, hL⟩ : ∃ L, allB (pvs l0) = L := ⟨_, rfl⟩
  have HLL : Hid (allB (pvs l0) = L) := hL
  clear hR hL
  go_wp2_with fail
  refine (to_ltoPacketS a0 n0 c0 l0 _ (HR.out _ hb) hn HPL.out).mono ?_
  rintro e u2 ⟨rfl, hd2, hb2⟩
  obtain ⟨es, hv, ow, h1, h2⟩ := hd2.get HLN.out
  replace hb := g_bel hb hb2
  clear hd2 hb2
  have C := write_s _ _ _ es _ ow.rd hn (qd_ok HLN.out h1 h2 (by have := HT.out; omega))
  rw [hv, HLL.out] at C
  go_wp2_with fail
  refine C.mono ?_
  clear C
  rintro e u3 ⟨aw, m, cw, rfl, oww, hmw, b3⟩
  replace hb := g_bel hb b3
  have hml : L.length = m := oww.1
  have HML : Hid (L.length = m) := hml
  have hmb : m ≤ 1048576 * 345 := by omega
  have HW : Hid (∀ u, Below u3.heap.size u3 u → RdIn u aw m cw L) := fun u hu => oww.rd.below hu
  have HB : Hid (∀ u, Below u3.heap.size u3 u → Below w.heap.size w u) := fun u hu => g_bel hb hu
  have h3 : Below u3.heap.size u3 u3 := Below.refl _ _
  clear hv ow oww b3 hb es hml h1 h2 hmw
  go_wp2_with fail
  refine (to_ltoPacketS a0 n0 c0 l0 _ (HR.out _ (HB.out _ h3)) hn HPL.out).mono ?_
  rintro e u4 ⟨rfl, hd4, b4⟩
  obtain ⟨xs, hvx, owx, k1, k2⟩ := hd4.get HLN.out
  have HVX : Hid (pvs xs = pvs l0) := hvx
  have HHI : Hid (QHi u4.heap.size (some ⟨u3.heap.size, 0, none⟩) xs) := owx.hi
  have HXB : Hid (∀ x ∈ xs, Psz x.1 x.2 ∧ Plen x.1 1048576) := qd_ok HLN.out k1 k2 (by have := HT.out; omega)
  have HXC : Hid (∀ t, t ≤ n0 → 1 + cntL (xs.take t) ≤ 100000000000) := fun t ht => by
   have := qd_cnt HLN.out k1 k2 t ht
   have := HT.out
   omega
  replace h3 := g_bel h3 b4
  clear hd4 b4 hvx k1 k2
  have C := write_i _ _ _ xs _ owx.rd hn HXB.out
  rw [HVX.out, HLL.out] at C
  go_wp2_with fail
  refine C.mono ?_
  clear C
  rintro e u5 ⟨ag, m2, cg, rfl, owg, hmg, b5⟩
  obtain rfl : m2 = m := by rw [← HML.out]; exact owg.1.symm
  have h34 : u3.heap.size ≤ u4.heap.size := h3.size
  have h45 : u4.heap.size ≤ u5.heap.size := b5.size
  replace owx := owx.below b5
  replace h3 := g_bel h3 b5
  clear b5 hmg
  go_wp2_with fail
  refine (eq_leqByteS _ _ _ _ _ L _ owg.rd (HW.out _ h3) (by omega)).mono ?_
  rintro e u6 ⟨rfl, b6⟩
  replace owx := owx.below b6
  replace owg := owg.below b6
  replace h3 := g_bel h3 b6
  replace h45 := Nat.le_trans h45 b6.size
  clear b6
  go_wp2_with fail
  refine (to_ltoPacketS a0 n0 c0 l0 _ (HR.out _ (HB.out _ h3)) hn HPL.out).mono ?_
  rintro e u7 ⟨rfl, hd7, b7⟩
  obtain ⟨ys, hvy, owy, k1, k2⟩ := hd7.get HLN.out
  replace owx := owx.below b7
  replace owg := owg.below b7
  replace h3 := g_bel h3 b7
  replace h45 := Nat.le_trans h45 b7.size
  clear b7 hd7 k1 k2
  go_wp2_with fail
  refine (eq_leqPacketS _ _ _ _ _ xs ys _ owx.rd owy.rd (HVX.out.trans hvy.symm) (by omega) (fun x hx => by have h := (HXB.out x hx).2; unfold Plen at h ⊢; omega)).mono ?_
  rintro e u8 ⟨rfl, b8⟩
  replace owx := owx.below b8
  replace owg := owg.below b8
  replace h3 := g_bel h3 b8
  replace h45 := Nat.le_trans h45 b8.size
  clear b8 hvy owy
  have hc1 := HXC.out n0 (Nat.le_refl _)
  rw [List.take_of_length_le (by rw [owx.len]; exact Nat.le_refl _)] at hc1
  go_wp2_with fail
  refine (mark_lmarkPacketS u3.heap.size u4.heap.size _ _ _ 1 xs _ owx (Nat.le_trans h34 h45) HHI.out (by decide) HXC.out (by omega)).mono ?_
  rintro e u9 ⟨rfl, owx9, sp⟩
  have owg9 : Own u9 u4.heap.size ag m2 cg L := ⟨owg.1, span_owns sp owg.2 (Nat.le_refl _)⟩
  replace h3 := h3.trans sp.below
  replace h45 := Nat.le_trans h45 sp.size
  have hneg : ¬ ((1 + cntL xs : Nat) : Int) < 0 := by omega
  generalize (1 + cntL xs : Nat) = cx at hneg
  clear owx owx9 sp hc1 owg
  go_wp2_with fail
  refine (eq_leqByteS _ _ _ _ _ L _ owg9.rd (HW.out _ h3) (by omega)).mono ?_
  rintro e u10 ⟨rfl, b10⟩
  replace owg9 := owg9.below b10
  replace h3 := g_bel h3 b10
  replace h45 := Nat.le_trans h45 b10.size
  clear b10
  go_wp2_with fail
  refine (mark_lmarkByteS u4.heap.size _ _ _ 1 L _ owg9 (by omega) (by decide)).mono ?_
  rintro e u11 ⟨rfl, owg11, hg⟩
  have hb11 : Below u3.heap.size u3 u11 := h3.grown hg h3.size (fun k e => by
   have := (owg9.2.lt k e).1
   omega)
  clear h3 owg9 hg
  have hcc : (((1 + m2 : Nat) : Int) != ((1 + m2 : Nat) : Int)) = false := by simp
  have hneg2 : ¬ ((1 + m2 : Nat) : Int) < 0 := by omega
  obtain ⟨cn, hcn⟩ : ∃ cn, 1 + m2 = cn := ⟨_, rfl⟩
  have HCN : Hid (1 + m2 = cn) := hcn
  rw [hcn] at hcc hneg2 ⊢
  clear hcn
  go_wp2_with fail
  have C3 := held_lheldByteS ag m2 cg 1 u11 owg11.rd (by omega) (by decide)
  rw [HCN.out] at C3
  refine C3.mono ?_
  clear C3
  rintro e u12 ⟨rfl, rfl⟩
  go_wp2_with fail
  refine (to_ltoPacketS a0 n0 c0 l0 _ (HR.out _ (HB.out _ hb11)) hn HPL.out).mono ?_
  rintro e u13 ⟨rfl, hd13, b13⟩
  obtain ⟨zs, hvz, owz, k1, k2⟩ := hd13.get HLN.out
  replace owg11 := owg11.below b13
  replace hb11 := g_bel hb11 b13
  clear b13 hd13
  have C := write_i _ _ _ zs _ owz.rd hn (qd_ok HLN.out k1 k2 (by have := HT.out; omega))
  rw [hvz, HLL.out] at C
  go_wp2_with fail
  refine C.mono ?_
  clear C
  rintro e u14 ⟨ah, m3, ch, rfl, owh, hmh, b14⟩
  obtain rfl : m3 = m2 := by rw [← HML.out]; exact owh.1.symm
  replace owg11 := owg11.below b14
  replace hb11 := g_bel hb11 b14
  clear b14 owz hvz k1 k2 hmh
  go_wp2_with fail
  refine (eq_leqByteS _ _ _ _ _ L _ owh.rd (HW.out _ hb11) (by omega)).mono ?_
  rintro e u15 ⟨rfl, b15⟩
  replace owg11 := owg11.below b15
  replace hb11 := g_bel hb11 b15
  clear b15 owh
  go_wp2_with fail
  have C5 := held_lheldByteS ag m3 cg 1 u15 owg11.rd (by omega) (by decide)
  rw [HCN.out] at C5
  refine C5.mono ?_
  clear C5
  rintro e u16 ⟨rfl, rfl⟩
  go_wp2
  go_ret
  exact ⟨rfl, HB.out _ hb11⟩

namespace fnExactWriteAll
theorem own : ownKnob Tryz.prog.godebug = none := by kernel_rfl
theorem laidOut : laidOutB Tryz.prog = true := by kernel_rfl
set_option maxRecDepth 100000 in
theorem lifted (os : Os) (started : os.Started) (H : Type) (enc : TypeId × Value → H) :
  ReturnsInHanded {} Tryz.checked os 4 .any (Rows.fnExactWriteAllSpec.pre6 enc Tryz.prog Tryz.f4 Rows.fnExactWriteAllRow.domain false) (Rows.fnExactWriteAllSpec.post enc Tryz.prog Tryz.f4 false true false false) := by
 refine returnsInHanded_of_change (C := Tryz.checked) own started (by kernel_rfl) Tryz.func4
  (ChangeSpec.witness6 (enc := enc) (C := Tryz.checked) false ⟨#[], #[.slice none 0 0], []⟩ 8 (by kernel_rfl) (by kernel_rfl) (by kernel_rfl) (by kernel_rfl)) ?_
 intro W base args ds gs before hval0 hW hcnd _
 have hval : ∀ (j : Nat) t v, Tryz.f4.params[j]? = some t → args[j]? = some v → Value.okWide Tryz.prog W .any base t v := hval0
 have hW' := hW
 obtain ⟨p, q, hA0, hV, rfl, hfz, hnd⟩ := hW
 have hA : DataW.TrodAll enc Tryz.prog W 0 (fun _ => true) true Tryz.f4.params.toList args.toList ds p := hA0
 rw [Tryz.params4] at hA hval
 obtain ⟨v0, vs0, d0, ds0, p0, q0, hargs, rfl, rfl, h0, r0⟩ := trodAll_cons hA
 obtain ⟨rfl, rfl, rfl⟩ := trodAll_nil r0
 obtain rfl : args = #[v0] := by cases args; simp_all
 obtain ⟨rfl, rfl⟩ := trodVars_none hV
 obtain ⟨a0, len0, cap0, rfl⟩ := okWide_slice Tryz.underlying39 (hval 0 39 v0 rfl rfl)
 have k0 := h0
 have lt0 : ∀ x ∈ p0, x.block < W.heap.size := by obtain ⟨m, hm⟩ := k0; exact DataW.trod_lt m _ _ _ hm
 obtain ⟨z0, w0⟩ : ∃ l : PL, QRd W a0 len0 cap0 l ∧ ∀ y ∈ l, Pok y.1 y.2 := by
  obtain ⟨fuel, hf⟩ := h0
  obtain ⟨ao, n, c, l, hcs, hr, hs⟩ := open_packets hf
  simp [Value.cells] at hcs
  obtain ⟨rfl, rfl, rfl⟩ := hcs
  exact ⟨l, hr, hs⟩
 clear hA0 hval0
 refine (fnExactWriteAll_walk a0 len0 cap0 z0 W w0).mono fun e W' ⟨he, bel⟩ => ?_
 subst he
 exact ⟨_, rfl, _, _, _, [], _, [], hW', trodAll_mk1 (shut_bool Tryz.underlying4 _), (trodAll_cons_mk (Below.trod laidOut (by kernel_rfl) (of_decide_eq_true (by kernel_rfl)) k0 bel lt0) trodAll_mk0), rfl, bel.frame _, fun h => by cases h⟩

theorem over : Rows.fnExactWriteAllRow.holds Tryz.pinned (OpenSpec.ofChange Rows.fnExactWriteAllSpec) :=
 OpenClaim.holds_of_wide 4 Tryz.f4 rfl rfl rfl rfl rfl rfl rfl ⟨rfl, rfl, rfl, rfl, rfl⟩ rfl rfl rfl rfl rfl (by kernel_rfl) Tryz.func4 (by kernel_rfl)
  (of_decide_eq_true (by kernel_rfl)) (by unfold Func.isWrapper; first | (rw [if_pos (by decide +kernel)]; kernel_rfl) | (rw [if_neg (by decide +kernel)]; exact ⟨rfl, rfl⟩))
  (fun os started H enc _ => lifted os started H enc)
end fnExactWriteAll

theorem fnExactWriteAll_holds : Rows.FnExactWriteAllSaid := fnExactWriteAll.over
end Go.Proofs.YtpjkbgdkligpdaaGreat
