/- FnExactReadAll: whatever it is handed, the law function laws.FnExactReadAll returns true, and its arguments read afterwards as before. No condition. -/
import Derived.Test.YtpjkbgdkligpdaaGreatDoorX44
import Derived.Test.YtpjkbgdkligpdaaGreatDoorRows
import Derived.Test.YtpjkbgdkligpdaaGreatDoorTie
import Derived.Test.YtpjkbgdkligpdaaGreatDoorCards
import Derived.LaidMore
import Derived.Lay
import Derived.SevenTiedAt
import Derived.Stop.Joined
import Derived.ChangeSame
import Derived.ChangeVars
import Derived.JoinedOf
import Derived.RowKit
import Derived.LaidLaws
import Derived.LaidHandle
import Derived.WalkKit
import Derived.ProofKit
import Derived.OpenShut
import Derived.ShutString
import Derived.ChangeOld
import Derived.Below
import Derived.Deep.Strs
namespace Go.Proofs.YtpjkbgdkligpdaaGreatDoor
open Go.ChangeShapes Go.WideShapes Go.ChangeAt Go.RowKit
open Go.ChangeMaps (open_string shut_string)
set_option linter.unusedVariables false
set_option linter.unusedSimpArgs false

set_option maxRecDepth 100000 in
set_option maxHeartbeats 4000000 in
theorem fnExactReadAll_walk (a0 : Option Addr) (len0 cap0 : Nat) (l : List UInt8) (w : World) (hT : ErrTy w) (w0 : RdIn w a0 len0 cap0 l) :
  Calls Tryz.prog 9 #[.slice a0 len0 cap0] w fun e w' => e = .returned (.bool true) ∧ Below w.heap.size w w' := by
 by_cases hbig : 1048576 < len0
 ·have hb' : (1048576 : Int) < (len0 : Int) := by omega
  go_enter Tryz.func9, Tryz.ntmps9
  go_wp2
  go_ret
  exact ⟨rfl, Below.refl _ _⟩
 ·have hb' : ¬ (1048576 : Int) < (len0 : Int) := by omega
  have hTl : 1 < w.heap.size := World.block_lt_of_cell? _ _ hT
  obtain ⟨cc, hcd⟩ : ∃ cc, (many l).2.2 = cc := ⟨_, rfl⟩
  have HCC : Hid ((many l).2.2 = cc) := hcd
  clear hcd
  have hcc : (cc != cc) = false := by simp
  have HT : Hid (∀ u, Below w.heap.size w u → ErrTy u) := fun u hu => hT.below hu hTl
  have W0 : Hid (∀ u, Below w.heap.size w u → RdIn u a0 len0 cap0 l) := fun u hu => w0.below hu
  have hll : Hid (l.length = len0) := w0.1.1
  clear hT hTl w0
  go_enter Tryz.func9, Tryz.ntmps9
  go_wp2_with fail
  refine (to_ltoByteS _ _ _ l _ (W0.out _ (Below.refl _ _)) (by omega)).mono ?_
  rintro e u1 ⟨rfl, ho1, hb⟩
  go_wp2_with fail
  have C1 := all_s _ _ _ l _ ho1.rd (by omega)
  rw [HCC.out] at C1
  refine C1.mono ?_
  clear C1
  rintro e u2 ⟨_, rfl, ⟨a, c, q, rfl, ow, hpv, hgd⟩, b2⟩
  replace hb := bel hb b2
  clear b2 ho1
  have HPV : Hid (pvs q = (many l).1) := hpv
  have WQ : Hid (∀ u, Below u2.heap.size u2 u → QRd u a q.length c q) := fun u hu => (ow.below hu).rd
  have h2 : Below u2.heap.size u2 u2 := Below.refl _ _
  have hw2 : w.heap.size ≤ u2.heap.size := hb.size
  have HB : Hid (∀ u, Below u2.heap.size u2 u → Below w.heap.size w u) := fun u hu => hb.trans (hu.mono hw2)
  have hq : q.length ≤ 1048576 := by
   have h1 : (pvs q).length = (many l).1.length := by rw [hpv]
   have h3 := many_cnt l
   have h4 := many_le l
   rw [pvs_length] at h1
   have := hll.out
   omega
  clear hpv ow hgd hb hw2
  generalize hqn : q.length = nq at hq
  have HN : Hid (q.length = nq) := hqn
  have WQ2 : Hid (∀ u, Below u2.heap.size u2 u → QRd u a nq c q) := fun u hu => by have h := WQ.out u hu; rw [hqn] at h; exact h
  clear WQ hqn
  go_wp2_with fail
  refine (to_ltoByteS _ _ _ l _ (W0.out _ (HB.out _ h2)) (by omega)).mono ?_
  rintro e u3 ⟨rfl, ho3, b3⟩
  replace h2 := bel h2 b3
  clear b3
  have hx3 : u2.heap.size < u3.heap.size := (ho3.block rfl).2
  go_wp2_with fail
  have C2 := all_i _ _ _ l _ ho3.rd (by omega) (HT.out _ (HB.out _ h2))
  rw [HCC.out] at C2
  refine C2.mono ?_
  clear C2
  rintro e u4 ⟨_, rfl, ⟨a2, c2, q2, rfl, ow2, hpv2, hgd2⟩, b4⟩
  replace ho3 := ho3.below b4
  have hs : u3.heap.size ≤ u4.heap.size := b4.size
  replace h2 := bel h2 b4
  clear b4
  have hn2 : q2.length = nq := by
   have h1 : (pvs q2).length = (pvs q).length := by rw [hpv2, HPV.out]
   rw [pvs_length, pvs_length, HN.out] at h1
   exact h1
  rw [hn2] at ow2
  rw [hn2]
  have HN2 : Hid (q2.length = nq) := hn2
  have HE : Hid (pvs q2 = pvs q) := hpv2.trans HPV.out.symm
  have HPL : Hid (∀ x ∈ q2, Plen x.1 1099511627776) := fun x hx => by
   have h := hgd2 x hx
   exact ⟨by have := h.bod; omega, by have := h.wb; omega, by have := h.pa; omega, by have := h.wan; omega, by have := h.nam; omega, by have := h.cds; omega⟩
  have HOK : Hid (∀ v ∈ pvs q2, v.ok = true) := by
   show ∀ v ∈ pvs q2, v.ok = true
   rw [hpv2]
   exact many_ok l
  have HCN : Hid (∀ t, t ≤ nq → 1 + cntL (q2.take t) ≤ 100000000000) := fun t ht => by
   have h1 := cntL_le (w := u4) (l := q2.take t) (fun x hx => (ow2.own x (List.mem_of_mem_take hx)).rd) (fun v hv => HOK.out v (by
    simp only [pvs, List.map_take] at hv ⊢
    exact List.mem_of_mem_take hv))
   rw [List.length_take] at h1
   omega
  clear hpv2 hn2 hgd2
  go_wp2_with fail
  refine (eq_leqPacketS _ _ _ _ _ q2 q _ ow2.rd (WQ2.out _ h2) HE.out (by omega) HPL.out).mono ?_
  rintro e u5 ⟨rfl, b5⟩
  replace ho3 := ho3.below b5
  replace ow2 := ow2.below b5
  replace hs := Nat.le_trans hs b5.size
  replace h2 := bel h2 b5
  clear b5
  go_wp2_with fail
  refine (to_ltoByteS _ _ _ l _ (W0.out _ (HB.out _ h2)) (by omega)).mono ?_
  rintro e u6 ⟨rfl, ho6, b6⟩
  replace ho3 := ho3.below b6
  replace ow2 := ow2.below b6
  replace hs := Nat.le_trans hs b6.size
  replace h2 := bel h2 b6
  clear b6
  go_wp2_with fail
  refine (eq_leqByteS _ _ _ _ _ l _ ho3.rd ho6.rd (by omega)).mono ?_
  rintro e u7 ⟨rfl, b7⟩
  clear ho6
  replace ho3 := ho3.below b7
  replace ow2 := ow2.below b7
  replace hs := Nat.le_trans hs b7.size
  replace h2 := bel h2 b7
  clear b7
  go_wp2_with fail
  refine (mark_lmarkByteS _ _ _ _ 1 l _ ho3 (by omega) (by omega)).mono ?_
  rintro e u8 ⟨rfl, ho8, g8⟩
  clear ho8
  replace g8 : u7.grownBy u8 (some u2.heap.size) := g8
  replace ow2 := ow2.cur hx3 g8
  replace hs := Nat.le_trans hs g8.size
  replace h2 := below_st h2 g8 (by omega)
  clear g8 ho3
  go_wp2_with fail
  refine (eq_leqPacketS _ _ _ _ _ q2 q _ ow2.rd (WQ2.out _ h2) HE.out (by omega) HPL.out).mono ?_
  rintro e u9 ⟨rfl, b9⟩
  replace ow2 := ow2.below b9
  replace hs := Nat.le_trans hs b9.size
  replace h2 := bel h2 b9
  clear b9
  go_wp2_with fail
  refine (mark_lmarkPacketS u3.heap.size _ _ _ 1 q2 _ ow2 hs (by decide) HCN.out (by omega)).mono ?_
  rintro e u10 ⟨rfl, ow10, t10⟩
  replace h2 := h2.trans (t10.mono (Nat.le_of_lt hx3))
  clear t10 ow2 hs
  have HC2 : Hid (cntL q2 ≤ 100000000000) := by
   have h := HCN.out nq (Nat.le_refl _)
   rw [List.take_of_length_le (Nat.le_of_eq HN2.out)] at h
   show _ ≤ _
   omega
  obtain ⟨cn, hcn⟩ : ∃ cn, 1 + cntL q2 = cn := ⟨_, rfl⟩
  rw [hcn]
  have HCN2 : Hid (1 + cntL q2 = cn) := hcn
  clear hcn
  have hcq : ((cn : Int) != (cn : Int)) = false := by simp
  have hc0 : ¬ (cn : Int) < 0 := by omega
  go_wp2_with fail
  have C3 := held_lheldPacketS _ _ _ 1 q2 _ ow10.rd (by decide) HCN.out (by omega)
  rw [HCN2.out] at C3
  refine C3.mono ?_
  clear C3
  rintro e u11 ⟨rfl, b11⟩
  replace ow10 := ow10.below b11
  replace h2 := bel h2 b11
  clear b11
  go_wp2_with fail
  refine (to_ltoByteS _ _ _ l _ (W0.out _ (HB.out _ h2)) (by omega)).mono ?_
  rintro e u12 ⟨rfl, ho12, b12⟩
  replace ow10 := ow10.below b12
  replace h2 := bel h2 b12
  clear b12
  go_wp2_with fail
  have C4 := all_i _ _ _ l _ ho12.rd (by omega) (HT.out _ (HB.out _ h2))
  rw [HCC.out] at C4
  refine C4.mono ?_
  clear C4
  rintro e u13 ⟨_, rfl, ⟨a3, c3, q3, rfl, ow3, hpv3, hgd3⟩, b13⟩
  replace ow10 := ow10.below b13
  replace h2 := bel h2 b13
  clear b13 ho12
  have hn3 : q3.length = nq := by
   have h1 : (pvs q3).length = (pvs q).length := by rw [hpv3, HPV.out]
   rw [pvs_length, pvs_length, HN.out] at h1
   exact h1
  rw [hn3] at ow3
  rw [hn3]
  have HE3 : Hid (pvs q3 = pvs q) := hpv3.trans HPV.out.symm
  have HPL3 : Hid (∀ x ∈ q3, Plen x.1 1099511627776) := fun x hx => by
   have h := hgd3 x hx
   exact ⟨by have := h.bod; omega, by have := h.wb; omega, by have := h.pa; omega, by have := h.wan; omega, by have := h.nam; omega, by have := h.cds; omega⟩
  clear hpv3 hn3 hgd3
  go_wp2_with fail
  refine (eq_leqPacketS _ _ _ _ _ q3 q _ ow3.rd (WQ2.out _ h2) HE3.out (by omega) HPL3.out).mono ?_
  rintro e u15 ⟨rfl, b15⟩
  replace ow10 := ow10.below b15
  replace h2 := bel h2 b15
  clear b15 ow3
  go_wp2_with fail
  have C5 := held_lheldPacketS _ _ _ 1 q2 _ ow10.rd (by decide) HCN.out (by omega)
  rw [HCN2.out] at C5
  refine C5.mono ?_
  clear C5
  rintro e u16 ⟨rfl, b16⟩
  replace h2 := bel h2 b16
  go_wp2
  go_ret
  exact ⟨rfl, HB.out _ h2⟩

theorem fnExactReadAll_et : Tryz.prog.globalNamed "errors.errorType" = some 1 := by kernel_rfl
theorem fnExactReadAll_rt : (Tryz.prog.cutTypes.find? (·.1 == "internal/reflectlite.rtype")).map (·.2) = some 196 := by kernel_rfl
theorem fnExactReadAll_oneRow : ((List.range 275).filter fun t => Tryz.prog.rowNamed t [101, 114, 114, 111, 114]) = [94] := by kernel_rfl
theorem fnExactReadAll_size : Tryz.prog.types.size = 275 := by kernel_rfl
/-- What the condition gives a walk: the variable's one cell. -/
theorem fnExactReadAll_handle {W : World} (h : laidMetH Tryz.prog Rows.fnExactReadAllRow.laid W) : ErrTy W := by
 have h' : laidMet Tryz.prog [] W ∧ handlesMet Tryz.prog Rows.fnExactReadAllRow.laid W := h
 obtain ⟨name, u, ty, e1, e2, e3, e4, e5⟩ := h'.2 _ (List.mem_singleton.2 rfl)
 have en : name = [101, 114, 114, 111, 114] := (Option.some.inj e1).symm
 subst en
 obtain rfl := Option.some.inj (fnExactReadAll_rt.symm.trans e2)
 have hm : ty ∈ (List.range 275).filter fun t => Tryz.prog.rowNamed t [101, 114, 114, 111, 114] := List.mem_filter.2 ⟨List.mem_range.2 (by rw [← fnExactReadAll_size]; exact e3), e4⟩
 rw [fnExactReadAll_oneRow] at hm
 obtain rfl := List.mem_singleton.1 hm
 have hh : typeHandle Tryz.prog 94 = .pointer (some ⟨5, 94, none⟩) := by kernel_rfl
 rw [hh] at e5
 unfold ErrTy
 simpa using World.var?_cell fnExactReadAll_et e5 0
/-- A world that meets the condition: the settled one, the variable's cell laid. -/
noncomputable def fnExactReadAll_world (os : Os) : World :=
 let w0 := World.holding Tryz.prog os ⟨#[], #[], []⟩
 { w0 with heap := w0.heap.modify 1 fun
   | .cells _ t frozen => .cells #[.iface 196 (.agg #[.pointer (some ⟨5, 94, none⟩)])] t frozen
   | o => o }
theorem fnExactReadAll_met (os : Os) (args : Array Value) : laidMetH Tryz.prog Rows.fnExactReadAllRow.laid ((fnExactReadAll_world os).forCall (fun _ _ => 0) ⟨#[], args, []⟩).memory :=
 laidMetH_of_parts (laidMet_nil _ _) (by kernel_rfl)
namespace fnExactReadAll
theorem own : ownKnob Tryz.prog.godebug = none := by kernel_rfl
theorem laidOut : laidOutB Tryz.prog = true := by kernel_rfl
set_option maxRecDepth 100000 in
theorem lifted (os : Os) (started : os.Started) (H : Type) (enc : TypeId × Value → H) :
  ReturnsInHanded {} Tryz.checked os 9 .any (fun w args => (Rows.fnExactReadAllSpec.pre enc Tryz.prog Tryz.f9 Rows.fnExactReadAllRow.domain false w args ∧ laidMetH Tryz.prog Rows.fnExactReadAllRow.laid w) ∧ sizedMet enc Tryz.prog Tryz.f9 (OpenSpec.ofChange Rows.fnExactReadAllSpec) false w args) (Rows.fnExactReadAllSpec.post enc Tryz.prog Tryz.f9 false true false false) := by
 refine returnsInHanded_of_change_and (C := Tryz.checked) (X := fun w _ => laidMetH Tryz.prog Rows.fnExactReadAllRow.laid w) (fun _ _ _ hh h => h.of_heap hh) own started (by kernel_rfl) Tryz.func9
  (ChangeSpec.witness_at (enc := enc) (C := Tryz.checked) (os := os) (X := fun w _ => laidMetH Tryz.prog Rows.fnExactReadAllRow.laid w) false (fnExactReadAll_world os) #[.slice none 0 0] 8 rfl (by kernel_rfl) (by kernel_rfl) (by kernel_rfl) (by kernel_rfl) (by kernel_rfl) (fnExactReadAll_met os _)) ?_
 intro W base args ds gs before hval0 hW hcnd _ hL _
 have hval : ∀ (j : Nat) t v, Tryz.f9.params[j]? = some t → args[j]? = some v → Value.okWide Tryz.prog W .any base t v := hval0
 have hW' := hW
 obtain ⟨p, q, hA0, hV, rfl, hfz, hnd⟩ := hW
 have hA : DataW.TrodAll enc Tryz.prog W 0 (fun _ => true) true Tryz.f9.params.toList args.toList ds p := hA0
 rw [Tryz.params9] at hA hval
 obtain ⟨v0, vs0, d0, ds0, p0, q0, hargs, rfl, rfl, h0, r0⟩ := trodAll_cons hA
 obtain ⟨rfl, rfl, rfl⟩ := trodAll_nil r0
 obtain rfl : args = #[v0] := by cases args; simp_all
 obtain ⟨rfl, rfl⟩ := trodVars_none hV
 obtain ⟨a0, len0, cap0, rfl⟩ := okWide_slice Tryz.underlying22 (hval 0 22 v0 rfl rfl)
 have k0 := h0
 have lt0 : ∀ x ∈ p0, x.block < W.heap.size := by obtain ⟨m, hm⟩ := k0; exact DataW.trod_lt m _ _ _ hm
 obtain ⟨z0, w0⟩ : ∃ l, RdIn W a0 len0 cap0 l := by
  obtain ⟨fuel, hf⟩ := h0
  rcases open_ints Tryz.underlying22 Tryz.underlying5 (by kernel_rfl) hf with ⟨hcs, _⟩ | ⟨x, l, c, zs, hcs, _, hl, hm, hz, _, hcell, hwz⟩
  ·simp [Value.cells] at hcs
   obtain ⟨rfl, rfl, rfl⟩ := hcs
   exact ⟨[], RdIn.nil _⟩
  ·simp [Value.cells] at hcs
   obtain ⟨rfl, rfl, rfl⟩ := hcs
   exact RdIn.of_ints hl hm (by simpa using hz) hcell hwz
 clear hA0 hval0
 refine (fnExactReadAll_walk a0 len0 cap0 z0 W (fnExactReadAll_handle hL) w0).mono fun e W' ⟨he, bel⟩ => ?_
 subst he
 exact ⟨_, rfl, _, _, _, [], _, [], hW', trodAll_mk1 (shut_bool Tryz.underlying4 _), (trodAll_cons_mk (Below.trod laidOut (by kernel_rfl) (of_decide_eq_true (by kernel_rfl)) k0 bel lt0) trodAll_mk0), rfl, bel.frame _, fun h => by cases h⟩

theorem over : Rows.fnExactReadAllRow.holds Tryz.pinned (OpenSpec.ofChange Rows.fnExactReadAllSpec) :=
 OpenClaim.holds_of_wide 9 Tryz.f9 rfl rfl rfl rfl rfl rfl rfl ⟨rfl, rfl, rfl, rfl, rfl⟩ rfl rfl rfl rfl rfl (by kernel_rfl) Tryz.func9 (by kernel_rfl)
  (of_decide_eq_true (by kernel_rfl)) (by unfold Func.isWrapper; first | (rw [if_pos (by decide +kernel)]; kernel_rfl) | (rw [if_neg (by decide +kernel)]; exact ⟨rfl, rfl⟩))
  (fun os started H enc _ => lifted os started H enc)
end fnExactReadAll

theorem fnExactReadAll_holds : Rows.FnExactReadAllCardSaid :=
 Claim7.holds_tied_plain_at .later [] [.handle] true Rows.fnExactReadAllCard.stood.harness true fnExactReadAll.over (fun _ h => by cases h) (by kernel_rfl) (fun _ h => by cases h) fnExactReadAll_row_tie rfl ⟨rfl, rfl⟩ (by kernel_rfl) rfl
  (fun f fn hf hfn => by
   obtain rfl : f = 9 := Option.some.inj ((show Tryz.prog.funcNamed Rows.fnExactReadAllRow.func = some 9 by kernel_rfl).symm.trans hf) |>.symm
   obtain rfl : fn = Tryz.f9 := (Option.some.inj (Tryz.func9.symm.trans hfn)).symm
   exact ⟨by kernel_rfl, fun j t ht => by
    rw [Tryz.params9] at ht
    have hm : t ∈ [22] := by simpa using Array.mem_of_getElem? ht
    have hall : ([22].all fun u => !Tryz.prog.wantsStandIn u) = true := by kernel_rfl
    exact (show Tryz.prog.wantsStandIn t = false by simpa using List.all_eq_true.1 hall t hm)⟩)
  (by kernel_rfl)
end Go.Proofs.YtpjkbgdkligpdaaGreatDoor
