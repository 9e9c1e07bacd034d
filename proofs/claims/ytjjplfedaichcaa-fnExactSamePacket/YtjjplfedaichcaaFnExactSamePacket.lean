/- FnExactSamePacket: whatever it is handed, the law function laws.FnExactSamePacket returns true, and its arguments read afterwards as before. No condition. -/
import Derived.Test.YtjjplfedaichcaaRows
import Derived.Test.YtjjplfedaichcaaPRow
import Derived.Test.YtjjplfedaichcaaSameS
import Derived.Test.YtjjplfedaichcaaPTo
import Derived.Test.YtjjplfedaichcaaPOpen
import Derived.WalkKit
import Derived.ProofKit
import Derived.OpenShut
import Derived.ShutString
import Derived.ChangeOld
import Derived.Below
import Derived.Deep.Strs
namespace Go.Proofs.Ytjjplfedaichcaa
open Go.ChangeShapes Go.WideShapes Go.ChangeAt Go.RowKit
open Go.ChangeMaps (open_string shut_string)
set_option linter.unusedVariables false
set_option linter.unusedSimpArgs false

theorem cf_to (xs : Array Value) (u : World) : (callFunc 6 xs).run Try.prog u = .ok (.enter 6 xs) u := by kernel_rfl
theorem cf_same (xs : Array Value) (u : World) : (callFunc 5 xs).run Try.prog u = .ok (.enter 5 xs) u := by kernel_rfl
theorem cf_eq (xs : Array Value) (u : World) : (callFunc 8 xs).run Try.prog u = .ok (.enter 8 xs) u := by kernel_rfl
set_option maxRecDepth 100000 in
set_option maxHeartbeats 4000000 in
theorem fnExactSamePacket_walk (p : Pk) (d : Pd) (q : Pk) (d' : Pd) (w : World) (hp : PRd w p d ∧ Pok p d) (hq : PRd w q d' ∧ Pok q d') :
    Calls Try.prog 3 #[.agg p.cells, .agg q.cells] w fun e w' => e = .returned (.bool true) ∧ Below w.heap.size w w' := by
  obtain ⟨rp, okp⟩ := hp
  obtain ⟨rq, okq⟩ := hq
  have hb : Below w.heap.size w ((w.alloc (.cells p.cells 27)).alloc (.cells q.cells 27)) := ((Below.refl _ _).alloc (Nat.le_refl _) _).alloc (by simp) _
  have A : BlkL ((w.alloc (.cells p.cells 27)).alloc (.cells q.cells 27)) w.heap.size p := heap_alloc2_old _ _ _
  have B : BlkL ((w.alloc (.cells p.cells 27)).alloc (.cells q.cells 27)) (w.heap.size + 1) q := heap_alloc2_new _ _ _
  replace rp := rp.below hb
  replace rq := rq.below hb
  go_enter Try.func3, Try.ntmps3
  go_wp2_with (first | refine load_lp A rfl _ rfl rfl ?_ | fail)
  refine (sz_lszPacket p d 1048576 _ (by decide) rp okp).mono ?_
  rintro e y1 ⟨r1, rfl, b1, c1⟩
  replace hb := bel hb b1
  replace A := A.next b1
  replace B := B.next b1
  replace rp := rp.below b1
  replace rq := rq.below b1
  clear b1
  rcases c1 with c1 | ⟨R1, rfl, hR1, sm1⟩
  · go_wp2
    go_ret
    exact ⟨rfl, hb⟩
  have c1 : ¬ (R1 : Int) < 0 := by omega
  go_wp2_with (first | refine load_lp B rfl _ rfl rfl ?_ | fail)
  refine (sz_lszPacket q d' R1 _ (by omega) rq okq).mono ?_
  rintro e y2 ⟨r2, rfl, b2, c2⟩
  replace hb := bel hb b2
  replace A := A.next b2
  replace B := B.next b2
  replace rp := rp.below b2
  replace rq := rq.below b2
  clear b2
  rcases c2 with c2 | ⟨R2, rfl, hR2, sm2⟩
  · go_wp2
    go_ret
    exact ⟨rfl, hb⟩
  have c2 : ¬ (R2 : Int) < 0 := by omega
  have lp : Plen p 1099511627776 := by have := sm1.len; unfold Plen at *; omega
  have lq : Plen q 1099511627776 := by have := sm2.len; unfold Plen at *; omega
  go_wp2
  refine region_facts (by kernel_rfl) rfl (fun i v u => match i with
    | 0 => v = .agg p.cells
    | 1 => ∃ x, v = .agg (p.re x).cells ∧ PRd u (p.re x) d
    | 2 => v = .agg q.cells
    | 3 => ∃ x, v = .agg (q.re x).cells ∧ PRd u (q.re x) d'
    | _ => v = .bool (decide (pv p d = pv q d'))) ?_ ?_ ?_
  · intro i v u u' hbu h
    match i, h with
    | 0, h => exact h
    | 1, ⟨x, h1, h2⟩ => exact ⟨x, h1, h2.below hbu⟩
    | 2, h => exact h
    | 3, ⟨x, h1, h2⟩ => exact ⟨x, h1, h2.below hbu⟩
    | (_ + 4), h => exact h
  · intro i o a u hi hk hbu hdep
    match i, hi with
    | 0, hi =>
      cases hi
      exact st_loadL (A.next hbu) _ rfl (eval_at ((hk.at 2 rfl).trans rfl)) ⟨_, rfl, Below.refl _ _, rfl⟩
    | 1, hi =>
      cases hi
      obtain ⟨v, hv, rfl⟩ := hdep 0 _ _ rfl rfl rfl
      refine st_call (exec_call1 _ _ _ _ _ _ cf_to (eval_at hv) (fun _ => rfl) _ _ _ _ _ _) ?_
      refine (to_ltoPacket p d _ (rp.below hbu) lp).mono ?_
      rintro e u' ⟨x, rfl, hr, hb'⟩
      exact ⟨_, rfl, _, rfl, hb', x, rfl, hr⟩
    | 2, hi =>
      cases hi
      exact st_loadL (B.next hbu) _ rfl (eval_at ((hk.at 3 rfl).trans rfl)) ⟨_, rfl, Below.refl _ _, rfl⟩
    | 3, hi =>
      cases hi
      obtain ⟨v, hv, rfl⟩ := hdep 2 _ _ rfl rfl rfl
      refine st_call (exec_call1 _ _ _ _ _ _ cf_to (eval_at hv) (fun _ => rfl) _ _ _ _ _ _) ?_
      refine (to_ltoPacket q d' _ (rq.below hbu) lq).mono ?_
      rintro e u' ⟨x, rfl, hr, hb'⟩
      exact ⟨_, rfl, _, rfl, hb', x, rfl, hr⟩
    | 4, hi =>
      cases hi
      obtain ⟨v, hv, x, rfl, hr⟩ := hdep 1 _ _ rfl rfl rfl
      obtain ⟨v', hv', x', rfl, hr'⟩ := hdep 3 _ _ rfl rfl rfl
      refine st_call (exec_call2 _ _ _ _ _ _ _ _ cf_same (eval_at hv) (eval_at hv') (fun _ => rfl) _ _ _ _ _ _) ?_
      refine (same_sSamePacket (p.re x) (q.re x') d d' _ hr hr').mono ?_
      rintro e u' ⟨rfl, hb'⟩
      exact ⟨_, rfl, _, rfl, hb', rfl⟩
    | 5, hi =>
      cases hi
      obtain ⟨v, hv, rfl⟩ := hdep 4 _ _ rfl rfl rfl
      exact st_value (by simp [execOp, eval_at hv]) ⟨_, rfl, Below.refl _ _, rfl⟩
    | (_ + 6), hi => cases hi
  intro vs y3 b3 hG a3 h3
  have g5 : vs 5 = .bool (decide (pv p d = pv q d')) := hG 5 (by decide)
  replace h3 : (⟨#[_, _, _, _, _, _, _, _, _, _, _, _, _, _, _, _, _, _, _, _, _, _, _, _, _, _, _, _, _, _, _, _, _, _, _, _, _, _, _, _, _, _, _, _, _], []⟩ : Act) = a3 := h3
  subst h3
  simp only [g5]
  replace hb := bel hb b3
  replace A := A.next b3
  replace B := B.next b3
  replace rp := rp.below b3
  replace rq := rq.below b3
  clear b3 hG
  generalize hs : decide (pv p d = pv q d') = S
  have HS : Hid (decide (pv p d = pv q d') = S) := hs
  clear hs
  go_wp2_with (first | refine load_lp A rfl _ rfl rfl ?_ | fail)
  refine (to_ltoPacket p d _ rp lp).mono ?_
  rintro e y4 ⟨x, rfl, rx, b4⟩
  replace hb := bel hb b4
  replace A := A.next b4
  replace B := B.next b4
  replace rp := rp.below b4
  replace rq := rq.below b4
  clear b4
  have b5 := bel_new y4 (.cells (p.re x).cells 32)
  have C : Blk (y4.alloc (.cells (p.re x).cells 32)) y4.heap.size (p.re x) := heap_alloc_new _ _
  replace hb := bel hb b5
  replace A := A.next b5
  replace B := B.next b5
  replace rp := rp.below b5
  replace rq := rq.below b5
  replace rx := rx.below b5
  clear b5
  go_wp2_with (first | refine load_lp B rfl _ rfl rfl ?_ | refine var_pk (p := p.re x) rfl rfl ?_ | fail)
  refine (to_ltoPacket q d' _ rq lq).mono ?_
  rintro e y6 ⟨x', rfl, rx', b6⟩
  replace hb := bel hb b6
  replace A := A.next b6
  replace B := B.next b6
  replace C := C.next b6
  replace rp := rp.below b6
  replace rq := rq.below b6
  replace rx := rx.below b6
  clear b6
  have b7 := bel_new y6 (.cells (q.re x').cells 32)
  have D : Blk (y6.alloc (.cells (q.re x').cells 32)) y6.heap.size (q.re x') := heap_alloc_new _ _
  replace hb := bel hb b7
  replace A := A.next b7
  replace B := B.next b7
  replace C := C.next b7
  replace rp := rp.below b7
  replace rq := rq.below b7
  replace rx := rx.below b7
  replace rx' := rx'.below b7
  clear b7
  go_wp2_with (first | refine var_pk (p := q.re x') rfl rfl ?_ | refine load_pk C rfl _ rfl rfl ?_ | refine load_pk D rfl _ rfl rfl ?_ | fail)
  refine (same_iSamePacket (p.re x) (q.re x') d d' _ rx rx').mono ?_
  rintro e y8 ⟨he, b8⟩
  obtain rfl : e = .returned (.bool S) := he.trans (ret_bool HS.out)
  replace hb := bel hb b8
  replace A := A.next b8
  replace B := B.next b8
  replace C := C.next b8
  replace D := D.next b8
  replace rp := rp.below b8
  replace rq := rq.below b8
  replace rx := rx.below b8
  replace rx' := rx'.below b8
  clear b8 he
  have sne : (S != S) = false := by simp
  go_wp2
  refine region_facts (by kernel_rfl) rfl (fun i v u => match i with
    | 0 => v = .agg (p.re x).cells
    | 1 => v = .agg p.cells
    | 2 => ∃ z, v = .agg (p.re z).cells ∧ PRd u (p.re z) d
    | 3 => v = .bool true
    | _ => v = .bool false) ?_ ?_ ?_
  · intro i v u u' hbu h
    match i, h with
    | 0, h => exact h
    | 1, h => exact h
    | 2, ⟨z, h1, h2⟩ => exact ⟨z, h1, h2.below hbu⟩
    | 3, h => exact h
    | (_ + 4), h => exact h
  · intro i o a u hi hk hbu hdep
    match i, hi with
    | 0, hi =>
      cases hi
      exact st_loadP (C.next hbu) _ rfl (eval_at ((hk.at 7 rfl).trans rfl)) ⟨_, rfl, Below.refl _ _, rfl⟩
    | 1, hi =>
      cases hi
      exact st_loadL (A.next hbu) _ rfl (eval_at ((hk.at 2 rfl).trans rfl)) ⟨_, rfl, Below.refl _ _, rfl⟩
    | 2, hi =>
      cases hi
      obtain ⟨v, hv, rfl⟩ := hdep 1 _ _ rfl rfl rfl
      refine st_call (exec_call1 _ _ _ _ _ _ cf_to (eval_at hv) (fun _ => rfl) _ _ _ _ _ _) ?_
      refine (to_ltoPacket p d _ (rp.below hbu) lp).mono ?_
      rintro e u' ⟨z, rfl, hr, hb'⟩
      exact ⟨_, rfl, _, rfl, hb', z, rfl, hr⟩
    | 3, hi =>
      cases hi
      obtain ⟨v, hv, rfl⟩ := hdep 0 _ _ rfl rfl rfl
      obtain ⟨v', hv', z, rfl, hr⟩ := hdep 2 _ _ rfl rfl rfl
      refine st_call (exec_call2 _ _ _ _ _ _ _ _ cf_eq (eval_at hv) (eval_at hv') (fun _ => rfl) _ _ _ _ _ _) ?_
      refine (eq_leqPacket (p.re x) z d _ (rx.below hbu) hr lp).mono ?_
      rintro e u' ⟨rfl, hb'⟩
      exact ⟨_, rfl, _, rfl, hb', rfl⟩
    | 4, hi =>
      cases hi
      obtain ⟨v, hv, rfl⟩ := hdep 3 _ _ rfl rfl rfl
      exact st_value (v := .bool false) (w' := u) (by simp [execOp, eval_at hv, Op.unary]) ⟨_, rfl, Below.refl _ _, rfl⟩
    | (_ + 5), hi => cases hi
  intro vs y9 b9 hG a9_ h9_
  have g4 : vs 4 = .bool false := hG 4 (by decide)
  replace h9_ : (⟨#[_, _, _, _, _, _, _, _, _, _, _, _, _, _, _, _, _, _, _, _, _, _, _, _, _, _, _, _, _, _, _, _, _, _, _, _, _, _, _, _, _, _, _, _, _], []⟩ : Act) = a9_ := h9_
  subst h9_
  simp only [g4]
  clear hG
  replace hb := bel hb b9
  replace B := B.next b9
  replace D := D.next b9
  replace rq := rq.below b9
  replace rx' := rx'.below b9
  clear b9
  go_wp2
  refine region_facts (by kernel_rfl) rfl (fun i v u => match i with
    | 0 => v = .agg (q.re x').cells
    | 1 => v = .agg q.cells
    | 2 => ∃ z, v = .agg (q.re z).cells ∧ PRd u (q.re z) d'
    | 3 => v = .bool true
    | _ => v = .bool false) ?_ ?_ ?_
  · intro i v u u' hbu h
    match i, h with
    | 0, h => exact h
    | 1, h => exact h
    | 2, ⟨z, h1, h2⟩ => exact ⟨z, h1, h2.below hbu⟩
    | 3, h => exact h
    | (_ + 4), h => exact h
  · intro i o a u hi hk hbu hdep
    match i, hi with
    | 0, hi =>
      cases hi
      exact st_loadP (D.next hbu) _ rfl (eval_at ((hk.at 8 rfl).trans rfl)) ⟨_, rfl, Below.refl _ _, rfl⟩
    | 1, hi =>
      cases hi
      exact st_loadL (B.next hbu) _ rfl (eval_at ((hk.at 3 rfl).trans rfl)) ⟨_, rfl, Below.refl _ _, rfl⟩
    | 2, hi =>
      cases hi
      obtain ⟨v, hv, rfl⟩ := hdep 1 _ _ rfl rfl rfl
      refine st_call (exec_call1 _ _ _ _ _ _ cf_to (eval_at hv) (fun _ => rfl) _ _ _ _ _ _) ?_
      refine (to_ltoPacket q d' _ (rq.below hbu) lq).mono ?_
      rintro e u' ⟨z, rfl, hr, hb'⟩
      exact ⟨_, rfl, _, rfl, hb', z, rfl, hr⟩
    | 3, hi =>
      cases hi
      obtain ⟨v, hv, rfl⟩ := hdep 0 _ _ rfl rfl rfl
      obtain ⟨v', hv', z, rfl, hr⟩ := hdep 2 _ _ rfl rfl rfl
      refine st_call (exec_call2 _ _ _ _ _ _ _ _ cf_eq (eval_at hv) (eval_at hv') (fun _ => rfl) _ _ _ _ _ _) ?_
      refine (eq_leqPacket (q.re x') z d' _ (rx'.below hbu) hr lq).mono ?_
      rintro e u' ⟨rfl, hb'⟩
      exact ⟨_, rfl, _, rfl, hb', rfl⟩
    | 4, hi =>
      cases hi
      obtain ⟨v, hv, rfl⟩ := hdep 3 _ _ rfl rfl rfl
      exact st_value (v := .bool false) (w' := u) (by simp [execOp, eval_at hv, Op.unary]) ⟨_, rfl, Below.refl _ _, rfl⟩
    | (_ + 5), hi => cases hi
  intro vs y10 b10 hG a10_ h10_
  have g4 : vs 4 = .bool false := hG 4 (by decide)
  replace h10_ : (⟨#[_, _, _, _, _, _, _, _, _, _, _, _, _, _, _, _, _, _, _, _, _, _, _, _, _, _, _, _, _, _, _, _, _, _, _, _, _, _, _, _, _, _, _, _, _], []⟩ : Act) = a10_ := h10_
  subst h10_
  simp only [g4]
  clear hG
  replace hb := bel hb b10
  go_wp2
  go_ret
  exact ⟨rfl, hb⟩

namespace fnExactSamePacket
theorem own : ownKnob Try.prog.godebug = none := by kernel_rfl
theorem laidOut : laidOutB Try.prog = true := by kernel_rfl
set_option maxRecDepth 100000 in
theorem lifted (os : Os) (started : os.Started) (H : Type) (enc : TypeId × Value → H) :
    ReturnsInHanded {} Try.checked os 3 .any (Rows.fnExactSamePacketSpec.pre6 enc Try.prog Try.f3 Rows.fnExactSamePacketRow.domain false) (Rows.fnExactSamePacketSpec.post enc Try.prog Try.f3 false true false false) := by
  refine returnsInHanded_of_change (C := Try.checked) own started (by kernel_rfl) Try.func3
    (ChangeSpec.witness6 (enc := enc) (C := Try.checked) false ⟨#[], #[.agg Pk.zero.cells, .agg Pk.zero.cells], []⟩ 8 (by kernel_rfl) (by kernel_rfl) (by kernel_rfl) (by kernel_rfl)) ?_
  intro W base args ds gs before hval0 hW hcnd _
  have hval : ∀ (j : Nat) t v, Try.f3.params[j]? = some t → args[j]? = some v → Value.okWide Try.prog W .any base t v := hval0
  have hW' := hW
  obtain ⟨p, q, hA0, hV, rfl, hfz, hnd⟩ := hW
  have hA : DataW.TrodAll enc Try.prog W 0 (fun _ => true) true Try.f3.params.toList args.toList ds p := hA0
  rw [Try.params3] at hA hval
  obtain ⟨v0, vs0, d0, ds0, p0, q0, hargs, rfl, rfl, h0, r0⟩ := trodAll_cons hA
  obtain ⟨v1, vs1, d1, ds1, p1, q1, rfl, rfl, rfl, h1, r1⟩ := trodAll_cons r0
  obtain ⟨rfl, rfl, rfl⟩ := trodAll_nil r1
  obtain rfl : args = #[v0, v1] := by cases args; simp_all
  obtain ⟨rfl, rfl⟩ := trodVars_none hV
  have k0 := h0
  have lt0 : ∀ x ∈ p0, x.block < W.heap.size := by obtain ⟨m, hm⟩ := k0; exact DataW.trod_lt m _ _ _ hm
  obtain ⟨a0, z0, rfl, w0⟩ := open_packet (hval 0 27 v0 rfl rfl) h0
  have k1 := h1
  have lt1 : ∀ x ∈ p1, x.block < W.heap.size := by obtain ⟨m, hm⟩ := k1; exact DataW.trod_lt m _ _ _ hm
  obtain ⟨a1, z1, rfl, w1⟩ := open_packet (hval 1 27 v1 rfl rfl) h1
  clear hA0 hval0
  refine (fnExactSamePacket_walk a0 z0 a1 z1 W w0 w1).mono fun e W' ⟨he, bel⟩ => ?_
  subst he
  exact ⟨_, rfl, _, _, _, [], _, [], hW', trodAll_mk1 (shut_bool Try.underlying4 _), (trodAll_cons_mk (Below.trod laidOut (by kernel_rfl) (of_decide_eq_true (by kernel_rfl)) k0 bel lt0) (trodAll_cons_mk (Below.trod laidOut (by kernel_rfl) (of_decide_eq_true (by kernel_rfl)) k1 bel lt1) trodAll_mk0)), rfl, bel.frame _, fun h => by cases h⟩

theorem over : Rows.fnExactSamePacketRow.holds Try.pinned (OpenSpec.ofChange Rows.fnExactSamePacketSpec) :=
  OpenClaim.holds_of_wide 3 Try.f3 rfl rfl rfl rfl rfl rfl rfl ⟨rfl, rfl, rfl, rfl, rfl⟩ rfl rfl rfl rfl rfl (by kernel_rfl) Try.func3 (by kernel_rfl)
    (of_decide_eq_true (by kernel_rfl)) (by unfold Func.isWrapper; first | (rw [if_pos (by decide +kernel)]; kernel_rfl) | (rw [if_neg (by decide +kernel)]; exact ⟨rfl, rfl⟩))
    (fun os started H enc _ => lifted os started H enc)
end fnExactSamePacket

theorem fnExactSamePacket_holds : Rows.FnExactSamePacketSaid := fnExactSamePacket.over
end Go.Proofs.Ytjjplfedaichcaa
