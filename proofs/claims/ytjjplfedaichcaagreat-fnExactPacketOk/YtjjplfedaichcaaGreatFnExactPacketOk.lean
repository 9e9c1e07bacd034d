/- FnExactPacketOk: whatever it is handed, the law function laws.FnExactPacketOk returns true, and its arguments read afterwards as before. No condition. -/
import Derived.Test.YtjjplfedaichcaaGreatRows
import Derived.Test.YtjjplfedaichcaaGreatSOk5
import Derived.Test.YtjjplfedaichcaaGreatPTo
import Derived.Test.YtjjplfedaichcaaGreatPOpen
import Derived.WalkKit
import Derived.ProofKit
import Derived.OpenShut
import Derived.ShutString
import Derived.ChangeOld
import Derived.Below
import Derived.Deep.Strs
namespace Go.Proofs.YtjjplfedaichcaaGreat
open Go.ChangeShapes Go.WideShapes Go.ChangeAt Go.RowKit
open Go.ChangeMaps (open_string shut_string)
set_option linter.unusedVariables false
set_option linter.unusedSimpArgs false

theorem cf_to (xs : Array Value) (u : World) : (callFunc 8 xs).run Tryz.prog u = .ok (.enter 8 xs) u := by kernel_rfl
theorem cf_eq (xs : Array Value) (u : World) : (callFunc 10 xs).run Tryz.prog u = .ok (.enter 10 xs) u := by kernel_rfl
theorem sum_mem {α : Type} (f : α → Nat) {l : List α} {x : α} (h : x ∈ l) : f x ≤ (l.map f).sum := by
  induction l with
  | nil => simp at h
  | cons a r ih =>
    simp only [List.map_cons, List.sum_cons]
    rcases List.mem_cons.1 h with rfl | h
    · omega
    · have := ih h; omega
theorem Psm.sz {p : Pk} {d : Pd} {L : Nat} (h : Psm p d L) (hL : L ≤ 1048576) : Psz p d := by
  unfold Psm at h
  refine ⟨by omega, by omega, by omega, by omega, fun x hx => ?_, fun s hs => ?_⟩
  · have : x.1.size ≤ wtot d.wan := sum_mem (fun x : ByteArray × Int => x.1.size) hx
    omega
  · have : s.size ≤ tot d.nam := sum_mem ByteArray.size hs
    omega
set_option maxRecDepth 100000 in
set_option maxHeartbeats 4000000 in
theorem fnExactPacketOk_walk (p : Pk) (d : Pd) (w : World) (hp : PRd w p d ∧ Pok p d) :
    Calls Tryz.prog 3 #[.agg p.cells] w fun e w' => e = .returned (.bool true) ∧ Below w.heap.size w w' := by
  obtain ⟨rp, okp⟩ := hp
  have hb : Below w.heap.size w (w.alloc (.cells p.cells 27)) := bel_new _ _
  have A : BlkL (w.alloc (.cells p.cells 27)) w.heap.size p := heap_alloc_new _ _
  replace rp := rp.below hb
  go_enter Tryz.func3, Tryz.ntmps3
  go_wp2_with (first | refine load_lp A rfl _ rfl rfl ?_ | fail)
  refine (sz_lszPacket p d 1048576 _ (by decide) rp okp).mono ?_
  rintro e y1 ⟨r1, rfl, b1, c1⟩
  replace hb := bel hb b1
  replace A := A.next b1
  replace rp := rp.below b1
  clear b1
  rcases c1 with c1 | ⟨R1, rfl, hR1, sm1⟩
  · go_wp2
    go_ret
    exact ⟨rfl, hb⟩
  have c1 : ¬ (R1 : Int) < 0 := by omega
  have lp : Plen p 1099511627776 := by have := sm1.len; unfold Plen at *; omega
  have sz : Psz p d := sm1.sz (by omega)
  generalize hs : (pv p d).ok = S
  have HS : Hid ((pv p d).ok = S) := hs
  clear hs
  go_wp2_with (first | refine load_lp A rfl _ rfl rfl ?_ | fail)
  refine (to_ltoPacket p d _ rp lp).mono ?_
  rintro e y2 ⟨x, rfl, rx, b2⟩
  replace hb := bel hb b2
  replace A := A.next b2
  replace rp := rp.below b2
  clear b2
  go_wp2_with fail
  refine (ok_sPacketOk (p.re x) d _ rx sz).mono ?_
  rintro e y3 ⟨he, b3⟩
  obtain rfl : e = .returned (.bool S) := he.trans (ret_bool HS.out)
  replace hb := bel hb b3
  replace A := A.next b3
  replace rp := rp.below b3
  clear b3 he rx
  go_wp2_with (first | refine load_lp A rfl _ rfl rfl ?_ | fail)
  refine (to_ltoPacket p d _ rp lp).mono ?_
  rintro e y4 ⟨x2, rfl, rx, b4⟩
  replace hb := bel hb b4
  replace A := A.next b4
  replace rp := rp.below b4
  clear b4
  have b5 := bel_new y4 (.cells (p.re x2).cells 32)
  have C : Blk (y4.alloc (.cells (p.re x2).cells 32)) y4.heap.size (p.re x2) := heap_alloc_new _ _
  replace hb := bel hb b5
  replace A := A.next b5
  replace rp := rp.below b5
  replace rx := rx.below b5
  clear b5
  go_wp2_with (first | refine var_pk (p := p.re x2) rfl rfl ?_ | refine load_pk C rfl _ rfl rfl ?_ | fail)
  refine (ok_iPacketOk (p.re x2) d _ rx sz).mono ?_
  rintro e y6 ⟨he, b6⟩
  obtain rfl : e = .returned (.bool S) := he.trans (ret_bool HS.out)
  replace hb := bel hb b6
  replace A := A.next b6
  replace C := C.next b6
  replace rp := rp.below b6
  replace rx := rx.below b6
  clear b6 he
  have sne : (S != S) = false := by simp
  go_wp2
  refine region_facts (by kernel_rfl) rfl (fun i v u => match i with
    | 0 => v = .agg (p.re x2).cells
    | 1 => v = .agg p.cells
    | 2 => ∃ z, v = .agg (p.re z).cells ∧ PRd u (p.re z) d
    | 3 => v = .bool true
    | _ => v = .bool false) ?_ ?_ ?_
  · intro i v u u' hbu h
    match i, h with
    | 0, h => exact h
    | 1, h => exact h
    | 2, ⟨z, h1, h2⟩ => exact ⟨z, h1, h2.below hbu⟩
    | 3, h => exact h
    | (_ + 4), h => exact h
  · intro i o a u hi hk hbu hdep
    match i, hi with
    | 0, hi =>
      cases hi
      exact st_loadP (C.next hbu) _ rfl (eval_at ((hk.at 5 rfl).trans rfl)) ⟨_, rfl, Below.refl _ _, rfl⟩
    | 1, hi =>
      cases hi
      exact st_loadL (A.next hbu) _ rfl (eval_at ((hk.at 1 rfl).trans rfl)) ⟨_, rfl, Below.refl _ _, rfl⟩
    | 2, hi =>
      cases hi
      obtain ⟨v, hv, rfl⟩ := hdep 1 _ _ rfl rfl rfl
      refine st_call (exec_call1 _ _ _ _ _ _ cf_to (eval_at hv) (fun _ => rfl) _ _ _ _ _ _) ?_
      refine (to_ltoPacket p d _ (rp.below hbu) lp).mono ?_
      rintro e u' ⟨z, rfl, hr, hb'⟩
      exact ⟨_, rfl, _, rfl, hb', z, rfl, hr⟩
    | 3, hi =>
      cases hi
      obtain ⟨v, hv, rfl⟩ := hdep 0 _ _ rfl rfl rfl
      obtain ⟨v', hv', z, rfl, hr⟩ := hdep 2 _ _ rfl rfl rfl
      refine st_call (exec_call2 _ _ _ _ _ _ _ _ cf_eq (eval_at hv) (eval_at hv') (fun _ => rfl) _ _ _ _ _ _) ?_
      refine (eq_leqPacket (p.re x2) z d _ (rx.below hbu) hr lp).mono ?_
      rintro e u' ⟨rfl, hb'⟩
      exact ⟨_, rfl, _, rfl, hb', rfl⟩
    | 4, hi =>
      cases hi
      obtain ⟨v, hv, rfl⟩ := hdep 3 _ _ rfl rfl rfl
      exact st_value (v := .bool false) (w' := u) (by simp [execOp, eval_at hv, Op.unary]) ⟨_, rfl, Below.refl _ _, rfl⟩
    | (_ + 5), hi => cases hi
  intro vs y9 b9 hG a9_ h9_
  have g4 : vs 4 = .bool false := hG 4 (by decide)
  replace h9_ : (⟨#[_, _, _, _, _, _, _, _, _, _, _, _, _, _, _, _, _, _, _, _, _, _, _, _, _, _, _], []⟩ : Act) = a9_ := h9_
  subst h9_
  simp only [g4]
  clear hG
  replace hb := bel hb b9
  go_wp2
  go_ret
  exact ⟨rfl, hb⟩

namespace fnExactPacketOk
theorem own : ownKnob Tryz.prog.godebug = none := by kernel_rfl
theorem laidOut : laidOutB Tryz.prog = true := by kernel_rfl
set_option maxRecDepth 100000 in
theorem lifted (os : Os) (started : os.Started) (H : Type) (enc : TypeId × Value → H) :
    ReturnsInHanded {} Tryz.checked os 3 .any (Rows.fnExactPacketOkSpec.pre6 enc Tryz.prog Tryz.f3 Rows.fnExactPacketOkRow.domain false) (Rows.fnExactPacketOkSpec.post enc Tryz.prog Tryz.f3 false true false false) := by
  refine returnsInHanded_of_change (C := Tryz.checked) own started (by kernel_rfl) Tryz.func3
    (ChangeSpec.witness6 (enc := enc) (C := Tryz.checked) false ⟨#[], #[.agg Pk.zero.cells], []⟩ 8 (by kernel_rfl) (by kernel_rfl) (by kernel_rfl) (by kernel_rfl)) ?_
  intro W base args ds gs before hval0 hW hcnd _
  have hval : ∀ (j : Nat) t v, Tryz.f3.params[j]? = some t → args[j]? = some v → Value.okWide Tryz.prog W .any base t v := hval0
  have hW' := hW
  obtain ⟨p, q, hA0, hV, rfl, hfz, hnd⟩ := hW
  have hA : DataW.TrodAll enc Tryz.prog W 0 (fun _ => true) true Tryz.f3.params.toList args.toList ds p := hA0
  rw [Tryz.params3] at hA hval
  obtain ⟨v0, vs0, d0, ds0, p0, q0, hargs, rfl, rfl, h0, r0⟩ := trodAll_cons hA
  obtain ⟨rfl, rfl, rfl⟩ := trodAll_nil r0
  obtain rfl : args = #[v0] := by cases args; simp_all
  obtain ⟨rfl, rfl⟩ := trodVars_none hV
  have k0 := h0
  have lt0 : ∀ x ∈ p0, x.block < W.heap.size := by obtain ⟨m, hm⟩ := k0; exact DataW.trod_lt m _ _ _ hm
  obtain ⟨a0, z0, rfl, w0⟩ := open_packet (hval 0 27 v0 rfl rfl) h0
  clear hA0 hval0
  refine (fnExactPacketOk_walk a0 z0 W w0).mono fun e W' ⟨he, bel⟩ => ?_
  subst he
  exact ⟨_, rfl, _, _, _, [], _, [], hW', trodAll_mk1 (shut_bool Tryz.underlying4 _), (trodAll_cons_mk (Below.trod laidOut (by kernel_rfl) (of_decide_eq_true (by kernel_rfl)) k0 bel lt0) trodAll_mk0), rfl, bel.frame _, fun h => by cases h⟩

theorem over : Rows.fnExactPacketOkRow.holds Tryz.pinned (OpenSpec.ofChange Rows.fnExactPacketOkSpec) :=
  OpenClaim.holds_of_wide 3 Tryz.f3 rfl rfl rfl rfl rfl rfl rfl ⟨rfl, rfl, rfl, rfl, rfl⟩ rfl rfl rfl rfl rfl (by kernel_rfl) Tryz.func3 (by kernel_rfl)
    (of_decide_eq_true (by kernel_rfl)) (by unfold Func.isWrapper; first | (rw [if_pos (by decide +kernel)]; kernel_rfl) | (rw [if_neg (by decide +kernel)]; exact ⟨rfl, rfl⟩))
    (fun os started H enc _ => lifted os started H enc)
end fnExactPacketOk

theorem fnExactPacketOk_holds : Rows.FnExactPacketOkSaid := fnExactPacketOk.over
end Go.Proofs.YtjjplfedaichcaaGreat
