/- The program's PacketOk, of what its parts do. -/
import Derived.Test.YtfpclkkkenekpaaGreatAnyG
import Derived.Test.YtfpclkkkenekpaaGreatKPac
import Derived.Test.YtfpclkkkenekpaaGreatKRi2
import Derived.Test.YtfpclkkkenekpaaGreatSameS
set_option linter.unusedVariables false
set_option linter.unusedSimpArgs false
namespace Go.Proofs.YtfpclkkkenekpaaGreat
open Go.RowKit

theorem exec_invoke0 (P : Program) (u : World) (ρ : Operand → Value) (x : Operand) (name : String) (r : Result Next) (hm : (callMethod (ρ x) name #[]).run P u = r) (d : Option Tmp) (t : TypeId) (p : String) (e : Array Edge) (g : Option (Nat × Bool)) (ts : Array TypeId) :
    (execOp ρ ⟨d, .call { callee := .invoke x name, args := #[], argTypes := ts }, t, p, e, g⟩).run P u = r := by
  rw [← hm]
  simp [execOp, resolve, invoke]
theorem cf_pac (xs : Array Value) (u : World) : (callFunc 63 xs).run Tryz.prog u = .ok (.enter 63 xs) u := by kernel_rfl
theorem cf_isame (xs : Array Value) (u : World) : (callFunc 62 xs).run Tryz.prog u = .ok (.enter 62 xs) u := by kernel_rfl
/-- The kind's name for 'right'. -/
abbrev rightN : String := "loop.example/g00480/impl.right"
set_option maxRecDepth 100000 in
set_option maxHeartbeats 4000000 in
/-- impl.PacketOk, at a kind. -/
theorem ok_core (p : Pk) (d : Pd) (w : World) (hp : PRd w p d) (T : TypeId) (v : Value) (fR : FuncId) (rv : Value) (R : Bool) (q : Pk) (dq : Pd)
    (hkind : ∀ u : World, Calls Tryz.prog 39 #[.agg p.cells] u fun e u' => e = .returned (.iface T v) ∧ Below u.heap.size u u')
    (hne : ∀ (u : World) (x y : Operand), (do eqGuard .neq 64 x y (.iface T v) .nilIface; binOp .neq 64 (.iface T v) .nilIface : Sem Value).run Tryz.prog u = .ok (.bool true) u)
    (hm : ∀ u : World, (callMethod (.iface T v) rightN #[]).run Tryz.prog u = .ok (.enter fR #[rv]) u)
    (hright : ∀ u : World, PRd u p d → Calls Tryz.prog fR #[rv] u fun e u' => e = .returned (.bool R) ∧ Below u.heap.size u u')
    (hpac : ∀ u : World, Calls Tryz.prog 63 #[.iface T v] u fun e u' => e = .returned (.agg q.cells) ∧ Below u.heap.size u u')
    (hq : ∀ u : World, PRd u p d → PRd u q dq) :
    Calls Tryz.prog 38 #[.agg p.cells] w fun e w' => e = .returned (.bool (R && decide (pv q dq = pv p d))) ∧ Below w.heap.size w w' := by
  have hb : Below w.heap.size w (w.alloc (.cells p.cells 32)) := bel_new _ _
  have A : Blk (w.alloc (.cells p.cells 32)) w.heap.size p := heap_alloc_new _ _
  replace hp := hp.below hb
  go_enter Tryz.func38, Tryz.ntmps38
  go_wp2_with (first | refine load_pk A rfl _ rfl rfl ?_ | fail)
  refine (hkind _).mono ?_
  rintro e y ⟨rfl, b1⟩
  replace hb := bel hb b1
  replace A := A.next b1
  replace hp := hp.below b1
  clear b1
  go_wp2
  cases R with
  | true =>
    refine region_facts_g (by kernel_rfl) rfl (fun i u x => match i with
      | 0 | 3 | 7 => u = .iface T v
      | 8 => u = .agg q.cells
      | 9 => u = .agg p.cells
      | 10 | 11 | 12 => u = .bool (decide (pv q dq = pv p d))
      | _ => u = .bool true) ?_ ?_ ?_
    · intro i u x x' hx h
      exact h
    · intro i o a u hi hk hbu hdep
      match i, hi with
      | 0, hi => cases hi; exact g_run (wanted_none rfl _) (st_value (by simp [execOp, eval_at ((hk.at 3 rfl).trans rfl)]) ⟨_, rfl, Below.refl _ _, rfl⟩)
      | 1, hi =>
        cases hi
        obtain ⟨z, hz, rfl⟩ := hdep 0 _ _ rfl rfl rfl
        refine g_run (wanted_none rfl _) (st_value (v := .bool true) (w' := u) ?_ ⟨_, rfl, Below.refl _ _, rfl⟩)
        have ev : a.eval (.const .nilIface) = .nilIface := rfl
        simp only [execOp, eval_at hz, ev, Sem.run_bind, hne, Result.andThen_ok, Sem.run_pure]
      | 2, hi =>
        cases hi
        obtain ⟨z, hz, rfl⟩ := hdep 1 _ _ rfl rfl rfl
        exact g_run (wanted_none rfl _) (st_value (by simp [execOp, eval_at hz]) ⟨_, rfl, Below.refl _ _, rfl⟩)
      | 3, hi =>
        cases hi
        obtain ⟨z, hz, rfl⟩ := hdep 2 _ _ rfl rfl rfl
        exact g_run (wanted_yes rfl (yields rfl hz)) (st_value (by simp [execOp, eval_at ((hk.at 3 rfl).trans rfl)]) ⟨_, rfl, Below.refl _ _, rfl⟩)
      | 4, hi =>
        cases hi
        obtain ⟨z, hz, rfl⟩ := hdep 2 _ _ rfl rfl rfl
        obtain ⟨z', hz', rfl⟩ := hdep 3 _ _ rfl rfl rfl
        refine g_run (wanted_yes rfl (yields rfl hz)) (st_call (exec_invoke0 _ _ _ _ _ _ (by rw [eval_at hz']; exact hm u) _ _ _ _ _ _) ?_)
        refine (hright u (hp.below hbu)).mono ?_
        rintro e u' ⟨rfl, hb'⟩
        exact ⟨_, rfl, _, rfl, hb', rfl⟩
      | 5, hi =>
        cases hi
        obtain ⟨z, hz, rfl⟩ := hdep 2 _ _ rfl rfl rfl
        obtain ⟨z', hz', rfl⟩ := hdep 4 _ _ rfl rfl rfl
        exact g_run (wanted_none rfl _) (st_value (v := .bool true) (w' := u) (by simp [execOp, eval_at hz, eval_at hz', asBool]) ⟨_, rfl, Below.refl _ _, rfl⟩)
      | 6, hi =>
        cases hi
        obtain ⟨z, hz, rfl⟩ := hdep 5 _ _ rfl rfl rfl
        exact g_run (wanted_none rfl _) (st_value (by simp [execOp, eval_at hz]) ⟨_, rfl, Below.refl _ _, rfl⟩)
      | 7, hi =>
        cases hi
        obtain ⟨z, hz, rfl⟩ := hdep 6 _ _ rfl rfl rfl
        exact g_run (wanted_yes rfl (yields rfl hz)) (st_value (by simp [execOp, eval_at ((hk.at 3 rfl).trans rfl)]) ⟨_, rfl, Below.refl _ _, rfl⟩)
      | 8, hi =>
        cases hi
        obtain ⟨z, hz, rfl⟩ := hdep 6 _ _ rfl rfl rfl
        obtain ⟨z', hz', rfl⟩ := hdep 7 _ _ rfl rfl rfl
        refine g_run (wanted_yes rfl (yields rfl hz)) (st_call (exec_call1 _ _ _ _ _ _ cf_pac (eval_at hz') (fun _ => rfl) _ _ _ _ _ _) ?_)
        refine (hpac u).mono ?_
        rintro e u' ⟨rfl, hb'⟩
        exact ⟨_, rfl, _, rfl, hb', rfl⟩
      | 9, hi =>
        cases hi
        obtain ⟨z, hz, rfl⟩ := hdep 6 _ _ rfl rfl rfl
        exact g_run (wanted_yes rfl (yields rfl hz)) (st_loadP (A.next hbu) _ rfl (eval_at ((hk.at 1 rfl).trans rfl)) ⟨_, rfl, Below.refl _ _, rfl⟩)
      | 10, hi =>
        cases hi
        obtain ⟨z, hz, rfl⟩ := hdep 6 _ _ rfl rfl rfl
        obtain ⟨z8, hz8, rfl⟩ := hdep 8 _ _ rfl rfl rfl
        obtain ⟨z9, hz9, rfl⟩ := hdep 9 _ _ rfl rfl rfl
        refine g_run (wanted_yes rfl (yields rfl hz)) (st_call (exec_call2 _ _ _ _ _ _ _ _ cf_isame (eval_at hz8) (eval_at hz9) (fun _ => rfl) _ _ _ _ _ _) ?_)
        refine (same_iSamePacket q p dq d u (hq u (hp.below hbu)) (hp.below hbu)).mono ?_
        rintro e u' ⟨rfl, hb'⟩
        exact ⟨_, rfl, _, rfl, hb', rfl⟩
      | 11, hi =>
        cases hi
        obtain ⟨z, hz, rfl⟩ := hdep 6 _ _ rfl rfl rfl
        obtain ⟨z', hz', rfl⟩ := hdep 10 _ _ rfl rfl rfl
        exact g_run (wanted_none rfl _) (st_value (v := .bool (decide (pv q dq = pv p d))) (w' := u) (by simp [execOp, eval_at hz, eval_at hz', asBool]) ⟨_, rfl, Below.refl _ _, rfl⟩)
      | 12, hi =>
        cases hi
        obtain ⟨z, hz, rfl⟩ := hdep 11 _ _ rfl rfl rfl
        exact g_run (wanted_none rfl _) (st_value (by simp [execOp, eval_at hz]) ⟨_, rfl, Below.refl _ _, rfl⟩)
      | (_ + 13), hi => cases hi
    · intro vs y3 b3 hG a3 h3
      have g12 : vs 12 = .bool (decide (pv q dq = pv p d)) := hG 12 (by decide)
      have s2 := puts_slot h3 rfl 12 rfl rfl
      rw [g12] at s2
      have hd := (puts_def h3).trans (show _ = [] from rfl)
      clear h3 hG
      replace hb := bel hb b3
      go_wp2
      refine bodyPost_ret (results_tmp rfl _ _ _) hd ⟨?_, hb⟩
      rw [getD_at s2]
      rfl
  | false =>
    refine region_facts_g (by kernel_rfl) rfl (fun i u x => match i with
      | 0 | 3 => u = .iface T v
      | 1 | 2 => u = .bool true
      | 7 | 8 | 9 | 10 => True
      | _ => u = .bool false) ?_ ?_ ?_
    · intro i u x x' hx h
      exact h
    · intro i o a u hi hk hbu hdep
      match i, hi with
      | 0, hi => cases hi; exact g_run (wanted_none rfl _) (st_value (by simp [execOp, eval_at ((hk.at 3 rfl).trans rfl)]) ⟨_, rfl, Below.refl _ _, rfl⟩)
      | 1, hi =>
        cases hi
        obtain ⟨z, hz, rfl⟩ := hdep 0 _ _ rfl rfl rfl
        refine g_run (wanted_none rfl _) (st_value (v := .bool true) (w' := u) ?_ ⟨_, rfl, Below.refl _ _, rfl⟩)
        have ev : a.eval (.const .nilIface) = .nilIface := rfl
        simp only [execOp, eval_at hz, ev, Sem.run_bind, hne, Result.andThen_ok, Sem.run_pure]
      | 2, hi =>
        cases hi
        obtain ⟨z, hz, rfl⟩ := hdep 1 _ _ rfl rfl rfl
        exact g_run (wanted_none rfl _) (st_value (by simp [execOp, eval_at hz]) ⟨_, rfl, Below.refl _ _, rfl⟩)
      | 3, hi =>
        cases hi
        obtain ⟨z, hz, rfl⟩ := hdep 2 _ _ rfl rfl rfl
        exact g_run (wanted_yes rfl (yields rfl hz)) (st_value (by simp [execOp, eval_at ((hk.at 3 rfl).trans rfl)]) ⟨_, rfl, Below.refl _ _, rfl⟩)
      | 4, hi =>
        cases hi
        obtain ⟨z, hz, rfl⟩ := hdep 2 _ _ rfl rfl rfl
        obtain ⟨z', hz', rfl⟩ := hdep 3 _ _ rfl rfl rfl
        refine g_run (wanted_yes rfl (yields rfl hz)) (st_call (exec_invoke0 _ _ _ _ _ _ (by rw [eval_at hz']; exact hm u) _ _ _ _ _ _) ?_)
        refine (hright u (hp.below hbu)).mono ?_
        rintro e u' ⟨rfl, hb'⟩
        exact ⟨_, rfl, _, rfl, hb', rfl⟩
      | 5, hi =>
        cases hi
        obtain ⟨z, hz, rfl⟩ := hdep 2 _ _ rfl rfl rfl
        obtain ⟨z', hz', rfl⟩ := hdep 4 _ _ rfl rfl rfl
        exact g_run (wanted_none rfl _) (st_value (v := .bool false) (w' := u) (by simp [execOp, eval_at hz, eval_at hz', asBool]) ⟨_, rfl, Below.refl _ _, rfl⟩)
      | 6, hi =>
        cases hi
        obtain ⟨z, hz, rfl⟩ := hdep 5 _ _ rfl rfl rfl
        exact g_run (wanted_none rfl _) (st_value (by simp [execOp, eval_at hz]) ⟨_, rfl, Below.refl _ _, rfl⟩)
      | 7, hi =>
        cases hi
        obtain ⟨z, hz, rfl⟩ := hdep 6 _ _ rfl rfl rfl
        exact g_skip (wanted_no rfl (yields rfl hz)) trivial
      | 8, hi =>
        cases hi
        obtain ⟨z, hz, rfl⟩ := hdep 6 _ _ rfl rfl rfl
        exact g_skip (wanted_no rfl (yields rfl hz)) trivial
      | 9, hi =>
        cases hi
        obtain ⟨z, hz, rfl⟩ := hdep 6 _ _ rfl rfl rfl
        exact g_skip (wanted_no rfl (yields rfl hz)) trivial
      | 10, hi =>
        cases hi
        obtain ⟨z, hz, rfl⟩ := hdep 6 _ _ rfl rfl rfl
        exact g_skip (wanted_no rfl (yields rfl hz)) trivial
      | 11, hi =>
        cases hi
        obtain ⟨z, hz, rfl⟩ := hdep 6 _ _ rfl rfl rfl
        have ev : a.eval (.const (.bool false)) = .bool false := rfl
        exact g_run (wanted_none rfl _) (st_value (v := .bool false) (w' := u) (by simp [execOp, eval_at hz, ev, asBool]) ⟨_, rfl, Below.refl _ _, rfl⟩)
      | 12, hi =>
        cases hi
        obtain ⟨z, hz, rfl⟩ := hdep 11 _ _ rfl rfl rfl
        exact g_run (wanted_none rfl _) (st_value (by simp [execOp, eval_at hz]) ⟨_, rfl, Below.refl _ _, rfl⟩)
      | (_ + 13), hi => cases hi
    · intro vs y3 b3 hG a3 h3
      have g12 : vs 12 = .bool false := hG 12 (by decide)
      have s2 := puts_slot h3 rfl 12 rfl rfl
      rw [g12] at s2
      have hd := (puts_def h3).trans (show _ = [] from rfl)
      clear h3 hG
      replace hb := bel hb b3
      go_wp2
      refine bodyPost_ret (results_tmp rfl _ _ _) hd ⟨?_, hb⟩
      rw [getD_at s2]
      rfl
end Go.Proofs.YtfpclkkkenekpaaGreat
