/- The specification's PacketOk of a packet that is as its kind names it: a connect. -/
import Derived.Test.YtccjiicjlifmiaaGreatDoorSOk
import Derived.Test.YtccjiicjlifmiaaGreatDoorKRig
import Derived.Test.YtccjiicjlifmiaaGreatDoorOks
import Derived.BigGuardPart
set_option linter.unusedVariables false
set_option linter.unusedSimpArgs false
namespace Go.Proofs.YtccjiicjlifmiaaGreatDoor
open Go.RowKit

set_option maxRecDepth 100000 in
set_option maxHeartbeats 4000000 in
theorem sok_1 (p : Pk) (d : Pd) (w : World) (hp : PRd w p d) (q : Pk) (dq : Pd) (ht : 1 ≤ p.ty ∧ p.ty ≤ 14)
    (hnam : ∀ u : World, Calls Tryz.prog 70 #[.agg p.cells] u fun e u' => e = .returned (.agg q.cells) ∧ Below u.heap.size u u')
    (hq : ∀ u : World, PRd u p d → PRd u q dq) (hk : p.ty = 1) (heq : pv p d = pv q dq) (h1 : p.cli.size ≤ 1048576) (h2 : p.us.size ≤ 1048576) (h3 : p.wt.size ≤ 1048576) :
    Calls Tryz.prog 17 #[.agg p.cells] w fun e w' => e = .returned (.bool ((!p.hw || (topOk p.wt.data.toList && (decide ((p.wb.n : Int) ≤ 40) && inB p.wq 0 2))) && (inB p.lev 0 255 && (okT p.cli.data.toList && (inB p.kee 0 65535 && (okT p.us.data.toList && decide ((p.pa.n : Int) ≤ 60))))))) ∧ Below w.heap.size w w' := by
  have hb : Below w.heap.size w (w.alloc (.cells p.cells 28)) := bel_new _ _
  have A : Blk (w.alloc (.cells p.cells 28)) w.heap.size p := heap_alloc_new _ _
  replace hp := hp.below hb
  go_enter Tryz.func17, Tryz.ntmps17
  go_wp2
  refine region_facts_g (by kernel_rfl) rfl (fun i u x => match i with
    | 0 => u = .pointer (some ((⟨w.heap.size, 0, none⟩ : Addr).add 0))
    | 1 => u = .int .i64 p.ty
    | 2 => u = .bool true
    | 3 | 4 => u = .bool false
    | 5 | 6 => u = .agg p.cells
    | 7 => u = .agg q.cells
    | 8 => u = .bool (decide (pv p d = pv q dq))
    | _ => u = .bool (!decide (pv p d = pv q dq))) ?_ ?_ ?_
  · intro i u x x' hx h
    exact h
  · intro i o a u hi hk hbu hdep
    match i, hi with
    | 0, hi =>
      cases hi
      have e1 : a.tmps[1]? = some (.pointer (some ⟨w.heap.size, 0, none⟩)) := (hk.at 1 rfl).trans rfl
      exact g_run (wanted_none rfl _) (st_value (w' := u) (v := .pointer (some ((⟨w.heap.size, 0, none⟩ : Addr).add 0))) (by simp only [execOp, eval_at e1, Sem.run_bind, fld0, Result.andThen_ok, Sem.run_pure]) ⟨_, rfl, Below.refl _ _, rfl⟩)
    | 1, hi =>
      cases hi
      obtain ⟨z, hz, rfl⟩ := hdep 0 _ _ rfl rfl rfl
      have hl := load_cell (P := Tryz.prog) (w := u) Tryz.underlying3 rfl (X := (⟨w.heap.size, 0, none⟩ : Addr).add 0) (((A.next hbu).cell 0).trans p.c0)
      exact g_run (wanted_none rfl _) (st_value (w' := u) (v := .int .i64 p.ty) (by simp only [execOp, eval_at hz, Sem.run_bind, hl, Result.andThen_ok, Sem.run_pure]) ⟨_, rfl, Below.refl _ _, rfl⟩)
    | 2, hi =>
      cases hi
      obtain ⟨z, hz, rfl⟩ := hdep 1 _ _ rfl rfl rfl
      refine g_run (wanted_none rfl _) (st_call (exec_call3 _ _ _ _ _ _ _ _ _ _ cf_l1In (eval_at hz) rfl rfl (fun _ => rfl) _ _ _ _ _ _) ?_)
      refine (in_sl1Inb _ _ _ true _ (decide_eq_true ht)).mono ?_
      rintro e u' ⟨rfl, rfl⟩
      exact ⟨_, rfl, _, rfl, Below.refl _ _, rfl⟩
    | 3, hi =>
      cases hi
      obtain ⟨z, hz, rfl⟩ := hdep 2 _ _ rfl rfl rfl
      exact g_run (wanted_none rfl _) (st_value (v := .bool false) (w' := u) (by simp [execOp, eval_at hz, Op.unary]) ⟨_, rfl, Below.refl _ _, rfl⟩)
    | 4, hi =>
      cases hi
      obtain ⟨z, hz, rfl⟩ := hdep 3 _ _ rfl rfl rfl
      exact g_run (wanted_none rfl _) (st_value (by simp [execOp, eval_at hz]) ⟨_, rfl, Below.refl _ _, rfl⟩)
    | 5, hi =>
      cases hi
      obtain ⟨z, hz, rfl⟩ := hdep 4 _ _ rfl rfl rfl
      exact g_run (wanted_is rfl (yields rfl hz)) (st_loadP (A.next hbu) _ rfl (eval_at ((hk.at 1 rfl).trans rfl)) ⟨_, rfl, Below.refl _ _, rfl⟩)
    | 6, hi =>
      cases hi
      obtain ⟨z, hz, rfl⟩ := hdep 4 _ _ rfl rfl rfl
      exact g_run (wanted_is rfl (yields rfl hz)) (st_loadP (A.next hbu) _ rfl (eval_at ((hk.at 1 rfl).trans rfl)) ⟨_, rfl, Below.refl _ _, rfl⟩)
    | 7, hi =>
      cases hi
      obtain ⟨z, hz, rfl⟩ := hdep 4 _ _ rfl rfl rfl
      obtain ⟨z', hz', rfl⟩ := hdep 6 _ _ rfl rfl rfl
      refine g_run (wanted_is rfl (yields rfl hz)) (st_call (exec_call1 _ _ _ _ _ _ cf_snam (eval_at hz') (fun _ => rfl) _ _ _ _ _ _) ?_)
      refine (hnam u).mono ?_
      rintro e u' ⟨rfl, hb'⟩
      exact ⟨_, rfl, _, rfl, hb', rfl⟩
    | 8, hi =>
      cases hi
      obtain ⟨z, hz, rfl⟩ := hdep 4 _ _ rfl rfl rfl
      obtain ⟨z5, hz5, rfl⟩ := hdep 5 _ _ rfl rfl rfl
      obtain ⟨z7, hz7, rfl⟩ := hdep 7 _ _ rfl rfl rfl
      refine g_run (wanted_is rfl (yields rfl hz)) (st_call (exec_call2 _ _ _ _ _ _ _ _ cf_ssame (eval_at hz5) (eval_at hz7) (fun _ => rfl) _ _ _ _ _ _) ?_)
      refine (same_sSamePacket p q d dq u (hp.below hbu) (hq u (hp.below hbu))).mono ?_
      rintro e u' ⟨rfl, hb'⟩
      exact ⟨_, rfl, _, rfl, hb', rfl⟩
    | 9, hi =>
      cases hi
      obtain ⟨z, hz, rfl⟩ := hdep 4 _ _ rfl rfl rfl
      obtain ⟨z', hz', rfl⟩ := hdep 8 _ _ rfl rfl rfl
      exact g_run (wanted_is rfl (yields rfl hz)) (st_value (v := .bool (!decide (pv p d = pv q dq))) (w' := u) (by simp [execOp, eval_at hz', Op.unary]) ⟨_, rfl, Below.refl _ _, rfl⟩)
    | 10, hi =>
      cases hi
      obtain ⟨z, hz, rfl⟩ := hdep 4 _ _ rfl rfl rfl
      obtain ⟨z', hz', rfl⟩ := hdep 9 _ _ rfl rfl rfl
      exact g_run (wanted_none rfl _) (st_value (v := .bool (!decide (pv p d = pv q dq))) (w' := u) (by simp [execOp, eval_at hz, eval_at hz', asBool]) ⟨_, rfl, Below.refl _ _, rfl⟩)
    | (_ + 11), hi => cases hi
  intro vs y b1 hG a3 h3
  have g10 : vs 10 = .bool (!decide (pv p d = pv q dq)) := hG 10 (by decide)
  clear hG
  replace h3 : puts _ 1 _ (Act.mk #[_, _, _, _, _, _, _, _, _, _, _, _, _, _, _, _, _, _, _, _, _, _, _, _, _, _, _, _, _, _, _, _, _, _, _, _, _, _, _, _, _, _, _, _, _, _, _, _, _, _, _, _, _, _, _, _, _, _, _, _, _, _, _, _, _, _, _, _, _, _, _, _, _, _, _, _, _, _, _, _, _, _, _, _, _, _, _, _, _, _, _, _, _, _, _, _, _, _, _, _, _, _, _, _, _, _, _, _, _, _, _, _, _, _, _, _, _, _, _, _, _, _, _, _, _, _, _, _, _, _, _, _, _, _, _, _, _, _, _, _, _, _, _, _, _, _, _, _, _, _, _, _, _, _, _, _, _, _, _, _, _, _, _, _, _, _, _, _, _, _, _, _, _, _, _, _, _, _, _, _, _, _, _, _, _, _, _, _, _, _, _] []) = a3 := h3
  replace h3 : puts _ 2 _ (Act.mk #[_, _, _, _, _, _, _, _, _, _, _, _, _, _, _, _, _, _, _, _, _, _, _, _, _, _, _, _, _, _, _, _, _, _, _, _, _, _, _, _, _, _, _, _, _, _, _, _, _, _, _, _, _, _, _, _, _, _, _, _, _, _, _, _, _, _, _, _, _, _, _, _, _, _, _, _, _, _, _, _, _, _, _, _, _, _, _, _, _, _, _, _, _, _, _, _, _, _, _, _, _, _, _, _, _, _, _, _, _, _, _, _, _, _, _, _, _, _, _, _, _, _, _, _, _, _, _, _, _, _, _, _, _, _, _, _, _, _, _, _, _, _, _, _, _, _, _, _, _, _, _, _, _, _, _, _, _, _, _, _, _, _, _, _, _, _, _, _, _, _, _, _, _, _, _, _, _, _, _, _, _, _, _, _, _, _, _, _, _, _, _] []) = a3 := h3
  replace h3 : puts _ 3 _ (Act.mk #[_, _, _, _, _, _, _, _, _, _, _, _, _, _, _, _, _, _, _, _, _, _, _, _, _, _, _, _, _, _, _, _, _, _, _, _, _, _, _, _, _, _, _, _, _, _, _, _, _, _, _, _, _, _, _, _, _, _, _, _, _, _, _, _, _, _, _, _, _, _, _, _, _, _, _, _, _, _, _, _, _, _, _, _, _, _, _, _, _, _, _, _, _, _, _, _, _, _, _, _, _, _, _, _, _, _, _, _, _, _, _, _, _, _, _, _, _, _, _, _, _, _, _, _, _, _, _, _, _, _, _, _, _, _, _, _, _, _, _, _, _, _, _, _, _, _, _, _, _, _, _, _, _, _, _, _, _, _, _, _, _, _, _, _, _, _, _, _, _, _, _, _, _, _, _, _, _, _, _, _, _, _, _, _, _, _, _, _, _, _, _] []) = a3 := h3
  replace h3 : puts _ 4 _ (Act.mk #[_, _, _, _, _, _, _, _, _, _, _, _, _, _, _, _, _, _, _, _, _, _, _, _, _, _, _, _, _, _, _, _, _, _, _, _, _, _, _, _, _, _, _, _, _, _, _, _, _, _, _, _, _, _, _, _, _, _, _, _, _, _, _, _, _, _, _, _, _, _, _, _, _, _, _, _, _, _, _, _, _, _, _, _, _, _, _, _, _, _, _, _, _, _, _, _, _, _, _, _, _, _, _, _, _, _, _, _, _, _, _, _, _, _, _, _, _, _, _, _, _, _, _, _, _, _, _, _, _, _, _, _, _, _, _, _, _, _, _, _, _, _, _, _, _, _, _, _, _, _, _, _, _, _, _, _, _, _, _, _, _, _, _, _, _, _, _, _, _, _, _, _, _, _, _, _, _, _, _, _, _, _, _, _, _, _, _, _, _, _, _] []) = a3 := h3
  replace h3 : puts _ 5 _ (Act.mk #[_, _, _, _, _, _, _, _, _, _, _, _, _, _, _, _, _, _, _, _, _, _, _, _, _, _, _, _, _, _, _, _, _, _, _, _, _, _, _, _, _, _, _, _, _, _, _, _, _, _, _, _, _, _, _, _, _, _, _, _, _, _, _, _, _, _, _, _, _, _, _, _, _, _, _, _, _, _, _, _, _, _, _, _, _, _, _, _, _, _, _, _, _, _, _, _, _, _, _, _, _, _, _, _, _, _, _, _, _, _, _, _, _, _, _, _, _, _, _, _, _, _, _, _, _, _, _, _, _, _, _, _, _, _, _, _, _, _, _, _, _, _, _, _, _, _, _, _, _, _, _, _, _, _, _, _, _, _, _, _, _, _, _, _, _, _, _, _, _, _, _, _, _, _, _, _, _, _, _, _, _, _, _, _, _, _, _, _, _, _, _] []) = a3 := h3
  replace h3 : puts _ 6 _ (Act.mk #[_, _, _, _, _, _, _, _, _, _, _, _, _, _, _, _, _, _, _, _, _, _, _, _, _, _, _, _, _, _, _, _, _, _, _, _, _, _, _, _, _, _, _, _, _, _, _, _, _, _, _, _, _, _, _, _, _, _, _, _, _, _, _, _, _, _, _, _, _, _, _, _, _, _, _, _, _, _, _, _, _, _, _, _, _, _, _, _, _, _, _, _, _, _, _, _, _, _, _, _, _, _, _, _, _, _, _, _, _, _, _, _, _, _, _, _, _, _, _, _, _, _, _, _, _, _, _, _, _, _, _, _, _, _, _, _, _, _, _, _, _, _, _, _, _, _, _, _, _, _, _, _, _, _, _, _, _, _, _, _, _, _, _, _, _, _, _, _, _, _, _, _, _, _, _, _, _, _, _, _, _, _, _, _, _, _, _, _, _, _, _] []) = a3 := h3
  replace h3 : puts _ 7 _ (Act.mk #[_, _, _, _, _, _, _, _, _, _, _, _, _, _, _, _, _, _, _, _, _, _, _, _, _, _, _, _, _, _, _, _, _, _, _, _, _, _, _, _, _, _, _, _, _, _, _, _, _, _, _, _, _, _, _, _, _, _, _, _, _, _, _, _, _, _, _, _, _, _, _, _, _, _, _, _, _, _, _, _, _, _, _, _, _, _, _, _, _, _, _, _, _, _, _, _, _, _, _, _, _, _, _, _, _, _, _, _, _, _, _, _, _, _, _, _, _, _, _, _, _, _, _, _, _, _, _, _, _, _, _, _, _, _, _, _, _, _, _, _, _, _, _, _, _, _, _, _, _, _, _, _, _, _, _, _, _, _, _, _, _, _, _, _, _, _, _, _, _, _, _, _, _, _, _, _, _, _, _, _, _, _, _, _, _, _, _, _, _, _, _] []) = a3 := h3
  replace h3 : puts _ 8 _ (Act.mk #[_, _, _, _, _, _, _, _, _, _, _, _, _, _, _, _, _, _, _, _, _, _, _, _, _, _, _, _, _, _, _, _, _, _, _, _, _, _, _, _, _, _, _, _, _, _, _, _, _, _, _, _, _, _, _, _, _, _, _, _, _, _, _, _, _, _, _, _, _, _, _, _, _, _, _, _, _, _, _, _, _, _, _, _, _, _, _, _, _, _, _, _, _, _, _, _, _, _, _, _, _, _, _, _, _, _, _, _, _, _, _, _, _, _, _, _, _, _, _, _, _, _, _, _, _, _, _, _, _, _, _, _, _, _, _, _, _, _, _, _, _, _, _, _, _, _, _, _, _, _, _, _, _, _, _, _, _, _, _, _, _, _, _, _, _, _, _, _, _, _, _, _, _, _, _, _, _, _, _, _, _, _, _, _, _, _, _, _, _, _, _] []) = a3 := h3
  replace h3 : puts _ 9 _ (Act.mk #[_, _, _, _, _, _, _, _, _, _, _, _, _, _, _, _, _, _, _, _, _, _, _, _, _, _, _, _, _, _, _, _, _, _, _, _, _, _, _, _, _, _, _, _, _, _, _, _, _, _, _, _, _, _, _, _, _, _, _, _, _, _, _, _, _, _, _, _, _, _, _, _, _, _, _, _, _, _, _, _, _, _, _, _, _, _, _, _, _, _, _, _, _, _, _, _, _, _, _, _, _, _, _, _, _, _, _, _, _, _, _, _, _, _, _, _, _, _, _, _, _, _, _, _, _, _, _, _, _, _, _, _, _, _, _, _, _, _, _, _, _, _, _, _, _, _, _, _, _, _, _, _, _, _, _, _, _, _, _, _, _, _, _, _, _, _, _, _, _, _, _, _, _, _, _, _, _, _, _, _, _, _, _, _, _, _, _, _, _, _, _] []) = a3 := h3
  replace h3 : puts _ 10 _ (Act.mk #[_, _, _, _, _, _, _, _, _, _, _, _, _, _, _, _, _, _, _, _, _, _, _, _, _, _, _, _, _, _, _, _, _, _, _, _, _, _, _, _, _, _, _, _, _, _, _, _, _, _, _, _, _, _, _, _, _, _, _, _, _, _, _, _, _, _, _, _, _, _, _, _, _, _, _, _, _, _, _, _, _, _, _, _, _, _, _, _, _, _, _, _, _, _, _, _, _, _, _, _, _, _, _, _, _, _, _, _, _, _, _, _, _, _, _, _, _, _, _, _, _, _, _, _, _, _, _, _, _, _, _, _, _, _, _, _, _, _, _, _, _, _, _, _, _, _, _, _, _, _, _, _, _, _, _, _, _, _, _, _, _, _, _, _, _, _, _, _, _, _, _, _, _, _, _, _, _, _, _, _, _, _, _, _, _, _, _, _, _, _, _] []) = a3 := h3
  replace h3 : puts _ 11 _ (Act.mk #[_, _, _, _, _, _, _, _, _, _, _, _, _, _, _, _, _, _, _, _, _, _, _, _, _, _, _, _, _, _, _, _, _, _, _, _, _, _, _, _, _, _, _, _, _, _, _, _, _, _, _, _, _, _, _, _, _, _, _, _, _, _, _, _, _, _, _, _, _, _, _, _, _, _, _, _, _, _, _, _, _, _, _, _, _, _, _, _, _, _, _, _, _, _, _, _, _, _, _, _, _, _, _, _, _, _, _, _, _, _, _, _, _, _, _, _, _, _, _, _, _, _, _, _, _, _, _, _, _, _, _, _, _, _, _, _, _, _, _, _, _, _, _, _, _, _, _, _, _, _, _, _, _, _, _, _, _, _, _, _, _, _, _, _, _, _, _, _, _, _, _, _, _, _, _, _, _, _, _, _, _, _, _, _, _, _, _, _, _, _, _] []) = a3 := h3
  replace h3 : (Act.mk #[_, _, _, _, _, _, _, _, _, _, _, _, _, _, _, _, _, _, _, _, _, _, _, _, _, _, _, _, _, _, _, _, _, _, _, _, _, _, _, _, _, _, _, _, _, _, _, _, _, _, _, _, _, _, _, _, _, _, _, _, _, _, _, _, _, _, _, _, _, _, _, _, _, _, _, _, _, _, _, _, _, _, _, _, _, _, _, _, _, _, _, _, _, _, _, _, _, _, _, _, _, _, _, _, _, _, _, _, _, _, _, _, _, _, _, _, _, _, _, _, _, _, _, _, _, _, _, _, _, _, _, _, _, _, _, _, _, _, _, _, _, _, _, _, _, _, _, _, _, _, _, _, _, _, _, _, _, _, _, _, _, _, _, _, _, _, _, _, _, _, _, _, _, _, _, _, _, _, _, _, _, _, _, _, _, _, _, _, _, _, _] []) = a3 := h3
  subst h3
  replace hb := bel hb b1
  replace A := A.next b1
  replace hp := hp.below b1
  clear b1
  rw [decide_eq_true heq] at g10
  simp only [g10]
  clear hnam hq g10 heq
  have f0 : y.cell? ⟨w.heap.size, 0, none⟩ = some (.int .i64 1) := (A.cell 0).trans (p.c0.trans (by rw [hk]))
  have f4 : y.cell? ⟨w.heap.size, 4, none⟩ = some (.int .i64 p.id) := (A.cell 4).trans p.c4
  have f11 : y.cell? ⟨w.heap.size, 11, none⟩ = some (.bool p.hw) := (A.cell 11).trans p.c11
  have f12 : y.cell? ⟨w.heap.size, 12, none⟩ = some (.string p.wt) := (A.cell 12).trans p.c12
  have f13 : y.cell? ⟨w.heap.size, 13, none⟩ = some (.slice p.wb.a p.wb.n p.wb.c) := (A.cell 13).trans p.c13
  have f14 : y.cell? ⟨w.heap.size, 14, none⟩ = some (.int .i64 p.wq) := (A.cell 14).trans p.c14
  have f8 : y.cell? ⟨w.heap.size, 8, none⟩ = some (.int .i64 p.lev) := (A.cell 8).trans p.c8
  have f7 : y.cell? ⟨w.heap.size, 7, none⟩ = some (.string p.cli) := (A.cell 7).trans p.c7
  have f10 : y.cell? ⟨w.heap.size, 10, none⟩ = some (.int .i64 p.kee) := (A.cell 10).trans p.c10
  have f17 : y.cell? ⟨w.heap.size, 17, none⟩ = some (.string p.us) := (A.cell 17).trans p.c17
  have f19 : y.cell? ⟨w.heap.size, 19, none⟩ = some (.slice p.pa.a p.pa.n p.pa.c) := (A.cell 19).trans p.c19
  clear A
  cases hw : p.hw
  · rw [hw] at f11
    have V0 : Hid ((!p.hw || (topOk p.wt.data.toList && (decide ((p.wb.n : Int) ≤ 40) && inB p.wq 0 2))) = true) := by show _ = _; rw [hw]; rfl
    clear hw
    go_wp2_with fail
    refine (in_sl1Inb p.id 1 65535 (inB p.id 1 65535) _ rfl).mono ?_
    rintro e zi ⟨rfl, hzi⟩
    subst hzi
    go_wp2_with fail
    refine (in_sl1Inb p.lev 0 255 (inB p.lev 0 255) _ rfl).mono ?_
    rintro e z1 ⟨rfl, hz1⟩
    subst hz1
    cases hv : inB p.lev 0 255
    · have V1 : Hid (inB p.lev 0 255 = false) := hv
      clear hv
      go_wp2
      go_ret
      exact ⟨ret_bool (by rw [V0.out]; rw [V1.out]; simp), hb⟩
    have V1 : Hid (inB p.lev 0 255 = true) := hv
    clear hv
    go_wp2_with fail
    refine (ok_sTextOk p.cli _ (by omega)).mono ?_
    rintro e z2 ⟨rfl, hz2⟩
    replace f10 : z2.cell? ⟨w.heap.size, 10, none⟩ = some (.int .i64 p.kee) := (hz2.cell (World.block_lt_of_cell? _ _ f10)).trans f10
    replace f17 : z2.cell? ⟨w.heap.size, 17, none⟩ = some (.string p.us) := (hz2.cell (World.block_lt_of_cell? _ _ f17)).trans f17
    replace f19 : z2.cell? ⟨w.heap.size, 19, none⟩ = some (.slice p.pa.a p.pa.n p.pa.c) := (hz2.cell (World.block_lt_of_cell? _ _ f19)).trans f19
    replace hb := bel hb hz2
    clear hz2
    cases hv : okT p.cli.data.toList
    · have V2 : Hid (okT p.cli.data.toList = false) := hv
      clear hv
      go_wp2
      go_ret
      exact ⟨ret_bool (by rw [V0.out]; rw [V1.out]; rw [V2.out]; simp), hb⟩
    have V2 : Hid (okT p.cli.data.toList = true) := hv
    clear hv
    go_wp2_with fail
    refine (in_sl1Inb p.kee 0 65535 (inB p.kee 0 65535) _ rfl).mono ?_
    rintro e z3 ⟨rfl, hz3⟩
    subst hz3
    cases hv : inB p.kee 0 65535
    · have V3 : Hid (inB p.kee 0 65535 = false) := hv
      clear hv
      go_wp2
      go_ret
      exact ⟨ret_bool (by rw [V0.out]; rw [V1.out]; rw [V2.out]; rw [V3.out]; simp), hb⟩
    have V3 : Hid (inB p.kee 0 65535 = true) := hv
    clear hv
    go_wp2_with fail
    refine (ok_sTextOk p.us _ (by omega)).mono ?_
    rintro e z4 ⟨rfl, hz4⟩
    replace f19 : z4.cell? ⟨w.heap.size, 19, none⟩ = some (.slice p.pa.a p.pa.n p.pa.c) := (hz4.cell (World.block_lt_of_cell? _ _ f19)).trans f19
    replace hb := bel hb hz4
    clear hz4
    cases hv : okT p.us.data.toList
    · have V4 : Hid (okT p.us.data.toList = false) := hv
      clear hv
      go_wp2
      go_ret
      exact ⟨ret_bool (by rw [V0.out]; rw [V1.out]; rw [V2.out]; rw [V3.out]; rw [V4.out]; simp), hb⟩
    have V4 : Hid (okT p.us.data.toList = true) := hv
    clear hv
    go_wp2
    go_ret
    exact ⟨ret_bool (by rw [V0.out]; rw [V1.out]; rw [V2.out]; rw [V3.out]; rw [V4.out]; simp), hb⟩
  rw [hw] at f11
  go_wp2_with fail
  refine (in_sl1Inb p.id 1 65535 (inB p.id 1 65535) _ rfl).mono ?_
  rintro e zi ⟨rfl, hzi⟩
  subst hzi
  go_wp2_with fail
  refine (top_sTopicOk p.wt _ h3).mono ?_
  rintro e z0 ⟨rfl, hz0⟩
  replace f8 : z0.cell? ⟨w.heap.size, 8, none⟩ = some (.int .i64 p.lev) := (hz0.cell (World.block_lt_of_cell? _ _ f8)).trans f8
  replace f7 : z0.cell? ⟨w.heap.size, 7, none⟩ = some (.string p.cli) := (hz0.cell (World.block_lt_of_cell? _ _ f7)).trans f7
  replace f10 : z0.cell? ⟨w.heap.size, 10, none⟩ = some (.int .i64 p.kee) := (hz0.cell (World.block_lt_of_cell? _ _ f10)).trans f10
  replace f17 : z0.cell? ⟨w.heap.size, 17, none⟩ = some (.string p.us) := (hz0.cell (World.block_lt_of_cell? _ _ f17)).trans f17
  replace f19 : z0.cell? ⟨w.heap.size, 19, none⟩ = some (.slice p.pa.a p.pa.n p.pa.c) := (hz0.cell (World.block_lt_of_cell? _ _ f19)).trans f19
  replace f13 : z0.cell? ⟨w.heap.size, 13, none⟩ = some (.slice p.wb.a p.wb.n p.wb.c) := (hz0.cell (World.block_lt_of_cell? _ _ f13)).trans f13
  replace f14 : z0.cell? ⟨w.heap.size, 14, none⟩ = some (.int .i64 p.wq) := (hz0.cell (World.block_lt_of_cell? _ _ f14)).trans f14
  replace hb := bel hb hz0
  clear hz0
  cases hT : topOk p.wt.data.toList
  · have V0 : Hid ((!p.hw || (topOk p.wt.data.toList && (decide ((p.wb.n : Int) ≤ 40) && inB p.wq 0 2))) = false) := by show _ = _; rw [hw, hT]; rfl
    clear hw hT
    go_wp2
    go_ret
    exact ⟨ret_bool (by rw [V0.out]; simp), hb⟩
  by_cases hn : (p.wb.n : Int) ≤ 40
  rotate_left
  · have V0 : Hid ((!p.hw || (topOk p.wt.data.toList && (decide ((p.wb.n : Int) ≤ 40) && inB p.wq 0 2))) = false) := by show _ = _; rw [hw, hT, decide_eq_false hn]; rfl
    clear hw hT
    go_wp2
    go_ret
    exact ⟨ret_bool (by rw [V0.out]; simp), hb⟩
  go_wp2_with fail
  refine (in_sl1Inb p.wq 0 2 (inB p.wq 0 2) _ rfl).mono ?_
  rintro e z9 ⟨rfl, hz9⟩
  subst hz9
  cases hq2 : inB p.wq 0 2
  · have V0 : Hid ((!p.hw || (topOk p.wt.data.toList && (decide ((p.wb.n : Int) ≤ 40) && inB p.wq 0 2))) = false) := by show _ = _; rw [hw, hT, hq2, Bool.and_false, Bool.and_false]; rfl
    clear hw hT hq2
    go_wp2
    go_ret
    exact ⟨ret_bool (by rw [V0.out]; simp), hb⟩
  have V0 : Hid ((!p.hw || (topOk p.wt.data.toList && (decide ((p.wb.n : Int) ≤ 40) && inB p.wq 0 2))) = true) := by show _ = _; rw [hw, hT, hq2, decide_eq_true hn]; rfl
  clear hw hT hq2
  go_wp2_with fail
  refine (in_sl1Inb p.lev 0 255 (inB p.lev 0 255) _ rfl).mono ?_
  rintro e z1 ⟨rfl, hz1⟩
  subst hz1
  cases hv : inB p.lev 0 255
  · have V1 : Hid (inB p.lev 0 255 = false) := hv
    clear hv
    go_wp2
    go_ret
    exact ⟨ret_bool (by rw [V0.out]; rw [V1.out]; simp), hb⟩
  have V1 : Hid (inB p.lev 0 255 = true) := hv
  clear hv
  go_wp2_with fail
  refine (ok_sTextOk p.cli _ (by omega)).mono ?_
  rintro e z2 ⟨rfl, hz2⟩
  replace f10 : z2.cell? ⟨w.heap.size, 10, none⟩ = some (.int .i64 p.kee) := (hz2.cell (World.block_lt_of_cell? _ _ f10)).trans f10
  replace f17 : z2.cell? ⟨w.heap.size, 17, none⟩ = some (.string p.us) := (hz2.cell (World.block_lt_of_cell? _ _ f17)).trans f17
  replace f19 : z2.cell? ⟨w.heap.size, 19, none⟩ = some (.slice p.pa.a p.pa.n p.pa.c) := (hz2.cell (World.block_lt_of_cell? _ _ f19)).trans f19
  replace hb := bel hb hz2
  clear hz2
  cases hv : okT p.cli.data.toList
  · have V2 : Hid (okT p.cli.data.toList = false) := hv
    clear hv
    go_wp2
    go_ret
    exact ⟨ret_bool (by rw [V0.out]; rw [V1.out]; rw [V2.out]; simp), hb⟩
  have V2 : Hid (okT p.cli.data.toList = true) := hv
  clear hv
  go_wp2_with fail
  refine (in_sl1Inb p.kee 0 65535 (inB p.kee 0 65535) _ rfl).mono ?_
  rintro e z3 ⟨rfl, hz3⟩
  subst hz3
  cases hv : inB p.kee 0 65535
  · have V3 : Hid (inB p.kee 0 65535 = false) := hv
    clear hv
    go_wp2
    go_ret
    exact ⟨ret_bool (by rw [V0.out]; rw [V1.out]; rw [V2.out]; rw [V3.out]; simp), hb⟩
  have V3 : Hid (inB p.kee 0 65535 = true) := hv
  clear hv
  go_wp2_with fail
  refine (ok_sTextOk p.us _ (by omega)).mono ?_
  rintro e z4 ⟨rfl, hz4⟩
  replace f19 : z4.cell? ⟨w.heap.size, 19, none⟩ = some (.slice p.pa.a p.pa.n p.pa.c) := (hz4.cell (World.block_lt_of_cell? _ _ f19)).trans f19
  replace hb := bel hb hz4
  clear hz4
  cases hv : okT p.us.data.toList
  · have V4 : Hid (okT p.us.data.toList = false) := hv
    clear hv
    go_wp2
    go_ret
    exact ⟨ret_bool (by rw [V0.out]; rw [V1.out]; rw [V2.out]; rw [V3.out]; rw [V4.out]; simp), hb⟩
  have V4 : Hid (okT p.us.data.toList = true) := hv
  clear hv
  go_wp2
  go_ret
  exact ⟨ret_bool (by rw [V0.out]; rw [V1.out]; rw [V2.out]; rw [V3.out]; rw [V4.out]; simp), hb⟩
end Go.Proofs.YtccjiicjlifmiaaGreatDoor
