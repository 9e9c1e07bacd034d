/- The specification's PacketOk of a packet that is as its kind names it: those with lists. -/
import Derived.Test.YtccjiicjlifmiaaGreatDoorSOk
import Derived.Test.YtccjiicjlifmiaaGreatDoorKRig
import Derived.Test.YtccjiicjlifmiaaGreatDoorOks
import Derived.BigGuardPart
set_option linter.unusedVariables false
set_option linter.unusedSimpArgs false
namespace Go.Proofs.YtccjiicjlifmiaaGreatDoor
open Go.RowKit

set_option maxRecDepth 100000 in
set_option maxHeartbeats 4000000 in
theorem sok_9 (p : Pk) (d : Pd) (w : World) (hp : PRd w p d) (q : Pk) (dq : Pd) (ht : 1 ≤ p.ty ∧ p.ty ≤ 14)
    (hnam : ∀ u : World, Calls Tryz.prog 70 #[.agg p.cells] u fun e u' => e = .returned (.agg q.cells) ∧ Below u.heap.size u u')
    (hq : ∀ u : World, PRd u p d → PRd u q dq) (hk : p.ty = 9) (heq : pv p d = pv q dq) :
    Calls Tryz.prog 17 #[.agg p.cells] w fun e w' => e = .returned (.bool (d.cds.all codeOk && (inB p.id 1 65535 && inB p.cds.n 1 4))) ∧ Below w.heap.size w w' := by
  have hb : Below w.heap.size w (w.alloc (.cells p.cells 28)) := bel_new _ _
  have A : Blk (w.alloc (.cells p.cells 28)) w.heap.size p := heap_alloc_new _ _
  replace hp := hp.below hb
  go_enter Tryz.func17, Tryz.ntmps17
  go_wp2
  refine region_facts_g (by kernel_rfl) rfl (fun i u x => match i with
    | 0 => u = .pointer (some ((⟨w.heap.size, 0, none⟩ : Addr).add 0))
    | 1 => u = .int .i64 p.ty
    | 2 => u = .bool true
    | 3 | 4 => u = .bool false
    | 5 | 6 => u = .agg p.cells
    | 7 => u = .agg q.cells
    | 8 => u = .bool (decide (pv p d = pv q dq))
    | _ => u = .bool (!decide (pv p d = pv q dq))) ?_ ?_ ?_
  · intro i u x x' hx h
    exact h
  · intro i o a u hi hk hbu hdep
    match i, hi with
    | 0, hi =>
      cases hi
      have e1 : a.tmps[1]? = some (.pointer (some ⟨w.heap.size, 0, none⟩)) := (hk.at 1 rfl).trans rfl
      exact g_run (wanted_none rfl _) (st_value (w' := u) (v := .pointer (some ((⟨w.heap.size, 0, none⟩ : Addr).add 0))) (by simp only [execOp, eval_at e1, Sem.run_bind, fld0, Result.andThen_ok, Sem.run_pure]) ⟨_, rfl, Below.refl _ _, rfl⟩)
    | 1, hi =>
      cases hi
      obtain ⟨z, hz, rfl⟩ := hdep 0 _ _ rfl rfl rfl
      have hl := load_cell (P := Tryz.prog) (w := u) Tryz.underlying3 rfl (X := (⟨w.heap.size, 0, none⟩ : Addr).add 0) (((A.next hbu).cell 0).trans p.c0)
      exact g_run (wanted_none rfl _) (st_value (w' := u) (v := .int .i64 p.ty) (by simp only [execOp, eval_at hz, Sem.run_bind, hl, Result.andThen_ok, Sem.run_pure]) ⟨_, rfl, Below.refl _ _, rfl⟩)
    | 2, hi =>
      cases hi
      obtain ⟨z, hz, rfl⟩ := hdep 1 _ _ rfl rfl rfl
      refine g_run (wanted_none rfl _) (st_call (exec_call3 _ _ _ _ _ _ _ _ _ _ cf_l1In (eval_at hz) rfl rfl (fun _ => rfl) _ _ _ _ _ _) ?_)
      refine (in_sl1Inb _ _ _ true _ (decide_eq_true ht)).mono ?_
      rintro e u' ⟨rfl, rfl⟩
      exact ⟨_, rfl, _, rfl, Below.refl _ _, rfl⟩
    | 3, hi =>
      cases hi
      obtain ⟨z, hz, rfl⟩ := hdep 2 _ _ rfl rfl rfl
      exact g_run (wanted_none rfl _) (st_value (v := .bool false) (w' := u) (by simp [execOp, eval_at hz, Op.unary]) ⟨_, rfl, Below.refl _ _, rfl⟩)
    | 4, hi =>
      cases hi
      obtain ⟨z, hz, rfl⟩ := hdep 3 _ _ rfl rfl rfl
      exact g_run (wanted_none rfl _) (st_value (by simp [execOp, eval_at hz]) ⟨_, rfl, Below.refl _ _, rfl⟩)
    | 5, hi =>
      cases hi
      obtain ⟨z, hz, rfl⟩ := hdep 4 _ _ rfl rfl rfl
      exact g_run (wanted_is rfl (yields rfl hz)) (st_loadP (A.next hbu) _ rfl (eval_at ((hk.at 1 rfl).trans rfl)) ⟨_, rfl, Below.refl _ _, rfl⟩)
    | 6, hi =>
      cases hi
      obtain ⟨z, hz, rfl⟩ := hdep 4 _ _ rfl rfl rfl
      exact g_run (wanted_is rfl (yields rfl hz)) (st_loadP (A.next hbu) _ rfl (eval_at ((hk.at 1 rfl).trans rfl)) ⟨_, rfl, Below.refl _ _, rfl⟩)
    | 7, hi =>
      cases hi
      obtain ⟨z, hz, rfl⟩ := hdep 4 _ _ rfl rfl rfl
      obtain ⟨z', hz', rfl⟩ := hdep 6 _ _ rfl rfl rfl
      refine g_run (wanted_is rfl (yields rfl hz)) (st_call (exec_call1 _ _ _ _ _ _ cf_snam (eval_at hz') (fun _ => rfl) _ _ _ _ _ _) ?_)
      refine (hnam u).mono ?_
      rintro e u' ⟨rfl, hb'⟩
      exact ⟨_, rfl, _, rfl, hb', rfl⟩
    | 8, hi =>
      cases hi
      obtain ⟨z, hz, rfl⟩ := hdep 4 _ _ rfl rfl rfl
      obtain ⟨z5, hz5, rfl⟩ := hdep 5 _ _ rfl rfl rfl
      obtain ⟨z7, hz7, rfl⟩ := hdep 7 _ _ rfl rfl rfl
      refine g_run (wanted_is rfl (yields rfl hz)) (st_call (exec_call2 _ _ _ _ _ _ _ _ cf_ssame (eval_at hz5) (eval_at hz7) (fun _ => rfl) _ _ _ _ _ _) ?_)
      refine (same_sSamePacket p q d dq u (hp.below hbu) (hq u (hp.below hbu))).mono ?_
      rintro e u' ⟨rfl, hb'⟩
      exact ⟨_, rfl, _, rfl, hb', rfl⟩
    | 9, hi =>
      cases hi
      obtain ⟨z, hz, rfl⟩ := hdep 4 _ _ rfl rfl rfl
      obtain ⟨z', hz', rfl⟩ := hdep 8 _ _ rfl rfl rfl
      exact g_run (wanted_is rfl (yields rfl hz)) (st_value (v := .bool (!decide (pv p d = pv q dq))) (w' := u) (by simp [execOp, eval_at hz', Op.unary]) ⟨_, rfl, Below.refl _ _, rfl⟩)
    | 10, hi =>
      cases hi
      obtain ⟨z, hz, rfl⟩ := hdep 4 _ _ rfl rfl rfl
      obtain ⟨z', hz', rfl⟩ := hdep 9 _ _ rfl rfl rfl
      exact g_run (wanted_none rfl _) (st_value (v := .bool (!decide (pv p d = pv q dq))) (w' := u) (by simp [execOp, eval_at hz, eval_at hz', asBool]) ⟨_, rfl, Below.refl _ _, rfl⟩)
    | (_ + 11), hi => cases hi
  intro vs y b1 hG a3 h3
  have g10 : vs 10 = .bool (!decide (pv p d = pv q dq)) := hG 10 (by decide)
  clear hG
  replace h3 : puts _ 1 _ (Act.mk #[_, _, _, _, _, _, _, _, _, _, _, _, _, _, _, _, _, _, _, _, _, _, _, _, _, _, _, _, _, _, _, _, _, _, _, _, _, _, _, _, _, _, _, _, _, _, _, _, _, _, _, _, _, _, _, _, _, _, _, _, _, _, _, _, _, _, _, _, _, _, _, _, _, _, _, _, _, _, _, _, _, _, _, _, _, _, _, _, _, _, _, _, _, _, _, _, _, _, _, _, _, _, _, _, _, _, _, _, _, _, _, _, _, _, _, _, _, _, _, _, _, _, _, _, _, _, _, _, _, _, _, _, _, _, _, _, _, _, _, _, _, _, _, _, _, _, _, _, _, _, _, _, _, _, _, _, _, _, _, _, _, _, _, _, _, _, _, _, _, _, _, _, _, _, _, _, _, _, _, _, _, _, _, _, _, _, _, _, _, _, _] []) = a3 := h3
  replace h3 : puts _ 2 _ (Act.mk #[_, _, _, _, _, _, _, _, _, _, _, _, _, _, _, _, _, _, _, _, _, _, _, _, _, _, _, _, _, _, _, _, _, _, _, _, _, _, _, _, _, _, _, _, _, _, _, _, _, _, _, _, _, _, _, _, _, _, _, _, _, _, _, _, _, _, _, _, _, _, _, _, _, _, _, _, _, _, _, _, _, _, _, _, _, _, _, _, _, _, _, _, _, _, _, _, _, _, _, _, _, _, _, _, _, _, _, _, _, _, _, _, _, _, _, _, _, _, _, _, _, _, _, _, _, _, _, _, _, _, _, _, _, _, _, _, _, _, _, _, _, _, _, _, _, _, _, _, _, _, _, _, _, _, _, _, _, _, _, _, _, _, _, _, _, _, _, _, _, _, _, _, _, _, _, _, _, _, _, _, _, _, _, _, _, _, _, _, _, _, _] []) = a3 := h3
  replace h3 : puts _ 3 _ (Act.mk #[_, _, _, _, _, _, _, _, _, _, _, _, _, _, _, _, _, _, _, _, _, _, _, _, _, _, _, _, _, _, _, _, _, _, _, _, _, _, _, _, _, _, _, _, _, _, _, _, _, _, _, _, _, _, _, _, _, _, _, _, _, _, _, _, _, _, _, _, _, _, _, _, _, _, _, _, _, _, _, _, _, _, _, _, _, _, _, _, _, _, _, _, _, _, _, _, _, _, _, _, _, _, _, _, _, _, _, _, _, _, _, _, _, _, _, _, _, _, _, _, _, _, _, _, _, _, _, _, _, _, _, _, _, _, _, _, _, _, _, _, _, _, _, _, _, _, _, _, _, _, _, _, _, _, _, _, _, _, _, _, _, _, _, _, _, _, _, _, _, _, _, _, _, _, _, _, _, _, _, _, _, _, _, _, _, _, _, _, _, _, _] []) = a3 := h3
  replace h3 : puts _ 4 _ (Act.mk #[_, _, _, _, _, _, _, _, _, _, _, _, _, _, _, _, _, _, _, _, _, _, _, _, _, _, _, _, _, _, _, _, _, _, _, _, _, _, _, _, _, _, _, _, _, _, _, _, _, _, _, _, _, _, _, _, _, _, _, _, _, _, _, _, _, _, _, _, _, _, _, _, _, _, _, _, _, _, _, _, _, _, _, _, _, _, _, _, _, _, _, _, _, _, _, _, _, _, _, _, _, _, _, _, _, _, _, _, _, _, _, _, _, _, _, _, _, _, _, _, _, _, _, _, _, _, _, _, _, _, _, _, _, _, _, _, _, _, _, _, _, _, _, _, _, _, _, _, _, _, _, _, _, _, _, _, _, _, _, _, _, _, _, _, _, _, _, _, _, _, _, _, _, _, _, _, _, _, _, _, _, _, _, _, _, _, _, _, _, _, _] []) = a3 := h3
  replace h3 : puts _ 5 _ (Act.mk #[_, _, _, _, _, _, _, _, _, _, _, _, _, _, _, _, _, _, _, _, _, _, _, _, _, _, _, _, _, _, _, _, _, _, _, _, _, _, _, _, _, _, _, _, _, _, _, _, _, _, _, _, _, _, _, _, _, _, _, _, _, _, _, _, _, _, _, _, _, _, _, _, _, _, _, _, _, _, _, _, _, _, _, _, _, _, _, _, _, _, _, _, _, _, _, _, _, _, _, _, _, _, _, _, _, _, _, _, _, _, _, _, _, _, _, _, _, _, _, _, _, _, _, _, _, _, _, _, _, _, _, _, _, _, _, _, _, _, _, _, _, _, _, _, _, _, _, _, _, _, _, _, _, _, _, _, _, _, _, _, _, _, _, _, _, _, _, _, _, _, _, _, _, _, _, _, _, _, _, _, _, _, _, _, _, _, _, _, _, _, _] []) = a3 := h3
  replace h3 : puts _ 6 _ (Act.mk #[_, _, _, _, _, _, _, _, _, _, _, _, _, _, _, _, _, _, _, _, _, _, _, _, _, _, _, _, _, _, _, _, _, _, _, _, _, _, _, _, _, _, _, _, _, _, _, _, _, _, _, _, _, _, _, _, _, _, _, _, _, _, _, _, _, _, _, _, _, _, _, _, _, _, _, _, _, _, _, _, _, _, _, _, _, _, _, _, _, _, _, _, _, _, _, _, _, _, _, _, _, _, _, _, _, _, _, _, _, _, _, _, _, _, _, _, _, _, _, _, _, _, _, _, _, _, _, _, _, _, _, _, _, _, _, _, _, _, _, _, _, _, _, _, _, _, _, _, _, _, _, _, _, _, _, _, _, _, _, _, _, _, _, _, _, _, _, _, _, _, _, _, _, _, _, _, _, _, _, _, _, _, _, _, _, _, _, _, _, _, _] []) = a3 := h3
  replace h3 : puts _ 7 _ (Act.mk #[_, _, _, _, _, _, _, _, _, _, _, _, _, _, _, _, _, _, _, _, _, _, _, _, _, _, _, _, _, _, _, _, _, _, _, _, _, _, _, _, _, _, _, _, _, _, _, _, _, _, _, _, _, _, _, _, _, _, _, _, _, _, _, _, _, _, _, _, _, _, _, _, _, _, _, _, _, _, _, _, _, _, _, _, _, _, _, _, _, _, _, _, _, _, _, _, _, _, _, _, _, _, _, _, _, _, _, _, _, _, _, _, _, _, _, _, _, _, _, _, _, _, _, _, _, _, _, _, _, _, _, _, _, _, _, _, _, _, _, _, _, _, _, _, _, _, _, _, _, _, _, _, _, _, _, _, _, _, _, _, _, _, _, _, _, _, _, _, _, _, _, _, _, _, _, _, _, _, _, _, _, _, _, _, _, _, _, _, _, _, _] []) = a3 := h3
  replace h3 : puts _ 8 _ (Act.mk #[_, _, _, _, _, _, _, _, _, _, _, _, _, _, _, _, _, _, _, _, _, _, _, _, _, _, _, _, _, _, _, _, _, _, _, _, _, _, _, _, _, _, _, _, _, _, _, _, _, _, _, _, _, _, _, _, _, _, _, _, _, _, _, _, _, _, _, _, _, _, _, _, _, _, _, _, _, _, _, _, _, _, _, _, _, _, _, _, _, _, _, _, _, _, _, _, _, _, _, _, _, _, _, _, _, _, _, _, _, _, _, _, _, _, _, _, _, _, _, _, _, _, _, _, _, _, _, _, _, _, _, _, _, _, _, _, _, _, _, _, _, _, _, _, _, _, _, _, _, _, _, _, _, _, _, _, _, _, _, _, _, _, _, _, _, _, _, _, _, _, _, _, _, _, _, _, _, _, _, _, _, _, _, _, _, _, _, _, _, _, _] []) = a3 := h3
  replace h3 : puts _ 9 _ (Act.mk #[_, _, _, _, _, _, _, _, _, _, _, _, _, _, _, _, _, _, _, _, _, _, _, _, _, _, _, _, _, _, _, _, _, _, _, _, _, _, _, _, _, _, _, _, _, _, _, _, _, _, _, _, _, _, _, _, _, _, _, _, _, _, _, _, _, _, _, _, _, _, _, _, _, _, _, _, _, _, _, _, _, _, _, _, _, _, _, _, _, _, _, _, _, _, _, _, _, _, _, _, _, _, _, _, _, _, _, _, _, _, _, _, _, _, _, _, _, _, _, _, _, _, _, _, _, _, _, _, _, _, _, _, _, _, _, _, _, _, _, _, _, _, _, _, _, _, _, _, _, _, _, _, _, _, _, _, _, _, _, _, _, _, _, _, _, _, _, _, _, _, _, _, _, _, _, _, _, _, _, _, _, _, _, _, _, _, _, _, _, _, _] []) = a3 := h3
  replace h3 : puts _ 10 _ (Act.mk #[_, _, _, _, _, _, _, _, _, _, _, _, _, _, _, _, _, _, _, _, _, _, _, _, _, _, _, _, _, _, _, _, _, _, _, _, _, _, _, _, _, _, _, _, _, _, _, _, _, _, _, _, _, _, _, _, _, _, _, _, _, _, _, _, _, _, _, _, _, _, _, _, _, _, _, _, _, _, _, _, _, _, _, _, _, _, _, _, _, _, _, _, _, _, _, _, _, _, _, _, _, _, _, _, _, _, _, _, _, _, _, _, _, _, _, _, _, _, _, _, _, _, _, _, _, _, _, _, _, _, _, _, _, _, _, _, _, _, _, _, _, _, _, _, _, _, _, _, _, _, _, _, _, _, _, _, _, _, _, _, _, _, _, _, _, _, _, _, _, _, _, _, _, _, _, _, _, _, _, _, _, _, _, _, _, _, _, _, _, _, _] []) = a3 := h3
  replace h3 : puts _ 11 _ (Act.mk #[_, _, _, _, _, _, _, _, _, _, _, _, _, _, _, _, _, _, _, _, _, _, _, _, _, _, _, _, _, _, _, _, _, _, _, _, _, _, _, _, _, _, _, _, _, _, _, _, _, _, _, _, _, _, _, _, _, _, _, _, _, _, _, _, _, _, _, _, _, _, _, _, _, _, _, _, _, _, _, _, _, _, _, _, _, _, _, _, _, _, _, _, _, _, _, _, _, _, _, _, _, _, _, _, _, _, _, _, _, _, _, _, _, _, _, _, _, _, _, _, _, _, _, _, _, _, _, _, _, _, _, _, _, _, _, _, _, _, _, _, _, _, _, _, _, _, _, _, _, _, _, _, _, _, _, _, _, _, _, _, _, _, _, _, _, _, _, _, _, _, _, _, _, _, _, _, _, _, _, _, _, _, _, _, _, _, _, _, _, _, _] []) = a3 := h3
  replace h3 : (Act.mk #[_, _, _, _, _, _, _, _, _, _, _, _, _, _, _, _, _, _, _, _, _, _, _, _, _, _, _, _, _, _, _, _, _, _, _, _, _, _, _, _, _, _, _, _, _, _, _, _, _, _, _, _, _, _, _, _, _, _, _, _, _, _, _, _, _, _, _, _, _, _, _, _, _, _, _, _, _, _, _, _, _, _, _, _, _, _, _, _, _, _, _, _, _, _, _, _, _, _, _, _, _, _, _, _, _, _, _, _, _, _, _, _, _, _, _, _, _, _, _, _, _, _, _, _, _, _, _, _, _, _, _, _, _, _, _, _, _, _, _, _, _, _, _, _, _, _, _, _, _, _, _, _, _, _, _, _, _, _, _, _, _, _, _, _, _, _, _, _, _, _, _, _, _, _, _, _, _, _, _, _, _, _, _, _, _, _, _, _, _, _, _] []) = a3 := h3
  subst h3
  replace hb := bel hb b1
  replace A := A.next b1
  replace hp := hp.below b1
  clear b1
  rw [decide_eq_true heq] at g10
  simp only [g10]
  clear hnam hq g10 heq
  have f0 : y.cell? ⟨w.heap.size, 0, none⟩ = some (.int .i64 9) := (A.cell 0).trans (p.c0.trans (by rw [hk]))
  have f4 : y.cell? ⟨w.heap.size, 4, none⟩ = some (.int .i64 p.id) := (A.cell 4).trans p.c4
  have f24 : y.cell? ⟨w.heap.size, 24, none⟩ = some (.slice p.cds.a p.cds.n p.cds.c) := (A.cell 24).trans p.c24
  clear A
  go_wp2_with fail
  refine (in_sl1Inb p.id 1 65535 (inB p.id 1 65535) _ rfl).mono ?_
  rintro e zi ⟨rfl, hzi⟩
  subst hzi
  generalize hI : inB p.id 1 65535 = I
  have HI : Hid (inB p.id 1 65535 = I) := hI
  clear hI
  have R := hp.2.2.2.2.2
  have HL : Hid (d.cds.length = p.cds.n) := R.1.1
  have tn : p.cds.n ≤ maxLen := Nat.le_trans R.2.1 R.2.2.1
  unfold maxLen at tn
  go_wp2
  go_loopw [5] (fun i wr => ∃ k : Nat, i = .int .i64 k ∧ k ≤ p.cds.n ∧ Hid ((d.cds.take k).all codeOk = true) ∧ Below zi.heap.size zi wr) (fun i _ => p.cds.n - (intOf i).toNat)
  case atStart => exact ⟨0, rfl, Nat.zero_le _, rfl, Below.refl _ _⟩
  case round =>
    obtain ⟨k, rfl, hkn, hT, hbr⟩ := hrel
    have f24' : wr.cell? ⟨w.heap.size, 24, none⟩ = some (.slice p.cds.a p.cds.n p.cds.c) := (hbr.cell (World.block_lt_of_cell? _ _ f24)).trans f24
    by_cases hlt : k < p.cds.n
    · obtain ⟨b, off, e, hc⟩ := R.1.2 k hlt
      rw [e] at f24'
      have hck : wr.cell? ⟨b, off + k, none⟩ = some (.int .i64 (nt d.cds k)) := (hbr.cell (World.block_lt_of_cell? _ _ hc)).trans hc
      clear hc e
      have hlt' : (k : Int) < p.cds.n := by omega
      have k0 : (0 : Int) ≤ k := by omega
      have hkl : Hid (k < d.cds.length) := by show k < d.cds.length; rw [HL.out]; exact hlt
      go_wp2_with fail
      refine (in_sl1Inb (nt d.cds k) 0 2 (inB (nt d.cds k) 0 2) _ rfl).mono ?_
      rintro e z1 ⟨rfl, hz1⟩
      subst hz1
      cases hv : inB (nt d.cds k) 0 2
      · by_cases h128 : nt d.cds k = 128
        · have hok : codeOk (nt d.cds k) = true := by simp [codeOk, hv, h128]
          have q1 : (nt d.cds k != 128) = false := by simpa using h128
          have HS : Hid ((d.cds.take (k + 1)).all codeOk = true) := all_step codeOk d.cds 0 k hkl.out hT.out hok
          clear hok hv h128
          go_wp2
          go_roundw
          case rel => exact ⟨k + 1, by go_num, by omega, HS, hbr⟩
          case measure => simp [intOf]; omega
        · have hok : codeOk (nt d.cds k) = false := by simp [codeOk, hv, h128]
          have q1 : (nt d.cds k != 128) = true := by simpa using h128
          have HN : Hid (d.cds.all codeOk = false) := all_no codeOk d.cds 0 k hkl.out hok
          clear hok hv h128
          go_wp2
          go_ret
          exact ⟨ret_bool (by rw [HN.out]; simp), bel hb hbr⟩
      · have hok : codeOk (nt d.cds k) = true := by simp [codeOk, hv]
        have HS : Hid ((d.cds.take (k + 1)).all codeOk = true) := all_step codeOk d.cds 0 k hkl.out hT.out hok
        clear hok hv
        go_wp2
        go_roundw
        case rel => exact ⟨k + 1, by go_num, by omega, HS, hbr⟩
        case measure => simp [intOf]; omega
    · have hlt' : ¬ (k : Int) < p.cds.n := by omega
      obtain rfl : k = p.cds.n := by omega
      have VA : Hid (d.cds.all codeOk = true) := all_all codeOk d.cds _ HL.out hT.out
      cases I
      · go_wp2
        go_ret
        exact ⟨ret_bool (by rw [VA.out, HI.out]; simp), bel hb hbr⟩
      · go_wp2_with fail
        refine (in_sl1Inb (p.cds.n : Int) 1 4 (inB p.cds.n 1 4) _ rfl).mono ?_
        rintro e z9 ⟨rfl, hz9⟩
        subst hz9
        go_wp2
        go_ret
        exact ⟨ret_bool (by rw [VA.out, HI.out]; simp), bel hb hbr⟩
set_option maxRecDepth 100000 in
set_option maxHeartbeats 4000000 in
theorem sok_10 (p : Pk) (d : Pd) (w : World) (hp : PRd w p d) (q : Pk) (dq : Pd) (ht : 1 ≤ p.ty ∧ p.ty ≤ 14)
    (hnam : ∀ u : World, Calls Tryz.prog 70 #[.agg p.cells] u fun e u' => e = .returned (.agg q.cells) ∧ Below u.heap.size u u')
    (hq : ∀ u : World, PRd u p d → PRd u q dq) (hk : p.ty = 10) (heq : pv p d = pv q dq) (hs : ∀ s ∈ d.nam, s.size ≤ 1048576) :
    Calls Tryz.prog 17 #[.agg p.cells] w fun e w' => e = .returned (.bool (d.nam.all flt && (inB p.id 1 65535 && inB p.nam.n 1 4))) ∧ Below w.heap.size w w' := by
  have hb : Below w.heap.size w (w.alloc (.cells p.cells 28)) := bel_new _ _
  have A : Blk (w.alloc (.cells p.cells 28)) w.heap.size p := heap_alloc_new _ _
  replace hp := hp.below hb
  go_enter Tryz.func17, Tryz.ntmps17
  go_wp2
  refine region_facts_g (by kernel_rfl) rfl (fun i u x => match i with
    | 0 => u = .pointer (some ((⟨w.heap.size, 0, none⟩ : Addr).add 0))
    | 1 => u = .int .i64 p.ty
    | 2 => u = .bool true
    | 3 | 4 => u = .bool false
    | 5 | 6 => u = .agg p.cells
    | 7 => u = .agg q.cells
    | 8 => u = .bool (decide (pv p d = pv q dq))
    | _ => u = .bool (!decide (pv p d = pv q dq))) ?_ ?_ ?_
  · intro i u x x' hx h
    exact h
  · intro i o a u hi hk hbu hdep
    match i, hi with
    | 0, hi =>
      cases hi
      have e1 : a.tmps[1]? = some (.pointer (some ⟨w.heap.size, 0, none⟩)) := (hk.at 1 rfl).trans rfl
      exact g_run (wanted_none rfl _) (st_value (w' := u) (v := .pointer (some ((⟨w.heap.size, 0, none⟩ : Addr).add 0))) (by simp only [execOp, eval_at e1, Sem.run_bind, fld0, Result.andThen_ok, Sem.run_pure]) ⟨_, rfl, Below.refl _ _, rfl⟩)
    | 1, hi =>
      cases hi
      obtain ⟨z, hz, rfl⟩ := hdep 0 _ _ rfl rfl rfl
      have hl := load_cell (P := Tryz.prog) (w := u) Tryz.underlying3 rfl (X := (⟨w.heap.size, 0, none⟩ : Addr).add 0) (((A.next hbu).cell 0).trans p.c0)
      exact g_run (wanted_none rfl _) (st_value (w' := u) (v := .int .i64 p.ty) (by simp only [execOp, eval_at hz, Sem.run_bind, hl, Result.andThen_ok, Sem.run_pure]) ⟨_, rfl, Below.refl _ _, rfl⟩)
    | 2, hi =>
      cases hi
      obtain ⟨z, hz, rfl⟩ := hdep 1 _ _ rfl rfl rfl
      refine g_run (wanted_none rfl _) (st_call (exec_call3 _ _ _ _ _ _ _ _ _ _ cf_l1In (eval_at hz) rfl rfl (fun _ => rfl) _ _ _ _ _ _) ?_)
      refine (in_sl1Inb _ _ _ true _ (decide_eq_true ht)).mono ?_
      rintro e u' ⟨rfl, rfl⟩
      exact ⟨_, rfl, _, rfl, Below.refl _ _, rfl⟩
    | 3, hi =>
      cases hi
      obtain ⟨z, hz, rfl⟩ := hdep 2 _ _ rfl rfl rfl
      exact g_run (wanted_none rfl _) (st_value (v := .bool false) (w' := u) (by simp [execOp, eval_at hz, Op.unary]) ⟨_, rfl, Below.refl _ _, rfl⟩)
    | 4, hi =>
      cases hi
      obtain ⟨z, hz, rfl⟩ := hdep 3 _ _ rfl rfl rfl
      exact g_run (wanted_none rfl _) (st_value (by simp [execOp, eval_at hz]) ⟨_, rfl, Below.refl _ _, rfl⟩)
    | 5, hi =>
      cases hi
      obtain ⟨z, hz, rfl⟩ := hdep 4 _ _ rfl rfl rfl
      exact g_run (wanted_is rfl (yields rfl hz)) (st_loadP (A.next hbu) _ rfl (eval_at ((hk.at 1 rfl).trans rfl)) ⟨_, rfl, Below.refl _ _, rfl⟩)
    | 6, hi =>
      cases hi
      obtain ⟨z, hz, rfl⟩ := hdep 4 _ _ rfl rfl rfl
      exact g_run (wanted_is rfl (yields rfl hz)) (st_loadP (A.next hbu) _ rfl (eval_at ((hk.at 1 rfl).trans rfl)) ⟨_, rfl, Below.refl _ _, rfl⟩)
    | 7, hi =>
      cases hi
      obtain ⟨z, hz, rfl⟩ := hdep 4 _ _ rfl rfl rfl
      obtain ⟨z', hz', rfl⟩ := hdep 6 _ _ rfl rfl rfl
      refine g_run (wanted_is rfl (yields rfl hz)) (st_call (exec_call1 _ _ _ _ _ _ cf_snam (eval_at hz') (fun _ => rfl) _ _ _ _ _ _) ?_)
      refine (hnam u).mono ?_
      rintro e u' ⟨rfl, hb'⟩
      exact ⟨_, rfl, _, rfl, hb', rfl⟩
    | 8, hi =>
      cases hi
      obtain ⟨z, hz, rfl⟩ := hdep 4 _ _ rfl rfl rfl
      obtain ⟨z5, hz5, rfl⟩ := hdep 5 _ _ rfl rfl rfl
      obtain ⟨z7, hz7, rfl⟩ := hdep 7 _ _ rfl rfl rfl
      refine g_run (wanted_is rfl (yields rfl hz)) (st_call (exec_call2 _ _ _ _ _ _ _ _ cf_ssame (eval_at hz5) (eval_at hz7) (fun _ => rfl) _ _ _ _ _ _) ?_)
      refine (same_sSamePacket p q d dq u (hp.below hbu) (hq u (hp.below hbu))).mono ?_
      rintro e u' ⟨rfl, hb'⟩
      exact ⟨_, rfl, _, rfl, hb', rfl⟩
    | 9, hi =>
      cases hi
      obtain ⟨z, hz, rfl⟩ := hdep 4 _ _ rfl rfl rfl
      obtain ⟨z', hz', rfl⟩ := hdep 8 _ _ rfl rfl rfl
      exact g_run (wanted_is rfl (yields rfl hz)) (st_value (v := .bool (!decide (pv p d = pv q dq))) (w' := u) (by simp [execOp, eval_at hz', Op.unary]) ⟨_, rfl, Below.refl _ _, rfl⟩)
    | 10, hi =>
      cases hi
      obtain ⟨z, hz, rfl⟩ := hdep 4 _ _ rfl rfl rfl
      obtain ⟨z', hz', rfl⟩ := hdep 9 _ _ rfl rfl rfl
      exact g_run (wanted_none rfl _) (st_value (v := .bool (!decide (pv p d = pv q dq))) (w' := u) (by simp [execOp, eval_at hz, eval_at hz', asBool]) ⟨_, rfl, Below.refl _ _, rfl⟩)
    | (_ + 11), hi => cases hi
  intro vs y b1 hG a3 h3
  have g10 : vs 10 = .bool (!decide (pv p d = pv q dq)) := hG 10 (by decide)
  clear hG
  replace h3 : puts _ 1 _ (Act.mk #[_, _, _, _, _, _, _, _, _, _, _, _, _, _, _, _, _, _, _, _, _, _, _, _, _, _, _, _, _, _, _, _, _, _, _, _, _, _, _, _, _, _, _, _, _, _, _, _, _, _, _, _, _, _, _, _, _, _, _, _, _, _, _, _, _, _, _, _, _, _, _, _, _, _, _, _, _, _, _, _, _, _, _, _, _, _, _, _, _, _, _, _, _, _, _, _, _, _, _, _, _, _, _, _, _, _, _, _, _, _, _, _, _, _, _, _, _, _, _, _, _, _, _, _, _, _, _, _, _, _, _, _, _, _, _, _, _, _, _, _, _, _, _, _, _, _, _, _, _, _, _, _, _, _, _, _, _, _, _, _, _, _, _, _, _, _, _, _, _, _, _, _, _, _, _, _, _, _, _, _, _, _, _, _, _, _, _, _, _, _, _] []) = a3 := h3
  replace h3 : puts _ 2 _ (Act.mk #[_, _, _, _, _, _, _, _, _, _, _, _, _, _, _, _, _, _, _, _, _, _, _, _, _, _, _, _, _, _, _, _, _, _, _, _, _, _, _, _, _, _, _, _, _, _, _, _, _, _, _, _, _, _, _, _, _, _, _, _, _, _, _, _, _, _, _, _, _, _, _, _, _, _, _, _, _, _, _, _, _, _, _, _, _, _, _, _, _, _, _, _, _, _, _, _, _, _, _, _, _, _, _, _, _, _, _, _, _, _, _, _, _, _, _, _, _, _, _, _, _, _, _, _, _, _, _, _, _, _, _, _, _, _, _, _, _, _, _, _, _, _, _, _, _, _, _, _, _, _, _, _, _, _, _, _, _, _, _, _, _, _, _, _, _, _, _, _, _, _, _, _, _, _, _, _, _, _, _, _, _, _, _, _, _, _, _, _, _, _, _] []) = a3 := h3
  replace h3 : puts _ 3 _ (Act.mk #[_, _, _, _, _, _, _, _, _, _, _, _, _, _, _, _, _, _, _, _, _, _, _, _, _, _, _, _, _, _, _, _, _, _, _, _, _, _, _, _, _, _, _, _, _, _, _, _, _, _, _, _, _, _, _, _, _, _, _, _, _, _, _, _, _, _, _, _, _, _, _, _, _, _, _, _, _, _, _, _, _, _, _, _, _, _, _, _, _, _, _, _, _, _, _, _, _, _, _, _, _, _, _, _, _, _, _, _, _, _, _, _, _, _, _, _, _, _, _, _, _, _, _, _, _, _, _, _, _, _, _, _, _, _, _, _, _, _, _, _, _, _, _, _, _, _, _, _, _, _, _, _, _, _, _, _, _, _, _, _, _, _, _, _, _, _, _, _, _, _, _, _, _, _, _, _, _, _, _, _, _, _, _, _, _, _, _, _, _, _, _] []) = a3 := h3
  replace h3 : puts _ 4 _ (Act.mk #[_, _, _, _, _, _, _, _, _, _, _, _, _, _, _, _, _, _, _, _, _, _, _, _, _, _, _, _, _, _, _, _, _, _, _, _, _, _, _, _, _, _, _, _, _, _, _, _, _, _, _, _, _, _, _, _, _, _, _, _, _, _, _, _, _, _, _, _, _, _, _, _, _, _, _, _, _, _, _, _, _, _, _, _, _, _, _, _, _, _, _, _, _, _, _, _, _, _, _, _, _, _, _, _, _, _, _, _, _, _, _, _, _, _, _, _, _, _, _, _, _, _, _, _, _, _, _, _, _, _, _, _, _, _, _, _, _, _, _, _, _, _, _, _, _, _, _, _, _, _, _, _, _, _, _, _, _, _, _, _, _, _, _, _, _, _, _, _, _, _, _, _, _, _, _, _, _, _, _, _, _, _, _, _, _, _, _, _, _, _, _] []) = a3 := h3
  replace h3 : puts _ 5 _ (Act.mk #[_, _, _, _, _, _, _, _, _, _, _, _, _, _, _, _, _, _, _, _, _, _, _, _, _, _, _, _, _, _, _, _, _, _, _, _, _, _, _, _, _, _, _, _, _, _, _, _, _, _, _, _, _, _, _, _, _, _, _, _, _, _, _, _, _, _, _, _, _, _, _, _, _, _, _, _, _, _, _, _, _, _, _, _, _, _, _, _, _, _, _, _, _, _, _, _, _, _, _, _, _, _, _, _, _, _, _, _, _, _, _, _, _, _, _, _, _, _, _, _, _, _, _, _, _, _, _, _, _, _, _, _, _, _, _, _, _, _, _, _, _, _, _, _, _, _, _, _, _, _, _, _, _, _, _, _, _, _, _, _, _, _, _, _, _, _, _, _, _, _, _, _, _, _, _, _, _, _, _, _, _, _, _, _, _, _, _, _, _, _, _] []) = a3 := h3
  replace h3 : puts _ 6 _ (Act.mk #[_, _, _, _, _, _, _, _, _, _, _, _, _, _, _, _, _, _, _, _, _, _, _, _, _, _, _, _, _, _, _, _, _, _, _, _, _, _, _, _, _, _, _, _, _, _, _, _, _, _, _, _, _, _, _, _, _, _, _, _, _, _, _, _, _, _, _, _, _, _, _, _, _, _, _, _, _, _, _, _, _, _, _, _, _, _, _, _, _, _, _, _, _, _, _, _, _, _, _, _, _, _, _, _, _, _, _, _, _, _, _, _, _, _, _, _, _, _, _, _, _, _, _, _, _, _, _, _, _, _, _, _, _, _, _, _, _, _, _, _, _, _, _, _, _, _, _, _, _, _, _, _, _, _, _, _, _, _, _, _, _, _, _, _, _, _, _, _, _, _, _, _, _, _, _, _, _, _, _, _, _, _, _, _, _, _, _, _, _, _, _] []) = a3 := h3
  replace h3 : puts _ 7 _ (Act.mk #[_, _, _, _, _, _, _, _, _, _, _, _, _, _, _, _, _, _, _, _, _, _, _, _, _, _, _, _, _, _, _, _, _, _, _, _, _, _, _, _, _, _, _, _, _, _, _, _, _, _, _, _, _, _, _, _, _, _, _, _, _, _, _, _, _, _, _, _, _, _, _, _, _, _, _, _, _, _, _, _, _, _, _, _, _, _, _, _, _, _, _, _, _, _, _, _, _, _, _, _, _, _, _, _, _, _, _, _, _, _, _, _, _, _, _, _, _, _, _, _, _, _, _, _, _, _, _, _, _, _, _, _, _, _, _, _, _, _, _, _, _, _, _, _, _, _, _, _, _, _, _, _, _, _, _, _, _, _, _, _, _, _, _, _, _, _, _, _, _, _, _, _, _, _, _, _, _, _, _, _, _, _, _, _, _, _, _, _, _, _, _] []) = a3 := h3
  replace h3 : puts _ 8 _ (Act.mk #[_, _, _, _, _, _, _, _, _, _, _, _, _, _, _, _, _, _, _, _, _, _, _, _, _, _, _, _, _, _, _, _, _, _, _, _, _, _, _, _, _, _, _, _, _, _, _, _, _, _, _, _, _, _, _, _, _, _, _, _, _, _, _, _, _, _, _, _, _, _, _, _, _, _, _, _, _, _, _, _, _, _, _, _, _, _, _, _, _, _, _, _, _, _, _, _, _, _, _, _, _, _, _, _, _, _, _, _, _, _, _, _, _, _, _, _, _, _, _, _, _, _, _, _, _, _, _, _, _, _, _, _, _, _, _, _, _, _, _, _, _, _, _, _, _, _, _, _, _, _, _, _, _, _, _, _, _, _, _, _, _, _, _, _, _, _, _, _, _, _, _, _, _, _, _, _, _, _, _, _, _, _, _, _, _, _, _, _, _, _, _] []) = a3 := h3
  replace h3 : puts _ 9 _ (Act.mk #[_, _, _, _, _, _, _, _, _, _, _, _, _, _, _, _, _, _, _, _, _, _, _, _, _, _, _, _, _, _, _, _, _, _, _, _, _, _, _, _, _, _, _, _, _, _, _, _, _, _, _, _, _, _, _, _, _, _, _, _, _, _, _, _, _, _, _, _, _, _, _, _, _, _, _, _, _, _, _, _, _, _, _, _, _, _, _, _, _, _, _, _, _, _, _, _, _, _, _, _, _, _, _, _, _, _, _, _, _, _, _, _, _, _, _, _, _, _, _, _, _, _, _, _, _, _, _, _, _, _, _, _, _, _, _, _, _, _, _, _, _, _, _, _, _, _, _, _, _, _, _, _, _, _, _, _, _, _, _, _, _, _, _, _, _, _, _, _, _, _, _, _, _, _, _, _, _, _, _, _, _, _, _, _, _, _, _, _, _, _, _] []) = a3 := h3
  replace h3 : puts _ 10 _ (Act.mk #[_, _, _, _, _, _, _, _, _, _, _, _, _, _, _, _, _, _, _, _, _, _, _, _, _, _, _, _, _, _, _, _, _, _, _, _, _, _, _, _, _, _, _, _, _, _, _, _, _, _, _, _, _, _, _, _, _, _, _, _, _, _, _, _, _, _, _, _, _, _, _, _, _, _, _, _, _, _, _, _, _, _, _, _, _, _, _, _, _, _, _, _, _, _, _, _, _, _, _, _, _, _, _, _, _, _, _, _, _, _, _, _, _, _, _, _, _, _, _, _, _, _, _, _, _, _, _, _, _, _, _, _, _, _, _, _, _, _, _, _, _, _, _, _, _, _, _, _, _, _, _, _, _, _, _, _, _, _, _, _, _, _, _, _, _, _, _, _, _, _, _, _, _, _, _, _, _, _, _, _, _, _, _, _, _, _, _, _, _, _, _] []) = a3 := h3
  replace h3 : puts _ 11 _ (Act.mk #[_, _, _, _, _, _, _, _, _, _, _, _, _, _, _, _, _, _, _, _, _, _, _, _, _, _, _, _, _, _, _, _, _, _, _, _, _, _, _, _, _, _, _, _, _, _, _, _, _, _, _, _, _, _, _, _, _, _, _, _, _, _, _, _, _, _, _, _, _, _, _, _, _, _, _, _, _, _, _, _, _, _, _, _, _, _, _, _, _, _, _, _, _, _, _, _, _, _, _, _, _, _, _, _, _, _, _, _, _, _, _, _, _, _, _, _, _, _, _, _, _, _, _, _, _, _, _, _, _, _, _, _, _, _, _, _, _, _, _, _, _, _, _, _, _, _, _, _, _, _, _, _, _, _, _, _, _, _, _, _, _, _, _, _, _, _, _, _, _, _, _, _, _, _, _, _, _, _, _, _, _, _, _, _, _, _, _, _, _, _, _] []) = a3 := h3
  replace h3 : (Act.mk #[_, _, _, _, _, _, _, _, _, _, _, _, _, _, _, _, _, _, _, _, _, _, _, _, _, _, _, _, _, _, _, _, _, _, _, _, _, _, _, _, _, _, _, _, _, _, _, _, _, _, _, _, _, _, _, _, _, _, _, _, _, _, _, _, _, _, _, _, _, _, _, _, _, _, _, _, _, _, _, _, _, _, _, _, _, _, _, _, _, _, _, _, _, _, _, _, _, _, _, _, _, _, _, _, _, _, _, _, _, _, _, _, _, _, _, _, _, _, _, _, _, _, _, _, _, _, _, _, _, _, _, _, _, _, _, _, _, _, _, _, _, _, _, _, _, _, _, _, _, _, _, _, _, _, _, _, _, _, _, _, _, _, _, _, _, _, _, _, _, _, _, _, _, _, _, _, _, _, _, _, _, _, _, _, _, _, _, _, _, _, _] []) = a3 := h3
  subst h3
  replace hb := bel hb b1
  replace A := A.next b1
  replace hp := hp.below b1
  clear b1
  rw [decide_eq_true heq] at g10
  simp only [g10]
  clear hnam hq g10 heq
  have f0 : y.cell? ⟨w.heap.size, 0, none⟩ = some (.int .i64 10) := (A.cell 0).trans (p.c0.trans (by rw [hk]))
  have f4 : y.cell? ⟨w.heap.size, 4, none⟩ = some (.int .i64 p.id) := (A.cell 4).trans p.c4
  have f23 : y.cell? ⟨w.heap.size, 23, none⟩ = some (.slice p.nam.a p.nam.n p.nam.c) := (A.cell 23).trans p.c23
  clear A
  go_wp2_with fail
  refine (in_sl1Inb p.id 1 65535 (inB p.id 1 65535) _ rfl).mono ?_
  rintro e zi ⟨rfl, hzi⟩
  subst hzi
  generalize hI : inB p.id 1 65535 = I
  have HI : Hid (inB p.id 1 65535 = I) := hI
  clear hI
  have R := hp.2.2.2.2.1
  have HL : Hid (d.nam.length = p.nam.n) := R.1.1
  have tn : p.nam.n ≤ maxLen := Nat.le_trans R.2.1 R.2.2.1
  unfold maxLen at tn
  go_wp2
  go_loopw [6] (fun i wr => ∃ k : Nat, i = .int .i64 k ∧ k ≤ p.nam.n ∧ Hid ((d.nam.take k).all flt = true) ∧ Below zi.heap.size zi wr) (fun i _ => p.nam.n - (intOf i).toNat)
  case atStart => exact ⟨0, rfl, Nat.zero_le _, rfl, Below.refl _ _⟩
  case round =>
    obtain ⟨k, rfl, hkn, hT, hbr⟩ := hrel
    have f23' : wr.cell? ⟨w.heap.size, 23, none⟩ = some (.slice p.nam.a p.nam.n p.nam.c) := (hbr.cell (World.block_lt_of_cell? _ _ f23)).trans f23
    by_cases hlt : k < p.nam.n
    · obtain ⟨b, off, e, hc⟩ := R.1.2 k hlt
      rw [e] at f23'
      have hck : wr.cell? ⟨b, off + k, none⟩ = some (.string (st d.nam k)) := (hbr.cell (World.block_lt_of_cell? _ _ hc)).trans hc
      clear hc e
      have hlt' : (k : Int) < p.nam.n := by omega
      have k0 : (0 : Int) ≤ k := by omega
      have hkl : Hid (k < d.nam.length) := by show k < d.nam.length; rw [HL.out]; exact hlt
      go_wp2_with fail
      refine (fil_sFilterOk (st d.nam k) _ (hs _ (st_mem hkl.out))).mono ?_
      rintro e z1 ⟨he, hz1⟩
      obtain rfl : e = .returned (.bool (flt (st d.nam k))) := he
      cases hv : flt (st d.nam k)
      · have HN : Hid (d.nam.all flt = false) := all_no flt d.nam ByteArray.empty k hkl.out hv
        clear hv
        go_wp2
        go_ret
        exact ⟨ret_bool (by rw [HN.out]; simp), bel hb (bel hbr hz1)⟩
      · have HS : Hid ((d.nam.take (k + 1)).all flt = true) := all_step flt d.nam ByteArray.empty k hkl.out hT.out hv
        clear hv
        go_wp2
        go_roundw
        case rel => exact ⟨k + 1, by go_num, by omega, HS, bel hbr hz1⟩
        case measure => simp [intOf]; omega
    · have hlt' : ¬ (k : Int) < p.nam.n := by omega
      obtain rfl : k = p.nam.n := by omega
      have VA : Hid (d.nam.all flt = true) := all_all flt d.nam _ HL.out hT.out
      cases I
      · go_wp2
        go_ret
        exact ⟨ret_bool (by rw [VA.out, HI.out]; simp), bel hb hbr⟩
      · go_wp2_with fail
        refine (in_sl1Inb (p.nam.n : Int) 1 4 (inB p.nam.n 1 4) _ rfl).mono ?_
        rintro e z9 ⟨rfl, hz9⟩
        subst hz9
        go_wp2
        go_ret
        exact ⟨ret_bool (by rw [VA.out, HI.out]; simp), bel hb hbr⟩
set_option maxRecDepth 100000 in
set_option maxHeartbeats 4000000 in
theorem sok_8 (p : Pk) (d : Pd) (w : World) (hp : PRd w p d) (q : Pk) (dq : Pd) (ht : 1 ≤ p.ty ∧ p.ty ≤ 14)
    (hnam : ∀ u : World, Calls Tryz.prog 70 #[.agg p.cells] u fun e u' => e = .returned (.agg q.cells) ∧ Below u.heap.size u u')
    (hq : ∀ u : World, PRd u p d → PRd u q dq) (hk : p.ty = 8) (heq : pv p d = pv q dq) (hs : ∀ x ∈ d.wan, x.1.size ≤ 1048576) :
    Calls Tryz.prog 17 #[.agg p.cells] w fun e w' => e = .returned (.bool (d.wan.all wishOk && (inB p.id 1 65535 && inB p.wan.n 1 4))) ∧ Below w.heap.size w w' := by
  have hb : Below w.heap.size w (w.alloc (.cells p.cells 28)) := bel_new _ _
  have A : Blk (w.alloc (.cells p.cells 28)) w.heap.size p := heap_alloc_new _ _
  replace hp := hp.below hb
  go_enter Tryz.func17, Tryz.ntmps17
  go_wp2
  refine region_facts_g (by kernel_rfl) rfl (fun i u x => match i with
    | 0 => u = .pointer (some ((⟨w.heap.size, 0, none⟩ : Addr).add 0))
    | 1 => u = .int .i64 p.ty
    | 2 => u = .bool true
    | 3 | 4 => u = .bool false
    | 5 | 6 => u = .agg p.cells
    | 7 => u = .agg q.cells
    | 8 => u = .bool (decide (pv p d = pv q dq))
    | _ => u = .bool (!decide (pv p d = pv q dq))) ?_ ?_ ?_
  · intro i u x x' hx h
    exact h
  · intro i o a u hi hk hbu hdep
    match i, hi with
    | 0, hi =>
      cases hi
      have e1 : a.tmps[1]? = some (.pointer (some ⟨w.heap.size, 0, none⟩)) := (hk.at 1 rfl).trans rfl
      exact g_run (wanted_none rfl _) (st_value (w' := u) (v := .pointer (some ((⟨w.heap.size, 0, none⟩ : Addr).add 0))) (by simp only [execOp, eval_at e1, Sem.run_bind, fld0, Result.andThen_ok, Sem.run_pure]) ⟨_, rfl, Below.refl _ _, rfl⟩)
    | 1, hi =>
      cases hi
      obtain ⟨z, hz, rfl⟩ := hdep 0 _ _ rfl rfl rfl
      have hl := load_cell (P := Tryz.prog) (w := u) Tryz.underlying3 rfl (X := (⟨w.heap.size, 0, none⟩ : Addr).add 0) (((A.next hbu).cell 0).trans p.c0)
      exact g_run (wanted_none rfl _) (st_value (w' := u) (v := .int .i64 p.ty) (by simp only [execOp, eval_at hz, Sem.run_bind, hl, Result.andThen_ok, Sem.run_pure]) ⟨_, rfl, Below.refl _ _, rfl⟩)
    | 2, hi =>
      cases hi
      obtain ⟨z, hz, rfl⟩ := hdep 1 _ _ rfl rfl rfl
      refine g_run (wanted_none rfl _) (st_call (exec_call3 _ _ _ _ _ _ _ _ _ _ cf_l1In (eval_at hz) rfl rfl (fun _ => rfl) _ _ _ _ _ _) ?_)
      refine (in_sl1Inb _ _ _ true _ (decide_eq_true ht)).mono ?_
      rintro e u' ⟨rfl, rfl⟩
      exact ⟨_, rfl, _, rfl, Below.refl _ _, rfl⟩
    | 3, hi =>
      cases hi
      obtain ⟨z, hz, rfl⟩ := hdep 2 _ _ rfl rfl rfl
      exact g_run (wanted_none rfl _) (st_value (v := .bool false) (w' := u) (by simp [execOp, eval_at hz, Op.unary]) ⟨_, rfl, Below.refl _ _, rfl⟩)
    | 4, hi =>
      cases hi
      obtain ⟨z, hz, rfl⟩ := hdep 3 _ _ rfl rfl rfl
      exact g_run (wanted_none rfl _) (st_value (by simp [execOp, eval_at hz]) ⟨_, rfl, Below.refl _ _, rfl⟩)
    | 5, hi =>
      cases hi
      obtain ⟨z, hz, rfl⟩ := hdep 4 _ _ rfl rfl rfl
      exact g_run (wanted_is rfl (yields rfl hz)) (st_loadP (A.next hbu) _ rfl (eval_at ((hk.at 1 rfl).trans rfl)) ⟨_, rfl, Below.refl _ _, rfl⟩)
    | 6, hi =>
      cases hi
      obtain ⟨z, hz, rfl⟩ := hdep 4 _ _ rfl rfl rfl
      exact g_run (wanted_is rfl (yields rfl hz)) (st_loadP (A.next hbu) _ rfl (eval_at ((hk.at 1 rfl).trans rfl)) ⟨_, rfl, Below.refl _ _, rfl⟩)
    | 7, hi =>
      cases hi
      obtain ⟨z, hz, rfl⟩ := hdep 4 _ _ rfl rfl rfl
      obtain ⟨z', hz', rfl⟩ := hdep 6 _ _ rfl rfl rfl
      refine g_run (wanted_is rfl (yields rfl hz)) (st_call (exec_call1 _ _ _ _ _ _ cf_snam (eval_at hz') (fun _ => rfl) _ _ _ _ _ _) ?_)
      refine (hnam u).mono ?_
      rintro e u' ⟨rfl, hb'⟩
      exact ⟨_, rfl, _, rfl, hb', rfl⟩
    | 8, hi =>
      cases hi
      obtain ⟨z, hz, rfl⟩ := hdep 4 _ _ rfl rfl rfl
      obtain ⟨z5, hz5, rfl⟩ := hdep 5 _ _ rfl rfl rfl
      obtain ⟨z7, hz7, rfl⟩ := hdep 7 _ _ rfl rfl rfl
      refine g_run (wanted_is rfl (yields rfl hz)) (st_call (exec_call2 _ _ _ _ _ _ _ _ cf_ssame (eval_at hz5) (eval_at hz7) (fun _ => rfl) _ _ _ _ _ _) ?_)
      refine (same_sSamePacket p q d dq u (hp.below hbu) (hq u (hp.below hbu))).mono ?_
      rintro e u' ⟨rfl, hb'⟩
      exact ⟨_, rfl, _, rfl, hb', rfl⟩
    | 9, hi =>
      cases hi
      obtain ⟨z, hz, rfl⟩ := hdep 4 _ _ rfl rfl rfl
      obtain ⟨z', hz', rfl⟩ := hdep 8 _ _ rfl rfl rfl
      exact g_run (wanted_is rfl (yields rfl hz)) (st_value (v := .bool (!decide (pv p d = pv q dq))) (w' := u) (by simp [execOp, eval_at hz', Op.unary]) ⟨_, rfl, Below.refl _ _, rfl⟩)
    | 10, hi =>
      cases hi
      obtain ⟨z, hz, rfl⟩ := hdep 4 _ _ rfl rfl rfl
      obtain ⟨z', hz', rfl⟩ := hdep 9 _ _ rfl rfl rfl
      exact g_run (wanted_none rfl _) (st_value (v := .bool (!decide (pv p d = pv q dq))) (w' := u) (by simp [execOp, eval_at hz, eval_at hz', asBool]) ⟨_, rfl, Below.refl _ _, rfl⟩)
    | (_ + 11), hi => cases hi
  intro vs y b1 hG a3 h3
  have g10 : vs 10 = .bool (!decide (pv p d = pv q dq)) := hG 10 (by decide)
  clear hG
  replace h3 : puts _ 1 _ (Act.mk #[_, _, _, _, _, _, _, _, _, _, _, _, _, _, _, _, _, _, _, _, _, _, _, _, _, _, _, _, _, _, _, _, _, _, _, _, _, _, _, _, _, _, _, _, _, _, _, _, _, _, _, _, _, _, _, _, _, _, _, _, _, _, _, _, _, _, _, _, _, _, _, _, _, _, _, _, _, _, _, _, _, _, _, _, _, _, _, _, _, _, _, _, _, _, _, _, _, _, _, _, _, _, _, _, _, _, _, _, _, _, _, _, _, _, _, _, _, _, _, _, _, _, _, _, _, _, _, _, _, _, _, _, _, _, _, _, _, _, _, _, _, _, _, _, _, _, _, _, _, _, _, _, _, _, _, _, _, _, _, _, _, _, _, _, _, _, _, _, _, _, _, _, _, _, _, _, _, _, _, _, _, _, _, _, _, _, _, _, _, _, _] []) = a3 := h3
  replace h3 : puts _ 2 _ (Act.mk #[_, _, _, _, _, _, _, _, _, _, _, _, _, _, _, _, _, _, _, _, _, _, _, _, _, _, _, _, _, _, _, _, _, _, _, _, _, _, _, _, _, _, _, _, _, _, _, _, _, _, _, _, _, _, _, _, _, _, _, _, _, _, _, _, _, _, _, _, _, _, _, _, _, _, _, _, _, _, _, _, _, _, _, _, _, _, _, _, _, _, _, _, _, _, _, _, _, _, _, _, _, _, _, _, _, _, _, _, _, _, _, _, _, _, _, _, _, _, _, _, _, _, _, _, _, _, _, _, _, _, _, _, _, _, _, _, _, _, _, _, _, _, _, _, _, _, _, _, _, _, _, _, _, _, _, _, _, _, _, _, _, _, _, _, _, _, _, _, _, _, _, _, _, _, _, _, _, _, _, _, _, _, _, _, _, _, _, _, _, _, _] []) = a3 := h3
  replace h3 : puts _ 3 _ (Act.mk #[_, _, _, _, _, _, _, _, _, _, _, _, _, _, _, _, _, _, _, _, _, _, _, _, _, _, _, _, _, _, _, _, _, _, _, _, _, _, _, _, _, _, _, _, _, _, _, _, _, _, _, _, _, _, _, _, _, _, _, _, _, _, _, _, _, _, _, _, _, _, _, _, _, _, _, _, _, _, _, _, _, _, _, _, _, _, _, _, _, _, _, _, _, _, _, _, _, _, _, _, _, _, _, _, _, _, _, _, _, _, _, _, _, _, _, _, _, _, _, _, _, _, _, _, _, _, _, _, _, _, _, _, _, _, _, _, _, _, _, _, _, _, _, _, _, _, _, _, _, _, _, _, _, _, _, _, _, _, _, _, _, _, _, _, _, _, _, _, _, _, _, _, _, _, _, _, _, _, _, _, _, _, _, _, _, _, _, _, _, _, _] []) = a3 := h3
  replace h3 : puts _ 4 _ (Act.mk #[_, _, _, _, _, _, _, _, _, _, _, _, _, _, _, _, _, _, _, _, _, _, _, _, _, _, _, _, _, _, _, _, _, _, _, _, _, _, _, _, _, _, _, _, _, _, _, _, _, _, _, _, _, _, _, _, _, _, _, _, _, _, _, _, _, _, _, _, _, _, _, _, _, _, _, _, _, _, _, _, _, _, _, _, _, _, _, _, _, _, _, _, _, _, _, _, _, _, _, _, _, _, _, _, _, _, _, _, _, _, _, _, _, _, _, _, _, _, _, _, _, _, _, _, _, _, _, _, _, _, _, _, _, _, _, _, _, _, _, _, _, _, _, _, _, _, _, _, _, _, _, _, _, _, _, _, _, _, _, _, _, _, _, _, _, _, _, _, _, _, _, _, _, _, _, _, _, _, _, _, _, _, _, _, _, _, _, _, _, _, _] []) = a3 := h3
  replace h3 : puts _ 5 _ (Act.mk #[_, _, _, _, _, _, _, _, _, _, _, _, _, _, _, _, _, _, _, _, _, _, _, _, _, _, _, _, _, _, _, _, _, _, _, _, _, _, _, _, _, _, _, _, _, _, _, _, _, _, _, _, _, _, _, _, _, _, _, _, _, _, _, _, _, _, _, _, _, _, _, _, _, _, _, _, _, _, _, _, _, _, _, _, _, _, _, _, _, _, _, _, _, _, _, _, _, _, _, _, _, _, _, _, _, _, _, _, _, _, _, _, _, _, _, _, _, _, _, _, _, _, _, _, _, _, _, _, _, _, _, _, _, _, _, _, _, _, _, _, _, _, _, _, _, _, _, _, _, _, _, _, _, _, _, _, _, _, _, _, _, _, _, _, _, _, _, _, _, _, _, _, _, _, _, _, _, _, _, _, _, _, _, _, _, _, _, _, _, _, _] []) = a3 := h3
  replace h3 : puts _ 6 _ (Act.mk #[_, _, _, _, _, _, _, _, _, _, _, _, _, _, _, _, _, _, _, _, _, _, _, _, _, _, _, _, _, _, _, _, _, _, _, _, _, _, _, _, _, _, _, _, _, _, _, _, _, _, _, _, _, _, _, _, _, _, _, _, _, _, _, _, _, _, _, _, _, _, _, _, _, _, _, _, _, _, _, _, _, _, _, _, _, _, _, _, _, _, _, _, _, _, _, _, _, _, _, _, _, _, _, _, _, _, _, _, _, _, _, _, _, _, _, _, _, _, _, _, _, _, _, _, _, _, _, _, _, _, _, _, _, _, _, _, _, _, _, _, _, _, _, _, _, _, _, _, _, _, _, _, _, _, _, _, _, _, _, _, _, _, _, _, _, _, _, _, _, _, _, _, _, _, _, _, _, _, _, _, _, _, _, _, _, _, _, _, _, _, _] []) = a3 := h3
  replace h3 : puts _ 7 _ (Act.mk #[_, _, _, _, _, _, _, _, _, _, _, _, _, _, _, _, _, _, _, _, _, _, _, _, _, _, _, _, _, _, _, _, _, _, _, _, _, _, _, _, _, _, _, _, _, _, _, _, _, _, _, _, _, _, _, _, _, _, _, _, _, _, _, _, _, _, _, _, _, _, _, _, _, _, _, _, _, _, _, _, _, _, _, _, _, _, _, _, _, _, _, _, _, _, _, _, _, _, _, _, _, _, _, _, _, _, _, _, _, _, _, _, _, _, _, _, _, _, _, _, _, _, _, _, _, _, _, _, _, _, _, _, _, _, _, _, _, _, _, _, _, _, _, _, _, _, _, _, _, _, _, _, _, _, _, _, _, _, _, _, _, _, _, _, _, _, _, _, _, _, _, _, _, _, _, _, _, _, _, _, _, _, _, _, _, _, _, _, _, _, _] []) = a3 := h3
  replace h3 : puts _ 8 _ (Act.mk #[_, _, _, _, _, _, _, _, _, _, _, _, _, _, _, _, _, _, _, _, _, _, _, _, _, _, _, _, _, _, _, _, _, _, _, _, _, _, _, _, _, _, _, _, _, _, _, _, _, _, _, _, _, _, _, _, _, _, _, _, _, _, _, _, _, _, _, _, _, _, _, _, _, _, _, _, _, _, _, _, _, _, _, _, _, _, _, _, _, _, _, _, _, _, _, _, _, _, _, _, _, _, _, _, _, _, _, _, _, _, _, _, _, _, _, _, _, _, _, _, _, _, _, _, _, _, _, _, _, _, _, _, _, _, _, _, _, _, _, _, _, _, _, _, _, _, _, _, _, _, _, _, _, _, _, _, _, _, _, _, _, _, _, _, _, _, _, _, _, _, _, _, _, _, _, _, _, _, _, _, _, _, _, _, _, _, _, _, _, _, _] []) = a3 := h3
  replace h3 : puts _ 9 _ (Act.mk #[_, _, _, _, _, _, _, _, _, _, _, _, _, _, _, _, _, _, _, _, _, _, _, _, _, _, _, _, _, _, _, _, _, _, _, _, _, _, _, _, _, _, _, _, _, _, _, _, _, _, _, _, _, _, _, _, _, _, _, _, _, _, _, _, _, _, _, _, _, _, _, _, _, _, _, _, _, _, _, _, _, _, _, _, _, _, _, _, _, _, _, _, _, _, _, _, _, _, _, _, _, _, _, _, _, _, _, _, _, _, _, _, _, _, _, _, _, _, _, _, _, _, _, _, _, _, _, _, _, _, _, _, _, _, _, _, _, _, _, _, _, _, _, _, _, _, _, _, _, _, _, _, _, _, _, _, _, _, _, _, _, _, _, _, _, _, _, _, _, _, _, _, _, _, _, _, _, _, _, _, _, _, _, _, _, _, _, _, _, _, _] []) = a3 := h3
  replace h3 : puts _ 10 _ (Act.mk #[_, _, _, _, _, _, _, _, _, _, _, _, _, _, _, _, _, _, _, _, _, _, _, _, _, _, _, _, _, _, _, _, _, _, _, _, _, _, _, _, _, _, _, _, _, _, _, _, _, _, _, _, _, _, _, _, _, _, _, _, _, _, _, _, _, _, _, _, _, _, _, _, _, _, _, _, _, _, _, _, _, _, _, _, _, _, _, _, _, _, _, _, _, _, _, _, _, _, _, _, _, _, _, _, _, _, _, _, _, _, _, _, _, _, _, _, _, _, _, _, _, _, _, _, _, _, _, _, _, _, _, _, _, _, _, _, _, _, _, _, _, _, _, _, _, _, _, _, _, _, _, _, _, _, _, _, _, _, _, _, _, _, _, _, _, _, _, _, _, _, _, _, _, _, _, _, _, _, _, _, _, _, _, _, _, _, _, _, _, _, _] []) = a3 := h3
  replace h3 : puts _ 11 _ (Act.mk #[_, _, _, _, _, _, _, _, _, _, _, _, _, _, _, _, _, _, _, _, _, _, _, _, _, _, _, _, _, _, _, _, _, _, _, _, _, _, _, _, _, _, _, _, _, _, _, _, _, _, _, _, _, _, _, _, _, _, _, _, _, _, _, _, _, _, _, _, _, _, _, _, _, _, _, _, _, _, _, _, _, _, _, _, _, _, _, _, _, _, _, _, _, _, _, _, _, _, _, _, _, _, _, _, _, _, _, _, _, _, _, _, _, _, _, _, _, _, _, _, _, _, _, _, _, _, _, _, _, _, _, _, _, _, _, _, _, _, _, _, _, _, _, _, _, _, _, _, _, _, _, _, _, _, _, _, _, _, _, _, _, _, _, _, _, _, _, _, _, _, _, _, _, _, _, _, _, _, _, _, _, _, _, _, _, _, _, _, _, _, _] []) = a3 := h3
  replace h3 : (Act.mk #[_, _, _, _, _, _, _, _, _, _, _, _, _, _, _, _, _, _, _, _, _, _, _, _, _, _, _, _, _, _, _, _, _, _, _, _, _, _, _, _, _, _, _, _, _, _, _, _, _, _, _, _, _, _, _, _, _, _, _, _, _, _, _, _, _, _, _, _, _, _, _, _, _, _, _, _, _, _, _, _, _, _, _, _, _, _, _, _, _, _, _, _, _, _, _, _, _, _, _, _, _, _, _, _, _, _, _, _, _, _, _, _, _, _, _, _, _, _, _, _, _, _, _, _, _, _, _, _, _, _, _, _, _, _, _, _, _, _, _, _, _, _, _, _, _, _, _, _, _, _, _, _, _, _, _, _, _, _, _, _, _, _, _, _, _, _, _, _, _, _, _, _, _, _, _, _, _, _, _, _, _, _, _, _, _, _, _, _, _, _, _] []) = a3 := h3
  subst h3
  replace hb := bel hb b1
  replace A := A.next b1
  replace hp := hp.below b1
  clear b1
  rw [decide_eq_true heq] at g10
  simp only [g10]
  clear hnam hq g10 heq
  have f0 : y.cell? ⟨w.heap.size, 0, none⟩ = some (.int .i64 8) := (A.cell 0).trans (p.c0.trans (by rw [hk]))
  have f4 : y.cell? ⟨w.heap.size, 4, none⟩ = some (.int .i64 p.id) := (A.cell 4).trans p.c4
  have f22 : y.cell? ⟨w.heap.size, 22, none⟩ = some (.slice p.wan.a p.wan.n p.wan.c) := (A.cell 22).trans p.c22
  clear A
  go_wp2_with fail
  refine (in_sl1Inb p.id 1 65535 (inB p.id 1 65535) _ rfl).mono ?_
  rintro e zi ⟨rfl, hzi⟩
  subst hzi
  generalize hI : inB p.id 1 65535 = I
  have HI : Hid (inB p.id 1 65535 = I) := hI
  clear hI
  have R := hp.2.2.2.1
  have HL : Hid (d.wan.length = p.wan.n) := R.1.1
  have tn : p.wan.n ≤ maxLen := Nat.le_trans R.2.1 R.2.2.1
  unfold maxLen at tn
  go_wp2
  go_loopw [4] (fun i wr => ∃ k : Nat, i = .int .i64 k ∧ k ≤ p.wan.n ∧ Hid ((d.wan.take k).all wishOk = true) ∧ Below zi.heap.size zi wr) (fun i _ => p.wan.n - (intOf i).toNat)
  case atStart => exact ⟨0, rfl, Nat.zero_le _, rfl, Below.refl _ _⟩
  case round =>
    obtain ⟨k, rfl, hkn, hT, hbr⟩ := hrel
    have f22' : wr.cell? ⟨w.heap.size, 22, none⟩ = some (.slice p.wan.a p.wan.n p.wan.c) := (hbr.cell (World.block_lt_of_cell? _ _ f22)).trans f22
    by_cases hlt : k < p.wan.n
    · obtain ⟨b, off, e, hc, hd⟩ := R.1.2 k hlt
      rw [e] at f22'
      have hck : wr.cell? ⟨b, off + k * 2, none⟩ = some (.string (wf d.wan k)) := (hbr.cell (World.block_lt_of_cell? _ _ hc)).trans hc
      have hdk : wr.cell? ⟨b, off + k * 2 + 1, none⟩ = some (.int .i64 (wq d.wan k)) := (hbr.cell (World.block_lt_of_cell? _ _ hd)).trans hd
      clear hc hd e
      have hlt' : (k : Int) < p.wan.n := by omega
      have k0 : (0 : Int) ≤ k := by omega
      have hkl : Hid (k < d.wan.length) := by show k < d.wan.length; rw [HL.out]; exact hlt
      go_wp2_with fail
      refine (fil_sFilterOk (wf d.wan k) _ (hs _ (wt_mem hkl.out))).mono ?_
      rintro e z1 ⟨he, hz1⟩
      obtain rfl : e = .returned (.bool (flt (wf d.wan k))) := he
      replace f22' : z1.cell? ⟨w.heap.size, 22, none⟩ = some (.slice (some ⟨b, off, none⟩) p.wan.n p.wan.c) := (hz1.cell (World.block_lt_of_cell? _ _ f22')).trans f22'
      replace hdk : z1.cell? ⟨b, off + k * 2 + 1, none⟩ = some (.int .i64 (wq d.wan k)) := (hz1.cell (World.block_lt_of_cell? _ _ hdk)).trans hdk
      cases hv : flt (wf d.wan k)
      · have hok : wishOk (wf d.wan k, wq d.wan k) = false := by simp [wishOk, hv]
        have HN : Hid (d.wan.all wishOk = false) := all_no wishOk d.wan (ByteArray.empty, 0) k hkl.out hok
        clear hok hv
        go_wp2
        go_ret
        exact ⟨ret_bool (by rw [HN.out]; simp), bel hb (bel hbr hz1)⟩
      · go_wp2_with fail
        refine (in_sl1Inb (wq d.wan k) 0 2 (inB (wq d.wan k) 0 2) _ rfl).mono ?_
        rintro e z2 ⟨rfl, hz2⟩
        subst hz2
        cases hv2 : inB (wq d.wan k) 0 2
        · have hok : wishOk (wf d.wan k, wq d.wan k) = false := by simp [wishOk, hv2]
          have HN : Hid (d.wan.all wishOk = false) := all_no wishOk d.wan (ByteArray.empty, 0) k hkl.out hok
          clear hok hv hv2
          go_wp2
          go_ret
          exact ⟨ret_bool (by rw [HN.out]; simp), bel hb (bel hbr hz1)⟩
        · have hok : wishOk (wf d.wan k, wq d.wan k) = true := by simp [wishOk, hv, hv2]
          have HS : Hid ((d.wan.take (k + 1)).all wishOk = true) := all_step wishOk d.wan (ByteArray.empty, 0) k hkl.out hT.out hok
          clear hok hv hv2
          go_wp2
          go_roundw
          case rel => exact ⟨k + 1, by go_num, by omega, HS, bel hbr hz1⟩
          case measure => simp [intOf]; omega
    · have hlt' : ¬ (k : Int) < p.wan.n := by omega
      obtain rfl : k = p.wan.n := by omega
      have VA : Hid (d.wan.all wishOk = true) := all_all wishOk d.wan _ HL.out hT.out
      cases I
      · go_wp2
        go_ret
        exact ⟨ret_bool (by rw [VA.out, HI.out]; simp), bel hb hbr⟩
      · go_wp2_with fail
        refine (in_sl1Inb (p.wan.n : Int) 1 4 (inB p.wan.n 1 4) _ rfl).mono ?_
        rintro e z9 ⟨rfl, hz9⟩
        subst hz9
        go_wp2
        go_ret
        exact ⟨ret_bool (by rw [VA.out, HI.out]; simp), bel hb hbr⟩
end Go.Proofs.YtccjiicjlifmiaaGreatDoor
