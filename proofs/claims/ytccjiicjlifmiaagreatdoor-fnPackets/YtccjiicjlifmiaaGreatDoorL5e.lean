/- The draws of packets: those of the kinds with a list that grows. -/
import Derived.Test.YtccjiicjlifmiaaGreatDoorPDy
import Derived.Test.YtccjiicjlifmiaaGreatDoorL5d
import Derived.Test.YtccjiicjlifmiaaGreatDoorFol
set_option linter.unusedVariables false
set_option linter.unusedSimpArgs false
namespace Go.Proofs.YtccjiicjlifmiaaGreatDoor
open Go.RowKit

theorem HH_le {A N : Nat} {S X : World → Prop} {k : Nat} {u : World} (h : HH A N S X k u) (hk : k ≤ A) : S u := by unfold HH at h; rwa [if_pos hk] at h
theorem HH_N {A N : Nat} {S X : World → Prop} {u : World} (h : HH A N S X N u) (hA : A < N) : X u := by unfold HH at h; rwa [if_neg (by omega), if_pos rfl] at h
theorem ints_row {u : World} {blk : Nat} {zs : List Int} (h : u.heap[blk]? = some (.cells (zs.map (Value.int .i64)).toArray 3)) (i : Nat) (hi : i < zs.length) : u.cell? ⟨blk, i, none⟩ = some (.int .i64 (zs.getD i 0)) := by
  rw [cell_of h]
  simp [List.getD_eq_getElem?_getD, List.getElem?_eq_getElem hi]
theorem mki1 (x : Int) (u : World) : (Instr.buildSlice 26 1 #[(0, .int .i64 x)]).run Tryz.prog u = .ok (.slice (some ⟨u.heap.size, 0, none⟩) 1 1) (u.alloc (.cells #[.int .i64 x] 3)) := by kernel_rfl
theorem mki4 (x y z v : Int) (u : World) : (Instr.buildSlice 26 4 #[(0, .int .i64 x), (1, .int .i64 y), (2, .int .i64 z), (3, .int .i64 v)]).run Tryz.prog u = .ok (.slice (some ⟨u.heap.size, 0, none⟩) 4 4) (u.alloc (.cells #[.int .i64 x, .int .i64 y, .int .i64 z, .int .i64 v] 3)) := by kernel_rfl
theorem mks1 (x : ByteArray) (u : World) : (Instr.buildSlice 25 1 #[(0, .string x)]).run Tryz.prog u = .ok (.slice (some ⟨u.heap.size, 0, none⟩) 1 1) (u.alloc (.cells #[.string x] 9)) := by kernel_rfl
theorem mkw1 (x : ByteArray) (q : Int) (u : World) : (Instr.buildSlice 24 1 #[(0, .agg #[.string x, .int .i64 q])]).run Tryz.prog u = .ok (.slice (some ⟨u.heap.size, 0, none⟩) 1 1) (u.alloc (.cells #[.string x, .int .i64 q] 88)) := by kernel_rfl
theorem z_build {o : Oper} {a : Act} {w : World} {K : Act → World → Prop} {Q : Exit → Act → World → Prop} {parts : Array (Nat × Operand)} {vs : Array (Nat × Value)} {r : Value} (t : TypeId) (ho : o.op = .build t parts) (hx : (parts.map fun (i, x) => (i, a.eval x)) = vs) (hr : (Instr.build t vs).run Tryz.prog w = .ok r w) (h : K (a.put o.dst r) w) : Oper.wp Tryz.prog o a w K Q :=
  st_value (w' := w) (v := r) (by simp only [execOp, ho, hx, Sem.run_bind, hr, Result.andThen_ok, Sem.run_pure]) h
theorem bw (x : ByteArray) (q : Int) (u : World) : (Instr.build 88 #[(0, .string x), (1, .int .i64 q)]).run Tryz.prog u = .ok (.agg #[.string x, .int .i64 q]) u := by kernel_rfl
theorem cf_int (xs : Array Value) (u : World) : (callFunc 79 xs).run Tryz.prog u = .ok (.enter 79 xs) u := by kernel_rfl
theorem cf_bel (xs : Array Value) (u : World) : (callFunc 78 xs).run Tryz.prog u = .ok (.enter 78 xs) u := by kernel_rfl
theorem cf_fil (xs : Array Value) (u : World) : (callFunc 145 xs).run Tryz.prog u = .ok (.enter 145 xs) u := by kernel_rfl
set_option maxRecDepth 100000 in
set_option maxHeartbeats 4000000 in
theorem l5d_sack (g : Nat) (ao : Option Addr) (n cap : Nat) (l : List UInt8) (k : Int) (w : World) (hc : Cur w g ao n cap l) (hn : n ≤ 1048576) (t1 : (k == 1) = false) (t2 : (k == 2) = false) (t3 : (k == 3) = false) (t8 : (k == 8) = false) (t9 : (k == 9) = true) (t10 : (k == 10) = false) (t4 : (k == 4) = false) (t5 : (k == 5) = false) (t6 : (k == 6) = false) (t7 : (k == 7) = false) (t11 : (k == 11) = false) :
    Calls Tryz.prog 109 #[.pointer (some ⟨g, 0, none⟩), .int .i64 k] w fun e w' => ∃ p d, e = .returned (.agg (Pk.cells p)) ∧ POwn w' w.heap.size p d ∧ Pgd 64 p d ∧ Cur w' g ao n cap l ∧ w.grownBy w' (some g) := by
  have s := st_new g ao n cap l k w hc
  clear hc
  go_enter Tryz.func109, Tryz.ntmps109
  go_upto_region 2 with (first | refine var_pk (p := ofT k) rfl rfl ?_ | refine al_pk ?_ | (refine bu_pk (ofT k) (by kernel_rfl) ?_) | fail)
  change Code.wp _ _ _ (Act.mk #[_, _, _, _, _, _, _, _, _, _, _, _, _, _, _, _, _, _, _, _, _, _, _, _, _, _, _, _, _, _, _, _, _, _, _, _, _, _, _, _, _, _, _, _, _, _, _, _, _, _, _, _, _, _, _, _, _, _, _, _, _, _, _, _, _, _, _, _, _, _, _, _, _, _, _, _, _, _, _, _, _, _, _, _, _, _, _, _, _, _, _, _, _, _, _, _, _, _, _, _, _, _, _, _, _, _, _, _, _, _, _, _, _, _, _, _, _, _, _, _, _, _, _, _, _, _, _, _, _, _, _, _, _, _, _, _, _, _, _, _, _, _, _, _, _, _, _, _, _, _, _, _, _, _, _, _, _, _, _, _, _, _, _, _] []) _
  simp only [World.size_alloc]
  go_wp2_with fail
  refine (below_sl1Below g ao n cap l 4 _ s.cur hn (by omega) (by omega)).mono ?_
  rintro e y1_ ⟨x, hx0, hx1, rfl, hc_, hg_⟩
  replace s := s.draw hc_ hg_
  clear hc_ hg_
  have c4 := (s.blk.cell 4).trans (Pk.c4 _)
  have z4 := Lib.frozen_of_heap s.blk 4
  have s0 := s.s4 (1 + x)
  clear s
  have s := s0
  clear s0
  go_wp2_with fail
  refine (below_sl1Below g ao n cap l 3 _ s.cur hn (by omega) (by omega)).mono ?_
  rintro e y2_ ⟨x2, hx20, hx21, rfl, hc_, hg_⟩
  replace s := s.draw hc_ hg_
  clear hc_ hg_
  obtain ⟨x3, rfl⟩ := Int.eq_ofNat_of_zero_le hx20
  go_wp2
  go_loopw [8] (fun i wr => ∃ (j : Nat) (p : Pk) (d : Pd), i = .int .i64 j ∧ p.cds.n + j ≤ 3 ∧ St 64 w wr g w.heap.size (w.heap.size + 1) ao n cap l p d) (fun i _ => (intOf i).toNat)
  case atStart => exact ⟨1 + x3, _, _, by simp, by show 0 + (1 + x3) ≤ 3; omega, s⟩
  case round =>
    clear s
    obtain ⟨j, p, d, rfl, hj, s⟩ := hrel
    by_cases hlt : 0 < j
    · as_aux_lemma =>
      have hlt' : (0 : Int) < j := by omega
      go_wp2
      have hgY : g < wr.heap.size := Nat.lt_of_lt_of_le s.lt s.gro.size
      have hrow := row_ty s.own.cds.2
      refine region_cutR 8 (by kernel_rfl) rfl (RR [4] 6 g (Value.slice p.cds.a p.cds.n p.cds.c).ownBlock 3 ao n cap l) (fun i v u => match i with
        | 0 => v = .pointer (some ⟨w.heap.size + 1, 24, none⟩)
        | 1 => v = .slice p.cds.a p.cds.n p.cds.c
        | 2 => v = .pointer (some ⟨g, 0, none⟩)
        | 3 => ∃ (blk : Nat) (z : Nat), v = .slice (some ⟨blk, 0, none⟩) 4 4 ∧ wr.heap.size ≤ blk ∧ u.heap[blk]? = some (.cells (List.map (Value.int .i64) [(0 : Int), 1, 2, 128]).toArray 3)
        | 4 => ∃ x, v = .int .i64 x
        | 5 => ∃ (blk : Nat) (z : Int), v = .slice (some ⟨blk, 0, none⟩) 1 1 ∧ wr.heap.size ≤ blk ∧ u.heap[blk]? = some (.cells #[.int .i64 z] 3)
        | 6 => ∃ (a : Option Addr) (c : Nat) (z : Int), v = .slice a (p.cds.n + 1) c ∧ True ∧ IOwn u w.heap.size a (p.cds.n + 1) c (d.cds ++ [z])
        | 7 => v = .pointer (some ⟨w.heap.size + 1, 24, none⟩)
        | _ => True) (HH 6 8 (fun u => St 64 w u g w.heap.size (w.heap.size + 1) ao n cap l p d ∧ wr.heap.size ≤ u.heap.size) (fun u => Sx w u g w.heap.size (w.heap.size + 1) ao n cap l p { p with cds := ⟨none, 0, 0⟩ } { d with cds := [] })) ?_ ?_ ?_ ?_ ?_
      · intro i j v u x hi hj hr hne hR hG
        match j, hj, hr, hne, hG with
        | 0, _, _, _, hG => exact hG
        | 1, _, _, _, hG => exact hG
        | 2, _, _, _, hG => exact hG
        | 3, _, _, _, hG =>
          obtain ⟨blk, z, e1, e2, e3⟩ := hG
          exact ⟨blk, z, e1, e2, new_kept hR hgY (fun k h => (hrow k h).2.2) e2 e3⟩
        | 4, _, _, _, hG => exact hG
        | 5, _, _, _, hG =>
          obtain ⟨blk, z, e1, e2, e3⟩ := hG
          exact ⟨blk, z, e1, e2, new_kept hR hgY (fun k h => (hrow k h).2.2) e2 e3⟩
        | 6, _, hr, hne, hG =>
          have hi8 : i = 7 := by
            match i, hi, hr, hne with
            | 0, _, hr, _ => exact absurd (show true = false from hr) (by decide)
            | 1, _, hr, _ => exact absurd (show true = false from hr) (by decide)
            | 2, _, hr, _ => exact absurd (show true = false from hr) (by decide)
            | 3, _, hr, _ => exact absurd (show true = false from hr) (by decide)
            | 4, _, hr, _ => exact absurd (show true = false from hr) (by decide)
            | 5, _, hr, _ => exact absurd (show true = false from hr) (by decide)
            | 6, _, _, hne => exact absurd rfl hne
            | 7, _, _, _ => rfl
            | (_ + 8), h, _, _ => omega
          subst hi8
          obtain ⟨a, c, z, e1, e2, e3⟩ := hG
          exact ⟨a, c, z, e1, e2, e3.grown hR.1 (fun a _ he => by cases he)⟩
        | 7, _, _, _, hG => exact hG
        | (_ + 8), h, _, _, _ => omega
      · exact fun i k u x hi hk hr hne hR hH => sH_gen (by decide) (fun k hk => match k, hk with | 0, _ => rfl | 1, _ => rfl | 2, _ => rfl | 3, _ => rfl | 4, _ => rfl | 5, _ => rfl) wr (fun k h => (hrow k h).2.1) (by decide) (fun u k _ ht ho => has_ty ho ht (by decide) (.inl (by decide)) (.inl (by decide)) (.inr rfl)) i k u x hr hne hR hH
      · intro k
        unfold HH
        split
        · exact ⟨s.drew, Nat.le_refl _⟩
        split
        · exact s.drew.x24
        · trivial
      · intro i o a u hi hk hH hdep
        match i, hi with
        | 0, hi =>
          cases hi
          exact g_run (wanted_none rfl _) (z_fld (X := ⟨w.heap.size + 1, 0, none⟩) (Y := ⟨w.heap.size + 1, 24, none⟩) 28 _ 24 rfl (eval_at ((hk.at 5 rfl).trans rfl)) (fun _ => by kernel_rfl) ⟨_, rfl, ⟨World.grownBy.refl _ _, fun h => h, fun h => absurd h (by decide)⟩, rfl⟩)
        | 1, hi =>
          cases hi
          obtain ⟨z0, hz0, rfl⟩ := hdep 0 _ _ rfl rfl rfl
          have S := HH_le hH (by decide)
          exact g_run (wanted_none rfl _) (z_ld 26 _ rfl (eval_at hz0) (by kernel_rfl) ((S.1.blk.cell 24).trans (Pk.c24 _)) ⟨_, rfl, ⟨World.grownBy.refl _ _, fun h => h, fun h => absurd h (by decide)⟩, rfl⟩)
        | 2, hi =>
          cases hi
          exact g_run (wanted_none rfl _) (st_value (v := _) (w' := u) (by first | (simp [execOp, eval_at ((hk.at 0 rfl).trans rfl)]; done) | (simp [execOp, eval_at ((hk.at 0 rfl).trans rfl)]; rfl)) ⟨_, rfl, ⟨World.grownBy.refl _ _, fun h => h, fun h => absurd h (by decide)⟩, rfl⟩)
        | 3, hi =>
          cases hi
          have S := HH_le hH (by decide)
          exact g_run (wanted_none rfl _) (z_mk (vs := #[(0, .int .i64 0), (1, .int .i64 1), (2, .int .i64 2), (3, .int .i64 128)]) _ _ rfl (by simp only [List.map_toArray, List.map_cons, List.map_nil]; rfl) (mki4 0 1 2 128 u) ⟨_, rfl, ⟨World.grownBy_alloc _ _ _, fun h => h.alloc _, fun h => absurd h (by decide)⟩, ⟨_, 0, rfl, S.2, heap_alloc_new _ _⟩⟩)
        | 4, hi =>
          cases hi
          obtain ⟨z2, hz2, rfl⟩ := hdep 2 _ _ rfl rfl rfl
          obtain ⟨z3, hz3, ⟨blk, z, e1, e2, e3⟩⟩ := hdep 3 _ _ rfl rfl rfl
          subst e1
          have S := HH_le hH (by decide)
          refine g_run (wanted_none rfl _) (st_call (exec_call2 _ _ _ _ _ _ _ _ cf_int (eval_at hz2) (eval_at hz3) (fun _ => rfl) _ _ _ _ _ _) ?_)
          refine (int_sl1Int g ao n cap l blk 4 4 [(0 : Int), 1, 2, 128] u S.1.cur hn (by omega) (by omega) rfl (fun i hi => ints_row e3 i hi) (by omega)).mono ?_
          rintro e x' ⟨q, _, rfl, hc, hg⟩
          exact ⟨_, rfl, _, rfl, ⟨hg, fun _ => hc, fun h => absurd h (by decide)⟩, q, rfl⟩
        | 5, hi =>
          cases hi
          obtain ⟨z4, hz4, ⟨x4, rfl⟩⟩ := hdep 4 _ _ rfl rfl rfl
          have S := HH_le hH (by decide)
          exact g_run (wanted_none rfl _) (z_mk _ _ rfl (by simp [eval_at hz4]) (mki1 x4 u) ⟨_, rfl, ⟨World.grownBy_alloc _ _ _, fun h => h.alloc _, fun h => absurd h (by decide)⟩, ⟨_, x4, rfl, S.2, heap_alloc_new _ _⟩⟩)
        | 6, hi =>
          cases hi
          obtain ⟨z1, hz1, rfl⟩ := hdep 1 _ _ rfl rfl rfl
          obtain ⟨z5, hz5, ⟨blk, z, e1, e2, e3⟩⟩ := hdep 5 _ _ rfl rfl rfl
          subst e1
          have S := HH_le hH (by decide)
          have hlen : p.cds.n ≤ 64 := S.1.gd.cds
          refine g_run (wanted_none rfl _) (z_cdsapp _ _ rfl w.heap.size _ _ _ d.cds (eval_at hz1) S.1.own.cds ⟨blk, 0, none⟩ [z] 1 1 rfl (eval_at hz5) ?_ (by omega) S.1.gro.size ?_)
          · intro k v hv
            match k, hv with
            | 0, hv =>
              have e4 : v = .int .i64 z := by simpa [ivals] using hv.symm
              rw [e4]
              exact (cell_of e3 0).trans rfl
          · intro a' c' x' ho hg
            exact ⟨_, rfl, ⟨hg, fun h => h.keep hg (fun k e => by have := (row_ty S.1.own.cds.2 k e).2.1; have := S.1.lt; omega), fun _ k h => (row_ty S.1.own.cds.2 k h).1⟩, a', c', z, rfl, trivial, ho⟩
        | 7, hi =>
          cases hi
          exact g_run (wanted_none rfl _) (z_fld (X := ⟨w.heap.size + 1, 0, none⟩) (Y := ⟨w.heap.size + 1, 24, none⟩) 28 _ 24 rfl (eval_at ((hk.at 5 rfl).trans rfl)) (fun _ => by kernel_rfl) ⟨_, rfl, ⟨World.grownBy.refl _ _, fun h => h, fun h => absurd h (by decide)⟩, rfl⟩)
        | (_ + 8), hi => cases hi
      intro vs y9 hX_ hG a3_ h3
      have X := HH_N hX_ (by decide)
      obtain ⟨a6, c6, x6, e6, hx6, O6⟩ := hG 6 (by decide)
      have e7 := hG 7 (by decide)
      replace e7 : vs 7 = .pointer (some ⟨w.heap.size + 1, 24, none⟩) := e7
      clear hG hX_
      replace h3 : puts _ 1 _ (Act.mk #[_, _, _, _, _, _, _, _, _, _, _, _, _, _, _, _, _, _, _, _, _, _, _, _, _, _, _, _, _, _, _, _, _, _, _, _, _, _, _, _, _, _, _, _, _, _, _, _, _, _, _, _, _, _, _, _, _, _, _, _, _, _, _, _, _, _, _, _, _, _, _, _, _, _, _, _, _, _, _, _, _, _, _, _, _, _, _, _, _, _, _, _, _, _, _, _, _, _, _, _, _, _, _, _, _, _, _, _, _, _, _, _, _, _, _, _, _, _, _, _, _, _, _, _, _, _, _, _, _, _, _, _, _, _, _, _, _, _, _, _, _, _, _, _, _, _, _, _, _, _, _, _, _, _, _, _, _, _, _, _, _, _, _, _] []) = _ := h3
      replace h3 : puts _ 2 _ (Act.mk #[_, _, _, _, _, _, _, _, _, _, _, _, _, _, _, _, _, _, _, _, _, _, _, _, _, _, _, _, _, _, _, _, _, _, _, _, _, _, _, _, _, _, _, _, _, _, _, _, _, _, _, _, _, _, _, _, _, _, _, _, _, _, _, _, _, _, _, _, _, _, _, _, _, _, _, _, _, _, _, _, _, _, _, _, _, _, _, _, _, _, _, _, _, _, _, _, _, _, _, _, _, _, _, _, _, _, _, _, _, _, _, _, _, _, _, _, _, _, _, _, _, _, _, _, _, _, _, _, _, _, _, _, _, _, _, _, _, _, _, _, _, _, _, _, _, _, _, _, _, _, _, _, _, _, _, _, _, _, _, _, _, _, _, _] []) = _ := h3
      replace h3 : puts _ 3 _ (Act.mk #[_, _, _, _, _, _, _, _, _, _, _, _, _, _, _, _, _, _, _, _, _, _, _, _, _, _, _, _, _, _, _, _, _, _, _, _, _, _, _, _, _, _, _, _, _, _, _, _, _, _, _, _, _, _, _, _, _, _, _, _, _, _, _, _, _, _, _, _, _, _, _, _, _, _, _, _, _, _, _, _, _, _, _, _, _, _, _, _, _, _, _, _, _, _, _, _, _, _, _, _, _, _, _, _, _, _, _, _, _, _, _, _, _, _, _, _, _, _, _, _, _, _, _, _, _, _, _, _, _, _, _, _, _, _, _, _, _, _, _, _, _, _, _, _, _, _, _, _, _, _, _, _, _, _, _, _, _, _, _, _, _, _, _, _] []) = _ := h3
      replace h3 : puts _ 4 _ (Act.mk #[_, _, _, _, _, _, _, _, _, _, _, _, _, _, _, _, _, _, _, _, _, _, _, _, _, _, _, _, _, _, _, _, _, _, _, _, _, _, _, _, _, _, _, _, _, _, _, _, _, _, _, _, _, _, _, _, _, _, _, _, _, _, _, _, _, _, _, _, _, _, _, _, _, _, _, _, _, _, _, _, _, _, _, _, _, _, _, _, _, _, _, _, _, _, _, _, _, _, _, _, _, _, _, _, _, _, _, _, _, _, _, _, _, _, _, _, _, _, _, _, _, _, _, _, _, _, _, _, _, _, _, _, _, _, _, _, _, _, _, _, _, _, _, _, _, _, _, _, _, _, _, _, _, _, _, _, _, _, _, _, _, _, _, _] []) = _ := h3
      replace h3 : puts _ 5 _ (Act.mk #[_, _, _, _, _, _, _, _, _, _, _, _, _, _, _, _, _, _, _, _, _, _, _, _, _, _, _, _, _, _, _, _, _, _, _, _, _, _, _, _, _, _, _, _, _, _, _, _, _, _, _, _, _, _, _, _, _, _, _, _, _, _, _, _, _, _, _, _, _, _, _, _, _, _, _, _, _, _, _, _, _, _, _, _, _, _, _, _, _, _, _, _, _, _, _, _, _, _, _, _, _, _, _, _, _, _, _, _, _, _, _, _, _, _, _, _, _, _, _, _, _, _, _, _, _, _, _, _, _, _, _, _, _, _, _, _, _, _, _, _, _, _, _, _, _, _, _, _, _, _, _, _, _, _, _, _, _, _, _, _, _, _, _, _] []) = _ := h3
      replace h3 : puts _ 6 _ (Act.mk #[_, _, _, _, _, _, _, _, _, _, _, _, _, _, _, _, _, _, _, _, _, _, _, _, _, _, _, _, _, _, _, _, _, _, _, _, _, _, _, _, _, _, _, _, _, _, _, _, _, _, _, _, _, _, _, _, _, _, _, _, _, _, _, _, _, _, _, _, _, _, _, _, _, _, _, _, _, _, _, _, _, _, _, _, _, _, _, _, _, _, _, _, _, _, _, _, _, _, _, _, _, _, _, _, _, _, _, _, _, _, _, _, _, _, _, _, _, _, _, _, _, _, _, _, _, _, _, _, _, _, _, _, _, _, _, _, _, _, _, _, _, _, _, _, _, _, _, _, _, _, _, _, _, _, _, _, _, _, _, _, _, _, _, _] []) = _ := h3
      replace h3 : puts _ 7 _ (Act.mk #[_, _, _, _, _, _, _, _, _, _, _, _, _, _, _, _, _, _, _, _, _, _, _, _, _, _, _, _, _, _, _, _, _, _, _, _, _, _, _, _, _, _, _, _, _, _, _, _, _, _, _, _, _, _, _, _, _, _, _, _, _, _, _, _, _, _, _, _, _, _, _, _, _, _, _, _, _, _, _, _, _, _, _, _, _, _, _, _, _, _, _, _, _, _, _, _, _, _, _, _, _, _, _, _, _, _, _, _, _, _, _, _, _, _, _, _, _, _, _, _, _, _, _, _, _, _, _, _, _, _, _, _, _, _, _, _, _, _, _, _, _, _, _, _, _, _, _, _, _, _, _, _, _, _, _, _, _, _, _, _, _, _, _, _] []) = _ := h3
      replace h3 : (Act.mk #[_, _, _, _, _, _, _, _, _, _, _, _, _, _, _, _, _, _, _, _, _, _, _, _, _, _, _, _, _, _, _, _, _, _, _, _, _, _, _, _, _, _, _, _, _, _, _, _, _, _, _, _, _, _, _, _, _, _, _, _, _, _, _, _, _, _, _, _, _, _, _, _, _, _, _, _, _, _, _, _, _, _, _, _, _, _, _, _, _, _, _, _, _, _, _, _, _, _, _, _, _, _, _, _, _, _, _, _, _, _, _, _, _, _, _, _, _, _, _, _, _, _, _, _, _, _, _, _, _, _, _, _, _, _, _, _, _, _, _, _, _, _, _, _, _, _, _, _, _, _, _, _, _, _, _, _, _, _, _, _, _, _, _, _] []) = _ := h3
      subst h3
      simp only [List.drop_succ_cons, List.drop_zero]
      simp only [e6, e7]
      clear e6 e7
      have c24 := (X.blk.cell 24).trans (Pk.c24 _)
      have z24 := Lib.frozen_of_heap X.blk 24
      have s2 := X.fin24 s.gd O6 (by omega)
      go_wp2
      go_roundw
      case rel => exact ⟨j - 1, _, _, by go_num, by show p.cds.n + 1 + (j - 1) ≤ 3; omega, s2⟩
      case measure => simp [intOf]; omega
    · as_aux_lemma =>
      have hlt' : ¬ (0 : Int) < j := by omega
      go_wp2_with (first | refine load_pk s.blk rfl _ rfl rfl ?_ | (refine store_pk2 (q := p) (old := Pk.zero) s.res rfl rfl ?_; intro w9 B9 g9) | fail)
      have D9 := s.done g9
      first
      | exact ret_pk rfl rfl B9 rfl ⟨p, d, rfl, D9⟩
      | exact ret_pk rfl rfl B9 rfl ⟨p, rfl, d, D9⟩
      | exact ret_pk rfl rfl B9 rfl ⟨p, rfl, ⟨d, D9.1, D9.2.1⟩, D9.2.2⟩
      | (refine ret_pk rfl rfl B9 rfl ?_; trace_state; exact ⟨p, rfl, d, D9⟩)
theorem grow_all {α : Type} {P : α → Prop} {l : List α} {x : α} (h : ∀ z ∈ l, P z) (hx : P x) : ∀ z ∈ l ++ [x], P z := by
  intro z hz
  rcases List.mem_append.1 hz with h1 | h1
  · exact h z h1
  · rw [List.mem_singleton.1 h1]; exact hx
set_option maxRecDepth 100000 in
set_option maxHeartbeats 4000000 in
theorem l5d_uns (g : Nat) (ao : Option Addr) (n cap : Nat) (l : List UInt8) (k : Int) (w : World) (hc : Cur w g ao n cap l) (hn : n ≤ 1048576) (t1 : (k == 1) = false) (t2 : (k == 2) = false) (t3 : (k == 3) = false) (t8 : (k == 8) = false) (t9 : (k == 9) = false) (t10 : (k == 10) = true) (t4 : (k == 4) = false) (t5 : (k == 5) = false) (t6 : (k == 6) = false) (t7 : (k == 7) = false) (t11 : (k == 11) = false) :
    Calls Tryz.prog 109 #[.pointer (some ⟨g, 0, none⟩), .int .i64 k] w fun e w' => ∃ p d, e = .returned (.agg (Pk.cells p)) ∧ POwn w' w.heap.size p d ∧ Pgd 64 p d ∧ Cur w' g ao n cap l ∧ w.grownBy w' (some g) := by
  have s := st_new g ao n cap l k w hc
  clear hc
  go_enter Tryz.func109, Tryz.ntmps109
  go_upto_region 2 with (first | refine var_pk (p := ofT k) rfl rfl ?_ | refine al_pk ?_ | (refine bu_pk (ofT k) (by kernel_rfl) ?_) | fail)
  change Code.wp _ _ _ (Act.mk #[_, _, _, _, _, _, _, _, _, _, _, _, _, _, _, _, _, _, _, _, _, _, _, _, _, _, _, _, _, _, _, _, _, _, _, _, _, _, _, _, _, _, _, _, _, _, _, _, _, _, _, _, _, _, _, _, _, _, _, _, _, _, _, _, _, _, _, _, _, _, _, _, _, _, _, _, _, _, _, _, _, _, _, _, _, _, _, _, _, _, _, _, _, _, _, _, _, _, _, _, _, _, _, _, _, _, _, _, _, _, _, _, _, _, _, _, _, _, _, _, _, _, _, _, _, _, _, _, _, _, _, _, _, _, _, _, _, _, _, _, _, _, _, _, _, _, _, _, _, _, _, _, _, _, _, _, _, _, _, _, _, _, _, _] []) _
  simp only [World.size_alloc]
  go_wp2_with fail
  refine (below_sl1Below g ao n cap l 4 _ s.cur hn (by omega) (by omega)).mono ?_
  rintro e y3_ ⟨x, hx0, hx1, rfl, hc_, hg_⟩
  replace s := s.draw hc_ hg_
  clear hc_ hg_
  have c4 := (s.blk.cell 4).trans (Pk.c4 _)
  have z4 := Lib.frozen_of_heap s.blk 4
  have s0 := s.s4 (1 + x)
  clear s
  have s := s0
  clear s0
  go_wp2_with fail
  refine (below_sl1Below g ao n cap l 3 _ s.cur hn (by omega) (by omega)).mono ?_
  rintro e y4_ ⟨x2, hx20, hx21, rfl, hc_, hg_⟩
  replace s := s.draw hc_ hg_
  clear hc_ hg_
  obtain ⟨x3, rfl⟩ := Int.eq_ofNat_of_zero_le hx20
  go_wp2
  go_loopw [9] (fun i wr => ∃ (j : Nat) (p : Pk) (d : Pd), i = .int .i64 j ∧ p.nam.n + j ≤ 3 ∧ St 64 w wr g w.heap.size (w.heap.size + 1) ao n cap l p d) (fun i _ => (intOf i).toNat)
  case atStart => exact ⟨1 + x3, _, _, by simp, by show 0 + (1 + x3) ≤ 3; omega, s⟩
  case round =>
    clear s
    obtain ⟨j, p, d, rfl, hj, s⟩ := hrel
    by_cases hlt : 0 < j
    · as_aux_lemma =>
      have hlt' : (0 : Int) < j := by omega
      go_wp2
      have hgY : g < wr.heap.size := Nat.lt_of_lt_of_le s.lt s.gro.size
      have hrow := row_ty s.own.nam.2
      refine region_cutR 7 (by kernel_rfl) rfl (RR [3] 5 g (Value.slice p.nam.a p.nam.n p.nam.c).ownBlock 9 ao n cap l) (fun i v u => match i with
        | 0 => v = .pointer (some ⟨w.heap.size + 1, 23, none⟩)
        | 1 => v = .slice p.nam.a p.nam.n p.nam.c
        | 2 => v = .pointer (some ⟨g, 0, none⟩)
        | 3 => ∃ x : ByteArray, v = .string x ∧ x.size ≤ 61
        | 4 => ∃ (blk : Nat) (z : ByteArray), v = .slice (some ⟨blk, 0, none⟩) 1 1 ∧ (wr.heap.size ≤ blk ∧ z.size ≤ 61) ∧ u.heap[blk]? = some (.cells #[.string z] 9)
        | 5 => ∃ (a : Option Addr) (c : Nat) (z : ByteArray), v = .slice a (p.nam.n + 1) c ∧ z.size ≤ 61 ∧ SOwn u w.heap.size a (p.nam.n + 1) c (d.nam ++ [z])
        | 6 => v = .pointer (some ⟨w.heap.size + 1, 23, none⟩)
        | _ => True) (HH 5 7 (fun u => St 64 w u g w.heap.size (w.heap.size + 1) ao n cap l p d ∧ wr.heap.size ≤ u.heap.size) (fun u => Sx w u g w.heap.size (w.heap.size + 1) ao n cap l p { p with nam := ⟨none, 0, 0⟩ } { d with nam := [] })) ?_ ?_ ?_ ?_ ?_
      · intro i j v u x hi hj hr hne hR hG
        match j, hj, hr, hne, hG with
        | 0, _, _, _, hG => exact hG
        | 1, _, _, _, hG => exact hG
        | 2, _, _, _, hG => exact hG
        | 3, _, _, _, hG => exact hG
        | 4, _, _, _, hG =>
          obtain ⟨blk, z, e1, e2, e3⟩ := hG
          exact ⟨blk, z, e1, e2, new_kept hR hgY (fun k h => (hrow k h).2.2) e2.1 e3⟩
        | 5, _, hr, hne, hG =>
          have hi8 : i = 6 := by
            match i, hi, hr, hne with
            | 0, _, hr, _ => exact absurd (show true = false from hr) (by decide)
            | 1, _, hr, _ => exact absurd (show true = false from hr) (by decide)
            | 2, _, hr, _ => exact absurd (show true = false from hr) (by decide)
            | 3, _, hr, _ => exact absurd (show true = false from hr) (by decide)
            | 4, _, hr, _ => exact absurd (show true = false from hr) (by decide)
            | 5, _, _, hne => exact absurd rfl hne
            | 6, _, _, _ => rfl
            | (_ + 7), h, _, _ => omega
          subst hi8
          obtain ⟨a, c, z, e1, e2, e3⟩ := hG
          exact ⟨a, c, z, e1, e2, e3.grown hR.1 (fun a _ he => by cases he)⟩
        | 6, _, _, _, hG => exact hG
        | (_ + 7), h, _, _, _ => omega
      · exact fun i k u x hi hk hr hne hR hH => sH_gen (by decide) (fun k hk => match k, hk with | 0, _ => rfl | 1, _ => rfl | 2, _ => rfl | 3, _ => rfl | 4, _ => rfl) wr (fun k h => (hrow k h).2.1) (by decide) (fun u k _ ht ho => has_ty ho ht (by decide) (.inl (by decide)) (.inr rfl) (.inl (by decide))) i k u x hr hne hR hH
      · intro k
        unfold HH
        split
        · exact ⟨s.drew, Nat.le_refl _⟩
        split
        · exact s.drew.x23
        · trivial
      · intro i o a u hi hk hH hdep
        match i, hi with
        | 0, hi =>
          cases hi
          exact g_run (wanted_none rfl _) (z_fld (X := ⟨w.heap.size + 1, 0, none⟩) (Y := ⟨w.heap.size + 1, 23, none⟩) 28 _ 23 rfl (eval_at ((hk.at 5 rfl).trans rfl)) (fun _ => by kernel_rfl) ⟨_, rfl, ⟨World.grownBy.refl _ _, fun h => h, fun h => absurd h (by decide)⟩, rfl⟩)
        | 1, hi =>
          cases hi
          obtain ⟨z0, hz0, rfl⟩ := hdep 0 _ _ rfl rfl rfl
          have S := HH_le hH (by decide)
          exact g_run (wanted_none rfl _) (z_ld 25 _ rfl (eval_at hz0) (by kernel_rfl) ((S.1.blk.cell 23).trans (Pk.c23 _)) ⟨_, rfl, ⟨World.grownBy.refl _ _, fun h => h, fun h => absurd h (by decide)⟩, rfl⟩)
        | 2, hi =>
          cases hi
          exact g_run (wanted_none rfl _) (st_value (v := _) (w' := u) (by first | (simp [execOp, eval_at ((hk.at 0 rfl).trans rfl)]; done) | (simp [execOp, eval_at ((hk.at 0 rfl).trans rfl)]; rfl)) ⟨_, rfl, ⟨World.grownBy.refl _ _, fun h => h, fun h => absurd h (by decide)⟩, rfl⟩)
        | 3, hi =>
          cases hi
          obtain ⟨z2, hz2, rfl⟩ := hdep 2 _ _ rfl rfl rfl
          have S := HH_le hH (by decide)
          refine g_run (wanted_none rfl _) (st_call (exec_call1 _ _ _ _ _ _ cf_fil (eval_at hz2) (fun _ => rfl) _ _ _ _ _ _) ?_)
          refine (fil_sl3Filter g ao n cap l u S.1.cur hn).mono ?_
          rintro e x' ⟨q, hq, rfl, hc, hg⟩
          exact ⟨_, rfl, _, rfl, ⟨hg, fun _ => hc, fun h => absurd h (by decide)⟩, q, rfl, hq⟩
        | 4, hi =>
          cases hi
          obtain ⟨z3, hz3, ⟨x4, rfl, hx4⟩⟩ := hdep 3 _ _ rfl rfl rfl
          have S := HH_le hH (by decide)
          exact g_run (wanted_none rfl _) (z_mk _ _ rfl (by simp [eval_at hz3]) (mks1 x4 u) ⟨_, rfl, ⟨World.grownBy_alloc _ _ _, fun h => h.alloc _, fun h => absurd h (by decide)⟩, ⟨_, x4, rfl, ⟨S.2, hx4⟩, heap_alloc_new _ _⟩⟩)
        | 5, hi =>
          cases hi
          obtain ⟨z1, hz1, rfl⟩ := hdep 1 _ _ rfl rfl rfl
          obtain ⟨z4, hz4, ⟨blk, z, e1, e2, e3⟩⟩ := hdep 4 _ _ rfl rfl rfl
          subst e1
          have S := HH_le hH (by decide)
          have hlen : p.nam.n ≤ 64 := S.1.gd.nam
          refine g_run (wanted_none rfl _) (z_namapp _ _ rfl w.heap.size _ _ _ d.nam (eval_at hz1) S.1.own.nam ⟨blk, 0, none⟩ [z] 1 1 rfl (eval_at hz4) ?_ (by omega) S.1.gro.size ?_)
          · intro k v hv
            match k, hv with
            | 0, hv =>
              have e4 : v = .string z := by simpa [svals] using hv.symm
              rw [e4]
              exact (cell_of e3 0).trans rfl
          · intro a' c' x' ho hg
            exact ⟨_, rfl, ⟨hg, fun h => h.keep hg (fun k e => by have := (row_ty S.1.own.nam.2 k e).2.1; have := S.1.lt; omega), fun _ k h => (row_ty S.1.own.nam.2 k h).1⟩, a', c', z, rfl, e2.2, ho⟩
        | 6, hi =>
          cases hi
          exact g_run (wanted_none rfl _) (z_fld (X := ⟨w.heap.size + 1, 0, none⟩) (Y := ⟨w.heap.size + 1, 23, none⟩) 28 _ 23 rfl (eval_at ((hk.at 5 rfl).trans rfl)) (fun _ => by kernel_rfl) ⟨_, rfl, ⟨World.grownBy.refl _ _, fun h => h, fun h => absurd h (by decide)⟩, rfl⟩)
        | (_ + 7), hi => cases hi
      intro vs y9 hX_ hG a3_ h3
      have X := HH_N hX_ (by decide)
      obtain ⟨a6, c6, x6, e6, hx6, O6⟩ := hG 5 (by decide)
      have e7 := hG 6 (by decide)
      replace e7 : vs 6 = .pointer (some ⟨w.heap.size + 1, 23, none⟩) := e7
      clear hG hX_
      replace h3 : puts _ 1 _ (Act.mk #[_, _, _, _, _, _, _, _, _, _, _, _, _, _, _, _, _, _, _, _, _, _, _, _, _, _, _, _, _, _, _, _, _, _, _, _, _, _, _, _, _, _, _, _, _, _, _, _, _, _, _, _, _, _, _, _, _, _, _, _, _, _, _, _, _, _, _, _, _, _, _, _, _, _, _, _, _, _, _, _, _, _, _, _, _, _, _, _, _, _, _, _, _, _, _, _, _, _, _, _, _, _, _, _, _, _, _, _, _, _, _, _, _, _, _, _, _, _, _, _, _, _, _, _, _, _, _, _, _, _, _, _, _, _, _, _, _, _, _, _, _, _, _, _, _, _, _, _, _, _, _, _, _, _, _, _, _, _, _, _, _, _, _, _] []) = _ := h3
      replace h3 : puts _ 2 _ (Act.mk #[_, _, _, _, _, _, _, _, _, _, _, _, _, _, _, _, _, _, _, _, _, _, _, _, _, _, _, _, _, _, _, _, _, _, _, _, _, _, _, _, _, _, _, _, _, _, _, _, _, _, _, _, _, _, _, _, _, _, _, _, _, _, _, _, _, _, _, _, _, _, _, _, _, _, _, _, _, _, _, _, _, _, _, _, _, _, _, _, _, _, _, _, _, _, _, _, _, _, _, _, _, _, _, _, _, _, _, _, _, _, _, _, _, _, _, _, _, _, _, _, _, _, _, _, _, _, _, _, _, _, _, _, _, _, _, _, _, _, _, _, _, _, _, _, _, _, _, _, _, _, _, _, _, _, _, _, _, _, _, _, _, _, _, _] []) = _ := h3
      replace h3 : puts _ 3 _ (Act.mk #[_, _, _, _, _, _, _, _, _, _, _, _, _, _, _, _, _, _, _, _, _, _, _, _, _, _, _, _, _, _, _, _, _, _, _, _, _, _, _, _, _, _, _, _, _, _, _, _, _, _, _, _, _, _, _, _, _, _, _, _, _, _, _, _, _, _, _, _, _, _, _, _, _, _, _, _, _, _, _, _, _, _, _, _, _, _, _, _, _, _, _, _, _, _, _, _, _, _, _, _, _, _, _, _, _, _, _, _, _, _, _, _, _, _, _, _, _, _, _, _, _, _, _, _, _, _, _, _, _, _, _, _, _, _, _, _, _, _, _, _, _, _, _, _, _, _, _, _, _, _, _, _, _, _, _, _, _, _, _, _, _, _, _, _] []) = _ := h3
      replace h3 : puts _ 4 _ (Act.mk #[_, _, _, _, _, _, _, _, _, _, _, _, _, _, _, _, _, _, _, _, _, _, _, _, _, _, _, _, _, _, _, _, _, _, _, _, _, _, _, _, _, _, _, _, _, _, _, _, _, _, _, _, _, _, _, _, _, _, _, _, _, _, _, _, _, _, _, _, _, _, _, _, _, _, _, _, _, _, _, _, _, _, _, _, _, _, _, _, _, _, _, _, _, _, _, _, _, _, _, _, _, _, _, _, _, _, _, _, _, _, _, _, _, _, _, _, _, _, _, _, _, _, _, _, _, _, _, _, _, _, _, _, _, _, _, _, _, _, _, _, _, _, _, _, _, _, _, _, _, _, _, _, _, _, _, _, _, _, _, _, _, _, _, _] []) = _ := h3
      replace h3 : puts _ 5 _ (Act.mk #[_, _, _, _, _, _, _, _, _, _, _, _, _, _, _, _, _, _, _, _, _, _, _, _, _, _, _, _, _, _, _, _, _, _, _, _, _, _, _, _, _, _, _, _, _, _, _, _, _, _, _, _, _, _, _, _, _, _, _, _, _, _, _, _, _, _, _, _, _, _, _, _, _, _, _, _, _, _, _, _, _, _, _, _, _, _, _, _, _, _, _, _, _, _, _, _, _, _, _, _, _, _, _, _, _, _, _, _, _, _, _, _, _, _, _, _, _, _, _, _, _, _, _, _, _, _, _, _, _, _, _, _, _, _, _, _, _, _, _, _, _, _, _, _, _, _, _, _, _, _, _, _, _, _, _, _, _, _, _, _, _, _, _, _] []) = _ := h3
      replace h3 : puts _ 6 _ (Act.mk #[_, _, _, _, _, _, _, _, _, _, _, _, _, _, _, _, _, _, _, _, _, _, _, _, _, _, _, _, _, _, _, _, _, _, _, _, _, _, _, _, _, _, _, _, _, _, _, _, _, _, _, _, _, _, _, _, _, _, _, _, _, _, _, _, _, _, _, _, _, _, _, _, _, _, _, _, _, _, _, _, _, _, _, _, _, _, _, _, _, _, _, _, _, _, _, _, _, _, _, _, _, _, _, _, _, _, _, _, _, _, _, _, _, _, _, _, _, _, _, _, _, _, _, _, _, _, _, _, _, _, _, _, _, _, _, _, _, _, _, _, _, _, _, _, _, _, _, _, _, _, _, _, _, _, _, _, _, _, _, _, _, _, _, _] []) = _ := h3
      replace h3 : (Act.mk #[_, _, _, _, _, _, _, _, _, _, _, _, _, _, _, _, _, _, _, _, _, _, _, _, _, _, _, _, _, _, _, _, _, _, _, _, _, _, _, _, _, _, _, _, _, _, _, _, _, _, _, _, _, _, _, _, _, _, _, _, _, _, _, _, _, _, _, _, _, _, _, _, _, _, _, _, _, _, _, _, _, _, _, _, _, _, _, _, _, _, _, _, _, _, _, _, _, _, _, _, _, _, _, _, _, _, _, _, _, _, _, _, _, _, _, _, _, _, _, _, _, _, _, _, _, _, _, _, _, _, _, _, _, _, _, _, _, _, _, _, _, _, _, _, _, _, _, _, _, _, _, _, _, _, _, _, _, _, _, _, _, _, _, _] []) = _ := h3
      subst h3
      simp only [List.drop_succ_cons, List.drop_zero]
      simp only [e6, e7]
      clear e6 e7
      have c23 := (X.blk.cell 23).trans (Pk.c23 _)
      have z23 := Lib.frozen_of_heap X.blk 23
      have s2 := X.fin23 s.gd O6 (by omega) (grow_all s.gd.nams hx6)
      go_wp2
      go_roundw
      case rel => exact ⟨j - 1, _, _, by go_num, by show p.nam.n + 1 + (j - 1) ≤ 3; omega, s2⟩
      case measure => simp [intOf]; omega
    · as_aux_lemma =>
      have hlt' : ¬ (0 : Int) < j := by omega
      go_wp2_with (first | refine load_pk s.blk rfl _ rfl rfl ?_ | (refine store_pk2 (q := p) (old := Pk.zero) s.res rfl rfl ?_; intro w9 B9 g9) | fail)
      have D9 := s.done g9
      first
      | exact ret_pk rfl rfl B9 rfl ⟨p, d, rfl, D9⟩
      | exact ret_pk rfl rfl B9 rfl ⟨p, rfl, d, D9⟩
      | exact ret_pk rfl rfl B9 rfl ⟨p, rfl, ⟨d, D9.1, D9.2.1⟩, D9.2.2⟩
      | (refine ret_pk rfl rfl B9 rfl ?_; trace_state; exact ⟨p, rfl, d, D9⟩)
set_option maxRecDepth 100000 in
set_option maxHeartbeats 4000000 in
theorem l5d_sub (g : Nat) (ao : Option Addr) (n cap : Nat) (l : List UInt8) (k : Int) (w : World) (hc : Cur w g ao n cap l) (hn : n ≤ 1048576) (t1 : (k == 1) = false) (t2 : (k == 2) = false) (t3 : (k == 3) = false) (t8 : (k == 8) = true) (t9 : (k == 9) = false) (t10 : (k == 10) = false) (t4 : (k == 4) = false) (t5 : (k == 5) = false) (t6 : (k == 6) = false) (t7 : (k == 7) = false) (t11 : (k == 11) = false) :
    Calls Tryz.prog 109 #[.pointer (some ⟨g, 0, none⟩), .int .i64 k] w fun e w' => ∃ p d, e = .returned (.agg (Pk.cells p)) ∧ POwn w' w.heap.size p d ∧ Pgd 64 p d ∧ Cur w' g ao n cap l ∧ w.grownBy w' (some g) := by
  have s := st_new g ao n cap l k w hc
  clear hc
  go_enter Tryz.func109, Tryz.ntmps109
  go_upto_region 2 with (first | refine var_pk (p := ofT k) rfl rfl ?_ | refine al_pk ?_ | (refine bu_pk (ofT k) (by kernel_rfl) ?_) | fail)
  change Code.wp _ _ _ (Act.mk #[_, _, _, _, _, _, _, _, _, _, _, _, _, _, _, _, _, _, _, _, _, _, _, _, _, _, _, _, _, _, _, _, _, _, _, _, _, _, _, _, _, _, _, _, _, _, _, _, _, _, _, _, _, _, _, _, _, _, _, _, _, _, _, _, _, _, _, _, _, _, _, _, _, _, _, _, _, _, _, _, _, _, _, _, _, _, _, _, _, _, _, _, _, _, _, _, _, _, _, _, _, _, _, _, _, _, _, _, _, _, _, _, _, _, _, _, _, _, _, _, _, _, _, _, _, _, _, _, _, _, _, _, _, _, _, _, _, _, _, _, _, _, _, _, _, _, _, _, _, _, _, _, _, _, _, _, _, _, _, _, _, _, _, _] []) _
  simp only [World.size_alloc]
  go_wp2_with fail
  refine (below_sl1Below g ao n cap l 4 _ s.cur hn (by omega) (by omega)).mono ?_
  rintro e y5_ ⟨x, hx0, hx1, rfl, hc_, hg_⟩
  replace s := s.draw hc_ hg_
  clear hc_ hg_
  have c4 := (s.blk.cell 4).trans (Pk.c4 _)
  have z4 := Lib.frozen_of_heap s.blk 4
  have s0 := s.s4 (1 + x)
  clear s
  have s := s0
  clear s0
  go_wp2_with fail
  refine (below_sl1Below g ao n cap l 3 _ s.cur hn (by omega) (by omega)).mono ?_
  rintro e y6_ ⟨x2, hx20, hx21, rfl, hc_, hg_⟩
  replace s := s.draw hc_ hg_
  clear hc_ hg_
  obtain ⟨x3, rfl⟩ := Int.eq_ofNat_of_zero_le hx20
  go_wp2
  go_loopw [7] (fun i wr => ∃ (j : Nat) (p : Pk) (d : Pd), i = .int .i64 j ∧ p.wan.n + j ≤ 3 ∧ St 64 w wr g w.heap.size (w.heap.size + 1) ao n cap l p d) (fun i _ => (intOf i).toNat)
  case atStart => exact ⟨1 + x3, _, _, by simp, by show 0 + (1 + x3) ≤ 3; omega, s⟩
  case round =>
    clear s
    obtain ⟨j, p, d, rfl, hj, s⟩ := hrel
    by_cases hlt : 0 < j
    · as_aux_lemma =>
      have hlt' : (0 : Int) < j := by omega
      go_wp2
      have hgY : g < wr.heap.size := Nat.lt_of_lt_of_le s.lt s.gro.size
      have hrow := row_ty s.own.wan.2
      refine region_cutR 10 (by kernel_rfl) rfl (RR [3, 5] 8 g (Value.slice p.wan.a p.wan.n p.wan.c).ownBlock 88 ao n cap l) (fun i v u => match i with
        | 0 => v = .pointer (some ⟨w.heap.size + 1, 22, none⟩)
        | 1 => v = .slice p.wan.a p.wan.n p.wan.c
        | 2 => v = .pointer (some ⟨g, 0, none⟩)
        | 3 => ∃ x : ByteArray, v = .string x ∧ x.size ≤ 61
        | 4 => v = .pointer (some ⟨g, 0, none⟩)
        | 5 => ∃ x : Int, v = .int .i64 x
        | 6 => ∃ (x : ByteArray) (q : Int), v = .agg #[.string x, .int .i64 q] ∧ x.size ≤ 61
        | 7 => ∃ (blk : Nat) (z : ByteArray × Int), v = .slice (some ⟨blk, 0, none⟩) 1 1 ∧ (wr.heap.size ≤ blk ∧ z.1.size ≤ 61) ∧ u.heap[blk]? = some (.cells #[.string z.1, .int .i64 z.2] 88)
        | 8 => ∃ (a : Option Addr) (c : Nat) (z : ByteArray × Int), v = .slice a (p.wan.n + 1) c ∧ z.1.size ≤ 61 ∧ WOwn u w.heap.size a (p.wan.n + 1) c (d.wan ++ [z])
        | 9 => v = .pointer (some ⟨w.heap.size + 1, 22, none⟩)
        | _ => True) (HH 8 10 (fun u => St 64 w u g w.heap.size (w.heap.size + 1) ao n cap l p d ∧ wr.heap.size ≤ u.heap.size) (fun u => Sx w u g w.heap.size (w.heap.size + 1) ao n cap l p { p with wan := ⟨none, 0, 0⟩ } { d with wan := [] })) ?_ ?_ ?_ ?_ ?_
      · intro i j v u x hi hj hr hne hR hG
        match j, hj, hr, hne, hG with
        | 0, _, _, _, hG => exact hG
        | 1, _, _, _, hG => exact hG
        | 2, _, _, _, hG => exact hG
        | 3, _, _, _, hG => exact hG
        | 4, _, _, _, hG => exact hG
        | 5, _, _, _, hG => exact hG
        | 6, _, _, _, hG => exact hG
        | 7, _, _, _, hG =>
          obtain ⟨blk, z, e1, e2, e3⟩ := hG
          exact ⟨blk, z, e1, e2, new_kept hR hgY (fun k h => (hrow k h).2.2) e2.1 e3⟩
        | 8, _, hr, hne, hG =>
          have hi8 : i = 9 := by
            match i, hi, hr, hne with
            | 0, _, hr, _ => exact absurd (show true = false from hr) (by decide)
            | 1, _, hr, _ => exact absurd (show true = false from hr) (by decide)
            | 2, _, hr, _ => exact absurd (show true = false from hr) (by decide)
            | 3, _, hr, _ => exact absurd (show true = false from hr) (by decide)
            | 4, _, hr, _ => exact absurd (show true = false from hr) (by decide)
            | 5, _, hr, _ => exact absurd (show true = false from hr) (by decide)
            | 6, _, hr, _ => exact absurd (show true = false from hr) (by decide)
            | 7, _, hr, _ => exact absurd (show true = false from hr) (by decide)
            | 8, _, _, hne => exact absurd rfl hne
            | 9, _, _, _ => rfl
            | (_ + 10), h, _, _ => omega
          subst hi8
          obtain ⟨a, c, z, e1, e2, e3⟩ := hG
          exact ⟨a, c, z, e1, e2, e3.grown hR.1 (fun a _ he => by cases he)⟩
        | 9, _, _, _, hG => exact hG
        | (_ + 10), h, _, _, _ => omega
      · exact fun i k u x hi hk hr hne hR hH => sH_gen (by decide) (fun k hk => match k, hk with | 0, _ => rfl | 1, _ => rfl | 2, _ => rfl | 3, _ => rfl | 4, _ => rfl | 5, _ => rfl | 6, _ => rfl | 7, _ => rfl) wr (fun k h => (hrow k h).2.1) (by decide) (fun u k _ ht ho => has_ty ho ht (by decide) (.inr rfl) (.inl (by decide)) (.inl (by decide))) i k u x hr hne hR hH
      · intro k
        unfold HH
        split
        · exact ⟨s.drew, Nat.le_refl _⟩
        split
        · exact s.drew.x22
        · trivial
      · intro i o a u hi hk hH hdep
        match i, hi with
        | 0, hi =>
          cases hi
          exact g_run (wanted_none rfl _) (z_fld (X := ⟨w.heap.size + 1, 0, none⟩) (Y := ⟨w.heap.size + 1, 22, none⟩) 28 _ 22 rfl (eval_at ((hk.at 5 rfl).trans rfl)) (fun _ => by kernel_rfl) ⟨_, rfl, ⟨World.grownBy.refl _ _, fun h => h, fun h => absurd h (by decide)⟩, rfl⟩)
        | 1, hi =>
          cases hi
          obtain ⟨z0, hz0, rfl⟩ := hdep 0 _ _ rfl rfl rfl
          have S := HH_le hH (by decide)
          exact g_run (wanted_none rfl _) (z_ld 24 _ rfl (eval_at hz0) (by kernel_rfl) ((S.1.blk.cell 22).trans (Pk.c22 _)) ⟨_, rfl, ⟨World.grownBy.refl _ _, fun h => h, fun h => absurd h (by decide)⟩, rfl⟩)
        | 2, hi =>
          cases hi
          exact g_run (wanted_none rfl _) (st_value (v := _) (w' := u) (by first | (simp [execOp, eval_at ((hk.at 0 rfl).trans rfl)]; done) | (simp [execOp, eval_at ((hk.at 0 rfl).trans rfl)]; rfl)) ⟨_, rfl, ⟨World.grownBy.refl _ _, fun h => h, fun h => absurd h (by decide)⟩, rfl⟩)
        | 3, hi =>
          cases hi
          obtain ⟨z2, hz2, rfl⟩ := hdep 2 _ _ rfl rfl rfl
          have S := HH_le hH (by decide)
          refine g_run (wanted_none rfl _) (st_call (exec_call1 _ _ _ _ _ _ cf_fil (eval_at hz2) (fun _ => rfl) _ _ _ _ _ _) ?_)
          refine (fil_sl3Filter g ao n cap l u S.1.cur hn).mono ?_
          rintro e x' ⟨q, hq, rfl, hc, hg⟩
          exact ⟨_, rfl, _, rfl, ⟨hg, fun _ => hc, fun h => absurd h (by decide)⟩, q, rfl, hq⟩
        | 4, hi =>
          cases hi
          exact g_run (wanted_none rfl _) (st_value (v := _) (w' := u) (by first | (simp [execOp, eval_at ((hk.at 0 rfl).trans rfl)]; done) | (simp [execOp, eval_at ((hk.at 0 rfl).trans rfl)]; rfl)) ⟨_, rfl, ⟨World.grownBy.refl _ _, fun h => h, fun h => absurd h (by decide)⟩, rfl⟩)
        | 5, hi =>
          cases hi
          obtain ⟨z4, hz4, rfl⟩ := hdep 4 _ _ rfl rfl rfl
          have S := HH_le hH (by decide)
          refine g_run (wanted_none rfl _) (st_call (exec_call2 _ _ _ _ _ _ _ _ cf_bel (eval_at hz4) rfl (fun _ => rfl) _ _ _ _ _ _) ?_)
          refine (below_sl1Below g ao n cap l 3 u S.1.cur hn (by omega) (by omega)).mono ?_
          rintro e x' ⟨q, _, _, rfl, hc, hg⟩
          exact ⟨_, rfl, _, rfl, ⟨hg, fun _ => hc, fun h => absurd h (by decide)⟩, q, rfl⟩
        | 6, hi =>
          cases hi
          obtain ⟨z3, hz3, ⟨x4, rfl, hx4⟩⟩ := hdep 3 _ _ rfl rfl rfl
          obtain ⟨z5, hz5, ⟨x5, rfl⟩⟩ := hdep 5 _ _ rfl rfl rfl
          exact g_run (wanted_none rfl _) (z_build (vs := #[(0, .string x4), (1, .int .i64 x5)]) _ rfl (by simp [eval_at hz3, eval_at hz5]) (bw x4 x5 u) ⟨_, rfl, ⟨World.grownBy.refl _ _, fun h => h, fun h => absurd h (by decide)⟩, x4, x5, rfl, hx4⟩)
        | 7, hi =>
          cases hi
          obtain ⟨z6, hz6, ⟨x6, q6, rfl, hx6⟩⟩ := hdep 6 _ _ rfl rfl rfl
          have S := HH_le hH (by decide)
          exact g_run (wanted_none rfl _) (z_mk _ _ rfl (by simp [eval_at hz6]) (mkw1 x6 q6 u) ⟨_, rfl, ⟨World.grownBy_alloc _ _ _, fun h => h.alloc _, fun h => absurd h (by decide)⟩, ⟨_, (x6, q6), rfl, ⟨S.2, hx6⟩, heap_alloc_new _ _⟩⟩)
        | 8, hi =>
          cases hi
          obtain ⟨z1, hz1, rfl⟩ := hdep 1 _ _ rfl rfl rfl
          obtain ⟨z7, hz7, ⟨blk, z, e1, e2, e3⟩⟩ := hdep 7 _ _ rfl rfl rfl
          subst e1
          have S := HH_le hH (by decide)
          have hlen : p.wan.n ≤ 64 := S.1.gd.wan
          refine g_run (wanted_none rfl _) (z_wanapp _ _ rfl w.heap.size _ _ _ d.wan (eval_at hz1) S.1.own.wan ⟨blk, 0, none⟩ [z] 1 1 rfl (eval_at hz7) ?_ (by omega) S.1.gro.size ?_)
          · intro k v hv
            match k, hv with
            | 0, hv =>
              have e4 : v = .string z.1 := by simpa [wvals] using hv.symm
              rw [e4]
              exact (cell_of e3 0).trans rfl
            | 1, hv =>
              have e4 : v = .int .i64 z.2 := by simpa [wvals] using hv.symm
              rw [e4]
              exact (cell_of e3 1).trans rfl
          · intro a' c' x' ho hg
            exact ⟨_, rfl, ⟨hg, fun h => h.keep hg (fun k e => by have := (row_ty S.1.own.wan.2 k e).2.1; have := S.1.lt; omega), fun _ k h => (row_ty S.1.own.wan.2 k h).1⟩, a', c', z, rfl, e2.2, ho⟩
        | 9, hi =>
          cases hi
          exact g_run (wanted_none rfl _) (z_fld (X := ⟨w.heap.size + 1, 0, none⟩) (Y := ⟨w.heap.size + 1, 22, none⟩) 28 _ 22 rfl (eval_at ((hk.at 5 rfl).trans rfl)) (fun _ => by kernel_rfl) ⟨_, rfl, ⟨World.grownBy.refl _ _, fun h => h, fun h => absurd h (by decide)⟩, rfl⟩)
        | (_ + 10), hi => cases hi
      intro vs y9 hX_ hG a3_ h3
      have X := HH_N hX_ (by decide)
      obtain ⟨a6, c6, x6, e6, hx6, O6⟩ := hG 8 (by decide)
      have e7 := hG 9 (by decide)
      replace e7 : vs 9 = .pointer (some ⟨w.heap.size + 1, 22, none⟩) := e7
      clear hG hX_
      replace h3 : puts _ 1 _ (Act.mk #[_, _, _, _, _, _, _, _, _, _, _, _, _, _, _, _, _, _, _, _, _, _, _, _, _, _, _, _, _, _, _, _, _, _, _, _, _, _, _, _, _, _, _, _, _, _, _, _, _, _, _, _, _, _, _, _, _, _, _, _, _, _, _, _, _, _, _, _, _, _, _, _, _, _, _, _, _, _, _, _, _, _, _, _, _, _, _, _, _, _, _, _, _, _, _, _, _, _, _, _, _, _, _, _, _, _, _, _, _, _, _, _, _, _, _, _, _, _, _, _, _, _, _, _, _, _, _, _, _, _, _, _, _, _, _, _, _, _, _, _, _, _, _, _, _, _, _, _, _, _, _, _, _, _, _, _, _, _, _, _, _, _, _, _] []) = _ := h3
      replace h3 : puts _ 2 _ (Act.mk #[_, _, _, _, _, _, _, _, _, _, _, _, _, _, _, _, _, _, _, _, _, _, _, _, _, _, _, _, _, _, _, _, _, _, _, _, _, _, _, _, _, _, _, _, _, _, _, _, _, _, _, _, _, _, _, _, _, _, _, _, _, _, _, _, _, _, _, _, _, _, _, _, _, _, _, _, _, _, _, _, _, _, _, _, _, _, _, _, _, _, _, _, _, _, _, _, _, _, _, _, _, _, _, _, _, _, _, _, _, _, _, _, _, _, _, _, _, _, _, _, _, _, _, _, _, _, _, _, _, _, _, _, _, _, _, _, _, _, _, _, _, _, _, _, _, _, _, _, _, _, _, _, _, _, _, _, _, _, _, _, _, _, _, _] []) = _ := h3
      replace h3 : puts _ 3 _ (Act.mk #[_, _, _, _, _, _, _, _, _, _, _, _, _, _, _, _, _, _, _, _, _, _, _, _, _, _, _, _, _, _, _, _, _, _, _, _, _, _, _, _, _, _, _, _, _, _, _, _, _, _, _, _, _, _, _, _, _, _, _, _, _, _, _, _, _, _, _, _, _, _, _, _, _, _, _, _, _, _, _, _, _, _, _, _, _, _, _, _, _, _, _, _, _, _, _, _, _, _, _, _, _, _, _, _, _, _, _, _, _, _, _, _, _, _, _, _, _, _, _, _, _, _, _, _, _, _, _, _, _, _, _, _, _, _, _, _, _, _, _, _, _, _, _, _, _, _, _, _, _, _, _, _, _, _, _, _, _, _, _, _, _, _, _, _] []) = _ := h3
      replace h3 : puts _ 4 _ (Act.mk #[_, _, _, _, _, _, _, _, _, _, _, _, _, _, _, _, _, _, _, _, _, _, _, _, _, _, _, _, _, _, _, _, _, _, _, _, _, _, _, _, _, _, _, _, _, _, _, _, _, _, _, _, _, _, _, _, _, _, _, _, _, _, _, _, _, _, _, _, _, _, _, _, _, _, _, _, _, _, _, _, _, _, _, _, _, _, _, _, _, _, _, _, _, _, _, _, _, _, _, _, _, _, _, _, _, _, _, _, _, _, _, _, _, _, _, _, _, _, _, _, _, _, _, _, _, _, _, _, _, _, _, _, _, _, _, _, _, _, _, _, _, _, _, _, _, _, _, _, _, _, _, _, _, _, _, _, _, _, _, _, _, _, _, _] []) = _ := h3
      replace h3 : puts _ 5 _ (Act.mk #[_, _, _, _, _, _, _, _, _, _, _, _, _, _, _, _, _, _, _, _, _, _, _, _, _, _, _, _, _, _, _, _, _, _, _, _, _, _, _, _, _, _, _, _, _, _, _, _, _, _, _, _, _, _, _, _, _, _, _, _, _, _, _, _, _, _, _, _, _, _, _, _, _, _, _, _, _, _, _, _, _, _, _, _, _, _, _, _, _, _, _, _, _, _, _, _, _, _, _, _, _, _, _, _, _, _, _, _, _, _, _, _, _, _, _, _, _, _, _, _, _, _, _, _, _, _, _, _, _, _, _, _, _, _, _, _, _, _, _, _, _, _, _, _, _, _, _, _, _, _, _, _, _, _, _, _, _, _, _, _, _, _, _, _] []) = _ := h3
      replace h3 : puts _ 6 _ (Act.mk #[_, _, _, _, _, _, _, _, _, _, _, _, _, _, _, _, _, _, _, _, _, _, _, _, _, _, _, _, _, _, _, _, _, _, _, _, _, _, _, _, _, _, _, _, _, _, _, _, _, _, _, _, _, _, _, _, _, _, _, _, _, _, _, _, _, _, _, _, _, _, _, _, _, _, _, _, _, _, _, _, _, _, _, _, _, _, _, _, _, _, _, _, _, _, _, _, _, _, _, _, _, _, _, _, _, _, _, _, _, _, _, _, _, _, _, _, _, _, _, _, _, _, _, _, _, _, _, _, _, _, _, _, _, _, _, _, _, _, _, _, _, _, _, _, _, _, _, _, _, _, _, _, _, _, _, _, _, _, _, _, _, _, _, _] []) = _ := h3
      replace h3 : puts _ 7 _ (Act.mk #[_, _, _, _, _, _, _, _, _, _, _, _, _, _, _, _, _, _, _, _, _, _, _, _, _, _, _, _, _, _, _, _, _, _, _, _, _, _, _, _, _, _, _, _, _, _, _, _, _, _, _, _, _, _, _, _, _, _, _, _, _, _, _, _, _, _, _, _, _, _, _, _, _, _, _, _, _, _, _, _, _, _, _, _, _, _, _, _, _, _, _, _, _, _, _, _, _, _, _, _, _, _, _, _, _, _, _, _, _, _, _, _, _, _, _, _, _, _, _, _, _, _, _, _, _, _, _, _, _, _, _, _, _, _, _, _, _, _, _, _, _, _, _, _, _, _, _, _, _, _, _, _, _, _, _, _, _, _, _, _, _, _, _, _] []) = _ := h3
      replace h3 : puts _ 8 _ (Act.mk #[_, _, _, _, _, _, _, _, _, _, _, _, _, _, _, _, _, _, _, _, _, _, _, _, _, _, _, _, _, _, _, _, _, _, _, _, _, _, _, _, _, _, _, _, _, _, _, _, _, _, _, _, _, _, _, _, _, _, _, _, _, _, _, _, _, _, _, _, _, _, _, _, _, _, _, _, _, _, _, _, _, _, _, _, _, _, _, _, _, _, _, _, _, _, _, _, _, _, _, _, _, _, _, _, _, _, _, _, _, _, _, _, _, _, _, _, _, _, _, _, _, _, _, _, _, _, _, _, _, _, _, _, _, _, _, _, _, _, _, _, _, _, _, _, _, _, _, _, _, _, _, _, _, _, _, _, _, _, _, _, _, _, _, _] []) = _ := h3
      replace h3 : puts _ 9 _ (Act.mk #[_, _, _, _, _, _, _, _, _, _, _, _, _, _, _, _, _, _, _, _, _, _, _, _, _, _, _, _, _, _, _, _, _, _, _, _, _, _, _, _, _, _, _, _, _, _, _, _, _, _, _, _, _, _, _, _, _, _, _, _, _, _, _, _, _, _, _, _, _, _, _, _, _, _, _, _, _, _, _, _, _, _, _, _, _, _, _, _, _, _, _, _, _, _, _, _, _, _, _, _, _, _, _, _, _, _, _, _, _, _, _, _, _, _, _, _, _, _, _, _, _, _, _, _, _, _, _, _, _, _, _, _, _, _, _, _, _, _, _, _, _, _, _, _, _, _, _, _, _, _, _, _, _, _, _, _, _, _, _, _, _, _, _, _] []) = _ := h3
      replace h3 : (Act.mk #[_, _, _, _, _, _, _, _, _, _, _, _, _, _, _, _, _, _, _, _, _, _, _, _, _, _, _, _, _, _, _, _, _, _, _, _, _, _, _, _, _, _, _, _, _, _, _, _, _, _, _, _, _, _, _, _, _, _, _, _, _, _, _, _, _, _, _, _, _, _, _, _, _, _, _, _, _, _, _, _, _, _, _, _, _, _, _, _, _, _, _, _, _, _, _, _, _, _, _, _, _, _, _, _, _, _, _, _, _, _, _, _, _, _, _, _, _, _, _, _, _, _, _, _, _, _, _, _, _, _, _, _, _, _, _, _, _, _, _, _, _, _, _, _, _, _, _, _, _, _, _, _, _, _, _, _, _, _, _, _, _, _, _, _] []) = _ := h3
      subst h3
      simp only [List.drop_succ_cons, List.drop_zero]
      simp only [e6, e7]
      clear e6 e7
      have c22 := (X.blk.cell 22).trans (Pk.c22 _)
      have z22 := Lib.frozen_of_heap X.blk 22
      have s2 := X.fin22 s.gd O6 (by omega) (grow_all s.gd.wans hx6)
      go_wp2
      go_roundw
      case rel => exact ⟨j - 1, _, _, by go_num, by show p.wan.n + 1 + (j - 1) ≤ 3; omega, s2⟩
      case measure => simp [intOf]; omega
    · as_aux_lemma =>
      have hlt' : ¬ (0 : Int) < j := by omega
      go_wp2_with (first | refine load_pk s.blk rfl _ rfl rfl ?_ | (refine store_pk2 (q := p) (old := Pk.zero) s.res rfl rfl ?_; intro w9 B9 g9) | fail)
      have D9 := s.done g9
      first
      | exact ret_pk rfl rfl B9 rfl ⟨p, d, rfl, D9⟩
      | exact ret_pk rfl rfl B9 rfl ⟨p, rfl, d, D9⟩
      | exact ret_pk rfl rfl B9 rfl ⟨p, rfl, ⟨d, D9.1, D9.2.1⟩, D9.2.2⟩
      | (refine ret_pk rfl rfl B9 rfl ?_; trace_state; exact ⟨p, rfl, d, D9⟩)
/-- spec.l5Draw. -/
theorem draw_sl5Draw (g : Nat) (ao : Option Addr) (n cap : Nat) (l : List UInt8) (k : Int) (w : World) (hc : Cur w g ao n cap l) (hn : n ≤ 1048576) :
    Calls Tryz.prog 109 #[.pointer (some ⟨g, 0, none⟩), .int .i64 k] w fun e w' => ∃ p d, e = .returned (.agg (Pk.cells p)) ∧ POwn w' w.heap.size p d ∧ Pgd 64 p d ∧ Cur w' g ao n cap l ∧ w.grownBy w' (some g) := by
  by_cases h1 : k = 1
  · subst h1
    exact l5d_con g ao n cap l 1 w hc hn rfl rfl rfl rfl rfl rfl rfl rfl rfl rfl rfl
  by_cases h2 : k = 2
  · subst h2
    exact l5d_ack g ao n cap l 2 w hc hn rfl rfl rfl rfl rfl rfl rfl rfl rfl rfl rfl
  by_cases h3 : k = 3
  · subst h3
    exact l5d_pub g ao n cap l 3 w hc hn rfl rfl rfl rfl rfl rfl rfl rfl rfl rfl rfl
  by_cases h8 : k = 8
  · subst h8
    exact l5d_sub g ao n cap l 8 w hc hn rfl rfl rfl rfl rfl rfl rfl rfl rfl rfl rfl
  by_cases h9 : k = 9
  · subst h9
    exact l5d_sack g ao n cap l 9 w hc hn rfl rfl rfl rfl rfl rfl rfl rfl rfl rfl rfl
  by_cases h10 : k = 10
  · subst h10
    exact l5d_uns g ao n cap l 10 w hc hn rfl rfl rfl rfl rfl rfl rfl rfl rfl rfl rfl
  by_cases h4 : k = 4
  · subst h4
    exact l5d_id4 g ao n cap l 4 w hc hn rfl rfl rfl rfl rfl rfl rfl rfl rfl rfl rfl
  by_cases h5 : k = 5
  · subst h5
    exact l5d_id5 g ao n cap l 5 w hc hn rfl rfl rfl rfl rfl rfl rfl rfl rfl rfl rfl
  by_cases h6 : k = 6
  · subst h6
    exact l5d_id6 g ao n cap l 6 w hc hn rfl rfl rfl rfl rfl rfl rfl rfl rfl rfl rfl
  by_cases h7 : k = 7
  · subst h7
    exact l5d_id7 g ao n cap l 7 w hc hn rfl rfl rfl rfl rfl rfl rfl rfl rfl rfl rfl
  by_cases h11 : k = 11
  · subst h11
    exact l5d_id11 g ao n cap l 11 w hc hn rfl rfl rfl rfl rfl rfl rfl rfl rfl rfl rfl
  exact l5d_no g ao n cap l k w hc hn (by simpa using h1) (by simpa using h2) (by simpa using h3) (by simpa using h8) (by simpa using h9) (by simpa using h10) (by simpa using h4) (by simpa using h5) (by simpa using h6) (by simpa using h7) (by simpa using h11)
end Go.Proofs.YtccjiicjlifmiaaGreatDoor
