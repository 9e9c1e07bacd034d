/- Texts that the law FnExactGetPacket uses. -/
import Derived.Test.YtccjiicjlifmiaaGreatDoorQ24
set_option linter.unusedVariables false
set_option linter.unusedSimpArgs false
set_option maxRecDepth 100000
set_option maxHeartbeats 20000000
namespace Go.Proofs.YtccjiicjlifmiaaGreatDoor
open Go.RowKit

theorem mark_lS (B : Nat) (ao : Option Addr) (n cap k : Nat) (l : List ByteArray) (w : World) (ho : SOwn w B ao n cap l) (hn : n ≤ 100000000000) (hk0 : 0 < k) (hk : k ≤ 100000000000) :
  Calls Tryz.prog 100 #[.slice ao n cap, .int .i64 k] w fun e w' => e = .returned (.int .i64 ((k + n : Nat) : Int)) ∧ SOwn w' B ao n cap (mks k n) ∧ w.grownBy w' (Value.slice ao n cap).ownBlock := by
 have HL : Hid (l.length = n) := ho.1
 go_enter Tryz.func100, Tryz.ntmps100
 go_wp2
 go_loopw [1, 5] (fun q i wr => ∃ j : Nat, i = .int .i64 j ∧ q = .int .i64 ((k + j : Nat) : Int) ∧ j ≤ n ∧ SOwn wr B ao n cap (mks k j ++ l.drop j) ∧ w.grownBy wr (Value.slice ao n cap).ownBlock) (fun _ i _ => n - (intOf i).toNat)
 case atStart => exact ⟨0, rfl, rfl, Nat.zero_le _, by simpa [mks] using ho, World.grownBy.refl _ _⟩
 case round =>
  obtain ⟨j, rfl, rfl, hj, hoj, hb⟩ := hrel
  by_cases hlt : j < n
  ·obtain ⟨g, e⟩ := ho.head (by omega)
   subst e
   have hgB := (ho.block rfl).1
   have hlt' : (j : Int) < n := by omega
   clear ho
   go_wp2_with fail
   refine (qeo (k + j) wr (by omega) (by omega)).mono ?_
   rintro e w1 ⟨rfl, hb1⟩
   have ho1 := hoj.below hb1
   have hb2 : w.grownBy w1 (some g) := qjd hb hb1
   clear hoj hb hb1
   have hz := ho1.cell j hlt
   have hf := ho1.frozen j
   have HO := ho1.store j (mtx (k + j))
   rw [mks_set l k n j HL.out hlt] at HO
   have HO' : Hid (SOwn (w1.setCell ⟨g, j, none⟩ (.string (mtx (k + j)))) B (some ⟨g, 0, none⟩) n cap (mks k (j + 1) ++ l.drop (j + 1))) := HO
   have HB : Hid (w.grownBy (w1.setCell ⟨g, j, none⟩ (.string (mtx (k + j)))) (some g)) := qml hb2 j _
   clear HO ho1 hb2
   go_wp2
   go_roundw
   case rel => exact ⟨j + 1, by go_num, by go_num, by omega, HO'.out, HB.out⟩
   case measure => simp [intOf] <;> omega
  ·have hlt' : ¬ (j : Int) < n := by omega
   obtain rfl : j = n := by omega
   go_wp2
   go_ret
   refine ⟨by simp, ?_, hb⟩
   have := HL.out
   rw [List.drop_of_length_le (by omega), List.append_nil] at hoj
   exact hoj

theorem held_lS (ao : Option Addr) (n cap k : Nat) (w : World) (hr : SRd w ao n cap (mks k n)) (hn : n ≤ 100000000000) (hk0 : 0 < k) (hk : k ≤ 100000000000) :
  Calls Tryz.prog 104 #[.slice ao n cap, .int .i64 k] w fun e w' => e = .returned (.int .i64 ((k + n : Nat) : Int)) ∧ Below w.heap.size w w' := by
 go_enter Tryz.func104, Tryz.ntmps104
 go_wp2
 go_loopw [1, 5] (fun q i wr => ∃ j : Nat, i = .int .i64 j ∧ q = .int .i64 ((k + j : Nat) : Int) ∧ j ≤ n ∧ Below w.heap.size w wr) (fun _ i _ => n - (intOf i).toNat)
 case atStart => exact ⟨0, rfl, rfl, Nat.zero_le _, Below.refl _ _⟩
 case round =>
  obtain ⟨j, rfl, rfl, hj, hb⟩ := hrel
  by_cases hlt : j < n
  ·obtain ⟨b, off, e, hc⟩ := hr.1.2 j hlt
   subst e
   rw [mks_at k n j hlt] at hc
   have hck : wr.cell? ⟨b, off + j, none⟩ = some (.string (mtx (k + j))) := (hb.cell (World.block_lt_of_cell? w _ hc)).trans hc
   have hlt' : (j : Int) < n := by omega
   have hbn := qda (mtx (k + j))
   clear hc hr
   go_wp2
   go_region_with (go_at_call 106; refine (qeo (k + j) _ (by omega) (by omega)).mono ?_; rintro e w1 ⟨rfl, hb1⟩; have hck1 := (hb1.cell (World.block_lt_of_cell? _ _ hck)).trans hck)
   all_goals
    go_wp2
    go_roundw
    case rel => exact ⟨j + 1, by go_num, by go_num, by omega, (below_drewN hb 1).trans (hb1.mono hb.size)⟩
    case measure => simp [intOf] <;> omega
  ·have hlt' : ¬ (j : Int) < n := by omega
   obtain rfl : j = n := by omega
   go_wp2
   go_ret
   exact ⟨by simp, hb⟩

theorem mark_lI (B : Nat) (ao : Option Addr) (n cap k : Nat) (l : List Int) (w : World) (ho : IOwn w B ao n cap l) (hn : n ≤ 1099511627776) (hk : k ≤ 1099511627776) :
  Calls Tryz.prog 101 #[.slice ao n cap, .int .i64 k] w fun e w' => e = .returned (.int .i64 ((k + n : Nat) : Int)) ∧ IOwn w' B ao n cap (imks k n) ∧ w.grownBy w' (Value.slice ao n cap).ownBlock := by
 have HL : Hid (l.length = n) := ho.1
 go_enter Tryz.func101, Tryz.ntmps101
 go_wp2
 go_loopw [1, 5] (fun q i wr => ∃ j : Nat, i = .int .i64 j ∧ q = .int .i64 ((k + j : Nat) : Int) ∧ j ≤ n ∧ IOwn wr B ao n cap (imks k j ++ l.drop j) ∧ w.grownBy wr (Value.slice ao n cap).ownBlock) (fun _ i _ => n - (intOf i).toNat)
 case atStart => exact ⟨0, rfl, rfl, Nat.zero_le _, by simpa [imks] using ho, World.grownBy.refl _ _⟩
 case round =>
  obtain ⟨j, rfl, rfl, hj, hoj, hb⟩ := hrel
  by_cases hlt : j < n
  ·obtain ⟨g, e⟩ := ho.head (by omega)
   subst e
   have hgB := (ho.block rfl).1
   have hlt' : (j : Int) < n := by omega
   have hz := hoj.cell j hlt
   have hf := hoj.frozen j
   have HO := hoj.store j ((k + j : Nat) : Int)
   rw [imks_set l k n j HL.out hlt] at HO
   have HO' : Hid (IOwn (wr.setCell ⟨g, j, none⟩ (.int .i64 ((k + j : Nat) : Int))) B (some ⟨g, 0, none⟩) n cap (imks k (j + 1) ++ l.drop (j + 1))) := HO
   have HB : Hid (w.grownBy (wr.setCell ⟨g, j, none⟩ (.int .i64 ((k + j : Nat) : Int))) (some g)) := qml hb j _
   clear HO hoj hb ho
   go_wp2
   go_roundw
   case rel => exact ⟨j + 1, by go_num, by go_num, by omega, by simpa using HO'.out, by simpa [Value.ownBlock] using HB.out⟩
   case measure => simp [intOf]; omega
  ·have hlt' : ¬ (j : Int) < n := by omega
   obtain rfl : j = n := by omega
   go_wp2
   go_ret
   refine ⟨by simp, ?_, hb⟩
   have := HL.out
   rw [List.drop_of_length_le (by omega), List.append_nil] at hoj
   exact hoj

theorem WOwn.grown {w w' : World} {B : Nat} {ao : Option Addr} {n cap : Nat} {l : List (ByteArray × Int)} {row : Option Nat} (h : WOwn w B ao n cap l) (hg : w.grownBy w' row) (hne : ∀ a, ao = some a → some a.block ≠ row) : WOwn w' B ao n cap l := by
 refine ⟨h.1, h.2.kept hg ?_⟩
 cases ao with
 | none => exact .inl rfl
 | some a => exact .inr (hne a rfl)
theorem WOwn.block {w : World} {B : Nat} {ao : Option Addr} {n cap : Nat} {l : List (ByteArray × Int)} (h : WOwn w B ao n cap l) {a : Addr} (e : ao = some a) : B ≤ a.block ∧ a.block < w.heap.size := by
 subst e
 exact h.2.lt _ rfl
theorem WOwn.head {w : World} {B : Nat} {ao : Option Addr} {n cap : Nat} {l : List (ByteArray × Int)} (h : WOwn w B ao n cap l) (hn : 0 < n) : ∃ g, ao = some ⟨g, 0, none⟩ := by
 rcases h.2.2 with ⟨e, h0⟩ | ⟨g, c, cur, e, _⟩
 ·omega
 ·simp only [Value.slice.injEq] at e
  exact ⟨g, e.1⟩
def wmks (k n : Nat) : List (ByteArray × Int) := (List.range n).map fun i => (mtx (k + 2 * i), ((k + 2 * i + 1 : Nat) : Int))
theorem qns (k n : Nat) : (wmks k n).length = n := by simp [wmks]
theorem wmks_f (k n i : Nat) (h : i < n) : wf (wmks k n) i = mtx (k + 2 * i) := by
 simp [wf, wmks, List.getD_eq_getElem?_getD, h]
theorem wmks_q (k n i : Nat) (h : i < n) : wq (wmks k n) i = ((k + 2 * i + 1 : Nat) : Int) := by
 simp [wq, wmks, List.getD_eq_getElem?_getD, h]
theorem wmks_set (l : List (ByteArray × Int)) (k n j : Nat) (hl : l.length = n) (hj : j < n) : (wmks k j ++ l.drop j).set j (mtx (k + 2 * j), ((k + 2 * j + 1 : Nat) : Int)) = wmks k (j + 1) ++ l.drop (j + 1) := by
 rw [List.set_append_right _ _ (by rw [qns]; exact Nat.le_refl _), qns, Nat.sub_self]
 rw [List.drop_eq_getElem_cons (by omega), List.set_cons_zero]
 simp only [wmks, List.range_succ, List.map_append, List.map_cons, List.map_nil, List.append_assoc]
 rfl
theorem mark_lW (B : Nat) (ao : Option Addr) (n cap k : Nat) (l : List (ByteArray × Int)) (w : World) (ho : WOwn w B ao n cap l) (hn : n ≤ 100000000000) (hk0 : 0 < k) (hk : k ≤ 100000000000) :
  Calls Tryz.prog 99 #[.slice ao n cap, .int .i64 k] w fun e w' => e = .returned (.int .i64 ((k + 2 * n : Nat) : Int)) ∧ WOwn w' B ao n cap (wmks k n) ∧ w.grownBy w' (Value.slice ao n cap).ownBlock := by
 have HL : Hid (l.length = n) := ho.1
 go_enter Tryz.func99, Tryz.ntmps99
 go_wp2
 go_loopw [1, 5] (fun q i wr => ∃ j : Nat, i = .int .i64 j ∧ q = .int .i64 ((k + 2 * j : Nat) : Int) ∧ j ≤ n ∧ WOwn wr B ao n cap (wmks k j ++ l.drop j) ∧ w.grownBy wr (Value.slice ao n cap).ownBlock) (fun _ i _ => n - (intOf i).toNat)
 case atStart => exact ⟨0, rfl, rfl, Nat.zero_le _, by simpa [wmks] using ho, World.grownBy.refl _ _⟩
 case round =>
  obtain ⟨j, rfl, rfl, hj, hoj, hb⟩ := hrel
  by_cases hlt : j < n
  ·obtain ⟨g, e⟩ := ho.head (by omega)
   subst e
   have hgB := (ho.block rfl).1
   have hlt' : (j : Int) < n := by omega
   clear ho
   go_wp2_with fail
   refine (qeo (k + 2 * j) wr (by omega) (by omega)).mono ?_
   rintro e w1 ⟨rfl, hb1⟩
   have ho1 := hoj.below hb1
   have hb2 : w.grownBy w1 (some g) := qjd hb hb1
   clear hoj hb hb1
   obtain ⟨_, _, e0, hz0, hz1⟩ := ho1.rd.1.2 j hlt
   simp only [Option.some.injEq, Addr.mk.injEq, and_true] at e0
   obtain ⟨rfl, rfl⟩ := e0
   rw [Nat.zero_add] at hz0 hz1
   have hf0 := ho1.frozen (j * 2)
   have hf1 := ho1.frozen (j * 2 + 1)
   have HO := ho1.store j (mtx (k + 2 * j)) ((k + 2 * j + 1 : Nat) : Int)
   rw [wmks_set l k n j HL.out hlt] at HO
   have HO' : Hid (WOwn ((w1.setCell ⟨g, j * 2, none⟩ (.string (mtx (k + 2 * j)))).setCell ⟨g, j * 2 + 1, none⟩ (.int .i64 ((k + 2 * j + 1 : Nat) : Int))) B (some ⟨g, 0, none⟩) n cap (wmks k (j + 1) ++ l.drop (j + 1))) := HO
   have HB : Hid (w.grownBy ((w1.setCell ⟨g, j * 2, none⟩ (.string (mtx (k + 2 * j)))).setCell ⟨g, j * 2 + 1, none⟩ (.int .i64 ((k + 2 * j + 1 : Nat) : Int))) (some g)) := qml (qml hb2 _ _) _ _
   clear HO ho1 hb2
   go_wp2
   go_roundw
   case rel => exact ⟨j + 1, by go_num, by go_num, by omega, by simpa using HO'.out, by simpa [Value.ownBlock] using HB.out⟩
   case measure => simp [intOf] <;> omega
  ·have hlt' : ¬ (j : Int) < n := by omega
   obtain rfl : j = n := by omega
   go_wp2
   go_ret
   refine ⟨by simp, ?_, hb⟩
   have := HL.out
   rw [List.drop_of_length_le (by omega), List.append_nil] at hoj
   exact hoj

theorem ret_i {x y : Int} (h : x = y) : Ending.returned (.int .i64 x) = .returned (.int .i64 y) := by rw [h]
def Pk.has (p : Pk) (k : Nat) : Prop := ∃ a : Addr, some a ∈ [p.bod.a, p.wb.a, p.pa.a, p.wan.a, p.nam.a, p.cds.a] ∧ a.block = k
structure Touch (F : Nat → Prop) (w w' : World) : Prop where
 os : w'.os = w.os
 tape : w'.tape = w.tape
 output : w'.output = w.output
 size : w.heap.size ≤ w'.heap.size
 block : ∀ k, k < w.heap.size → ¬ F k → w'.heap[k]? = w.heap[k]?
theorem Touch.refl (F : Nat → Prop) (w : World) : Touch F w w := ⟨rfl, rfl, rfl, Nat.le_refl _, fun _ _ _ => rfl⟩
theorem Touch.grow {F : Nat → Prop} {w w1 w2 : World} {row : Option Nat} (h : Touch F w w1) (hg : w1.grownBy w2 row) (hr : ∀ k, row = some k → F k) : Touch F w w2 :=
 ⟨hg.os.trans h.os, hg.tape.trans h.tape, hg.output.trans h.output, Nat.le_trans h.size hg.size, fun k hk hn => (hg.block k (Nat.lt_of_lt_of_le hk h.size) (fun e => hn (hr k e.symm))).trans (h.block k hk hn)⟩
theorem Touch.trans {F : Nat → Prop} {w w1 w2 : World} (h : Touch F w w1) (g : Touch F w1 w2) : Touch F w w2 :=
 ⟨g.os.trans h.os, g.tape.trans h.tape, g.output.trans h.output, Nat.le_trans h.size g.size, fun k hk hn => (g.block k (Nat.lt_of_lt_of_le hk h.size) hn).trans (h.block k hk hn)⟩
theorem Touch.below {F : Nat → Prop} {w w' : World} {B : Nat} (h : Touch F w w') (hB : B ≤ w.heap.size) (hF : ∀ k, F k → B ≤ k) : Below B w w' :=
 ⟨h.os, h.tape, h.output, h.size, fun k hk => h.block k (by omega) (fun hf => by have := hF k hf; omega)⟩
theorem Touch.owns {F : Nat → Prop} {w w' : World} {B : Nat} {t : TypeId} {s : Nat} {v : Value} {n : Nat} {l : List Value} (h : Touch F w w') (ho : w.ownsRow B t s v n l) (hn : ∀ k, v.ownBlock = some k → ¬ F k) : w'.ownsRow B t s v n l := by
 refine ⟨ho.1, ?_⟩
 rcases ho.2 with hh | ⟨g, cap, cur, rfl, hb, hgg, rest⟩
 ·exact .inl hh
 ·refine .inr ⟨g, cap, cur, rfl, hb, ?_, rest⟩
  rw [h.block g (Array.getElem?_eq_some_iff.1 hgg).1 (hn g rfl)]
  exact hgg
theorem POwn.lt {w : World} {B : Nat} {p : Pk} {d : Pd} (h : POwn w B p d) {k : Nat} (hk : p.has k) : B ≤ k ∧ k < w.heap.size := by
 obtain ⟨a, ha, rfl⟩ := hk
 simp only [List.mem_cons, List.not_mem_nil, or_false] at ha
 rcases ha with ha | ha | ha | ha | ha | ha
 ·exact h.bod.block ha.symm
 ·exact h.wb.block ha.symm
 ·exact h.pa.block ha.symm
 ·exact h.wan.block ha.symm
 ·exact h.nam.block ha.symm
 ·exact h.cds.block ha.symm
theorem POwn.below {w w' : World} {B : Nat} {p : Pk} {d : Pd} (h : POwn w B p d) (hb : Below w.heap.size w w') : POwn w' B p d :=
 ⟨h.bod.below hb, h.wb.below hb, h.pa.below hb, h.wan.below hb, h.nam.below hb, h.cds.below hb, h.dis⟩
theorem sl_row {s : Sl} {k : Nat} (h : (Value.slice s.a s.n s.c).ownBlock = some k) : ∃ a, s.a = some a ∧ a.block = k := by
 cases e : s.a with
 | none => rw [e] at h; simp [Value.ownBlock] at h
 | some a => rw [e] at h; exact ⟨a, rfl, by simpa [Value.ownBlock] using h⟩
theorem qbi {s t : Sl} (h : Dis s.a t.a) : ∀ a, s.a = some a → some a.block ≠ (Value.slice t.a t.n t.c).ownBlock := by
 intro a ha e
 obtain ⟨b, hb, hbk⟩ := sl_row e.symm
 exact h a b ha hb hbk.symm
theorem Dis.symm {x y : Option Addr} (h : Dis x y) : Dis y x := fun a b ha hb e => h b a hb ha e.symm
def Pk.cnt (p : Pk) : Nat := p.bod.n + p.wb.n + p.pa.n + 2 * p.wan.n + p.nam.n + p.cds.n
def Pk.mrk (p : Pk) (k : Nat) : Pd := ⟨marks (k) p.bod.n, marks (k + p.bod.n) p.wb.n, marks (k + p.bod.n + p.wb.n) p.pa.n, wmks (k + p.bod.n + p.wb.n + p.pa.n) p.wan.n, mks (k + p.bod.n + p.wb.n + p.pa.n + 2 * p.wan.n) p.nam.n, imks (k + p.bod.n + p.wb.n + p.pa.n + 2 * p.wan.n + p.nam.n) p.cds.n⟩
theorem mark_lmarkPacket (B : Nat) (p : Pk) (d : Pd) (k : Nat) (w : World) (ho : POwn w B p d) (hk0 : 0 < k) (hk : k + p.cnt ≤ 100000000000) :
  Calls Tryz.prog 45 #[.agg p.cells, .int .i64 k] w fun e w' => e = .returned (.int .i64 ((k + p.cnt : Nat) : Int)) ∧ POwn w' B p (p.mrk k) ∧ Touch p.has w w' := by
 unfold Pk.cnt at *
 obtain ⟨h1, h2, h3, h4, h5, h6, hd⟩ := ho
 have HD : Hid (List.Pairwise Dis [p.bod.a, p.wb.a, p.pa.a, p.wan.a, p.nam.a, p.cds.a]) := hd
 simp only [List.pairwise_cons, List.mem_cons, List.not_mem_nil, or_false, forall_eq_or_imp, forall_eq] at hd
 obtain ⟨⟨d12, d13, d14, d15, d16⟩, ⟨d23, d24, d25, d26⟩, ⟨d34, d35, d36⟩, ⟨d45, d46⟩, d56, _⟩ := hd
 have hb0 : Below w.heap.size w (w.alloc (.cells p.cells 28)) := bel_new _ _
 have A : Blk (w.alloc (.cells p.cells 28)) w.heap.size p := heap_alloc_new _ _
 have l1 : ∀ a, p.bod.a = some a → a.block < w.heap.size := fun a e => (h1.block e).2
 have l2 : ∀ a, p.wb.a = some a → a.block < w.heap.size := fun a e => (h2.block e).2
 have l3 : ∀ a, p.pa.a = some a → a.block < w.heap.size := fun a e => (h3.block e).2
 have l4 : ∀ a, p.wan.a = some a → a.block < w.heap.size := fun a e => (h4.block e).2
 have l5 : ∀ a, p.nam.a = some a → a.block < w.heap.size := fun a e => (h5.block e).2
 have l6 : ∀ a, p.cds.a = some a → a.block < w.heap.size := fun a e => (h6.block e).2
 have T0 : Touch p.has w (w.alloc (.cells p.cells 28)) := ⟨hb0.os, hb0.tape, hb0.output, hb0.size, fun q hq _ => hb0.block q hq⟩
 replace h1 := h1.below hb0
 replace h2 := h2.below hb0
 replace h3 := h3.below hb0
 replace h4 := h4.below hb0
 replace h5 := h5.below hb0
 replace h6 := h6.below hb0
 clear hb0
 have f6 := (A.cell 6).trans p.c6
 go_enter Tryz.func45, Tryz.ntmps45
 go_wp2_with fail
 refine (mark_lmarkByteS B p.bod.a p.bod.n p.bod.c (k) d.bod _ h1 (by omega) (by omega)).mono ?_
 rintro e y1 ⟨rfl, o1, g1⟩
 have A1 : Blk y1 w.heap.size p := (g1.block _ A.lt (fun e => by obtain ⟨a, ha, hb⟩ := sl_row e.symm; have := l1 a ha; omega)).trans A
 have T1 : Touch p.has w y1 := T0.grow g1 (fun q e => by obtain ⟨a, ha, hb⟩ := sl_row e; exact ⟨a, by simp [ha], hb⟩)
 replace h2 := h2.grown g1 (qbi d12.symm)
 replace h3 := h3.grown g1 (qbi d13.symm)
 replace h4 := h4.grown g1 (qbi d14.symm)
 replace h5 := h5.grown g1 (qbi d15.symm)
 replace h6 := h6.grown g1 (qbi d16.symm)
 clear T0 A g1 h1 f6
 have f13 := (A1.cell 13).trans p.c13
 go_wp2_with fail
 refine (mark_lmarkByteS B p.wb.a p.wb.n p.wb.c (k + p.bod.n) d.wb _ h2 (by omega) (by omega)).mono ?_
 rintro e y2 ⟨rfl, o2, g2⟩
 have A2 : Blk y2 w.heap.size p := (g2.block _ A1.lt (fun e => by obtain ⟨a, ha, hb⟩ := sl_row e.symm; have := l2 a ha; omega)).trans A1
 have T2 : Touch p.has w y2 := T1.grow g2 (fun q e => by obtain ⟨a, ha, hb⟩ := sl_row e; exact ⟨a, by simp [ha], hb⟩)
 replace o1 := o1.grown g2 (qbi d12)
 replace h3 := h3.grown g2 (qbi d23.symm)
 replace h4 := h4.grown g2 (qbi d24.symm)
 replace h5 := h5.grown g2 (qbi d25.symm)
 replace h6 := h6.grown g2 (qbi d26.symm)
 clear T1 A1 g2 h2 f13
 have f19 := (A2.cell 19).trans p.c19
 go_wp2_with fail
 refine (mark_lmarkByteS B p.pa.a p.pa.n p.pa.c (k + p.bod.n + p.wb.n) d.pa _ h3 (by omega) (by omega)).mono ?_
 rintro e y3 ⟨rfl, o3, g3⟩
 have A3 : Blk y3 w.heap.size p := (g3.block _ A2.lt (fun e => by obtain ⟨a, ha, hb⟩ := sl_row e.symm; have := l3 a ha; omega)).trans A2
 have T3 : Touch p.has w y3 := T2.grow g3 (fun q e => by obtain ⟨a, ha, hb⟩ := sl_row e; exact ⟨a, by simp [ha], hb⟩)
 replace o1 := o1.grown g3 (qbi d13)
 replace o2 := o2.grown g3 (qbi d23)
 replace h4 := h4.grown g3 (qbi d34.symm)
 replace h5 := h5.grown g3 (qbi d35.symm)
 replace h6 := h6.grown g3 (qbi d36.symm)
 clear T2 A2 g3 h3 f19
 have f22 := (A3.cell 22).trans p.c22
 go_wp2_with fail
 refine (mark_lW B p.wan.a p.wan.n p.wan.c (k + p.bod.n + p.wb.n + p.pa.n) d.wan _ h4 (by omega) (by omega) (by omega)).mono ?_
 rintro e y4 ⟨rfl, o4, g4⟩
 have A4 : Blk y4 w.heap.size p := (g4.block _ A3.lt (fun e => by obtain ⟨a, ha, hb⟩ := sl_row e.symm; have := l4 a ha; omega)).trans A3
 have T4 : Touch p.has w y4 := T3.grow g4 (fun q e => by obtain ⟨a, ha, hb⟩ := sl_row e; exact ⟨a, by simp [ha], hb⟩)
 replace o1 := o1.grown g4 (qbi d14)
 replace o2 := o2.grown g4 (qbi d24)
 replace o3 := o3.grown g4 (qbi d34)
 replace h5 := h5.grown g4 (qbi d45.symm)
 replace h6 := h6.grown g4 (qbi d46.symm)
 clear T3 A3 g4 h4 f22
 have f23 := (A4.cell 23).trans p.c23
 go_wp2_with fail
 refine (mark_lS B p.nam.a p.nam.n p.nam.c (k + p.bod.n + p.wb.n + p.pa.n + 2 * p.wan.n) d.nam _ h5 (by omega) (by omega) (by omega)).mono ?_
 rintro e y5 ⟨rfl, o5, g5⟩
 have A5 : Blk y5 w.heap.size p := (g5.block _ A4.lt (fun e => by obtain ⟨a, ha, hb⟩ := sl_row e.symm; have := l5 a ha; omega)).trans A4
 have T5 : Touch p.has w y5 := T4.grow g5 (fun q e => by obtain ⟨a, ha, hb⟩ := sl_row e; exact ⟨a, by simp [ha], hb⟩)
 replace o1 := o1.grown g5 (qbi d15)
 replace o2 := o2.grown g5 (qbi d25)
 replace o3 := o3.grown g5 (qbi d35)
 replace o4 := o4.grown g5 (qbi d45)
 replace h6 := h6.grown g5 (qbi d56.symm)
 clear T4 A4 g5 h5 f23
 have f24 := (A5.cell 24).trans p.c24
 go_wp2_with fail
 refine (mark_lI B p.cds.a p.cds.n p.cds.c (k + p.bod.n + p.wb.n + p.pa.n + 2 * p.wan.n + p.nam.n) d.cds _ h6 (by omega) (by omega)).mono ?_
 rintro e y6 ⟨rfl, o6, g6⟩
 have A6 : Blk y6 w.heap.size p := (g6.block _ A5.lt (fun e => by obtain ⟨a, ha, hb⟩ := sl_row e.symm; have := l6 a ha; omega)).trans A5
 have T6 : Touch p.has w y6 := T5.grow g6 (fun q e => by obtain ⟨a, ha, hb⟩ := sl_row e; exact ⟨a, by simp [ha], hb⟩)
 replace o1 := o1.grown g6 (qbi d16)
 replace o2 := o2.grown g6 (qbi d26)
 replace o3 := o3.grown g6 (qbi d36)
 replace o4 := o4.grown g6 (qbi d46)
 replace o5 := o5.grown g6 (qbi d56)
 clear T5 A5 g6 h6 f24
 go_wp2
 go_ret
 exact ⟨ret_i (by push_cast; omega), ⟨o1, o2, o3, o4, o5, o6, HD.out⟩, T6⟩
theorem held_lW (ao : Option Addr) (n cap k : Nat) (w : World) (hr : WRd w ao n cap (wmks k n)) (hn : n ≤ 100000000000) (hk0 : 0 < k) (hk : k ≤ 100000000000) :
  Calls Tryz.prog 103 #[.slice ao n cap, .int .i64 k] w fun e w' => e = .returned (.int .i64 ((k + 2 * n : Nat) : Int)) ∧ Below w.heap.size w w' := by
 go_enter Tryz.func103, Tryz.ntmps103
 go_wp2
 go_loopw [1, 5] (fun q i wr => ∃ j : Nat, i = .int .i64 j ∧ q = .int .i64 ((k + 2 * j : Nat) : Int) ∧ j ≤ n ∧ Below w.heap.size w wr) (fun _ i _ => n - (intOf i).toNat)
 case atStart => exact ⟨0, rfl, rfl, Nat.zero_le _, Below.refl _ _⟩
 case round =>
  obtain ⟨j, rfl, rfl, hj, hb⟩ := hrel
  by_cases hlt : j < n
  ·obtain ⟨b, off, e, hc, hd⟩ := hr.1.2 j hlt
   subst e
   rw [wmks_f k n j hlt] at hc
   rw [wmks_q k n j hlt] at hd
   have hck : wr.cell? ⟨b, off + j * 2, none⟩ = some (.string (mtx (k + 2 * j))) := (hb.cell (World.block_lt_of_cell? w _ hc)).trans hc
   have hdk : wr.cell? ⟨b, off + j * 2 + 1, none⟩ = some (.int .i64 ((k + 2 * j + 1 : Nat) : Int)) := (hb.cell (World.block_lt_of_cell? w _ hd)).trans hd
   have hlt' : (j : Int) < n := by omega
   have hbn := qda (mtx (k + 2 * j))
   have c2 : (((k + 2 * j + 1 : Nat) : Int) != ((k + 2 * j + 1 : Nat) : Int)) = false := by simp
   clear hc hd hr
   go_wp2
   go_region_with (go_at_call 106; refine (qeo (k + 2 * j) _ (by omega) (by omega)).mono ?_; rintro e w1 ⟨rfl, hb1⟩; have hck1 := (hb1.cell (World.block_lt_of_cell? _ _ hck)).trans hck; have hdk1 := (hb1.cell (World.block_lt_of_cell? _ _ hdk)).trans hdk)
   all_goals
    go_wp2
    go_roundw
    case rel => exact ⟨j + 1, by go_num, by go_num, by omega, (below_drewN hb 1).trans (hb1.mono hb.size)⟩
    case measure => simp [intOf] <;> omega
  ·have hlt' : ¬ (j : Int) < n := by omega
   obtain rfl : j = n := by omega
   go_wp2
   go_ret
   exact ⟨by simp, hb⟩
theorem held_lheldPacket (p : Pk) (k : Nat) (w : World) (hr : PRd w p (p.mrk k)) (hk0 : 0 < k) (hk : k + p.cnt ≤ 100000000000) :
  Calls Tryz.prog 46 #[.agg p.cells, .int .i64 k] w fun e w' => e = .returned (.int .i64 ((k + p.cnt : Nat) : Int)) ∧ Below w.heap.size w w' := by
 unfold Pk.cnt at *
 have hb : Below w.heap.size w (w.alloc (.cells p.cells 28)) := bel_new _ _
 have A : Blk (w.alloc (.cells p.cells 28)) w.heap.size p := heap_alloc_new _ _
 obtain ⟨h1, h2, h3, h4, h5, h6⟩ := hr.below hb
 clear hr
 have f6 := (A.cell 6).trans p.c6
 have f13 := (A.cell 13).trans p.c13
 have f19 := (A.cell 19).trans p.c19
 have f22 := (A.cell 22).trans p.c22
 go_enter Tryz.func46, Tryz.ntmps46
 go_wp2_with fail
 refine (qfj p.bod.a p.bod.n p.bod.c (k) _ h1 (by omega) (by omega)).mono ?_
 rintro e y1 ⟨rfl, hy⟩
 rw [hy]
 clear hy
 have n1 : ¬ ((k + p.bod.n : Nat) : Int) < 0 := by omega
 go_wp2_with fail
 refine (qfj p.wb.a p.wb.n p.wb.c (k + p.bod.n) _ h2 (by omega) (by omega)).mono ?_
 rintro e y2 ⟨rfl, hy⟩
 rw [hy]
 clear hy
 have n2 : ¬ ((k + p.bod.n + p.wb.n : Nat) : Int) < 0 := by omega
 go_wp2_with fail
 refine (qfj p.pa.a p.pa.n p.pa.c (k + p.bod.n + p.wb.n) _ h3 (by omega) (by omega)).mono ?_
 rintro e y3 ⟨rfl, hy⟩
 rw [hy]
 clear hy
 have n3 : ¬ ((k + p.bod.n + p.wb.n + p.pa.n : Nat) : Int) < 0 := by omega
 go_wp2_with fail
 refine (held_lW p.wan.a p.wan.n p.wan.c (k + p.bod.n + p.wb.n + p.pa.n) _ h4 (by omega) (by omega) (by omega)).mono ?_
 rintro e y4 ⟨rfl, b4⟩
 replace hb := bel hb b4
 replace A := A.next b4
 replace h5 := h5.below b4
 replace h6 := h6.below b4
 clear b4
 have f23 := (A.cell 23).trans p.c23
 have n4 : ¬ ((k + p.bod.n + p.wb.n + p.pa.n + 2 * p.wan.n : Nat) : Int) < 0 := by omega
 go_wp2_with fail
 refine (held_lS p.nam.a p.nam.n p.nam.c (k + p.bod.n + p.wb.n + p.pa.n + 2 * p.wan.n) _ h5 (by omega) (by omega) (by omega)).mono ?_
 rintro e y5 ⟨rfl, b5⟩
 replace hb := bel hb b5
 replace A := A.next b5
 replace h6 := h6.below b5
 clear b5
 have f24 := (A.cell 24).trans p.c24
 have n5 : ¬ ((k + p.bod.n + p.wb.n + p.pa.n + 2 * p.wan.n + p.nam.n : Nat) : Int) < 0 := by omega
 go_wp2_with fail
 refine (qou p.cds.a p.cds.n p.cds.c (k + p.bod.n + p.wb.n + p.pa.n + 2 * p.wan.n + p.nam.n) _ h6 (by omega) (by omega)).mono ?_
 rintro e y6 ⟨rfl, hy⟩
 rw [hy]
 clear hy
 have n6 : ¬ ((k + p.bod.n + p.wb.n + p.pa.n + 2 * p.wan.n + p.nam.n + p.cds.n : Nat) : Int) < 0 := by omega
 go_wp2
 go_ret
 exact ⟨ret_i (by push_cast; omega), hb⟩
end Go.Proofs.YtccjiicjlifmiaaGreatDoor
