/- laws.toPacket: a packet made anew. -/
import Derived.Test.YtfpclkkkenekpaaGreatWMem
import Derived.Laws.CopyOwn
set_option linter.unusedVariables false
set_option linter.unusedSimpArgs false
namespace Go.Proofs.YtfpclkkkenekpaaGreat
open Go.RowKit

theorem toB (ao : Option Addr) (n cap : Nat) (l : List UInt8) (w : World) (hr : RdIn w ao n cap l) (hn : n ≤ 1099511627776) :
    Calls Tryz.prog 34 #[.slice ao n cap] w fun e w' => ∃ o, e = .returned (.slice o n n) ∧ Own w' w.heap.size o n n l ∧ Below w.heap.size w w' :=
  (to_ltoByteS ao n cap l w hr hn).mono fun e w' ⟨h1, h2, h3⟩ => ⟨_, h1, h2, h3⟩

theorem toS (ao : Option Addr) (n cap : Nat) (l : List ByteArray) (w : World) (hr : SRd w ao n cap l) (hn : n ≤ 1099511627776) :
    Calls Tryz.prog 36 #[.slice ao n cap] w fun e w' => ∃ o, e = .returned (.slice o n n) ∧ SOwn w' w.heap.size o n n l ∧ Below w.heap.size w w' :=
  (to_ltoStringS ao n cap l w hr hn).mono fun e w' ⟨h1, h2, h3⟩ => ⟨_, h1, h2, h3⟩

theorem toW (ao : Option Addr) (n cap : Nat) (l : List (ByteArray × Int)) (w : World) (hr : WRd w ao n cap l) (hn : n ≤ 1099511627776) :
    Calls Tryz.prog 35 #[.slice ao n cap] w fun e w' => ∃ o, e = .returned (.slice o n n) ∧ WOwn w' w.heap.size o n n l ∧ Below w.heap.size w w' :=
  (to_ltoWantS ao n cap l w hr hn).mono fun e w' ⟨h1, h2, h3⟩ => ⟨_, h1, h2, h3⟩

theorem toI (ao : Option Addr) (n cap : Nat) (l : List Int) (w : World) (hr : IRd w ao n cap l) (hn : n ≤ 1099511627776) :
    Calls Tryz.prog 37 #[.slice ao n cap] w fun e w' => ∃ o, e = .returned (.slice o n n) ∧ IOwn w' w.heap.size o n n l ∧ Below w.heap.size w w' :=
  (to_ltoIntS ao n cap l w hr hn).mono fun e w' ⟨h1, h2, h3⟩ => ⟨_, h1, h2, h3⟩

theorem alloc3 (w : World) (A Z O : Obj) : (((w.alloc A).alloc Z).alloc O).heap[w.heap.size]? = some A ∧ (((w.alloc A).alloc Z).alloc O).heap[w.heap.size + 1]? = some Z ∧ (((w.alloc A).alloc Z).alloc O).heap[w.heap.size + 1 + 1]? = some O := by
  refine ⟨?_, ?_, ?_⟩
  · exact (Below.heap_alloc _ _ _ (by simp; omega)).trans ((Below.heap_alloc _ _ _ (by simp)).trans (heap_alloc_new w A))
  · have e := heap_alloc_new (w.alloc A) Z
    rw [show (w.alloc A).heap.size = w.heap.size + 1 from by simp] at e
    exact (Below.heap_alloc _ _ _ (by simp)).trans e
  · have e := heap_alloc_new ((w.alloc A).alloc Z) O
    rw [show ((w.alloc A).alloc Z).heap.size = w.heap.size + 1 + 1 from by simp] at e
    exact e

theorem grown_of_below0 {w w' : World} {row : Option Nat} (h : Below w.heap.size w w') : w.grownBy w' row := ⟨h.os, h.tape, h.output, h.size, fun q hq _ => h.block q hq⟩
theorem hsc {w : World} {g : Nat} {cs : Array Value} {t : TypeId} {fz : Nat × Nat} (h : w.heap[g]? = some (.cells cs t fz)) (j : Nat) (u : Value) :
    (w.setCell ⟨g, j, none⟩ u).heap[g]? = some (.cells (cs.setIfInBounds j u) t fz) := by
  simp [World.setCell, Array.getElem?_modify, h]
theorem gSet (w : World) (g j : Nat) (u : Value) : w.grownBy (w.setCell ⟨g, j, none⟩ u) (some g) :=
  ⟨rfl, rfl, rfl, by simp [World.setCell], fun q hq hne => Below.heap_setCell _ _ _ q (fun e => hne (by rw [e]))⟩
theorem gRow (w : World) (g : Nat) (cs : Array Value) : w.grownBy (w.setRow g cs) (some g) :=
  ⟨rfl, rfl, rfl, by simp, fun q hq hne => by
    have hne' : g ≠ q := fun e => hne (by rw [e])
    simp [World.setRow, Array.getElem?_modify, hne']⟩
theorem gTrans {a b c : World} {row : Option Nat} (h : a.grownBy b row) (k : b.grownBy c row) : a.grownBy c row :=
  ⟨k.os.trans h.os, k.tape.trans h.tape, k.output.trans h.output, Nat.le_trans h.size k.size, fun q hq hne => (k.block q (Nat.lt_of_lt_of_le hq h.size) hne).trans (h.block q hq hne)⟩
theorem owns_gr {w w' : World} {B : Nat} {t : TypeId} {k : Nat} {v : Value} {n : Nat} {l : List Value} {g : Nat} (h : w.ownsRow B t k v n l) (hg : w.grownBy w' (some g)) (hlt : g < B) : w'.ownsRow B t k v n l := by
  refine ⟨h.1, ?_⟩
  rcases h.2 with hn | ⟨b, c, cur, e, hB, hb, rest⟩
  · exact .inl hn
  · refine .inr ⟨b, c, cur, e, hB, ?_, rest⟩
    rw [hg.block b (Array.getElem?_eq_some_iff.1 hb).1 (fun e => by simp at e; omega)]
    exact hb
theorem owns_mono {w : World} {B B' : Nat} {t : TypeId} {k : Nat} {v : Value} {n : Nat} {l : List Value} (h : w.ownsRow B t k v n l) (hB : B' ≤ B) : w.ownsRow B' t k v n l := by
  refine ⟨h.1, ?_⟩
  rcases h.2 with hn | ⟨b, c, cur, e, hb, rest⟩
  · exact .inl hn
  · exact .inr ⟨b, c, cur, e, by omega, rest⟩
theorem heap_setRow_ne (w : World) (g k : Nat) (cs : Array Value) (h : k ≠ g) : (w.setRow g cs).heap[k]? = w.heap[k]? := by
  simp [World.setRow, Array.getElem?_modify, Ne.symm h]
theorem infoPk : (Tryz.prog.info? 32).map (·.size) = some 25 := by kernel_rfl

/-- Two lists that share no block. -/
def Dis (x y : Option Addr) : Prop := ∀ a b, x = some a → y = some b → a.block ≠ b.block
/-- A packet's lists are its own, each in a block of its own. -/
structure POwn (w : World) (B : Nat) (p : Pk) (d : Pd) : Prop where
  bod : Own w B p.bod.a p.bod.n p.bod.c d.bod
  wb : Own w B p.wb.a p.wb.n p.wb.c d.wb
  pa : Own w B p.pa.a p.pa.n p.pa.c d.pa
  wan : WOwn w B p.wan.a p.wan.n p.wan.c d.wan
  nam : SOwn w B p.nam.a p.nam.n p.nam.c d.nam
  cds : IOwn w B p.cds.a p.cds.n p.cds.c d.cds
  dis : List.Pairwise Dis [p.bod.a, p.wb.a, p.pa.a, p.wan.a, p.nam.a, p.cds.a]
theorem POwn.rd {w : World} {B : Nat} {p : Pk} {d : Pd} (h : POwn w B p d) : PRd w p d := ⟨h.bod.rd, h.wb.rd, h.pa.rd, h.wan.rd, h.nam.rd, h.cds.rd⟩
theorem low_dis {x y : Option Addr} {m k : Nat} (h : ∀ a, x = some a → a.block < m) (hy : ∀ b, y = some b → k ≤ b.block) (hm : m ≤ k) : Dis x y := fun a b ha hb e => by
  have h1 := h a ha
  have h2 := hy b hb
  rw [e] at h1
  omega
set_option maxRecDepth 100000 in
set_option maxHeartbeats 8000000 in
/-- laws.toPacket: the same, in lists of its own. -/
theorem to_ltoPacketO (p : Pk) (d : Pd) (w : World) (hp : PRd w p d) (hl : Plen p 1099511627776) :
    Calls Tryz.prog 8 #[.agg p.cells] w fun e w' => ∃ x : Re, e = .returned (.agg (p.re x).cells) ∧ POwn w' w.heap.size (p.re x) d ∧ Below w.heap.size w w' := by
  obtain ⟨l1, l2, l3, l4, l5, l6⟩ := hl
  have HP : Hid (PRd w p d) := hp
  clear hp
  have ne0 : w.heap.size ≠ w.heap.size + 1 + 1 := by omega
  have ne1 : w.heap.size + 1 ≠ w.heap.size + 1 + 1 := by omega
  unfold Pk.cells
  generalize hcs : (#[.int .i64 p.ty, .bool p.dup, .int .i64 p.qos, .bool p.ret, .int .i64 p.id, .string p.top, .slice p.bod.a p.bod.n p.bod.c, .string p.cli, .int .i64 p.lev, .bool p.cln, .int .i64 p.kee, .bool p.hw, .string p.wt, .slice p.wb.a p.wb.n p.wb.c, .int .i64 p.wq, .bool p.wr, .bool p.hu, .string p.us, .bool p.hp, .slice p.pa.a p.pa.n p.pa.c, .int .i64 p.cod, .bool p.pre, .slice p.wan.a p.wan.n p.wan.c, .slice p.nam.a p.nam.n p.nam.c, .slice p.cds.a p.cds.n p.cds.c] : Array Value) = cs
  generalize hzs : (#[.int .i64 0, .bool false, .int .i64 0, .bool false, .int .i64 0, .string ByteArray.empty, .slice none 0 0, .string ByteArray.empty, .int .i64 0, .bool false, .int .i64 0, .bool false, .string ByteArray.empty, .slice none 0 0, .int .i64 0, .bool false, .bool false, .string ByteArray.empty, .bool false, .slice none 0 0, .int .i64 0, .bool false, .slice none 0 0, .slice none 0 0, .slice none 0 0] : Array Value) = zs
  generalize hos : (#[.int .i64 p.ty, .bool p.dup, .int .i64 p.qos, .bool p.ret, .int .i64 p.id, .string p.top, .slice none 0 0, .string ByteArray.empty, .int .i64 0, .bool false, .int .i64 0, .bool false, .string ByteArray.empty, .slice none 0 0, .int .i64 0, .bool false, .bool false, .string ByteArray.empty, .bool false, .slice none 0 0, .int .i64 0, .bool false, .slice none 0 0, .slice none 0 0, .slice none 0 0] : Array Value) = os
  have hb0 : Below w.heap.size w (((w.alloc (.cells cs 27)).alloc (.cells zs 32)).alloc (.cells os 32)) := (((Below.refl _ _).alloc (Nat.le_refl _) _).alloc (by simp) _).alloc (by simp; omega) _
  have hB0 : Hid (Below w.heap.size w (((w.alloc (.cells cs 27)).alloc (.cells zs 32)).alloc (.cells os 32))) := hb0
  have p1 := HP.out.1.below hb0
  clear hb0
  subst hcs
  subst hzs
  subst hos
  go_enter Tryz.func8, Tryz.ntmps8
  go_wp2_with fail
  refine (toB p.bod.a p.bod.n p.bod.c d.bod _ p1 l1).mono ?_
  rintro e y1 ⟨o1, rfl, ho1, hb1⟩
  obtain ⟨A0, Z0, O0⟩ := alloc3 w (.cells #[.int .i64 p.ty, .bool p.dup, .int .i64 p.qos, .bool p.ret, .int .i64 p.id, .string p.top, .slice p.bod.a p.bod.n p.bod.c, .string p.cli, .int .i64 p.lev, .bool p.cln, .int .i64 p.kee, .bool p.hw, .string p.wt, .slice p.wb.a p.wb.n p.wb.c, .int .i64 p.wq, .bool p.wr, .bool p.hu, .string p.us, .bool p.hp, .slice p.pa.a p.pa.n p.pa.c, .int .i64 p.cod, .bool p.pre, .slice p.wan.a p.wan.n p.wan.c, .slice p.nam.a p.nam.n p.nam.c, .slice p.cds.a p.cds.n p.cds.c] 27) (.cells #[.int .i64 0, .bool false, .int .i64 0, .bool false, .int .i64 0, .string ByteArray.empty, .slice none 0 0, .string ByteArray.empty, .int .i64 0, .bool false, .int .i64 0, .bool false, .string ByteArray.empty, .slice none 0 0, .int .i64 0, .bool false, .bool false, .string ByteArray.empty, .bool false, .slice none 0 0, .int .i64 0, .bool false, .slice none 0 0, .slice none 0 0, .slice none 0 0] 32) (.cells #[.int .i64 p.ty, .bool p.dup, .int .i64 p.qos, .bool p.ret, .int .i64 p.id, .string p.top, .slice none 0 0, .string ByteArray.empty, .int .i64 0, .bool false, .int .i64 0, .bool false, .string ByteArray.empty, .slice none 0 0, .int .i64 0, .bool false, .bool false, .string ByteArray.empty, .bool false, .slice none 0 0, .int .i64 0, .bool false, .slice none 0 0, .slice none 0 0, .slice none 0 0] 32)
  have z1 : w.heap.size + 1 + 1 < y1.heap.size := Nat.lt_of_lt_of_le (by simp) hb1.size
  have HA1 : Hid (y1.heap[w.heap.size]? = some (.cells #[.int .i64 p.ty, .bool p.dup, .int .i64 p.qos, .bool p.ret, .int .i64 p.id, .string p.top, .slice p.bod.a p.bod.n p.bod.c, .string p.cli, .int .i64 p.lev, .bool p.cln, .int .i64 p.kee, .bool p.hw, .string p.wt, .slice p.wb.a p.wb.n p.wb.c, .int .i64 p.wq, .bool p.wr, .bool p.hu, .string p.us, .bool p.hp, .slice p.pa.a p.pa.n p.pa.c, .int .i64 p.cod, .bool p.pre, .slice p.wan.a p.wan.n p.wan.c, .slice p.nam.a p.nam.n p.nam.c, .slice p.cds.a p.cds.n p.cds.c] 27)) := (hb1.block _ (by simp; omega)).trans A0
  have HR1 : Hid (y1.heap[w.heap.size + 1]? = some (.cells #[.int .i64 0, .bool false, .int .i64 0, .bool false, .int .i64 0, .string ByteArray.empty, .slice none 0 0, .string ByteArray.empty, .int .i64 0, .bool false, .int .i64 0, .bool false, .string ByteArray.empty, .slice none 0 0, .int .i64 0, .bool false, .bool false, .string ByteArray.empty, .bool false, .slice none 0 0, .int .i64 0, .bool false, .slice none 0 0, .slice none 0 0, .slice none 0 0] 32)) := (hb1.block _ (by simp)).trans Z0
  have HO1 : Hid (y1.heap[w.heap.size + 1 + 1]? = some (.cells #[.int .i64 p.ty, .bool p.dup, .int .i64 p.qos, .bool p.ret, .int .i64 p.id, .string p.top, .slice none 0 0, .string ByteArray.empty, .int .i64 0, .bool false, .int .i64 0, .bool false, .string ByteArray.empty, .slice none 0 0, .int .i64 0, .bool false, .bool false, .string ByteArray.empty, .bool false, .slice none 0 0, .int .i64 0, .bool false, .slice none 0 0, .slice none 0 0, .slice none 0 0] 32)) := (hb1.block _ (by simp)).trans O0
  have hB1 : Hid (Below w.heap.size w y1) := hB0.out.trans (hb1.mono hB0.out.size)
  have HD1 : Hid (∀ a, o1 = some a → a.block < y1.heap.size) := fun a e => (ho1.2.lt a.block (by subst e; rfl)).2
  have HW1 : Hid (Own y1 (w.heap.size + 1 + 1 + 1) o1 p.bod.n p.bod.n d.bod) := ⟨ho1.1, owns_mono ho1.2 (by simp)⟩
  clear A0 Z0 O0 hB0 ho1 hb1 p1
  have a7 : y1.cell? ⟨w.heap.size, 7, none⟩ = some (.string p.cli) := Lib.cell_of_heap HA1.out 7
  have a8 : y1.cell? ⟨w.heap.size, 8, none⟩ = some (.int .i64 p.lev) := Lib.cell_of_heap HA1.out 8
  have a9 : y1.cell? ⟨w.heap.size, 9, none⟩ = some (.bool p.cln) := Lib.cell_of_heap HA1.out 9
  have a10 : y1.cell? ⟨w.heap.size, 10, none⟩ = some (.int .i64 p.kee) := Lib.cell_of_heap HA1.out 10
  have a11 : y1.cell? ⟨w.heap.size, 11, none⟩ = some (.bool p.hw) := Lib.cell_of_heap HA1.out 11
  have a12 : y1.cell? ⟨w.heap.size, 12, none⟩ = some (.string p.wt) := Lib.cell_of_heap HA1.out 12
  have a13 : y1.cell? ⟨w.heap.size, 13, none⟩ = some (.slice p.wb.a p.wb.n p.wb.c) := Lib.cell_of_heap HA1.out 13
  have b6 : y1.cell? ⟨w.heap.size + 1 + 1, 6, none⟩ = some (.slice none 0 0) := Lib.cell_of_heap HO1.out 6
  have f6 : y1.frozen? ⟨w.heap.size + 1 + 1, 6, none⟩ = false := Lib.frozen_of_heap HO1.out 6
  have b7 : y1.cell? ⟨w.heap.size + 1 + 1, 7, none⟩ = some (.string ByteArray.empty) := Lib.cell_of_heap HO1.out 7
  have f7 : y1.frozen? ⟨w.heap.size + 1 + 1, 7, none⟩ = false := Lib.frozen_of_heap HO1.out 7
  have b8 : y1.cell? ⟨w.heap.size + 1 + 1, 8, none⟩ = some (.int .i64 0) := Lib.cell_of_heap HO1.out 8
  have f8 : y1.frozen? ⟨w.heap.size + 1 + 1, 8, none⟩ = false := Lib.frozen_of_heap HO1.out 8
  have b9 : y1.cell? ⟨w.heap.size + 1 + 1, 9, none⟩ = some (.bool false) := Lib.cell_of_heap HO1.out 9
  have f9 : y1.frozen? ⟨w.heap.size + 1 + 1, 9, none⟩ = false := Lib.frozen_of_heap HO1.out 9
  have b10 : y1.cell? ⟨w.heap.size + 1 + 1, 10, none⟩ = some (.int .i64 0) := Lib.cell_of_heap HO1.out 10
  have f10 : y1.frozen? ⟨w.heap.size + 1 + 1, 10, none⟩ = false := Lib.frozen_of_heap HO1.out 10
  have b11 : y1.cell? ⟨w.heap.size + 1 + 1, 11, none⟩ = some (.bool false) := Lib.cell_of_heap HO1.out 11
  have f11 : y1.frozen? ⟨w.heap.size + 1 + 1, 11, none⟩ = false := Lib.frozen_of_heap HO1.out 11
  have b12 : y1.cell? ⟨w.heap.size + 1 + 1, 12, none⟩ = some (.string ByteArray.empty) := Lib.cell_of_heap HO1.out 12
  have f12 : y1.frozen? ⟨w.heap.size + 1 + 1, 12, none⟩ = false := Lib.frozen_of_heap HO1.out 12
  have p2 := HP.out.2.1.below ((((((((hB1.out).setCell (p := ⟨w.heap.size + 1 + 1, 6, none⟩) (by simp; omega) (.slice o1 p.bod.n p.bod.n)).setCell (p := ⟨w.heap.size + 1 + 1, 7, none⟩) (by simp; omega) (.string p.cli)).setCell (p := ⟨w.heap.size + 1 + 1, 8, none⟩) (by simp; omega) (.int .i64 p.lev)).setCell (p := ⟨w.heap.size + 1 + 1, 9, none⟩) (by simp; omega) (.bool p.cln)).setCell (p := ⟨w.heap.size + 1 + 1, 10, none⟩) (by simp; omega) (.int .i64 p.kee)).setCell (p := ⟨w.heap.size + 1 + 1, 11, none⟩) (by simp; omega) (.bool p.hw)).setCell (p := ⟨w.heap.size + 1 + 1, 12, none⟩) (by simp; omega) (.string p.wt))
  go_wp2_with fail
  refine (toB p.wb.a p.wb.n p.wb.c d.wb _ p2 l2).mono ?_
  rintro e y2 ⟨o2, rfl, ho2, hb2⟩
  have zz : w.heap.size + 1 + 1 < ((((((((y1).setCell ⟨w.heap.size + 1 + 1, 6, none⟩ (.slice o1 p.bod.n p.bod.n)).setCell ⟨w.heap.size + 1 + 1, 7, none⟩ (.string p.cli)).setCell ⟨w.heap.size + 1 + 1, 8, none⟩ (.int .i64 p.lev)).setCell ⟨w.heap.size + 1 + 1, 9, none⟩ (.bool p.cln)).setCell ⟨w.heap.size + 1 + 1, 10, none⟩ (.int .i64 p.kee)).setCell ⟨w.heap.size + 1 + 1, 11, none⟩ (.bool p.hw)).setCell ⟨w.heap.size + 1 + 1, 12, none⟩ (.string p.wt)).heap.size := by simpa using z1
  have z2 : w.heap.size + 1 + 1 < y2.heap.size := Nat.lt_of_lt_of_le zz hb2.size
  have HA2 : Hid (y2.heap[w.heap.size]? = some (.cells #[.int .i64 p.ty, .bool p.dup, .int .i64 p.qos, .bool p.ret, .int .i64 p.id, .string p.top, .slice p.bod.a p.bod.n p.bod.c, .string p.cli, .int .i64 p.lev, .bool p.cln, .int .i64 p.kee, .bool p.hw, .string p.wt, .slice p.wb.a p.wb.n p.wb.c, .int .i64 p.wq, .bool p.wr, .bool p.hu, .string p.us, .bool p.hp, .slice p.pa.a p.pa.n p.pa.c, .int .i64 p.cod, .bool p.pre, .slice p.wan.a p.wan.n p.wan.c, .slice p.nam.a p.nam.n p.nam.c, .slice p.cds.a p.cds.n p.cds.c] 27)) := (hb2.block _ (Nat.lt_trans (by omega) zz)).trans ((Below.heap_setCell _ _ _ _ ne0).trans ((Below.heap_setCell _ _ _ _ ne0).trans ((Below.heap_setCell _ _ _ _ ne0).trans ((Below.heap_setCell _ _ _ _ ne0).trans ((Below.heap_setCell _ _ _ _ ne0).trans ((Below.heap_setCell _ _ _ _ ne0).trans ((Below.heap_setCell _ _ _ _ ne0).trans (HA1.out))))))))
  have HR2 : Hid (y2.heap[w.heap.size + 1]? = some (.cells #[.int .i64 0, .bool false, .int .i64 0, .bool false, .int .i64 0, .string ByteArray.empty, .slice none 0 0, .string ByteArray.empty, .int .i64 0, .bool false, .int .i64 0, .bool false, .string ByteArray.empty, .slice none 0 0, .int .i64 0, .bool false, .bool false, .string ByteArray.empty, .bool false, .slice none 0 0, .int .i64 0, .bool false, .slice none 0 0, .slice none 0 0, .slice none 0 0] 32)) := (hb2.block _ (Nat.lt_trans (by omega) zz)).trans ((Below.heap_setCell _ _ _ _ ne1).trans ((Below.heap_setCell _ _ _ _ ne1).trans ((Below.heap_setCell _ _ _ _ ne1).trans ((Below.heap_setCell _ _ _ _ ne1).trans ((Below.heap_setCell _ _ _ _ ne1).trans ((Below.heap_setCell _ _ _ _ ne1).trans ((Below.heap_setCell _ _ _ _ ne1).trans (HR1.out))))))))
  have HO2 : Hid (y2.heap[w.heap.size + 1 + 1]? = some (.cells #[.int .i64 p.ty, .bool p.dup, .int .i64 p.qos, .bool p.ret, .int .i64 p.id, .string p.top, .slice o1 p.bod.n p.bod.n, .string p.cli, .int .i64 p.lev, .bool p.cln, .int .i64 p.kee, .bool p.hw, .string p.wt, .slice none 0 0, .int .i64 0, .bool false, .bool false, .string ByteArray.empty, .bool false, .slice none 0 0, .int .i64 0, .bool false, .slice none 0 0, .slice none 0 0, .slice none 0 0] 32)) := (hb2.block _ zz).trans (hsc (hsc (hsc (hsc (hsc (hsc (hsc (HO1.out) 6 (.slice o1 p.bod.n p.bod.n)) 7 (.string p.cli)) 8 (.int .i64 p.lev)) 9 (.bool p.cln)) 10 (.int .i64 p.kee)) 11 (.bool p.hw)) 12 (.string p.wt))
  have hB2 : Hid (Below w.heap.size w y2) := ((((((((hB1.out).setCell (p := ⟨w.heap.size + 1 + 1, 6, none⟩) (by simp; omega) (.slice o1 p.bod.n p.bod.n)).setCell (p := ⟨w.heap.size + 1 + 1, 7, none⟩) (by simp; omega) (.string p.cli)).setCell (p := ⟨w.heap.size + 1 + 1, 8, none⟩) (by simp; omega) (.int .i64 p.lev)).setCell (p := ⟨w.heap.size + 1 + 1, 9, none⟩) (by simp; omega) (.bool p.cln)).setCell (p := ⟨w.heap.size + 1 + 1, 10, none⟩) (by simp; omega) (.int .i64 p.kee)).setCell (p := ⟨w.heap.size + 1 + 1, 11, none⟩) (by simp; omega) (.bool p.hw)).setCell (p := ⟨w.heap.size + 1 + 1, 12, none⟩) (by simp; omega) (.string p.wt)).trans (hb2.mono (Nat.le_trans (by omega) (Nat.le_of_lt zz)))
  have G2 : Hid (y1.grownBy y2 (some (w.heap.size + 1 + 1))) := gTrans (gTrans (gTrans (gTrans (gTrans (gTrans (gTrans (gSet (y1) (w.heap.size + 1 + 1) 6 (.slice o1 p.bod.n p.bod.n)) (gSet ((y1).setCell ⟨w.heap.size + 1 + 1, 6, none⟩ (.slice o1 p.bod.n p.bod.n)) (w.heap.size + 1 + 1) 7 (.string p.cli))) (gSet (((y1).setCell ⟨w.heap.size + 1 + 1, 6, none⟩ (.slice o1 p.bod.n p.bod.n)).setCell ⟨w.heap.size + 1 + 1, 7, none⟩ (.string p.cli)) (w.heap.size + 1 + 1) 8 (.int .i64 p.lev))) (gSet ((((y1).setCell ⟨w.heap.size + 1 + 1, 6, none⟩ (.slice o1 p.bod.n p.bod.n)).setCell ⟨w.heap.size + 1 + 1, 7, none⟩ (.string p.cli)).setCell ⟨w.heap.size + 1 + 1, 8, none⟩ (.int .i64 p.lev)) (w.heap.size + 1 + 1) 9 (.bool p.cln))) (gSet (((((y1).setCell ⟨w.heap.size + 1 + 1, 6, none⟩ (.slice o1 p.bod.n p.bod.n)).setCell ⟨w.heap.size + 1 + 1, 7, none⟩ (.string p.cli)).setCell ⟨w.heap.size + 1 + 1, 8, none⟩ (.int .i64 p.lev)).setCell ⟨w.heap.size + 1 + 1, 9, none⟩ (.bool p.cln)) (w.heap.size + 1 + 1) 10 (.int .i64 p.kee))) (gSet ((((((y1).setCell ⟨w.heap.size + 1 + 1, 6, none⟩ (.slice o1 p.bod.n p.bod.n)).setCell ⟨w.heap.size + 1 + 1, 7, none⟩ (.string p.cli)).setCell ⟨w.heap.size + 1 + 1, 8, none⟩ (.int .i64 p.lev)).setCell ⟨w.heap.size + 1 + 1, 9, none⟩ (.bool p.cln)).setCell ⟨w.heap.size + 1 + 1, 10, none⟩ (.int .i64 p.kee)) (w.heap.size + 1 + 1) 11 (.bool p.hw))) (gSet (((((((y1).setCell ⟨w.heap.size + 1 + 1, 6, none⟩ (.slice o1 p.bod.n p.bod.n)).setCell ⟨w.heap.size + 1 + 1, 7, none⟩ (.string p.cli)).setCell ⟨w.heap.size + 1 + 1, 8, none⟩ (.int .i64 p.lev)).setCell ⟨w.heap.size + 1 + 1, 9, none⟩ (.bool p.cln)).setCell ⟨w.heap.size + 1 + 1, 10, none⟩ (.int .i64 p.kee)).setCell ⟨w.heap.size + 1 + 1, 11, none⟩ (.bool p.hw)) (w.heap.size + 1 + 1) 12 (.string p.wt))) (grown_of_below0 hb2)
  have HD2 : Hid (∀ a, o2 = some a → a.block < y2.heap.size) := fun a e => (ho2.2.lt a.block (by subst e; rfl)).2
  have HE2 : Hid (∀ a, o2 = some a → y1.heap.size ≤ a.block) := fun a e => by have := (ho2.2.lt a.block (by subst e; rfl)).1; simpa using this
  have HW2 : Hid (Own y2 (w.heap.size + 1 + 1 + 1) o2 p.wb.n p.wb.n d.wb) := ⟨ho2.1, owns_mono ho2.2 zz⟩
  clear HA1 HR1 HO1 hB1 z1 zz ho2 hb2 p2 a7 a8 a9 a10 a11 a12 a13 b6 f6 b7 f7 b8 f8 b9 f9 b10 f10 b11 f11 b12 f12
  have a14 : y2.cell? ⟨w.heap.size, 14, none⟩ = some (.int .i64 p.wq) := Lib.cell_of_heap HA2.out 14
  have a15 : y2.cell? ⟨w.heap.size, 15, none⟩ = some (.bool p.wr) := Lib.cell_of_heap HA2.out 15
  have a16 : y2.cell? ⟨w.heap.size, 16, none⟩ = some (.bool p.hu) := Lib.cell_of_heap HA2.out 16
  have a17 : y2.cell? ⟨w.heap.size, 17, none⟩ = some (.string p.us) := Lib.cell_of_heap HA2.out 17
  have a18 : y2.cell? ⟨w.heap.size, 18, none⟩ = some (.bool p.hp) := Lib.cell_of_heap HA2.out 18
  have a19 : y2.cell? ⟨w.heap.size, 19, none⟩ = some (.slice p.pa.a p.pa.n p.pa.c) := Lib.cell_of_heap HA2.out 19
  have b13 : y2.cell? ⟨w.heap.size + 1 + 1, 13, none⟩ = some (.slice none 0 0) := Lib.cell_of_heap HO2.out 13
  have f13 : y2.frozen? ⟨w.heap.size + 1 + 1, 13, none⟩ = false := Lib.frozen_of_heap HO2.out 13
  have b14 : y2.cell? ⟨w.heap.size + 1 + 1, 14, none⟩ = some (.int .i64 0) := Lib.cell_of_heap HO2.out 14
  have f14 : y2.frozen? ⟨w.heap.size + 1 + 1, 14, none⟩ = false := Lib.frozen_of_heap HO2.out 14
  have b15 : y2.cell? ⟨w.heap.size + 1 + 1, 15, none⟩ = some (.bool false) := Lib.cell_of_heap HO2.out 15
  have f15 : y2.frozen? ⟨w.heap.size + 1 + 1, 15, none⟩ = false := Lib.frozen_of_heap HO2.out 15
  have b16 : y2.cell? ⟨w.heap.size + 1 + 1, 16, none⟩ = some (.bool false) := Lib.cell_of_heap HO2.out 16
  have f16 : y2.frozen? ⟨w.heap.size + 1 + 1, 16, none⟩ = false := Lib.frozen_of_heap HO2.out 16
  have b17 : y2.cell? ⟨w.heap.size + 1 + 1, 17, none⟩ = some (.string ByteArray.empty) := Lib.cell_of_heap HO2.out 17
  have f17 : y2.frozen? ⟨w.heap.size + 1 + 1, 17, none⟩ = false := Lib.frozen_of_heap HO2.out 17
  have b18 : y2.cell? ⟨w.heap.size + 1 + 1, 18, none⟩ = some (.bool false) := Lib.cell_of_heap HO2.out 18
  have f18 : y2.frozen? ⟨w.heap.size + 1 + 1, 18, none⟩ = false := Lib.frozen_of_heap HO2.out 18
  have p3 := HP.out.2.2.1.below (((((((hB2.out).setCell (p := ⟨w.heap.size + 1 + 1, 13, none⟩) (by simp; omega) (.slice o2 p.wb.n p.wb.n)).setCell (p := ⟨w.heap.size + 1 + 1, 14, none⟩) (by simp; omega) (.int .i64 p.wq)).setCell (p := ⟨w.heap.size + 1 + 1, 15, none⟩) (by simp; omega) (.bool p.wr)).setCell (p := ⟨w.heap.size + 1 + 1, 16, none⟩) (by simp; omega) (.bool p.hu)).setCell (p := ⟨w.heap.size + 1 + 1, 17, none⟩) (by simp; omega) (.string p.us)).setCell (p := ⟨w.heap.size + 1 + 1, 18, none⟩) (by simp; omega) (.bool p.hp))
  go_wp2_with fail
  refine (toB p.pa.a p.pa.n p.pa.c d.pa _ p3 l3).mono ?_
  rintro e y3 ⟨o3, rfl, ho3, hb3⟩
  have zz : w.heap.size + 1 + 1 < (((((((y2).setCell ⟨w.heap.size + 1 + 1, 13, none⟩ (.slice o2 p.wb.n p.wb.n)).setCell ⟨w.heap.size + 1 + 1, 14, none⟩ (.int .i64 p.wq)).setCell ⟨w.heap.size + 1 + 1, 15, none⟩ (.bool p.wr)).setCell ⟨w.heap.size + 1 + 1, 16, none⟩ (.bool p.hu)).setCell ⟨w.heap.size + 1 + 1, 17, none⟩ (.string p.us)).setCell ⟨w.heap.size + 1 + 1, 18, none⟩ (.bool p.hp)).heap.size := by simpa using z2
  have z3 : w.heap.size + 1 + 1 < y3.heap.size := Nat.lt_of_lt_of_le zz hb3.size
  have HA3 : Hid (y3.heap[w.heap.size]? = some (.cells #[.int .i64 p.ty, .bool p.dup, .int .i64 p.qos, .bool p.ret, .int .i64 p.id, .string p.top, .slice p.bod.a p.bod.n p.bod.c, .string p.cli, .int .i64 p.lev, .bool p.cln, .int .i64 p.kee, .bool p.hw, .string p.wt, .slice p.wb.a p.wb.n p.wb.c, .int .i64 p.wq, .bool p.wr, .bool p.hu, .string p.us, .bool p.hp, .slice p.pa.a p.pa.n p.pa.c, .int .i64 p.cod, .bool p.pre, .slice p.wan.a p.wan.n p.wan.c, .slice p.nam.a p.nam.n p.nam.c, .slice p.cds.a p.cds.n p.cds.c] 27)) := (hb3.block _ (Nat.lt_trans (by omega) zz)).trans ((Below.heap_setCell _ _ _ _ ne0).trans ((Below.heap_setCell _ _ _ _ ne0).trans ((Below.heap_setCell _ _ _ _ ne0).trans ((Below.heap_setCell _ _ _ _ ne0).trans ((Below.heap_setCell _ _ _ _ ne0).trans ((Below.heap_setCell _ _ _ _ ne0).trans (HA2.out)))))))
  have HR3 : Hid (y3.heap[w.heap.size + 1]? = some (.cells #[.int .i64 0, .bool false, .int .i64 0, .bool false, .int .i64 0, .string ByteArray.empty, .slice none 0 0, .string ByteArray.empty, .int .i64 0, .bool false, .int .i64 0, .bool false, .string ByteArray.empty, .slice none 0 0, .int .i64 0, .bool false, .bool false, .string ByteArray.empty, .bool false, .slice none 0 0, .int .i64 0, .bool false, .slice none 0 0, .slice none 0 0, .slice none 0 0] 32)) := (hb3.block _ (Nat.lt_trans (by omega) zz)).trans ((Below.heap_setCell _ _ _ _ ne1).trans ((Below.heap_setCell _ _ _ _ ne1).trans ((Below.heap_setCell _ _ _ _ ne1).trans ((Below.heap_setCell _ _ _ _ ne1).trans ((Below.heap_setCell _ _ _ _ ne1).trans ((Below.heap_setCell _ _ _ _ ne1).trans (HR2.out)))))))
  have HO3 : Hid (y3.heap[w.heap.size + 1 + 1]? = some (.cells #[.int .i64 p.ty, .bool p.dup, .int .i64 p.qos, .bool p.ret, .int .i64 p.id, .string p.top, .slice o1 p.bod.n p.bod.n, .string p.cli, .int .i64 p.lev, .bool p.cln, .int .i64 p.kee, .bool p.hw, .string p.wt, .slice o2 p.wb.n p.wb.n, .int .i64 p.wq, .bool p.wr, .bool p.hu, .string p.us, .bool p.hp, .slice none 0 0, .int .i64 0, .bool false, .slice none 0 0, .slice none 0 0, .slice none 0 0] 32)) := (hb3.block _ zz).trans (hsc (hsc (hsc (hsc (hsc (hsc (HO2.out) 13 (.slice o2 p.wb.n p.wb.n)) 14 (.int .i64 p.wq)) 15 (.bool p.wr)) 16 (.bool p.hu)) 17 (.string p.us)) 18 (.bool p.hp))
  have hB3 : Hid (Below w.heap.size w y3) := (((((((hB2.out).setCell (p := ⟨w.heap.size + 1 + 1, 13, none⟩) (by simp; omega) (.slice o2 p.wb.n p.wb.n)).setCell (p := ⟨w.heap.size + 1 + 1, 14, none⟩) (by simp; omega) (.int .i64 p.wq)).setCell (p := ⟨w.heap.size + 1 + 1, 15, none⟩) (by simp; omega) (.bool p.wr)).setCell (p := ⟨w.heap.size + 1 + 1, 16, none⟩) (by simp; omega) (.bool p.hu)).setCell (p := ⟨w.heap.size + 1 + 1, 17, none⟩) (by simp; omega) (.string p.us)).setCell (p := ⟨w.heap.size + 1 + 1, 18, none⟩) (by simp; omega) (.bool p.hp)).trans (hb3.mono (Nat.le_trans (by omega) (Nat.le_of_lt zz)))
  have G3 : Hid (y2.grownBy y3 (some (w.heap.size + 1 + 1))) := gTrans (gTrans (gTrans (gTrans (gTrans (gTrans (gSet (y2) (w.heap.size + 1 + 1) 13 (.slice o2 p.wb.n p.wb.n)) (gSet ((y2).setCell ⟨w.heap.size + 1 + 1, 13, none⟩ (.slice o2 p.wb.n p.wb.n)) (w.heap.size + 1 + 1) 14 (.int .i64 p.wq))) (gSet (((y2).setCell ⟨w.heap.size + 1 + 1, 13, none⟩ (.slice o2 p.wb.n p.wb.n)).setCell ⟨w.heap.size + 1 + 1, 14, none⟩ (.int .i64 p.wq)) (w.heap.size + 1 + 1) 15 (.bool p.wr))) (gSet ((((y2).setCell ⟨w.heap.size + 1 + 1, 13, none⟩ (.slice o2 p.wb.n p.wb.n)).setCell ⟨w.heap.size + 1 + 1, 14, none⟩ (.int .i64 p.wq)).setCell ⟨w.heap.size + 1 + 1, 15, none⟩ (.bool p.wr)) (w.heap.size + 1 + 1) 16 (.bool p.hu))) (gSet (((((y2).setCell ⟨w.heap.size + 1 + 1, 13, none⟩ (.slice o2 p.wb.n p.wb.n)).setCell ⟨w.heap.size + 1 + 1, 14, none⟩ (.int .i64 p.wq)).setCell ⟨w.heap.size + 1 + 1, 15, none⟩ (.bool p.wr)).setCell ⟨w.heap.size + 1 + 1, 16, none⟩ (.bool p.hu)) (w.heap.size + 1 + 1) 17 (.string p.us))) (gSet ((((((y2).setCell ⟨w.heap.size + 1 + 1, 13, none⟩ (.slice o2 p.wb.n p.wb.n)).setCell ⟨w.heap.size + 1 + 1, 14, none⟩ (.int .i64 p.wq)).setCell ⟨w.heap.size + 1 + 1, 15, none⟩ (.bool p.wr)).setCell ⟨w.heap.size + 1 + 1, 16, none⟩ (.bool p.hu)).setCell ⟨w.heap.size + 1 + 1, 17, none⟩ (.string p.us)) (w.heap.size + 1 + 1) 18 (.bool p.hp))) (grown_of_below0 hb3)
  have HD3 : Hid (∀ a, o3 = some a → a.block < y3.heap.size) := fun a e => (ho3.2.lt a.block (by subst e; rfl)).2
  have HE3 : Hid (∀ a, o3 = some a → y2.heap.size ≤ a.block) := fun a e => by have := (ho3.2.lt a.block (by subst e; rfl)).1; simpa using this
  have HW3 : Hid (Own y3 (w.heap.size + 1 + 1 + 1) o3 p.pa.n p.pa.n d.pa) := ⟨ho3.1, owns_mono ho3.2 zz⟩
  clear HA2 HR2 HO2 hB2 z2 zz ho3 hb3 p3 a14 a15 a16 a17 a18 a19 b13 f13 b14 f14 b15 f15 b16 f16 b17 f17 b18 f18
  have a20 : y3.cell? ⟨w.heap.size, 20, none⟩ = some (.int .i64 p.cod) := Lib.cell_of_heap HA3.out 20
  have a21 : y3.cell? ⟨w.heap.size, 21, none⟩ = some (.bool p.pre) := Lib.cell_of_heap HA3.out 21
  have a22 : y3.cell? ⟨w.heap.size, 22, none⟩ = some (.slice p.wan.a p.wan.n p.wan.c) := Lib.cell_of_heap HA3.out 22
  have b19 : y3.cell? ⟨w.heap.size + 1 + 1, 19, none⟩ = some (.slice none 0 0) := Lib.cell_of_heap HO3.out 19
  have f19 : y3.frozen? ⟨w.heap.size + 1 + 1, 19, none⟩ = false := Lib.frozen_of_heap HO3.out 19
  have b20 : y3.cell? ⟨w.heap.size + 1 + 1, 20, none⟩ = some (.int .i64 0) := Lib.cell_of_heap HO3.out 20
  have f20 : y3.frozen? ⟨w.heap.size + 1 + 1, 20, none⟩ = false := Lib.frozen_of_heap HO3.out 20
  have b21 : y3.cell? ⟨w.heap.size + 1 + 1, 21, none⟩ = some (.bool false) := Lib.cell_of_heap HO3.out 21
  have f21 : y3.frozen? ⟨w.heap.size + 1 + 1, 21, none⟩ = false := Lib.frozen_of_heap HO3.out 21
  have p4 := HP.out.2.2.2.1.below ((((hB3.out).setCell (p := ⟨w.heap.size + 1 + 1, 19, none⟩) (by simp; omega) (.slice o3 p.pa.n p.pa.n)).setCell (p := ⟨w.heap.size + 1 + 1, 20, none⟩) (by simp; omega) (.int .i64 p.cod)).setCell (p := ⟨w.heap.size + 1 + 1, 21, none⟩) (by simp; omega) (.bool p.pre))
  go_wp2_with fail
  refine (toW p.wan.a p.wan.n p.wan.c d.wan _ p4 l4).mono ?_
  rintro e y4 ⟨o4, rfl, ho4, hb4⟩
  have zz : w.heap.size + 1 + 1 < ((((y3).setCell ⟨w.heap.size + 1 + 1, 19, none⟩ (.slice o3 p.pa.n p.pa.n)).setCell ⟨w.heap.size + 1 + 1, 20, none⟩ (.int .i64 p.cod)).setCell ⟨w.heap.size + 1 + 1, 21, none⟩ (.bool p.pre)).heap.size := by simpa using z3
  have z4 : w.heap.size + 1 + 1 < y4.heap.size := Nat.lt_of_lt_of_le zz hb4.size
  have HA4 : Hid (y4.heap[w.heap.size]? = some (.cells #[.int .i64 p.ty, .bool p.dup, .int .i64 p.qos, .bool p.ret, .int .i64 p.id, .string p.top, .slice p.bod.a p.bod.n p.bod.c, .string p.cli, .int .i64 p.lev, .bool p.cln, .int .i64 p.kee, .bool p.hw, .string p.wt, .slice p.wb.a p.wb.n p.wb.c, .int .i64 p.wq, .bool p.wr, .bool p.hu, .string p.us, .bool p.hp, .slice p.pa.a p.pa.n p.pa.c, .int .i64 p.cod, .bool p.pre, .slice p.wan.a p.wan.n p.wan.c, .slice p.nam.a p.nam.n p.nam.c, .slice p.cds.a p.cds.n p.cds.c] 27)) := (hb4.block _ (Nat.lt_trans (by omega) zz)).trans ((Below.heap_setCell _ _ _ _ ne0).trans ((Below.heap_setCell _ _ _ _ ne0).trans ((Below.heap_setCell _ _ _ _ ne0).trans (HA3.out))))
  have HR4 : Hid (y4.heap[w.heap.size + 1]? = some (.cells #[.int .i64 0, .bool false, .int .i64 0, .bool false, .int .i64 0, .string ByteArray.empty, .slice none 0 0, .string ByteArray.empty, .int .i64 0, .bool false, .int .i64 0, .bool false, .string ByteArray.empty, .slice none 0 0, .int .i64 0, .bool false, .bool false, .string ByteArray.empty, .bool false, .slice none 0 0, .int .i64 0, .bool false, .slice none 0 0, .slice none 0 0, .slice none 0 0] 32)) := (hb4.block _ (Nat.lt_trans (by omega) zz)).trans ((Below.heap_setCell _ _ _ _ ne1).trans ((Below.heap_setCell _ _ _ _ ne1).trans ((Below.heap_setCell _ _ _ _ ne1).trans (HR3.out))))
  have HO4 : Hid (y4.heap[w.heap.size + 1 + 1]? = some (.cells #[.int .i64 p.ty, .bool p.dup, .int .i64 p.qos, .bool p.ret, .int .i64 p.id, .string p.top, .slice o1 p.bod.n p.bod.n, .string p.cli, .int .i64 p.lev, .bool p.cln, .int .i64 p.kee, .bool p.hw, .string p.wt, .slice o2 p.wb.n p.wb.n, .int .i64 p.wq, .bool p.wr, .bool p.hu, .string p.us, .bool p.hp, .slice o3 p.pa.n p.pa.n, .int .i64 p.cod, .bool p.pre, .slice none 0 0, .slice none 0 0, .slice none 0 0] 32)) := (hb4.block _ zz).trans (hsc (hsc (hsc (HO3.out) 19 (.slice o3 p.pa.n p.pa.n)) 20 (.int .i64 p.cod)) 21 (.bool p.pre))
  have hB4 : Hid (Below w.heap.size w y4) := ((((hB3.out).setCell (p := ⟨w.heap.size + 1 + 1, 19, none⟩) (by simp; omega) (.slice o3 p.pa.n p.pa.n)).setCell (p := ⟨w.heap.size + 1 + 1, 20, none⟩) (by simp; omega) (.int .i64 p.cod)).setCell (p := ⟨w.heap.size + 1 + 1, 21, none⟩) (by simp; omega) (.bool p.pre)).trans (hb4.mono (Nat.le_trans (by omega) (Nat.le_of_lt zz)))
  have G4 : Hid (y3.grownBy y4 (some (w.heap.size + 1 + 1))) := gTrans (gTrans (gTrans (gSet (y3) (w.heap.size + 1 + 1) 19 (.slice o3 p.pa.n p.pa.n)) (gSet ((y3).setCell ⟨w.heap.size + 1 + 1, 19, none⟩ (.slice o3 p.pa.n p.pa.n)) (w.heap.size + 1 + 1) 20 (.int .i64 p.cod))) (gSet (((y3).setCell ⟨w.heap.size + 1 + 1, 19, none⟩ (.slice o3 p.pa.n p.pa.n)).setCell ⟨w.heap.size + 1 + 1, 20, none⟩ (.int .i64 p.cod)) (w.heap.size + 1 + 1) 21 (.bool p.pre))) (grown_of_below0 hb4)
  have HD4 : Hid (∀ a, o4 = some a → a.block < y4.heap.size) := fun a e => (ho4.2.lt a.block (by subst e; rfl)).2
  have HE4 : Hid (∀ a, o4 = some a → y3.heap.size ≤ a.block) := fun a e => by have := (ho4.2.lt a.block (by subst e; rfl)).1; simpa using this
  have HW4 : Hid (WOwn y4 (w.heap.size + 1 + 1 + 1) o4 p.wan.n p.wan.n d.wan) := ⟨ho4.1, owns_mono ho4.2 zz⟩
  clear HA3 HR3 HO3 hB3 z3 zz ho4 hb4 p4 a20 a21 a22 b19 f19 b20 f20 b21 f21
  have a23 : y4.cell? ⟨w.heap.size, 23, none⟩ = some (.slice p.nam.a p.nam.n p.nam.c) := Lib.cell_of_heap HA4.out 23
  have b22 : y4.cell? ⟨w.heap.size + 1 + 1, 22, none⟩ = some (.slice none 0 0) := Lib.cell_of_heap HO4.out 22
  have f22 : y4.frozen? ⟨w.heap.size + 1 + 1, 22, none⟩ = false := Lib.frozen_of_heap HO4.out 22
  have p5 := HP.out.2.2.2.2.1.below ((hB4.out).setCell (p := ⟨w.heap.size + 1 + 1, 22, none⟩) (by simp; omega) (.slice o4 p.wan.n p.wan.n))
  go_wp2_with fail
  refine (toS p.nam.a p.nam.n p.nam.c d.nam _ p5 l5).mono ?_
  rintro e y5 ⟨o5, rfl, ho5, hb5⟩
  have zz : w.heap.size + 1 + 1 < ((y4).setCell ⟨w.heap.size + 1 + 1, 22, none⟩ (.slice o4 p.wan.n p.wan.n)).heap.size := by simpa using z4
  have z5 : w.heap.size + 1 + 1 < y5.heap.size := Nat.lt_of_lt_of_le zz hb5.size
  have HA5 : Hid (y5.heap[w.heap.size]? = some (.cells #[.int .i64 p.ty, .bool p.dup, .int .i64 p.qos, .bool p.ret, .int .i64 p.id, .string p.top, .slice p.bod.a p.bod.n p.bod.c, .string p.cli, .int .i64 p.lev, .bool p.cln, .int .i64 p.kee, .bool p.hw, .string p.wt, .slice p.wb.a p.wb.n p.wb.c, .int .i64 p.wq, .bool p.wr, .bool p.hu, .string p.us, .bool p.hp, .slice p.pa.a p.pa.n p.pa.c, .int .i64 p.cod, .bool p.pre, .slice p.wan.a p.wan.n p.wan.c, .slice p.nam.a p.nam.n p.nam.c, .slice p.cds.a p.cds.n p.cds.c] 27)) := (hb5.block _ (Nat.lt_trans (by omega) zz)).trans ((Below.heap_setCell _ _ _ _ ne0).trans (HA4.out))
  have HR5 : Hid (y5.heap[w.heap.size + 1]? = some (.cells #[.int .i64 0, .bool false, .int .i64 0, .bool false, .int .i64 0, .string ByteArray.empty, .slice none 0 0, .string ByteArray.empty, .int .i64 0, .bool false, .int .i64 0, .bool false, .string ByteArray.empty, .slice none 0 0, .int .i64 0, .bool false, .bool false, .string ByteArray.empty, .bool false, .slice none 0 0, .int .i64 0, .bool false, .slice none 0 0, .slice none 0 0, .slice none 0 0] 32)) := (hb5.block _ (Nat.lt_trans (by omega) zz)).trans ((Below.heap_setCell _ _ _ _ ne1).trans (HR4.out))
  have HO5 : Hid (y5.heap[w.heap.size + 1 + 1]? = some (.cells #[.int .i64 p.ty, .bool p.dup, .int .i64 p.qos, .bool p.ret, .int .i64 p.id, .string p.top, .slice o1 p.bod.n p.bod.n, .string p.cli, .int .i64 p.lev, .bool p.cln, .int .i64 p.kee, .bool p.hw, .string p.wt, .slice o2 p.wb.n p.wb.n, .int .i64 p.wq, .bool p.wr, .bool p.hu, .string p.us, .bool p.hp, .slice o3 p.pa.n p.pa.n, .int .i64 p.cod, .bool p.pre, .slice o4 p.wan.n p.wan.n, .slice none 0 0, .slice none 0 0] 32)) := (hb5.block _ zz).trans (hsc (HO4.out) 22 (.slice o4 p.wan.n p.wan.n))
  have hB5 : Hid (Below w.heap.size w y5) := ((hB4.out).setCell (p := ⟨w.heap.size + 1 + 1, 22, none⟩) (by simp; omega) (.slice o4 p.wan.n p.wan.n)).trans (hb5.mono (Nat.le_trans (by omega) (Nat.le_of_lt zz)))
  have G5 : Hid (y4.grownBy y5 (some (w.heap.size + 1 + 1))) := gTrans (gSet (y4) (w.heap.size + 1 + 1) 22 (.slice o4 p.wan.n p.wan.n)) (grown_of_below0 hb5)
  have HD5 : Hid (∀ a, o5 = some a → a.block < y5.heap.size) := fun a e => (ho5.2.lt a.block (by subst e; rfl)).2
  have HE5 : Hid (∀ a, o5 = some a → y4.heap.size ≤ a.block) := fun a e => by have := (ho5.2.lt a.block (by subst e; rfl)).1; simpa using this
  have HW5 : Hid (SOwn y5 (w.heap.size + 1 + 1 + 1) o5 p.nam.n p.nam.n d.nam) := ⟨ho5.1, owns_mono ho5.2 zz⟩
  clear HA4 HR4 HO4 hB4 z4 zz ho5 hb5 p5 a23 b22 f22
  have a24 : y5.cell? ⟨w.heap.size, 24, none⟩ = some (.slice p.cds.a p.cds.n p.cds.c) := Lib.cell_of_heap HA5.out 24
  have b23 : y5.cell? ⟨w.heap.size + 1 + 1, 23, none⟩ = some (.slice none 0 0) := Lib.cell_of_heap HO5.out 23
  have f23 : y5.frozen? ⟨w.heap.size + 1 + 1, 23, none⟩ = false := Lib.frozen_of_heap HO5.out 23
  have p6 := HP.out.2.2.2.2.2.below ((hB5.out).setCell (p := ⟨w.heap.size + 1 + 1, 23, none⟩) (by simp; omega) (.slice o5 p.nam.n p.nam.n))
  go_wp2_with fail
  refine (toI p.cds.a p.cds.n p.cds.c d.cds _ p6 l6).mono ?_
  rintro e y6 ⟨o6, rfl, ho6, hb6⟩
  have zz : w.heap.size + 1 + 1 < ((y5).setCell ⟨w.heap.size + 1 + 1, 23, none⟩ (.slice o5 p.nam.n p.nam.n)).heap.size := by simpa using z5
  have z6 : w.heap.size + 1 + 1 < y6.heap.size := Nat.lt_of_lt_of_le zz hb6.size
  have HA6 : Hid (y6.heap[w.heap.size]? = some (.cells #[.int .i64 p.ty, .bool p.dup, .int .i64 p.qos, .bool p.ret, .int .i64 p.id, .string p.top, .slice p.bod.a p.bod.n p.bod.c, .string p.cli, .int .i64 p.lev, .bool p.cln, .int .i64 p.kee, .bool p.hw, .string p.wt, .slice p.wb.a p.wb.n p.wb.c, .int .i64 p.wq, .bool p.wr, .bool p.hu, .string p.us, .bool p.hp, .slice p.pa.a p.pa.n p.pa.c, .int .i64 p.cod, .bool p.pre, .slice p.wan.a p.wan.n p.wan.c, .slice p.nam.a p.nam.n p.nam.c, .slice p.cds.a p.cds.n p.cds.c] 27)) := (hb6.block _ (Nat.lt_trans (by omega) zz)).trans ((Below.heap_setCell _ _ _ _ ne0).trans (HA5.out))
  have HR6 : Hid (y6.heap[w.heap.size + 1]? = some (.cells #[.int .i64 0, .bool false, .int .i64 0, .bool false, .int .i64 0, .string ByteArray.empty, .slice none 0 0, .string ByteArray.empty, .int .i64 0, .bool false, .int .i64 0, .bool false, .string ByteArray.empty, .slice none 0 0, .int .i64 0, .bool false, .bool false, .string ByteArray.empty, .bool false, .slice none 0 0, .int .i64 0, .bool false, .slice none 0 0, .slice none 0 0, .slice none 0 0] 32)) := (hb6.block _ (Nat.lt_trans (by omega) zz)).trans ((Below.heap_setCell _ _ _ _ ne1).trans (HR5.out))
  have HO6 : Hid (y6.heap[w.heap.size + 1 + 1]? = some (.cells #[.int .i64 p.ty, .bool p.dup, .int .i64 p.qos, .bool p.ret, .int .i64 p.id, .string p.top, .slice o1 p.bod.n p.bod.n, .string p.cli, .int .i64 p.lev, .bool p.cln, .int .i64 p.kee, .bool p.hw, .string p.wt, .slice o2 p.wb.n p.wb.n, .int .i64 p.wq, .bool p.wr, .bool p.hu, .string p.us, .bool p.hp, .slice o3 p.pa.n p.pa.n, .int .i64 p.cod, .bool p.pre, .slice o4 p.wan.n p.wan.n, .slice o5 p.nam.n p.nam.n, .slice none 0 0] 32)) := (hb6.block _ zz).trans (hsc (HO5.out) 23 (.slice o5 p.nam.n p.nam.n))
  have hB6 : Hid (Below w.heap.size w y6) := ((hB5.out).setCell (p := ⟨w.heap.size + 1 + 1, 23, none⟩) (by simp; omega) (.slice o5 p.nam.n p.nam.n)).trans (hb6.mono (Nat.le_trans (by omega) (Nat.le_of_lt zz)))
  have G6 : Hid (y5.grownBy y6 (some (w.heap.size + 1 + 1))) := gTrans (gSet (y5) (w.heap.size + 1 + 1) 23 (.slice o5 p.nam.n p.nam.n)) (grown_of_below0 hb6)
  have HD6 : Hid (∀ a, o6 = some a → a.block < y6.heap.size) := fun a e => (ho6.2.lt a.block (by subst e; rfl)).2
  have HE6 : Hid (∀ a, o6 = some a → y5.heap.size ≤ a.block) := fun a e => by have := (ho6.2.lt a.block (by subst e; rfl)).1; simpa using this
  have HW6 : Hid (IOwn y6 (w.heap.size + 1 + 1 + 1) o6 p.cds.n p.cds.n d.cds) := ⟨ho6.1, owns_mono ho6.2 zz⟩
  clear HA5 HR5 HO5 hB5 z5 zz ho6 hb6 p6 a24 b23 f23
  have b24 : y6.cell? ⟨w.heap.size + 1 + 1, 24, none⟩ = some (.slice none 0 0) := Lib.cell_of_heap HO6.out 24
  have f24 : y6.frozen? ⟨w.heap.size + 1 + 1, 24, none⟩ = false := Lib.frozen_of_heap HO6.out 24
  have HO7 : Hid ((y6.setCell ⟨w.heap.size + 1 + 1, 24, none⟩ (.slice o6 p.cds.n p.cds.n)).heap[w.heap.size + 1 + 1]? = some (.cells #[.int .i64 p.ty, .bool p.dup, .int .i64 p.qos, .bool p.ret, .int .i64 p.id, .string p.top, .slice o1 p.bod.n p.bod.n, .string p.cli, .int .i64 p.lev, .bool p.cln, .int .i64 p.kee, .bool p.hw, .string p.wt, .slice o2 p.wb.n p.wb.n, .int .i64 p.wq, .bool p.wr, .bool p.hu, .string p.us, .bool p.hp, .slice o3 p.pa.n p.pa.n, .int .i64 p.cod, .bool p.pre, .slice o4 p.wan.n p.wan.n, .slice o5 p.nam.n p.nam.n, .slice o6 p.cds.n p.cds.n] 32 (0, 0))) := hsc HO6.out 24 (.slice o6 p.cds.n p.cds.n)
  have HR7 : Hid ((y6.setCell ⟨w.heap.size + 1 + 1, 24, none⟩ (.slice o6 p.cds.n p.cds.n)).heap[w.heap.size + 1]? = some (.cells #[.int .i64 0, .bool false, .int .i64 0, .bool false, .int .i64 0, .string ByteArray.empty, .slice none 0 0, .string ByteArray.empty, .int .i64 0, .bool false, .int .i64 0, .bool false, .string ByteArray.empty, .slice none 0 0, .int .i64 0, .bool false, .bool false, .string ByteArray.empty, .bool false, .slice none 0 0, .int .i64 0, .bool false, .slice none 0 0, .slice none 0 0, .slice none 0 0] 32 (0, 0))) := (Below.heap_setCell _ _ _ _ ne1).trans HR6.out
  have hB7 : Hid (Below w.heap.size w (y6.setCell ⟨w.heap.size + 1 + 1, 24, none⟩ (.slice o6 p.cds.n p.cds.n))) := (hB6.out).setCell (p := ⟨w.heap.size + 1 + 1, 24, none⟩) (by simp; omega) (.slice o6 p.cds.n p.cds.n)
  have G7 : Hid (y6.grownBy (y6.setCell ⟨w.heap.size + 1 + 1, 24, none⟩ (.slice o6 p.cds.n p.cds.n)) (some (w.heap.size + 1 + 1))) := gSet y6 (w.heap.size + 1 + 1) 24 (.slice o6 p.cds.n p.cds.n)
  go_wp2_with (first | refine wpList_load_row rfl 32 _ rfl (w.heap.size + 1 + 1) rfl 32 #[.int .i64 p.ty, .bool p.dup, .int .i64 p.qos, .bool p.ret, .int .i64 p.id, .string p.top, .slice o1 p.bod.n p.bod.n, .string p.cli, .int .i64 p.lev, .bool p.cln, .int .i64 p.kee, .bool p.hw, .string p.wt, .slice o2 p.wb.n p.wb.n, .int .i64 p.wq, .bool p.wr, .bool p.hu, .string p.us, .bool p.hp, .slice o3 p.pa.n p.pa.n, .int .i64 p.cod, .bool p.pre, .slice o4 p.wan.n p.wan.n, .slice o5 p.nam.n p.nam.n, .slice o6 p.cds.n p.cds.n] (0, 0) _ HO7.out Tryz.underlying32 rfl infoPk ?_ | refine wpList_store_row rfl 32 _ _ rfl (w.heap.size + 1) #[.int .i64 p.ty, .bool p.dup, .int .i64 p.qos, .bool p.ret, .int .i64 p.id, .string p.top, .slice o1 p.bod.n p.bod.n, .string p.cli, .int .i64 p.lev, .bool p.cln, .int .i64 p.kee, .bool p.hw, .string p.wt, .slice o2 p.wb.n p.wb.n, .int .i64 p.wq, .bool p.wr, .bool p.hu, .string p.us, .bool p.hp, .slice o3 p.pa.n p.pa.n, .int .i64 p.cod, .bool p.pre, .slice o4 p.wan.n p.wan.n, .slice o5 p.nam.n p.nam.n, .slice o6 p.cds.n p.cds.n] rfl rfl 32 #[.int .i64 0, .bool false, .int .i64 0, .bool false, .int .i64 0, .string ByteArray.empty, .slice none 0 0, .string ByteArray.empty, .int .i64 0, .bool false, .int .i64 0, .bool false, .string ByteArray.empty, .slice none 0 0, .int .i64 0, .bool false, .bool false, .string ByteArray.empty, .bool false, .slice none 0 0, .int .i64 0, .bool false, .slice none 0 0, .slice none 0 0, .slice none 0 0] HR7.out infoPk rfl (by simp [Value.oneCell']) ?_)
  have hlt2 : w.heap.size + 1 + 1 < w.heap.size + 1 + 1 + 1 := by omega
  have hlt1 : w.heap.size + 1 < w.heap.size + 1 + 1 + 1 := by omega
  refine bodyPost_ret (v := .agg #[.int .i64 p.ty, .bool p.dup, .int .i64 p.qos, .bool p.ret, .int .i64 p.id, .string p.top, .slice o1 p.bod.n p.bod.n, .string p.cli, .int .i64 p.lev, .bool p.cln, .int .i64 p.kee, .bool p.hw, .string p.wt, .slice o2 p.wb.n p.wb.n, .int .i64 p.wq, .bool p.wr, .bool p.hu, .string p.us, .bool p.hp, .slice o3 p.pa.n p.pa.n, .int .i64 p.cod, .bool p.pre, .slice o4 p.wan.n p.wan.n, .slice o5 p.nam.n p.nam.n, .slice o6 p.cds.n p.cds.n]) (results_cell_row Tryz.results8 _ _ (w.heap.size + 1) 32 _ (0, 0) _ rfl (setRow_heap _ _ _ _ _ _ HR7.out) Tryz.underlying32 rfl infoPk) rfl ?_
  have q2 := G2.out.size
  have q3 := G3.out.size
  have q4 := G4.out.size
  have q5 := G5.out.size
  have q6 := G6.out.size
  have d12 : Dis o1 o2 := low_dis HD1.out HE2.out (by omega)
  have d13 : Dis o1 o3 := low_dis HD1.out HE3.out (by omega)
  have d14 : Dis o1 o4 := low_dis HD1.out HE4.out (by omega)
  have d15 : Dis o1 o5 := low_dis HD1.out HE5.out (by omega)
  have d16 : Dis o1 o6 := low_dis HD1.out HE6.out (by omega)
  have d23 : Dis o2 o3 := low_dis HD2.out HE3.out (by omega)
  have d24 : Dis o2 o4 := low_dis HD2.out HE4.out (by omega)
  have d25 : Dis o2 o5 := low_dis HD2.out HE5.out (by omega)
  have d26 : Dis o2 o6 := low_dis HD2.out HE6.out (by omega)
  have d34 : Dis o3 o4 := low_dis HD3.out HE4.out (by omega)
  have d35 : Dis o3 o5 := low_dis HD3.out HE5.out (by omega)
  have d36 : Dis o3 o6 := low_dis HD3.out HE6.out (by omega)
  have d45 : Dis o4 o5 := low_dis HD4.out HE5.out (by omega)
  have d46 : Dis o4 o6 := low_dis HD4.out HE6.out (by omega)
  have d56 : Dis o5 o6 := low_dis HD5.out HE6.out (by omega)
  refine ⟨⟨(o1, p.bod.n), (o2, p.wb.n), (o3, p.pa.n), (o4, p.wan.n), (o5, p.nam.n), (o6, p.cds.n)⟩, rfl, ⟨⟨HW1.out.1, owns_mono (owns_gr (owns_gr (owns_gr (owns_gr (owns_gr (owns_gr (owns_gr (HW1.out.2) G2.out hlt2) G3.out hlt2) G4.out hlt2) G5.out hlt2) G6.out hlt2) G7.out hlt2) (gRow _ _ _) hlt1) (by omega)⟩, ⟨HW2.out.1, owns_mono (owns_gr (owns_gr (owns_gr (owns_gr (owns_gr (owns_gr (HW2.out.2) G3.out hlt2) G4.out hlt2) G5.out hlt2) G6.out hlt2) G7.out hlt2) (gRow _ _ _) hlt1) (by omega)⟩, ⟨HW3.out.1, owns_mono (owns_gr (owns_gr (owns_gr (owns_gr (owns_gr (HW3.out.2) G4.out hlt2) G5.out hlt2) G6.out hlt2) G7.out hlt2) (gRow _ _ _) hlt1) (by omega)⟩, ⟨HW4.out.1, owns_mono (owns_gr (owns_gr (owns_gr (owns_gr (HW4.out.2) G5.out hlt2) G6.out hlt2) G7.out hlt2) (gRow _ _ _) hlt1) (by omega)⟩, ⟨HW5.out.1, owns_mono (owns_gr (owns_gr (owns_gr (HW5.out.2) G6.out hlt2) G7.out hlt2) (gRow _ _ _) hlt1) (by omega)⟩, ⟨HW6.out.1, owns_mono (owns_gr (owns_gr (HW6.out.2) G7.out hlt2) (gRow _ _ _) hlt1) (by omega)⟩, ?_⟩, below_setRow hB7.out (by omega) _⟩
  show List.Pairwise Dis [o1, o2, o3, o4, o5, o6]
  simp only [List.pairwise_cons, List.mem_cons, List.not_mem_nil, or_false, forall_eq_or_imp, forall_eq, List.Pairwise.nil, and_true, false_imp_iff, implies_true]
  exact ⟨⟨d12, d13, d14, d15, d16⟩, ⟨d23, d24, d25, d26⟩, ⟨d34, d35, d36⟩, ⟨d45, d46⟩, d56⟩
theorem to_ltoPacket (p : Pk) (d : Pd) (w : World) (hp : PRd w p d) (hl : Plen p 1099511627776) :
    Calls Tryz.prog 8 #[.agg p.cells] w fun e w' => ∃ x : Re, e = .returned (.agg (p.re x).cells) ∧ PRd w' (p.re x) d ∧ Below w.heap.size w w' :=
  (to_ltoPacketO p d w hp hl).mono fun e w' ⟨x, h1, h2, h3⟩ => ⟨x, h1, h2.rd, h3⟩

end Go.Proofs.YtfpclkkkenekpaaGreat
