/- laws.toPacket: a packet made anew. -/
import Derived.Test.YtccjiicjlifmiaaGreatDoorWMem
import Derived.Laws.CopyOwn
set_option linter.unusedVariables false
set_option linter.unusedSimpArgs false
namespace Go.Proofs.YtccjiicjlifmiaaGreatDoor
open Go.RowKit

theorem toB (ao : Option Addr) (n cap : Nat) (l : List UInt8) (w : World) (hr : RdIn w ao n cap l) (hn : n ≤ 1099511627776) :
    Calls Tryz.prog 41 #[.slice ao n cap] w fun e w' => ∃ o, e = .returned (.slice o n n) ∧ Own w' w.heap.size o n n l ∧ Below w.heap.size w w' :=
  (to_ltoByteS ao n cap l w hr hn).mono fun e w' ⟨h1, h2, h3⟩ => ⟨_, h1, h2, h3⟩

theorem alloc3 (w : World) (A Z O : Obj) : (((w.alloc A).alloc Z).alloc O).heap[w.heap.size]? = some A ∧ (((w.alloc A).alloc Z).alloc O).heap[w.heap.size + 1]? = some Z ∧ (((w.alloc A).alloc Z).alloc O).heap[w.heap.size + 1 + 1]? = some O := by
  refine ⟨?_, ?_, ?_⟩
  · exact (Below.heap_alloc _ _ _ (by simp; omega)).trans ((Below.heap_alloc _ _ _ (by simp)).trans (heap_alloc_new w A))
  · have e := heap_alloc_new (w.alloc A) Z
    rw [show (w.alloc A).heap.size = w.heap.size + 1 from by simp] at e
    exact (Below.heap_alloc _ _ _ (by simp)).trans e
  · have e := heap_alloc_new ((w.alloc A).alloc Z) O
    rw [show ((w.alloc A).alloc Z).heap.size = w.heap.size + 1 + 1 from by simp] at e
    exact e

theorem grown_of_below0 {w w' : World} {row : Option Nat} (h : Below w.heap.size w w') : w.grownBy w' row := ⟨h.os, h.tape, h.output, h.size, fun q hq _ => h.block q hq⟩
theorem hsc {w : World} {g : Nat} {cs : Array Value} {t : TypeId} {fz : Nat × Nat} (h : w.heap[g]? = some (.cells cs t fz)) (j : Nat) (u : Value) :
    (w.setCell ⟨g, j, none⟩ u).heap[g]? = some (.cells (cs.setIfInBounds j u) t fz) := by
  simp [World.setCell, Array.getElem?_modify, h]
theorem gSet (w : World) (g j : Nat) (u : Value) : w.grownBy (w.setCell ⟨g, j, none⟩ u) (some g) :=
  ⟨rfl, rfl, rfl, by simp [World.setCell], fun q hq hne => Below.heap_setCell _ _ _ q (fun e => hne (by rw [e]))⟩
theorem gRow (w : World) (g : Nat) (cs : Array Value) : w.grownBy (w.setRow g cs) (some g) :=
  ⟨rfl, rfl, rfl, by simp, fun q hq hne => by
    have hne' : g ≠ q := fun e => hne (by rw [e])
    simp [World.setRow, Array.getElem?_modify, hne']⟩
theorem gTrans {a b c : World} {row : Option Nat} (h : a.grownBy b row) (k : b.grownBy c row) : a.grownBy c row :=
  ⟨k.os.trans h.os, k.tape.trans h.tape, k.output.trans h.output, Nat.le_trans h.size k.size, fun q hq hne => (k.block q (Nat.lt_of_lt_of_le hq h.size) hne).trans (h.block q hq hne)⟩
theorem owns_gr {w w' : World} {B : Nat} {t : TypeId} {k : Nat} {v : Value} {n : Nat} {l : List Value} {g : Nat} (h : w.ownsRow B t k v n l) (hg : w.grownBy w' (some g)) (hlt : g < B) : w'.ownsRow B t k v n l := by
  refine ⟨h.1, ?_⟩
  rcases h.2 with hn | ⟨b, c, cur, e, hB, hb, rest⟩
  · exact .inl hn
  · refine .inr ⟨b, c, cur, e, hB, ?_, rest⟩
    rw [hg.block b (Array.getElem?_eq_some_iff.1 hb).1 (fun e => by simp at e; omega)]
    exact hb
theorem owns_mono {w : World} {B B' : Nat} {t : TypeId} {k : Nat} {v : Value} {n : Nat} {l : List Value} (h : w.ownsRow B t k v n l) (hB : B' ≤ B) : w.ownsRow B' t k v n l := by
  refine ⟨h.1, ?_⟩
  rcases h.2 with hn | ⟨b, c, cur, e, hb, rest⟩
  · exact .inl hn
  · exact .inr ⟨b, c, cur, e, by omega, rest⟩
theorem heap_setRow_ne (w : World) (g k : Nat) (cs : Array Value) (h : k ≠ g) : (w.setRow g cs).heap[k]? = w.heap[k]? := by
  simp [World.setRow, Array.getElem?_modify, Ne.symm h]
theorem infoPk : (Tryz.prog.info? 28).map (·.size) = some 25 := by kernel_rfl

/-- Two lists that share no block. -/
def Dis (x y : Option Addr) : Prop := ∀ a b, x = some a → y = some b → a.block ≠ b.block
/-- A packet's lists are its own, each in a block of its own. -/
structure POwn (w : World) (B : Nat) (p : Pk) (d : Pd) : Prop where
  bod : Own w B p.bod.a p.bod.n p.bod.c d.bod
  wb : Own w B p.wb.a p.wb.n p.wb.c d.wb
  pa : Own w B p.pa.a p.pa.n p.pa.c d.pa
  wan : WOwn w B p.wan.a p.wan.n p.wan.c d.wan
  nam : SOwn w B p.nam.a p.nam.n p.nam.c d.nam
  cds : IOwn w B p.cds.a p.cds.n p.cds.c d.cds
  dis : List.Pairwise Dis [p.bod.a, p.wb.a, p.pa.a, p.wan.a, p.nam.a, p.cds.a]
theorem POwn.rd {w : World} {B : Nat} {p : Pk} {d : Pd} (h : POwn w B p d) : PRd w p d := ⟨h.bod.rd, h.wb.rd, h.pa.rd, h.wan.rd, h.nam.rd, h.cds.rd⟩
theorem low_dis {x y : Option Addr} {m k : Nat} (h : ∀ a, x = some a → a.block < m) (hy : ∀ b, y = some b → k ≤ b.block) (hm : m ≤ k) : Dis x y := fun a b ha hb e => by
  have h1 := h a ha
  have h2 := hy b hb
  rw [e] at h1
  omega
end Go.Proofs.YtccjiicjlifmiaaGreatDoor
