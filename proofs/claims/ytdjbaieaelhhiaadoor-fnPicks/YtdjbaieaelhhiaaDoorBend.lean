/- Contracts of what the draws make: texts, bent bytes. -/
import Derived.Test.YtdjbaieaelhhiaaDoorDraw
import Derived.Deep.RegionHeld3
import Derived.Deep.RegionWith
set_option linter.unusedVariables false
set_option linter.unusedSimpArgs false
namespace Go.Proofs.YtdjbaieaelhhiaaDoor
open Go.RowKit

theorem strs_cells (w : World) (zs : List ByteArray) (t : TypeId) (i : Nat) (h : i < zs.length) : (w.alloc (.cells (zs.map Value.string).toArray t)).cell? ⟨w.heap.size, i, none⟩ = some (.string (zs.getD i ByteArray.empty)) := by
  rw [cell_of (heap_alloc_new w _)]
  simp [List.getD_eq_getElem?_getD, List.getElem?_eq_getElem h]
theorem ints_cells (w : World) (zs : List Int) (t : TypeId) (i : Nat) (h : i < zs.length) : (w.alloc (.cells (zs.map (Value.int .i64)).toArray t)).cell? ⟨w.heap.size, i, none⟩ = some (.int .i64 (zs.getD i 0)) := by
  rw [cell_of (heap_alloc_new w _)]
  simp [List.getD_eq_getElem?_getD, List.getElem?_eq_getElem h]

/-- A part of what is owned, from its head on. -/
theorem Own.cut {w : World} {B : Nat} {a : Option Addr} {n c : Nat} {x : List UInt8} (h : Own w B a n c x) (k : Nat) (hk : k ≤ n) : Own w B a k c (x.take k) := by
  obtain ⟨hl, h1, h2⟩ := h
  refine ⟨by simp; omega, by rw [bvals_length]; simp; omega, ?_⟩
  rcases h2 with ⟨e, h0⟩ | ⟨g, c', cur, e, hB, hg, hc, hm, hs, ht⟩
  · simp only [Value.slice.injEq] at e
    obtain ⟨rfl, _, rfl⟩ := e
    obtain rfl : k = 0 := by omega
    exact .inl ⟨rfl, rfl⟩
  · simp only [Value.slice.injEq] at e
    obtain ⟨rfl, _, rfl⟩ := e
    refine .inr ⟨g, c, cur, rfl, hB, hg, by omega, hm, hs, ?_⟩
    have e2 : bvals (x.take k) = (bvals x).take k := by simp [bvals, List.map_take]
    rw [e2, ← ht, List.take_take]
    congr 1
    omega

theorem xor_range (a b : Int) : 0 ≤ bits .xor .u8 a b ∧ bits .xor .u8 a b < 256 := by
  show 0 ≤ IntKind.u8.wrap _ ∧ IntKind.u8.wrap _ < 256
  rw [IntKind.wrap_u8]
  exact ⟨Int.emod_nonneg _ (by decide), Int.emod_lt_of_pos _ (by decide)⟩

theorem Own.storeI {w : World} {B : Nat} {g n cap : Nat} {l : List UInt8} (h : Own w B (some ⟨g, 0, none⟩) n cap l) (j : Nat) (V : Int) (h0 : 0 ≤ V) (h1 : V < 256) :
    Own (w.setCell ⟨g, j, none⟩ (.int .u8 V)) B (some ⟨g, 0, none⟩) n cap (l.set j (UInt8.ofNat V.toNat)) := by
  have := h.store j (UInt8.ofNat V.toNat)
  have e : (((UInt8.ofNat V.toNat).toNat : Nat) : Int) = V := by simp; omega
  rw [e] at this
  exact this

/-- s[:j] -/
theorem slice_head (ao : Option Addr) (n cap j : Nat) (h : j ≤ cap) (w' : World) : (Instr.slice 22 (.slice ao n cap) none (some (.int .i64 (j : Int))) none).run Tryd.prog w' = .ok (.slice ao j cap) w' := by
  obtain ⟨i0, hi, hz0, hz1, hz2⟩ := info_parts info5
  have he : Tryd.prog.elem 22 = 5 := by kernel_rfl
  have ht : Tryd.prog.underlying 22 = some (.slice (Tryd.prog.elem 22)) := by rw [he]; exact Tryd.underlying22
  have hs := run_slice_h (P := Tryd.prog) w' 22 ao n cap ht .i64 (j : Int) (by omega) (by omega)
  rw [hs, he]
  simp only [sizeOf, typeInfo, Sem.run_bind, Sem.run_pure, hi, hz1, Result.andThen_ok, sliced, Int.toNat_natCast]
  simp [hi, hz1, Result.andThen, sliced]
  by_cases hc : cap = 0
  · simp [hc]
  · cases ao <;> simp [hc, Addr.add]

theorem Cur.drew {w : World} {g : Nat} {ao : Option Addr} {n cap : Nat} {l : List UInt8} (h : Cur w g ao n cap l) : Cur w.drew g ao n cap l := h
theorem Own.drew {w : World} {B : Nat} {a : Option Addr} {n c : Nat} {x : List UInt8} (h : Own w B a n c x) : Own w.drew B a n c x := h
theorem grown_undrew {w w' : World} {row : Option Nat} (h : w.drew.grownBy w' row) : w.grownBy w' row := ⟨h.os, h.tape, h.output, h.size, h.block⟩

end Go.Proofs.YtdjbaieaelhhiaaDoor
