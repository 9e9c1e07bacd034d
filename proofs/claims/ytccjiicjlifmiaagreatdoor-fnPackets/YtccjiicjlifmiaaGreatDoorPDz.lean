/- A list of wishes that is appended to itself: an append that leaves what stood in the row where it was. -/
import Derived.Test.YtccjiicjlifmiaaGreatDoorL5e
set_option linter.unusedVariables false
set_option linter.unusedSimpArgs false
namespace Go.Proofs.YtccjiicjlifmiaaGreatDoor
open Go.RowKit

/-- What stands in front of a row stays. -/
def RowKept (w w' : World) (row : Option Nat) (k : Nat) : Prop := ∀ g cur, row = some g → w.heap[g]? = some (.cells cur 88) → ∃ cur' : Array Value, w'.heap[g]? = some (.cells cur' 88) ∧ cur'.size = cur.size ∧ cur'.toList.take k = cur.toList.take k
theorem wown_keep {w w' : World} {B : Nat} {a : Option Addr} {k c q : Nat} {xs : List (ByteArray × Int)} {row : Option Nat} (h : WOwn w B a k c xs) (hg : w.grownBy w' row) (hk : RowKept w w' row q) (hq : k * 2 ≤ q) : WOwn w' B a k c xs := by
  obtain ⟨hl, h1, h2⟩ := h
  refine ⟨hl, h1, ?_⟩
  rcases h2 with h2 | ⟨g, cp, cur, e, hb, hh, hn, hc, hs, ht⟩
  · exact .inl h2
  · by_cases e0 : row = some g
    · obtain ⟨cur', e1, e2, e3⟩ := hk g cur e0 hh
      refine .inr ⟨g, cp, cur', e, hb, e1, hn, hc, by rw [e2, hs], ?_⟩
      rw [← ht, ← Nat.min_eq_left hq, ← List.take_take, e3, List.take_take]
    · exact .inr ⟨g, cp, cur, e, hb, (hg.block g (Array.getElem?_eq_some_iff.1 hh).1 (fun e => e0 e.symm)).trans hh, hn, hc, hs, ht⟩
theorem run_wkeep (w : World) (ty : TypeId) (B : Nat) (ao : Option Addr) (n cap : Nat) (zs : List (ByteArray × Int)) (hown : WOwn w B ao n cap zs) (ax : Option Addr) (m c : Nat) (us : List (ByteArray × Int)) (hx : WOwn w B ax m c us) (hb : n + m ≤ 1000000) (hB : B ≤ w.heap.size) :
    ∃ ao' cap' w', (Builtin.append_ #[24, 24] ty #[.slice ao n cap, .slice ax m c]).run Tryz.prog w = .ok (.slice ao' (n + m) cap') w' ∧ WOwn w' B ao' (n + m) cap' (zs ++ us) ∧ w.grownBy w' (Value.slice ao n cap).ownBlock ∧ RowKept w w' (Value.slice ao n cap).ownBlock (n * 2) := by
  obtain ⟨i0, hi, hz0, hz1, hz2⟩ := info_parts infoW
  have hlen : (zs ++ us).length = n + m := by rw [List.length_append, hown.1, hx.1]
  have hx2 := hx.2.2
  cases ax with
  | none =>
    rcases hx2 with ⟨e, hm⟩ | ⟨g, _, _, e, _⟩
    · obtain ⟨rfl, rfl⟩ : m = 0 ∧ c = 0 := by simpa using e
      have hu : us = [] := List.eq_nil_of_length_eq_zero hx.1
      subst hu
      refine ⟨ao, cap, w, ?_, by simpa using hown, World.grownBy.refl _ _, fun g cur _ h => ⟨cur, h, rfl, rfl⟩⟩
      exact run_append_owned_none (P := Tryz.prog) (w := w) B 24 ty 88 i0 2 Tryz.underlying24 hi (.slice ao n cap) n (wvals zs) hown.2
    · cases e
  | some ad =>
    have hnews : ∀ (j : Nat) (v : Value), (wvals us)[j]? = some v → w.cell? (ad.add j) = some v := by
      rcases hx2 with ⟨e, hm⟩ | ⟨g, _, _, e, _⟩
      · cases e
      · simp only [Value.slice.injEq, Option.some.injEq] at e
        obtain ⟨rfl, _, _⟩ := e
        exact hx.2.cells (g := g) rfl
    obtain ⟨v', w', hr, h2, h3, _⟩ := run_append_own (P := Tryz.prog) w B 24 ty 88 i0 (.agg #[.string ByteArray.empty, .int .i64 0]) 2 24 Tryz.underlying24 hi hz0 hz1 hz2 rfl (by decide) (.slice ao n cap) n (wvals zs) hown.2 ad m c (wvals us) (by rw [wvals_len, hx.1]) hnews (wvals_one1 us) (by unfold maxLen; omega) (by omega) hB
    have h2' := h2
    rw [wvals_app] at h2'
    obtain ⟨ao', cap', rfl, hown'⟩ := wown_open hlen h2'
    refine ⟨ao', cap', w', hr, hown', h3, ?_⟩
    intro g cur hg hcur
    rcases hown.2.2 with ⟨e, hm⟩ | ⟨g0, cp, cur0, e, hbg, hh, hnc, hcm, hcs, htake⟩
    · simp only [Value.slice.injEq] at e
      obtain ⟨rfl, rfl, rfl⟩ := e
      cases hg
    · simp only [Value.slice.injEq, true_and] at e
      obtain ⟨rfl, rfl⟩ := e
      obtain rfl : g0 = g := by simpa [Value.ownBlock] using hg
      rw [hh] at hcur
      obtain rfl : cur0 = cur := by cases hcur; rfl
      have hl : (wvals us).length = m * i0.size := by rw [wvals_len, hx.1, hz1]
      by_cases hroom : n + m ≤ cap
      · have hfit : n * i0.size + (wvals us).length ≤ cur0.size := by rw [hl, hcs, hz1, ← Nat.add_mul]; exact Nat.mul_le_mul_right _ hroom
        have hr2 := run_append_room (P := Tryz.prog) w 24 ty 88 i0 Tryz.underlying24 hi g0 n cap cur0 hh ad m c (wvals us) hl hnews (wvals_one1 us) hroom hfit
        rw [hr] at hr2
        simp only [Result.ok.injEq] at hr2
        obtain ⟨_, rfl⟩ := hr2
        refine ⟨_, setRow_heap w g0 cur0 _ 88 _ hh, ?_, ?_⟩
        · simp only [List.size_toArray, List.length_append, List.length_take, List.length_drop, Array.length_toList]
          omega
        · have hn2 : n * 2 ≤ cur0.toList.length := by rw [Array.length_toList, hcs]; exact Nat.mul_le_mul_right _ hnc
          rw [hz1]
          simp only [List.append_assoc]
          rw [List.take_append_of_le_length (by rw [List.length_take]; omega), List.take_take, Nat.min_self]
      · have holds : ∀ (j : Nat) (u : Value), (wvals zs)[j]? = some u → w.cell? ((⟨g0, 0, none⟩ : Addr).add j) = some u := hown.2.cells (g := g0) rfl
        have hr2 := run_append_grow (P := Tryz.prog) w 24 ty 88 i0 (.agg #[.string ByteArray.empty, .int .i64 0]) Tryz.underlying24 hi hz0 ⟨g0, 0, none⟩ n cap (wvals zs) (by rw [wvals_len, hown.1, hz1]) holds ad m c (wvals us) hl hnews (by omega) (by omega) (growslice_fits (by omega) (by rw [hz2]; omega))
        rw [hr] at hr2
        simp only [Result.ok.injEq] at hr2
        obtain ⟨_, rfl⟩ := hr2
        exact ⟨cur0, (heap_alloc_old w.drew _ (Array.getElem?_eq_some_iff.1 hh).1).trans hh, rfl, rfl⟩
theorem z_wkeep {o : Oper} {a : Act} {w : World} {K : Act → World → Prop} {Q : Exit → Act → World → Prop} (s x : Operand) (ho : o.op = .call { callee := .builtin .append, args := #[s, x], argTypes := #[24, 24] })
    (B : Nat) (ao : Option Addr) (n cap : Nat) (zs : List (ByteArray × Int)) (hs : a.eval s = .slice ao n cap) (hown : WOwn w B ao n cap zs)
    (ax : Option Addr) (m c : Nat) (us : List (ByteArray × Int)) (hx : a.eval x = .slice ax m c) (hc : WOwn w B ax m c us) (hb : n + m ≤ 1000000) (hB : B ≤ w.heap.size)
    (h : ∀ ao' cap' w', WOwn w' B ao' (n + m) cap' (zs ++ us) → w.grownBy w' (Value.slice ao n cap).ownBlock → RowKept w w' (Value.slice ao n cap).ownBlock (n * 2) → K (a.put o.dst (.slice ao' (n + m) cap')) w') : Oper.wp Tryz.prog o a w K Q := by
  obtain ⟨ao', cap', w', hr, h2, h3, h4⟩ := run_wkeep w o.type B ao n cap zs hown ax m c us hc hb hB
  unfold Oper.wp execOp
  simp only [ho, resolve, invoke, builtin, Sem.run_bind, Sem.run_pure, Result.andThen_ok, List.map_toArray, List.map_cons, List.map_nil, hs, hx, hr]
  exact h ao' cap' w' h2 h3 h4
theorem mki2 (x y : Int) (u : World) : (Instr.buildSlice 26 2 #[(0, .int .i64 x), (1, .int .i64 y)]).run Tryz.prog u = .ok (.slice (some ⟨u.heap.size, 0, none⟩) 2 2) (u.alloc (.cells #[.int .i64 x, .int .i64 y] 3)) := by kernel_rfl
theorem mks2 (x y : ByteArray) (u : World) : (Instr.buildSlice 25 2 #[(0, .string x), (1, .string y)]).run Tryz.prog u = .ok (.slice (some ⟨u.heap.size, 0, none⟩) 2 2) (u.alloc (.cells #[.string x, .string y] 9)) := by kernel_rfl
theorem cf_any (xs : Array Value) (u : World) : (callFunc 110 xs).run Tryz.prog u = .ok (.enter 110 xs) u := by kernel_rfl
/-- What an append of way 20 does to the world. -/
def RK (B q : Nat) (u u' : World) : Prop := ∃ row, u.grownBy u' row ∧ (∀ k, row = some k → B ≤ k ∧ RR.w_ty u k 88) ∧ RowKept u u' row q
def R20 (B n i : Nat) (u u' : World) : Prop := if i = 4 then RK B (n * 2) u u' else if i = 7 then RK B ((n + n) * 2) u u' else u' = u
end Go.Proofs.YtccjiicjlifmiaaGreatDoor
