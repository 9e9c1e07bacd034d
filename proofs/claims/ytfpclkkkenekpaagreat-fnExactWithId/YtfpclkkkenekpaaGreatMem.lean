/- Lists of bytes in memory: what is read, what a call owns, and the walk's laws for append and make over them. -/
import Derived.Test.YtfpclkkkenekpaaGreatCnts
import Derived.Lib.AppendStr
import Derived.Laws.AppendOwnNone
set_option linter.unusedVariables false
set_option linter.unusedSimpArgs false
namespace Go.Proofs.YtfpclkkkenekpaaGreat
open Go.RowKit

theorem info5 : (Tryz.prog.info? 5).map (fun i => (i.zero, i.size, i.bytes)) = some (some (.int .u8 0), 1, 1) := by kernel_rfl

def bvals (l : List UInt8) : List Value := l.map fun u => Value.int .u8 u.toNat

theorem bvals_length (l : List UInt8) : (bvals l).length = l.length := by simp [bvals]
theorem bvals_append (l m : List UInt8) : bvals (l ++ m) = bvals l ++ bvals m := by simp [bvals]
theorem bvals_one (l : List UInt8) : ∀ u ∈ bvals l, u.oneCell' = true := by
  intro u hu
  simp only [bvals, List.mem_map] at hu
  obtain ⟨b, _, rfl⟩ := hu
  rfl
theorem bvals_at (l : List UInt8) (i : Nat) (h : i < l.length) : (bvals l)[i]? = some (.int .u8 (bt l i)) := by
  simp only [bvals, bt, List.getElem?_map, List.getElem?_eq_getElem h, Option.map_some, List.getD_eq_getElem?_getD, Option.getD_some]
theorem bvals_str (s : ByteArray) : Lib.strCells s = bvals s.data.toList := rfl

/-- A slice value that reads as the bytes l. -/
def RdIn (w : World) (ao : Option Addr) (n cap : Nat) (l : List UInt8) : Prop := Rd w ao n l ∧ n ≤ cap ∧ cap ≤ maxLen ∧ (ao = none → cap = 0)

theorem RdIn.nil (w : World) : RdIn w none 0 0 [] := ⟨⟨rfl, fun i hi => by omega⟩, Nat.le_refl _, Nat.zero_le _, fun _ => rfl⟩

theorem RdIn.of_ints {w : World} {x : Addr} {len cap : Nat} {zs : List Int} (hl : len ≤ cap) (hm : cap ≤ maxLen) (hz : zs.length = cap)
    (hcell : ∀ i, i < zs.length → w.cell? (x.add i) = some (.int .u8 (zs.getD i 0))) (hwz : ∀ n ∈ zs, (Lit.int .u8 n).wf = true) : ∃ l, RdIn w (some x) len cap l := by
  refine ⟨(zs.take len).map (fun n => UInt8.ofNat n.toNat), ⟨by simp; omega, fun i hi => ?_⟩, hl, hm, fun h => by simp at h⟩
  obtain ⟨b, off, spot⟩ := x
  have hc0 := hcell 0 (by omega)
  have hspot : spot = none := by simpa [Addr.add] using World.cell?_spot hc0
  subst hspot
  have hc := hcell i (by omega)
  have hi' : i < zs.length := by omega
  have hw := hwz zs[i] (List.getElem_mem hi')
  simp [Lit.wf, IntKind.min, IntKind.max, IntKind.signed, IntKind.bits] at hw
  refine ⟨b, off, rfl, ?_⟩
  rw [Addr.add_lit] at hc
  rw [hc]
  have e : ((bt ((zs.take len).map (fun n => UInt8.ofNat n.toNat)) i : Nat) : Int) = zs.getD i 0 := by
    simp only [bt, List.getD_eq_getElem?_getD, List.getElem?_map, List.getElem?_take, hi, if_true, List.getElem?_eq_getElem hi', Option.map_some, Option.getD_some]
    simp
    omega
  rw [e]

/-- The slice value owns the bytes l: its row is one of the call's own (from block B on). -/
def Own (w : World) (B : Nat) (ao : Option Addr) (n cap : Nat) (l : List UInt8) : Prop := l.length = n ∧ w.ownsRow B 5 1 (.slice ao n cap) n (bvals l)

theorem Own.rd {w : World} {B : Nat} {ao : Option Addr} {n cap : Nat} {l : List UInt8} (h : Own w B ao n cap l) : RdIn w ao n cap l := by
  obtain ⟨hl, h1, h2⟩ := h
  rcases h2 with ⟨e, rfl⟩ | ⟨g, c, cur, e, hb, hg, hc, hm, hs, ht⟩
  · simp only [Value.slice.injEq] at e
    obtain ⟨rfl, _, rfl⟩ := e
    exact ⟨⟨hl, fun i hi => by omega⟩, Nat.le_refl _, Nat.zero_le _, fun _ => rfl⟩
  · simp only [Value.slice.injEq] at e
    obtain ⟨rfl, _, rfl⟩ := e
    refine ⟨⟨hl, fun i hi => ⟨g, 0, rfl, ?_⟩⟩, hc, hm, fun h => by simp at h⟩
    have own : w.ownsRow B 5 1 (.slice (some ⟨g, 0, none⟩) n cap) n (bvals l) := ⟨h1, .inr ⟨g, cap, cur, rfl, hb, hg, hc, hm, hs, ht⟩⟩
    rw [Nat.zero_add, own.cellAt i (by omega), bvals_at l i (by omega)]

/-- Its block. -/
theorem Own.block {w : World} {B : Nat} {ao : Option Addr} {n cap : Nat} {l : List UInt8} (h : Own w B ao n cap l) {a : Addr} (e : ao = some a) : B ≤ a.block ∧ a.block < w.heap.size := by
  subst e
  exact h.2.lt _ rfl

/-- What is read stays, where its block stays. -/
theorem RdIn.below {w w' : World} {ao : Option Addr} {n cap : Nat} {l : List UInt8} (h : RdIn w ao n cap l) (hb : Below w.heap.size w w') : RdIn w' ao n cap l := by
  refine ⟨⟨h.1.1, fun i hi => ?_⟩, h.2⟩
  obtain ⟨b, off, e, hc⟩ := h.1.2 i hi
  exact ⟨b, off, e, (hb.cell (World.block_lt_of_cell? w _ hc)).trans hc⟩

theorem Own.below {w w' : World} {B : Nat} {ao : Option Addr} {n cap : Nat} {l : List UInt8} (h : Own w B ao n cap l) (hb : Below w.heap.size w w') : Own w' B ao n cap l := by
  refine ⟨h.1, h.2.1, ?_⟩
  rcases h.2.2 with hn | ⟨g, c, cur, e, hB, hg, rest⟩
  · exact .inl hn
  · exact .inr ⟨g, c, cur, e, hB, by rw [hb.block g (Array.getElem?_eq_some_iff.1 hg).1]; exact hg, rest⟩

theorem Own.mono {w : World} {B B' : Nat} {ao : Option Addr} {n cap : Nat} {l : List UInt8} (h : Own w B ao n cap l) (hB : B' ≤ B) : Own w B' ao n cap l := by
  refine ⟨h.1, h.2.1, ?_⟩
  rcases h.2.2 with hn | ⟨g, c, cur, e, hb, rest⟩
  · exact .inl hn
  · exact .inr ⟨g, c, cur, e, by omega, rest⟩

/-- A world with one row (of this block) written, and new blocks: what is read elsewhere stays. -/
theorem RdIn.grown {w w' : World} {ao : Option Addr} {n cap : Nat} {l : List UInt8} {row : Option Nat} (h : RdIn w ao n cap l) (hg : w.grownBy w' row) (hne : ∀ a, ao = some a → some a.block ≠ row) : RdIn w' ao n cap l := by
  refine ⟨⟨h.1.1, fun i hi => ?_⟩, h.2⟩
  obtain ⟨b, off, e, hc⟩ := h.1.2 i hi
  exact ⟨b, off, e, hg.cell hc (show some b ≠ row from hne ⟨b, off, none⟩ e)⟩

theorem Own.grown {w w' : World} {B : Nat} {ao : Option Addr} {n cap : Nat} {l : List UInt8} {row : Option Nat} (h : Own w B ao n cap l) (hg : w.grownBy w' row) (hne : ∀ a, ao = some a → some a.block ≠ row) : Own w' B ao n cap l := by
  refine ⟨h.1, h.2.kept hg ?_⟩
  cases ao with
  | none => exact .inl rfl
  | some a => exact .inr (hne a rfl)

/-- What comes out of a value that owns. -/
theorem own_open {w : World} {B : Nat} {v : Value} {n : Nat} {l : List UInt8} (hl : l.length = n) (h : w.ownsRow B 5 1 v n (bvals l)) : ∃ ao cap, v = .slice ao n cap ∧ Own w B ao n cap l := by
  rcases h.2 with ⟨rfl, rfl⟩ | ⟨g, c, cur, rfl, _⟩
  · exact ⟨none, 0, rfl, hl, h⟩
  · exact ⟨_, _, rfl, hl, h⟩

/-- 'append(s, x...)', s owned, x whatever reads as bytes (nil too). -/
theorem w_app {ops : Array Oper} {rest : List Oper} {o : Oper} {a : Act} {Q : Exit → Act → World → Prop} (w : World) (hgd : o.guard = none) (s x : Operand)
    (ho : o.op = .call { callee := .builtin .append, args := #[s, x], argTypes := #[22, 22] })
    (B : Nat) (ao : Option Addr) (n cap : Nat) (l : List UInt8) (hs : a.eval s = .slice ao n cap) (hown : Own w B ao n cap l)
    (ax : Option Addr) (m c : Nat) (lx : List UInt8) (hx : a.eval x = .slice ax m c) (hr : RdIn w ax m c lx) (hb : n + m ≤ 140737488355328) (hB : B ≤ w.heap.size)
    (h : ∀ ao' cap' w', Own w' B ao' (n + m) cap' (l ++ lx) → w.grownBy w' (Value.slice ao n cap).ownBlock → wpList Tryz.prog ops Q rest (a.put o.dst (.slice ao' (n + m) cap')) w') :
    wpList Tryz.prog ops Q (o :: rest) a w := by
  obtain ⟨i0, hi, hz0, hz1, hz2⟩ := info_parts info5
  have hlen : (l ++ lx).length = n + m := by rw [List.length_append, hown.1, hr.1.1]
  cases ax with
  | none =>
    have hc : c = 0 := hr.2.2.2 rfl
    have hm : m = 0 := by have := hr.2.1; omega
    subst hc; subst hm
    have hlx : lx = [] := List.eq_nil_of_length_eq_zero hr.1.1
    subst hlx
    refine wpList_append_own_none hgd s x 22 ho B 5 i0 1 Tryz.underlying22 hi (.slice ao n cap) n (bvals l) hs hown.2 hx ?_
    have := h ao cap w (by simpa using hown) (World.grownBy.refl _ _)
    simpa using this
  | some ad =>
    refine wpList_append_own w hgd s x 22 ho B 5 i0 (.int .u8 0) 1 1 Tryz.underlying22 hi hz0 hz1 hz2 rfl (by decide) (.slice ao n cap) n (bvals l) hs hown.2 ad m c (bvals lx) hx (by rw [bvals_length, hr.1.1, Nat.mul_one]) ?_ (bvals_one lx) (by unfold maxLen; omega) (by omega) hB ?_
    · intro j u hu
      have hj : j < lx.length := by
        have := (List.getElem?_eq_some_iff.1 hu).1
        rwa [bvals_length] at this
      obtain ⟨b, off, e, hcell⟩ := hr.1.2 j (by rw [← hr.1.1]; exact hj)
      simp at e
      subst e
      rw [bvals_at lx j hj] at hu
      rw [Addr.add_lit, hcell]
      exact hu
    · intro v' w' hv hg _
      rw [← bvals_append] at hv
      obtain ⟨ao', cap', rfl, hown'⟩ := own_open hlen hv
      exact h ao' cap' w' hown' hg

/-- 'append(s, str...)'. -/
theorem w_apps {ops : Array Oper} {rest : List Oper} {o : Oper} {a : Act} {Q : Exit → Act → World → Prop} (w : World) (hgd : o.guard = none) (s x : Operand)
    (ho : o.op = .call { callee := .builtin .append, args := #[s, x], argTypes := #[22, 9] })
    (B : Nat) (ao : Option Addr) (n cap : Nat) (l : List UInt8) (hs : a.eval s = .slice ao n cap) (hown : Own w B ao n cap l)
    (str : ByteArray) (hx : a.eval x = .string str) (hb : n + str.size ≤ 140737488355328) (hB : B ≤ w.heap.size)
    (h : ∀ ao' cap' w', Own w' B ao' (n + str.size) cap' (l ++ str.data.toList) → w.grownBy w' (Value.slice ao n cap).ownBlock → wpList Tryz.prog ops Q rest (a.put o.dst (.slice ao' (n + str.size) cap')) w') :
    wpList Tryz.prog ops Q (o :: rest) a w := by
  obtain ⟨i0, hi, hz0, hz1, hz2⟩ := info_parts info5
  have hlen : (l ++ str.data.toList).length = n + str.size := by rw [List.length_append, hown.1]; rfl
  refine Lib.wpList_append_own_string w hgd s x 22 9 ho B 5 i0 Tryz.underlying22 Tryz.underlying9 hi hz0 hz1 hz2 (.slice ao n cap) n (bvals l) hs hown.2 str hx (by unfold maxLen; omega) hb hB ?_
  intro v' w' hv hg _
  rw [bvals_str, ← bvals_append] at hv
  obtain ⟨ao', cap', rfl, hown'⟩ := own_open hlen hv
  exact h ao' cap' w' hown' hg

/-- 'make([]byte, 0, n)'. -/
theorem w_make0 {ops : Array Oper} {rest : List Oper} {o : Oper} {a : Act} {Q : Exit → Act → World → Prop} (w : World) (hgd : o.guard = none) (l c : Operand) (hop : o.op = Op.makeSlice 22 l c)
    (C : Int) (n : Nat) (hl : a.eval l = .int .i64 0) (hc : a.eval c = .int .i64 C) (hC : C = (n : Int)) (hb : n ≤ 140737488355328)
    (h : ∀ w', Own w' w.heap.size (some ⟨w.heap.size, 0, none⟩) 0 n [] → Below w.heap.size w w' → wpList Tryz.prog ops Q rest (a.put o.dst (.slice (some ⟨w.heap.size, 0, none⟩) 0 n)) w') :
    wpList Tryz.prog ops Q (o :: rest) a w := by
  obtain ⟨i0, hi, hz0, hz1, hz2⟩ := info_parts info5
  refine wpList_make_own w hgd l c 22 hop w.heap.size 5 i0 (.int .u8 0) 1 Tryz.underlying22 hi hz0 hz1 .i64 .i64 C n hl hc hC (by rw [hz2]; omega) (by unfold maxLen; omega) (Nat.le_refl _) ?_
  intro w' hown hg
  exact h w' ⟨rfl, hown⟩ ((Below.refl _ _).grown hg (Nat.le_refl _) (fun k hk => by cases hk))

/-- 'make([]byte, n)'. -/
theorem w_maken {ops : Array Oper} {rest : List Oper} {o : Oper} {a : Act} {Q : Exit → Act → World → Prop} (w : World) (hgd : o.guard = none) (l c : Operand) (hop : o.op = Op.makeSlice 22 l c)
    (C : Int) (n : Nat) (hl : a.eval l = .int .i64 C) (hc : a.eval c = .int .i64 C) (hC : C = (n : Int)) (hb : n ≤ 140737488355328)
    (h : ∀ w', Own w' w.heap.size (some ⟨w.heap.size, 0, none⟩) n n (List.replicate n 0) → Below w.heap.size w w' → wpList Tryz.prog ops Q rest (a.put o.dst (.slice (some ⟨w.heap.size, 0, none⟩) n n)) w') :
    wpList Tryz.prog ops Q (o :: rest) a w := by
  obtain ⟨i0, hi, hz0, hz1, hz2⟩ := info_parts info5
  refine wpList_make_full w hgd l c 22 hop w.heap.size 5 i0 (.int .u8 0) 1 Tryz.underlying22 hi hz0 hz1 .i64 .i64 C C n hl hc hC hC (by rw [hz2]; omega) (by unfold maxLen; omega) (Nat.le_refl _) ?_
  intro w' hown hg
  refine h w' ⟨by simp, ?_⟩ ((Below.refl _ _).grown hg (Nat.le_refl _) (fun k hk => by cases hk))
  have e : (madeCells (Value.int .u8 0).cells (n * 1)).toList = bvals (List.replicate n 0) := by
    rw [Nat.mul_one]
    show (madeCells #[Value.int .u8 0] n).toList = _
    rw [toList_madeCells_one]
    simp [bvals]
  rw [e] at hown
  exact hown

end Go.Proofs.YtfpclkkkenekpaaGreat
