/- Texts that the law FnExactBufOk uses. -/
import Derived.Lib.AppendStr
import Derived.Laws.AppendOwnNone
import Derived.Test.YtccjiicjlifmiaaGreatDoorR01
set_option linter.unusedVariables false
set_option linter.unusedSimpArgs false
set_option maxRecDepth 100000
set_option maxHeartbeats 20000000
namespace Go.Proofs.YtccjiicjlifmiaaGreatDoor
open Go.RowKit

theorem bel2 {w w1 w2 : World} (h1 : Below w.heap.size w w1) (h2 : Below w1.heap.size w1 w2) : Below w.heap.size w w2 := h1.trans (h2.mono h1.size)

theorem info9 : (Tryz.prog.info? 9).map (fun i => (i.zero, i.size, i.bytes)) = some (some (.string ByteArray.empty), 1, 16) := by kernel_rfl

def st (ss : List ByteArray) (i : Nat) : ByteArray := ss.getD i ByteArray.empty
def svals (ss : List ByteArray) : List Value := ss.map Value.string
def dats (ss : List ByteArray) : List (List UInt8) := ss.map fun s => s.data.toList

theorem qfw (ss : List ByteArray) : (svals ss).length = ss.length := by simp [svals]
theorem svals_at (ss : List ByteArray) (i : Nat) (h : i < ss.length) : (svals ss)[i]? = some (.string (st ss i)) := by
 simp only [svals, st, List.getElem?_map, List.getElem?_eq_getElem h, Option.map_some, List.getD_eq_getElem?_getD, Option.getD_some]
theorem qsa (ss : List ByteArray) : (dats ss).length = ss.length := by simp [dats]
theorem dats_at (ss : List ByteArray) (i : Nat) (h : i < ss.length) : (dats ss).getD i [] = (st ss i).data.toList := by
 simp only [dats, st, List.getD_eq_getElem?_getD, List.getElem?_map, List.getElem?_eq_getElem h, Option.map_some, Option.getD_some]
theorem dats_inj {a b : List ByteArray} (h : dats a = dats b) : a = b := by
 apply List.map_inj_right (f := fun s : ByteArray => s.data.toList) (fun x y e => ?_) |>.1 h
 cases x; cases y
 simpa using e

def SRd (w : World) (ao : Option Addr) (n cap : Nat) (ss : List ByteArray) : Prop :=
 (ss.length = n ∧ ∀ i, i < n → ∃ b off, ao = some ⟨b, off, none⟩ ∧ w.cell? ⟨b, off + i, none⟩ = some (.string (st ss i))) ∧ n ≤ cap ∧ cap ≤ maxLen ∧ (ao = none → cap = 0)

theorem SRd.nil (w : World) : SRd w none 0 0 [] := ⟨⟨rfl, fun i hi => by omega⟩, Nat.le_refl _, Nat.zero_le _, fun _ => rfl⟩

def SOwn (w : World) (B : Nat) (ao : Option Addr) (n cap : Nat) (ss : List ByteArray) : Prop := ss.length = n ∧ w.ownsRow B 9 1 (.slice ao n cap) n (svals ss)

theorem SOwn.rd {w : World} {B : Nat} {ao : Option Addr} {n cap : Nat} {ss : List ByteArray} (h : SOwn w B ao n cap ss) : SRd w ao n cap ss := by
 obtain ⟨hl, h1, h2⟩ := h
 rcases h2 with ⟨e, rfl⟩ | ⟨g, c, cur, e, hb, hg, hc, hm, hs, ht⟩
 ·simp only [Value.slice.injEq] at e
  obtain ⟨rfl, _, rfl⟩ := e
  exact ⟨⟨hl, fun i hi => by omega⟩, Nat.le_refl _, Nat.zero_le _, fun _ => rfl⟩
 ·simp only [Value.slice.injEq] at e
  obtain ⟨rfl, _, rfl⟩ := e
  refine ⟨⟨hl, fun i hi => ⟨g, 0, rfl, ?_⟩⟩, hc, hm, fun h => by simp at h⟩
  have own : w.ownsRow B 9 1 (.slice (some ⟨g, 0, none⟩) n cap) n (svals ss) := ⟨h1, .inr ⟨g, cap, cur, rfl, hb, hg, hc, hm, hs, ht⟩⟩
  rw [Nat.zero_add, own.cellAt i (by omega), svals_at ss i (by omega)]
theorem SOwn.block {w : World} {B : Nat} {ao : Option Addr} {n cap : Nat} {ss : List ByteArray} (h : SOwn w B ao n cap ss) {a : Addr} (e : ao = some a) : B ≤ a.block ∧ a.block < w.heap.size := by
 subst e
 exact h.2.lt _ rfl
theorem SRd.below {w w' : World} {ao : Option Addr} {n cap : Nat} {ss : List ByteArray} (h : SRd w ao n cap ss) (hb : Below w.heap.size w w') : SRd w' ao n cap ss := by
 refine ⟨⟨h.1.1, fun i hi => ?_⟩, h.2⟩
 obtain ⟨b, off, e, hc⟩ := h.1.2 i hi
 exact ⟨b, off, e, (hb.cell (World.block_lt_of_cell? w _ hc)).trans hc⟩
theorem SOwn.below {w w' : World} {B : Nat} {ao : Option Addr} {n cap : Nat} {ss : List ByteArray} (h : SOwn w B ao n cap ss) (hb : Below w.heap.size w w') : SOwn w' B ao n cap ss := by
 refine ⟨h.1, h.2.1, ?_⟩
 rcases h.2.2 with hn | ⟨g, c, cur, e, hB, hg, rest⟩
 ·exact .inl hn
 ·exact .inr ⟨g, c, cur, e, hB, by rw [hb.block g (Array.getElem?_eq_some_iff.1 hg).1]; exact hg, rest⟩
theorem SOwn.mono {w : World} {B B' : Nat} {ao : Option Addr} {n cap : Nat} {ss : List ByteArray} (h : SOwn w B ao n cap ss) (hB : B' ≤ B) : SOwn w B' ao n cap ss := by
 refine ⟨h.1, h.2.1, ?_⟩
 rcases h.2.2 with hn | ⟨g, c, cur, e, hb, rest⟩
 ·exact .inl hn
 ·exact .inr ⟨g, c, cur, e, by omega, rest⟩
theorem SRd.grown {w w' : World} {ao : Option Addr} {n cap : Nat} {ss : List ByteArray} {row : Option Nat} (h : SRd w ao n cap ss) (hg : w.grownBy w' row) (hne : ∀ a, ao = some a → some a.block ≠ row) : SRd w' ao n cap ss := by
 refine ⟨⟨h.1.1, fun i hi => ?_⟩, h.2⟩
 obtain ⟨b, off, e, hc⟩ := h.1.2 i hi
 exact ⟨b, off, e, hg.cell hc (show some b ≠ row from hne ⟨b, off, none⟩ e)⟩
theorem SOwn.grown {w w' : World} {B : Nat} {ao : Option Addr} {n cap : Nat} {ss : List ByteArray} {row : Option Nat} (h : SOwn w B ao n cap ss) (hg : w.grownBy w' row) (hne : ∀ a, ao = some a → some a.block ≠ row) : SOwn w' B ao n cap ss := by
 refine ⟨h.1, h.2.kept hg ?_⟩
 cases ao with
 | none => exact .inl rfl
 | some a => exact .inr (hne a rfl)
theorem SOwn.frozen {w : World} {B : Nat} {g n cap : Nat} {ss : List ByteArray} (h : SOwn w B (some ⟨g, 0, none⟩) n cap ss) (j : Nat) : w.frozen? ⟨g, j, none⟩ = false := h.2.frozenAt j
theorem SOwn.cell {w : World} {B : Nat} {g n cap : Nat} {ss : List ByteArray} (h : SOwn w B (some ⟨g, 0, none⟩) n cap ss) (j : Nat) (hj : j < n) : w.cell? ⟨g, j, none⟩ = some (.string (st ss j)) := by
 rw [h.2.cellAt j (by omega), svals_at ss j (by rw [h.1]; exact hj)]
theorem SOwn.head {w : World} {B : Nat} {ao : Option Addr} {n cap : Nat} {ss : List ByteArray} (h : SOwn w B ao n cap ss) (hn : 0 < n) : ∃ g, ao = some ⟨g, 0, none⟩ := by
 rcases h.2.2 with ⟨_, h0⟩ | ⟨g, c, cur, e, _⟩
 ·omega
 ·simp only [Value.slice.injEq] at e; exact ⟨g, e.1⟩
theorem SOwn.store {w : World} {B : Nat} {g n cap : Nat} {ss : List ByteArray} (h : SOwn w B (some ⟨g, 0, none⟩) n cap ss) (j : Nat) (u : ByteArray) :
  SOwn (w.setCell ⟨g, j, none⟩ (.string u)) B (some ⟨g, 0, none⟩) n cap (ss.set j u) := by
 refine ⟨by simpa using h.1, ?_⟩
 have := (h.2.stored j (.string u)).1
 have e : (svals ss).set j (.string u) = svals (ss.set j u) := by simp [svals, List.map_set]
 rw [e] at this
 exact this
theorem sown_open {w : World} {B : Nat} {v : Value} {n : Nat} {ss : List ByteArray} (hl : ss.length = n) (h : w.ownsRow B 9 1 v n (svals ss)) : ∃ ao cap, v = .slice ao n cap ∧ SOwn w B ao n cap ss := by
 rcases h.2 with ⟨rfl, rfl⟩ | ⟨g, c, cur, rfl, _⟩
 ·exact ⟨none, 0, rfl, hl, h⟩
 ·exact ⟨_, _, rfl, hl, h⟩

theorem w_sapp {ops : Array Oper} {rest : List Oper} {o : Oper} {a : Act} {Q : Exit → Act → World → Prop} (w : World) (hgd : o.guard = none) (s x : Operand)
  (ho : o.op = .call { callee := .builtin .append, args := #[s, x], argTypes := #[25, 25] })
  (B : Nat) (ao : Option Addr) (n cap : Nat) (ss : List ByteArray) (hs : a.eval s = .slice ao n cap) (hown : SOwn w B ao n cap ss)
  (ad : Nat) (u : ByteArray) (hx : a.eval x = .slice (some ⟨ad, 0, none⟩) 1 1) (hc : w.cell? ⟨ad, 0, none⟩ = some (.string u)) (hb : n < 1099511627776) (hB : B ≤ w.heap.size)
  (h : ∀ ao' cap' w', SOwn w' B ao' (n + 1) cap' (ss ++ [u]) → w.grownBy w' (Value.slice ao n cap).ownBlock → wpList Tryz.prog ops Q rest (a.put o.dst (.slice ao' (n + 1) cap')) w') :
  wpList Tryz.prog ops Q (o :: rest) a w := by
 obtain ⟨i0, hi, hz0, hz1, hz2⟩ := info_parts info9
 have hlen : (ss ++ [u]).length = n + 1 := by rw [List.length_append, hown.1]; rfl
 refine wpList_append_own w hgd s x 25 ho B 9 i0 (.string ByteArray.empty) 1 16 Tryz.underlying25 hi hz0 hz1 hz2 rfl (by decide) (.slice ao n cap) n (svals ss) hs hown.2 ⟨ad, 0, none⟩ 1 1 [.string u] hx rfl ?_ (by intro v hv; simp at hv; subst hv; rfl) (by unfold maxLen; omega) (by omega) hB ?_
 ·intro j v hv
  match j, hv with
  | 0, hv =>
   simp at hv
   subst hv
   exact hc
 ·intro v' w' hv hg _
  have e : svals ss ++ [.string u] = svals (ss ++ [u]) := by simp [svals]
  rw [e] at hv
  obtain ⟨ao', cap', rfl, hown'⟩ := sown_open hlen hv
  exact h ao' cap' w' hown' hg


def tot (ss : List ByteArray) : Nat := (ss.map ByteArray.size).sum
theorem qrn {ss : List ByteArray} {k : Nat} (h : k < ss.length) : st ss k ∈ ss := by
 have e : st ss k = ss[k]'h := by simp [st, List.getD_eq_getElem?_getD, List.getElem?_eq_getElem h]
 rw [e]; exact List.getElem_mem h


theorem info3 : (Tryz.prog.info? 3).map (fun i => (i.zero, i.size, i.bytes)) = some (some (.int .i64 0), 1, 8) := by kernel_rfl

def nt (zs : List Int) (i : Nat) : Int := zs.getD i 0
def ivals (zs : List Int) : List Value := zs.map fun z => Value.int .i64 z

theorem ivals_at (zs : List Int) (i : Nat) (h : i < zs.length) : (ivals zs)[i]? = some (.int .i64 (nt zs i)) := by
 simp only [ivals, nt, List.getElem?_map, List.getElem?_eq_getElem h, Option.map_some, List.getD_eq_getElem?_getD, Option.getD_some]

def IRd (w : World) (ao : Option Addr) (n cap : Nat) (zs : List Int) : Prop :=
 (zs.length = n ∧ ∀ i, i < n → ∃ b off, ao = some ⟨b, off, none⟩ ∧ w.cell? ⟨b, off + i, none⟩ = some (.int .i64 (nt zs i))) ∧ n ≤ cap ∧ cap ≤ maxLen ∧ (ao = none → cap = 0)

theorem IRd.nil (w : World) : IRd w none 0 0 [] := ⟨⟨rfl, fun i hi => by omega⟩, Nat.le_refl _, Nat.zero_le _, fun _ => rfl⟩

def IOwn (w : World) (B : Nat) (ao : Option Addr) (n cap : Nat) (zs : List Int) : Prop := zs.length = n ∧ w.ownsRow B 3 1 (.slice ao n cap) n (ivals zs)

theorem IOwn.rd {w : World} {B : Nat} {ao : Option Addr} {n cap : Nat} {zs : List Int} (h : IOwn w B ao n cap zs) : IRd w ao n cap zs := by
 obtain ⟨hl, h1, h2⟩ := h
 rcases h2 with ⟨e, rfl⟩ | ⟨g, c, cur, e, hb, hg, hc, hm, hs, ht⟩
 ·simp only [Value.slice.injEq] at e
  obtain ⟨rfl, _, rfl⟩ := e
  exact ⟨⟨hl, fun i hi => by omega⟩, Nat.le_refl _, Nat.zero_le _, fun _ => rfl⟩
 ·simp only [Value.slice.injEq] at e
  obtain ⟨rfl, _, rfl⟩ := e
  refine ⟨⟨hl, fun i hi => ⟨g, 0, rfl, ?_⟩⟩, hc, hm, fun h => by simp at h⟩
  have own : w.ownsRow B 3 1 (.slice (some ⟨g, 0, none⟩) n cap) n (ivals zs) := ⟨h1, .inr ⟨g, cap, cur, rfl, hb, hg, hc, hm, hs, ht⟩⟩
  rw [Nat.zero_add, own.cellAt i (by omega), ivals_at zs i (by omega)]
theorem IOwn.block {w : World} {B : Nat} {ao : Option Addr} {n cap : Nat} {zs : List Int} (h : IOwn w B ao n cap zs) {a : Addr} (e : ao = some a) : B ≤ a.block ∧ a.block < w.heap.size := by
 subst e
 exact h.2.lt _ rfl
theorem IRd.below {w w' : World} {ao : Option Addr} {n cap : Nat} {zs : List Int} (h : IRd w ao n cap zs) (hb : Below w.heap.size w w') : IRd w' ao n cap zs := by
 refine ⟨⟨h.1.1, fun i hi => ?_⟩, h.2⟩
 obtain ⟨b, off, e, hc⟩ := h.1.2 i hi
 exact ⟨b, off, e, (hb.cell (World.block_lt_of_cell? w _ hc)).trans hc⟩
theorem IOwn.below {w w' : World} {B : Nat} {ao : Option Addr} {n cap : Nat} {zs : List Int} (h : IOwn w B ao n cap zs) (hb : Below w.heap.size w w') : IOwn w' B ao n cap zs := by
 refine ⟨h.1, h.2.1, ?_⟩
 rcases h.2.2 with hn | ⟨g, c, cur, e, hB, hg, rest⟩
 ·exact .inl hn
 ·exact .inr ⟨g, c, cur, e, hB, by rw [hb.block g (Array.getElem?_eq_some_iff.1 hg).1]; exact hg, rest⟩
theorem IOwn.grown {w w' : World} {B : Nat} {ao : Option Addr} {n cap : Nat} {zs : List Int} {row : Option Nat} (h : IOwn w B ao n cap zs) (hg : w.grownBy w' row) (hne : ∀ a, ao = some a → some a.block ≠ row) : IOwn w' B ao n cap zs := by
 refine ⟨h.1, h.2.kept hg ?_⟩
 cases ao with
 | none => exact .inl rfl
 | some a => exact .inr (hne a rfl)
theorem IOwn.frozen {w : World} {B : Nat} {g n cap : Nat} {zs : List Int} (h : IOwn w B (some ⟨g, 0, none⟩) n cap zs) (j : Nat) : w.frozen? ⟨g, j, none⟩ = false := h.2.frozenAt j
theorem IOwn.cell {w : World} {B : Nat} {g n cap : Nat} {zs : List Int} (h : IOwn w B (some ⟨g, 0, none⟩) n cap zs) (j : Nat) (hj : j < n) : w.cell? ⟨g, j, none⟩ = some (.int .i64 (nt zs j)) := by
 rw [h.2.cellAt j (by omega), ivals_at zs j (by rw [h.1]; exact hj)]
theorem IOwn.head {w : World} {B : Nat} {ao : Option Addr} {n cap : Nat} {zs : List Int} (h : IOwn w B ao n cap zs) (hn : 0 < n) : ∃ g, ao = some ⟨g, 0, none⟩ := by
 rcases h.2.2 with ⟨_, h0⟩ | ⟨g, c, cur, e, _⟩
 ·omega
 ·simp only [Value.slice.injEq] at e; exact ⟨g, e.1⟩
theorem IOwn.store {w : World} {B : Nat} {g n cap : Nat} {zs : List Int} (h : IOwn w B (some ⟨g, 0, none⟩) n cap zs) (j : Nat) (u : Int) :
  IOwn (w.setCell ⟨g, j, none⟩ (.int .i64 u)) B (some ⟨g, 0, none⟩) n cap (zs.set j u) := by
 refine ⟨by simpa using h.1, ?_⟩
 have := (h.2.stored j (.int .i64 u)).1
 have e : (ivals zs).set j (.int .i64 u) = ivals (zs.set j u) := by simp [ivals, List.map_set]
 rw [e] at this
 exact this
theorem qqv {w : World} {B : Nat} {v : Value} {n : Nat} {zs : List Int} (hl : zs.length = n) (h : w.ownsRow B 3 1 v n (ivals zs)) : ∃ ao cap, v = .slice ao n cap ∧ IOwn w B ao n cap zs := by
 rcases h.2 with ⟨rfl, rfl⟩ | ⟨g, c, cur, rfl, _⟩
 ·exact ⟨none, 0, rfl, hl, h⟩
 ·exact ⟨_, _, rfl, hl, h⟩

theorem w_iapp {ops : Array Oper} {rest : List Oper} {o : Oper} {a : Act} {Q : Exit → Act → World → Prop} (w : World) (hgd : o.guard = none) (s x : Operand)
  (ho : o.op = .call { callee := .builtin .append, args := #[s, x], argTypes := #[26, 26] })
  (B : Nat) (ao : Option Addr) (n cap : Nat) (zs : List Int) (hs : a.eval s = .slice ao n cap) (hown : IOwn w B ao n cap zs)
  (ad : Nat) (u : Int) (hx : a.eval x = .slice (some ⟨ad, 0, none⟩) 1 1) (hc : w.cell? ⟨ad, 0, none⟩ = some (.int .i64 u)) (hb : n < 1099511627776) (hB : B ≤ w.heap.size)
  (h : ∀ ao' cap' w', IOwn w' B ao' (n + 1) cap' (zs ++ [u]) → w.grownBy w' (Value.slice ao n cap).ownBlock → wpList Tryz.prog ops Q rest (a.put o.dst (.slice ao' (n + 1) cap')) w') :
  wpList Tryz.prog ops Q (o :: rest) a w := by
 obtain ⟨i0, hi, hz0, hz1, hz2⟩ := info_parts info3
 have hlen : (zs ++ [u]).length = n + 1 := by rw [List.length_append, hown.1]; rfl
 refine wpList_append_own w hgd s x 26 ho B 3 i0 (.int .i64 0) 1 8 Tryz.underlying26 hi hz0 hz1 hz2 rfl (by decide) (.slice ao n cap) n (ivals zs) hs hown.2 ⟨ad, 0, none⟩ 1 1 [.int .i64 u] hx rfl ?_ (by intro v hv; simp at hv; subst hv; rfl) (by unfold maxLen; omega) (by omega) hB ?_
 ·intro j v hv
  match j, hv with
  | 0, hv =>
   simp at hv
   subst hv
   exact hc
 ·intro v' w' hv hg _
  have e : ivals zs ++ [.int .i64 u] = ivals (zs ++ [u]) := by simp [ivals]
  rw [e] at hv
  obtain ⟨ao', cap', rfl, hown'⟩ := qqv hlen hv
  exact h ao' cap' w' hown' hg


theorem qeq (n : Int) : (BitVec.ofInt 64 n).toNat = (n % 18446744073709551616).toNat := by
 rw [BitVec.toNat_ofInt]
 rfl

theorem qme (m : Nat) (h : m < 9223372036854775808) : IntKind.i64.wrap (m : Int) = m := by
 rw [IntKind.wrap_i64]
 omega

theorem mask7 (n : Int) : bits .and .i64 n 7 = n % 8 := by
 show IntKind.i64.wrap (((BitVec.ofInt 64 n &&& BitVec.ofInt 64 7) : BitVec 64).toNat : Int) = _
 rw [BitVec.toNat_and, qeq, qeq, show ((7 : Int) % 18446744073709551616).toNat = 2 ^ 3 - 1 from by decide, Nat.and_two_pow_sub_one_eq_mod]
 have h := Nat.mod_lt (n % 18446744073709551616).toNat (show 0 < 2 ^ 3 by decide)
 rw [show (2 : Nat) ^ 3 = 8 from by decide] at *
 rw [qme _ (by omega)]
 omega

theorem mask15 (n : Int) : bits .and .i64 n 15 = n % 16 := by
 show IntKind.i64.wrap (((BitVec.ofInt 64 n &&& BitVec.ofInt 64 15) : BitVec 64).toNat : Int) = _
 rw [BitVec.toNat_and, qeq, qeq, show ((15 : Int) % 18446744073709551616).toNat = 2 ^ 4 - 1 from by decide, Nat.and_two_pow_sub_one_eq_mod]
 have h := Nat.mod_lt (n % 18446744073709551616).toNat (show 0 < 2 ^ 4 by decide)
 rw [show (2 : Nat) ^ 4 = 16 from by decide] at *
 rw [qme _ (by omega)]
 omega

theorem mask31 (n : Int) : bits .and .i64 n 31 = n % 32 := by
 show IntKind.i64.wrap (((BitVec.ofInt 64 n &&& BitVec.ofInt 64 31) : BitVec 64).toNat : Int) = _
 rw [BitVec.toNat_and, qeq, qeq, show ((31 : Int) % 18446744073709551616).toNat = 2 ^ 5 - 1 from by decide, Nat.and_two_pow_sub_one_eq_mod]
 have h := Nat.mod_lt (n % 18446744073709551616).toNat (show 0 < 2 ^ 5 by decide)
 rw [show (2 : Nat) ^ 5 = 32 from by decide] at *
 rw [qme _ (by omega)]
 omega

theorem mask255 (n : Int) : bits .and .i64 n 255 = n % 256 := by
 show IntKind.i64.wrap (((BitVec.ofInt 64 n &&& BitVec.ofInt 64 255) : BitVec 64).toNat : Int) = _
 rw [BitVec.toNat_and, qeq, qeq, show ((255 : Int) % 18446744073709551616).toNat = 2 ^ 8 - 1 from by decide, Nat.and_two_pow_sub_one_eq_mod]
 have h := Nat.mod_lt (n % 18446744073709551616).toNat (show 0 < 2 ^ 8 by decide)
 rw [show (2 : Nat) ^ 8 = 256 from by decide] at *
 rw [qme _ (by omega)]
 omega

end Go.Proofs.YtccjiicjlifmiaaGreatDoor
