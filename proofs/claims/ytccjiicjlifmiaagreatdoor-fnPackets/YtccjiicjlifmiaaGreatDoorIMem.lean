/- Lists of numbers in memory: what is read, what a call owns, the walk's laws for append over them; and the laws' own helpers over them. -/
import Derived.Test.YtccjiicjlifmiaaGreatDoorSMem
set_option linter.unusedVariables false
set_option linter.unusedSimpArgs false
namespace Go.Proofs.YtccjiicjlifmiaaGreatDoor
open Go.RowKit

theorem info3 : (Tryz.prog.info? 3).map (fun i => (i.zero, i.size, i.bytes)) = some (some (.int .i64 0), 1, 8) := by kernel_rfl

def nt (zs : List Int) (i : Nat) : Int := zs.getD i 0
def ivals (zs : List Int) : List Value := zs.map fun z => Value.int .i64 z

theorem ivals_length (zs : List Int) : (ivals zs).length = zs.length := by simp [ivals]
theorem ivals_at (zs : List Int) (i : Nat) (h : i < zs.length) : (ivals zs)[i]? = some (.int .i64 (nt zs i)) := by
  simp only [ivals, nt, List.getElem?_map, List.getElem?_eq_getElem h, Option.map_some, List.getD_eq_getElem?_getD, Option.getD_some]

/-- A slice value that reads as the numbers. -/
def IRd (w : World) (ao : Option Addr) (n cap : Nat) (zs : List Int) : Prop :=
  (zs.length = n ∧ ∀ i, i < n → ∃ b off, ao = some ⟨b, off, none⟩ ∧ w.cell? ⟨b, off + i, none⟩ = some (.int .i64 (nt zs i))) ∧ n ≤ cap ∧ cap ≤ maxLen ∧ (ao = none → cap = 0)

theorem IRd.nil (w : World) : IRd w none 0 0 [] := ⟨⟨rfl, fun i hi => by omega⟩, Nat.le_refl _, Nat.zero_le _, fun _ => rfl⟩

/-- The slice value owns the numbers: its row is one of the call's own (from block B on). -/
def IOwn (w : World) (B : Nat) (ao : Option Addr) (n cap : Nat) (zs : List Int) : Prop := zs.length = n ∧ w.ownsRow B 3 1 (.slice ao n cap) n (ivals zs)

theorem IOwn.rd {w : World} {B : Nat} {ao : Option Addr} {n cap : Nat} {zs : List Int} (h : IOwn w B ao n cap zs) : IRd w ao n cap zs := by
  obtain ⟨hl, h1, h2⟩ := h
  rcases h2 with ⟨e, rfl⟩ | ⟨g, c, cur, e, hb, hg, hc, hm, hs, ht⟩
  · simp only [Value.slice.injEq] at e
    obtain ⟨rfl, _, rfl⟩ := e
    exact ⟨⟨hl, fun i hi => by omega⟩, Nat.le_refl _, Nat.zero_le _, fun _ => rfl⟩
  · simp only [Value.slice.injEq] at e
    obtain ⟨rfl, _, rfl⟩ := e
    refine ⟨⟨hl, fun i hi => ⟨g, 0, rfl, ?_⟩⟩, hc, hm, fun h => by simp at h⟩
    have own : w.ownsRow B 3 1 (.slice (some ⟨g, 0, none⟩) n cap) n (ivals zs) := ⟨h1, .inr ⟨g, cap, cur, rfl, hb, hg, hc, hm, hs, ht⟩⟩
    rw [Nat.zero_add, own.cellAt i (by omega), ivals_at zs i (by omega)]
theorem IOwn.block {w : World} {B : Nat} {ao : Option Addr} {n cap : Nat} {zs : List Int} (h : IOwn w B ao n cap zs) {a : Addr} (e : ao = some a) : B ≤ a.block ∧ a.block < w.heap.size := by
  subst e
  exact h.2.lt _ rfl
theorem IRd.below {w w' : World} {ao : Option Addr} {n cap : Nat} {zs : List Int} (h : IRd w ao n cap zs) (hb : Below w.heap.size w w') : IRd w' ao n cap zs := by
  refine ⟨⟨h.1.1, fun i hi => ?_⟩, h.2⟩
  obtain ⟨b, off, e, hc⟩ := h.1.2 i hi
  exact ⟨b, off, e, (hb.cell (World.block_lt_of_cell? w _ hc)).trans hc⟩
theorem IRd.lowly {w w' : World} {B : Nat} {ao : Option Addr} {n cap : Nat} {zs : List Int} (h : IRd w ao n cap zs) (hb : Below B w w') (hlt : ∀ a, ao = some a → a.block < B) : IRd w' ao n cap zs := by
  refine ⟨⟨h.1.1, fun i hi => ?_⟩, h.2⟩
  obtain ⟨b, off, e, hc⟩ := h.1.2 i hi
  exact ⟨b, off, e, (hb.cell (show b < B from hlt ⟨b, off, none⟩ e)).trans hc⟩
theorem IOwn.below {w w' : World} {B : Nat} {ao : Option Addr} {n cap : Nat} {zs : List Int} (h : IOwn w B ao n cap zs) (hb : Below w.heap.size w w') : IOwn w' B ao n cap zs := by
  refine ⟨h.1, h.2.1, ?_⟩
  rcases h.2.2 with hn | ⟨g, c, cur, e, hB, hg, rest⟩
  · exact .inl hn
  · exact .inr ⟨g, c, cur, e, hB, by rw [hb.block g (Array.getElem?_eq_some_iff.1 hg).1]; exact hg, rest⟩
theorem IOwn.grown {w w' : World} {B : Nat} {ao : Option Addr} {n cap : Nat} {zs : List Int} {row : Option Nat} (h : IOwn w B ao n cap zs) (hg : w.grownBy w' row) (hne : ∀ a, ao = some a → some a.block ≠ row) : IOwn w' B ao n cap zs := by
  refine ⟨h.1, h.2.kept hg ?_⟩
  cases ao with
  | none => exact .inl rfl
  | some a => exact .inr (hne a rfl)
theorem IOwn.frozen {w : World} {B : Nat} {g n cap : Nat} {zs : List Int} (h : IOwn w B (some ⟨g, 0, none⟩) n cap zs) (j : Nat) : w.frozen? ⟨g, j, none⟩ = false := h.2.frozenAt j
theorem IOwn.cell {w : World} {B : Nat} {g n cap : Nat} {zs : List Int} (h : IOwn w B (some ⟨g, 0, none⟩) n cap zs) (j : Nat) (hj : j < n) : w.cell? ⟨g, j, none⟩ = some (.int .i64 (nt zs j)) := by
  rw [h.2.cellAt j (by omega), ivals_at zs j (by rw [h.1]; exact hj)]
theorem IOwn.head {w : World} {B : Nat} {ao : Option Addr} {n cap : Nat} {zs : List Int} (h : IOwn w B ao n cap zs) (hn : 0 < n) : ∃ g, ao = some ⟨g, 0, none⟩ := by
  rcases h.2.2 with ⟨_, h0⟩ | ⟨g, c, cur, e, _⟩
  · omega
  · simp only [Value.slice.injEq] at e; exact ⟨g, e.1⟩
/-- A number stored into what is owned. -/
theorem IOwn.store {w : World} {B : Nat} {g n cap : Nat} {zs : List Int} (h : IOwn w B (some ⟨g, 0, none⟩) n cap zs) (j : Nat) (u : Int) :
    IOwn (w.setCell ⟨g, j, none⟩ (.int .i64 u)) B (some ⟨g, 0, none⟩) n cap (zs.set j u) := by
  refine ⟨by simpa using h.1, ?_⟩
  have := (h.2.stored j (.int .i64 u)).1
  have e : (ivals zs).set j (.int .i64 u) = ivals (zs.set j u) := by simp [ivals, List.map_set]
  rw [e] at this
  exact this
theorem iown_open {w : World} {B : Nat} {v : Value} {n : Nat} {zs : List Int} (hl : zs.length = n) (h : w.ownsRow B 3 1 v n (ivals zs)) : ∃ ao cap, v = .slice ao n cap ∧ IOwn w B ao n cap zs := by
  rcases h.2 with ⟨rfl, rfl⟩ | ⟨g, c, cur, rfl, _⟩
  · exact ⟨none, 0, rfl, hl, h⟩
  · exact ⟨_, _, rfl, hl, h⟩

/-- 'append(s, x)', s owned, x in a row of one number of its own. -/
theorem w_iapp {ops : Array Oper} {rest : List Oper} {o : Oper} {a : Act} {Q : Exit → Act → World → Prop} (w : World) (hgd : o.guard = none) (s x : Operand)
    (ho : o.op = .call { callee := .builtin .append, args := #[s, x], argTypes := #[26, 26] })
    (B : Nat) (ao : Option Addr) (n cap : Nat) (zs : List Int) (hs : a.eval s = .slice ao n cap) (hown : IOwn w B ao n cap zs)
    (ad : Nat) (u : Int) (hx : a.eval x = .slice (some ⟨ad, 0, none⟩) 1 1) (hc : w.cell? ⟨ad, 0, none⟩ = some (.int .i64 u)) (hb : n < 1099511627776) (hB : B ≤ w.heap.size)
    (h : ∀ ao' cap' w', IOwn w' B ao' (n + 1) cap' (zs ++ [u]) → w.grownBy w' (Value.slice ao n cap).ownBlock → wpList Tryz.prog ops Q rest (a.put o.dst (.slice ao' (n + 1) cap')) w') :
    wpList Tryz.prog ops Q (o :: rest) a w := by
  obtain ⟨i0, hi, hz0, hz1, hz2⟩ := info_parts info3
  have hlen : (zs ++ [u]).length = n + 1 := by rw [List.length_append, hown.1]; rfl
  refine wpList_append_own w hgd s x 26 ho B 3 i0 (.int .i64 0) 1 8 Tryz.underlying26 hi hz0 hz1 hz2 rfl (by decide) (.slice ao n cap) n (ivals zs) hs hown.2 ⟨ad, 0, none⟩ 1 1 [.int .i64 u] hx rfl ?_ (by intro v hv; simp at hv; subst hv; rfl) (by unfold maxLen; omega) (by omega) hB ?_
  · intro j v hv
    match j, hv with
    | 0, hv =>
      simp at hv
      subst hv
      exact hc
  · intro v' w' hv hg _
    have e : ivals zs ++ [.int .i64 u] = ivals (zs ++ [u]) := by simp [ivals]
    rw [e] at hv
    obtain ⟨ao', cap', rfl, hown'⟩ := iown_open hlen hv
    exact h ao' cap' w' hown' hg

theorem iown_lit0 (w : World) : IOwn (w.alloc (.cells #[] 3)) w.heap.size (some ⟨w.heap.size, 0, none⟩) 0 0 [] :=
  ⟨rfl, rfl, .inr ⟨w.heap.size, 0, #[], rfl, Nat.le_refl _, heap_alloc_new w _, Nat.le_refl _, Nat.zero_le _, rfl, rfl⟩⟩
theorem ibelow_grow {w w1 w2 : World} {B : Nat} {ao : Option Addr} {n cap : Nat} {zs : List Int} (hb : Below B w w1) (hB : B ≤ w1.heap.size) (ho : IOwn w1 B ao n cap zs) (hg : w1.grownBy w2 (Value.slice ao n cap).ownBlock) : Below B w w2 :=
  hb.grown hg hB (fun k hk => (ho.2.lt k hk).1)

set_option maxHeartbeats 400000 in
/-- laws.eqIntS, of the same numbers. -/
theorem eq_leqIntS (ao a1 : Option Addr) (n cap cap1 : Nat) (l : List Int) (w : World) (hr : IRd w ao n cap l) (h1 : IRd w a1 n cap1 l) (hn : n ≤ 1099511627776) :
    Calls Tryz.prog 98 #[.slice ao n cap, .slice a1 n cap1] w fun e w' => e = .returned (.bool true) ∧ Below w.heap.size w w' := by
  have hne : ((n : Int) != n) = false := by simp
  go_enter Tryz.func98, Tryz.ntmps98
  go_wp2
  go_loopw [5] (fun i wr => ∃ k : Nat, i = .int .i64 k ∧ k ≤ n ∧ Below w.heap.size w wr) (fun i _ => n - (intOf i).toNat)
  case atStart => exact ⟨0, rfl, Nat.zero_le _, Below.refl _ _⟩
  case round =>
    obtain ⟨k, rfl, hk, hb⟩ := hrel
    by_cases hlt : k < n
    · obtain ⟨b, off, e, hc⟩ := hr.1.2 k hlt
      subst e
      obtain ⟨b1, off1, e1, hc1⟩ := h1.1.2 k hlt
      subst e1
      have hck : wr.cell? ⟨b, off + k, none⟩ = some (.int .i64 (nt l k)) := (hb.cell (World.block_lt_of_cell? w _ hc)).trans hc
      have hck1 : wr.cell? ⟨b1, off1 + k, none⟩ = some (.int .i64 (nt l k)) := (hb.cell (World.block_lt_of_cell? w _ hc1)).trans hc1
      have hlt' : (k : Int) < n := by omega
      have k0 : (0 : Int) ≤ k := by omega
      have hbn : (nt l k != nt l k) = false := by simp
      clear hc hc1
      go_wp2
      go_quiet (fail)
      go_wp2
      go_roundw
      case rel => exact ⟨k + 1, by go_num, by omega, below_drewN hb _⟩
      case measure => simp [intOf]; omega
    · have hlt' : ¬ (k : Int) < n := by omega
      go_wp2
      go_ret
      exact ⟨rfl, hb⟩

/-- The marks from k on. -/
def imks (k n : Nat) : List Int := (List.range n).map fun i => ((k + i : Nat) : Int)
theorem imks_length (k n : Nat) : (imks k n).length = n := by simp [imks]
theorem imks_at (k n i : Nat) (h : i < n) : nt (imks k n) i = ((k + i : Nat) : Int) := by
  simp [nt, imks, List.getD_eq_getElem?_getD, h]
theorem imks_set (l : List Int) (k n j : Nat) (hl : l.length = n) (hj : j < n) : (imks k j ++ l.drop j).set j ((k + j : Nat) : Int) = imks k (j + 1) ++ l.drop (j + 1) := by
  rw [List.set_append_right _ _ (by rw [imks_length]; exact Nat.le_refl _), imks_length, Nat.sub_self]
  rw [List.drop_eq_getElem_cons (by omega), List.set_cons_zero]
  simp only [imks, List.range_succ, List.map_append, List.map_cons, List.map_nil, List.append_assoc]
  rfl

set_option maxHeartbeats 400000 in
/-- laws.markIntS. -/
theorem mark_lmarkIntS (B : Nat) (ao : Option Addr) (n cap k : Nat) (l : List Int) (w : World) (ho : IOwn w B ao n cap l) (hn : n ≤ 1099511627776) (hk : k ≤ 1099511627776) :
    Calls Tryz.prog 101 #[.slice ao n cap, .int .i64 k] w fun e w' => e = .returned (.int .i64 ((k + n : Nat) : Int)) ∧ IOwn w' B ao n cap (imks k n) ∧ Below B w w' := by
  have HL : Hid (l.length = n) := ho.1
  go_enter Tryz.func101, Tryz.ntmps101
  go_wp2
  go_loopw [1, 5] (fun q i wr => ∃ j : Nat, i = .int .i64 j ∧ q = .int .i64 ((k + j : Nat) : Int) ∧ j ≤ n ∧ IOwn wr B ao n cap (imks k j ++ l.drop j) ∧ Below B w wr) (fun _ i _ => n - (intOf i).toNat)
  case atStart => exact ⟨0, rfl, rfl, Nat.zero_le _, by simpa [imks] using ho, Below.refl _ _⟩
  case round =>
    obtain ⟨j, rfl, rfl, hj, hoj, hb⟩ := hrel
    by_cases hlt : j < n
    · obtain ⟨g, e⟩ := ho.head (by omega)
      subst e
      have hgB := (ho.block rfl).1
      have hlt' : (j : Int) < n := by omega
      have hz := hoj.cell j hlt
      have hf := hoj.frozen j
      have HO := hoj.store j ((k + j : Nat) : Int)
      rw [imks_set l k n j HL.out hlt] at HO
      have HO' : Hid (IOwn (wr.setCell ⟨g, j, none⟩ (.int .i64 ((k + j : Nat) : Int))) B (some ⟨g, 0, none⟩) n cap (imks k (j + 1) ++ l.drop (j + 1))) := HO
      have HB : Hid (Below B w (wr.setCell ⟨g, j, none⟩ (.int .i64 ((k + j : Nat) : Int)))) := hb.setCell (p := ⟨g, j, none⟩) hgB _
      clear HO hoj hb ho
      go_wp2
      go_roundw
      case rel => exact ⟨j + 1, by go_num, by go_num, by omega, by simpa using HO'.out, by simpa using HB.out⟩
      case measure => simp [intOf]; omega
    · have hlt' : ¬ (j : Int) < n := by omega
      obtain rfl : j = n := by omega
      go_wp2
      go_ret
      refine ⟨by simp, ?_, hb⟩
      have := HL.out
      rw [List.drop_of_length_le (by omega), List.append_nil] at hoj
      exact hoj

set_option maxHeartbeats 400000 in
/-- laws.heldIntS, of the marks themselves. -/
theorem held_lheldIntS (ao : Option Addr) (n cap k : Nat) (w : World) (hr : IRd w ao n cap (imks k n)) (hn : n ≤ 1099511627776) (hk : k ≤ 1099511627776) :
    Calls Tryz.prog 105 #[.slice ao n cap, .int .i64 k] w fun e w' => e = .returned (.int .i64 ((k + n : Nat) : Int)) ∧ w' = w := by
  go_enter Tryz.func105, Tryz.ntmps105
  go_wp2
  go_loop [1, 5] (fun q i => ∃ j : Nat, i = .int .i64 j ∧ q = .int .i64 ((k + j : Nat) : Int) ∧ j ≤ n) (fun _ i => n - (intOf i).toNat)
  case atStart => exact ⟨0, rfl, rfl, Nat.zero_le _⟩
  case round =>
    obtain ⟨j, rfl, rfl, hj⟩ := hrel
    by_cases hlt : j < n
    · obtain ⟨b, off, e, hc⟩ := hr.1.2 j hlt
      subst e
      rw [imks_at k n j hlt] at hc
      have hlt' : (j : Int) < n := by omega
      go_wp2
      go_round
      case rel => exact ⟨j + 1, by go_num, by go_num, by omega⟩
      case measure => simp [intOf]; omega
    · have hlt' : ¬ (j : Int) < n := by omega
      obtain rfl : j = n := by omega
      go_wp2
      go_ret
      exact ⟨by simp, rfl⟩

/-- 'make([]int, n)'. -/
theorem w_imaken {ops : Array Oper} {rest : List Oper} {o : Oper} {a : Act} {Q : Exit → Act → World → Prop} (w : World) (hgd : o.guard = none) (l c : Operand) (hop : o.op = Op.makeSlice 26 l c)
    (C : Int) (n : Nat) (hl : a.eval l = .int .i64 C) (hc : a.eval c = .int .i64 C) (hC : C = (n : Int)) (hb : n ≤ 1099511627776)
    (h : ∀ w', IOwn w' w.heap.size (some ⟨w.heap.size, 0, none⟩) n n (List.replicate n 0) → Below w.heap.size w w' → wpList Tryz.prog ops Q rest (a.put o.dst (.slice (some ⟨w.heap.size, 0, none⟩) n n)) w') :
    wpList Tryz.prog ops Q (o :: rest) a w := by
  obtain ⟨i0, hi, hz0, hz1, hz2⟩ := info_parts info3
  refine wpList_make_full w hgd l c 26 hop w.heap.size 3 i0 (.int .i64 0) 1 Tryz.underlying26 hi hz0 hz1 .i64 .i64 C C n hl hc hC hC (by rw [hz2]; omega) (by unfold maxLen; omega) (Nat.le_refl _) ?_
  intro w' hown hg
  refine h w' ⟨by simp, ?_⟩ ((Below.refl _ _).grown hg (Nat.le_refl _) (fun k hk => by cases hk))
  have e : (madeCells (Value.int .i64 0).cells (n * 1)).toList = ivals (List.replicate n 0) := by
    rw [Nat.mul_one]
    show (madeCells #[Value.int .i64 0] n).toList = _
    rw [toList_madeCells_one]
    simp [ivals]
  rw [e] at hown
  exact hown

theorem iset_take (l : List Int) (n k : Nat) (hl : l.length = n) (hk : k < n) : (l.take k ++ List.replicate (n - k) 0).set k (nt l k) = l.take (k + 1) ++ List.replicate (n - (k + 1)) 0 := by
  rw [List.set_append_right _ _ (by simp; omega)]
  rw [List.length_take, hl, Nat.min_eq_left (by omega), Nat.sub_self]
  rw [show n - k = (n - (k + 1)) + 1 from by omega, List.replicate_succ, List.set_cons_zero]
  rw [List.take_succ_eq_append_getElem (by omega)]
  have e : nt l k = l[k]'(by omega) := by simp [nt, List.getD_eq_getElem?_getD, List.getElem?_eq_getElem (show k < l.length by omega)]
  rw [e, List.append_assoc]
  rfl

end Go.Proofs.YtccjiicjlifmiaaGreatDoor
