/- Lists of strings in memory: what is read, what a call owns, the walk's laws for append and make over them; and the laws' own helpers over them. How much a list of strings is; levels put together by the specification. -/
import Derived.Test.YtccjiicjlifmiaaGreatDoorHids
import Derived.Lib.AppendStr
import Derived.Laws.AppendOwnNone
set_option linter.unusedVariables false
set_option linter.unusedSimpArgs false
namespace Go.Proofs.YtccjiicjlifmiaaGreatDoor
open Go.RowKit

theorem bel2 {w w1 w2 : World} (h1 : Below w.heap.size w w1) (h2 : Below w1.heap.size w1 w2) : Below w.heap.size w w2 := h1.trans (h2.mono h1.size)

theorem ba_eq {s : ByteArray} {l : List UInt8} (h : s.data.toList = l) : s = ⟨l.toArray⟩ := by
  subst h
  rfl

theorem info9 : (Tryz.prog.info? 9).map (fun i => (i.zero, i.size, i.bytes)) = some (some (.string ByteArray.empty), 1, 16) := by kernel_rfl

def st (ss : List ByteArray) (i : Nat) : ByteArray := ss.getD i ByteArray.empty
def svals (ss : List ByteArray) : List Value := ss.map Value.string
def dats (ss : List ByteArray) : List (List UInt8) := ss.map fun s => s.data.toList

theorem svals_length (ss : List ByteArray) : (svals ss).length = ss.length := by simp [svals]
theorem svals_append (l m : List ByteArray) : svals (l ++ m) = svals l ++ svals m := by simp [svals]
theorem svals_one (ss : List ByteArray) : ∀ u ∈ svals ss, u.oneCell' = true := by
  intro u hu
  simp only [svals, List.mem_map] at hu
  obtain ⟨b, _, rfl⟩ := hu
  rfl
theorem svals_at (ss : List ByteArray) (i : Nat) (h : i < ss.length) : (svals ss)[i]? = some (.string (st ss i)) := by
  simp only [svals, st, List.getElem?_map, List.getElem?_eq_getElem h, Option.map_some, List.getD_eq_getElem?_getD, Option.getD_some]
theorem dats_length (ss : List ByteArray) : (dats ss).length = ss.length := by simp [dats]
theorem dats_at (ss : List ByteArray) (i : Nat) (h : i < ss.length) : (dats ss).getD i [] = (st ss i).data.toList := by
  simp only [dats, st, List.getD_eq_getElem?_getD, List.getElem?_map, List.getElem?_eq_getElem h, Option.map_some, Option.getD_some]
theorem dats_inj {a b : List ByteArray} (h : dats a = dats b) : a = b := by
  apply List.map_inj_right (f := fun s : ByteArray => s.data.toList) (fun x y e => ?_) |>.1 h
  cases x; cases y
  simpa using e

/-- A slice value that reads as the strings. -/
def SRd (w : World) (ao : Option Addr) (n cap : Nat) (ss : List ByteArray) : Prop :=
  (ss.length = n ∧ ∀ i, i < n → ∃ b off, ao = some ⟨b, off, none⟩ ∧ w.cell? ⟨b, off + i, none⟩ = some (.string (st ss i))) ∧ n ≤ cap ∧ cap ≤ maxLen ∧ (ao = none → cap = 0)

theorem SRd.nil (w : World) : SRd w none 0 0 [] := ⟨⟨rfl, fun i hi => by omega⟩, Nat.le_refl _, Nat.zero_le _, fun _ => rfl⟩

theorem SRd.of_cells {w : World} {x : Addr} {len cap m : Nat} {Sx : Nat → ByteArray} (hl : len ≤ cap) (hm : cap ≤ maxLen) (hlm : len ≤ m)
    (hcell : ∀ i, i < m → w.cell? (x.add i) = some (.string (Sx i)) ∧ (Sx i).size ≤ maxLen) : ∃ ss, SRd w (some x) len cap ss ∧ ∀ s ∈ ss, s.size ≤ maxLen := by
  refine ⟨(List.range len).map Sx, ⟨⟨by simp, fun i hi => ?_⟩, hl, hm, fun h => by simp at h⟩, fun s hs => ?_⟩
  · obtain ⟨b, off, spot⟩ := x
    have hc0 := (hcell 0 (by omega)).1
    have hspot : spot = none := by simpa [Addr.add] using World.cell?_spot hc0
    subst hspot
    refine ⟨b, off, rfl, ?_⟩
    have hc := (hcell i (by omega)).1
    rw [Addr.add_lit] at hc
    rw [hc]
    simp [st, List.getD_eq_getElem?_getD, List.getElem?_map, List.getElem?_range hi]
  · simp only [List.mem_map, List.mem_range] at hs
    obtain ⟨i, hi, rfl⟩ := hs
    exact (hcell i (by omega)).2

/-- The slice value owns the strings: its row is one of the call's own (from block B on). -/
def SOwn (w : World) (B : Nat) (ao : Option Addr) (n cap : Nat) (ss : List ByteArray) : Prop := ss.length = n ∧ w.ownsRow B 9 1 (.slice ao n cap) n (svals ss)

theorem SOwn.rd {w : World} {B : Nat} {ao : Option Addr} {n cap : Nat} {ss : List ByteArray} (h : SOwn w B ao n cap ss) : SRd w ao n cap ss := by
  obtain ⟨hl, h1, h2⟩ := h
  rcases h2 with ⟨e, rfl⟩ | ⟨g, c, cur, e, hb, hg, hc, hm, hs, ht⟩
  · simp only [Value.slice.injEq] at e
    obtain ⟨rfl, _, rfl⟩ := e
    exact ⟨⟨hl, fun i hi => by omega⟩, Nat.le_refl _, Nat.zero_le _, fun _ => rfl⟩
  · simp only [Value.slice.injEq] at e
    obtain ⟨rfl, _, rfl⟩ := e
    refine ⟨⟨hl, fun i hi => ⟨g, 0, rfl, ?_⟩⟩, hc, hm, fun h => by simp at h⟩
    have own : w.ownsRow B 9 1 (.slice (some ⟨g, 0, none⟩) n cap) n (svals ss) := ⟨h1, .inr ⟨g, cap, cur, rfl, hb, hg, hc, hm, hs, ht⟩⟩
    rw [Nat.zero_add, own.cellAt i (by omega), svals_at ss i (by omega)]
theorem SOwn.block {w : World} {B : Nat} {ao : Option Addr} {n cap : Nat} {ss : List ByteArray} (h : SOwn w B ao n cap ss) {a : Addr} (e : ao = some a) : B ≤ a.block ∧ a.block < w.heap.size := by
  subst e
  exact h.2.lt _ rfl
theorem SRd.below {w w' : World} {ao : Option Addr} {n cap : Nat} {ss : List ByteArray} (h : SRd w ao n cap ss) (hb : Below w.heap.size w w') : SRd w' ao n cap ss := by
  refine ⟨⟨h.1.1, fun i hi => ?_⟩, h.2⟩
  obtain ⟨b, off, e, hc⟩ := h.1.2 i hi
  exact ⟨b, off, e, (hb.cell (World.block_lt_of_cell? w _ hc)).trans hc⟩
theorem SOwn.below {w w' : World} {B : Nat} {ao : Option Addr} {n cap : Nat} {ss : List ByteArray} (h : SOwn w B ao n cap ss) (hb : Below w.heap.size w w') : SOwn w' B ao n cap ss := by
  refine ⟨h.1, h.2.1, ?_⟩
  rcases h.2.2 with hn | ⟨g, c, cur, e, hB, hg, rest⟩
  · exact .inl hn
  · exact .inr ⟨g, c, cur, e, hB, by rw [hb.block g (Array.getElem?_eq_some_iff.1 hg).1]; exact hg, rest⟩
theorem SOwn.mono {w : World} {B B' : Nat} {ao : Option Addr} {n cap : Nat} {ss : List ByteArray} (h : SOwn w B ao n cap ss) (hB : B' ≤ B) : SOwn w B' ao n cap ss := by
  refine ⟨h.1, h.2.1, ?_⟩
  rcases h.2.2 with hn | ⟨g, c, cur, e, hb, rest⟩
  · exact .inl hn
  · exact .inr ⟨g, c, cur, e, by omega, rest⟩
theorem SRd.grown {w w' : World} {ao : Option Addr} {n cap : Nat} {ss : List ByteArray} {row : Option Nat} (h : SRd w ao n cap ss) (hg : w.grownBy w' row) (hne : ∀ a, ao = some a → some a.block ≠ row) : SRd w' ao n cap ss := by
  refine ⟨⟨h.1.1, fun i hi => ?_⟩, h.2⟩
  obtain ⟨b, off, e, hc⟩ := h.1.2 i hi
  exact ⟨b, off, e, hg.cell hc (show some b ≠ row from hne ⟨b, off, none⟩ e)⟩
theorem SOwn.grown {w w' : World} {B : Nat} {ao : Option Addr} {n cap : Nat} {ss : List ByteArray} {row : Option Nat} (h : SOwn w B ao n cap ss) (hg : w.grownBy w' row) (hne : ∀ a, ao = some a → some a.block ≠ row) : SOwn w' B ao n cap ss := by
  refine ⟨h.1, h.2.kept hg ?_⟩
  cases ao with
  | none => exact .inl rfl
  | some a => exact .inr (hne a rfl)
theorem SOwn.frozen {w : World} {B : Nat} {g n cap : Nat} {ss : List ByteArray} (h : SOwn w B (some ⟨g, 0, none⟩) n cap ss) (j : Nat) : w.frozen? ⟨g, j, none⟩ = false := h.2.frozenAt j
theorem SOwn.cell {w : World} {B : Nat} {g n cap : Nat} {ss : List ByteArray} (h : SOwn w B (some ⟨g, 0, none⟩) n cap ss) (j : Nat) (hj : j < n) : w.cell? ⟨g, j, none⟩ = some (.string (st ss j)) := by
  rw [h.2.cellAt j (by omega), svals_at ss j (by rw [h.1]; exact hj)]
theorem SOwn.head {w : World} {B : Nat} {ao : Option Addr} {n cap : Nat} {ss : List ByteArray} (h : SOwn w B ao n cap ss) (hn : 0 < n) : ∃ g, ao = some ⟨g, 0, none⟩ := by
  rcases h.2.2 with ⟨_, h0⟩ | ⟨g, c, cur, e, _⟩
  · omega
  · simp only [Value.slice.injEq] at e; exact ⟨g, e.1⟩
/-- A string stored into what is owned. -/
theorem SOwn.store {w : World} {B : Nat} {g n cap : Nat} {ss : List ByteArray} (h : SOwn w B (some ⟨g, 0, none⟩) n cap ss) (j : Nat) (u : ByteArray) :
    SOwn (w.setCell ⟨g, j, none⟩ (.string u)) B (some ⟨g, 0, none⟩) n cap (ss.set j u) := by
  refine ⟨by simpa using h.1, ?_⟩
  have := (h.2.stored j (.string u)).1
  have e : (svals ss).set j (.string u) = svals (ss.set j u) := by simp [svals, List.map_set]
  rw [e] at this
  exact this
theorem sown_open {w : World} {B : Nat} {v : Value} {n : Nat} {ss : List ByteArray} (hl : ss.length = n) (h : w.ownsRow B 9 1 v n (svals ss)) : ∃ ao cap, v = .slice ao n cap ∧ SOwn w B ao n cap ss := by
  rcases h.2 with ⟨rfl, rfl⟩ | ⟨g, c, cur, rfl, _⟩
  · exact ⟨none, 0, rfl, hl, h⟩
  · exact ⟨_, _, rfl, hl, h⟩

/-- 'append(s, x)', s owned, x in a row of one string of its own. -/
theorem w_sapp {ops : Array Oper} {rest : List Oper} {o : Oper} {a : Act} {Q : Exit → Act → World → Prop} (w : World) (hgd : o.guard = none) (s x : Operand)
    (ho : o.op = .call { callee := .builtin .append, args := #[s, x], argTypes := #[25, 25] })
    (B : Nat) (ao : Option Addr) (n cap : Nat) (ss : List ByteArray) (hs : a.eval s = .slice ao n cap) (hown : SOwn w B ao n cap ss)
    (ad : Nat) (u : ByteArray) (hx : a.eval x = .slice (some ⟨ad, 0, none⟩) 1 1) (hc : w.cell? ⟨ad, 0, none⟩ = some (.string u)) (hb : n < 1099511627776) (hB : B ≤ w.heap.size)
    (h : ∀ ao' cap' w', SOwn w' B ao' (n + 1) cap' (ss ++ [u]) → w.grownBy w' (Value.slice ao n cap).ownBlock → wpList Tryz.prog ops Q rest (a.put o.dst (.slice ao' (n + 1) cap')) w') :
    wpList Tryz.prog ops Q (o :: rest) a w := by
  obtain ⟨i0, hi, hz0, hz1, hz2⟩ := info_parts info9
  have hlen : (ss ++ [u]).length = n + 1 := by rw [List.length_append, hown.1]; rfl
  refine wpList_append_own w hgd s x 25 ho B 9 i0 (.string ByteArray.empty) 1 16 Tryz.underlying25 hi hz0 hz1 hz2 rfl (by decide) (.slice ao n cap) n (svals ss) hs hown.2 ⟨ad, 0, none⟩ 1 1 [.string u] hx rfl ?_ (by intro v hv; simp at hv; subst hv; rfl) (by unfold maxLen; omega) (by omega) hB ?_
  · intro j v hv
    match j, hv with
    | 0, hv =>
      simp at hv
      subst hv
      exact hc
  · intro v' w' hv hg _
    have e : svals ss ++ [.string u] = svals (ss ++ [u]) := by simp [svals]
    rw [e] at hv
    obtain ⟨ao', cap', rfl, hown'⟩ := sown_open hlen hv
    exact h ao' cap' w' hown' hg

/-- 'make([]string, n)'. -/
theorem w_smaken {ops : Array Oper} {rest : List Oper} {o : Oper} {a : Act} {Q : Exit → Act → World → Prop} (w : World) (hgd : o.guard = none) (l c : Operand) (hop : o.op = Op.makeSlice 25 l c)
    (C : Int) (n : Nat) (hl : a.eval l = .int .i64 C) (hc : a.eval c = .int .i64 C) (hC : C = (n : Int)) (hb : n ≤ 1099511627776)
    (h : ∀ w', SOwn w' w.heap.size (some ⟨w.heap.size, 0, none⟩) n n (List.replicate n ByteArray.empty) → Below w.heap.size w w' → wpList Tryz.prog ops Q rest (a.put o.dst (.slice (some ⟨w.heap.size, 0, none⟩) n n)) w') :
    wpList Tryz.prog ops Q (o :: rest) a w := by
  obtain ⟨i0, hi, hz0, hz1, hz2⟩ := info_parts info9
  refine wpList_make_full w hgd l c 25 hop w.heap.size 9 i0 (.string ByteArray.empty) 1 Tryz.underlying25 hi hz0 hz1 .i64 .i64 C C n hl hc hC hC (by rw [hz2]; omega) (by unfold maxLen; omega) (Nat.le_refl _) ?_
  intro w' hown hg
  refine h w' ⟨by simp, ?_⟩ ((Below.refl _ _).grown hg (Nat.le_refl _) (fun k hk => by cases hk))
  have e : (madeCells (Value.string ByteArray.empty).cells (n * 1)).toList = svals (List.replicate n ByteArray.empty) := by
    rw [Nat.mul_one]
    show (madeCells #[Value.string ByteArray.empty] n).toList = _
    rw [toList_madeCells_one]
    simp [svals]
  rw [e] at hown
  exact hown

theorem sset_take (l : List ByteArray) (n k : Nat) (hl : l.length = n) (hk : k < n) : (l.take k ++ List.replicate (n - k) ByteArray.empty).set k (st l k) = l.take (k + 1) ++ List.replicate (n - (k + 1)) ByteArray.empty := by
  rw [List.set_append_right _ _ (by simp; omega)]
  rw [List.length_take, hl, Nat.min_eq_left (by omega), Nat.sub_self]
  rw [show n - k = (n - (k + 1)) + 1 from by omega, List.replicate_succ, List.set_cons_zero]
  rw [List.take_succ_eq_append_getElem (by omega)]
  have e : st l k = l[k]'(by omega) := by simp [st, List.getD_eq_getElem?_getD, List.getElem?_eq_getElem (show k < l.length by omega)]
  rw [e, List.append_assoc]
  rfl

theorem str_ne_self (s : ByteArray) : (s.toList != s.toList) = false := by simp

set_option maxHeartbeats 400000 in
/-- laws.eqStringS, of the same strings. -/
theorem eq_leqStringS (ao a1 : Option Addr) (n cap cap1 : Nat) (l : List ByteArray) (w : World) (hr : SRd w ao n cap l) (h1 : SRd w a1 n cap1 l) (hn : n ≤ 1099511627776) :
    Calls Tryz.prog 97 #[.slice ao n cap, .slice a1 n cap1] w fun e w' => e = .returned (.bool true) ∧ Below w.heap.size w w' := by
  have hne : ((n : Int) != n) = false := by simp
  go_enter Tryz.func97, Tryz.ntmps97
  go_wp2
  go_loopw [5] (fun i wr => ∃ k : Nat, i = .int .i64 k ∧ k ≤ n ∧ Below w.heap.size w wr) (fun i _ => n - (intOf i).toNat)
  case atStart => exact ⟨0, rfl, Nat.zero_le _, Below.refl _ _⟩
  case round =>
    obtain ⟨k, rfl, hk, hb⟩ := hrel
    by_cases hlt : k < n
    · obtain ⟨b, off, e, hc⟩ := hr.1.2 k hlt
      subst e
      obtain ⟨b1, off1, e1, hc1⟩ := h1.1.2 k hlt
      subst e1
      have hck : wr.cell? ⟨b, off + k, none⟩ = some (.string (st l k)) := (hb.cell (World.block_lt_of_cell? w _ hc)).trans hc
      have hck1 : wr.cell? ⟨b1, off1 + k, none⟩ = some (.string (st l k)) := (hb.cell (World.block_lt_of_cell? w _ hc1)).trans hc1
      have hlt' : (k : Int) < n := by omega
      have k0 : (0 : Int) ≤ k := by omega
      have hbn := str_ne_self (st l k)
      clear hc hc1
      go_wp2
      go_quiet (fail)
      go_wp2
      go_roundw
      case rel => exact ⟨k + 1, by go_num, by omega, below_drewN hb _⟩
      case measure => simp [intOf]; omega
    · have hlt' : ¬ (k : Int) < n := by omega
      go_wp2
      go_ret
      exact ⟨rfl, hb⟩

end Go.Proofs.YtccjiicjlifmiaaGreatDoor
set_option linter.unusedVariables false
set_option linter.unusedSimpArgs false
namespace Go.Proofs.YtccjiicjlifmiaaGreatDoor
open Go.RowKit

/-- The letters of all. -/
def tot (ss : List ByteArray) : Nat := (ss.map ByteArray.size).sum
theorem tot_take (ss : List ByteArray) (k : Nat) (h : k < ss.length) : tot (ss.take (k + 1)) = tot (ss.take k) + (st ss k).size := by
  have e : st ss k = ss[k]'h := by simp [st, List.getD_eq_getElem?_getD, List.getElem?_eq_getElem h]
  rw [List.take_succ_eq_append_getElem h, e]
  simp only [tot, List.map_append, List.map_cons, List.map_nil, List.sum_append, List.sum_cons, List.sum_nil, Nat.add_zero]
theorem tot_le (ss : List ByteArray) (k : Nat) : tot (ss.take k) ≤ tot ss := by
  have : tot ss = tot (ss.take k) + tot (ss.drop k) := by
    unfold tot
    rw [← List.sum_append, ← List.map_append, List.take_append_drop]
  omega
theorem st_mem {ss : List ByteArray} {k : Nat} (h : k < ss.length) : st ss k ∈ ss := by
  have e : st ss k = ss[k]'h := by simp [st, List.getD_eq_getElem?_getD, List.getElem?_eq_getElem h]
  rw [e]; exact List.getElem_mem h

theorem glue_first (l : List ByteArray) (h : 0 < l.length) : glue (dats (l.take 1)) = (st l 0).data.toList := by
  match l, h with
  | x :: r, _ => rfl
theorem glue_step (l : List ByteArray) (k : Nat) (h0 : 0 < k) (h : k < l.length) : glue (dats (l.take (k + 1))) = glue (dats (l.take k)) ++ 47 :: (st l k).data.toList := by
  have e : st l k = l[k]'h := by simp [st, List.getD_eq_getElem?_getD, List.getElem?_eq_getElem h]
  rw [List.take_succ_eq_append_getElem h, e]
  rw [show dats (l.take k ++ [l[k]'h]) = dats (l.take k) ++ [(l[k]'h).data.toList] by simp only [dats, List.map_append, List.map_cons, List.map_nil]]
  exact glue_snoc _ _ (by intro e; have := congrArg List.length e; rw [dats_length, List.length_take, List.length_nil] at this; omega)
theorem cat_data (a b : ByteArray) : (a ++ b).data.toList = a.data.toList ++ b.data.toList := by simp

end Go.Proofs.YtccjiicjlifmiaaGreatDoor
