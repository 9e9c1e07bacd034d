/- Lists of wishes (a text and a number each) in memory, and the laws' helpers over them. -/
import Derived.Test.YtfpclkkkenekpaaGreatIMem
import Derived.Test.YtfpclkkkenekpaaGreatSJoin
import Derived.Test.YtfpclkkkenekpaaGreatAid
import Derived.Handy
import Derived.Deep.RegionWith
set_option linter.unusedVariables false
set_option linter.unusedSimpArgs false
namespace Go.Proofs.YtfpclkkkenekpaaGreat
open Go.RowKit

def wf (ws : List (ByteArray × Int)) (i : Nat) : ByteArray := (ws.getD i (ByteArray.empty, 0)).1
def wq (ws : List (ByteArray × Int)) (i : Nat) : Int := (ws.getD i (ByteArray.empty, 0)).2
def wvals (ws : List (ByteArray × Int)) : List Value := ws.flatMap fun x => [.string x.1, .int .i64 x.2]
theorem wvals_length (ws : List (ByteArray × Int)) : (wvals ws).length = 2 * ws.length := by
  induction ws with
  | nil => rfl
  | cons a r ih => simp [wvals] at ih ⊢; omega

/-- A slice value that reads as the wishes. -/
def WRd (w : World) (ao : Option Addr) (n cap : Nat) (ws : List (ByteArray × Int)) : Prop :=
  (ws.length = n ∧ ∀ i, i < n → ∃ b off, ao = some ⟨b, off, none⟩ ∧ w.cell? ⟨b, off + i * 2, none⟩ = some (.string (wf ws i)) ∧ w.cell? ⟨b, off + i * 2 + 1, none⟩ = some (.int .i64 (wq ws i))) ∧ n ≤ cap ∧ cap ≤ maxLen ∧ (ao = none → cap = 0)

theorem WRd.below {w w' : World} {ao : Option Addr} {n cap : Nat} {ws : List (ByteArray × Int)} (h : WRd w ao n cap ws) (hb : Below w.heap.size w w') : WRd w' ao n cap ws := by
  refine ⟨⟨h.1.1, fun i hi => ?_⟩, h.2⟩
  obtain ⟨b, off, e, hc, hd⟩ := h.1.2 i hi
  exact ⟨b, off, e, (hb.cell (World.block_lt_of_cell? w _ hc)).trans hc, (hb.cell (World.block_lt_of_cell? w _ hd)).trans hd⟩

/-- laws.szWant. -/
theorem sz_lszWant (f : ByteArray) (q : Int) (L : Nat) (w : World) (hn : f.size ≤ maxLen) (hL : L ≤ 1048576) :
    Calls Tryz.prog 55 #[.agg #[.string f, .int .i64 q], .int .i64 L] w fun e w' => ∃ r : Int, e = .returned (.int .i64 r) ∧ Below w.heap.size w w' ∧ (r < 0 ∨ ∃ R : Nat, r = R ∧ R + f.size = L) := by
  unfold maxLen at hn
  by_cases h : f.size ≤ L
  · have h' : ¬ (L : Int) - f.size < 0 := by omega
    go_enter Tryz.func55, Tryz.ntmps55
    go_wp2
    go_ret
    exact ⟨_, rfl, (Below.refl _ _).alloc (Nat.le_refl _) _, .inr ⟨L - f.size, by omega, by omega⟩⟩
  · have h' : (L : Int) - f.size < 0 := by omega
    go_enter Tryz.func55, Tryz.ntmps55
    go_wp2
    go_ret
    exact ⟨_, rfl, (Below.refl _ _).alloc (Nat.le_refl _) _, .inl (by decide)⟩

/-- The letters of all. -/
def wtot (ws : List (ByteArray × Int)) : Nat := (ws.map fun x => x.1.size).sum
theorem wtot_take (ws : List (ByteArray × Int)) (k : Nat) (h : k < ws.length) : wtot (ws.take (k + 1)) = wtot (ws.take k) + (wf ws k).size := by
  have e : wf ws k = (ws[k]'h).1 := by simp [wf, List.getD_eq_getElem?_getD, List.getElem?_eq_getElem h]
  rw [List.take_succ_eq_append_getElem h, e]
  simp only [wtot, List.map_append, List.map_cons, List.map_nil, List.sum_append, List.sum_cons, List.sum_nil, Nat.add_zero]

set_option maxHeartbeats 400000 in
/-- laws.szWantS. -/
theorem sz_lszWantS (ao : Option Addr) (n cap L : Nat) (ws : List (ByteArray × Int)) (w : World) (hr : WRd w ao n cap ws) (hs : ∀ x ∈ ws, x.1.size ≤ maxLen) (hL : L ≤ 1048576) :
    Calls Tryz.prog 25 #[.slice ao n cap, .int .i64 L] w fun e w' => ∃ r : Int, e = .returned (.int .i64 r) ∧ Below w.heap.size w w' ∧ (r < 0 ∨ ∃ R : Nat, r = R ∧ R + n + wtot ws = L) := by
  have HL : Hid (ws.length = n) := hr.1.1
  have HS : Hid (∀ k, k < n → (wf ws k).size ≤ maxLen) := fun k hk => by
    have h : k < ws.length := by rw [HL.out]; exact hk
    have e : wf ws k = (ws[k]'h).1 := by simp [wf, List.getD_eq_getElem?_getD, List.getElem?_eq_getElem h]
    rw [e]
    exact hs _ (List.getElem_mem h)
  have hcap : n ≤ maxLen := Nat.le_trans hr.2.1 hr.2.2.1
  unfold maxLen at hcap
  clear hs
  by_cases hbig : L < n
  · have h' : (L : Int) - n < 0 := by omega
    go_enter Tryz.func25, Tryz.ntmps25
    go_wp2
    go_ret
    exact ⟨_, rfl, Below.refl _ _, .inl (by decide)⟩
  · have h' : ¬ (L : Int) - n < 0 := by omega
    go_enter Tryz.func25, Tryz.ntmps25
    go_wp2
    go_loopw [1, 5] (fun q i wr => ∃ k M : Nat, i = .int .i64 k ∧ q = .int .i64 M ∧ k ≤ n ∧ M + n + wtot (ws.take k) = L ∧ Below w.heap.size w wr) (fun _ i _ => n - (intOf i).toNat)
    case atStart => exact ⟨0, L - n, rfl, by go_num, Nat.zero_le _, by simp [wtot]; omega, Below.refl _ _⟩
    case round =>
      obtain ⟨k, M, rfl, rfl, hk, hT, hb⟩ := hrel
      by_cases hlt : k < n
      · obtain ⟨b, off, e, hc, hd⟩ := hr.1.2 k hlt
        subst e
        have hck : wr.cell? ⟨b, off + k * 2, none⟩ = some (.string (wf ws k)) := (hb.cell (World.block_lt_of_cell? w _ hc)).trans hc
        have hdk : wr.cell? ⟨b, off + k * 2 + 1, none⟩ = some (.int .i64 (wq ws k)) := (hb.cell (World.block_lt_of_cell? w _ hd)).trans hd
        have hlt' : (k : Int) < n := by omega
        have HT : Hid (wtot (ws.take (k + 1)) = wtot (ws.take k) + (wf ws k).size) := wtot_take ws k (by rw [HL.out]; exact hlt)
        have hsz := HS.out k hlt
        clear hc hd
        go_wp2_with fail
        refine (sz_lszWant (wf ws k) (wq ws k) M wr hsz (by omega)).mono ?_
        rintro e w2 ⟨r, rfl, hb2, hcase⟩
        have hb3 := hb.trans (hb2.mono hb.size)
        rcases hcase with hneg | ⟨R, rfl, hR⟩
        · go_wp2
          go_ret
          exact ⟨_, rfl, hb3, .inl (by decide)⟩
        · have hneg : ¬ (R : Int) < 0 := by omega
          go_wp2
          go_roundw
          case rel => exact ⟨k + 1, R, by go_num, rfl, by omega, by have := HT.out; omega, hb3⟩
          case measure => simp [intOf] <;> omega
      · have hlt' : ¬ (k : Int) < n := by omega
        obtain rfl : k = n := by omega
        go_wp2
        go_ret
        refine ⟨_, rfl, hb, .inr ⟨M, rfl, ?_⟩⟩
        rw [List.take_of_length_le (by rw [HL.out]; exact Nat.le_refl _)] at hT
        exact hT

/-- laws.toWant. -/
theorem to_ltoWant (f : ByteArray) (q : Int) (w : World) :
    Calls Tryz.prog 61 #[.agg #[.string f, .int .i64 q]] w fun e w' => e = .returned (.agg #[.string f, .int .i64 q]) ∧ Below w.heap.size w w' := by
  go_enter Tryz.func61, Tryz.ntmps61
  go_wp2
  go_returns
  exact ⟨rfl, (((Below.refl _ _).alloc (Nat.le_refl _) _).alloc (by simp) _).alloc (by simp; omega) _⟩

/-- laws.eqWant, of the same. -/
theorem eq_leqWant (f : ByteArray) (q : Int) (w : World) :
    Calls Tryz.prog 70 #[.agg #[.string f, .int .i64 q], .agg #[.string f, .int .i64 q]] w fun e w' => e = .returned (.bool true) ∧ Below w.heap.size w w' := by
  have h1 := str_ne_self f
  have h2 : (q != q) = false := by simp
  go_enter Tryz.func70, Tryz.ntmps70
  go_wp2
  go_ret
  exact ⟨rfl, ((Below.refl _ _).alloc (Nat.le_refl _) _).alloc (by simp) _⟩

set_option maxHeartbeats 400000 in
/-- laws.eqWantS, of the same wishes. -/
theorem eq_leqWantS (ao a1 : Option Addr) (n cap cap1 : Nat) (l : List (ByteArray × Int)) (w : World) (hr : WRd w ao n cap l) (h1 : WRd w a1 n cap1 l) (hn : n ≤ 1099511627776) :
    Calls Tryz.prog 43 #[.slice ao n cap, .slice a1 n cap1] w fun e w' => e = .returned (.bool true) ∧ Below w.heap.size w w' := by
  have hne : ((n : Int) != n) = false := by simp
  go_enter Tryz.func43, Tryz.ntmps43
  go_wp2
  go_loopw [5] (fun i wr => ∃ k : Nat, i = .int .i64 k ∧ k ≤ n ∧ Below w.heap.size w wr) (fun i _ => n - (intOf i).toNat)
  case atStart => exact ⟨0, rfl, Nat.zero_le _, Below.refl _ _⟩
  case round =>
    obtain ⟨k, rfl, hk, hb⟩ := hrel
    by_cases hlt : k < n
    · obtain ⟨b, off, e, hc, hd⟩ := hr.1.2 k hlt
      subst e
      obtain ⟨b1, off1, e1, hc1, hd1⟩ := h1.1.2 k hlt
      subst e1
      have hck : wr.cell? ⟨b, off + k * 2, none⟩ = some (.string (wf l k)) := (hb.cell (World.block_lt_of_cell? w _ hc)).trans hc
      have hdk : wr.cell? ⟨b, off + k * 2 + 1, none⟩ = some (.int .i64 (wq l k)) := (hb.cell (World.block_lt_of_cell? w _ hd)).trans hd
      have hck1 : wr.cell? ⟨b1, off1 + k * 2, none⟩ = some (.string (wf l k)) := (hb.cell (World.block_lt_of_cell? w _ hc1)).trans hc1
      have hdk1 : wr.cell? ⟨b1, off1 + k * 2 + 1, none⟩ = some (.int .i64 (wq l k)) := (hb.cell (World.block_lt_of_cell? w _ hd1)).trans hd1
      have hlt' : (k : Int) < n := by omega
      have k0 : (0 : Int) ≤ k := by omega
      clear hc hd hc1 hd1
      go_wp2
      go_region_with (go_at_call 70; refine (eq_leqWant _ _ _).mono ?_; rintro e w1 ⟨rfl, hb1⟩)
      all_goals
        go_wp2
        go_roundw
        case rel => exact ⟨k + 1, by go_num, by omega, (below_drewN hb 1).trans (hb1.mono hb.size)⟩
        case measure => simp [intOf] <;> omega
    · have hlt' : ¬ (k : Int) < n := by omega
      go_wp2
      go_ret
      exact ⟨rfl, hb⟩

theorem infoW : (Tryz.prog.info? 58).map (fun i => (i.zero, i.size, i.bytes)) = some (some (.agg #[.string ByteArray.empty, .int .i64 0]), 2, 24) := by kernel_rfl

/-- The slice value owns the wishes: its row is one of the call's own (from block B on). -/
def WOwn (w : World) (B : Nat) (ao : Option Addr) (n cap : Nat) (ws : List (ByteArray × Int)) : Prop := ws.length = n ∧ w.ownsRow B 58 2 (.slice ao n cap) n (wvals ws)

theorem wvals_at (ws : List (ByteArray × Int)) (i : Nat) (h : i < ws.length) : (wvals ws)[i * 2]? = some (.string (wf ws i)) ∧ (wvals ws)[i * 2 + 1]? = some (.int .i64 (wq ws i)) := by
  induction ws generalizing i with
  | nil => simp at h
  | cons a r ih =>
    have e : wvals (a :: r) = .string a.1 :: .int .i64 a.2 :: wvals r := rfl
    cases i with
    | zero => exact ⟨rfl, rfl⟩
    | succ i =>
      have := ih i (by simpa using h)
      rw [e, show (i + 1) * 2 = i * 2 + 1 + 1 by omega]
      simpa [wf, wq] using this

theorem WOwn.rd {w : World} {B : Nat} {ao : Option Addr} {n cap : Nat} {ws : List (ByteArray × Int)} (h : WOwn w B ao n cap ws) : WRd w ao n cap ws := by
  obtain ⟨hl, h1, h2⟩ := h
  rcases h2 with ⟨e, rfl⟩ | ⟨g, c, cur, e, hb, hg, hc, hm, hs, ht⟩
  · simp only [Value.slice.injEq] at e
    obtain ⟨rfl, _, rfl⟩ := e
    exact ⟨⟨hl, fun i hi => by omega⟩, Nat.le_refl _, Nat.zero_le _, fun _ => rfl⟩
  · simp only [Value.slice.injEq] at e
    obtain ⟨rfl, _, rfl⟩ := e
    refine ⟨⟨hl, fun i hi => ⟨g, 0, rfl, ?_, ?_⟩⟩, hc, hm, fun h => by simp at h⟩
    all_goals
      have own : w.ownsRow B 58 2 (.slice (some ⟨g, 0, none⟩) n cap) n (wvals ws) := ⟨h1, .inr ⟨g, cap, cur, rfl, hb, hg, hc, hm, hs, ht⟩⟩
    · rw [Nat.zero_add, own.cellAt (i * 2) (by omega), (wvals_at ws i (by omega)).1]
    · rw [Nat.zero_add, own.cellAt (i * 2 + 1) (by omega), (wvals_at ws i (by omega)).2]

/-- 'make([]Want, n)'. -/
theorem w_wmaken {ops : Array Oper} {rest : List Oper} {o : Oper} {a : Act} {Q : Exit → Act → World → Prop} (w : World) (hgd : o.guard = none) (l c : Operand) (hop : o.op = Op.makeSlice 30 l c)
    (C : Int) (n : Nat) (hl : a.eval l = .int .i64 C) (hc : a.eval c = .int .i64 C) (hC : C = (n : Int)) (hb : n ≤ 1099511627776)
    (h : ∀ w', WOwn w' w.heap.size (some ⟨w.heap.size, 0, none⟩) n n (List.replicate n (ByteArray.empty, 0)) → Below w.heap.size w w' → wpList Tryz.prog ops Q rest (a.put o.dst (.slice (some ⟨w.heap.size, 0, none⟩) n n)) w') :
    wpList Tryz.prog ops Q (o :: rest) a w := by
  obtain ⟨i0, hi, hz0, hz1, hz2⟩ := info_parts infoW
  refine wpList_make_full w hgd l c 30 hop w.heap.size 58 i0 (.agg #[.string ByteArray.empty, .int .i64 0]) 2 Tryz.underlying30 hi hz0 hz1 .i64 .i64 C C n hl hc hC hC (by rw [hz2]; omega) (by unfold maxLen; omega) (Nat.le_refl _) ?_
  intro w' hown hg
  refine h w' ⟨by simp, ?_⟩ ((Below.refl _ _).grown hg (Nat.le_refl _) (fun k hk => by cases hk))
  have e : (madeCells (Value.agg #[.string ByteArray.empty, .int .i64 0]).cells (n * 2)).toList = wvals (List.replicate n (ByteArray.empty, 0)) := by
    apply List.ext_getElem?
    intro i
    show (madeCells #[Value.string ByteArray.empty, .int .i64 0] (n * 2)).toList[i]? = _
    by_cases hi2 : i < n * 2
    · have hk : i / 2 < n := by omega
      have hw := wvals_at (List.replicate n (ByteArray.empty, (0 : Int))) (i / 2) (by simpa using hk)
      have hf : wf (List.replicate n (ByteArray.empty, (0 : Int))) (i / 2) = ByteArray.empty := by simp [wf, List.getD_eq_getElem?_getD, hk]
      have hq : wq (List.replicate n (ByteArray.empty, (0 : Int))) (i / 2) = 0 := by simp [wq, List.getD_eq_getElem?_getD, hk]
      rw [hf, hq] at hw
      rcases Nat.mod_two_eq_zero_or_one i with h0 | h0
      · have : i = i / 2 * 2 := by omega
        rw [← this] at hw
        rw [hw.1]
        simp [madeCells, hi2, h0]
      · have : i = i / 2 * 2 + 1 := by omega
        rw [← this] at hw
        rw [hw.2]
        simp [madeCells, hi2, h0]
    · have h1 : (madeCells #[Value.string ByteArray.empty, .int .i64 0] (n * 2)).toList.length = n * 2 := by simp [madeCells]
      have h2 : (wvals (List.replicate n (ByteArray.empty, (0 : Int)))).length = n * 2 := by rw [wvals_length]; simp; omega
      rw [List.getElem?_eq_none (by rw [h1]; omega), List.getElem?_eq_none (by rw [h2]; omega)]
  rw [e] at hown
  exact hown

theorem wvals_set (ws : List (ByteArray × Int)) (k : Nat) (f : ByteArray) (q : Int) : ((wvals ws).set (k * 2) (.string f)).set (k * 2 + 1) (.int .i64 q) = wvals (ws.set k (f, q)) := by
  induction ws generalizing k with
  | nil => simp [wvals]
  | cons a r ih =>
    have e : wvals (a :: r) = .string a.1 :: .int .i64 a.2 :: wvals r := rfl
    cases k with
    | zero => rfl
    | succ k =>
      rw [e, show (k + 1) * 2 = k * 2 + 1 + 1 by omega]
      simp only [List.set_cons_succ]
      rw [ih k]
      rfl
theorem WOwn.below {w w' : World} {B : Nat} {ao : Option Addr} {n cap : Nat} {ws : List (ByteArray × Int)} (h : WOwn w B ao n cap ws) (hb : Below w.heap.size w w') : WOwn w' B ao n cap ws := by
  refine ⟨h.1, h.2.1, ?_⟩
  rcases h.2.2 with hn | ⟨g, c, cur, e, hB, hg, rest⟩
  · exact .inl hn
  · exact .inr ⟨g, c, cur, e, hB, by rw [hb.block g (Array.getElem?_eq_some_iff.1 hg).1]; exact hg, rest⟩
theorem WOwn.frozen {w : World} {B : Nat} {g n cap : Nat} {ws : List (ByteArray × Int)} (h : WOwn w B (some ⟨g, 0, none⟩) n cap ws) (j : Nat) : w.frozen? ⟨g, j, none⟩ = false := h.2.frozenAt j
/-- A wish stored into what is owned: its two cells. -/
theorem WOwn.store {w : World} {B : Nat} {g n cap : Nat} {ws : List (ByteArray × Int)} (h : WOwn w B (some ⟨g, 0, none⟩) n cap ws) (k : Nat) (f : ByteArray) (q : Int) :
    WOwn ((w.setCell ⟨g, k * 2, none⟩ (.string f)).setCell ⟨g, k * 2 + 1, none⟩ (.int .i64 q)) B (some ⟨g, 0, none⟩) n cap (ws.set k (f, q)) := by
  refine ⟨by simpa using h.1, ?_⟩
  have := ((h.2.stored (k * 2) (.string f)).1.stored (k * 2 + 1) (.int .i64 q)).1
  rw [wvals_set] at this
  exact this
theorem wset_take (l : List (ByteArray × Int)) (n k : Nat) (hl : l.length = n) (hk : k < n) : (l.take k ++ List.replicate (n - k) (ByteArray.empty, (0 : Int))).set k (wf l k, wq l k) = l.take (k + 1) ++ List.replicate (n - (k + 1)) (ByteArray.empty, 0) := by
  rw [List.set_append_right _ _ (by simp; omega)]
  rw [List.length_take, hl, Nat.min_eq_left (by omega), Nat.sub_self]
  rw [show n - k = (n - (k + 1)) + 1 from by omega, List.replicate_succ, List.set_cons_zero]
  rw [List.take_succ_eq_append_getElem (by omega)]
  have e : (wf l k, wq l k) = l[k]'(by omega) := by simp [wf, wq, List.getD_eq_getElem?_getD, List.getElem?_eq_getElem (show k < l.length by omega)]
  rw [e, List.append_assoc]
  rfl

set_option maxHeartbeats 400000 in
/-- laws.toWantS. -/
theorem to_ltoWantS (ao : Option Addr) (n cap : Nat) (l : List (ByteArray × Int)) (w : World) (hr : WRd w ao n cap l) (hn : n ≤ 1099511627776) :
    Calls Tryz.prog 35 #[.slice ao n cap] w fun e w' => e = .returned (.slice (some ⟨w.heap.size, 0, none⟩) n n) ∧ WOwn w' w.heap.size (some ⟨w.heap.size, 0, none⟩) n n l ∧ Below w.heap.size w w' := by
  have HL : Hid (l.length = n) := hr.1.1
  go_enter Tryz.func35, Tryz.ntmps35
  go_wp2_with (at_make; refine w_wmaken _ rfl _ _ rfl _ n rfl rfl rfl (by omega) ?_)
  intro w1 hown hb1
  go_wp2
  go_loopw [4] (fun i wr => ∃ k : Nat, i = .int .i64 k ∧ k ≤ n ∧ WOwn wr w.heap.size (some ⟨w.heap.size, 0, none⟩) n n (l.take k ++ List.replicate (n - k) (ByteArray.empty, 0)) ∧ Below w.heap.size w wr) (fun i _ => n - (intOf i).toNat)
  case atStart => exact ⟨0, rfl, Nat.zero_le _, by simpa using hown, hb1⟩
  case round =>
    obtain ⟨k, rfl, hk, ho, hb⟩ := hrel
    clear hown hb1
    by_cases hlt : k < n
    · obtain ⟨b, off, e, hc, hd⟩ := hr.1.2 k hlt
      subst e
      have hck : wr.cell? ⟨b, off + k * 2, none⟩ = some (.string (wf l k)) := (hb.cell (World.block_lt_of_cell? w _ hc)).trans hc
      have hdk : wr.cell? ⟨b, off + k * 2 + 1, none⟩ = some (.int .i64 (wq l k)) := (hb.cell (World.block_lt_of_cell? w _ hd)).trans hd
      have hlt' : (k : Int) < n := by omega
      clear hc hd
      go_wp2_with fail
      refine (to_ltoWant (wf l k) (wq l k) wr).mono ?_
      rintro e w2 ⟨rfl, hb2⟩
      have ho2 := ho.below hb2
      have hb3 := hb.trans (hb2.mono hb.size)
      obtain ⟨_, _, e0, hz0, hz1⟩ := ho2.rd.1.2 k hlt
      simp only [Option.some.injEq, Addr.mk.injEq, and_true] at e0
      obtain ⟨rfl, rfl⟩ := e0
      rw [Nat.zero_add] at hz0 hz1
      have hf0 := ho2.frozen (k * 2)
      have hf1 := ho2.frozen (k * 2 + 1)
      have HO := ho2.store k (wf l k) (wq l k)
      rw [wset_take l n k HL.out hlt] at HO
      have HO' : Hid (WOwn ((w2.setCell ⟨w.heap.size, k * 2, none⟩ (.string (wf l k))).setCell ⟨w.heap.size, k * 2 + 1, none⟩ (.int .i64 (wq l k))) w.heap.size (some ⟨w.heap.size, 0, none⟩) n n (l.take (k + 1) ++ List.replicate (n - (k + 1)) (ByteArray.empty, 0))) := HO
      have HB : Hid (Below w.heap.size w ((w2.setCell ⟨w.heap.size, k * 2, none⟩ (.string (wf l k))).setCell ⟨w.heap.size, k * 2 + 1, none⟩ (.int .i64 (wq l k)))) := (hb3.setCell (p := ⟨w.heap.size, k * 2, none⟩) (Nat.le_refl _) _).setCell (p := ⟨w.heap.size, k * 2 + 1, none⟩) (Nat.le_refl _) _
      clear HO ho ho2 hb hb2 hb3
      go_wp2
      go_roundw
      case rel => exact ⟨k + 1, by go_num, by omega, HO'.out, HB.out⟩
      case measure => simp [intOf] <;> omega
    · have hlt' : ¬ (k : Int) < n := by omega
      obtain rfl : k = n := by omega
      go_wp2
      go_ret
      refine ⟨rfl, ?_, hb⟩
      have := HL.out
      rw [Nat.sub_self, List.take_of_length_le (by omega)] at ho
      simpa using ho

/-- laws.szByteS. -/
theorem sz_lszByteS (a : Option Addr) (n c L : Nat) (w : World) (hn : n ≤ maxLen) (hL : L ≤ 1048576) :
    Calls Tryz.prog 24 #[.slice a n c, .int .i64 L] w fun e w' => ∃ r : Int, e = .returned (.int .i64 r) ∧ w' = w ∧ (r < 0 ∨ ∃ R : Nat, r = R ∧ R + n = L) := by
  unfold maxLen at hn
  by_cases h : n ≤ L
  · have h' : ¬ (L : Int) - n < 0 := by omega
    go_enter Tryz.func24, Tryz.ntmps24
    go_wp2
    go_ret
    exact ⟨_, rfl, rfl, .inr ⟨L - n, by omega, by omega⟩⟩
  · have h' : (L : Int) - n < 0 := by omega
    go_enter Tryz.func24, Tryz.ntmps24
    go_wp2
    go_ret
    exact ⟨_, rfl, rfl, .inl (by decide)⟩

/-- laws.szIntS. -/
theorem sz_lszIntS (a : Option Addr) (n c L : Nat) (w : World) (hn : n ≤ maxLen) (hL : L ≤ 1048576) :
    Calls Tryz.prog 27 #[.slice a n c, .int .i64 L] w fun e w' => ∃ r : Int, e = .returned (.int .i64 r) ∧ w' = w ∧ (r < 0 ∨ ∃ R : Nat, r = R ∧ R + n = L) := by
  unfold maxLen at hn
  by_cases h : n ≤ L
  · have h' : ¬ (L : Int) - n < 0 := by omega
    go_enter Tryz.func27, Tryz.ntmps27
    go_wp2
    go_ret
    exact ⟨_, rfl, rfl, .inr ⟨L - n, by omega, by omega⟩⟩
  · have h' : (L : Int) - n < 0 := by omega
    go_enter Tryz.func27, Tryz.ntmps27
    go_wp2
    go_ret
    exact ⟨_, rfl, rfl, .inl (by decide)⟩

set_option maxHeartbeats 400000 in
/-- laws.szStringS, of whatever is left. -/
theorem sz_lszStringSL (ao : Option Addr) (n cap L : Nat) (l : List ByteArray) (w : World) (hr : SRd w ao n cap l) (hs : ∀ s ∈ l, s.size ≤ maxLen) (hL : L ≤ 1048576) :
    Calls Tryz.prog 26 #[.slice ao n cap, .int .i64 L] w fun e w' => ∃ r : Int, e = .returned (.int .i64 r) ∧ w' = w ∧ (r < 0 ∨ ∃ R : Nat, r = R ∧ R + n + tot l = L) := by
  have HL : Hid (l.length = n) := hr.1.1
  have hcap : n ≤ maxLen := Nat.le_trans hr.2.1 hr.2.2.1
  unfold maxLen at hcap
  by_cases hbig : L < n
  · have h' : (L : Int) - n < 0 := by omega
    go_enter Tryz.func26, Tryz.ntmps26
    go_wp2
    go_ret
    exact ⟨_, rfl, rfl, .inl (by decide)⟩
  · have h' : ¬ (L : Int) - n < 0 := by omega
    go_enter Tryz.func26, Tryz.ntmps26
    go_wp2
    go_loop [1, 5] (fun q i => ∃ k M : Nat, i = .int .i64 k ∧ q = .int .i64 M ∧ k ≤ n ∧ M + n + tot (l.take k) = L) (fun _ i => n - (intOf i).toNat)
    case atStart => exact ⟨0, L - n, rfl, by go_num, Nat.zero_le _, by simp [tot]; omega⟩
    case round =>
      obtain ⟨k, M, rfl, rfl, hk, hT⟩ := hrel
      by_cases hlt : k < n
      · obtain ⟨b, off, e, hc⟩ := hr.1.2 k hlt
        subst e
        have hlt' : (k : Int) < n := by omega
        have hsz := hs _ (st_mem (show k < l.length by rw [HL.out]; exact hlt))
        unfold maxLen at hsz
        have hst := tot_take l k (by rw [HL.out]; exact hlt)
        obtain ⟨x, hx⟩ : ∃ x, st l k = x := ⟨_, rfl⟩
        rw [hx] at hc hsz hst
        have HT : Hid (tot (l.take (k + 1)) = tot (l.take k) + x.size) := hst
        clear hst hx
        by_cases hneg : M < x.size
        · have hn' : (M : Int) - x.size < 0 := by omega
          go_wp2
          go_ret
          exact ⟨_, rfl, rfl, .inl (by decide)⟩
        · have hn' : ¬ (M : Int) - x.size < 0 := by omega
          go_wp2
          go_round
          case rel => exact ⟨k + 1, M - x.size, by go_num, by go_num, by omega, by have := HT.out; omega⟩
          case measure => simp [intOf]; omega
      · have hlt' : ¬ (k : Int) < n := by omega
        obtain rfl : k = n := by omega
        go_wp2
        go_ret
        refine ⟨_, rfl, rfl, .inr ⟨M, rfl, ?_⟩⟩
        rw [List.take_of_length_le (by rw [HL.out]; exact Nat.le_refl _)] at hT
        exact hT

end Go.Proofs.YtfpclkkkenekpaaGreat
