/- The draws of chapter 4. -/
import Derived.Test.YtdjbaieaelhhiaaDoorTopD
import Derived.Test.YtdjbaieaelhhiaaDoorMatS
set_option linter.unusedVariables false
set_option linter.unusedSimpArgs false
namespace Go.Proofs.YtdjbaieaelhhiaaDoor
open Go.RowKit

set_option maxHeartbeats 1000000 in
/-- spec.DrawMatch. -/
theorem draw_sDrawMatch (ao : Option Addr) (n cap : Nat) (l : List UInt8) (w : World) (hr : RdIn w ao n cap l) (hn : n ≤ 1048576) :
    Calls Tryd.prog 10 #[.slice ao n cap] w fun e w' => ∃ f t : ByteArray, f.size ≤ 61 ∧ t.size ≤ 61 ∧ e = .returned (.tuple #[.string f, .string t]) ∧ Below w.heap.size w w' := by
  go_enter Tryd.func10, Tryd.ntmps10
  go_wp2_with fail
  refine (new_sl1New ao n cap l w hr hn).mono ?_
  rintro e w0 ⟨rfl, hc0, hb0⟩
  have hz0 : w.heap.size < w0.heap.size := hc0.lt
  go_wp2_with fail
  refine (once_sl1Once w.heap.size ao n cap l 5 _ hc0 hn (by omega) (by omega)).mono ?_
  rintro e w1 ⟨b, rfl, hc1, hg1⟩
  cases b with
  | true =>
    go_wp2_with fail
    refine (any_sl3Any w.heap.size ao n cap l _ hc1 hn).mono ?_
    rintro e w2 ⟨f, hf, rfl, hc2, hg2⟩
    go_wp2_with fail
    refine (any_sl3Any w.heap.size ao n cap l _ hc2 hn).mono ?_
    rintro e w3 ⟨t, ht, rfl, hc3, hg3⟩
    have hB := below_cur hb0 (grownBy_trans hg1 (grownBy_trans hg2 hg3)) (Nat.le_of_lt hz0)
    go_wp2
    go_ret2
    exact ⟨f, t, hf, ht, rfl, hB⟩
  | false =>
    go_wp2_with fail
    refine (fil_sl3Filter w.heap.size ao n cap l _ hc1 hn).mono ?_
    rintro e w2 ⟨f, hf, rfl, hc2, hg2⟩
    go_wp2_with fail
    refine (top_sl3Topic w.heap.size ao n cap l _ hc2 hn).mono ?_
    rintro e w3 ⟨t, ht, rfl, hc3, hg3⟩
    have hB := below_cur hb0 (grownBy_trans hg1 (grownBy_trans hg2 hg3)) (Nat.le_of_lt hz0)
    go_wp2
    go_ret2
    exact ⟨f, t, hf, ht, rfl, hB⟩

set_option maxHeartbeats 1000000 in
/-- spec.DrawCovers. -/
theorem draw_sDrawCovers (ao : Option Addr) (n cap : Nat) (l : List UInt8) (w : World) (hr : RdIn w ao n cap l) (hn : n ≤ 1048576) :
    Calls Tryd.prog 17 #[.slice ao n cap] w fun e w' => ∃ f t : ByteArray, f.size ≤ 61 ∧ t.size ≤ 61 ∧ e = .returned (.tuple #[.string f, .string t]) ∧ Below w.heap.size w w' := by
  go_enter Tryd.func17, Tryd.ntmps17
  go_wp2_with fail
  refine (new_sl1New ao n cap l w hr hn).mono ?_
  rintro e w0 ⟨rfl, hc0, hb0⟩
  have hz0 : w.heap.size < w0.heap.size := hc0.lt
  go_wp2_with fail
  refine (once_sl1Once w.heap.size ao n cap l 5 _ hc0 hn (by omega) (by omega)).mono ?_
  rintro e w1 ⟨b, rfl, hc1, hg1⟩
  cases b with
  | true =>
    go_wp2_with fail
    refine (any_sl3Any w.heap.size ao n cap l _ hc1 hn).mono ?_
    rintro e w2 ⟨f, hf, rfl, hc2, hg2⟩
    go_wp2_with fail
    refine (any_sl3Any w.heap.size ao n cap l _ hc2 hn).mono ?_
    rintro e w3 ⟨t, ht, rfl, hc3, hg3⟩
    have hB := below_cur hb0 (grownBy_trans hg1 (grownBy_trans hg2 hg3)) (Nat.le_of_lt hz0)
    go_wp2
    go_ret2
    exact ⟨f, t, hf, ht, rfl, hB⟩
  | false =>
    go_wp2_with fail
    refine (fil_sl3Filter w.heap.size ao n cap l _ hc1 hn).mono ?_
    rintro e w2 ⟨f, hf, rfl, hc2, hg2⟩
    go_wp2_with fail
    refine (fil_sl3Filter w.heap.size ao n cap l _ hc2 hn).mono ?_
    rintro e w3 ⟨t, ht, rfl, hc3, hg3⟩
    have hB := below_cur hb0 (grownBy_trans hg1 (grownBy_trans hg2 hg3)) (Nat.le_of_lt hz0)
    go_wp2
    go_ret2
    exact ⟨f, t, hf, ht, rfl, hB⟩

theorem SOwn.alloc {w : World} {B : Nat} {ao : Option Addr} {n cap : Nat} {ss : List ByteArray} (h : SOwn w B ao n cap ss) (o : Obj) : SOwn (w.alloc o) B ao n cap ss := h.below ((Below.refl _ _).alloc (Nat.le_refl _) _)
theorem Cur.sown {w w' : World} {g B : Nat} {ao : Option Addr} {n cap : Nat} {l : List UInt8} {a : Option Addr} {m c : Nat} {x : List ByteArray} (h : Cur w g ao n cap l) (ho : SOwn w B a m c x) (hB : g < B) (hg : w.grownBy w' (Value.slice a m c).ownBlock) : Cur w' g ao n cap l :=
  h.keep hg (fun k e => by have := (ho.2.lt k e).1; omega)
theorem SOwn.cur {w w' : World} {g B : Nat} {a : Option Addr} {m c : Nat} {x : List ByteArray} (h : SOwn w B a m c x) (hB : g < B) (hg : w.grownBy w' (some g)) : SOwn w' B a m c x :=
  h.grown hg (fun d e he => by have := h.block e; simp at he; omega)
theorem grown_sown {w u u' : World} {g B : Nat} {a : Option Addr} {m c : Nat} {x : List ByteArray} (h : w.grownBy u (some g)) (ho : SOwn u B a m c x) (hB : w.heap.size ≤ B) (hg : u.grownBy u' (Value.slice a m c).ownBlock) : w.grownBy u' (some g) :=
  ⟨hg.os.trans h.os, hg.tape.trans h.tape, hg.output.trans h.output, Nat.le_trans h.size hg.size, fun k hk hne => (hg.block k (Nat.lt_of_lt_of_le hk h.size) (fun e => by have := (ho.2.lt k e.symm).1; omega)).trans (h.block k hk hne)⟩

set_option maxHeartbeats 2000000 in
/-- spec.DrawPicks. -/
theorem draw_sDrawPicks (ao : Option Addr) (n cap : Nat) (l : List UInt8) (w : World) (hr : RdIn w ao n cap l) (hn : n ≤ 1048576) :
    Calls Tryd.prog 20 #[.slice ao n cap] w fun e w' => ∃ (a : Option Addr) (m c : Nat) (ss : List ByteArray) (t : ByteArray), m ≤ 9 ∧ (∀ s ∈ ss, s.size ≤ 61) ∧ t.size ≤ 61 ∧ e = .returned (.tuple #[.slice a m c, .string t]) ∧ SOwn w' w.heap.size a m c ss ∧ Below w.heap.size w w' := by
  go_enter Tryd.func20, Tryd.ntmps20
  go_wp2_with fail
  refine (new_sl1New ao n cap l w hr hn).mono ?_
  rintro e w0 ⟨rfl, hc0, hb0⟩
  have hz0 : w.heap.size < w0.heap.size := hc0.lt
  go_wp2_with fail
  refine (below_sl1Below w.heap.size ao n cap l 8 _ (hc0.alloc _) hn (by omega) (by omega)).mono ?_
  rintro e w1 ⟨x, hx0, hx1, rfl, hc1, hg1⟩
  have ho1 := (sown_lit0 w0).cur hz0 hg1
  have hG1 := grownBy_trans (World.grownBy_alloc w0 (.cells #[] 9) (some w.heap.size)) hg1
  clear hg1 hc0
  go_wp2
  go_loopw [5, 6] (fun o i wr => ∃ (k q c : Nat) (a : Option Addr) (ss : List ByteArray), i = .int .i64 k ∧ o = .slice a q c ∧ q + k ≤ 8 ∧ (∀ s ∈ ss, s.size ≤ 61) ∧ SOwn wr w0.heap.size a q c ss ∧ Cur wr w.heap.size ao n cap l ∧ w0.grownBy wr (some w.heap.size)) (fun _ i _ => (intOf i).toNat)
  case atStart =>
    obtain ⟨k, rfl⟩ := Int.eq_ofNat_of_zero_le hx0
    exact ⟨k, 0, 0, _, [], rfl, rfl, by omega, fun s hs => by simp at hs, ho1, hc1, hG1⟩
  case round =>
    obtain ⟨k, q, c, a, ss, rfl, rfl, hq, hss, ho, hcu, hg⟩ := hrel
    have HSS : Hid (∀ s ∈ ss, s.size ≤ 61) := hss
    clear hss ho1 hc1 hG1
    by_cases hk : 0 < k
    · have hk' : (0 : Int) < k := by omega
      go_wp2_with fail
      refine (fil_sl3Filter w.heap.size ao n cap l _ hcu hn).mono ?_
      rintro e w2 ⟨f, hf, rfl, hc2, hg2⟩
      have ho2 := ho.cur hz0 hg2
      have hG2 := grownBy_trans hg hg2
      clear ho hcu hg hg2
      go_wp2_with (at_builtin; refine w_sapp _ rfl _ _ rfl w0.heap.size a q c ss rfl (ho2.alloc _) w2.heap.size f rfl (new_cell _ _ _) (by omega) (by have := hG2.size; simp; omega) ?_)
      intro a3 c3 w3 ho3 hg3
      have hc3 := (hc2.alloc _).sown (ho2.alloc _) hz0 hg3
      have hG3 := grown_sown (grown_alloc hG2 _) (ho2.alloc _) (Nat.le_refl _) hg3
      clear hg3 ho2 hG2 hc2
      go_wp2
      go_roundw
      case rel =>
        refine ⟨k - 1, q + 1, c3, a3, _, by go_num, rfl, by omega, ?_, ho3, hc3, hG3⟩
        intro s hs
        rcases List.mem_append.1 hs with h | h
        · exact HSS.out s h
        · simp at h; subst h; exact hf
      case measure => simp [intOf] <;> omega
    · have hk' : ¬ (0 : Int) < k := by omega
      go_wp2_with fail
      refine (once_sl1Once w.heap.size ao n cap l 5 _ hcu hn (by omega) (by omega)).mono ?_
      rintro e w2 ⟨b, rfl, hc2, hg2⟩
      have ho2 := ho.cur hz0 hg2
      have hG2 := grownBy_trans hg hg2
      clear ho hcu hg hg2
      cases b with
      | true =>
        go_wp2_with fail
        refine (any_sl3Any w.heap.size ao n cap l _ hc2 hn).mono ?_
        rintro e w3 ⟨f, hf, rfl, hc3, hg3⟩
        have ho3 := ho2.cur hz0 hg3
        have hG3 := grownBy_trans hG2 hg3
        clear ho2 hc2 hG2 hg3
        go_wp2_with (at_builtin; refine w_sapp _ rfl _ _ rfl w0.heap.size a q c ss rfl (ho3.alloc _) w3.heap.size f rfl (new_cell _ _ _) (by omega) (by have := hG3.size; simp; omega) ?_)
        intro a4 c4 w4 ho4 hg4
        have hc4 := (hc3.alloc _).sown (ho3.alloc _) hz0 hg4
        have hG4 := grown_sown (grown_alloc hG3 _) (ho3.alloc _) (Nat.le_refl _) hg4
        clear hg4 ho3 hG3 hc3
        go_wp2_with fail
        refine (top_sl3Topic w.heap.size ao n cap l _ hc4 hn).mono ?_
        rintro e w5 ⟨t, ht, rfl, hc5, hg5⟩
        have ho5 := ho4.cur hz0 hg5
        have hB := below_cur hb0 (grownBy_trans hG4 hg5) (Nat.le_of_lt hz0)
        go_wp2
        go_ret2
        refine ⟨a4, q + 1, c4, _, t, by omega, ?_, ht, rfl, ho5.mono (Nat.le_of_lt hz0), hB⟩
        intro s hs
        rcases List.mem_append.1 hs with h | h
        · exact HSS.out s h
        · simp at h; subst h; exact hf
      | false =>
        go_wp2_with fail
        refine (top_sl3Topic w.heap.size ao n cap l _ hc2 hn).mono ?_
        rintro e w5 ⟨t, ht, rfl, hc5, hg5⟩
        have ho5 := ho2.cur hz0 hg5
        have hB := below_cur hb0 (grownBy_trans hG2 hg5) (Nat.le_of_lt hz0)
        go_wp2
        go_ret2
        exact ⟨a, q, c, ss, t, by omega, HSS.out, ht, rfl, ho5.mono (Nat.le_of_lt hz0), hB⟩

end Go.Proofs.YtdjbaieaelhhiaaDoor
