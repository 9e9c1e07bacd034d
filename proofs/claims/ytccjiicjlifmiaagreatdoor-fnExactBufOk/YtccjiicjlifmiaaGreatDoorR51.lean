/- Texts that the law FnExactBufOk uses. -/
import Derived.Test.YtccjiicjlifmiaaGreatDoorR50
set_option linter.unusedVariables false
set_option linter.unusedSimpArgs false
set_option maxRecDepth 100000
set_option maxHeartbeats 20000000
namespace Go.Proofs.YtccjiicjlifmiaaGreatDoor
open Go.RowKit

theorem getP_of1 {b : List UInt8} (h : headE b = .inl 1) : getP b = (Pv.zero, 0, 1) := by
 unfold getP; rw [h]
theorem getP_nil : getP [] = (Pv.zero, 0, 1) := getP_of1 (by unfold headE; rw [if_pos List.length_nil])
def bufOk (h : List UInt8) (x : Bool) : Bool := if h.length = 0 then true else decide ((getP h).2.2 = 1) && !x

theorem bufOk_one (l : List UInt8) (x : Bool) : bufOk l x = if x then decide (l.length = 0) else decide ((getP l).2.2 = 1) := by
 unfold bufOk
 by_cases h : l.length = 0
 ·rw [if_pos h]
  obtain rfl := List.length_eq_zero_iff.1 h
  cases x <;> simp [getP_nil]
 ·rw [if_neg h]
  cases x <;> simp [h]
theorem buf_i (ao : Option Addr) (n cap : Nat) (l : List UInt8) (x : Bool) (w : World) (hr : RdIn w ao n cap l) (hn : n ≤ 1048576) (hT : ErrTy w) :
  Calls Tryz.prog 38 #[.agg #[.slice ao n cap, .bool x]] w fun e w' => e = .returned (.bool (bufOk l x)) ∧ Below w.heap.size w w' := by
 have hb := bel_new w (.cells #[.slice ao n cap, .bool x] 51)
 have hTl : 1 < w.heap.size := World.block_lt_of_cell? _ _ hT
 have hl : l.length = n := hr.1.1
 rw [bufOk_one, hl]
 cases x with
 | true =>
  have hz : decide (n = 0) = ((n : Int) == 0) := by
   by_cases h : n = 0 <;> simp [h]
  simp only [if_true, hz]
  clear hz
  go_enter Tryz.func38, Tryz.ntmps38
  go_wp2
  go_ret
  exact ⟨rfl, hb⟩
 | false =>
  simp only [Bool.false_eq_true, if_false]
  obtain ⟨v, nn, cc, hg⟩ : ∃ v nn cc, getP l = (v, nn, cc) := ⟨_, _, _, rfl⟩
  have HG : Hid (∀ u u' e, Got u u' e l = Good u u' e v nn (.int .i64 cc)) := fun u u' e => by unfold Got; rw [hg]
  rw [hg]
  have hz : decide (cc = 1) = (cc == 1) := rfl
  simp only [hz]
  clear hg hz
  have hr1 := hr.below hb
  have hT1 := hT.below hb hTl
  clear hr hT
  go_enter Tryz.func38, Tryz.ntmps38
  go_wp2_with fail
  refine (get_i _ _ _ l _ hr1 hn hT1).mono ?_
  intro e u hh
  rw [HG.out] at hh
  obtain ⟨p, d, rfl, ow, gd, hpv, b2⟩ := hh
  replace hb := bel hb b2
  replace hb := bel hb (bel_new u (.cells p.cells 28))
  clear b2 ow gd hpv
  go_wp2_with (first | refine qax (p := p) rfl rfl ?_ | fail)
  go_ret
  exact ⟨rfl, hb⟩
theorem buf_s (ao : Option Addr) (n cap : Nat) (l : List UInt8) (x : Bool) (w : World) (hr : RdIn w ao n cap l) (hn : n ≤ 1048576) :
  Calls Tryz.prog 39 #[.agg #[.slice ao n cap, .bool x]] w fun e w' => e = .returned (.bool (bufOk l x)) ∧ Below w.heap.size w w' := by
 have hb := bel_new w (.cells #[.slice ao n cap, .bool x] 51)
 have hl : l.length = n := hr.1.1
 by_cases h0 : n = 0
 ·have hB : bufOk l x = true := by unfold bufOk; rw [if_pos (by omega)]
  rw [hB]
  subst h0
  clear hB
  go_enter Tryz.func39, Tryz.ntmps39
  go_wp2
  go_ret
  exact ⟨rfl, hb⟩
 ·have hn0 : ((n : Int) == 0) = false := by simpa using h0
  obtain ⟨v, nn, cc, hg⟩ : ∃ v nn cc, getP l = (v, nn, cc) := ⟨_, _, _, rfl⟩
  have HG : Hid (∀ u u' e, Got u u' e l = Good u u' e v nn (.int .i64 cc)) := fun u u' e => by unfold Got; rw [hg]
  have hB : bufOk l x = ((cc == 1) && !x) := by unfold bufOk; rw [if_neg (by omega), hg]; rfl
  rw [hB]
  clear hg hB
  have hr1 := hr.below hb
  clear hr
  go_enter Tryz.func39, Tryz.ntmps39
  go_wp2_with fail
  refine (get_s _ _ _ l _ hr1 hn).mono ?_
  intro e u hh
  rw [HG.out] at hh
  obtain ⟨p, d, rfl, ow, gd, hpv, b2⟩ := hh
  have f1 : (w.alloc (.cells #[.slice ao n cap, .bool x] 51)).cell? ⟨w.heap.size, 1, none⟩ = some (.bool x) := (cell_of (heap_alloc_new _ _) 1).trans rfl
  have f1u := (b2.cell (p := ⟨w.heap.size, 1, none⟩) (by simp)).trans f1
  have f1v := ((bel_new u (.cells p.cells 28)).cell (p := ⟨w.heap.size, 1, none⟩) (World.block_lt_of_cell? _ _ f1u)).trans f1u
  replace hb := bel hb b2
  replace hb := bel hb (bel_new u (.cells p.cells 28))
  clear b2 ow gd hpv f1 f1u
  by_cases hc : cc = 1
  ·have hcb : (cc == 1) = true := by simpa using hc
   go_wp2_with (first | refine qax (p := p) rfl rfl ?_ | fail)
   go_ret
   exact ⟨by simp [hcb], hb⟩
  ·have hcb : (cc == 1) = false := by simpa using hc
   go_wp2_with (first | refine qax (p := p) rfl rfl ?_ | fail)
   go_ret
   exact ⟨by simp [hcb], hb⟩
theorem sz_lszBuf (a : Option Addr) (n c L : Nat) (x : Bool) (w : World) (hn : n ≤ maxLen) (hL : L ≤ 1048576) :
  Calls Tryz.prog 50 #[.agg #[.slice a n c, .bool x], .int .i64 L] w fun e w' => ∃ r : Int, e = .returned (.int .i64 r) ∧ Below w.heap.size w w' ∧ (r < 0 ∨ ∃ R : Nat, r = R ∧ R + n = L) := by
 have hb := bel_new w (.cells #[.slice a n c, .bool x] 61)
 go_enter Tryz.func50, Tryz.ntmps50
 go_wp2_with fail
 refine (qsz a n c L _ hn hL).mono ?_
 rintro e u ⟨r, rfl, rfl, hr⟩
 by_cases h : r < 0
 ·go_wp2
  go_ret
  exact ⟨-1, rfl, hb, .inl (by decide)⟩
 ·go_wp2
  go_ret
  exact ⟨r, rfl, hb, hr⟩
theorem to_ltoBuf (a : Option Addr) (n c : Nat) (l : List UInt8) (x : Bool) (w : World) (hr : RdIn w a n c l) (hn : n ≤ 1048576) :
  Calls Tryz.prog 51 #[.agg #[.slice a n c, .bool x]] w fun e w' => ∃ q, e = .returned (.agg #[.slice (some ⟨q, 0, none⟩) n n, .bool x]) ∧ w.heap.size ≤ q ∧ Own w' w.heap.size (some ⟨q, 0, none⟩) n n l ∧ Below w.heap.size w w' := by
 have A1 : (w.alloc (.cells #[.slice a n c, .bool x] 61)).heap[w.heap.size]? = some (.cells #[.slice a n c, .bool x] 61) := heap_alloc_new _ _
 go_enter Tryz.func51, Tryz.ntmps51
 go_wp2_with fail
 have hb1 := bel_new w (.cells #[.slice a n c, .bool x] 61)
 have hb3 : Below w.heap.size w (((w.alloc (.cells #[.slice a n c, .bool x] 61)).alloc (.cells #[.slice none 0 0, .bool false] 51)).alloc (.cells #[.slice none 0 0, .bool false] 51)) := bel (bel hb1 (bel_new _ _)) (bel_new _ _)
 refine (qta _ _ _ l _ (hr.below hb3) (by omega)).mono ?_
 rintro e u ⟨rfl, ho, b2⟩
 have g0 : (((w.alloc (.cells #[.slice a n c, .bool x] 61)).alloc (.cells #[.slice none 0 0, .bool false] 51)).alloc (.cells #[.slice none 0 0, .bool false] 51)).heap[w.heap.size]? = some (.cells #[.slice a n c, .bool x] 61) := (Below.heap_alloc _ _ _ (by simp; omega)).trans (heap_alloc2_old _ _ _)
 have g1 : (((w.alloc (.cells #[.slice a n c, .bool x] 61)).alloc (.cells #[.slice none 0 0, .bool false] 51)).alloc (.cells #[.slice none 0 0, .bool false] 51)).heap[w.heap.size + 1]? = some (.cells #[.slice none 0 0, .bool false] 51) := by
  have := heap_alloc2_old (w.alloc (.cells #[.slice a n c, .bool x] 61)) (.cells #[.slice none 0 0, .bool false] 51) (.cells #[.slice none 0 0, .bool false] 51)
  rwa [World.size_alloc] at this
 have g2 : (((w.alloc (.cells #[.slice a n c, .bool x] 61)).alloc (.cells #[.slice none 0 0, .bool false] 51)).alloc (.cells #[.slice none 0 0, .bool false] 51)).heap[w.heap.size + 1 + 1]? = some (.cells #[.slice none 0 0, .bool false] 51) := by
  have := heap_alloc_new ((w.alloc (.cells #[.slice a n c, .bool x] 61)).alloc (.cells #[.slice none 0 0, .bool false] 51)) (.cells #[.slice none 0 0, .bool false] 51)
  rwa [World.size_alloc, World.size_alloc] at this
 have hsz : (((w.alloc (.cells #[.slice a n c, .bool x] 61)).alloc (.cells #[.slice none 0 0, .bool false] 51)).alloc (.cells #[.slice none 0 0, .bool false] 51)).heap.size = w.heap.size + 3 := by simp
 rw [hsz] at ho b2 ⊢
 replace g0 := (b2.block _ (by omega)).trans g0
 replace g1 := (b2.block _ (by omega)).trans g1
 replace g2 := (b2.block _ (by omega)).trans g2
 replace hb3 : Below w.heap.size w u := hb3.trans (b2.mono (by omega))
 clear b2 hsz hb1 A1
 have c01 := cell_of g0 1
 have c10 := cell_of g1 0
 have c11 := cell_of g1 1
 have z10 := Lib.frozen_of_heap g1 0
 have z11 := Lib.frozen_of_heap g1 1
 have c20 := cell_of g2 0
 have c21 := cell_of g2 1
 have z20 := Lib.frozen_of_heap g2 0
 have z21 := Lib.frozen_of_heap g2 1
 simp only [List.getElem?_toArray, List.getElem?_cons_zero, List.getElem?_cons_succ] at c01 c10 c11 c20 c21
 go_wp2
 have o1 := ho.grown (qae u (w.heap.size + 1 + 1) 0 (.slice (some ⟨w.heap.size + 3, 0, none⟩) n n)) (fun q0 e he => by cases e; simp at he)
 have o2 := o1.grown (qae _ (w.heap.size + 1 + 1) 1 (.bool x)) (fun q0 e he => by cases e; simp at he)
 have o3 := o2.grown (qae _ (w.heap.size + 1) 0 (.slice (some ⟨w.heap.size + 3, 0, none⟩) n n)) (fun q0 e he => by cases e; simp at he)
 have o4 := o3.grown (qae _ (w.heap.size + 1) 1 (.bool x)) (fun q0 e he => by cases e; simp at he)
 have d1 := qat hb3 (qae u (w.heap.size + 1 + 1) 0 (.slice (some ⟨w.heap.size + 3, 0, none⟩) n n)) (by omega)
 have d2 := qat d1 (qae _ (w.heap.size + 1 + 1) 1 (.bool x)) (by omega)
 have d3 := qat d2 (qae _ (w.heap.size + 1) 0 (.slice (some ⟨w.heap.size + 3, 0, none⟩) n n)) (by omega)
 have d4 := qat d3 (qae _ (w.heap.size + 1) 1 (.bool x)) (by omega)
 have s1 := (qae u (w.heap.size + 1 + 1) 0 (.slice (some ⟨w.heap.size + 3, 0, none⟩) n n)).block (w.heap.size + 1) (Array.getElem?_eq_some_iff.1 g1).1 (fun e => by simp at e)
 have s2 := (qae _ (w.heap.size + 1 + 1) 1 (.bool x)).block (w.heap.size + 1) (Array.getElem?_eq_some_iff.1 (s1.trans g1)).1 (fun e => by simp at e)
 have r1 := qad (qad (s2.trans (s1.trans g1)) 0 (.slice (some ⟨w.heap.size + 3, 0, none⟩) n n)) 1 (.bool x)
 exact bodyPost_ret (results_cell_row rfl _ _ (w.heap.size + 1) 51 #[.slice (some ⟨w.heap.size + 3, 0, none⟩) n n, .bool x] (0, 0) _ rfl r1 Tryz.underlying51 rfl (show (Tryz.prog.info? 51).map (fun x => x.size) = some 2 by kernel_rfl)) rfl ⟨w.heap.size + 3, rfl, by omega, o4.mono (by omega), d4⟩
theorem eq_leqBuf (a a' : Option Addr) (n c c' : Nat) (l : List UInt8) (x : Bool) (w : World) (hr : RdIn w a n c l) (hr' : RdIn w a' n c' l) (hn : n ≤ 1048576) :
  Calls Tryz.prog 52 #[.agg #[.slice a n c, .bool x], .agg #[.slice a' n c', .bool x]] w fun e w' => e = .returned (.bool true) ∧ Below w.heap.size w w' := by
 have hb1 := bel_new w (.cells #[.slice a n c, .bool x] 51)
 have hb2 := bel_new (w.alloc (.cells #[.slice a n c, .bool x] 51)) (.cells #[.slice a' n c', .bool x] 51)
 have hb := bel hb1 hb2
 have hxx : (x != x) = false := by simp
 go_enter Tryz.func52, Tryz.ntmps52
 go_wp2_with fail
 refine (qsb _ _ _ _ _ l _ (hr.below hb) (hr'.below hb) (by omega)).mono ?_
 rintro e u ⟨rfl, b2⟩
 have f1 : ((w.alloc (.cells #[.slice a n c, .bool x] 51)).alloc (.cells #[.slice a' n c', .bool x] 51)).cell? ⟨w.heap.size, 1, none⟩ = some (.bool x) := (cell_of (heap_alloc2_old _ _ _) 1).trans rfl
 have f2 : ((w.alloc (.cells #[.slice a n c, .bool x] 51)).alloc (.cells #[.slice a' n c', .bool x] 51)).cell? ⟨(w.alloc (.cells #[.slice a n c, .bool x] 51)).heap.size, 1, none⟩ = some (.bool x) := (cell_of (heap_alloc_new _ _) 1).trans rfl
 rw [World.size_alloc] at f2
 replace f1 := (b2.cell (p := ⟨w.heap.size, 1, none⟩) (World.block_lt_of_cell? _ _ f1)).trans f1
 replace f2 := (b2.cell (p := ⟨w.heap.size + 1, 1, none⟩) (World.block_lt_of_cell? _ _ f2)).trans f2
 replace hb := bel hb b2
 clear b2 hb1 hb2
 go_wp2
 go_ret
 exact ⟨rfl, hb⟩
end Go.Proofs.YtccjiicjlifmiaaGreatDoor
