/- Texts that the law FnExactBufOk uses. -/
import Derived.Test.YtccjiicjlifmiaaGreatDoorR33
set_option linter.unusedVariables false
set_option linter.unusedSimpArgs false
set_option maxRecDepth 100000
set_option maxHeartbeats 20000000
namespace Go.Proofs.YtccjiicjlifmiaaGreatDoor
open Go.RowKit

theorem str_eq (x y : List UInt8) : ((⟨x.toArray⟩ : ByteArray).toList == (⟨y.toArray⟩ : ByteArray).toList) = decide (x = y) := by
 rw [ByteArray.toList_eq, ByteArray.toList_eq, Bool.eq_iff_iff]
 simp
theorem beq_bytes (x y : List UInt8) : (x == y) = decide (x = y) := by
 rw [Bool.eq_iff_iff]
 simp
theorem eq_xEqual (a b : Option Addr) (n c m k : Nat) (x y : List UInt8) (w : World) (hx : RdIn w a n c x) (hy : RdIn w b m k y) :
  Calls Tryz.prog 160 #[.slice a n c, .slice b m k] w fun e w' => e = .returned (.bool (decide (x = y))) ∧ w' = w := by
 have h1 := qha hx
 have h2 := qha hy
 have h3 := str_eq x y
 go_enter Tryz.func160, Tryz.ntmps160
 go_wp2
 go_ret
 exact ⟨qab (beq_bytes x y), rfl⟩
theorem rd_head {w : World} {ao : Option Addr} {n cap : Nat} {l : List UInt8} (h : RdIn w ao n cap l) (m : Nat) (hm : m ≤ n) : RdIn w ao m cap (l.take m) := by
 obtain ⟨⟨hl, hc⟩, h2, h3, h4⟩ := h
 refine ⟨⟨by rw [List.length_take]; omega, fun i hi => ?_⟩, by omega, h3, h4⟩
 obtain ⟨b, off, e, hcell⟩ := hc i (by omega)
 refine ⟨b, off, e, ?_⟩
 rw [hcell]
 have e2 : bt (l.take m) i = bt l i := by
  unfold bt
  rw [List.getD_eq_getElem?_getD, List.getD_eq_getElem?_getD, List.getElem?_take, if_pos hi]
 rw [e2]
theorem qou (a b : Option Addr) (n c m k : Nat) (x y : List UInt8) (w : World) (hx : RdIn w a n c x) (hy : RdIn w b m k y) :
  Calls Tryz.prog 129 #[.slice a n c, .slice b m k] w fun e w' => e = .returned (.bool (qfq x y)) ∧ w' = w := by
 have l1 := hx.1.1
 have l2 := hy.1.1
 have hcap := hx.2.1
 by_cases h : m ≤ n
 ·have h' : (m : Int) ≤ n := by omega
  have hB : Hid (qfq x y = decide (x.take m = y)) := by unfold Hid qfq; rw [l2]
  have hsl : ∀ w', (Instr.slice 22 (.slice a n c) none (some (.int .i64 (m : Int))) none).run Tryz.prog w' = .ok (.slice a m c) w' := fun w' => qpe a n c m (by omega) w'
  have hx' := rd_head hx m h
  clear l1 l2 hcap hx
  go_enter Tryz.func129, Tryz.ntmps129
  go_wp2_with fail
  refine (eq_xEqual a b m c m k _ y _ hx' hy).mono ?_
  rintro e w1 ⟨rfl, rfl⟩
  go_wp2
  go_ret
  rw [hB.out]
  exact ⟨rfl, rfl⟩
 ·have h' : ¬ (m : Int) ≤ n := by omega
  have hB : Hid (qfq x y = false) := by
   unfold Hid qfq
   rw [decide_eq_false_iff_not]
   intro e
   have := congrArg List.length e
   rw [List.length_take] at this
   omega
  clear l1 l2 hcap hx hy
  go_enter Tryz.func129, Tryz.ntmps129
  go_wp2
  go_ret
  rw [hB.out]
  exact ⟨rfl, rfl⟩
end Go.Proofs.YtccjiicjlifmiaaGreatDoor
