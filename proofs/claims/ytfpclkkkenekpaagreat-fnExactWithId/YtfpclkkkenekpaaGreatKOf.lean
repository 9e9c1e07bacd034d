/- The program's kindOf at each kind. -/
import Derived.Test.YtfpclkkkenekpaaGreatKCon
set_option linter.unusedVariables false
set_option linter.unusedSimpArgs false
namespace Go.Proofs.YtfpclkkkenekpaaGreat
open Go.RowKit

set_option maxRecDepth 100000 in
set_option maxHeartbeats 2000000 in
theorem kind_connectKind (p : Pk) (w : World) (ht : p.ty = 1) : Calls Tryz.prog 39 #[.agg p.cells] w fun e w' => e = .returned (.iface 87 (.agg (conOf p))) ∧ Below w.heap.size w w' := by
  have a0 := p.c0
  rw [ht] at a0
  clear ht
  have hb : Below w.heap.size w (w.alloc (.cells p.cells 32)) := bel_new _ _
  have A : Blk (w.alloc (.cells p.cells 32)) w.heap.size p := heap_alloc_new _ _
  go_enter Tryz.func39, Tryz.ntmps39
  go_wp2_with (first | refine load_pk A rfl _ rfl rfl ?_ | fail)
  refine (con_of p _).mono ?_
  rintro e w2 ⟨rfl, hb2⟩
  go_wp2
  go_ret
  exact ⟨rfl, bel hb hb2⟩
theorem ret_ack {n : Int} {a b : Bool} (h : a = b) : Ending.returned (.iface 90 (.agg #[.int .i64 n, .bool a])) = .returned (.iface 90 (.agg #[.int .i64 n, .bool b])) := by rw [h]
set_option maxRecDepth 100000 in
set_option maxHeartbeats 2000000 in
theorem kind_connAckKind (p : Pk) (w : World) (ht : p.ty = 2) : Calls Tryz.prog 39 #[.agg p.cells] w fun e w' => e = .returned (.iface 90 (.agg #[.int .i64 p.cod, .bool (p.pre && decide (p.cod = 0))])) ∧ Below w.heap.size w w' := by
  have a0 := p.c0
  rw [ht] at a0
  have a20 := p.c20
  have a21 := p.c21
  clear ht
  generalize p.cells = cs at *
  cases hp : p.pre
  · rw [hp] at a21
    clear hp
    go_enter Tryz.func39, Tryz.ntmps39
    go_wp2
    go_ret
    exact ⟨rfl, bel_new _ _⟩
  · rw [hp] at a21
    clear hp
    go_enter Tryz.func39, Tryz.ntmps39
    go_wp2
    go_ret
    exact ⟨ret_ack (by rw [Bool.eq_iff_iff]; simp), bel_new _ _⟩
set_option maxRecDepth 100000 in
set_option maxHeartbeats 2000000 in
theorem kind_publishKind (p : Pk) (w : World) (ht : p.ty = 3) : Calls Tryz.prog 39 #[.agg p.cells] w fun e w' => e = .returned (.iface 92 (.agg (pubOf p))) ∧ Below w.heap.size w w' := by
  have a0 := p.c0
  rw [ht] at a0
  clear ht
  have hb : Below w.heap.size w (w.alloc (.cells p.cells 32)) := bel_new _ _
  have A : Blk (w.alloc (.cells p.cells 32)) w.heap.size p := heap_alloc_new _ _
  go_enter Tryz.func39, Tryz.ntmps39
  go_wp2_with (first | refine load_pk A rfl _ rfl rfl ?_ | fail)
  refine (pub_of p _).mono ?_
  rintro e w2 ⟨rfl, hb2⟩
  go_wp2
  go_ret
  exact ⟨rfl, bel hb hb2⟩
set_option maxRecDepth 100000 in
set_option maxHeartbeats 2000000 in
theorem kind_pubAckKind (p : Pk) (w : World) (ht : p.ty = 4) : Calls Tryz.prog 39 #[.agg p.cells] w fun e w' => e = .returned (.iface 97 (.agg #[.int .i64 p.id])) ∧ Below w.heap.size w w' := by
  have a0 := p.c0
  rw [ht] at a0
  have a4 := p.c4
  clear ht
  generalize p.cells = cs at *
  go_enter Tryz.func39, Tryz.ntmps39
  go_wp2
  go_ret
  exact ⟨rfl, bel_new _ _⟩
set_option maxRecDepth 100000 in
set_option maxHeartbeats 2000000 in
theorem kind_pubRecKind (p : Pk) (w : World) (ht : p.ty = 5) : Calls Tryz.prog 39 #[.agg p.cells] w fun e w' => e = .returned (.iface 98 (.agg #[.int .i64 p.id])) ∧ Below w.heap.size w w' := by
  have a0 := p.c0
  rw [ht] at a0
  have a4 := p.c4
  clear ht
  generalize p.cells = cs at *
  go_enter Tryz.func39, Tryz.ntmps39
  go_wp2
  go_ret
  exact ⟨rfl, bel_new _ _⟩
set_option maxRecDepth 100000 in
set_option maxHeartbeats 2000000 in
theorem kind_pubRelKind (p : Pk) (w : World) (ht : p.ty = 6) : Calls Tryz.prog 39 #[.agg p.cells] w fun e w' => e = .returned (.iface 99 (.agg #[.int .i64 p.id])) ∧ Below w.heap.size w w' := by
  have a0 := p.c0
  rw [ht] at a0
  have a4 := p.c4
  clear ht
  generalize p.cells = cs at *
  go_enter Tryz.func39, Tryz.ntmps39
  go_wp2
  go_ret
  exact ⟨rfl, bel_new _ _⟩
set_option maxRecDepth 100000 in
set_option maxHeartbeats 2000000 in
theorem kind_pubCompKind (p : Pk) (w : World) (ht : p.ty = 7) : Calls Tryz.prog 39 #[.agg p.cells] w fun e w' => e = .returned (.iface 100 (.agg #[.int .i64 p.id])) ∧ Below w.heap.size w w' := by
  have a0 := p.c0
  rw [ht] at a0
  have a4 := p.c4
  clear ht
  generalize p.cells = cs at *
  go_enter Tryz.func39, Tryz.ntmps39
  go_wp2
  go_ret
  exact ⟨rfl, bel_new _ _⟩
set_option maxRecDepth 100000 in
set_option maxHeartbeats 2000000 in
theorem kind_subscribeKind (p : Pk) (w : World) (ht : p.ty = 8) : Calls Tryz.prog 39 #[.agg p.cells] w fun e w' => e = .returned (.iface 102 (.agg #[.int .i64 p.id, .slice p.wan.a p.wan.n p.wan.c])) ∧ Below w.heap.size w w' := by
  have a0 := p.c0
  rw [ht] at a0
  have a4 := p.c4
  have a22 := p.c22
  clear ht
  generalize p.cells = cs at *
  go_enter Tryz.func39, Tryz.ntmps39
  go_wp2
  go_ret
  exact ⟨rfl, bel_new _ _⟩
set_option maxRecDepth 100000 in
set_option maxHeartbeats 2000000 in
theorem kind_subAckKind (p : Pk) (w : World) (ht : p.ty = 9) : Calls Tryz.prog 39 #[.agg p.cells] w fun e w' => e = .returned (.iface 104 (.agg #[.int .i64 p.id, .slice p.cds.a p.cds.n p.cds.c])) ∧ Below w.heap.size w w' := by
  have a0 := p.c0
  rw [ht] at a0
  have a4 := p.c4
  have a24 := p.c24
  clear ht
  generalize p.cells = cs at *
  go_enter Tryz.func39, Tryz.ntmps39
  go_wp2
  go_ret
  exact ⟨rfl, bel_new _ _⟩
set_option maxRecDepth 100000 in
set_option maxHeartbeats 2000000 in
theorem kind_unsubscribeKind (p : Pk) (w : World) (ht : p.ty = 10) : Calls Tryz.prog 39 #[.agg p.cells] w fun e w' => e = .returned (.iface 106 (.agg #[.int .i64 p.id, .slice p.nam.a p.nam.n p.nam.c])) ∧ Below w.heap.size w w' := by
  have a0 := p.c0
  rw [ht] at a0
  have a4 := p.c4
  have a23 := p.c23
  clear ht
  generalize p.cells = cs at *
  go_enter Tryz.func39, Tryz.ntmps39
  go_wp2
  go_ret
  exact ⟨rfl, bel_new _ _⟩
set_option maxRecDepth 100000 in
set_option maxHeartbeats 2000000 in
theorem kind_unsubAckKind (p : Pk) (w : World) (ht : p.ty = 11) : Calls Tryz.prog 39 #[.agg p.cells] w fun e w' => e = .returned (.iface 107 (.agg #[.int .i64 p.id])) ∧ Below w.heap.size w w' := by
  have a0 := p.c0
  rw [ht] at a0
  have a4 := p.c4
  clear ht
  generalize p.cells = cs at *
  go_enter Tryz.func39, Tryz.ntmps39
  go_wp2
  go_ret
  exact ⟨rfl, bel_new _ _⟩
set_option maxRecDepth 100000 in
set_option maxHeartbeats 2000000 in
theorem kind_pingReqKind (p : Pk) (w : World) (ht : p.ty = 12) : Calls Tryz.prog 39 #[.agg p.cells] w fun e w' => e = .returned (.iface 111 (.agg #[])) ∧ Below w.heap.size w w' := by
  have a0 := p.c0
  rw [ht] at a0
  clear ht
  generalize p.cells = cs at *
  go_enter Tryz.func39, Tryz.ntmps39
  go_wp2
  go_ret
  exact ⟨rfl, bel_new _ _⟩
set_option maxRecDepth 100000 in
set_option maxHeartbeats 2000000 in
theorem kind_pingRespKind (p : Pk) (w : World) (ht : p.ty = 13) : Calls Tryz.prog 39 #[.agg p.cells] w fun e w' => e = .returned (.iface 112 (.agg #[])) ∧ Below w.heap.size w w' := by
  have a0 := p.c0
  rw [ht] at a0
  clear ht
  generalize p.cells = cs at *
  go_enter Tryz.func39, Tryz.ntmps39
  go_wp2
  go_ret
  exact ⟨rfl, bel_new _ _⟩
set_option maxRecDepth 100000 in
set_option maxHeartbeats 2000000 in
theorem kind_disconnectKind (p : Pk) (w : World) (ht : p.ty = 14) : Calls Tryz.prog 39 #[.agg p.cells] w fun e w' => e = .returned (.iface 113 (.agg #[])) ∧ Below w.heap.size w w' := by
  have a0 := p.c0
  rw [ht] at a0
  clear ht
  generalize p.cells = cs at *
  go_enter Tryz.func39, Tryz.ntmps39
  go_wp2
  go_ret
  exact ⟨rfl, bel_new _ _⟩
set_option maxRecDepth 100000 in
set_option maxHeartbeats 2000000 in
theorem kind_none (p : Pk) (w : World) (ht : ¬ (1 ≤ p.ty ∧ p.ty ≤ 14)) : Calls Tryz.prog 39 #[.agg p.cells] w fun e w' => e = .returned .nilIface ∧ Below w.heap.size w w' := by
  have a0 := p.c0
  have n1 : (p.ty == 1) = false := by simp; omega
  have n2 : (p.ty == 2) = false := by simp; omega
  have n3 : (p.ty == 3) = false := by simp; omega
  have n4 : (p.ty == 4) = false := by simp; omega
  have n5 : (p.ty == 5) = false := by simp; omega
  have n6 : (p.ty == 6) = false := by simp; omega
  have n7 : (p.ty == 7) = false := by simp; omega
  have n8 : (p.ty == 8) = false := by simp; omega
  have n9 : (p.ty == 9) = false := by simp; omega
  have n10 : (p.ty == 10) = false := by simp; omega
  have n11 : (p.ty == 11) = false := by simp; omega
  have n12 : (p.ty == 12) = false := by simp; omega
  have n13 : (p.ty == 13) = false := by simp; omega
  have n14 : (p.ty == 14) = false := by simp; omega
  clear ht
  generalize p.cells = cs at *
  go_enter Tryz.func39, Tryz.ntmps39
  go_wp2
  go_ret
  exact ⟨rfl, bel_new _ _⟩
end Go.Proofs.YtfpclkkkenekpaaGreat
