/- The draws of chapter 5. -/
import Derived.Test.YtccjiicjlifmiaaGreatDoorL5a
set_option linter.unusedVariables false
set_option linter.unusedSimpArgs false
namespace Go.Proofs.YtccjiicjlifmiaaGreatDoor
open Go.RowKit

set_option maxRecDepth 100000 in
set_option maxHeartbeats 4000000 in
/-- spec.DrawPutPacket. -/
theorem draw_sDrawPutPacket (ao : Option Addr) (n cap : Nat) (l : List UInt8) (w : World) (hr : RdIn w ao n cap l) (hn : n ≤ 1048576) :
    Calls Tryz.prog 14 #[.slice ao n cap] w fun e w' => ∃ p d, e = .returned (.agg (Pk.cells p)) ∧ POwn w' w.heap.size p d ∧ Pgd 256 p d ∧ Below w.heap.size w w' := by
  have A : Blk (w.alloc (.cells Pk.zero.cells 28)) w.heap.size Pk.zero := heap_alloc_new _ _
  have hr0 := hr.below (bel_new w (.cells Pk.zero.cells 28))
  have hb := bel_new w (.cells Pk.zero.cells 28)
  go_enter Tryz.func14, Tryz.ntmps14
  go_wp2_with (first | refine al_pk ?_ | fail)
  refine (new_sl1New ao n cap l _ hr0 hn).mono ?_
  rintro e w0 ⟨rfl, hc0, hb0⟩
  replace A := A.next hb0
  replace hb := bel hb hb0
  have hz0 := hc0.lt
  simp only [World.size_alloc] at hc0 hz0 ⊢
  go_wp2_with fail
  refine (any_sl5Any _ ao n cap l w0 hc0 hn).mono ?_
  rintro e w1 ⟨p, d, rfl, hp, hd, hc1, hg1⟩
  replace A : Blk w1 w.heap.size Pk.zero := (hg1.block _ A.lt (fun e => by simp at e)).trans A
  have hb1 : Below w.heap.size w w1 := hb.grown hg1 hb.size (fun k e => by cases e; omega)
  have hne : ¬ p.has w.heap.size := fun hk => by have := (hp.lt hk).1; omega
  go_wp2_with (first | (refine store_pk2 (q := p) (old := Pk.zero) A rfl rfl ?_; intro w9 B9 g9) | fail)
  exact ret_pk rfl rfl B9 rfl ⟨p, d, rfl, (hp.grown g9 (fun k e => by cases e; exact hne)).mono (by omega), hd, hb1.grown g9 hb1.size (fun k e => by cases e; exact Nat.le_refl _)⟩

set_option maxHeartbeats 2000000 in
/-- spec.DrawWithId. -/
theorem draw_sDrawWithId (ao : Option Addr) (n cap : Nat) (l : List UInt8) (w : World) (hr : RdIn w ao n cap l) (hn : n ≤ 1048576) :
    Calls Tryz.prog 20 #[.slice ao n cap] w fun e w' => ∃ k id : Int, -1 ≤ k ∧ k ≤ 15 ∧ e = .returned (.tuple #[.int .i64 k, .int .i64 id]) ∧ Below w.heap.size w w' := by
  go_enter Tryz.func20, Tryz.ntmps20
  go_wp2_with fail
  refine (new_sl1New ao n cap l _ hr hn).mono ?_
  rintro e w0 ⟨rfl, hc0, hb0⟩
  have hz0 : w.heap.size < w0.heap.size := hc0.lt
  go_wp2_with fail
  refine (below_sl1Below w.heap.size ao n cap l 17 _ hc0 hn (by omega) (by omega)).mono ?_
  rintro e w1 ⟨x, hx0, hx1, rfl, hc1, hg1⟩
  have lts := hc1.lt
  go_wp2_with fail
  refine (int_sl1Int w.heap.size ao n cap l _ 6 6 [1, 7, 65535, 0, 65536, (Int.negSucc 0)] _ (hc1.alloc _) hn (by omega) (by omega) rfl (fun i hi => ints_at _ [1, 7, 65535, 0, 65536, (Int.negSucc 0)] _ (by simp) i hi) (by omega)).mono ?_
  rintro e w2 ⟨id, _, rfl, hc2, hg2⟩
  have hB := below_cur hb0 (grownBy_trans hg1 (grownBy_trans (World.grownBy_alloc _ _ _) hg2)) (Nat.le_of_lt hz0)
  go_wp2
  go_ret2
  exact ⟨_, id, by omega, by omega, rfl, hB⟩
end Go.Proofs.YtccjiicjlifmiaaGreatDoor
