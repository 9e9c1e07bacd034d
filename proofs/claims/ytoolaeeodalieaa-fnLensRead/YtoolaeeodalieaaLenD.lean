/- Contracts of what draws lengths. -/
import Derived.Test.YtoolaeeodalieaaLenP
import Derived.Test.YtoolaeeodalieaaDraws
set_option linter.unusedVariables false
set_option linter.unusedSimpArgs false
namespace Go.Proofs.Ytoolaeeodalieaa
open Go.RowKit

def lens14 : List Int := [0, 1, 127, 128, 129, 300, 16383, 16384, 2097151, 2097152, 268435455, 268435456, -1, 5000]

set_option maxRecDepth 100000 in
/-- spec.l2Num -/
theorem num_sl2Num (g : Nat) (ao : Option Addr) (n cap : Nat) (l : List UInt8) (w : World) (hc : Cur w g ao n cap l) (hn : n ≤ 1048576) :
    Calls Try.prog 26 #[.pointer (some ⟨g, 0, none⟩)] w fun e w' => ∃ x : Int, e = .returned (.int .i64 x) ∧ Cur w' g ao n cap l ∧ w.grownBy w' (some g) := by
  have hlt := hc.lt
  go_enter Try.func26, Try.ntmps26
  go_wp2_with fail
  refine (int_sl1Int g ao n cap l w.heap.size 14 14 lens14 _ (hc.alloc _) hn (by omega) (by omega) rfl (fun i hi => ints_cells w lens14 3 i hi) (by omega)).mono ?_
  rintro e w1 ⟨x, hx, rfl, hc1, hg1⟩
  clear hx
  go_wp2
  go_ret
  exact ⟨x, rfl, hc1, grownBy_trans (World.grownBy_alloc _ _ _) hg1⟩

set_option maxRecDepth 100000 in
set_option maxHeartbeats 2000000 in
/-- spec.DrawPutLen -/
theorem draw_sDrawPutLen (ao : Option Addr) (n cap : Nat) (l : List UInt8) (w : World) (hr : RdIn w ao n cap l) (hn : n ≤ 1048576) :
    Calls Try.prog 9 #[.slice ao n cap] w fun e w' => ∃ a m c x i, m ≤ 200 ∧ e = .returned (.tuple #[.slice a m c, .int .i64 i]) ∧ Own w' w.heap.size a m c x ∧ Below w.heap.size w w' := by
  go_enter Try.func9, Try.ntmps9
  go_wp2_with fail
  refine (new_sl1New ao n cap l _ hr hn).mono ?_
  rintro e w0 ⟨rfl, hc0, hb0⟩
  have hz0 : w.heap.size < w0.heap.size := hc0.lt
  go_wp2_with fail
  refine (below_sl1Below w.heap.size ao n cap l 3 _ hc0 hn (by omega) (by omega)).mono ?_
  rintro e w1 ⟨k, hk0, hk1, rfl, hc1, hg1⟩
  obtain ⟨j, rfl⟩ := Int.eq_ofNat_of_zero_le hk0
  have hz1 : w.heap.size < w1.heap.size := hc1.lt
  go_wp2_with fail
  refine (bytes_sl1Bytes w.heap.size ao n cap l j _ hc1 hn (by omega)).mono ?_
  rintro e w2 ⟨a2, c2, x2, rfl, ho2, hc2, hg2⟩
  go_wp2_with fail
  refine (num_sl2Num w.heap.size ao n cap l _ hc2 hn).mono ?_
  rintro e w3 ⟨i, rfl, hc3, hg3⟩
  have ho3 := (ho2.cur hz1 hg3).mono (Nat.le_of_lt hz1)
  have hB := below_cur hb0 (grownBy_trans hg1 (grownBy_trans hg2 hg3)) (Nat.le_of_lt hz0)
  go_wp2
  go_ret2
  exact ⟨a2, j, c2, x2, i, by omega, by simp, ho3, hB⟩

set_option maxRecDepth 100000 in
set_option maxHeartbeats 2000000 in
/-- spec.DrawGetLen -/
theorem draw_sDrawGetLen (ao : Option Addr) (n cap : Nat) (l : List UInt8) (w : World) (hr : RdIn w ao n cap l) (hn : n ≤ 1048576) :
    Calls Try.prog 15 #[.slice ao n cap] w fun e w' => ∃ a m c x i, m ≤ 200 ∧ e = .returned (.tuple #[.slice a m c, .int .i64 i]) ∧ Own w' w.heap.size a m c x ∧ Below w.heap.size w w' := by
  go_enter Try.func15, Try.ntmps15
  go_wp2_with fail
  refine (new_sl1New ao n cap l _ hr hn).mono ?_
  rintro e w0 ⟨rfl, hc0, hb0⟩
  have hz0 : w.heap.size < w0.heap.size := hc0.lt
  go_wp2_with fail
  refine (below_sl1Below w.heap.size ao n cap l 3 _ hc0 hn (by omega) (by omega)).mono ?_
  rintro e w1 ⟨k, hk0, hk1, rfl, hc1, hg1⟩
  obtain ⟨j, rfl⟩ := Int.eq_ofNat_of_zero_le hk0
  have hz1 : w.heap.size < w1.heap.size := hc1.lt
  go_wp2_with fail
  refine (bytes_sl1Bytes w.heap.size ao n cap l j _ hc1 hn (by omega)).mono ?_
  rintro e w2 ⟨a2, c2, x2, rfl, ho2, hc2, hg2⟩
  go_wp2_with fail
  refine (once_sl1Once w.heap.size ao n cap l 4 _ hc2 hn (by omega) (by omega)).mono ?_
  rintro e w3 ⟨bb, rfl, hc3, hg3⟩
  have ho3 := ho2.cur hz1 hg3
  have hG3 := grownBy_trans hg1 (grownBy_trans hg2 hg3)
  have hz3 : w.heap.size < w3.heap.size := hc3.lt
  cases bb with
  | true =>
    go_wp2_with fail
    refine (below_sl1Below w.heap.size ao n cap l 6 _ hc3 hn (by omega) (by omega)).mono ?_
    rintro e w4 ⟨q, hq0, hq1, rfl, hc4, hg4⟩
    obtain ⟨q, rfl⟩ := Int.eq_ofNat_of_zero_le hq0
    have hz4 : w.heap.size < w4.heap.size := hc4.lt
    go_wp2_with fail
    refine (bytes_sl1Bytes w.heap.size ao n cap l q _ hc4 hn (by omega)).mono ?_
    rintro e w5 ⟨a5, c5, x5, rfl, ho5, hc5, hg5⟩
    go_wp2_with fail
    refine (below_sl1Below w.heap.size ao n cap l 7 _ hc5 hn (by omega) (by omega)).mono ?_
    rintro e w6 ⟨r, hr0, hr1, rfl, hc6, hg6⟩
    have ho6 := (ho5.cur hz4 hg6).mono (Nat.le_of_lt hz4)
    have hB := below_cur hb0 (grownBy_trans hG3 (grownBy_trans hg4 (grownBy_trans hg5 hg6))) (Nat.le_of_lt hz0)
    go_wp2
    go_ret2
    exact ⟨a5, q, c5, x5, r - 1, by omega, by simp, ho6, hB⟩
  | false =>
    go_wp2_with fail
    refine (num_sl2Num w.heap.size ao n cap l _ hc3 hn).mono ?_
    rintro e w4 ⟨i, rfl, hc4, hg4⟩
    have ho4 := ho3.cur hz1 hg4
    have hG4 := grownBy_trans hG3 hg4
    obtain ⟨N, hN⟩ : ∃ N, (lenB i).length = N := ⟨_, rfl⟩
    have hN4 : N ≤ 4 := by rw [← hN]; exact lenB_le i
    go_wp2_with fail
    refine (put_sPutLen N _ _ _ i x2 _ hN ho4.rd (by omega)).mono ?_
    rintro e w5 ⟨a5, c5, rfl, ho5, hb5⟩
    have hc5 := hc4.below hb5
    have hG5 := grown_below hG4 hb5
    have hz5 : w.heap.size < w5.heap.size := hc5.lt
    go_wp2_with fail
    refine (bend_sl1Bend w.heap.size ao n cap l _ _ _ _ _ hc5 hn ho5.rd (by omega)).mono ?_
    rintro e u1 ⟨a1, m1, c1, x1, hm1, rfl, ho1, hcu1, hg6⟩
    have ho6 := ho1.mono (Nat.le_of_lt hz5)
    have hB := below_cur hb0 (grownBy_trans hG5 hg6) (Nat.le_of_lt hz0)
    go_wp2
    go_ret2
    exact ⟨a1, m1, c1, x1, j, by omega, by simp, ho6, hB⟩

theorem RdIn.cut {w : World} {a : Option Addr} {n c : Nat} {x : List UInt8} (h : RdIn w a n c x) (k : Nat) (hk : k ≤ n) : RdIn w a k c (x.take k) := by
  obtain ⟨⟨hl, hc⟩, hcap, hmax, hnil⟩ := h
  refine ⟨⟨by simp; omega, fun i hi => ?_⟩, by omega, hmax, hnil⟩
  obtain ⟨b, off, e, hcell⟩ := hc i (by omega)
  exact ⟨b, off, e, by rw [hcell, bt_take _ _ _ hi]⟩
theorem RdIn.drewN {w : World} {a : Option Addr} {n c : Nat} {x : List UInt8} (h : RdIn w a n c x) (q : Nat) : RdIn (w.drewN q) a n c x := h.below (below_drewN (Below.refl _ _) q)

set_option maxHeartbeats 1000000 in
/-- laws.starts, where it is so. -/
theorem starts_lstarts (a b : Option Addr) (m c k d : Nat) (x y : List UInt8) (w : World) (h1 : RdIn w a m c x) (h2 : RdIn w b k d y) (hk : k ≤ m) (hxy : x.take k = y) (hm : m ≤ 1099511627776) :
    Calls Try.prog 14 #[.slice a m c, .slice b k d] w fun e w' => e = .returned (.bool true) ∧ Below w.heap.size w w' := by
  have hge : (k : Int) ≤ (m : Int) := by omega
  have hcm := h1.2.1
  have es : ∀ w', (Instr.slice 22 (.slice a m c) none (some (.int .i64 (k : Int))) none).run Try.prog w' = .ok (.slice a k c) w' := fun w' => slice_head a m c k (by omega) w'
  have h3 := h1.cut k hk
  rw [hxy] at h3
  have e1 : ∀ q, (convert 22 9 (.slice a k c)).run Try.prog (w.drewN q) = _ := fun q => conv_rd (h3.drewN q)
  have e2 : ∀ q, (convert 22 9 (.slice b k d)).run Try.prog (w.drewN q) = _ := fun q => conv_rd (h2.drewN q)
  clear h1 h2 h3 hxy
  go_enter Try.func14, Try.ntmps14
  go_wp2
  go_quiet (fail)
  go_wp2
  go_ret
  exact ⟨by simp, below_drewN (Below.refl _ _) _⟩

end Go.Proofs.Ytoolaeeodalieaa
