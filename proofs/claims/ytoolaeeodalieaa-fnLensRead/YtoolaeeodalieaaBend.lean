/- Contracts of what the draws make: texts, bent bytes. -/
import Derived.Test.YtoolaeeodalieaaDraw
import Derived.Deep.RegionHeld3
import Derived.Deep.RegionWith
set_option linter.unusedVariables false
set_option linter.unusedSimpArgs false
namespace Go.Proofs.Ytoolaeeodalieaa
open Go.RowKit

theorem strs_cells (w : World) (zs : List ByteArray) (t : TypeId) (i : Nat) (h : i < zs.length) : (w.alloc (.cells (zs.map Value.string).toArray t)).cell? ⟨w.heap.size, i, none⟩ = some (.string (zs.getD i ByteArray.empty)) := by
  rw [cell_of (heap_alloc_new w _)]
  simp [List.getD_eq_getElem?_getD, List.getElem?_eq_getElem h]
theorem ints_cells (w : World) (zs : List Int) (t : TypeId) (i : Nat) (h : i < zs.length) : (w.alloc (.cells (zs.map (Value.int .i64)).toArray t)).cell? ⟨w.heap.size, i, none⟩ = some (.int .i64 (zs.getD i 0)) := by
  rw [cell_of (heap_alloc_new w _)]
  simp [List.getD_eq_getElem?_getD, List.getElem?_eq_getElem h]

/-- A part of what is owned, from its head on. -/
theorem Own.cut {w : World} {B : Nat} {a : Option Addr} {n c : Nat} {x : List UInt8} (h : Own w B a n c x) (k : Nat) (hk : k ≤ n) : Own w B a k c (x.take k) := by
  obtain ⟨hl, h1, h2⟩ := h
  refine ⟨by simp; omega, by rw [bvals_length]; simp; omega, ?_⟩
  rcases h2 with ⟨e, h0⟩ | ⟨g, c', cur, e, hB, hg, hc, hm, hs, ht⟩
  · simp only [Value.slice.injEq] at e
    obtain ⟨rfl, _, rfl⟩ := e
    obtain rfl : k = 0 := by omega
    exact .inl ⟨rfl, rfl⟩
  · simp only [Value.slice.injEq] at e
    obtain ⟨rfl, _, rfl⟩ := e
    refine .inr ⟨g, c, cur, rfl, hB, hg, by omega, hm, hs, ?_⟩
    have e2 : bvals (x.take k) = (bvals x).take k := by simp [bvals, List.map_take]
    rw [e2, ← ht, List.take_take]
    congr 1
    omega

theorem xor_range (a b : Int) : 0 ≤ bits .xor .u8 a b ∧ bits .xor .u8 a b < 256 := by
  show 0 ≤ IntKind.u8.wrap _ ∧ IntKind.u8.wrap _ < 256
  rw [IntKind.wrap_u8]
  exact ⟨Int.emod_nonneg _ (by decide), Int.emod_lt_of_pos _ (by decide)⟩

theorem Own.storeI {w : World} {B : Nat} {g n cap : Nat} {l : List UInt8} (h : Own w B (some ⟨g, 0, none⟩) n cap l) (j : Nat) (V : Int) (h0 : 0 ≤ V) (h1 : V < 256) :
    Own (w.setCell ⟨g, j, none⟩ (.int .u8 V)) B (some ⟨g, 0, none⟩) n cap (l.set j (UInt8.ofNat V.toNat)) := by
  have := h.store j (UInt8.ofNat V.toNat)
  have e : (((UInt8.ofNat V.toNat).toNat : Nat) : Int) = V := by simp; omega
  rw [e] at this
  exact this

/-- s[:j] -/
theorem slice_head (ao : Option Addr) (n cap j : Nat) (h : j ≤ cap) (w' : World) : (Instr.slice 22 (.slice ao n cap) none (some (.int .i64 (j : Int))) none).run Try.prog w' = .ok (.slice ao j cap) w' := by
  obtain ⟨i0, hi, hz0, hz1, hz2⟩ := info_parts info5
  have he : Try.prog.elem 22 = 5 := by kernel_rfl
  have ht : Try.prog.underlying 22 = some (.slice (Try.prog.elem 22)) := by rw [he]; exact Try.underlying22
  have hs := run_slice_h (P := Try.prog) w' 22 ao n cap ht .i64 (j : Int) (by omega) (by omega)
  rw [hs, he]
  simp only [sizeOf, typeInfo, Sem.run_bind, Sem.run_pure, hi, hz1, Result.andThen_ok, sliced, Int.toNat_natCast]
  simp [hi, hz1, Result.andThen, sliced]
  by_cases hc : cap = 0
  · simp [hc]
  · cases ao <;> simp [hc, Addr.add]

theorem Cur.drew {w : World} {g : Nat} {ao : Option Addr} {n cap : Nat} {l : List UInt8} (h : Cur w g ao n cap l) : Cur w.drew g ao n cap l := h
theorem Own.drew {w : World} {B : Nat} {a : Option Addr} {n c : Nat} {x : List UInt8} (h : Own w B a n c x) : Own w.drew B a n c x := h
theorem grown_undrew {w w' : World} {row : Option Nat} (h : w.drew.grownBy w' row) : w.grownBy w' row := ⟨h.os, h.tape, h.output, h.size, h.block⟩

set_option maxRecDepth 100000 in
set_option maxHeartbeats 1000000 in
/-- spec.l1Bend -/
theorem bend_sl1Bend (g : Nat) (ao : Option Addr) (n cap : Nat) (l : List UInt8) (a : Option Addr) (m c : Nat) (x : List UInt8) (w : World) (hc : Cur w g ao n cap l) (hn : n ≤ 1048576) (hx : RdIn w a m c x) (hm : m ≤ 1048575) :
    Calls Try.prog 30 #[.pointer (some ⟨g, 0, none⟩), .slice a m c] w fun e w' => ∃ a' m' c' x', m' ≤ m + 1 ∧ e = .returned (.slice a' m' c') ∧ Own w' w.heap.size a' m' c' x' ∧ Cur w' g ao n cap l ∧ w.grownBy w' (some g) := by
  have hlt := hc.lt
  go_enter Try.func30, Try.ntmps30
  go_wp2_with (at_builtin; refine w_app _ rfl _ _ rfl w.heap.size _ 0 _ [] rfl (own_lit0 w) _ _ _ x rfl (hx.alloc _) (by omega) (by simp) ?_)
  intro a1 c1 w1 ho1 hg1
  have hc1 : Cur w1 g ao n cap l := (hc.alloc _).own (own_lit0 w) hlt hg1
  have hG1 : w.grownBy w1 (some g) := grown_own (World.grownBy_alloc _ _ _) (own_lit0 w) (Nat.le_refl _) hg1
  clear hg1
  go_wp2_with fail
  refine (below_sl1Below g ao n cap l 8 _ hc1 hn (by omega) (by omega)).mono ?_
  rintro e w2 ⟨k, hk0, hk1, rfl, hc2, hg2⟩
  have ho2 := ho1.cur hlt hg2
  have hG2 := grownBy_trans hG1 hg2
  clear ho1 hc1 hG1 hg2
  by_cases q0 : k = 0
  · subst q0
    by_cases hm0 : 0 < m
    · have hm1 : (0 : Int) < m := by omega
      go_wp2_with fail
      refine (below_sl1Below g ao n cap l m _ hc2 hn (by omega) (by omega)).mono ?_
      rintro e w3 ⟨i, hi0, hi1, rfl, hc3, hg3⟩
      have ho3 := ho2.cur hlt hg3
      have hG3 := grownBy_trans hG2 hg3
      clear ho2 hc2 hG2 hg3
      obtain ⟨j, rfl⟩ := Int.eq_ofNat_of_zero_le hi0
      obtain ⟨g', e⟩ : ∃ g', a1 = some ⟨g', 0, none⟩ := by
        rcases ho3.2.2 with ⟨_, h0⟩ | ⟨g', c', cur, e, _⟩
        · omega
        · simp only [Value.slice.injEq] at e; exact ⟨g', e.1⟩
      subst e
      have hgB : w.heap.size ≤ g' := (ho3.block rfl).1
      have hz := ho3.cell j (by omega)
      have hf := ho3.frozen j
      go_wp2
      go_region_with (go_at_call 25; refine (below_sl1Below g ao n cap l 255 _ (by exact hc3.drew) hn (by omega) (by omega)).mono ?_; rintro e w4 ⟨y, hy0, hy1, rfl, hc4, hg4⟩; have ho4 := ho3.cur hlt (grown_undrew hg4); have hG4 := grownBy_trans hG3 (grown_undrew hg4); have hz4 := ho4.cell j (by omega); have hf4 := ho4.frozen j)
      all_goals
        go_wp2
        go_ret
        refine ⟨_, m, c1, _, by omega, rfl, ho4.storeI j _ (xor_range _ _).1 (xor_range _ _).2, (hc4.own ho4 hlt (by simpa [Value.ownBlock] using grown_set _ _ _ _)), grown_own hG4 ho4 (Nat.le_refl _) (by simpa [Value.ownBlock] using grown_set _ _ _ _)⟩
    · have hm1 : ¬ (0 : Int) < m := by omega
      go_wp2
      go_ret
      exact ⟨a1, m, c1, x, by omega, rfl, ho2, hc2, hG2⟩
  have n0 : (k == 0) = false := by simp; omega
  by_cases q1 : k = 1
  · subst q1
    by_cases hm0 : 0 < m
    · have hm1 : (0 : Int) < m := by omega
      go_wp2_with fail
      refine (below_sl1Below g ao n cap l m _ hc2 hn (by omega) (by omega)).mono ?_
      rintro e w3 ⟨i, hi0, hi1, rfl, hc3, hg3⟩
      have ho3 := ho2.cur hlt hg3
      have hG3 := grownBy_trans hG2 hg3
      clear ho2 hc2 hG2 hg3
      obtain ⟨j, rfl⟩ := Int.eq_ofNat_of_zero_le hi0
      have hcm := ho3.rd.2.1
      have hsl : ∀ w', (Instr.slice 22 (.slice a1 m c1) none (some (.int .i64 (j : Int))) none).run Try.prog w' = .ok (.slice a1 j c1) w' := fun w' => slice_head a1 m c1 j (by omega) w'
      have ho4 := ho3.cut j (by omega)
      go_wp2
      go_ret
      exact ⟨a1, j, c1, _, by omega, rfl, ho4, hc3, hG3⟩
    · have hm1 : ¬ (0 : Int) < m := by omega
      go_wp2
      go_ret
      exact ⟨a1, m, c1, x, by omega, rfl, ho2, hc2, hG2⟩
  have n1 : (k == 1) = false := by simp; omega
  by_cases q2 : k = 2
  · subst q2
    go_wp2_with fail
    refine (byte_sl1Byte g ao n cap l _ hc2 hn).mono ?_
    rintro e w3 ⟨y, hy0, hy1, rfl, hc3, hg3⟩
    have ho3 := ho2.cur hlt hg3
    have hG3 := grownBy_trans hG2 hg3
    obtain ⟨z, hzl, hrz⟩ := rd_one w3 y hy0 hy1
    clear ho2 hc2 hG2 hg3
    go_wp2_with (at_builtin; refine w_app _ rfl _ _ rfl w.heap.size _ _ _ x rfl (ho3.alloc _) _ _ _ z rfl hrz (by omega) (by have := hG3.size; simp; omega) ?_)
    intro a4 c4 w4 ho4 hg4
    have hc4 := (hc3.alloc _).own (ho3.alloc _) hlt hg4
    have hG4 := grown_own (grown_alloc hG3 _) (ho3.alloc _) (Nat.le_refl _) hg4
    clear hg4 hrz ho3 hG3 hc3
    go_wp2
    go_ret
    exact ⟨a4, m + 1, c4, _, by omega, rfl, ho4, hc4, hG4⟩
  · have n2 : (k == 2) = false := by simp; omega
    go_wp2
    go_ret
    exact ⟨a1, m, c1, x, by omega, rfl, ho2, hc2, hG2⟩

end Go.Proofs.Ytoolaeeodalieaa
