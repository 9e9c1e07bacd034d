/- Contracts of the drawing functions: a cursor over bytes; whatever is drawn is within its bounds, and nothing but the cursor is written. -/
import Derived.Test.YtdjbaieaelhhiaaDoorGets
import Derived.OneCell
set_option linter.unusedVariables false
set_option linter.unusedSimpArgs false
namespace Go.Proofs.YtdjbaieaelhhiaaDoor
open Go.RowKit

/-- Block g holds a cursor over what ao, n, cap read (the bytes l). -/
def Cur (w : World) (g : Nat) (ao : Option Addr) (n cap : Nat) (l : List UInt8) : Prop :=
  ∃ i h : Int, w.heap[g]? = some (.cells #[.slice ao n cap, .int .i64 i, .int .i64 h] 48 (0, 0)) ∧ 0 ≤ i ∧ i ≤ n ∧ RdIn w ao n cap l ∧ (0 < n → ∀ a, ao = some a → a.block < g)

theorem cell_of {w : World} {g : Nat} {cs : Array Value} {t : TypeId} {fz : Nat × Nat} (h : w.heap[g]? = some (.cells cs t fz)) (j : Nat) : w.cell? ⟨g, j, none⟩ = cs[j]? := by
  simp [World.cell?, h]

theorem cur_new {ao : Option Addr} {n cap : Nat} {l : List UInt8} (w : World) (hr : RdIn w ao n cap l) (h : Int) : Cur (w.alloc (.cells #[.slice ao n cap, .int .i64 0, .int .i64 h] 48)) w.heap.size ao n cap l := by
  refine ⟨0, h, heap_alloc_new w _, Int.le_refl _, by omega, hr.alloc _, fun hn a e => ?_⟩
  obtain ⟨b, off, e', hc⟩ := hr.1.2 0 hn
  rw [e] at e'
  simp at e'
  subst e'
  exact World.block_lt_of_cell? w _ hc

theorem heap_setCell_at {w : World} {g : Nat} {cs : Array Value} {t : TypeId} {fz : Nat × Nat} (h : w.heap[g]? = some (.cells cs t fz)) (j : Nat) (u : Value) :
    (w.setCell ⟨g, j, none⟩ u).heap[g]? = some (.cells (cs.setIfInBounds j u) t fz) := by
  simp [World.setCell, Array.getElem?_modify, h]

/-- What is read stays, behind writes to another row. -/
theorem RdIn.grown' {w w' : World} {ao : Option Addr} {n cap : Nat} {l : List UInt8} {row : Option Nat} (h : RdIn w ao n cap l) (hg : w.grownBy w' row) (hne : 0 < n → ∀ a, ao = some a → some a.block ≠ row) : RdIn w' ao n cap l := by
  refine ⟨⟨h.1.1, fun i hi => ?_⟩, h.2⟩
  obtain ⟨b, off, e, hc⟩ := h.1.2 i hi
  exact ⟨b, off, e, hg.cell hc (show some b ≠ row from hne (by omega) ⟨b, off, none⟩ e)⟩

theorem grown_set (w : World) (g j : Nat) (u : Value) : w.grownBy (w.setCell ⟨g, j, none⟩ u) (some g) :=
  ⟨rfl, rfl, rfl, by simp [World.setCell], fun q hq hne => Below.heap_setCell _ _ _ q (fun e => hne (by rw [e]))⟩
theorem grownBy_trans {a b c : World} {row : Option Nat} (h : a.grownBy b row) (k : b.grownBy c row) : a.grownBy c row :=
  ⟨k.os.trans h.os, k.tape.trans h.tape, k.output.trans h.output, Nat.le_trans h.size k.size, fun q hq hne => (k.block q (Nat.lt_of_lt_of_le hq h.size) hne).trans (h.block q hq hne)⟩
theorem grownBy_drewN {a b : World} {row : Option Nat} (h : a.grownBy b row) (q : Nat) : a.grownBy (b.drewN q) row := by
  have e := below_drewN (B := b.heap.size) (Below.refl _ b) q
  exact ⟨e.os.trans h.os, e.tape.trans h.tape, e.output.trans h.output, Nat.le_trans h.size e.size, fun k hk hne => (e.block k (Nat.lt_of_lt_of_le hk h.size)).trans (h.block k hk hne)⟩

/-- The cursor behind its own steps. -/
theorem cur_step {w w' : World} {g : Nat} {ao : Option Addr} {n cap : Nat} {l : List UInt8} {i h : Int} (hg : w.grownBy w' (some g)) (hr : RdIn w ao n cap l) (hne : 0 < n → ∀ a, ao = some a → a.block < g)
    (hh : w'.heap[g]? = some (.cells #[.slice ao n cap, .int .i64 i, .int .i64 h] 48 (0, 0))) (h0 : 0 ≤ i) (h1 : i ≤ n) : Cur w' g ao n cap l :=
  ⟨i, h, hh, h0, h1, hr.grown' hg (fun hn a e he => by have := hne hn a e; simp at he; omega), hne⟩

theorem heap_drewN (w : World) (q g : Nat) : (w.drewN q).heap[g]? = w.heap[g]? := by
  induction q generalizing w with
  | zero => rfl
  | succ q ih => exact ih w.drew

set_option maxHeartbeats 400000 in
/-- spec.l1New -/
theorem new_sl1New (ao : Option Addr) (n cap : Nat) (l : List UInt8) (w : World) (hr : RdIn w ao n cap l) (hn : n ≤ 1048576) :
    Calls Tryd.prog 31 #[.slice ao n cap] w fun e w' => e = .returned (.pointer (some ⟨w.heap.size, 0, none⟩)) ∧ Cur w' w.heap.size ao n cap l ∧ Below w.heap.size w w' := by
  go_enter Tryd.func31, Tryd.ntmps31
  go_wp2
  go_loop [3, 4] (fun h i => ∃ (k : Nat) (z : Int), i = .int .i64 k ∧ h = .int .i64 z ∧ k ≤ n) (fun _ i => n - (intOf i).toNat)
  case atStart => exact ⟨0, _, rfl, rfl, Nat.zero_le _⟩
  case round =>
    obtain ⟨k, z, rfl, rfl, hk⟩ := hrel
    by_cases hlt : k < n
    · by_cases h4 : k < 4000
      · obtain ⟨b, off, e, hc⟩ := hr.1.2 k hlt
        subst e
        have h1 : (k : Int) < n := by omega
        have h2 : (k : Int) < 4000 := by omega
        go_wp2
        go_round
        case rel => exact ⟨k + 1, _, by go_num, rfl, by omega⟩
        case measure => simp [intOf]; omega
      · have h1 : (k : Int) < n := by omega
        have h2 : ¬ (k : Int) < 4000 := by omega
        go_wp2
        go_ret
        exact ⟨rfl, cur_new w hr _, (Below.refl _ _).alloc (Nat.le_refl _) _⟩
    · have h1 : ¬ (k : Int) < n := by omega
      go_wp2
      go_ret
      exact ⟨rfl, cur_new w hr _, (Below.refl _ _).alloc (Nat.le_refl _) _⟩

theorem cur_end1 {w : World} {g : Nat} {ao : Option Addr} {n cap : Nat} {l : List UInt8} {i h : Int} (hg : w.heap[g]? = some (.cells #[.slice ao n cap, .int .i64 i, .int .i64 h] 48 (0, 0))) (hr : RdIn w ao n cap l)
    (hne : 0 < n → ∀ a, ao = some a → a.block < g) (h0 : 0 ≤ i) (h1 : i ≤ n) (V : Int) (q q' : Nat) :
    Cur (((w.setCell ⟨g, 2, none⟩ (.int .i64 V)).drewN q).drewN q') g ao n cap l ∧ w.grownBy (((w.setCell ⟨g, 2, none⟩ (.int .i64 V)).drewN q).drewN q') (some g) := by
  have k1 : w.grownBy (((w.setCell ⟨g, 2, none⟩ (.int .i64 V)).drewN q).drewN q') (some g) := grownBy_drewN (grownBy_drewN (grown_set _ _ _ _) _) _
  refine ⟨cur_step (i := i) (h := V) k1 hr hne ?_ h0 h1, k1⟩
  rw [heap_drewN, heap_drewN]
  exact heap_setCell_at hg 2 _

theorem cur_end2 {w : World} {g : Nat} {ao : Option Addr} {n cap : Nat} {l : List UInt8} {i h : Int} (hg : w.heap[g]? = some (.cells #[.slice ao n cap, .int .i64 i, .int .i64 h] 48 (0, 0))) (hr : RdIn w ao n cap l)
    (hne : 0 < n → ∀ a, ao = some a → a.block < g) (V i' : Int) (h0 : 0 ≤ i') (h1 : i' ≤ n) (q : Nat) :
    Cur (((w.setCell ⟨g, 2, none⟩ (.int .i64 V)).drewN q).setCell ⟨g, 1, none⟩ (.int .i64 i')) g ao n cap l ∧ w.grownBy (((w.setCell ⟨g, 2, none⟩ (.int .i64 V)).drewN q).setCell ⟨g, 1, none⟩ (.int .i64 i')) (some g) := by
  have k1 : w.grownBy (((w.setCell ⟨g, 2, none⟩ (.int .i64 V)).drewN q).setCell ⟨g, 1, none⟩ (.int .i64 i')) (some g) := grownBy_trans (grownBy_drewN (grown_set _ _ _ _) _) (grown_set _ _ _ _)
  refine ⟨cur_step (i := i') (h := V) k1 hr hne ?_ h0 h1, k1⟩
  have k2 : ((w.setCell ⟨g, 2, none⟩ (.int .i64 V)).drewN q).heap[g]? = some (.cells #[.slice ao n cap, .int .i64 i, .int .i64 V] 48 (0, 0)) := by
    rw [heap_drewN]
    exact heap_setCell_at hg 2 _
  exact heap_setCell_at k2 1 _

set_option maxRecDepth 100000 in
set_option maxHeartbeats 1000000 in
/-- spec.l1Byte -/
theorem byte_sl1Byte (g : Nat) (ao : Option Addr) (n cap : Nat) (l : List UInt8) (w : World) (hc : Cur w g ao n cap l) (hn : n ≤ 1048576) :
    Calls Tryd.prog 62 #[.pointer (some ⟨g, 0, none⟩)] w fun e w' => ∃ x : Int, 0 ≤ x ∧ x < 256 ∧ e = .returned (.int .i64 x) ∧ Cur w' g ao n cap l ∧ w.grownBy w' (some g) := by
  obtain ⟨i, h, hg, hi0, hin, hr, hne⟩ := hc
  have c0 : w.cell? ⟨g, 0, none⟩ = some (.slice ao n cap) := by rw [cell_of hg]; rfl
  have c1 : w.cell? ⟨g, 1, none⟩ = some (.int .i64 i) := by rw [cell_of hg]; rfl
  have c2 : w.cell? ⟨g, 2, none⟩ = some (.int .i64 h) := by rw [cell_of hg]; rfl
  have f1 : w.frozen? ⟨g, 1, none⟩ = false := by simp [World.frozen?, hg]
  have f2 : w.frozen? ⟨g, 2, none⟩ = false := by simp [World.frozen?, hg]
  have HG : Hid (w.heap[g]? = some (.cells #[.slice ao n cap, .int .i64 i, .int .i64 h] 48 (0, 0))) := hg
  clear hg
  have hm := mask255
  by_cases hlt : i < n
  · obtain ⟨k, rfl⟩ := Int.eq_ofNat_of_zero_le hi0
    obtain ⟨b, off, e, hcb⟩ := hr.1.2 k (by omega)
    subst e
    have hbg : b ≠ g := fun e => by have : b < g := hne (by omega) _ rfl; omega
    have hcs : ∀ j v, (w.setCell ⟨g, j, none⟩ v).cell? ⟨b, off + k, none⟩ = some (.int .u8 (bt l k)) := fun j v => by
      rw [World.cell?_setCell_other _ _ _ _ (fun e => hbg (by simpa using (congrArg Addr.block e).symm))]
      exact hcb
    have hlt' : (k : Int) < (n : Int) := hlt
    have k0 : (0 : Int) ≤ (k : Int) := by omega
    go_enter Tryd.func62, Tryd.ntmps62
    go_wp2
    go_quiet (fail)
    go_wp2
    go_quiet (fail)
    go_wp2
    go_quiet (fail)
    go_wp2
    go_ret
    exact ⟨_, Int.emod_nonneg _ (by decide), Int.emod_lt_of_pos _ (by decide), rfl, cur_end2 HG.out hr hne _ _ (by omega) (by omega) _⟩
  · have hlt' : ¬ i < (n : Int) := hlt
    go_enter Tryd.func62, Tryd.ntmps62
    go_wp2
    go_quiet (fail)
    go_wp2
    go_quiet (fail)
    go_wp2
    go_ret
    exact ⟨_, Int.emod_nonneg _ (by decide), Int.emod_lt_of_pos _ (by decide), rfl, cur_end1 HG.out hr hne hi0 hin _ _ _⟩

/-- spec.l1Below, of a number above 0. -/
theorem below_sl1Below (g : Nat) (ao : Option Addr) (n cap : Nat) (l : List UInt8) (m : Int) (w : World) (hc : Cur w g ao n cap l) (hn : n ≤ 1048576) (h0 : 0 < m) (h1 : m ≤ 1048576) :
    Calls Tryd.prog 48 #[.pointer (some ⟨g, 0, none⟩), .int .i64 m] w fun e w' => ∃ x : Int, 0 ≤ x ∧ x < m ∧ e = .returned (.int .i64 x) ∧ Cur w' g ao n cap l ∧ w.grownBy w' (some g) := by
  have hm0 : ¬ m ≤ 0 := by omega
  by_cases h256 : m ≤ 256
  · go_enter Tryd.func48, Tryd.ntmps48
    go_wp2_with fail
    refine (byte_sl1Byte g ao n cap l _ hc hn).mono ?_
    rintro e w1 ⟨x, hx0, hx1, rfl, hc1, hg1⟩
    have hz : (m == 0) = false := by simp; omega
    go_wp2
    go_ret
    exact ⟨x % m, Int.emod_nonneg _ (by omega), Int.emod_lt_of_pos _ h0, rfl, hc1, hg1⟩
  · have hz : (m == 0) = false := by simp; omega
    go_enter Tryd.func48, Tryd.ntmps48
    go_wp2_with fail
    refine (byte_sl1Byte g ao n cap l _ hc hn).mono ?_
    rintro e w1 ⟨x, hx0, hx1, rfl, hc1, hg1⟩
    go_wp2_with fail
    refine (byte_sl1Byte g ao n cap l _ hc1 hn).mono ?_
    rintro e w2 ⟨y, hy0, hy1, rfl, hc2, hg2⟩
    go_wp2_with fail
    refine (byte_sl1Byte g ao n cap l _ hc2 hn).mono ?_
    rintro e w3 ⟨z, hz0, hz1, rfl, hc3, hg3⟩
    go_wp2
    go_ret
    exact ⟨(x * 65536 + y * 256 + z) % m, Int.emod_nonneg _ (by omega), Int.emod_lt_of_pos _ h0, rfl, hc3, grownBy_trans hg1 (grownBy_trans hg2 hg3)⟩

/-- spec.l1Once -/
theorem once_sl1Once (g : Nat) (ao : Option Addr) (n cap : Nat) (l : List UInt8) (m : Int) (w : World) (hc : Cur w g ao n cap l) (hn : n ≤ 1048576) (h0 : 0 < m) (h1 : m ≤ 1048576) :
    Calls Tryd.prog 32 #[.pointer (some ⟨g, 0, none⟩), .int .i64 m] w fun e w' => ∃ b : Bool, e = .returned (.bool b) ∧ Cur w' g ao n cap l ∧ w.grownBy w' (some g) := by
  go_enter Tryd.func32, Tryd.ntmps32
  go_wp2_with fail
  refine (below_sl1Below g ao n cap l m _ hc hn h0 h1).mono ?_
  rintro e w1 ⟨x, hx0, hx1, rfl, hc1, hg1⟩
  go_wp2
  go_ret
  exact ⟨_, rfl, hc1, hg1⟩

/-- spec.l1Str, of a list in another row. -/
theorem str_sl1Str (g : Nat) (ao : Option Addr) (n cap : Nat) (l : List UInt8) (b m c : Nat) (zs : List ByteArray) (w : World) (hc : Cur w g ao n cap l) (hn : n ≤ 1048576) (h0 : 0 < m) (h1 : m ≤ 1048576) (hz : zs.length = m)
    (hcell : ∀ i, i < m → w.cell? ⟨b, i, none⟩ = some (.string (zs.getD i ByteArray.empty))) (hbg : b ≠ g) :
    Calls Tryd.prog 50 #[.pointer (some ⟨g, 0, none⟩), .slice (some ⟨b, 0, none⟩) m c] w fun e w' => ∃ x : ByteArray, x ∈ zs ∧ e = .returned (.string x) ∧ Cur w' g ao n cap l ∧ w.grownBy w' (some g) := by
  have HC : Hid (∀ i, i < m → w.cell? ⟨b, i, none⟩ = some (.string (zs.getD i ByteArray.empty))) := hcell
  clear hcell
  have HZ : Hid (zs.length = m) := hz
  clear hz
  go_enter Tryd.func50, Tryd.ntmps50
  go_wp2_with fail
  refine (below_sl1Below g ao n cap l m _ hc hn (by omega) (by omega)).mono ?_
  rintro e w1 ⟨x, hx0, hx1, rfl, hc1, hg1⟩
  obtain ⟨k, rfl⟩ := Int.eq_ofNat_of_zero_le hx0
  have hk : k < m := by omega
  have hck : w1.cell? ⟨b, k, none⟩ = some (.string (zs.getD k ByteArray.empty)) := hg1.cell (HC.out k hk) (show some b ≠ some g from fun e => hbg (by simpa using e))
  obtain ⟨z, hz⟩ : ∃ z, zs.getD k ByteArray.empty = z := ⟨_, rfl⟩
  rw [hz] at hck
  have HM : Hid (z ∈ zs) := by
    have e : zs.getD k ByteArray.empty = zs[k]'(by rw [HZ.out]; exact hk) := by simp [List.getD_eq_getElem?_getD, List.getElem?_eq_getElem (show k < zs.length by rw [HZ.out]; exact hk)]
    rw [← hz, e]
    exact List.getElem_mem _
  clear hz
  go_wp2
  go_ret
  exact ⟨z, HM.out, rfl, hc1, hg1⟩

/-- The cursor stays behind writes to other rows. -/
theorem Cur.keep {w w' : World} {g : Nat} {ao : Option Addr} {n cap : Nat} {l : List UInt8} {row : Option Nat} (h : Cur w g ao n cap l) (hg : w.grownBy w' row) (hrow : ∀ k, row = some k → g < k) : Cur w' g ao n cap l := by
  obtain ⟨i, z, hh, h0, h1, hr, hne⟩ := h
  have hlt : g < w.heap.size := (Array.getElem?_eq_some_iff.1 hh).1
  refine ⟨i, z, ?_, h0, h1, hr.grown' hg (fun hn a e he => by have := hne hn a e; have := hrow _ he.symm; omega), hne⟩
  rw [hg.block g hlt (fun e => by have := hrow g e.symm; omega)]
  exact hh
theorem Cur.lt {w : World} {g : Nat} {ao : Option Addr} {n cap : Nat} {l : List UInt8} (h : Cur w g ao n cap l) : g < w.heap.size := by
  obtain ⟨i, z, hh, _⟩ := h
  exact (Array.getElem?_eq_some_iff.1 hh).1
theorem Cur.alloc {w : World} {g : Nat} {ao : Option Addr} {n cap : Nat} {l : List UInt8} (h : Cur w g ao n cap l) (o : Obj) : Cur (w.alloc o) g ao n cap l := h.keep (World.grownBy_alloc w o none) (fun k e => by cases e)
theorem Cur.own {w w' : World} {g B : Nat} {ao : Option Addr} {n cap : Nat} {l : List UInt8} {a : Option Addr} {m c : Nat} {x : List UInt8} (h : Cur w g ao n cap l) (ho : Own w B a m c x) (hB : g < B) (hg : w.grownBy w' (Value.slice a m c).ownBlock) : Cur w' g ao n cap l :=
  h.keep hg (fun k e => by have := (ho.2.lt k e).1; omega)
/-- What is owned stays behind the cursor's steps. -/
theorem Own.cur {w w' : World} {g B : Nat} {a : Option Addr} {m c : Nat} {x : List UInt8} (h : Own w B a m c x) (hB : g < B) (hg : w.grownBy w' (some g)) : Own w' B a m c x :=
  h.grown hg (fun d e he => by have := h.block e; simp at he; omega)

theorem grown_alloc {w u : World} {g : Nat} (h : w.grownBy u (some g)) (o : Obj) : w.grownBy (u.alloc o) (some g) :=
  ⟨h.os, h.tape, h.output, by have := h.size; simp; omega, fun k hk hne => (Below.heap_alloc u o k (Nat.lt_of_lt_of_le hk h.size)).trans (h.block k hk hne)⟩
theorem grown_own {w u u' : World} {g B : Nat} {a : Option Addr} {m c : Nat} {x : List UInt8} (h : w.grownBy u (some g)) (ho : Own u B a m c x) (hB : w.heap.size ≤ B) (hg : u.grownBy u' (Value.slice a m c).ownBlock) : w.grownBy u' (some g) :=
  ⟨hg.os.trans h.os, hg.tape.trans h.tape, hg.output.trans h.output, Nat.le_trans h.size hg.size, fun k hk hne => (hg.block k (Nat.lt_of_lt_of_le hk h.size) (fun e => by have := (ho.2.lt k e.symm).1; omega)).trans (h.block k hk hne)⟩
theorem grown_below {w u u' : World} {g : Nat} (h : w.grownBy u (some g)) (hb : Below u.heap.size u u') : w.grownBy u' (some g) :=
  ⟨hb.os.trans h.os, hb.tape.trans h.tape, hb.output.trans h.output, Nat.le_trans h.size hb.size, fun k hk hne => (hb.block k (Nat.lt_of_lt_of_le hk h.size)).trans (h.block k hk hne)⟩
theorem Cur.below {w w' : World} {g : Nat} {ao : Option Addr} {n cap : Nat} {l : List UInt8} (h : Cur w g ao n cap l) (hb : Below w.heap.size w w') : Cur w' g ao n cap l :=
  h.keep (row := none) ⟨hb.os, hb.tape, hb.output, hb.size, fun k hk _ => hb.block k hk⟩ (fun k e => by cases e)

theorem rd_one (w : World) (x : Int) (h0 : 0 ≤ x) (h1 : x < 256) : ∃ y : List UInt8, y.length = 1 ∧ RdIn (w.alloc (.cells #[.int .u8 x] 5)) (some ⟨w.heap.size, 0, none⟩) 1 1 y := by
  refine ⟨[UInt8.ofNat x.toNat], rfl, ⟨rfl, fun i hi => ⟨_, _, rfl, ?_⟩⟩, Nat.le_refl _, by unfold maxLen; omega, fun h => by simp at h⟩
  obtain rfl : i = 0 := by omega
  have e : ((bt [UInt8.ofNat x.toNat] 0 : Nat) : Int) = x := by
    show (((UInt8.ofNat x.toNat).toNat : Nat) : Int) = x
    simp
    omega
  rw [e]
  simp

end Go.Proofs.YtdjbaieaelhhiaaDoor
