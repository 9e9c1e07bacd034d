/- Contracts of the draws of chapter 1. -/
import Derived.Test.YtbleangknnjlcaaBend
set_option linter.unusedVariables false
set_option linter.unusedSimpArgs false
namespace Go.Proofs.Ytbleangknnjlcaa
open Go.RowKit

def texts : List ByteArray := [⟨#[]⟩, ⟨#[97]⟩, ⟨#[104, 101, 108, 108, 111]⟩, ⟨#[195, 169]⟩, ⟨#[226, 130, 172]⟩, ⟨#[240, 159, 152, 128]⟩, ⟨#[97, 47, 98]⟩, ⟨#[0]⟩, ⟨#[255]⟩, ⟨#[192, 128]⟩, ⟨#[237, 160, 128]⟩, ⟨#[226, 130]⟩, ⟨#[244, 144, 128, 128]⟩, ⟨#[49, 50, 51, 52, 53, 54, 55, 56, 57, 48, 49, 50, 51, 52, 53, 54, 55, 56, 57, 48, 49, 50, 51, 52, 53, 54, 55, 56, 57, 48, 49, 50, 51, 52, 53, 54, 55, 56, 57, 48, 49, 50, 51, 52, 53, 54, 55, 56, 57, 48, 49, 50, 51, 52, 53, 54, 55, 56, 57, 48]⟩, ⟨#[49, 50, 51, 52, 53, 54, 55, 56, 57, 48, 49, 50, 51, 52, 53, 54, 55, 56, 57, 48, 49, 50, 51, 52, 53, 54, 55, 56, 57, 48, 49, 50, 51, 52, 53, 54, 55, 56, 57, 48, 49, 50, 51, 52, 53, 54, 55, 56, 57, 48, 49, 50, 51, 52, 53, 54, 55, 56, 57, 48, 49]⟩, ⟨#[120, 223, 191, 121, 224, 160, 128]⟩]
def tails : List ByteArray := [⟨#[]⟩, ⟨#[122]⟩, ⟨#[195, 169]⟩]
theorem texts_size : ∀ s ∈ texts, s.size ≤ 61 := by decide +kernel
theorem tails_size : ∀ s ∈ tails, s.size ≤ 61 := by decide +kernel
def odds : List Int := [-1, 0, 1, 2, 255, 256, 65535, 2147483647, 2147483648, 4294967295, 4294967296, -2147483648, 9223372036854775807, -9223372036854775808]

set_option maxRecDepth 100000 in
set_option maxHeartbeats 1000000 in
/-- spec.l1Text -/
theorem text47 (g : Nat) (ao : Option Addr) (n cap : Nat) (l : List UInt8) (w : World) (hc : Cur w g ao n cap l) (hn : n ≤ 1048576) :
    Calls Try.prog 47 #[.pointer (some ⟨g, 0, none⟩)] w fun e w' => ∃ s : ByteArray, s.size ≤ 61 ∧ e = .returned (.string s) ∧ Cur w' g ao n cap l ∧ w.grownBy w' (some g) := by
  have hlt := hc.lt
  go_enter Try.func47, Try.ntmps47
  go_wp2_with fail
  refine (str55 g ao n cap l w.heap.size 16 16 texts _ (hc.alloc _) hn (by omega) (by omega) rfl (fun i hi => strs_cells w texts 9 i hi) (by omega)).mono ?_
  rintro e w1 ⟨s, hs, rfl, hc1, hg1⟩
  have hz := texts_size s hs
  clear hs
  go_wp2
  go_ret
  exact ⟨s, hz, rfl, hc1, grownBy_trans (World.grownBy_alloc _ _ _) hg1⟩

set_option maxRecDepth 100000 in
set_option maxHeartbeats 1000000 in
/-- spec.l1Odd -/
theorem odd59 (g : Nat) (ao : Option Addr) (n cap : Nat) (l : List UInt8) (w : World) (hc : Cur w g ao n cap l) (hn : n ≤ 1048576) :
    Calls Try.prog 59 #[.pointer (some ⟨g, 0, none⟩)] w fun e w' => ∃ x : Int, e = .returned (.int .i64 x) ∧ Cur w' g ao n cap l ∧ w.grownBy w' (some g) := by
  have hlt := hc.lt
  go_enter Try.func59, Try.ntmps59
  go_wp2_with fail
  refine (int58 g ao n cap l w.heap.size 14 14 odds _ (hc.alloc _) hn (by omega) (by omega) rfl (fun i hi => ints_cells w odds 3 i hi) (by omega)).mono ?_
  rintro e w1 ⟨x, hx, rfl, hc1, hg1⟩
  clear hx
  go_wp2
  go_ret
  exact ⟨x, rfl, hc1, grownBy_trans (World.grownBy_alloc _ _ _) hg1⟩

theorem bytes_made2 (s : ByteArray) (w : World) (hs : s.size ≤ 1048576) : ∃ wb cap, (convert 9 22 (.string s)).run Try.prog w = .ok (.slice (some ⟨w.heap.size, 0, none⟩) s.size cap) wb ∧
    RdIn wb (some ⟨w.heap.size, 0, none⟩) s.size cap s.data.toList ∧ Below w.heap.size w wb := by
  refine ⟨_, _, run_bytes_of_string w 9 22 5 s Try.underlying9 Try.underlying22 Try.underlying5, ⟨⟨rfl, fun i hi => ⟨_, _, rfl, ?_⟩⟩, grownCap_ge _ _ _ _, grownCap_le_maxLen _ _ _ _ (by unfold maxLen; omega), fun h => by simp at h⟩, ?_⟩
  · show (w.drew.alloc _).cell? ⟨w.drew.heap.size, _, none⟩ = _
    rw [Nat.zero_add, World.cell?_alloc_mark]
    exact bytesRow_at s _ i hi
  · exact ((Below.refl _ _).drew).alloc (Nat.le_refl _) _

/-- Behind a cursor's making and steps all elder memory stays. -/
theorem below_cur {w w1 w' : World} {g : Nat} (hb : Below g w w1) (hg : w1.grownBy w' (some g)) (hsz : g ≤ w1.heap.size) : Below g w w' :=
  hb.grown hg hsz (fun k hk => by simp at hk; omega)

theorem RdIn.cur {w w' : World} {g : Nat} {a : Option Addr} {m c : Nat} {x : List UInt8} (h : RdIn w a m c x) (hne : ∀ d, a = some d → g < d.block) (hg : w.grownBy w' (some g)) : RdIn w' a m c x :=
  h.grown hg (fun d e he => by have := hne d e; simp at he; omega)

theorem str_add_size (s t : ByteArray) : (s ++ t).size = s.size + t.size := by
  simp [ByteArray.size_append]

set_option maxRecDepth 100000 in
set_option maxHeartbeats 2000000 in
/-- spec.DrawRuneAt -/
theorem draw16 (ao : Option Addr) (n cap : Nat) (l : List UInt8) (w : World) (hr : RdIn w ao n cap l) (hn : n ≤ 1048576) :
    Calls Try.prog 16 #[.slice ao n cap] w fun e w' => ∃ a m c x i, m ≤ 200 ∧ -1 ≤ i ∧ i ≤ (5 : Int) ∧ e = .returned (.tuple #[.slice a m c, .int .i64 i]) ∧ Own w' w.heap.size a m c x ∧ Below w.heap.size w w' := by
  go_enter Try.func16, Try.ntmps16
  go_wp2_with fail
  refine (new46 ao n cap l _ hr hn).mono ?_
  rintro e w0 ⟨rfl, hc0, hb0⟩
  have hz0 : w.heap.size < w0.heap.size := hc0.lt
  go_wp2_with fail
  refine (text47 w.heap.size ao n cap l _ hc0 hn).mono ?_
  rintro e w1 ⟨s, hs, rfl, hc1, hg1⟩
  go_wp2_with fail
  refine (text47 w.heap.size ao n cap l _ hc1 hn).mono ?_
  rintro e w2 ⟨t, ht, rfl, hc2, hg2⟩
  have hG2 := grownBy_trans hg1 hg2
  have hst : s.size + t.size ≤ 122 := by omega
  obtain ⟨st, hst2⟩ : ∃ st, s ++ t = st := ⟨_, rfl⟩
  have hsz : st.size ≤ 122 := by rw [← hst2, str_add_size]; omega
  obtain ⟨wb, cb, hconv, hrd, hbel⟩ := bytes_made2 st w2 (by omega)
  have hcb := hc2.below hbel
  have hGb := grown_below hG2 hbel
  have hz2 : w.heap.size < w2.heap.size := hc2.lt
  clear hc0 hc1 hg1 hg2 hG2
  go_wp2_with fail
  refine (once48 w.heap.size ao n cap l 3 _ hcb hn (by omega) (by omega)).mono ?_
  rintro e w3 ⟨bb, rfl, hc3, hg3⟩
  have hG3 := grownBy_trans hGb hg3
  have hr3 := hrd.cur (g := w.heap.size) (fun d e => by simp at e; subst e; exact hz2) hg3
  have hz3 : w.heap.size < w3.heap.size := hc3.lt
  clear hconv hcb hGb hrd hbel hg3 hc2
  cases bb with
  | false =>
    go_wp2_with fail
    refine (bend51 w.heap.size ao n cap l _ _ _ _ _ hc3 hn hr3 (by omega)).mono ?_
    rintro e u1 ⟨a1, m1, c1, x1, hm1, rfl, ho1, hcu1, hg1⟩
    go_wp2_with fail
    refine (below50 w.heap.size ao n cap l 7 _ hcu1 hn (by omega) (by omega)).mono ?_
    rintro e u2 ⟨i, hi0, hi1, rfl, hcu2, hg2⟩
    have ho2 := (ho1.cur hz3 hg2).mono (Nat.le_of_lt hz3)
    have hB := below_cur hb0 (grownBy_trans hG3 (grownBy_trans hg1 hg2)) (Nat.le_of_lt hz0)
    go_wp2
    go_ret2
    exact ⟨a1, m1, c1, x1, i - 1, by omega, by omega, by omega, by simp, ho2, hB⟩
  | true =>
    go_wp2_with fail
    refine (below50 w.heap.size ao n cap l 6 _ hc3 hn (by omega) (by omega)).mono ?_
    rintro e w4 ⟨k, hk0, hk1, rfl, hc4, hg4⟩
    obtain ⟨j, rfl⟩ := Int.eq_ofNat_of_zero_le hk0
    go_wp2_with fail
    refine (bytes49 w.heap.size ao n cap l j _ hc4 hn (by omega)).mono ?_
    rintro e w5 ⟨a5, c5, x5, rfl, ho5, hc5, hg5⟩
    have hG5 := grownBy_trans hG3 (grownBy_trans hg4 hg5)
    have hz5 : w.heap.size < w5.heap.size := hc5.lt
    go_wp2_with fail
    refine (bend51 w.heap.size ao n cap l _ _ _ _ _ hc5 hn ho5.rd (by omega)).mono ?_
    rintro e u1 ⟨a1, m1, c1, x1, hm1, rfl, ho1, hcu1, hg1⟩
    go_wp2_with fail
    refine (below50 w.heap.size ao n cap l 7 _ hcu1 hn (by omega) (by omega)).mono ?_
    rintro e u2 ⟨i, hi0, hi1, rfl, hcu2, hg2⟩
    have ho2 := (ho1.cur hz5 hg2).mono (Nat.le_of_lt hz5)
    have hB := below_cur hb0 (grownBy_trans hG5 (grownBy_trans hg1 hg2)) (Nat.le_of_lt hz0)
    go_wp2
    go_ret2
    exact ⟨a1, m1, c1, x1, i - 1, by omega, by omega, by omega, by simp, ho2, hB⟩

set_option maxRecDepth 100000 in
set_option maxHeartbeats 2000000 in
/-- spec.DrawCountRunes -/
theorem draw19 (ao : Option Addr) (n cap : Nat) (l : List UInt8) (w : World) (hr : RdIn w ao n cap l) (hn : n ≤ 1048576) :
    Calls Try.prog 19 #[.slice ao n cap] w fun e w' => ∃ s : ByteArray, s.size ≤ 200 ∧ e = .returned (.string s) ∧ Below w.heap.size w w' := by
  go_enter Try.func19, Try.ntmps19
  go_wp2_with fail
  refine (new46 ao n cap l _ hr hn).mono ?_
  rintro e w0 ⟨rfl, hc0, hb0⟩
  have hz0 : w.heap.size < w0.heap.size := hc0.lt
  go_wp2_with fail
  refine (text47 w.heap.size ao n cap l _ hc0 hn).mono ?_
  rintro e w1 ⟨s, hs, rfl, hc1, hg1⟩
  have hz1 : w.heap.size < w1.heap.size := hc1.lt
  go_wp2_with fail
  refine (str55 w.heap.size ao n cap l w1.heap.size 3 3 tails _ (hc1.alloc _) hn (by omega) (by omega) rfl (fun i hi => strs_cells w1 tails 9 i hi) (by omega)).mono ?_
  rintro e w2 ⟨t, ht, rfl, hc2, hg2⟩
  have htz := tails_size t ht
  have hG2 := grownBy_trans (grown_alloc hg1 _) hg2
  have hst : s.size + t.size ≤ 122 := by omega
  obtain ⟨st, hst2⟩ : ∃ st, s ++ t = st := ⟨_, rfl⟩
  have hsz : st.size ≤ 122 := by rw [← hst2, str_add_size]; omega
  obtain ⟨wb, cb, hconv, hrd, hbel⟩ := bytes_made2 st w2 (by omega)
  have hcb := hc2.below hbel
  have hGb := grown_below hG2 hbel
  clear ht hc0 hc1 hg1 hg2 hG2
  go_wp2_with fail
  refine (bend51 w.heap.size ao n cap l _ _ _ _ _ hcb hn hrd (by omega)).mono ?_
  rintro e u1 ⟨a1, m1, c1, x1, hm1, rfl, ho1, hcu1, hg1⟩
  have hcv : (convert 22 9 (.slice a1 m1 c1)).run Try.prog u1 = .ok (.string (strOf x1)) u1 := conv_rd ho1.rd
  have hxl := ho1.1
  have hB := below_cur hb0 (grownBy_trans hGb hg1) (Nat.le_of_lt hz0)
  clear hconv
  go_wp2
  go_ret
  exact ⟨strOf x1, by show x1.toArray.size ≤ 200; simp; omega, rfl, hB⟩

set_option maxRecDepth 100000 in
set_option maxHeartbeats 2000000 in
/-- spec.DrawPutText -/
theorem draw23 (ao : Option Addr) (n cap : Nat) (l : List UInt8) (w : World) (hr : RdIn w ao n cap l) (hn : n ≤ 1048576) :
    Calls Try.prog 23 #[.slice ao n cap] w fun e w' => ∃ a m c x s, m ≤ 200 ∧ s.size ≤ 61 ∧ e = .returned (.tuple #[.slice a m c, .string s]) ∧ Own w' w.heap.size a m c x ∧ Below w.heap.size w w' := by
  go_enter Try.func23, Try.ntmps23
  go_wp2_with fail
  refine (new46 ao n cap l _ hr hn).mono ?_
  rintro e w0 ⟨rfl, hc0, hb0⟩
  have hz0 : w.heap.size < w0.heap.size := hc0.lt
  go_wp2_with fail
  refine (below50 w.heap.size ao n cap l 3 _ hc0 hn (by omega) (by omega)).mono ?_
  rintro e w1 ⟨k, hk0, hk1, rfl, hc1, hg1⟩
  obtain ⟨j, rfl⟩ := Int.eq_ofNat_of_zero_le hk0
  have hz1 : w.heap.size < w1.heap.size := hc1.lt
  go_wp2_with fail
  refine (bytes49 w.heap.size ao n cap l j _ hc1 hn (by omega)).mono ?_
  rintro e w2 ⟨a2, c2, x2, rfl, ho2, hc2, hg2⟩
  go_wp2_with fail
  refine (text47 w.heap.size ao n cap l _ hc2 hn).mono ?_
  rintro e w3 ⟨s, hs, rfl, hc3, hg3⟩
  have ho3 := (ho2.cur hz1 hg3).mono (Nat.le_of_lt hz1)
  have hB := below_cur hb0 (grownBy_trans hg1 (grownBy_trans hg2 hg3)) (Nat.le_of_lt hz0)
  go_wp2
  go_ret2
  exact ⟨a2, j, c2, x2, s, by omega, hs, by simp, ho3, hB⟩

def sizes5 : List Int := [0, 1, 5, 60, 61]
def sizes4 : List Int := [0, 1, 5, 60]
def steps5 : List Int := [0, 0, 0, 1, -1]
theorem sizes5_le : ∀ x ∈ sizes5, 0 ≤ x ∧ x ≤ 61 := by decide
theorem sizes4_le : ∀ x ∈ sizes4, 0 ≤ x ∧ x ≤ 61 := by decide
theorem steps5_le : ∀ x ∈ steps5, -1 ≤ x ∧ x ≤ 1 := by decide

set_option maxRecDepth 100000 in
set_option maxHeartbeats 2000000 in
/-- spec.DrawPutBytes -/
theorem draw25 (ao : Option Addr) (n cap : Nat) (l : List UInt8) (w : World) (hr : RdIn w ao n cap l) (hn : n ≤ 1048576) :
    Calls Try.prog 25 #[.slice ao n cap] w fun e w' => ∃ a m c x b k d y, m ≤ 200 ∧ k ≤ 61 ∧ e = .returned (.tuple #[.slice a m c, .slice b k d]) ∧ Own w' w.heap.size a m c x ∧ Own w' w.heap.size b k d y ∧ Below w.heap.size w w' := by
  go_enter Try.func25, Try.ntmps25
  go_wp2_with fail
  refine (new46 ao n cap l _ hr hn).mono ?_
  rintro e w0 ⟨rfl, hc0, hb0⟩
  have hz0 : w.heap.size < w0.heap.size := hc0.lt
  go_wp2_with fail
  refine (below50 w.heap.size ao n cap l 3 _ hc0 hn (by omega) (by omega)).mono ?_
  rintro e w1 ⟨k, hk0, hk1, rfl, hc1, hg1⟩
  obtain ⟨j, rfl⟩ := Int.eq_ofNat_of_zero_le hk0
  have hz1 : w.heap.size < w1.heap.size := hc1.lt
  go_wp2_with fail
  refine (bytes49 w.heap.size ao n cap l j _ hc1 hn (by omega)).mono ?_
  rintro e w2 ⟨a2, c2, x2, rfl, ho2, hc2, hg2⟩
  have hz2 : w.heap.size < w2.heap.size := hc2.lt
  go_wp2_with fail
  refine (int58 w.heap.size ao n cap l w2.heap.size 5 5 sizes5 _ (hc2.alloc _) hn (by omega) (by omega) rfl (fun i hi => ints_cells w2 sizes5 3 i hi) (by omega)).mono ?_
  rintro e w3 ⟨z, hz, rfl, hc3, hg3⟩
  have hzr := sizes5_le z hz
  clear hz
  have ho3 := (ho2.alloc _).cur hz1 hg3
  have hG3 := grownBy_trans (grown_alloc (grownBy_trans hg1 hg2) _) hg3
  have hz3 : w.heap.size < w3.heap.size := hc3.lt
  obtain ⟨q, rfl⟩ := Int.eq_ofNat_of_zero_le hzr.1
  go_wp2_with fail
  refine (bytes49 w.heap.size ao n cap l q _ hc3 hn (by omega)).mono ?_
  rintro e w4 ⟨a4, c4, x4, rfl, ho4, hc4, hg4⟩
  have ho5 := (ho3.cur hz1 hg4).mono (Nat.le_of_lt hz1)
  have ho6 := ho4.mono (Nat.le_of_lt hz3)
  have hB := below_cur hb0 (grownBy_trans hG3 hg4) (Nat.le_of_lt hz0)
  go_wp2
  go_ret2
  exact ⟨a2, j, c2, x2, a4, q, c4, x4, by omega, by omega, by simp, ho5, ho6, hB⟩

set_option maxRecDepth 100000 in
set_option maxHeartbeats 2000000 in
/-- spec.DrawPutWord -/
theorem draw27 (ao : Option Addr) (n cap : Nat) (l : List UInt8) (w : World) (hr : RdIn w ao n cap l) (hn : n ≤ 1048576) :
    Calls Try.prog 27 #[.slice ao n cap] w fun e w' => ∃ a m c x i, m ≤ 200 ∧ e = .returned (.tuple #[.slice a m c, .int .i64 i]) ∧ Own w' w.heap.size a m c x ∧ Below w.heap.size w w' := by
  go_enter Try.func27, Try.ntmps27
  go_wp2_with fail
  refine (new46 ao n cap l _ hr hn).mono ?_
  rintro e w0 ⟨rfl, hc0, hb0⟩
  have hz0 : w.heap.size < w0.heap.size := hc0.lt
  go_wp2_with fail
  refine (below50 w.heap.size ao n cap l 3 _ hc0 hn (by omega) (by omega)).mono ?_
  rintro e w1 ⟨k, hk0, hk1, rfl, hc1, hg1⟩
  obtain ⟨j, rfl⟩ := Int.eq_ofNat_of_zero_le hk0
  have hz1 : w.heap.size < w1.heap.size := hc1.lt
  go_wp2_with fail
  refine (bytes49 w.heap.size ao n cap l j _ hc1 hn (by omega)).mono ?_
  rintro e w2 ⟨a2, c2, x2, rfl, ho2, hc2, hg2⟩
  go_wp2_with fail
  refine (once48 w.heap.size ao n cap l 3 _ hc2 hn (by omega) (by omega)).mono ?_
  rintro e w3 ⟨bb, rfl, hc3, hg3⟩
  have ho3 := ho2.cur hz1 hg3
  have hG3 := grownBy_trans hg1 (grownBy_trans hg2 hg3)
  cases bb with
  | true =>
    go_wp2_with fail
    refine (odd59 w.heap.size ao n cap l _ hc3 hn).mono ?_
    rintro e w4 ⟨i, rfl, hc4, hg4⟩
    have ho4 := (ho3.cur hz1 hg4).mono (Nat.le_of_lt hz1)
    have hB := below_cur hb0 (grownBy_trans hG3 hg4) (Nat.le_of_lt hz0)
    go_wp2
    go_ret2
    exact ⟨a2, j, c2, x2, i, by omega, by simp, ho4, hB⟩
  | false =>
    go_wp2_with fail
    refine (below50 w.heap.size ao n cap l 65536 _ hc3 hn (by omega) (by omega)).mono ?_
    rintro e w4 ⟨i, hi0, hi1, rfl, hc4, hg4⟩
    have ho4 := (ho3.cur hz1 hg4).mono (Nat.le_of_lt hz1)
    have hB := below_cur hb0 (grownBy_trans hG3 hg4) (Nat.le_of_lt hz0)
    go_wp2
    go_ret2
    exact ⟨a2, j, c2, x2, i, by omega, by simp, ho4, hB⟩

set_option maxRecDepth 100000 in
set_option maxHeartbeats 2000000 in
/-- spec.DrawGetText -/
theorem draw34 (ao : Option Addr) (n cap : Nat) (l : List UInt8) (w : World) (hr : RdIn w ao n cap l) (hn : n ≤ 1048576) :
    Calls Try.prog 34 #[.slice ao n cap] w fun e w' => ∃ a m c x i, m ≤ 200 ∧ -1 ≤ i ∧ i ≤ (200 : Int) ∧ e = .returned (.tuple #[.slice a m c, .int .i64 i]) ∧ Own w' w.heap.size a m c x ∧ Below w.heap.size w w' := by
  go_enter Try.func34, Try.ntmps34
  go_wp2_with fail
  refine (new46 ao n cap l _ hr hn).mono ?_
  rintro e w0 ⟨rfl, hc0, hb0⟩
  have hz0 : w.heap.size < w0.heap.size := hc0.lt
  go_wp2_with fail
  refine (below50 w.heap.size ao n cap l 3 _ hc0 hn (by omega) (by omega)).mono ?_
  rintro e w1 ⟨k, hk0, hk1, rfl, hc1, hg1⟩
  obtain ⟨j, rfl⟩ := Int.eq_ofNat_of_zero_le hk0
  have hz1 : w.heap.size < w1.heap.size := hc1.lt
  go_wp2_with fail
  refine (bytes49 w.heap.size ao n cap l j _ hc1 hn (by omega)).mono ?_
  rintro e w2 ⟨a2, c2, x2, rfl, ho2, hc2, hg2⟩
  have hx2 := ho2.1
  go_wp2_with fail
  refine (text47 w.heap.size ao n cap l _ hc2 hn).mono ?_
  rintro e w3 ⟨s, hs, rfl, hc3, hg3⟩
  have ho3 := ho2.cur hz1 hg3
  have hG3 := grownBy_trans hg1 (grownBy_trans hg2 hg3)
  go_wp2_with fail
  refine (put44 _ _ _ s x2 _ ho3.rd (by omega) (by omega)).mono ?_
  rintro e w4 ⟨a4, n4, c4, rfl, ho4, hb4⟩
  have hc4 := hc3.below hb4
  have hG4 := grown_below hG3 hb4
  have hn4 : n4 ≤ 70 := by have := ho4.1; have := putT_le x2 s; omega
  have hz4 : w.heap.size < w4.heap.size := hc4.lt
  clear ho3 ho2 hc0 hc1 hc2 hc3 hx2
  go_wp2_with fail
  refine (bend51 w.heap.size ao n cap l _ _ _ _ _ hc4 hn ho4.rd (by omega)).mono ?_
  rintro e u1 ⟨a1, m1, c1, x1, hm1, rfl, ho1, hcu1, hg5⟩
  have hz5 : w.heap.size < u1.heap.size := hcu1.lt
  go_wp2_with fail
  refine (int58 w.heap.size ao n cap l u1.heap.size 5 5 steps5 _ (hcu1.alloc _) hn (by omega) (by omega) rfl (fun i hi => ints_cells u1 steps5 3 i hi) (by omega)).mono ?_
  rintro e u2 ⟨z, hz, rfl, hc6, hg6⟩
  have hzr := steps5_le z hz
  clear hz
  have ho6 := ((ho1.alloc _).cur hz4 hg6).mono (Nat.le_of_lt hz4)
  have hB := below_cur hb0 (grownBy_trans (grown_alloc (grownBy_trans hG4 hg5) _) hg6) (Nat.le_of_lt hz0)
  go_wp2
  go_ret2
  exact ⟨a1, m1, c1, x1, (j : Int) + z, by omega, by omega, by omega, by simp, ho6, hB⟩

set_option maxRecDepth 100000 in
set_option maxHeartbeats 2000000 in
/-- spec.DrawGetBytes -/
theorem draw36 (ao : Option Addr) (n cap : Nat) (l : List UInt8) (w : World) (hr : RdIn w ao n cap l) (hn : n ≤ 1048576) :
    Calls Try.prog 36 #[.slice ao n cap] w fun e w' => ∃ a m c x i, m ≤ 200 ∧ -1 ≤ i ∧ i ≤ (200 : Int) ∧ e = .returned (.tuple #[.slice a m c, .int .i64 i]) ∧ Own w' w.heap.size a m c x ∧ Below w.heap.size w w' := by
  go_enter Try.func36, Try.ntmps36
  go_wp2_with fail
  refine (new46 ao n cap l _ hr hn).mono ?_
  rintro e w0 ⟨rfl, hc0, hb0⟩
  have hz0 : w.heap.size < w0.heap.size := hc0.lt
  go_wp2_with fail
  refine (below50 w.heap.size ao n cap l 3 _ hc0 hn (by omega) (by omega)).mono ?_
  rintro e w1 ⟨k, hk0, hk1, rfl, hc1, hg1⟩
  obtain ⟨j, rfl⟩ := Int.eq_ofNat_of_zero_le hk0
  have hz1 : w.heap.size < w1.heap.size := hc1.lt
  go_wp2_with fail
  refine (bytes49 w.heap.size ao n cap l j _ hc1 hn (by omega)).mono ?_
  rintro e w2 ⟨a2, c2, x2, rfl, ho2, hc2, hg2⟩
  have hx2 := ho2.1
  have hz2 : w.heap.size < w2.heap.size := hc2.lt
  go_wp2_with fail
  refine (int58 w.heap.size ao n cap l w2.heap.size 4 4 sizes4 _ (hc2.alloc _) hn (by omega) (by omega) rfl (fun i hi => ints_cells w2 sizes4 3 i hi) (by omega)).mono ?_
  rintro e w3 ⟨y, hy, rfl, hc3, hg3⟩
  have hyr := sizes4_le y hy
  clear hy
  have ho3 := (ho2.alloc _).cur hz1 hg3
  have hG3 := grownBy_trans (grown_alloc (grownBy_trans hg1 hg2) _) hg3
  obtain ⟨q, rfl⟩ := Int.eq_ofNat_of_zero_le hyr.1
  go_wp2_with fail
  refine (bytes49 w.heap.size ao n cap l q _ hc3 hn (by omega)).mono ?_
  rintro e w4 ⟨a4, c4, x4, rfl, ho4, hc4, hg4⟩
  have ho5 := ho3.cur hz1 hg4
  have hG4' := grownBy_trans hG3 hg4
  go_wp2_with fail
  refine (put45 _ _ _ x2 _ _ _ x4 _ ho5.rd ho4.rd (by omega)).mono ?_
  rintro e w5 ⟨a5, n5, c5, rfl, ho7, hb5⟩
  have hc5 := hc4.below hb5
  have hG5 := grown_below hG4' hb5
  have hn5 : n5 ≤ 70 := by have := ho7.1; have := putB_le x2 x4; omega
  have hz4 : w.heap.size < w5.heap.size := hc5.lt
  clear ho3 ho2 hc0 hc1 hc2 hc3 hx2 ho4 ho5
  go_wp2_with fail
  refine (bend51 w.heap.size ao n cap l _ _ _ _ _ hc5 hn ho7.rd (by omega)).mono ?_
  rintro e u1 ⟨a1, m1, c1, x1, hm1, rfl, ho1, hcu1, hg6⟩
  have hz5 : w.heap.size < u1.heap.size := hcu1.lt
  go_wp2_with fail
  refine (int58 w.heap.size ao n cap l u1.heap.size 5 5 steps5 _ (hcu1.alloc _) hn (by omega) (by omega) rfl (fun i hi => ints_cells u1 steps5 3 i hi) (by omega)).mono ?_
  rintro e u2 ⟨z, hz, rfl, hc7, hg7⟩
  have hzr := steps5_le z hz
  clear hz
  have ho6 := ((ho1.alloc _).cur hz4 hg7).mono (Nat.le_of_lt hz4)
  have hB := below_cur hb0 (grownBy_trans (grown_alloc (grownBy_trans hG5 hg6) _) hg7) (Nat.le_of_lt hz0)
  go_wp2
  go_ret2
  exact ⟨a1, m1, c1, x1, (j : Int) + z, by omega, by omega, by omega, by simp, ho6, hB⟩

/-- laws.big -/
theorem big15 (ao : Option Addr) (n cap : Nat) (b : Bool) (w : World) (h : decide (1048576 < n) = b) :
    Calls Try.prog 15 #[.slice ao n cap] w fun e w' => e = .returned (.bool b) ∧ w' = w := by
  subst h
  go_enter Try.func15, Try.ntmps15
  go_wp2
  go_ret
  exact ⟨ret_bool (by simp; omega), rfl⟩

/-- laws.same, of the same bytes. -/
theorem same32 (a b : Option Addr) (m c m' c' : Nat) (x : List UInt8) (w : World) (h1 : RdIn w a m c x) (h2 : RdIn w b m' c' x) :
    Calls Try.prog 32 #[.slice a m c, .slice b m' c'] w fun e w' => e = .returned (.bool true) ∧ w' = w := by
  have e1 := conv_rd h1
  have e2 := conv_rd h2
  go_enter Try.func32, Try.ntmps32
  go_wp2
  go_ret
  exact ⟨by simp, rfl⟩

end Go.Proofs.Ytbleangknnjlcaa
