/- The draws of chapter 3. -/
import Derived.Test.YtccjiicjlifmiaaGreatDoorDraw
import Derived.Test.YtccjiicjlifmiaaGreatDoorOks
set_option linter.unusedVariables false
set_option linter.unusedSimpArgs false
namespace Go.Proofs.YtccjiicjlifmiaaGreatDoor
open Go.RowKit

def topics : List ByteArray := [⟨#[97]⟩, ⟨#[98]⟩, ⟨#[97, 47, 98]⟩, ⟨#[97, 47, 99]⟩, ⟨#[97, 47, 98, 47, 99]⟩, ⟨#[97, 47, 98, 47, 99, 47, 100]⟩, ⟨#[36, 115]⟩, ⟨#[36, 115, 47, 97]⟩, ⟨#[47]⟩, ⟨#[97, 47]⟩, ⟨#[47, 97]⟩, ⟨#[98, 47, 98]⟩, ⟨#[195, 169, 47, 97]⟩]
theorem topics_size : ∀ s ∈ topics, s.size ≤ 61 := by decide +kernel
def filters : List ByteArray := [⟨#[35]⟩, ⟨#[43]⟩, ⟨#[97, 47, 35]⟩, ⟨#[97, 47, 43]⟩, ⟨#[43, 47, 98]⟩, ⟨#[43, 47, 43]⟩, ⟨#[97, 47, 43, 47, 99]⟩, ⟨#[97, 47, 98, 47, 35]⟩, ⟨#[36, 115, 47, 35]⟩, ⟨#[36, 115, 47, 43]⟩, ⟨#[43, 47, 35]⟩, ⟨#[47, 43]⟩, ⟨#[47, 35]⟩, ⟨#[97, 47, 43, 47, 35]⟩, ⟨#[98, 47, 35]⟩, ⟨#[43, 47, 98, 47, 43]⟩]
theorem filters_size : ∀ s ∈ filters, s.size ≤ 61 := by decide +kernel
def others : List ByteArray := [⟨#[]⟩, ⟨#[97, 43]⟩, ⟨#[97, 47, 98, 43]⟩, ⟨#[43, 97]⟩, ⟨#[35, 47, 97]⟩, ⟨#[97, 35]⟩, ⟨#[97, 47, 35, 47, 98]⟩, ⟨#[35, 35]⟩, ⟨#[43, 43]⟩, ⟨#[97, 47, 98, 47, 99, 47, 100, 47, 101, 47, 102]⟩, ⟨#[97, 47, 98, 47, 99, 47, 100, 47, 101, 47, 102, 47, 103]⟩, ⟨#[47, 47, 47, 47, 47]⟩, ⟨#[47, 47, 47, 47, 47, 47]⟩, ⟨#[0]⟩, ⟨#[255]⟩, ⟨#[49, 50, 51, 52, 53, 54, 55, 56, 57, 48, 49, 50, 51, 52, 53, 54, 55, 56, 57, 48, 49, 50, 51, 52, 53, 54, 55, 56, 57, 48, 49, 50, 51, 52, 53, 54, 55, 56, 57, 48, 49, 50, 51, 52, 53, 54, 55, 56, 57, 48, 49, 50, 51, 52, 53, 54, 55, 56, 57, 48, 49]⟩]
theorem others_size : ∀ s ∈ others, s.size ≤ 61 := by decide +kernel

set_option maxRecDepth 100000 in
set_option maxHeartbeats 1000000 in
/-- spec.l3Topic. -/
theorem top_sl3Topic (g : Nat) (ao : Option Addr) (n cap : Nat) (l : List UInt8) (w : World) (hc : Cur w g ao n cap l) (hn : n ≤ 1048576) :
    Calls Tryz.prog 144 #[.pointer (some ⟨g, 0, none⟩)] w fun e w' => ∃ s : ByteArray, s.size ≤ 61 ∧ e = .returned (.string s) ∧ Cur w' g ao n cap l ∧ w.grownBy w' (some g) := by
  have hlt := hc.lt
  go_enter Tryz.func144, Tryz.ntmps144
  go_wp2_with fail
  refine (str_sl1Str g ao n cap l w.heap.size 13 13 topics _ (hc.alloc _) hn (by omega) (by omega) rfl (fun i hi => strs_cells w topics 9 i hi) (by omega)).mono ?_
  rintro e w1 ⟨s, hs, rfl, hc1, hg1⟩
  have hz := topics_size s hs
  clear hs
  go_wp2
  go_ret
  exact ⟨s, hz, rfl, hc1, grownBy_trans (World.grownBy_alloc _ _ _) hg1⟩

set_option maxRecDepth 100000 in
set_option maxHeartbeats 1000000 in
/-- spec.l3Filter. -/
theorem fil_sl3Filter (g : Nat) (ao : Option Addr) (n cap : Nat) (l : List UInt8) (w : World) (hc : Cur w g ao n cap l) (hn : n ≤ 1048576) :
    Calls Tryz.prog 145 #[.pointer (some ⟨g, 0, none⟩)] w fun e w' => ∃ s : ByteArray, s.size ≤ 61 ∧ e = .returned (.string s) ∧ Cur w' g ao n cap l ∧ w.grownBy w' (some g) := by
  go_enter Tryz.func145, Tryz.ntmps145
  go_wp2_with fail
  refine (once_sl1Once g ao n cap l 3 _ hc hn (by omega) (by omega)).mono ?_
  rintro e w1 ⟨b, rfl, hc1, hg1⟩
  cases b with
  | true =>
    go_wp2_with fail
    refine (top_sl3Topic g ao n cap l _ hc1 hn).mono ?_
    rintro e w2 ⟨s, hz, rfl, hc2, hg2⟩
    go_wp2
    go_ret
    exact ⟨s, hz, rfl, hc2, grownBy_trans hg1 hg2⟩
  | false =>
    have hlt := hc1.lt
    go_wp2_with fail
    refine (str_sl1Str g ao n cap l w1.heap.size 16 16 filters _ (hc1.alloc _) hn (by omega) (by omega) rfl (fun i hi => strs_cells w1 filters 9 i hi) (by omega)).mono ?_
    rintro e w2 ⟨s, hs, rfl, hc2, hg2⟩
    have hz := filters_size s hs
    clear hs
    go_wp2
    go_ret
    exact ⟨s, hz, rfl, hc2, grownBy_trans hg1 (grownBy_trans (World.grownBy_alloc _ _ _) hg2)⟩

set_option maxRecDepth 100000 in
set_option maxHeartbeats 1000000 in
/-- spec.l3Any. -/
theorem any_sl3Any (g : Nat) (ao : Option Addr) (n cap : Nat) (l : List UInt8) (w : World) (hc : Cur w g ao n cap l) (hn : n ≤ 1048576) :
    Calls Tryz.prog 110 #[.pointer (some ⟨g, 0, none⟩)] w fun e w' => ∃ s : ByteArray, s.size ≤ 61 ∧ e = .returned (.string s) ∧ Cur w' g ao n cap l ∧ w.grownBy w' (some g) := by
  go_enter Tryz.func110, Tryz.ntmps110
  go_wp2_with fail
  refine (below_sl1Below g ao n cap l 3 _ hc hn (by omega) (by omega)).mono ?_
  rintro e w1 ⟨x, hx0, hx1, rfl, hc1, hg1⟩
  rcases (show x = 0 ∨ x = 1 ∨ x = 2 by omega) with rfl | rfl | rfl
  · go_wp2_with fail
    refine (top_sl3Topic g ao n cap l _ hc1 hn).mono ?_
    rintro e w2 ⟨s, hz, rfl, hc2, hg2⟩
    go_wp2
    go_ret
    exact ⟨s, hz, rfl, hc2, grownBy_trans hg1 hg2⟩
  · go_wp2_with fail
    refine (fil_sl3Filter g ao n cap l _ hc1 hn).mono ?_
    rintro e w2 ⟨s, hz, rfl, hc2, hg2⟩
    go_wp2
    go_ret
    exact ⟨s, hz, rfl, hc2, grownBy_trans hg1 hg2⟩
  · have hlt := hc1.lt
    go_wp2_with fail
    refine (str_sl1Str g ao n cap l w1.heap.size 16 16 others _ (hc1.alloc _) hn (by omega) (by omega) rfl (fun i hi => strs_cells w1 others 9 i hi) (by omega)).mono ?_
    rintro e w2 ⟨s, hs, rfl, hc2, hg2⟩
    have hz := others_size s hs
    clear hs
    go_wp2
    go_ret
    exact ⟨s, hz, rfl, hc2, grownBy_trans hg1 (grownBy_trans (World.grownBy_alloc _ _ _) hg2)⟩

theorem lvl_sum : ∀ l : List UInt8, ((lvl l).map List.length).sum ≤ l.length
  | [] => Nat.le_refl _
  | c :: r => by
    have ih := lvl_sum r
    by_cases h : c = 47
    · subst h
      rw [lvl_stroke, List.map_cons, List.sum_cons, List.length_nil, List.length_cons]
      omega
    · rw [lvl_other h]
      cases hl : lvl r with
      | nil => exact absurd hl (lvl_ne r)
      | cons a t =>
        rw [hl, List.map_cons, List.sum_cons] at ih
        simp only [pre, List.map_cons, List.sum_cons, List.length_append, List.length_cons, List.length_nil]
        omega
theorem tot_lvs (l : List UInt8) : tot (lvs l) ≤ l.length := by
  have e : tot (lvs l) = ((lvl l).map List.length).sum := by
    unfold tot lvs
    rw [List.map_map]
    rfl
  rw [e]
  exact lvl_sum l
theorem glue_lvs (s : ByteArray) : (⟨(glue (dats (lvs s.data.toList))).toArray⟩ : ByteArray) = s := by
  rw [dats_lvs, glue_lvl]

end Go.Proofs.YtccjiicjlifmiaaGreatDoor
