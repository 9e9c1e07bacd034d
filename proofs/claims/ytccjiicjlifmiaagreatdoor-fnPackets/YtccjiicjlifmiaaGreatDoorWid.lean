/- TypeName of both sides. WithId of both sides. -/
import Derived.Test.YtccjiicjlifmiaaGreatDoorByts
import Derived.Handy
import Derived.Test.YtccjiicjlifmiaaGreatDoorSOk5
import Derived.Deep.Cut
set_option linter.unusedVariables false
set_option linter.unusedSimpArgs false
namespace Go.Proofs.YtccjiicjlifmiaaGreatDoor
open Go.RowKit

/-- The kinds' names. -/
def names : List ByteArray := [⟨#[99, 111, 110, 110, 101, 99, 116]⟩, ⟨#[99, 111, 110, 110, 97, 99, 107]⟩, ⟨#[112, 117, 98, 108, 105, 115, 104]⟩, ⟨#[112, 117, 98, 97, 99, 107]⟩, ⟨#[112, 117, 98, 114, 101, 99]⟩, ⟨#[112, 117, 98, 114, 101, 108]⟩, ⟨#[112, 117, 98, 99, 111, 109, 112]⟩, ⟨#[115, 117, 98, 115, 99, 114, 105, 98, 101]⟩, ⟨#[115, 117, 98, 97, 99, 107]⟩, ⟨#[117, 110, 115, 117, 98, 115, 99, 114, 105, 98, 101]⟩, ⟨#[117, 110, 115, 117, 98, 97, 99, 107]⟩, ⟨#[112, 105, 110, 103, 114, 101, 113]⟩, ⟨#[112, 105, 110, 103, 114, 101, 115, 112]⟩, ⟨#[100, 105, 115, 99, 111, 110, 110, 101, 99, 116]⟩]
/-- A kind's name (nothing of others). -/
def nameOf (n : Int) : ByteArray := if 1 ≤ n ∧ n ≤ 14 then names.getD (n - 1).toNat ByteArray.empty else ByteArray.empty
theorem nameOf_no {n : Int} (h : ¬ (1 ≤ n ∧ n ≤ 14)) : nameOf n = ByteArray.empty := if_neg h
theorem kinds14 {n : Int} (h : 1 ≤ n ∧ n ≤ 14) : n = 1 ∨ n = 2 ∨ n = 3 ∨ n = 4 ∨ n = 5 ∨ n = 6 ∨ n = 7 ∨ n = 8 ∨ n = 9 ∨ n = 10 ∨ n = 11 ∨ n = 12 ∨ n = 13 ∨ n = 14 := by omega
/-- The program's table lies in memory. -/
def Named (w : World) : Prop := ∀ i, i < 14 → w.cell? ⟨0, i, none⟩ = some (.string (names.getD i ByteArray.empty))
theorem Named.below {w w' : World} {B : Nat} (h : Named w) (hb : Below B w w') (hB : 0 < B) : Named w' := fun i hi => (hb.cell (p := ⟨0, i, none⟩) hB).trans (h i hi)
set_option maxHeartbeats 1000000 in
/-- impl.TypeName. -/
theorem name_iTypeName (n : Int) (w : World) (hN : Named w) :
    Calls Tryz.prog 22 #[.int .i64 n] w fun e w' => e = .returned (.string (nameOf n)) ∧ w' = w := by
  by_cases h : 1 ≤ n ∧ n ≤ 14
  · rcases kinds14 h with rfl | rfl | rfl | rfl | rfl | rfl | rfl | rfl | rfl | rfl | rfl | rfl | rfl | rfl
    · have hc : w.cell? ⟨0, 0, none⟩ = some (.string ⟨#[99, 111, 110, 110, 101, 99, 116]⟩) := hN 0 (by decide)
      clear hN h
      go_enter Tryz.func22, Tryz.ntmps22
      go_wp2
      go_ret
      exact ⟨rfl, rfl⟩
    · have hc : w.cell? ⟨0, 1, none⟩ = some (.string ⟨#[99, 111, 110, 110, 97, 99, 107]⟩) := hN 1 (by decide)
      clear hN h
      go_enter Tryz.func22, Tryz.ntmps22
      go_wp2
      go_ret
      exact ⟨rfl, rfl⟩
    · have hc : w.cell? ⟨0, 2, none⟩ = some (.string ⟨#[112, 117, 98, 108, 105, 115, 104]⟩) := hN 2 (by decide)
      clear hN h
      go_enter Tryz.func22, Tryz.ntmps22
      go_wp2
      go_ret
      exact ⟨rfl, rfl⟩
    · have hc : w.cell? ⟨0, 3, none⟩ = some (.string ⟨#[112, 117, 98, 97, 99, 107]⟩) := hN 3 (by decide)
      clear hN h
      go_enter Tryz.func22, Tryz.ntmps22
      go_wp2
      go_ret
      exact ⟨rfl, rfl⟩
    · have hc : w.cell? ⟨0, 4, none⟩ = some (.string ⟨#[112, 117, 98, 114, 101, 99]⟩) := hN 4 (by decide)
      clear hN h
      go_enter Tryz.func22, Tryz.ntmps22
      go_wp2
      go_ret
      exact ⟨rfl, rfl⟩
    · have hc : w.cell? ⟨0, 5, none⟩ = some (.string ⟨#[112, 117, 98, 114, 101, 108]⟩) := hN 5 (by decide)
      clear hN h
      go_enter Tryz.func22, Tryz.ntmps22
      go_wp2
      go_ret
      exact ⟨rfl, rfl⟩
    · have hc : w.cell? ⟨0, 6, none⟩ = some (.string ⟨#[112, 117, 98, 99, 111, 109, 112]⟩) := hN 6 (by decide)
      clear hN h
      go_enter Tryz.func22, Tryz.ntmps22
      go_wp2
      go_ret
      exact ⟨rfl, rfl⟩
    · have hc : w.cell? ⟨0, 7, none⟩ = some (.string ⟨#[115, 117, 98, 115, 99, 114, 105, 98, 101]⟩) := hN 7 (by decide)
      clear hN h
      go_enter Tryz.func22, Tryz.ntmps22
      go_wp2
      go_ret
      exact ⟨rfl, rfl⟩
    · have hc : w.cell? ⟨0, 8, none⟩ = some (.string ⟨#[115, 117, 98, 97, 99, 107]⟩) := hN 8 (by decide)
      clear hN h
      go_enter Tryz.func22, Tryz.ntmps22
      go_wp2
      go_ret
      exact ⟨rfl, rfl⟩
    · have hc : w.cell? ⟨0, 9, none⟩ = some (.string ⟨#[117, 110, 115, 117, 98, 115, 99, 114, 105, 98, 101]⟩) := hN 9 (by decide)
      clear hN h
      go_enter Tryz.func22, Tryz.ntmps22
      go_wp2
      go_ret
      exact ⟨rfl, rfl⟩
    · have hc : w.cell? ⟨0, 10, none⟩ = some (.string ⟨#[117, 110, 115, 117, 98, 97, 99, 107]⟩) := hN 10 (by decide)
      clear hN h
      go_enter Tryz.func22, Tryz.ntmps22
      go_wp2
      go_ret
      exact ⟨rfl, rfl⟩
    · have hc : w.cell? ⟨0, 11, none⟩ = some (.string ⟨#[112, 105, 110, 103, 114, 101, 113]⟩) := hN 11 (by decide)
      clear hN h
      go_enter Tryz.func22, Tryz.ntmps22
      go_wp2
      go_ret
      exact ⟨rfl, rfl⟩
    · have hc : w.cell? ⟨0, 12, none⟩ = some (.string ⟨#[112, 105, 110, 103, 114, 101, 115, 112]⟩) := hN 12 (by decide)
      clear hN h
      go_enter Tryz.func22, Tryz.ntmps22
      go_wp2
      go_ret
      exact ⟨rfl, rfl⟩
    · have hc : w.cell? ⟨0, 13, none⟩ = some (.string ⟨#[100, 105, 115, 99, 111, 110, 110, 101, 99, 116]⟩) := hN 13 (by decide)
      clear hN h
      go_enter Tryz.func22, Tryz.ntmps22
      go_wp2
      go_ret
      exact ⟨rfl, rfl⟩
  · rw [nameOf_no h]
    clear hN
    by_cases h1 : n < 1
    · clear h
      go_enter Tryz.func22, Tryz.ntmps22
      go_wp2
      go_ret
      exact ⟨rfl, rfl⟩
    · have h2 : 14 < n := by omega
      clear h
      go_enter Tryz.func22, Tryz.ntmps22
      go_wp2
      go_ret
      exact ⟨rfl, rfl⟩
end Go.Proofs.YtccjiicjlifmiaaGreatDoor
set_option linter.unusedVariables false
set_option linter.unusedSimpArgs false
namespace Go.Proofs.YtccjiicjlifmiaaGreatDoor
open Go.RowKit

/-- A packet of a kind and an Id. -/
def wid (n id : Int) : Pk := ⟨n, false, 0, false, id, ByteArray.empty, ⟨none, 0, 0⟩, ByteArray.empty, 0, false, 0, false, ByteArray.empty, ⟨none, 0, 0⟩, 0, false, false, ByteArray.empty, false, ⟨none, 0, 0⟩, 0, false, ⟨none, 0, 0⟩, ⟨none, 0, 0⟩, ⟨none, 0, 0⟩⟩
def d0 : Pd := ⟨[], [], [], [], [], []⟩
/-- The kinds that name nothing but an Id. -/
def idK (n : Int) : Bool := decide (4 ≤ n ∧ n ≤ 7) || decide (n = 11)
/-- What is handed back. -/
def widR (n id : Int) : Pk := if idK n && inB id 1 65535 then wid n id else Pk.zero
theorem wid_rd (n id : Int) (u : World) : PRd u (wid n id) d0 := PRd0 u
theorem wid_sz (n id : Int) : Psz (wid n id) d0 := ⟨Nat.zero_le _, Nat.zero_le _, Nat.zero_le _, Nat.zero_le _, fun x hx => (by cases hx), fun s hs => (by cases hs)⟩
theorem wid_ok {n : Int} (id : Int) (h : idK n = true) : (pv (wid n id) d0).ok = inB id 1 65535 := by
  have hk : n = 4 ∨ n = 5 ∨ n = 6 ∨ n = 7 ∨ n = 11 := by simp [idK] at h; omega
  rw [ok_eq (v := pv (wid n id) d0) (n := (pv (wid n id) d0).named) rfl (show 1 ≤ n ∧ n ≤ 14 by omega) ((show pv (wid n id) d0 = _ from rfl).trans (namedI (pv (wid n id) d0) n rfl hk).symm)]
  rcases hk with rfl | rfl | rfl | rfl | rfl <;> rfl
set_option maxRecDepth 100000 in
set_option maxHeartbeats 2000000 in
theorem wid_core (n id : Int) (w : World) (k : Value) (b : Bool) (hk : ∀ u : World, Calls Tryz.prog 63 #[.agg (wid n id).cells] u fun e u' => e = .returned k ∧ Below u.heap.size u u')
    (ha : ∀ u : World, Calls Tryz.prog 80 #[k] u fun e u' => e = .returned (.bool b) ∧ u' = u) (hb0 : idK n = b) :
    Calls Tryz.prog 21 #[.int .i64 n, .int .i64 id] w fun e w' => e = .returned (.agg (widR n id).cells) ∧ Below w.heap.size w w' := by
  have A : Blk ((w.alloc (.cells Pk.zero.cells 28)).alloc (.cells (wid n id).cells 28)) w.heap.size Pk.zero := heap_alloc2_old _ _ _
  have D : Blk ((w.alloc (.cells Pk.zero.cells 28)).alloc (.cells (wid n id).cells 28)) (w.heap.size + 1) (wid n id) := heap_alloc2_new _ _ _
  have hb : Below w.heap.size w ((w.alloc (.cells Pk.zero.cells 28)).alloc (.cells (wid n id).cells 28)) := ((Below.refl _ _).alloc (Nat.le_refl _) _).alloc (by simp) _
  go_enter Tryz.func21, Tryz.ntmps21
  go_upto_region 2 with (first | refine var_pk (p := wid n id) rfl rfl ?_ | refine al_pk ?_ | (refine bu_pk (wid n id) (by kernel_rfl) ?_) | fail)
  change Code.wp _ _ _ (Act.mk #[_, _, _, _, _, _, _, _, _, _, _, _, _, _, _, _, _, _, _, _] []) _
  simp only [World.size_alloc]
  go_wp2_with (first | refine load_pk D rfl _ rfl rfl ?_ | fail)
  refine (hk _).mono ?_
  rintro e y ⟨rfl, b1⟩
  replace hb := bel hb b1
  replace A := A.next b1
  replace D := D.next b1
  clear b1
  go_wp2_with fail
  refine (ha _).mono ?_
  rintro e z ⟨rfl, hz⟩
  subst hz
  cases b
  · have hR : widR n id = Pk.zero := by unfold widR; rw [hb0, Bool.false_and]; rfl
    have HR : Hid (widR n id = Pk.zero) := hR
    clear hk ha hR
    go_wp2_with (first | (refine bu_pk Pk.zero (by kernel_rfl) ?_) | refine load_pk D rfl _ rfl rfl ?_ | (refine store_pk (q := Pk.zero) (old := Pk.zero) A rfl rfl ?_; intro w9 B9 b9) | fail)
    exact ret_pk rfl rfl B9 rfl ⟨by first | (rw [HR.out]; done) | (rw [HR.out]; rfl), hb.trans (b9.mono (by omega))⟩
  go_wp2_with (first | refine load_pk D rfl _ rfl rfl ?_ | fail)
  refine (ok_iPacketOk (wid n id) d0 _ (wid_rd _ _ _) (wid_sz _ _)).mono ?_
  rintro e y2 ⟨he, b2⟩
  obtain ⟨S, hS⟩ : ∃ S, inB id 1 65535 = S := ⟨_, rfl⟩
  obtain rfl : e = .returned (.bool S) := he.trans (ret_bool ((wid_ok id hb0).trans hS))
  have HR : Hid (widR n id = if S then wid n id else Pk.zero) := by show widR n id = _; unfold widR; rw [hb0, Bool.true_and, hS]
  replace hb := bel hb b2
  replace A := A.next b2
  replace D := D.next b2
  clear b2 he hS hk ha
  cases S
  · go_wp2_with (first | (refine bu_pk Pk.zero (by kernel_rfl) ?_) | refine load_pk D rfl _ rfl rfl ?_ | (refine store_pk (q := Pk.zero) (old := Pk.zero) A rfl rfl ?_; intro w9 B9 b9) | fail)
    exact ret_pk rfl rfl B9 rfl ⟨by first | (rw [HR.out]; done) | (rw [HR.out]; rfl), hb.trans (b9.mono (by omega))⟩
  go_wp2_with (first | (refine bu_pk Pk.zero (by kernel_rfl) ?_) | refine load_pk D rfl _ rfl rfl ?_ | (refine store_pk (q := wid n id) (old := Pk.zero) A rfl rfl ?_; intro w9 B9 b9) | fail)
  exact ret_pk rfl rfl B9 rfl ⟨by first | (rw [HR.out]; done) | (rw [HR.out]; rfl), hb.trans (b9.mono (by omega))⟩
/-- impl.WithId. -/
theorem wid_iWithId (n id : Int) (w : World) :
    Calls Tryz.prog 21 #[.int .i64 n, .int .i64 id] w fun e w' => e = .returned (.agg (widR n id).cells) ∧ Below w.heap.size w w' := by
  by_cases h : 1 ≤ n ∧ n ≤ 14
  rotate_left
  · exact wid_core n id w .nilIface false (fun u => kind_none (wid n id) u h) (fun u => alone_nil u) (by simp [idK]; omega)
  have h14 : n = 1 ∨ n = 2 ∨ n = 3 ∨ n = 4 ∨ n = 5 ∨ n = 6 ∨ n = 7 ∨ n = 8 ∨ n = 9 ∨ n = 10 ∨ n = 11 ∨ n = 12 ∨ n = 13 ∨ n = 14 := by omega
  rcases h14 with rfl | rfl | rfl | rfl | rfl | rfl | rfl | rfl | rfl | rfl | rfl | rfl | rfl | rfl
  · exact wid_core 1 id w _ false (fun u => kind_connectKind (wid 1 id) u rfl) (fun u => alone_connectKind _ u) (by decide)
  · exact wid_core 2 id w _ false (fun u => kind_connAckKind (wid 2 id) u rfl) (fun u => alone_connAckKind _ u) (by decide)
  · exact wid_core 3 id w _ false (fun u => kind_publishKind (wid 3 id) u rfl) (fun u => alone_publishKind _ u) (by decide)
  · exact wid_core 4 id w _ true (fun u => kind_pubAckKind (wid 4 id) u rfl) (fun u => alone_pubAckKind _ u) (by decide)
  · exact wid_core 5 id w _ true (fun u => kind_pubRecKind (wid 5 id) u rfl) (fun u => alone_pubRecKind _ u) (by decide)
  · exact wid_core 6 id w _ true (fun u => kind_pubRelKind (wid 6 id) u rfl) (fun u => alone_pubRelKind _ u) (by decide)
  · exact wid_core 7 id w _ true (fun u => kind_pubCompKind (wid 7 id) u rfl) (fun u => alone_pubCompKind _ u) (by decide)
  · exact wid_core 8 id w _ false (fun u => kind_subscribeKind (wid 8 id) u rfl) (fun u => alone_subscribeKind _ u) (by decide)
  · exact wid_core 9 id w _ false (fun u => kind_subAckKind (wid 9 id) u rfl) (fun u => alone_subAckKind _ u) (by decide)
  · exact wid_core 10 id w _ false (fun u => kind_unsubscribeKind (wid 10 id) u rfl) (fun u => alone_unsubscribeKind _ u) (by decide)
  · exact wid_core 11 id w _ true (fun u => kind_unsubAckKind (wid 11 id) u rfl) (fun u => alone_unsubAckKind _ u) (by decide)
  · exact wid_core 12 id w _ false (fun u => kind_pingReqKind (wid 12 id) u rfl) (fun u => alone_pingReqKind _ u) (by decide)
  · exact wid_core 13 id w _ false (fun u => kind_pingRespKind (wid 13 id) u rfl) (fun u => alone_pingRespKind _ u) (by decide)
  · exact wid_core 14 id w _ false (fun u => kind_disconnectKind (wid 14 id) u rfl) (fun u => alone_disconnectKind _ u) (by decide)
set_option maxRecDepth 100000 in
set_option maxHeartbeats 2000000 in
/-- spec.WithId. -/
theorem wid_sWithId (n id : Int) (w : World) :
    Calls Tryz.prog 23 #[.int .i64 n, .int .i64 id] w fun e w' => e = .returned (.agg (widR n id).cells) ∧ Below w.heap.size w w' := by
  have A : Blk ((w.alloc (.cells Pk.zero.cells 28)).alloc (.cells (wid n id).cells 28)) w.heap.size Pk.zero := heap_alloc2_old _ _ _
  have D : Blk ((w.alloc (.cells Pk.zero.cells 28)).alloc (.cells (wid n id).cells 28)) (w.heap.size + 1) (wid n id) := heap_alloc2_new _ _ _
  have hb : Below w.heap.size w ((w.alloc (.cells Pk.zero.cells 28)).alloc (.cells (wid n id).cells 28)) := ((Below.refl _ _).alloc (Nat.le_refl _) _).alloc (by simp) _
  go_enter Tryz.func23, Tryz.ntmps23
  go_upto_region 2 with (first | refine var_pk (p := wid n id) rfl rfl ?_ | refine al_pk ?_ | (refine bu_pk (wid n id) (by kernel_rfl) ?_) | fail)
  change Code.wp _ _ _ (Act.mk #[_, _, _, _, _, _, _, _, _, _, _, _, _, _, _, _, _, _, _, _, _, _, _] []) _
  simp only [World.size_alloc]
  go_wp2_with fail
  refine (in_sl1Inb n 4 7 (decide (4 ≤ n ∧ n ≤ 7)) _ rfl).mono ?_
  rintro e z ⟨rfl, hz⟩
  have A' := A
  have D' := D
  have hb' := hb
  rw [← hz] at A D hb
  clear hz A' D' hb'
  cases h47 : decide (4 ≤ n ∧ n ≤ 7)
  · by_cases h11 : n = 11
    · have hi : idK n = true := by simp [idK, h11]
      have q11 : (n != 11) = false := by simpa using h11
      clear h47 h11
      go_wp2_with (first | refine load_pk D rfl _ rfl rfl ?_ | fail)
      refine (ok_sPacketOk (wid n id) d0 _ (wid_rd _ _ _) (wid_sz _ _)).mono ?_
      rintro e y2 ⟨he, b2⟩
      obtain ⟨S, hS⟩ : ∃ S, inB id 1 65535 = S := ⟨_, rfl⟩
      obtain rfl : e = .returned (.bool S) := he.trans (ret_bool ((wid_ok id hi).trans hS))
      have HR : Hid (widR n id = if S then wid n id else Pk.zero) := by show widR n id = _; unfold widR; rw [hi, Bool.true_and, hS]
      replace hb := bel hb b2
      replace A := A.next b2
      replace D := D.next b2
      clear b2 he hS
      cases S
      · go_wp2_with (first | (refine bu_pk Pk.zero (by kernel_rfl) ?_) | refine load_pk D rfl _ rfl rfl ?_ | (refine store_pk (q := Pk.zero) (old := Pk.zero) A rfl rfl ?_; intro w9 B9 b9) | fail)
        exact ret_pk rfl rfl B9 rfl ⟨by first | (rw [HR.out]; done) | (rw [HR.out]; rfl), hb.trans (b9.mono (by omega))⟩
      go_wp2_with (first | (refine bu_pk Pk.zero (by kernel_rfl) ?_) | refine load_pk D rfl _ rfl rfl ?_ | (refine store_pk (q := wid n id) (old := Pk.zero) A rfl rfl ?_; intro w9 B9 b9) | fail)
      exact ret_pk rfl rfl B9 rfl ⟨by first | (rw [HR.out]; done) | (rw [HR.out]; rfl), hb.trans (b9.mono (by omega))⟩
    · have hi : idK n = false := by simp [idK, h47, h11]
      have q11 : (n != 11) = true := by simpa using h11
      have HR : Hid (widR n id = Pk.zero) := by show widR n id = Pk.zero; unfold widR; rw [hi, Bool.false_and]; rfl
      clear h47 h11 hi
      go_wp2_with (first | (refine bu_pk Pk.zero (by kernel_rfl) ?_) | refine load_pk D rfl _ rfl rfl ?_ | (refine store_pk (q := Pk.zero) (old := Pk.zero) A rfl rfl ?_; intro w9 B9 b9) | fail)
      exact ret_pk rfl rfl B9 rfl ⟨by first | (rw [HR.out]; done) | (rw [HR.out]; rfl), hb.trans (b9.mono (by omega))⟩
  · have hi : idK n = true := by simp [idK, h47]
    clear h47
    go_wp2_with (first | refine load_pk D rfl _ rfl rfl ?_ | fail)
    refine (ok_sPacketOk (wid n id) d0 _ (wid_rd _ _ _) (wid_sz _ _)).mono ?_
    rintro e y2 ⟨he, b2⟩
    obtain ⟨S, hS⟩ : ∃ S, inB id 1 65535 = S := ⟨_, rfl⟩
    obtain rfl : e = .returned (.bool S) := he.trans (ret_bool ((wid_ok id hi).trans hS))
    have HR : Hid (widR n id = if S then wid n id else Pk.zero) := by show widR n id = _; unfold widR; rw [hi, Bool.true_and, hS]
    replace hb := bel hb b2
    replace A := A.next b2
    replace D := D.next b2
    clear b2 he hS
    cases S
    · go_wp2_with (first | (refine bu_pk Pk.zero (by kernel_rfl) ?_) | refine load_pk D rfl _ rfl rfl ?_ | (refine store_pk (q := Pk.zero) (old := Pk.zero) A rfl rfl ?_; intro w9 B9 b9) | fail)
      exact ret_pk rfl rfl B9 rfl ⟨by first | (rw [HR.out]; done) | (rw [HR.out]; rfl), hb.trans (b9.mono (by omega))⟩
    go_wp2_with (first | (refine bu_pk Pk.zero (by kernel_rfl) ?_) | refine load_pk D rfl _ rfl rfl ?_ | (refine store_pk (q := wid n id) (old := Pk.zero) A rfl rfl ?_; intro w9 B9 b9) | fail)
    exact ret_pk rfl rfl B9 rfl ⟨by first | (rw [HR.out]; done) | (rw [HR.out]; rfl), hb.trans (b9.mono (by omega))⟩
end Go.Proofs.YtccjiicjlifmiaaGreatDoor
