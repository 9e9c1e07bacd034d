/- The laws' marks on lists of strings. -/
import Derived.Test.YtccjiicjlifmiaaGreatDoorLevs
import Derived.Test.YtccjiicjlifmiaaGreatDoorMem
set_option linter.unusedVariables false
set_option linter.unusedSimpArgs false
namespace Go.Proofs.YtccjiicjlifmiaaGreatDoor
open Go.RowKit

/-- A mark's letters: 'm' and the digits. -/
def mtF : Nat → Nat → List UInt8 → List UInt8
  | 0, _, acc => 109 :: acc
  | f + 1, k, acc => if k = 0 then 109 :: acc else mtF f (k / 10) (UInt8.ofNat (48 + k % 10) :: acc)
def mtx (k : Nat) : ByteArray := ⟨(mtF k k []).toArray⟩
theorem mtF_zero (f : Nat) (acc : List UInt8) : mtF f 0 acc = 109 :: acc := by cases f <;> simp [mtF]
theorem mtF_step (f k : Nat) (acc : List UInt8) (h : 0 < k) : mtF (f + 1) k acc = mtF f (k / 10) (UInt8.ofNat (48 + k % 10) :: acc) := by
  rw [mtF, if_neg (by omega)]

theorem one_rd (w : World) (x : UInt8) : RdIn (w.alloc (.cells #[.int .u8 (x.toNat : Int)] 5)) (some ⟨w.heap.size, 0, none⟩) 1 1 [x] := by
  refine ⟨⟨rfl, fun i hi => ⟨w.heap.size, 0, rfl, ?_⟩⟩, Nat.le_refl _, by unfold maxLen; omega, fun h => by simp at h⟩
  obtain rfl : i = 0 := by omega
  rw [new_cell]
  rfl

set_option maxHeartbeats 1000000 in
/-- laws.markText. -/
theorem mark_lmarkText (k0 : Nat) (w : World) (h0 : 0 < k0) (hk0 : k0 ≤ 1099511627776) :
    Calls Tryz.prog 106 #[.int .i64 k0] w fun e w' => e = .returned (.string (mtx k0)) ∧ Below w.heap.size w w' := by
  have h0' : ¬ (k0 : Int) ≤ 0 := by omega
  go_enter Tryz.func106, Tryz.ntmps106
  go_wp2
  go_loopw [0, 3] (fun q o wr => ∃ (k f : Nat) (s : ByteArray), q = .int .i64 k ∧ o = .string s ∧ k ≤ f ∧ s.size + k ≤ k0 ∧ mtF f k s.data.toList = mtF k0 k0 [] ∧ Below w.heap.size w wr) (fun q _ _ => (intOf q).toNat)
  case atStart => exact ⟨k0, k0, _, rfl, rfl, Nat.le_refl _, Nat.le_of_eq (Nat.zero_add _), rfl, Below.refl _ _⟩
  case round =>
    obtain ⟨k, f, s, rfl, rfl, hf, hz, hm, hb⟩ := hrel
    have HM : Hid (mtF f k s.data.toList = mtF k0 k0 []) := hm
    clear hm
    by_cases hk : 0 < k
    · have hk' : (0 : Int) < k := by omega
      obtain ⟨x, hx⟩ : ∃ x, UInt8.ofNat (48 + k % 10) = x := ⟨_, rfl⟩
      have hxn : (x.toNat : Int) = 48 + (k : Int) % 10 := by rw [← hx]; simp; omega
      have hcv := conv_rd (one_rd wr x)
      rw [hxn] at hcv
      obtain ⟨d, hd⟩ : ∃ d : ByteArray, (⟨[x].toArray⟩ : ByteArray) = d := ⟨_, rfl⟩
      rw [hd] at hcv
      have hds : d.size = 1 := by rw [← hd]; rfl
      have HD : Hid (d.data.toList = [UInt8.ofNat (48 + k % 10)]) := by unfold Hid; rw [← hd, hx]
      have hq : ¬ 9223372036854775807 < d.size + s.size := by omega
      clear hx hxn hd
      go_wp2
      go_roundw
      case rel =>
        cases f with
        | zero => omega
        | succ f =>
          refine ⟨k / 10, f, _, by go_num, rfl, by omega, ?_, ?_, hb.alloc hb.size _⟩
          · simp only [ByteArray.size_append]
            omega
          · rw [← HM.out, mtF_step f k _ hk]
            simp [HD.out]
      case measure => simp [intOf] <;> omega
    · have hk' : ¬ (0 : Int) < k := by omega
      obtain rfl : k = 0 := by omega
      have hq : ¬ 9223372036854775807 < 1 + s.size := by omega
      go_wp2
      go_ret
      refine ⟨?_, hb⟩
      have hm := HM.out
      rw [mtF_zero] at hm
      have : (⟨#[109]⟩ ++ s : ByteArray) = mtx k0 := by
        apply ba_eq
        rw [← hm]
        simp
      rw [this]
      rfl

/-- The marks from k on. -/
def mks (k n : Nat) : List ByteArray := (List.range n).map fun i => mtx (k + i)
theorem mks_length (k n : Nat) : (mks k n).length = n := by simp [mks]
theorem mks_at (k n i : Nat) (h : i < n) : st (mks k n) i = mtx (k + i) := by
  simp [st, mks, List.getD_eq_getElem?_getD, h]
theorem mks_set (l : List ByteArray) (k n j : Nat) (hl : l.length = n) (hj : j < n) : (mks k j ++ l.drop j).set j (mtx (k + j)) = mks k (j + 1) ++ l.drop (j + 1) := by
  rw [List.set_append_right _ _ (by rw [mks_length]; exact Nat.le_refl _), mks_length, Nat.sub_self]
  rw [List.drop_eq_getElem_cons (by omega), List.set_cons_zero]
  simp only [mks, List.range_succ, List.map_append, List.map_cons, List.map_nil, List.append_assoc]
  rfl

theorem grown_of_below {w w1 w2 : World} {row : Option Nat} (h : w.grownBy w1 row) (hb : Below w1.heap.size w1 w2) : w.grownBy w2 row :=
  ⟨hb.os.trans h.os, hb.tape.trans h.tape, hb.output.trans h.output, Nat.le_trans h.size hb.size, fun k hk hne => (hb.block k (Nat.lt_of_lt_of_le hk h.size)).trans (h.block k hk hne)⟩
theorem grown_at {w w1 : World} {g : Nat} (h : w.grownBy w1 (some g)) (j : Nat) (u : Value) : w.grownBy (w1.setCell ⟨g, j, none⟩ u) (some g) :=
  ⟨h.os, h.tape, h.output, by simpa [World.setCell] using h.size, fun q hq hne => (Below.heap_setCell _ _ _ q (fun e => hne (by rw [e]))).trans (h.block q hq hne)⟩

set_option maxHeartbeats 1000000 in
/-- laws.markStringS: nothing else turns. -/
theorem mark_lmarkStringSg (B : Nat) (ao : Option Addr) (n cap k : Nat) (l : List ByteArray) (w : World) (ho : SOwn w B ao n cap l) (hn : n ≤ 1048577) (hk0 : 0 < k) (hk : k ≤ 1048577) :
    Calls Tryz.prog 100 #[.slice ao n cap, .int .i64 k] w fun e w' => e = .returned (.int .i64 ((k + n : Nat) : Int)) ∧ SOwn w' B ao n cap (mks k n) ∧ w.grownBy w' (Value.slice ao n cap).ownBlock := by
  have HL : Hid (l.length = n) := ho.1
  go_enter Tryz.func100, Tryz.ntmps100
  go_wp2
  go_loopw [1, 5] (fun q i wr => ∃ j : Nat, i = .int .i64 j ∧ q = .int .i64 ((k + j : Nat) : Int) ∧ j ≤ n ∧ SOwn wr B ao n cap (mks k j ++ l.drop j) ∧ w.grownBy wr (Value.slice ao n cap).ownBlock) (fun _ i _ => n - (intOf i).toNat)
  case atStart => exact ⟨0, rfl, rfl, Nat.zero_le _, by simpa [mks] using ho, World.grownBy.refl _ _⟩
  case round =>
    obtain ⟨j, rfl, rfl, hj, hoj, hb⟩ := hrel
    by_cases hlt : j < n
    · obtain ⟨g, e⟩ := ho.head (by omega)
      subst e
      have hgB := (ho.block rfl).1
      have hlt' : (j : Int) < n := by omega
      clear ho
      go_wp2_with fail
      refine (mark_lmarkText (k + j) wr (by omega) (by omega)).mono ?_
      rintro e w1 ⟨rfl, hb1⟩
      have ho1 := hoj.below hb1
      have hb2 : w.grownBy w1 (some g) := grown_of_below hb hb1
      clear hoj hb hb1
      have hz := ho1.cell j hlt
      have hf := ho1.frozen j
      have HO := ho1.store j (mtx (k + j))
      rw [mks_set l k n j HL.out hlt] at HO
      have HO' : Hid (SOwn (w1.setCell ⟨g, j, none⟩ (.string (mtx (k + j)))) B (some ⟨g, 0, none⟩) n cap (mks k (j + 1) ++ l.drop (j + 1))) := HO
      have HB : Hid (w.grownBy (w1.setCell ⟨g, j, none⟩ (.string (mtx (k + j)))) (some g)) := grown_at hb2 j _
      clear HO ho1 hb2
      go_wp2
      go_roundw
      case rel => exact ⟨j + 1, by go_num, by go_num, by omega, HO'.out, HB.out⟩
      case measure => simp [intOf] <;> omega
    · have hlt' : ¬ (j : Int) < n := by omega
      obtain rfl : j = n := by omega
      go_wp2
      go_ret
      refine ⟨by simp, ?_, hb⟩
      have := HL.out
      rw [List.drop_of_length_le (by omega), List.append_nil] at hoj
      exact hoj

/-- laws.markStringS: what lies below stays. -/
theorem mark_lmarkStringS (B : Nat) (ao : Option Addr) (n cap k : Nat) (l : List ByteArray) (w : World) (ho : SOwn w B ao n cap l) (hB : B ≤ w.heap.size) (hn : n ≤ 1048577) (hk0 : 0 < k) (hk : k ≤ 1048577) :
    Calls Tryz.prog 100 #[.slice ao n cap, .int .i64 k] w fun e w' => e = .returned (.int .i64 ((k + n : Nat) : Int)) ∧ SOwn w' B ao n cap (mks k n) ∧ Below B w w' :=
  (mark_lmarkStringSg B ao n cap k l w ho hn hk0 hk).mono fun e w' ⟨h1, h2, h3⟩ => ⟨h1, h2, sbelow_grow (Below.refl _ _) hB ho h3⟩

set_option maxHeartbeats 1000000 in
/-- laws.heldStringS, of the marks themselves. -/
theorem held_lheldStringS (ao : Option Addr) (n cap k : Nat) (w : World) (hr : SRd w ao n cap (mks k n)) (hn : n ≤ 1048577) (hk0 : 0 < k) (hk : k ≤ 1048577) :
    Calls Tryz.prog 104 #[.slice ao n cap, .int .i64 k] w fun e w' => e = .returned (.int .i64 ((k + n : Nat) : Int)) ∧ Below w.heap.size w w' := by
  go_enter Tryz.func104, Tryz.ntmps104
  go_wp2
  go_loopw [1, 5] (fun q i wr => ∃ j : Nat, i = .int .i64 j ∧ q = .int .i64 ((k + j : Nat) : Int) ∧ j ≤ n ∧ Below w.heap.size w wr) (fun _ i _ => n - (intOf i).toNat)
  case atStart => exact ⟨0, rfl, rfl, Nat.zero_le _, Below.refl _ _⟩
  case round =>
    obtain ⟨j, rfl, rfl, hj, hb⟩ := hrel
    by_cases hlt : j < n
    · obtain ⟨b, off, e, hc⟩ := hr.1.2 j hlt
      subst e
      rw [mks_at k n j hlt] at hc
      have hck : wr.cell? ⟨b, off + j, none⟩ = some (.string (mtx (k + j))) := (hb.cell (World.block_lt_of_cell? w _ hc)).trans hc
      have hlt' : (j : Int) < n := by omega
      have hbn := str_ne_self (mtx (k + j))
      clear hc hr
      go_wp2
      go_region_with (go_at_call 106; refine (mark_lmarkText (k + j) _ (by omega) (by omega)).mono ?_; rintro e w1 ⟨rfl, hb1⟩; have hck1 := (hb1.cell (World.block_lt_of_cell? _ _ hck)).trans hck)
      all_goals
        go_wp2
        go_roundw
        case rel => exact ⟨j + 1, by go_num, by go_num, by omega, (below_drewN hb 1).trans (hb1.mono hb.size)⟩
        case measure => simp [intOf] <;> omega
    · have hlt' : ¬ (j : Int) < n := by omega
      obtain rfl : j = n := by omega
      go_wp2
      go_ret
      exact ⟨by simp, hb⟩

end Go.Proofs.YtccjiicjlifmiaaGreatDoor
