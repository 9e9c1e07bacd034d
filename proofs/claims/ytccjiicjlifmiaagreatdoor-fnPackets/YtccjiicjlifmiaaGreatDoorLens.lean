/- Lengths of one to four bytes: the plain functions on lists of bytes, and the contracts of both sides over them. -/
import Derived.Test.YtccjiicjlifmiaaGreatDoorMem
set_option linter.unusedVariables false
set_option linter.unusedSimpArgs false
namespace Go.Proofs.YtccjiicjlifmiaaGreatDoor
open Go.RowKit

/-- A byte behind which another comes. -/
def moreB (n : Nat) : UInt8 := UInt8.ofNat (n % 128 + 128)
theorem moreB_nat (n : Nat) : (moreB n).toNat = n % 128 + 128 := by
  simp [moreB]
  omega
/-- A number's bytes, at most f behind the first. -/
def lenF : Nat → Nat → List UInt8
  | 0, n => [UInt8.ofNat n]
  | f + 1, n => if n < 128 then [UInt8.ofNat n] else moreB n :: lenF f (n / 128)

/-- What PutLen adds. -/
def lenB (n : Int) : List UInt8 := if 0 ≤ n ∧ n ≤ 268435455 then lenF 3 n.toNat else []

theorem lenF_small (f n : Nat) (h : n < 128) : lenF f n = [UInt8.ofNat n] := by
  cases f with
  | zero => rfl
  | succ f => simp [lenF, h]
theorem lenF_more (f n : Nat) (h : ¬ n < 128) : lenF (f + 1) n = moreB n :: lenF f (n / 128) := by simp [lenF, h]
theorem lenF_len (f n : Nat) : 1 ≤ (lenF f n).length ∧ (lenF f n).length ≤ f + 1 := by
  induction f generalizing n with
  | zero => simp [lenF]
  | succ f ih =>
    by_cases h : n < 128
    · rw [lenF_small _ _ h]; simp
    · rw [lenF_more _ _ h]
      have := ih (n / 128)
      simp
      omega
theorem lenB_no {n : Int} (h : n < 0 ∨ 268435455 < n) : lenB n = [] := by
  unfold lenB
  rw [if_neg (by omega)]
theorem lenB_nat {k : Nat} (h : k ≤ 268435455) : lenB (k : Int) = lenF 3 k := by
  unfold lenB
  rw [if_pos (by omega)]
  simp
theorem lenB_le (n : Int) : (lenB n).length ≤ 4 := by
  unfold lenB
  split
  · exact (lenF_len 3 _).2
  · simp

theorem or128 (x : Nat) : bits .or .u8 ((x : Int) % 256) 128 = ((x % 128 + 128 : Nat) : Int) := by
  have h : ∀ y : Fin 256, bits .or .u8 (y.val : Int) 128 = ((y.val % 128 + 128 : Nat) : Int) := by decide +kernel
  have := h ⟨x % 256, Nat.mod_lt _ (by omega)⟩
  simp only at this
  rw [show ((x % 256 : Nat) : Int) = (x : Int) % 256 from by omega] at this
  rw [this]
  omega
theorem not128 (x : Nat) (hx : x < 256) : bits .andNot .u8 (x : Int) 128 = ((x % 128 : Nat) : Int) := by
  have h : ∀ y : Fin 256, bits .andNot .u8 (y.val : Int) 128 = ((y.val % 128 : Nat) : Int) := by decide +kernel
  exact h ⟨x, hx⟩
theorem and128 (x : Nat) (hx : x < 256) : bits .and .u8 (x : Int) 128 = if x < 128 then 0 else 128 := by
  have h : ∀ y : Fin 256, bits .and .u8 (y.val : Int) 128 = if y.val < 128 then 0 else 128 := by decide +kernel
  exact h ⟨x, hx⟩
theorem and127 (x : Nat) (hx : x < 256) : bits .and .i64 (x : Int) 127 = ((x % 128 : Nat) : Int) := by
  have h : ∀ y : Fin 256, bits .and .i64 (y.val : Int) 127 = ((y.val % 128 : Nat) : Int) := by decide +kernel
  exact h ⟨x, hx⟩

/-- One byte in a row of its own. -/
theorem rd_byte (w : World) (k : Nat) (V : Int) (hV : V = ((k % 256 : Nat) : Int)) : RdIn (w.alloc (.cells #[.int .u8 V] 5)) (some ⟨w.heap.size, 0, none⟩) 1 1 [UInt8.ofNat k] := by
  subst hV
  refine ⟨⟨rfl, fun i hi => ⟨_, _, rfl, ?_⟩⟩, Nat.le_refl _, by unfold maxLen; omega, fun h => by simp at h⟩
  obtain rfl : i = 0 := by omega
  have e : ((bt [UInt8.ofNat k] 0 : Nat) : Int) = ((k % 256 : Nat) : Int) := by
    show (((UInt8.ofNat k).toNat : Nat) : Int) = _
    simp
  rw [e]
  simp

theorem rd_more (w : World) (k : Nat) (V : Int) (hV : V = ((k % 128 + 128 : Nat) : Int)) : RdIn (w.alloc (.cells #[.int .u8 V] 5)) (some ⟨w.heap.size, 0, none⟩) 1 1 [moreB k] :=
  rd_byte w (k % 128 + 128) V (by omega)

theorem own_nil (w : World) (B : Nat) : Own w B none 0 0 [] := ⟨rfl, rfl, .inl ⟨rfl, rfl⟩⟩

theorem below_next' {w w1 w2 : World} (h1 : Below w.heap.size w w1) (h2 : Below w1.heap.size w1 w2) : Below w.heap.size w w2 := below_next h1 h2

set_option maxHeartbeats 400000 in
/-- impl.lenBytes -/
theorem len_ilenBytes (N : Nat) (x : Int) (w : World) (hN : (lenB x).length = N) :
    Calls Tryz.prog 115 #[.int .i64 x] w fun e w' => ∃ ao cap, e = .returned (.slice ao N cap) ∧ Own w' w.heap.size ao N cap (lenB x) ∧ Below w.heap.size w w' := by
  by_cases h0 : x < 0
  · have HL : Hid (lenB x = []) := lenB_no (.inl h0)
    rw [HL.out] at hN
    subst hN
    go_enter Tryz.func115, Tryz.ntmps115
    go_wp2
    go_ret
    exact ⟨none, 0, rfl, by rw [HL.out]; exact own_nil _ _, Below.refl _ _⟩
  by_cases h1 : 268435455 < x
  · have HL : Hid (lenB x = []) := lenB_no (.inr h1)
    rw [HL.out] at hN
    subst hN
    go_enter Tryz.func115, Tryz.ntmps115
    go_wp2
    go_ret
    exact ⟨none, 0, rfl, by rw [HL.out]; exact own_nil _ _, Below.refl _ _⟩
  obtain ⟨k, rfl⟩ := Int.eq_ofNat_of_zero_le (show 0 ≤ x by omega)
  have hk : k ≤ 268435455 := by omega
  have HB : Hid (lenB (k : Int) = lenF 3 k) := lenB_nat hk
  have HN : Hid ((lenF 3 k).length = N) := by rw [← HB.out]; exact hN
  clear hN
  go_enter Tryz.func115, Tryz.ntmps115
  go_wp2
  go_loopw [0, 3] (fun n v wr => ∃ (m f j : Nat) (a : Option Addr) (c : Nat) (acc : List UInt8), n = .int .i64 m ∧ v = .slice a j c ∧ j + f = 3 ∧ m < 128 ^ (f + 1) ∧ acc ++ lenF f m = lenF 3 k ∧ Own wr w.heap.size a j c acc ∧ Below w.heap.size w wr) (fun n _ _ => (intOf n).toNat)
  case atStart => exact ⟨k, 3, 0, none, 0, [], rfl, rfl, rfl, by omega, rfl, own_nil _ _, Below.refl _ _⟩
  case round =>
    obtain ⟨m, f, j, a, c, acc, rfl, rfl, hj, hm, hacc, ho, hb⟩ := hrel
    have HA : Hid (acc ++ lenF f m = lenF 3 k) := hacc
    have HM : Hid (m < 128 ^ (f + 1)) := hm
    have hm4 : m < 268435456 := Nat.lt_of_lt_of_le hm (Nat.pow_le_pow_right (show 0 < 128 by omega) (show f + 1 ≤ 4 by omega))
    clear hacc hm
    by_cases hlt : m < 128
    · have h' : ¬ (128 : Int) ≤ m := by omega
      have HF : Hid (lenF f m = [UInt8.ofNat m]) := lenF_small f m hlt
      go_wp2_with (at_builtin; refine w_app _ rfl _ _ rfl w.heap.size _ _ _ acc rfl (ho.alloc _) _ _ _ [UInt8.ofNat m] rfl (rd_byte wr m _ (by omega)) (by omega) (by have := hb.size; simp; omega) ?_)
      intro a2 c2 w2 ho2 hg2
      have hb2 := below_grow (hb.alloc hb.size _) (by have := hb.size; simp; omega) (ho.alloc _) hg2
      rw [← HF.out, HA.out] at ho2
      obtain rfl : j + 1 = N := ho2.1.symm.trans HN.out
      go_wp2
      go_ret
      exact ⟨a2, c2, rfl, by rw [HB.out]; exact ho2, hb2⟩
    · have h' : (128 : Int) ≤ m := by omega
      have hor := or128 m
      cases f with
      | zero => have := HM.out; omega
      | succ f =>
        have HF : Hid (lenF (f + 1) m = moreB m :: lenF f (m / 128)) := lenF_more f m hlt
        have HD : Hid (m / 128 < 128 ^ (f + 1)) := Nat.div_lt_of_lt_mul (by have := HM.out; rw [Nat.pow_succ] at this; omega)
        go_wp2_with (at_builtin; refine w_app _ rfl _ _ rfl w.heap.size _ _ _ acc rfl (ho.alloc _) _ _ _ [moreB m] rfl (rd_more wr m _ (by omega)) (by omega) (by have := hb.size; simp; omega) ?_)
        intro a2 c2 w2 ho2 hg2
        have hb2 := below_grow (hb.alloc hb.size _) (by have := hb.size; simp; omega) (ho.alloc _) hg2
        clear hg2 ho hb
        go_wp2
        go_roundw
        case rel =>
          refine ⟨m / 128, f, j + 1, a2, c2, _, by go_num, rfl, by omega, HD.out, ?_, ho2, hb2⟩
          rw [← HA.out, HF.out, List.append_assoc]
          rfl
        case measure => simp [intOf]; omega

/-- impl.behind -/
theorem behind_ibehind (ao : Option Addr) (n cap : Nat) (l : List UInt8) (ax : Option Addr) (m c : Nat) (x : List UInt8) (w : World) (hr : RdIn w ao n cap l) (hx : RdIn w ax m c x) (hn : n ≤ 1099511627000) (hm : m ≤ 1099511627000) :
    Calls Tryz.prog 66 #[.slice ao n cap, .slice ax m c] w fun e w' => ∃ ao' cap', e = .returned (.slice ao' (n + m) cap') ∧ Own w' w.heap.size ao' (n + m) cap' (l ++ x) ∧ Below w.heap.size w w' := by
  go_enter Tryz.func66, Tryz.ntmps66
  go_wp2_with fail
  refine (copy_icopyWithRoom _ _ _ m l _ hr (by omega) (by omega)).mono ?_
  rintro e w1 ⟨a1, c1, rfl, ho1, hb1⟩
  go_wp2_with (at_builtin; refine w_app _ rfl _ _ rfl w.heap.size _ _ _ l rfl ho1 _ _ _ x rfl (hx.below hb1) (by omega) hb1.size ?_)
  intro a2 c2 w2 ho2 hg2
  go_wp2
  go_ret
  exact ⟨a2, c2, rfl, ho2, below_grow hb1 hb1.size ho1 hg2⟩

/-- impl.PutLen -/
theorem put_iPutLen (N : Nat) (ao : Option Addr) (n cap : Nat) (x : Int) (l : List UInt8) (w : World) (hN : (lenB x).length = N) (hr : RdIn w ao n cap l) (hn : n ≤ 1099511627000) :
    Calls Tryz.prog 64 #[.slice ao n cap, .int .i64 x] w fun e w' => ∃ ao' cap', e = .returned (.slice ao' (n + N) cap') ∧ Own w' w.heap.size ao' (n + N) cap' (l ++ lenB x) ∧ Below w.heap.size w w' := by
  have hle := lenB_le x
  rw [hN] at hle
  go_enter Tryz.func64, Tryz.ntmps64
  go_wp2_with fail
  refine (len_ilenBytes N x _ hN).mono ?_
  rintro e w1 ⟨a1, c1, rfl, ho1, hb1⟩
  go_wp2_with fail
  refine (behind_ibehind _ _ _ l _ _ _ (lenB x) _ (hr.below hb1) ho1.rd hn (by omega)).mono ?_
  rintro e w2 ⟨a2, c2, rfl, ho2, hb2⟩
  go_wp2
  go_ret
  exact ⟨a2, c2, rfl, ho2.mono hb1.size, below_next hb1 hb2⟩

set_option maxHeartbeats 400000 in
/-- spec.PutLen -/
theorem put_sPutLen (N : Nat) (ao : Option Addr) (n cap : Nat) (x : Int) (l : List UInt8) (w : World) (hN : (lenB x).length = N) (hr : RdIn w ao n cap l) (hn : n ≤ 1099511627000) :
    Calls Tryz.prog 134 #[.slice ao n cap, .int .i64 x] w fun e w' => ∃ ao' cap', e = .returned (.slice ao' (n + N) cap') ∧ Own w' w.heap.size ao' (n + N) cap' (l ++ lenB x) ∧ Below w.heap.size w w' := by
  by_cases hin : 0 ≤ x ∧ x ≤ 268435455
  · obtain ⟨k, rfl⟩ := Int.eq_ofNat_of_zero_le hin.1
    have hk : k ≤ 268435455 := by omega
    have HB : Hid (lenB (k : Int) = lenF 3 k) := lenB_nat hk
    have HN : Hid ((lenF 3 k).length = N) := by rw [← HB.out]; exact hN
    have hI : decide ((0 : Int) ≤ (k : Int) ∧ (k : Int) ≤ 268435455) = true := decide_eq_true ⟨by omega, by omega⟩
    have HL : Hid (l.length = n) := hr.1.1
    clear hN hin
    go_enter Tryz.func134, Tryz.ntmps134
    go_wp2_with (at_builtin; refine w_app _ rfl _ _ rfl w.heap.size _ 0 _ [] rfl (own_lit0 w) _ _ _ l rfl (hr.alloc _) (by omega) (by simp) ?_)
    intro a1 c1 w1 ho1 hg1
    have hb1 : Below w.heap.size w w1 := below_grow ((Below.refl _ _).alloc (Nat.le_refl _) _) (by simp) (own_lit0 w) hg1
    clear hg1
    go_wp2_with fail
    refine (in_sl1Inb _ _ _ true _ hI).mono ?_
    rintro e w2 ⟨rfl, rfl⟩
    go_wp2
    go_loopw [1, 5] (fun q v wr => ∃ (m f j : Nat) (a : Option Addr) (c : Nat) (acc : List UInt8), q = .int .i64 m ∧ v = .slice a (n + j) c ∧ j + f = 3 ∧ m < 128 ^ (f + 1) ∧ acc ++ lenF f m = lenF 3 k ∧ Own wr w.heap.size a (n + j) c (l ++ acc) ∧ Below w.heap.size w wr) (fun q _ _ => (intOf q).toNat)
    case atStart => exact ⟨k, 3, 0, a1, c1, [], rfl, by simp, rfl, by omega, rfl, by simpa using ho1, hb1⟩
    case round =>
      obtain ⟨m, f, j, a, c, acc, rfl, rfl, hj, hm, hacc, ho, hb⟩ := hrel
      have HA : Hid (acc ++ lenF f m = lenF 3 k) := hacc
      have HM : Hid (m < 128 ^ (f + 1)) := hm
      have hm4 : m < 268435456 := Nat.lt_of_lt_of_le hm (Nat.pow_le_pow_right (show 0 < 128 by omega) (show f + 1 ≤ 4 by omega))
      clear hacc hm
      by_cases hlt : m < 128
      · have h' : ¬ (127 : Int) < m := by omega
        have HF : Hid (lenF f m = [UInt8.ofNat m]) := lenF_small f m hlt
        go_wp2_with (at_builtin; refine w_app _ rfl _ _ rfl w.heap.size _ _ _ (l ++ acc) rfl (ho.alloc _) _ _ _ [UInt8.ofNat m] rfl (rd_byte wr m _ (by omega)) (by omega) (by have := hb.size; simp; omega) ?_)
        intro a2 c2 w2 ho2 hg2
        have hb2 := below_grow (hb.alloc hb.size _) (by have := hb.size; simp; omega) (ho.alloc _) hg2
        rw [← HF.out, HA.out] at ho2
        obtain rfl : j + 1 = N := by
          have h1 := ho2.1
          have h2 := HN.out
          have h3 := HL.out
          rw [List.length_append] at h1
          omega
        go_wp2
        go_ret
        exact ⟨a2, c2, rfl, by rw [HB.out]; exact ho2, hb2⟩
      · have h' : (127 : Int) < m := by omega
        cases f with
        | zero => have := HM.out; omega
        | succ f =>
          have HF : Hid (lenF (f + 1) m = moreB m :: lenF f (m / 128)) := lenF_more f m hlt
          have HD : Hid (m / 128 < 128 ^ (f + 1)) := Nat.div_lt_of_lt_mul (by have := HM.out; rw [Nat.pow_succ] at this; omega)
          go_wp2_with (at_builtin; refine w_app _ rfl _ _ rfl w.heap.size _ _ _ (l ++ acc) rfl (ho.alloc _) _ _ _ [moreB m] rfl (rd_more wr m _ (by omega)) (by omega) (by have := hb.size; simp; omega) ?_)
          intro a2 c2 w2 ho2 hg2
          have hb2 := below_grow (hb.alloc hb.size _) (by have := hb.size; simp; omega) (ho.alloc _) hg2
          clear hg2 ho hb
          go_wp2
          go_roundw
          case rel =>
            refine ⟨m / 128, f, j + 1, a2, c2, _, by go_num, rfl, by omega, HD.out, ?_, ho2, hb2⟩
            rw [← HA.out, HF.out, List.append_assoc]
            rfl
          case measure => simp [intOf]; omega
  · have HB : Hid (lenB x = []) := lenB_no (by omega)
    rw [HB.out] at hN
    subst hN
    have hI : decide ((0 : Int) ≤ x ∧ x ≤ 268435455) = false := decide_eq_false hin
    go_enter Tryz.func134, Tryz.ntmps134
    go_wp2_with (at_builtin; refine w_app _ rfl _ _ rfl w.heap.size _ 0 _ [] rfl (own_lit0 w) _ _ _ l rfl (hr.alloc _) (by omega) (by simp) ?_)
    intro a1 c1 w1 ho1 hg1
    have hb1 : Below w.heap.size w w1 := below_grow ((Below.refl _ _).alloc (Nat.le_refl _) _) (by simp) (own_lit0 w) hg1
    clear hg1
    go_wp2_with fail
    refine (in_sl1Inb _ _ _ false _ hI).mono ?_
    rintro e w2 ⟨rfl, rfl⟩
    go_wp2
    go_ret
    exact ⟨a1, c1, by simp, by rw [HB.out]; simpa using ho1, hb1⟩

end Go.Proofs.YtccjiicjlifmiaaGreatDoor
