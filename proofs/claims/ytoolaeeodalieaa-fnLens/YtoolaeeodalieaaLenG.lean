/- Lengths that are read: the plain function, and the contracts of both sides over it. -/
import Derived.Test.YtoolaeeodalieaaLens
import Derived.Test.YtoolaeeodalieaaGets
set_option linter.unusedVariables false
set_option linter.unusedSimpArgs false
namespace Go.Proofs.Ytoolaeeodalieaa
open Go.RowKit

/-- The number of k bytes from place p on, 7 bits of each. -/
def num (l : List UInt8) (p : Nat) : Nat → Nat
  | 0 => 0
  | k + 1 => num l p k + bt l (p + k) % 128 * 128 ^ k
theorem num_lt (l : List UInt8) (p k : Nat) : num l p k < 128 ^ k := by
  induction k with
  | zero => simp [num]
  | succ k ih =>
    have h := Nat.mod_lt (bt l (p + k)) (show 0 < 128 by omega)
    have h2 : bt l (p + k) % 128 * 128 ^ k ≤ 127 * 128 ^ k := Nat.mul_le_mul_right _ (by omega)
    simp only [num, Nat.pow_succ]
    omega

/-- What is answered where f more bytes may come. -/
def ansG (l : List UInt8) (p : Nat) : Nat → Int × Int × Int
  | 0 => (0, 0, 2)
  | f + 1 => if l.length ≤ p + (3 - f) then (0, 0, 1) else if bt l (p + (3 - f)) < 128 then
      (if 0 < 3 - f ∧ bt l (p + (3 - f)) = 0 then (0, 0, 2) else ((num l p (3 - f + 1) : Nat), ((p + (3 - f) + 1 : Nat) : Int), 0)) else ansG l p f
/-- What GetLen answers. -/
def getE (l : List UInt8) (a : Int) : Int × Int × Int := if 0 ≤ a ∧ a ≤ l.length then ansG l a.toNat 4 else (0, 0, 2)
def ret3 (t : Int × Int × Int) : Ending := .returned (.tuple #[.int .i64 t.1, .int .i64 t.2.1, .int .i64 t.2.2])

theorem ansG_end {l : List UInt8} {p k : Nat} (hk : k < 4) (h : l.length ≤ p + k) : ansG l p (4 - k) = (0, 0, 1) := by
  rw [show 4 - k = (3 - k) + 1 from by omega, ansG, if_pos (by omega)]
theorem ansG_more {l : List UInt8} {p k : Nat} (hk : k < 4) (h : p + k < l.length) (hb : 128 ≤ bt l (p + k)) : ansG l p (4 - k) = ansG l p (4 - (k + 1)) := by
  rw [show 4 - k = (3 - k) + 1 from by omega, ansG, if_neg (by omega), show 3 - (3 - k) = k from by omega, if_neg (by omega)]
  rw [show 4 - (k + 1) = 3 - k from by omega]
theorem ansG_zero {l : List UInt8} {p k : Nat} (hk : k < 4) (h : p + k < l.length) (h0 : 0 < k) (hb : bt l (p + k) = 0) : ansG l p (4 - k) = (0, 0, 2) := by
  rw [show 4 - k = (3 - k) + 1 from by omega, ansG, if_neg (by omega), show 3 - (3 - k) = k from by omega, if_pos (by omega), if_pos ⟨h0, hb⟩]
theorem ansG_last {l : List UInt8} {p k : Nat} (hk : k < 4) (h : p + k < l.length) (hb : bt l (p + k) < 128) (h0 : ¬ (0 < k ∧ bt l (p + k) = 0)) : ansG l p (4 - k) = (((num l p (k + 1) : Nat) : Int), ((p + k + 1 : Nat) : Int), 0) := by
  rw [show 4 - k = (3 - k) + 1 from by omega, ansG, if_neg (by omega), show 3 - (3 - k) = k from by omega, if_pos hb, if_neg h0]

theorem or_comm64 (x y : Int) : bits .or .i64 x y = bits .or .i64 y x := by
  show IntKind.i64.wrap (((BitVec.ofInt 64 x ||| BitVec.ofInt 64 y) : BitVec 64).toNat : Int) = IntKind.i64.wrap (((BitVec.ofInt 64 y ||| BitVec.ofInt 64 x) : BitVec 64).toNat : Int)
  rw [BitVec.or_comm]

theorem or_k0 (z y : Nat) (hz : z < 128 ^ 0) (hy : y < 128) : bits .or .i64 (z : Int) (y : Int) = ((z + y : Nat) : Int) := by
  obtain rfl : z = 0 := by omega
  rw [or_comm64, bits_join .i64 62 (by decide) wraps_i64 0 _ _ (by omega) (by omega) (by omega) (by omega) (by omega) (by omega)]
  omega
theorem or_k1 (z y : Nat) (hz : z < 128 ^ 1) (hy : y < 128) : bits .or .i64 (z : Int) ((y : Int) * 128) = ((z + y * 128 : Nat) : Int) := by
  rw [or_comm64, bits_join .i64 62 (by decide) wraps_i64 7 _ _ (by omega) (by omega) (by omega) (by omega) (by omega) (by omega)]
  omega
theorem or_k2 (z y : Nat) (hz : z < 128 ^ 2) (hy : y < 128) : bits .or .i64 (z : Int) ((y : Int) * 16384) = ((z + y * 16384 : Nat) : Int) := by
  rw [or_comm64, bits_join .i64 62 (by decide) wraps_i64 14 _ _ (by omega) (by omega) (by omega) (by omega) (by omega) (by omega)]
  omega
theorem or_k3 (z y : Nat) (hz : z < 128 ^ 3) (hy : y < 128) : bits .or .i64 (z : Int) ((y : Int) * 2097152) = ((z + y * 2097152 : Nat) : Int) := by
  rw [or_comm64, bits_join .i64 62 (by decide) wraps_i64 21 _ _ (by omega) (by omega) (by omega) (by omega) (by omega) (by omega)]
  omega

/-- b[p:] -/
theorem slice_tail {w : World} {ao : Option Addr} {n cap : Nat} {l : List UInt8} (hr : RdIn w ao n cap l) (p : Nat) (hp : p ≤ n) : ∃ ax cx,
    (∀ w', (Instr.slice 22 (.slice ao n cap) (some (.int .i64 (p : Int))) none none).run Try.prog w' = .ok (.slice ax (n - p) cx) w') ∧ RdIn w ax (n - p) cx (l.drop p) := by
  obtain ⟨i0, hi, hz0, hz1, hz2⟩ := info_parts info5
  obtain ⟨⟨hl, hc⟩, hcap, hmax, hnil⟩ := hr
  have he : Try.prog.elem 22 = 5 := by kernel_rfl
  have ht : Try.prog.underlying 22 = some (.slice (Try.prog.elem 22)) := by rw [he]; exact Try.underlying22
  refine ⟨if cap = p then ao else ao.map (·.add (p * 1)), cap - p, fun w' => ?_, ⟨by simp; omega, fun i hi' => ?_⟩, by omega, by omega, fun h => ?_⟩
  · have h := run_slice_l (P := Try.prog) w' 22 ao n cap ht .i64 (p : Int) (by omega) (by omega)
    rw [h, he]
    simp only [sizeOf, typeInfo, Sem.run_bind, Sem.run_pure, hi, hz1, Result.andThen_ok, sliced, Int.toNat_natCast]
    simp [hi, hz1, Result.andThen, sliced]
  · obtain ⟨b, off, rfl, hcell⟩ := hc (p + i) (by omega)
    refine ⟨b, off + p, ?_, ?_⟩
    · rw [if_neg (by omega)]
      simp [Addr.add_lit]
    · rw [Nat.add_assoc, hcell, bt_drop]
  · split at h
    · rename_i g
      omega
    · cases ao with
      | none => have := hnil rfl; omega
      | some a => simp at h

/- MADE BY tools/gen_leng.py -/

set_option maxRecDepth 100000 in
set_option maxHeartbeats 2000000 in
/-- impl.GetLen, at a place within. -/
theorem get_iGetLen_in (ao : Option Addr) (n cap p : Nat) (l : List UInt8) (w : World) (hr : RdIn w ao n cap l) (hp : p ≤ n) (hn : n ≤ 1099511627776) :
    Calls Try.prog 13 #[.slice ao n cap, .int .i64 p] w fun e w' => e = ret3 (ansG l p 4) ∧ w' = w := by
  have HLEN : Hid (l.length = n) := hr.1.1
  obtain ⟨ax, cx, hsl, hx⟩ := slice_tail hr p hp
  have hp1 : ¬ (n : Int) < (p : Int) := by omega
  obtain ⟨q, hq⟩ : ∃ q, n - p = q := ⟨_, rfl⟩
  rw [hq] at hsl hx
  have HNQ : Hid (n = p + q) := by unfold Hid; omega
  clear hq
  go_enter Try.func13, Try.ntmps13
  go_wp2
  go_loop [7, 8, 9, 22] (fun v _ _ i => ∃ k z : Nat, i = .int .i64 k ∧ v = .int .i64 z ∧ k ≤ q ∧ k ≤ 4 ∧ z = num l p k ∧ ansG l p 4 = ansG l p (4 - k)) (fun _ _ _ i => q - (intOf i).toNat)
  case atStart => exact ⟨0, 0, rfl, rfl, by omega, by omega, rfl, rfl⟩
  case round =>
    obtain ⟨k, z, rfl, rfl, hkq, hk4, hzn, hans⟩ := hrel
    have HNUM : Hid (z = num l p k) := hzn
    have HANS : Hid (ansG l p 4 = ansG l p (4 - k)) := hans
    have hz : z < 128 ^ k := by rw [hzn]; exact num_lt l p k
    clear hans hzn
    by_cases hlt : k < q
    · have h1 : (k : Int) < q := by omega
      by_cases h4 : k = 4
      · subst h4
        have h5 : ¬ (n : Int) - (p : Int) < 4 := by have := HNQ.out; omega
        obtain ⟨bb, off, e, hc⟩ := hx.1.2 4 (by omega)
        subst e
        go_wp2
        go_ret3
        exact ⟨by rw [HANS.out]; simp [ret3, ansG], rfl⟩
      obtain ⟨bb, off, e, hc⟩ := hx.1.2 k hlt
      subst e
      rw [bt_drop] at hc
      obtain ⟨b, hbt⟩ : ∃ b, bt l (p + k) = b := ⟨_, rfl⟩
      have hb : b < 256 := by rw [← hbt]; exact bt_lt l _
      rw [hbt] at hc
      have HBT : Hid (bt l (p + k) = b) := hbt
      clear hbt
      have hpk : p + k < n := by have := HNQ.out; omega
      have hnt := not128 b hb
      obtain rfl | rfl | rfl | rfl : k = 0 ∨ k = 1 ∨ k = 2 ∨ k = 3 := by omega
      · have HZ : Hid (z < 128 ^ 0) := hz
        have hzN : z < 1 := hz
        clear hz
        simp only [Nat.add_zero] at hc
        have hor : bits .or .i64 (z : Int) ((b : Int) % 128) = ((z + b % 128 : Nat) : Int) := by
          have := or_k0 z (b % 128) HZ.out (Nat.mod_lt _ (by omega))
          rw [show ((b % 128 : Nat) : Int) = (b : Int) % 128 from by omega] at this
          exact this
        have HS : Hid (num l p 1 = z + b % 128) := by
          show num l p 0 + bt l (p + 0) % 128 * 128 ^ 0 = _
          rw [← HNUM.out, HBT.out]
          try omega
        by_cases h128 : b < 128
        · have hc1 : bits .and .u8 (b : Int) 128 = 0 := by rw [and128 b hb, if_pos h128]
          by_cases hb0 : b = 0
          · have hbz : ((b : Int) == 0) = true := by simp; omega
            have HB0 : Hid (b = 0) := hb0
            clear hb0
            have HG : Hid (ansG l p 4 = _) := HANS.out.trans (ansG_last (k := 0) (by omega) (by rw [HLEN.out]; exact hpk) (by rw [HBT.out]; exact h128) (by omega))
            go_wp2
            go_ret3
            exact ⟨by rw [HG.out, HS.out]; simp [ret3], rfl⟩
          · have HG : Hid (ansG l p 4 = _) := HANS.out.trans (ansG_last (k := 0) (by omega) (by rw [HLEN.out]; exact hpk) (by rw [HBT.out]; exact h128) (by rw [HBT.out]; omega))
            have hbz : ((b : Int) == 0) = false := by simp; omega
            go_wp2
            go_ret3
            exact ⟨by rw [HG.out, HS.out]; simp [ret3], rfl⟩
        · have hc1 : bits .and .u8 (b : Int) 128 = 128 := by rw [and128 b hb, if_neg h128]
          have HG : Hid (ansG l p 4 = ansG l p (4 - 1)) := HANS.out.trans (ansG_more (k := 0) (by omega) (by rw [HLEN.out]; exact hpk) (by rw [HBT.out]; omega))
          go_wp2
          go_round
          case rel => exact ⟨1, z + b % 128, by go_num, by go_num, by omega, by omega, HS.out.symm, HG.out⟩
          case measure => simp [intOf] <;> omega
      · have HZ : Hid (z < 128 ^ 1) := hz
        have hzN : z < 128 := hz
        clear hz
        have hor : bits .or .i64 (z : Int) ((b : Int) % 128 * 128) = ((z + b % 128 * 128 : Nat) : Int) := by
          have := or_k1 z (b % 128) HZ.out (Nat.mod_lt _ (by omega))
          rw [show ((b % 128 : Nat) : Int) = (b : Int) % 128 from by omega] at this
          exact this
        have HS : Hid (num l p 2 = z + b % 128 * 128) := by
          show num l p 1 + bt l (p + 1) % 128 * 128 ^ 1 = _
          rw [← HNUM.out, HBT.out]
          try omega
        by_cases h128 : b < 128
        · have hc1 : bits .and .u8 (b : Int) 128 = 0 := by rw [and128 b hb, if_pos h128]
          by_cases hb0 : b = 0
          · have hbz : ((b : Int) == 0) = true := by simp; omega
            have HB0 : Hid (b = 0) := hb0
            clear hb0
            have HG : Hid (ansG l p 4 = _) := HANS.out.trans (ansG_zero (k := 1) (by omega) (by rw [HLEN.out]; exact hpk) (by omega) (HBT.out.trans HB0.out))
            go_wp2
            go_ret3
            exact ⟨by rw [HG.out]; simp [ret3], rfl⟩
          · have HG : Hid (ansG l p 4 = _) := HANS.out.trans (ansG_last (k := 1) (by omega) (by rw [HLEN.out]; exact hpk) (by rw [HBT.out]; exact h128) (by rw [HBT.out]; omega))
            have hbz : ((b : Int) == 0) = false := by simp; omega
            go_wp2
            go_ret3
            exact ⟨by rw [HG.out, HS.out]; simp [ret3], rfl⟩
        · have hc1 : bits .and .u8 (b : Int) 128 = 128 := by rw [and128 b hb, if_neg h128]
          have HG : Hid (ansG l p 4 = ansG l p (4 - 2)) := HANS.out.trans (ansG_more (k := 1) (by omega) (by rw [HLEN.out]; exact hpk) (by rw [HBT.out]; omega))
          go_wp2
          go_round
          case rel => exact ⟨2, z + b % 128 * 128, by go_num, by go_num, by omega, by omega, HS.out.symm, HG.out⟩
          case measure => simp [intOf] <;> omega
      · have HZ : Hid (z < 128 ^ 2) := hz
        have hzN : z < 16384 := hz
        clear hz
        have hor : bits .or .i64 (z : Int) ((b : Int) % 128 * 16384) = ((z + b % 128 * 16384 : Nat) : Int) := by
          have := or_k2 z (b % 128) HZ.out (Nat.mod_lt _ (by omega))
          rw [show ((b % 128 : Nat) : Int) = (b : Int) % 128 from by omega] at this
          exact this
        have HS : Hid (num l p 3 = z + b % 128 * 16384) := by
          show num l p 2 + bt l (p + 2) % 128 * 128 ^ 2 = _
          rw [← HNUM.out, HBT.out]
          try omega
        by_cases h128 : b < 128
        · have hc1 : bits .and .u8 (b : Int) 128 = 0 := by rw [and128 b hb, if_pos h128]
          by_cases hb0 : b = 0
          · have hbz : ((b : Int) == 0) = true := by simp; omega
            have HB0 : Hid (b = 0) := hb0
            clear hb0
            have HG : Hid (ansG l p 4 = _) := HANS.out.trans (ansG_zero (k := 2) (by omega) (by rw [HLEN.out]; exact hpk) (by omega) (HBT.out.trans HB0.out))
            go_wp2
            go_ret3
            exact ⟨by rw [HG.out]; simp [ret3], rfl⟩
          · have HG : Hid (ansG l p 4 = _) := HANS.out.trans (ansG_last (k := 2) (by omega) (by rw [HLEN.out]; exact hpk) (by rw [HBT.out]; exact h128) (by rw [HBT.out]; omega))
            have hbz : ((b : Int) == 0) = false := by simp; omega
            go_wp2
            go_ret3
            exact ⟨by rw [HG.out, HS.out]; simp [ret3], rfl⟩
        · have hc1 : bits .and .u8 (b : Int) 128 = 128 := by rw [and128 b hb, if_neg h128]
          have HG : Hid (ansG l p 4 = ansG l p (4 - 3)) := HANS.out.trans (ansG_more (k := 2) (by omega) (by rw [HLEN.out]; exact hpk) (by rw [HBT.out]; omega))
          go_wp2
          go_round
          case rel => exact ⟨3, z + b % 128 * 16384, by go_num, by go_num, by omega, by omega, HS.out.symm, HG.out⟩
          case measure => simp [intOf] <;> omega
      · have HZ : Hid (z < 128 ^ 3) := hz
        have hzN : z < 2097152 := hz
        clear hz
        have hor : bits .or .i64 (z : Int) ((b : Int) % 128 * 2097152) = ((z + b % 128 * 2097152 : Nat) : Int) := by
          have := or_k3 z (b % 128) HZ.out (Nat.mod_lt _ (by omega))
          rw [show ((b % 128 : Nat) : Int) = (b : Int) % 128 from by omega] at this
          exact this
        have HS : Hid (num l p 4 = z + b % 128 * 2097152) := by
          show num l p 3 + bt l (p + 3) % 128 * 128 ^ 3 = _
          rw [← HNUM.out, HBT.out]
          try omega
        by_cases h128 : b < 128
        · have hc1 : bits .and .u8 (b : Int) 128 = 0 := by rw [and128 b hb, if_pos h128]
          by_cases hb0 : b = 0
          · have hbz : ((b : Int) == 0) = true := by simp; omega
            have HB0 : Hid (b = 0) := hb0
            clear hb0
            have HG : Hid (ansG l p 4 = _) := HANS.out.trans (ansG_zero (k := 3) (by omega) (by rw [HLEN.out]; exact hpk) (by omega) (HBT.out.trans HB0.out))
            go_wp2
            go_ret3
            exact ⟨by rw [HG.out]; simp [ret3], rfl⟩
          · have HG : Hid (ansG l p 4 = _) := HANS.out.trans (ansG_last (k := 3) (by omega) (by rw [HLEN.out]; exact hpk) (by rw [HBT.out]; exact h128) (by rw [HBT.out]; omega))
            have hbz : ((b : Int) == 0) = false := by simp; omega
            go_wp2
            go_ret3
            exact ⟨by rw [HG.out, HS.out]; simp [ret3], rfl⟩
        · have hc1 : bits .and .u8 (b : Int) 128 = 128 := by rw [and128 b hb, if_neg h128]
          have HG : Hid (ansG l p 4 = ansG l p (4 - 4)) := HANS.out.trans (ansG_more (k := 3) (by omega) (by rw [HLEN.out]; exact hpk) (by rw [HBT.out]; omega))
          go_wp2
          go_round
          case rel => exact ⟨4, z + b % 128 * 2097152, by go_num, by go_num, by omega, by omega, HS.out.symm, HG.out⟩
          case measure => simp [intOf] <;> omega
    · have h1 : ¬ (k : Int) < q := by omega
      obtain rfl : k = q := by omega
      by_cases h4 : k < 4
      · have h5 : (n : Int) - (p : Int) < 4 := by have := HNQ.out; omega
        have HG : Hid (ansG l p 4 = _) := HANS.out.trans (ansG_end h4 (by rw [HLEN.out]; have := HNQ.out; omega))
        go_wp2
        go_ret3
        exact ⟨by rw [HG.out]; simp [ret3], rfl⟩
      · have h5 : ¬ (n : Int) - (p : Int) < 4 := by have := HNQ.out; omega
        obtain rfl : k = 4 := by omega
        go_wp2
        go_ret3
        exact ⟨by rw [HANS.out]; simp [ret3, ansG], rfl⟩

/-- impl.GetLen, at a place outside. -/
theorem get_iGetLen_out (ao : Option Addr) (n cap : Nat) (a : Int) (w : World) (h : a < 0 ∨ (n : Int) < a) :
    Calls Try.prog 13 #[.slice ao n cap, .int .i64 a] w fun e w' => e = ret3 (0, 0, 2) ∧ w' = w := by
  by_cases h0 : a < 0
  · go_enter Try.func13, Try.ntmps13
    go_wp2
    go_ret3
    exact ⟨rfl, rfl⟩
  · have h1 : (n : Int) < a := by omega
    have h2 : 0 ≤ a := by omega
    go_enter Try.func13, Try.ntmps13
    go_wp2
    go_ret3
    exact ⟨rfl, rfl⟩

/-- impl.GetLen -/
theorem get_iGetLen (ao : Option Addr) (n cap : Nat) (a : Int) (l : List UInt8) (w : World) (hr : RdIn w ao n cap l) (hn : n ≤ 1099511627776) :
    Calls Try.prog 13 #[.slice ao n cap, .int .i64 a] w fun e w' => e = ret3 (getE l a) ∧ w' = w := by
  have hl := hr.1.1
  by_cases h : 0 ≤ a ∧ a ≤ n
  · obtain ⟨p, rfl⟩ := Int.eq_ofNat_of_zero_le h.1
    have e : getE l (p : Int) = ansG l p 4 := by
      unfold getE
      rw [if_pos (by omega)]
      simp
    rw [e]
    exact get_iGetLen_in ao n cap p l w hr (by omega) hn
  · have e : getE l a = (0, 0, 2) := by
      unfold getE
      rw [if_neg (by omega)]
    rw [e]
    exact get_iGetLen_out ao n cap a w (by omega)

set_option maxRecDepth 100000 in
set_option maxHeartbeats 2000000 in
/-- spec.GetLen, at a place within. -/
theorem get_sGetLen_in (ao : Option Addr) (n cap p : Nat) (l : List UInt8) (w : World) (hr : RdIn w ao n cap l) (hp : p ≤ n) (hn : n ≤ 1099511627776) :
    Calls Try.prog 16 #[.slice ao n cap, .int .i64 p] w fun e w' => e = ret3 (ansG l p 4) ∧ w' = w := by
  have HLEN : Hid (l.length = n) := hr.1.1
  have hp1 : ¬ (n : Int) < (p : Int) := by omega
  go_enter Try.func16, Try.ntmps16
  go_wp2
  go_loop [7, 8, 9] (fun v i _ => ∃ k z : Nat, i = .int .i64 k ∧ v = .int .i64 z ∧ p + k ≤ n ∧ k ≤ 4 ∧ z = num l p k ∧ ansG l p 4 = ansG l p (4 - k)) (fun _ i _ => 4 - (intOf i).toNat)
  case atStart => exact ⟨0, 0, rfl, rfl, by omega, by omega, rfl, rfl⟩
  case round =>
    obtain ⟨k, z, rfl, rfl, hkq, hk4, hzn, hans⟩ := hrel
    have HNUM : Hid (z = num l p k) := hzn
    have HANS : Hid (ansG l p 4 = ansG l p (4 - k)) := hans
    have hz : z < 128 ^ k := by rw [hzn]; exact num_lt l p k
    clear hans hzn
    by_cases h4 : k = 4
    · subst h4
      go_wp2
      go_ret3
      exact ⟨by rw [HANS.out]; simp [ret3, ansG], rfl⟩
    have h4' : (k : Int) < 4 := by omega
    by_cases hpk : p + k < n
    · have h1 : ¬ (n : Int) ≤ (p : Int) + (k : Int) := by omega
      obtain ⟨bb, off, e, hc⟩ := hr.1.2 (p + k) hpk
      subst e
      obtain ⟨b, hbt⟩ : ∃ b, bt l (p + k) = b := ⟨_, rfl⟩
      have hb : b < 256 := by rw [← hbt]; exact bt_lt l _
      rw [hbt] at hc
      have HBT : Hid (bt l (p + k) = b) := hbt
      clear hbt
      have hnt := and127 b hb
      obtain rfl | rfl | rfl | rfl : k = 0 ∨ k = 1 ∨ k = 2 ∨ k = 3 := by omega
      · have HZ : Hid (z < 128 ^ 0) := hz
        have hzN : z < 1 := hz
        clear hz
        simp only [Nat.add_zero] at hc
        have hor : bits .or .i64 (z : Int) ((b : Int) % 128) = ((z + b % 128 : Nat) : Int) := by
          have := or_k0 z (b % 128) HZ.out (Nat.mod_lt _ (by omega))
          rw [show ((b % 128 : Nat) : Int) = (b : Int) % 128 from by omega] at this
          exact this
        have HS : Hid (num l p 1 = z + b % 128) := by
          show num l p 0 + bt l (p + 0) % 128 * 128 ^ 0 = _
          rw [← HNUM.out, HBT.out]
          try omega
        by_cases h128 : b < 128
        · have hx1 : (b : Int) < 128 := by omega
          by_cases hb0 : b = 0
          · have hbz : ((b : Int) == 0) = true := by simp; omega
            have HB0 : Hid (b = 0) := hb0
            clear hb0
            have HG : Hid (ansG l p 4 = _) := HANS.out.trans (ansG_last (k := 0) (by omega) (by rw [HLEN.out]; exact hpk) (by rw [HBT.out]; exact h128) (by omega))
            go_wp2
            go_ret3
            exact ⟨by rw [HG.out, HS.out]; simp [ret3], rfl⟩
          · have HG : Hid (ansG l p 4 = _) := HANS.out.trans (ansG_last (k := 0) (by omega) (by rw [HLEN.out]; exact hpk) (by rw [HBT.out]; exact h128) (by rw [HBT.out]; omega))
            have hbz : ((b : Int) == 0) = false := by simp; omega
            go_wp2
            go_ret3
            exact ⟨by rw [HG.out, HS.out]; simp [ret3], rfl⟩
        · have hx1 : ¬ (b : Int) < 128 := by omega
          have HG : Hid (ansG l p 4 = ansG l p (4 - 1)) := HANS.out.trans (ansG_more (k := 0) (by omega) (by rw [HLEN.out]; exact hpk) (by rw [HBT.out]; omega))
          go_wp2
          go_round
          case rel => exact ⟨1, z + b % 128, by go_num, by go_num, by omega, by omega, HS.out.symm, HG.out⟩
          case measure => simp [intOf] <;> omega
      · have HZ : Hid (z < 128 ^ 1) := hz
        have hzN : z < 128 := hz
        clear hz
        have hor : bits .or .i64 (z : Int) ((b : Int) % 128 * 128) = ((z + b % 128 * 128 : Nat) : Int) := by
          have := or_k1 z (b % 128) HZ.out (Nat.mod_lt _ (by omega))
          rw [show ((b % 128 : Nat) : Int) = (b : Int) % 128 from by omega] at this
          exact this
        have HS : Hid (num l p 2 = z + b % 128 * 128) := by
          show num l p 1 + bt l (p + 1) % 128 * 128 ^ 1 = _
          rw [← HNUM.out, HBT.out]
          try omega
        by_cases h128 : b < 128
        · have hx1 : (b : Int) < 128 := by omega
          by_cases hb0 : b = 0
          · have hbz : ((b : Int) == 0) = true := by simp; omega
            have HB0 : Hid (b = 0) := hb0
            clear hb0
            have HG : Hid (ansG l p 4 = _) := HANS.out.trans (ansG_zero (k := 1) (by omega) (by rw [HLEN.out]; exact hpk) (by omega) (HBT.out.trans HB0.out))
            go_wp2
            go_ret3
            exact ⟨by rw [HG.out]; simp [ret3], rfl⟩
          · have HG : Hid (ansG l p 4 = _) := HANS.out.trans (ansG_last (k := 1) (by omega) (by rw [HLEN.out]; exact hpk) (by rw [HBT.out]; exact h128) (by rw [HBT.out]; omega))
            have hbz : ((b : Int) == 0) = false := by simp; omega
            go_wp2
            go_ret3
            exact ⟨by rw [HG.out, HS.out]; simp [ret3], rfl⟩
        · have hx1 : ¬ (b : Int) < 128 := by omega
          have HG : Hid (ansG l p 4 = ansG l p (4 - 2)) := HANS.out.trans (ansG_more (k := 1) (by omega) (by rw [HLEN.out]; exact hpk) (by rw [HBT.out]; omega))
          go_wp2
          go_round
          case rel => exact ⟨2, z + b % 128 * 128, by go_num, by go_num, by omega, by omega, HS.out.symm, HG.out⟩
          case measure => simp [intOf] <;> omega
      · have HZ : Hid (z < 128 ^ 2) := hz
        have hzN : z < 16384 := hz
        clear hz
        have hor : bits .or .i64 (z : Int) ((b : Int) % 128 * 16384) = ((z + b % 128 * 16384 : Nat) : Int) := by
          have := or_k2 z (b % 128) HZ.out (Nat.mod_lt _ (by omega))
          rw [show ((b % 128 : Nat) : Int) = (b : Int) % 128 from by omega] at this
          exact this
        have HS : Hid (num l p 3 = z + b % 128 * 16384) := by
          show num l p 2 + bt l (p + 2) % 128 * 128 ^ 2 = _
          rw [← HNUM.out, HBT.out]
          try omega
        by_cases h128 : b < 128
        · have hx1 : (b : Int) < 128 := by omega
          by_cases hb0 : b = 0
          · have hbz : ((b : Int) == 0) = true := by simp; omega
            have HB0 : Hid (b = 0) := hb0
            clear hb0
            have HG : Hid (ansG l p 4 = _) := HANS.out.trans (ansG_zero (k := 2) (by omega) (by rw [HLEN.out]; exact hpk) (by omega) (HBT.out.trans HB0.out))
            go_wp2
            go_ret3
            exact ⟨by rw [HG.out]; simp [ret3], rfl⟩
          · have HG : Hid (ansG l p 4 = _) := HANS.out.trans (ansG_last (k := 2) (by omega) (by rw [HLEN.out]; exact hpk) (by rw [HBT.out]; exact h128) (by rw [HBT.out]; omega))
            have hbz : ((b : Int) == 0) = false := by simp; omega
            go_wp2
            go_ret3
            exact ⟨by rw [HG.out, HS.out]; simp [ret3], rfl⟩
        · have hx1 : ¬ (b : Int) < 128 := by omega
          have HG : Hid (ansG l p 4 = ansG l p (4 - 3)) := HANS.out.trans (ansG_more (k := 2) (by omega) (by rw [HLEN.out]; exact hpk) (by rw [HBT.out]; omega))
          go_wp2
          go_round
          case rel => exact ⟨3, z + b % 128 * 16384, by go_num, by go_num, by omega, by omega, HS.out.symm, HG.out⟩
          case measure => simp [intOf] <;> omega
      · have HZ : Hid (z < 128 ^ 3) := hz
        have hzN : z < 2097152 := hz
        clear hz
        have hor : bits .or .i64 (z : Int) ((b : Int) % 128 * 2097152) = ((z + b % 128 * 2097152 : Nat) : Int) := by
          have := or_k3 z (b % 128) HZ.out (Nat.mod_lt _ (by omega))
          rw [show ((b % 128 : Nat) : Int) = (b : Int) % 128 from by omega] at this
          exact this
        have HS : Hid (num l p 4 = z + b % 128 * 2097152) := by
          show num l p 3 + bt l (p + 3) % 128 * 128 ^ 3 = _
          rw [← HNUM.out, HBT.out]
          try omega
        by_cases h128 : b < 128
        · have hx1 : (b : Int) < 128 := by omega
          by_cases hb0 : b = 0
          · have hbz : ((b : Int) == 0) = true := by simp; omega
            have HB0 : Hid (b = 0) := hb0
            clear hb0
            have HG : Hid (ansG l p 4 = _) := HANS.out.trans (ansG_zero (k := 3) (by omega) (by rw [HLEN.out]; exact hpk) (by omega) (HBT.out.trans HB0.out))
            go_wp2
            go_ret3
            exact ⟨by rw [HG.out]; simp [ret3], rfl⟩
          · have HG : Hid (ansG l p 4 = _) := HANS.out.trans (ansG_last (k := 3) (by omega) (by rw [HLEN.out]; exact hpk) (by rw [HBT.out]; exact h128) (by rw [HBT.out]; omega))
            have hbz : ((b : Int) == 0) = false := by simp; omega
            go_wp2
            go_ret3
            exact ⟨by rw [HG.out, HS.out]; simp [ret3], rfl⟩
        · have hx1 : ¬ (b : Int) < 128 := by omega
          have HG : Hid (ansG l p 4 = ansG l p (4 - 4)) := HANS.out.trans (ansG_more (k := 3) (by omega) (by rw [HLEN.out]; exact hpk) (by rw [HBT.out]; omega))
          go_wp2
          go_round
          case rel => exact ⟨4, z + b % 128 * 2097152, by go_num, by go_num, by omega, by omega, HS.out.symm, HG.out⟩
          case measure => simp [intOf] <;> omega
    · have h1 : (n : Int) ≤ (p : Int) + (k : Int) := by omega
      have HG : Hid (ansG l p 4 = _) := HANS.out.trans (ansG_end (by omega) (by rw [HLEN.out]; omega))
      go_wp2
      go_ret3
      exact ⟨by rw [HG.out]; simp [ret3], rfl⟩

/-- spec.GetLen, at a place outside. -/
theorem get_sGetLen_out (ao : Option Addr) (n cap : Nat) (a : Int) (w : World) (h : a < 0 ∨ (n : Int) < a) :
    Calls Try.prog 16 #[.slice ao n cap, .int .i64 a] w fun e w' => e = ret3 (0, 0, 2) ∧ w' = w := by
  by_cases h0 : a < 0
  · go_enter Try.func16, Try.ntmps16
    go_wp2
    go_ret3
    exact ⟨rfl, rfl⟩
  · have h1 : (n : Int) < a := by omega
    have h2 : 0 ≤ a := by omega
    go_enter Try.func16, Try.ntmps16
    go_wp2
    go_ret3
    exact ⟨rfl, rfl⟩

/-- spec.GetLen -/
theorem get_sGetLen (ao : Option Addr) (n cap : Nat) (a : Int) (l : List UInt8) (w : World) (hr : RdIn w ao n cap l) (hn : n ≤ 1099511627776) :
    Calls Try.prog 16 #[.slice ao n cap, .int .i64 a] w fun e w' => e = ret3 (getE l a) ∧ w' = w := by
  have hl := hr.1.1
  by_cases h : 0 ≤ a ∧ a ≤ n
  · obtain ⟨p, rfl⟩ := Int.eq_ofNat_of_zero_le h.1
    have e : getE l (p : Int) = ansG l p 4 := by
      unfold getE
      rw [if_pos (by omega)]
      simp
    rw [e]
    exact get_sGetLen_in ao n cap p l w hr (by omega) hn
  · have e : getE l a = (0, 0, 2) := by
      unfold getE
      rw [if_neg (by omega)]
    rw [e]
    exact get_sGetLen_out ao n cap a w (by omega)

end Go.Proofs.Ytoolaeeodalieaa
