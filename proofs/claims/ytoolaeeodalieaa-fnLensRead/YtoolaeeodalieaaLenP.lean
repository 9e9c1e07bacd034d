/- Plain facts: a length that is put is read, cut it is waited for; one that is read has just its bytes. -/
import Derived.Test.YtoolaeeodalieaaLenG
set_option linter.unusedVariables false
set_option linter.unusedSimpArgs false
namespace Go.Proofs.Ytoolaeeodalieaa

theorem bt_right (l m : List UInt8) (i : Nat) : bt (l ++ m) (l.length + i) = bt m i := by
  simp [bt, List.getD_eq_getElem?_getD, List.getElem?_append_right (show l.length ≤ l.length + i by omega)]

theorem small_nat (n : Nat) (h : n < 256) : (UInt8.ofNat n).toNat = n := by simp; omega

/-- The bytes of a number, written out. -/
theorem lenF_cases (n : Nat) (h : n ≤ 268435455) :
    (n < 128 ∧ lenF 3 n = [UInt8.ofNat n]) ∨
    (128 ≤ n ∧ n < 16384 ∧ lenF 3 n = [moreB n, UInt8.ofNat (n / 128)]) ∨
    (16384 ≤ n ∧ n < 2097152 ∧ lenF 3 n = [moreB n, moreB (n / 128), UInt8.ofNat (n / 16384)]) ∨
    (2097152 ≤ n ∧ lenF 3 n = [moreB n, moreB (n / 128), moreB (n / 16384), UInt8.ofNat (n / 2097152)]) := by
  by_cases h1 : n < 128
  · exact .inl ⟨h1, lenF_small 3 n h1⟩
  · refine .inr ?_
    rw [lenF_more 2 n h1]
    by_cases h2 : n / 128 < 128
    · exact .inl ⟨by omega, by omega, by rw [lenF_small _ _ h2]⟩
    · refine .inr ?_
      rw [lenF_more 1 _ h2, Nat.div_div_eq_div_mul]
      by_cases h3 : n / (128 * 128) < 128
      · exact .inl ⟨by omega, by omega, by rw [lenF_small _ _ h3]⟩
      · refine .inr ⟨by omega, ?_⟩
        rw [lenF_more 0 _ h3, Nat.div_div_eq_div_mul, lenF_small _ _ (by omega)]

theorem num_step {l : List UInt8} {p k z b : Nat} (h : num l p k = z) (hb : bt l (p + k) = b) : num l p (k + 1) = z + b % 128 * 128 ^ k := by
  show num l p k + _ = _
  rw [h, hb]

/-- What was put is read. -/
theorem ansG_put (l : List UInt8) (n : Nat) (h : n ≤ 268435455) : ansG (l ++ lenF 3 n) l.length 4 = ((n : Int), ((l.length + (lenF 3 n).length : Nat) : Int), 0) := by
  rcases lenF_cases n h with ⟨h1, e⟩ | ⟨h1, h2, e⟩ | ⟨h1, h2, e⟩ | ⟨h1, e⟩
  · rw [e]
    have b0 : bt (l ++ [UInt8.ofNat n]) (l.length + 0) = n := by rw [bt_right]; exact small_nat n (by omega)
    have n1 := num_step (show num (l ++ [UInt8.ofNat n]) l.length 0 = 0 from rfl) b0
    rw [show (4 : Nat) = 4 - 0 from rfl, ansG_last (k := 0) (by omega) (by simp) (by rw [b0]; exact h1) (by omega), n1]
    simp
    omega
  · rw [e]
    generalize hL : l ++ [moreB n, UInt8.ofNat (n / 128)] = L
    have b0 : bt L (l.length + 0) = n % 128 + 128 := by rw [← hL, bt_right]; exact moreB_nat n
    have b1 : bt L (l.length + 1) = n / 128 := by rw [← hL, bt_right]; exact small_nat _ (by omega)
    have hlen : L.length = l.length + 2 := by rw [← hL]; simp
    have n1 := num_step (show num L l.length 0 = 0 from rfl) b0
    have n2 := num_step n1 b1
    rw [show (4 : Nat) = 4 - 0 from rfl, ansG_more (k := 0) (by omega) (by omega) (by omega), ansG_last (k := 1) (by omega) (by omega) (by omega) (by omega), n2]
    simp
    omega
  · rw [e]
    generalize hL : l ++ [moreB n, moreB (n / 128), UInt8.ofNat (n / 16384)] = L
    have b0 : bt L (l.length + 0) = n % 128 + 128 := by rw [← hL, bt_right]; exact moreB_nat n
    have b1 : bt L (l.length + 1) = n / 128 % 128 + 128 := by rw [← hL, bt_right]; exact moreB_nat _
    have b2 : bt L (l.length + 2) = n / 16384 := by rw [← hL, bt_right]; exact small_nat _ (by omega)
    have hlen : L.length = l.length + 3 := by rw [← hL]; simp
    have n1 := num_step (show num L l.length 0 = 0 from rfl) b0
    have n2 := num_step n1 b1
    have n3 := num_step n2 b2
    rw [show (4 : Nat) = 4 - 0 from rfl, ansG_more (k := 0) (by omega) (by omega) (by omega), ansG_more (k := 1) (by omega) (by omega) (by omega), ansG_last (k := 2) (by omega) (by omega) (by omega) (by omega), n3]
    simp
    omega
  · rw [e]
    generalize hL : l ++ [moreB n, moreB (n / 128), moreB (n / 16384), UInt8.ofNat (n / 2097152)] = L
    have b0 : bt L (l.length + 0) = n % 128 + 128 := by rw [← hL, bt_right]; exact moreB_nat n
    have b1 : bt L (l.length + 1) = n / 128 % 128 + 128 := by rw [← hL, bt_right]; exact moreB_nat _
    have b2 : bt L (l.length + 2) = n / 16384 % 128 + 128 := by rw [← hL, bt_right]; exact moreB_nat _
    have b3 : bt L (l.length + 3) = n / 2097152 := by rw [← hL, bt_right]; exact small_nat _ (by omega)
    have hlen : L.length = l.length + 4 := by rw [← hL]; simp
    have n1 := num_step (show num L l.length 0 = 0 from rfl) b0
    have n2 := num_step n1 b1
    have n3 := num_step n2 b2
    have n4 := num_step n3 b3
    rw [show (4 : Nat) = 4 - 0 from rfl, ansG_more (k := 0) (by omega) (by omega) (by omega), ansG_more (k := 1) (by omega) (by omega) (by omega), ansG_more (k := 2) (by omega) (by omega) (by omega), ansG_last (k := 3) (by omega) (by omega) (by omega) (by omega), n4]
    simp
    omega

/-- Without its last byte it is waited for. -/
theorem ansG_cut (l : List UInt8) (n : Nat) (h : n ≤ 268435455) : ansG ((l ++ lenF 3 n).take (l.length + (lenF 3 n).length - 1)) l.length 4 = (0, 0, 1) := by
  rcases lenF_cases n h with ⟨h1, e⟩ | ⟨h1, h2, e⟩ | ⟨h1, h2, e⟩ | ⟨h1, e⟩
  · rw [e]
    have hL : (l ++ [UInt8.ofNat n]).take (l.length + [UInt8.ofNat n].length - 1) = l := by simp
    rw [hL, show (4 : Nat) = 4 - 0 from rfl, ansG_end (k := 0) (by omega) (by omega)]
  · rw [e]
    have hL : (l ++ [moreB n, UInt8.ofNat (n / 128)]).take (l.length + [moreB n, UInt8.ofNat (n / 128)].length - 1) = l ++ [moreB n] := by
      rw [List.take_append, List.take_of_length_le (by simp)]
      simp
    rw [hL]
    generalize hM : l ++ [moreB n] = L
    have b0 : bt L (l.length + 0) = n % 128 + 128 := by rw [← hM, bt_right]; exact moreB_nat n
    have hlen : L.length = l.length + 1 := by rw [← hM]; simp
    rw [show (4 : Nat) = 4 - 0 from rfl, ansG_more (k := 0) (by omega) (by omega) (by omega), ansG_end (k := 1) (by omega) (by omega)]
  · rw [e]
    have hL : (l ++ [moreB n, moreB (n / 128), UInt8.ofNat (n / 16384)]).take (l.length + [moreB n, moreB (n / 128), UInt8.ofNat (n / 16384)].length - 1) = l ++ [moreB n, moreB (n / 128)] := by
      rw [List.take_append, List.take_of_length_le (by simp)]
      simp
    rw [hL]
    generalize hM : l ++ [moreB n, moreB (n / 128)] = L
    have b0 : bt L (l.length + 0) = n % 128 + 128 := by rw [← hM, bt_right]; exact moreB_nat n
    have b1 : bt L (l.length + 1) = n / 128 % 128 + 128 := by rw [← hM, bt_right]; exact moreB_nat _
    have hlen : L.length = l.length + 2 := by rw [← hM]; simp
    rw [show (4 : Nat) = 4 - 0 from rfl, ansG_more (k := 0) (by omega) (by omega) (by omega), ansG_more (k := 1) (by omega) (by omega) (by omega), ansG_end (k := 2) (by omega) (by omega)]
  · rw [e]
    have hL : (l ++ [moreB n, moreB (n / 128), moreB (n / 16384), UInt8.ofNat (n / 2097152)]).take (l.length + [moreB n, moreB (n / 128), moreB (n / 16384), UInt8.ofNat (n / 2097152)].length - 1) = l ++ [moreB n, moreB (n / 128), moreB (n / 16384)] := by
      rw [List.take_append, List.take_of_length_le (by simp)]
      simp
    rw [hL]
    generalize hM : l ++ [moreB n, moreB (n / 128), moreB (n / 16384)] = L
    have b0 : bt L (l.length + 0) = n % 128 + 128 := by rw [← hM, bt_right]; exact moreB_nat n
    have b1 : bt L (l.length + 1) = n / 128 % 128 + 128 := by rw [← hM, bt_right]; exact moreB_nat _
    have b2 : bt L (l.length + 2) = n / 16384 % 128 + 128 := by rw [← hM, bt_right]; exact moreB_nat _
    have hlen : L.length = l.length + 3 := by rw [← hM]; simp
    rw [show (4 : Nat) = 4 - 0 from rfl, ansG_more (k := 0) (by omega) (by omega) (by omega), ansG_more (k := 1) (by omega) (by omega) (by omega), ansG_more (k := 2) (by omega) (by omega) (by omega), ansG_end (k := 3) (by omega) (by omega)]

/-- A piece of bytes, written out. -/
theorem getD_is (l : List UInt8) (p : Nat) (h : p < l.length) : l.getD p 0 = l[p] := by
  simp [List.getD_eq_getElem?_getD, List.getElem?_eq_getElem h]
theorem pieceS (l : List UInt8) (p k : Nat) (h : p + k + 1 ≤ l.length) : (l.drop p).take (k + 1) = l.getD p 0 :: (l.drop (p + 1)).take k := by
  rw [List.drop_eq_getElem_cons (by omega), List.take_succ_cons, getD_is l p (by omega)]
theorem piece1 (l : List UInt8) (p : Nat) (h : p + 1 ≤ l.length) : (l.drop p).take 1 = [l.getD p 0] := by
  rw [pieceS l p 0 (by omega), List.take_zero]

theorem byte_is (u : UInt8) (n : Nat) (h : u.toNat = n) : UInt8.ofNat n = u := by
  subst h
  simp
theorem more_is (u : UInt8) (n : Nat) (h : u.toNat = n % 128 + 128) : moreB n = u := byte_is u _ h

set_option maxHeartbeats 1000000 in
/-- A length that is read has just these bytes. -/
theorem ansG_good {l : List UInt8} {p : Nat} {x y : Int} (hp : p ≤ l.length) (h : ansG l p 4 = (x, y, 0)) :
    ∃ k n : Nat, x = n ∧ n ≤ 268435455 ∧ y = ((p + k : Nat) : Int) ∧ p + k ≤ l.length ∧ (l.drop p).take k = lenF 3 n := by
  have lt := fun i => bt_lt l i
  have dn : ∀ k, (l.getD (p + k) 0).toNat = bt l (p + k) := fun k => rfl
  have l0 := lt (p + 0); have l1 := lt (p + 1); have l2 := lt (p + 2); have l3 := lt (p + 3)
  have d0 := dn 0; have d1 := dn 1; have d2 := dn 2; have d3 := dn 3
  clear lt dn
  generalize e0 : bt l (p + 0) = b0 at *
  generalize e1 : bt l (p + 1) = b1 at *
  generalize e2 : bt l (p + 2) = b2 at *
  generalize e3 : bt l (p + 3) = b3 at *
  have n1 := num_step (show num l p 0 = 0 from rfl) e0
  have n2 := num_step n1 e1
  have n3 := num_step n2 e2
  have n4 := num_step n3 e3
  rw [show (4 : Nat) = 4 - 0 from rfl] at h
  by_cases c0 : p + 0 < l.length
  · by_cases s0 : b0 < 128
    · rw [ansG_last (k := 0) (by omega) c0 (by omega) (by omega), n1] at h
      simp only [Prod.mk.injEq] at h
      obtain ⟨rfl, rfl, _⟩ := h
      refine ⟨1, _, rfl, by omega, rfl, by omega, ?_⟩
      rw [piece1 l p (by omega), lenF_small _ _ (by omega)]
      congr 1
      exact (byte_is _ _ (by simp only [Nat.add_zero] at d0; omega)).symm
    · rw [ansG_more (k := 0) (by omega) c0 (by omega)] at h
      by_cases c1 : p + 1 < l.length
      · by_cases s1 : b1 < 128
        · by_cases z1 : b1 = 0
          · rw [ansG_zero (k := 1) (by omega) c1 (by omega) (by omega)] at h
            simp at h
          · rw [ansG_last (k := 1) (by omega) c1 (by omega) (by omega), n2] at h
            simp only [Prod.mk.injEq] at h
            obtain ⟨rfl, rfl, _⟩ := h
            refine ⟨2, _, rfl, by omega, rfl, by omega, ?_⟩
            rw [pieceS l p 1 (by omega), piece1 l (p + 1) (by omega)]
            rcases lenF_cases (0 + b0 % 128 * 128 ^ 0 + b1 % 128 * 128 ^ 1) (by omega) with ⟨q1, e⟩ | ⟨q1, q2, e⟩ | ⟨q1, q2, e⟩ | ⟨q1, e⟩
            · omega
            · rw [e, more_is (l.getD p 0) _ (by simp only [Nat.add_zero] at d0; omega), byte_is (l.getD (p + 1) 0) _ (by omega)]
            · omega
            · omega
        · rw [ansG_more (k := 1) (by omega) c1 (by omega)] at h
          by_cases c2 : p + 2 < l.length
          · by_cases s2 : b2 < 128
            · by_cases z2 : b2 = 0
              · rw [ansG_zero (k := 2) (by omega) c2 (by omega) (by omega)] at h
                simp at h
              · rw [ansG_last (k := 2) (by omega) c2 (by omega) (by omega), n3] at h
                simp only [Prod.mk.injEq] at h
                obtain ⟨rfl, rfl, _⟩ := h
                refine ⟨3, _, rfl, by omega, rfl, by omega, ?_⟩
                rw [pieceS l p 2 (by omega), pieceS l (p + 1) 1 (by omega), piece1 l (p + 1 + 1) (by omega)]
                rcases lenF_cases (0 + b0 % 128 * 128 ^ 0 + b1 % 128 * 128 ^ 1 + b2 % 128 * 128 ^ 2) (by omega) with ⟨q1, e⟩ | ⟨q1, q2, e⟩ | ⟨q1, q2, e⟩ | ⟨q1, e⟩
                · omega
                · omega
                · rw [e, more_is (l.getD p 0) _ (by simp only [Nat.add_zero] at d0; omega), more_is (l.getD (p + 1) 0) _ (by omega), byte_is (l.getD (p + 1 + 1) 0) _ (by show (l.getD (p + 2) 0).toNat = _; omega)]
                · omega
            · rw [ansG_more (k := 2) (by omega) c2 (by omega)] at h
              by_cases c3 : p + 3 < l.length
              · by_cases s3 : b3 < 128
                · by_cases z3 : b3 = 0
                  · rw [ansG_zero (k := 3) (by omega) c3 (by omega) (by omega)] at h
                    simp at h
                  · rw [ansG_last (k := 3) (by omega) c3 (by omega) (by omega), n4] at h
                    simp only [Prod.mk.injEq] at h
                    obtain ⟨rfl, rfl, _⟩ := h
                    refine ⟨4, _, rfl, by omega, rfl, by omega, ?_⟩
                    rw [pieceS l p 3 (by omega), pieceS l (p + 1) 2 (by omega), pieceS l (p + 1 + 1) 1 (by omega), piece1 l (p + 1 + 1 + 1) (by omega)]
                    rcases lenF_cases (0 + b0 % 128 * 128 ^ 0 + b1 % 128 * 128 ^ 1 + b2 % 128 * 128 ^ 2 + b3 % 128 * 128 ^ 3) (by omega) with ⟨q1, e⟩ | ⟨q1, q2, e⟩ | ⟨q1, q2, e⟩ | ⟨q1, e⟩
                    · omega
                    · omega
                    · omega
                    · rw [e, more_is (l.getD p 0) _ (by simp only [Nat.add_zero] at d0; omega), more_is (l.getD (p + 1) 0) _ (by omega), more_is (l.getD (p + 1 + 1) 0) _ (by show (l.getD (p + 2) 0).toNat = _; omega), byte_is (l.getD (p + 1 + 1 + 1) 0) _ (by show (l.getD (p + 3) 0).toNat = _; omega)]
                · rw [ansG_more (k := 3) (by omega) c3 (by omega)] at h
                  simp [ansG] at h
              · rw [ansG_end (k := 3) (by omega) (by omega)] at h
                simp at h
          · rw [ansG_end (k := 2) (by omega) (by omega)] at h
            simp at h
      · rw [ansG_end (k := 1) (by omega) (by omega)] at h
        simp at h
  · rw [ansG_end (k := 0) (by omega) (by omega)] at h
    simp at h

end Go.Proofs.Ytoolaeeodalieaa
