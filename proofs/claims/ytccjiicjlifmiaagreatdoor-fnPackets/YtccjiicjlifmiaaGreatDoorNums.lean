/- Plain facts on masks of whole numbers of 64 bits. -/
import Derived.WalkKit
set_option linter.unusedVariables false
set_option linter.unusedSimpArgs false
namespace Go.Proofs.YtccjiicjlifmiaaGreatDoor

theorem ofInt_nat (n : Int) : (BitVec.ofInt 64 n).toNat = (n % 18446744073709551616).toNat := by
  rw [BitVec.toNat_ofInt]
  rfl

theorem wrap_nat (m : Nat) (h : m < 9223372036854775808) : IntKind.i64.wrap (m : Int) = m := by
  rw [IntKind.wrap_i64]
  omega

theorem mask7 (n : Int) : bits .and .i64 n 7 = n % 8 := by
  show IntKind.i64.wrap (((BitVec.ofInt 64 n &&& BitVec.ofInt 64 7) : BitVec 64).toNat : Int) = _
  rw [BitVec.toNat_and, ofInt_nat, ofInt_nat, show ((7 : Int) % 18446744073709551616).toNat = 2 ^ 3 - 1 from by decide, Nat.and_two_pow_sub_one_eq_mod]
  have h := Nat.mod_lt (n % 18446744073709551616).toNat (show 0 < 2 ^ 3 by decide)
  rw [show (2 : Nat) ^ 3 = 8 from by decide] at *
  rw [wrap_nat _ (by omega)]
  omega

theorem mask15 (n : Int) : bits .and .i64 n 15 = n % 16 := by
  show IntKind.i64.wrap (((BitVec.ofInt 64 n &&& BitVec.ofInt 64 15) : BitVec 64).toNat : Int) = _
  rw [BitVec.toNat_and, ofInt_nat, ofInt_nat, show ((15 : Int) % 18446744073709551616).toNat = 2 ^ 4 - 1 from by decide, Nat.and_two_pow_sub_one_eq_mod]
  have h := Nat.mod_lt (n % 18446744073709551616).toNat (show 0 < 2 ^ 4 by decide)
  rw [show (2 : Nat) ^ 4 = 16 from by decide] at *
  rw [wrap_nat _ (by omega)]
  omega

theorem mask31 (n : Int) : bits .and .i64 n 31 = n % 32 := by
  show IntKind.i64.wrap (((BitVec.ofInt 64 n &&& BitVec.ofInt 64 31) : BitVec 64).toNat : Int) = _
  rw [BitVec.toNat_and, ofInt_nat, ofInt_nat, show ((31 : Int) % 18446744073709551616).toNat = 2 ^ 5 - 1 from by decide, Nat.and_two_pow_sub_one_eq_mod]
  have h := Nat.mod_lt (n % 18446744073709551616).toNat (show 0 < 2 ^ 5 by decide)
  rw [show (2 : Nat) ^ 5 = 32 from by decide] at *
  rw [wrap_nat _ (by omega)]
  omega

theorem mask255 (n : Int) : bits .and .i64 n 255 = n % 256 := by
  show IntKind.i64.wrap (((BitVec.ofInt 64 n &&& BitVec.ofInt 64 255) : BitVec 64).toNat : Int) = _
  rw [BitVec.toNat_and, ofInt_nat, ofInt_nat, show ((255 : Int) % 18446744073709551616).toNat = 2 ^ 8 - 1 from by decide, Nat.and_two_pow_sub_one_eq_mod]
  have h := Nat.mod_lt (n % 18446744073709551616).toNat (show 0 < 2 ^ 8 by decide)
  rw [show (2 : Nat) ^ 8 = 256 from by decide] at *
  rw [wrap_nat _ (by omega)]
  omega

theorem mask65535 (n : Int) : bits .and .i64 n 65535 = n % 65536 := by
  show IntKind.i64.wrap (((BitVec.ofInt 64 n &&& BitVec.ofInt 64 65535) : BitVec 64).toNat : Int) = _
  rw [BitVec.toNat_and, ofInt_nat, ofInt_nat, show ((65535 : Int) % 18446744073709551616).toNat = 2 ^ 16 - 1 from by decide, Nat.and_two_pow_sub_one_eq_mod]
  have h := Nat.mod_lt (n % 18446744073709551616).toNat (show 0 < 2 ^ 16 by decide)
  rw [show (2 : Nat) ^ 16 = 65536 from by decide] at *
  rw [wrap_nat _ (by omega)]
  omega

end Go.Proofs.YtccjiicjlifmiaaGreatDoor
