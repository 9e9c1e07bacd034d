/- Contracts of the functions that read a list of bytes. -/
import Derived.Test.YtjjplfedaichcaaDoorStrs
import Derived.Test.YtjjplfedaichcaaDoorNums
set_option linter.unusedVariables false
set_option linter.unusedSimpArgs false
namespace Go.Proofs.YtjjplfedaichcaaDoor
open Go.RowKit

/-- The slice value (address ao, n long) reads as the bytes l. -/
def Rd (w : World) (ao : Option Addr) (n : Nat) (l : List UInt8) : Prop :=
  l.length = n ∧ ∀ i, i < n → ∃ b off, ao = some ⟨b, off, none⟩ ∧ w.cell? ⟨b, off + i, none⟩ = some (.int .u8 (bt l i))

theorem Rd.at {w : World} {ao : Option Addr} {n : Nat} {l : List UInt8} (h : Rd w ao n l) (hn : 0 < n) :
    ∃ b off, ao = some ⟨b, off, none⟩ ∧ ∀ i, i < n → w.cell? ⟨b, off + i, none⟩ = some (.int .u8 (bt l i)) := by
  obtain ⟨b, off, e, _⟩ := h.2 0 hn
  refine ⟨b, off, e, fun i hi => ?_⟩
  obtain ⟨b', off', e', hc⟩ := h.2 i hi
  rw [e] at e'
  simp at e'
  obtain ⟨rfl, rfl⟩ := e'
  exact hc

/-- spec.l1In -/
theorem in_sl1In (x a b : Int) (w : World) : Calls Tryd.prog 6 #[.int .i64 x, .int .i64 a, .int .i64 b] w fun e w' => e = .returned (.bool (decide (a ≤ x ∧ x ≤ b))) ∧ w' = w := by
  by_cases h1 : a ≤ x
  · by_cases h2 : x ≤ b
    · go_enter Tryd.func6, Tryd.ntmps6
      go_wp2
      go_ret
      exact ⟨ret_bool (by simp [h1, h2]), rfl⟩
    · go_enter Tryd.func6, Tryd.ntmps6
      go_wp2
      go_ret
      exact ⟨ret_bool (by simp [h1, h2]), rfl⟩
  · go_enter Tryd.func6, Tryd.ntmps6
    go_wp2
    go_ret
    exact ⟨ret_bool (by simp; omega), rfl⟩

theorem in_sl1Inb (x a b : Int) (r : Bool) (w : World) (h : decide (a ≤ x ∧ x ≤ b) = r) : Calls Tryd.prog 6 #[.int .i64 x, .int .i64 a, .int .i64 b] w fun e w' => e = .returned (.bool r) ∧ w' = w := by
  subst h
  exact in_sl1In x a b w

/-- The number behind k more bytes. -/
def conts (l : List UInt8) (p base : Nat) : Nat → Nat
  | 0 => base
  | k + 1 => conts l p base k * 64 + bt l (p + (k + 1)) % 64

theorem conts_le (l : List UInt8) (p base : Nat) (hb : base ≤ 31) : ∀ k, k ≤ 3 → conts l p base k ≤ 8388607 := by
  intro k hk
  have h1 := Nat.mod_lt (bt l (p + 1)) (show 0 < 64 by omega)
  have h2 := Nat.mod_lt (bt l (p + 2)) (show 0 < 64 by omega)
  have h3 := Nat.mod_lt (bt l (p + 3)) (show 0 < 64 by omega)
  match k, hk with
  | 0, _ => simp only [conts]; omega
  | 1, _ => simp only [conts]; omega
  | 2, _ => simp only [conts]; omega
  | 3, _ => simp only [conts]; omega
  | k + 4, hk => omega

/-- What the specification answers for the sign at place p. -/
def ansR (l : List UInt8) (p : Nat) : Ending := match runeL (l.drop p) with
  | some (r, k) => .returned (.tuple #[.int .i64 r, .int .i64 ((p + k : Nat) : Int), .bool true])
  | none => .returned (.tuple #[.int .i64 0, .int .i64 0, .bool false])

theorem ansR_none {l : List UInt8} {p : Nat} (h : runeL (l.drop p) = none) : ansR l p = .returned (.tuple #[.int .i64 0, .int .i64 0, .bool false]) := by
  simp [ansR, h]
theorem ansR_some {l : List UInt8} {p r k : Nat} (h : runeL (l.drop p) = some (r, k)) : ansR l p = .returned (.tuple #[.int .i64 r, .int .i64 ((p + k : Nat) : Int), .bool true]) := by
  simp [ansR, h]

theorem runeL_at {l : List UInt8} {n p : Nat} (hl : l.length = n) (hp : p < n) : runeL (l.drop p) = rune4 (n - p) (bt l p) (bt l (p + 1)) (bt l (p + 2)) (bt l (p + 3)) := by
  unfold runeL
  rw [if_neg (by rw [List.length_drop]; omega), List.length_drop, bt_drop, bt_drop, bt_drop, bt_drop, Nat.add_zero, hl]

/-- The plain side of a sign of 2 bytes. -/
theorem plain2 {l : List UInt8} {n p x : Nat} (hl : l.length = n) (hp : p < n) (hx : bt l p = x) (h1 : 192 ≤ x) (h2 : x < 224) :
    (n ≤ p + 1 → runeL (l.drop p) = none) ∧
    ((∃ k, k < 1 ∧ (bt l (p + (k + 1)) < 128 ∨ 191 < bt l (p + (k + 1)))) → runeL (l.drop p) = none) ∧
    ((∀ k, k < 1 → 128 ≤ bt l (p + (k + 1)) ∧ bt l (p + (k + 1)) ≤ 191) → (conts l p (x % 32) 1 < 128 ∨ 1114111 < conts l p (x % 32) 1 ∨ (55296 ≤ conts l p (x % 32) 1 ∧ conts l p (x % 32) 1 ≤ 57343)) → runeL (l.drop p) = none) ∧
    (p + 1 < n → (∀ k, k < 1 → 128 ≤ bt l (p + (k + 1)) ∧ bt l (p + (k + 1)) ≤ 191) → ¬ (conts l p (x % 32) 1 < 128) → ¬ (1114111 < conts l p (x % 32) 1) → ¬ (55296 ≤ conts l p (x % 32) 1 ∧ conts l p (x % 32) 1 ≤ 57343) → runeL (l.drop p) = some (conts l p (x % 32) 1, 2)) := by
  have e : runeL (l.drop p) = (if 1 < n - p ∧ (128 ≤ bt l (p + 1) ∧ bt l (p + 1) ≤ 191) ∧ 128 ≤ x % 32 * 64 + bt l (p + 1) % 64 then some (x % 32 * 64 + bt l (p + 1) % 64, 2) else none) := by
    rw [runeL_at hl hp, hx]; unfold rune4; rw [if_neg (by omega), if_neg (by omega), if_pos h2]
  rw [e]
  refine ⟨fun h => if_neg (by omega), ?_, fun h hbad => ?_, fun hs h a b c => ?_⟩
  · rintro ⟨k, hk, h⟩
    have hk' : k = 0 := by omega
    rcases hk' with rfl
    all_goals (simp only [Nat.zero_add, Nat.reduceAdd] at h; exact if_neg (by omega))
  · have a0 := h 0 (by omega)
    simp only [conts, Nat.zero_add, Nat.reduceAdd] at *
    exact if_neg (by omega)
  · have a0 := h 0 (by omega)
    simp only [conts, Nat.zero_add, Nat.reduceAdd] at *
    rw [if_pos (by omega)]

/-- The plain side of a sign of 3 bytes. -/
theorem plain3 {l : List UInt8} {n p x : Nat} (hl : l.length = n) (hp : p < n) (hx : bt l p = x) (h1 : 224 ≤ x) (h2 : x < 240) :
    (n ≤ p + 2 → runeL (l.drop p) = none) ∧
    ((∃ k, k < 2 ∧ (bt l (p + (k + 1)) < 128 ∨ 191 < bt l (p + (k + 1)))) → runeL (l.drop p) = none) ∧
    ((∀ k, k < 2 → 128 ≤ bt l (p + (k + 1)) ∧ bt l (p + (k + 1)) ≤ 191) → (conts l p (x % 16) 2 < 2048 ∨ 1114111 < conts l p (x % 16) 2 ∨ (55296 ≤ conts l p (x % 16) 2 ∧ conts l p (x % 16) 2 ≤ 57343)) → runeL (l.drop p) = none) ∧
    (p + 2 < n → (∀ k, k < 2 → 128 ≤ bt l (p + (k + 1)) ∧ bt l (p + (k + 1)) ≤ 191) → ¬ (conts l p (x % 16) 2 < 2048) → ¬ (1114111 < conts l p (x % 16) 2) → ¬ (55296 ≤ conts l p (x % 16) 2 ∧ conts l p (x % 16) 2 ≤ 57343) → runeL (l.drop p) = some (conts l p (x % 16) 2, 3)) := by
  have e : runeL (l.drop p) = (if 2 < n - p ∧ (128 ≤ bt l (p + 1) ∧ bt l (p + 1) ≤ 191) ∧ (128 ≤ bt l (p + 2) ∧ bt l (p + 2) ≤ 191) ∧ 2048 ≤ x % 16 * 4096 + bt l (p + 1) % 64 * 64 + bt l (p + 2) % 64 ∧ ¬ (55296 ≤ x % 16 * 4096 + bt l (p + 1) % 64 * 64 + bt l (p + 2) % 64 ∧ x % 16 * 4096 + bt l (p + 1) % 64 * 64 + bt l (p + 2) % 64 ≤ 57343) then some (x % 16 * 4096 + bt l (p + 1) % 64 * 64 + bt l (p + 2) % 64, 3) else none) := by
    rw [runeL_at hl hp, hx]; unfold rune4; rw [if_neg (by omega), if_neg (by omega), if_neg (by omega), if_pos h2]
  rw [e]
  refine ⟨fun h => if_neg (by omega), ?_, fun h hbad => ?_, fun hs h a b c => ?_⟩
  · rintro ⟨k, hk, h⟩
    have hk' : k = 0 ∨ k = 1 := by omega
    rcases hk' with rfl | rfl
    all_goals (simp only [Nat.zero_add, Nat.reduceAdd] at h; exact if_neg (by omega))
  · have a0 := h 0 (by omega); have a1 := h 1 (by omega)
    simp only [conts, Nat.zero_add, Nat.reduceAdd] at *
    exact if_neg (by omega)
  · have a0 := h 0 (by omega); have a1 := h 1 (by omega)
    simp only [conts, Nat.zero_add, Nat.reduceAdd] at *
    rw [if_pos (by omega)]
    simp only [Option.some.injEq, Prod.mk.injEq, and_true]
    omega

/-- The plain side of a sign of 4 bytes. -/
theorem plain4 {l : List UInt8} {n p x : Nat} (hl : l.length = n) (hp : p < n) (hx : bt l p = x) (h1 : 240 ≤ x) (h2 : x < 248) :
    (n ≤ p + 3 → runeL (l.drop p) = none) ∧
    ((∃ k, k < 3 ∧ (bt l (p + (k + 1)) < 128 ∨ 191 < bt l (p + (k + 1)))) → runeL (l.drop p) = none) ∧
    ((∀ k, k < 3 → 128 ≤ bt l (p + (k + 1)) ∧ bt l (p + (k + 1)) ≤ 191) → (conts l p (x % 8) 3 < 65536 ∨ 1114111 < conts l p (x % 8) 3 ∨ (55296 ≤ conts l p (x % 8) 3 ∧ conts l p (x % 8) 3 ≤ 57343)) → runeL (l.drop p) = none) ∧
    (p + 3 < n → (∀ k, k < 3 → 128 ≤ bt l (p + (k + 1)) ∧ bt l (p + (k + 1)) ≤ 191) → ¬ (conts l p (x % 8) 3 < 65536) → ¬ (1114111 < conts l p (x % 8) 3) → ¬ (55296 ≤ conts l p (x % 8) 3 ∧ conts l p (x % 8) 3 ≤ 57343) → runeL (l.drop p) = some (conts l p (x % 8) 3, 4)) := by
  have e : runeL (l.drop p) = (if 3 < n - p ∧ (128 ≤ bt l (p + 1) ∧ bt l (p + 1) ≤ 191) ∧ (128 ≤ bt l (p + 2) ∧ bt l (p + 2) ≤ 191) ∧ (128 ≤ bt l (p + 3) ∧ bt l (p + 3) ≤ 191) ∧ 65536 ≤ x % 8 * 262144 + bt l (p + 1) % 64 * 4096 + bt l (p + 2) % 64 * 64 + bt l (p + 3) % 64 ∧ x % 8 * 262144 + bt l (p + 1) % 64 * 4096 + bt l (p + 2) % 64 * 64 + bt l (p + 3) % 64 ≤ 1114111 then some (x % 8 * 262144 + bt l (p + 1) % 64 * 4096 + bt l (p + 2) % 64 * 64 + bt l (p + 3) % 64, 4) else none) := by
    rw [runeL_at hl hp, hx]; unfold rune4; rw [if_neg (by omega), if_neg (by omega), if_neg (by omega), if_neg (by omega), if_pos h2]
  rw [e]
  refine ⟨fun h => if_neg (by omega), ?_, fun h hbad => ?_, fun hs h a b c => ?_⟩
  · rintro ⟨k, hk, h⟩
    have hk' : k = 0 ∨ k = 1 ∨ k = 2 := by omega
    rcases hk' with rfl | rfl | rfl
    all_goals (simp only [Nat.zero_add, Nat.reduceAdd] at h; exact if_neg (by omega))
  · have a0 := h 0 (by omega); have a1 := h 1 (by omega); have a2 := h 2 (by omega)
    simp only [conts, Nat.zero_add, Nat.reduceAdd] at *
    exact if_neg (by omega)
  · have a0 := h 0 (by omega); have a1 := h 1 (by omega); have a2 := h 2 (by omega)
    simp only [conts, Nat.zero_add, Nat.reduceAdd] at *
    rw [if_pos (by omega)]
    simp only [Option.some.injEq, Prod.mk.injEq, and_true]
    omega

end Go.Proofs.YtjjplfedaichcaaDoor
