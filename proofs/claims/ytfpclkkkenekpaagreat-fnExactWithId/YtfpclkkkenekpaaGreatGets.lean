/- Contracts of what gets numbers, texts and bytes out of a list of bytes, of both sides. -/
import Derived.Test.YtfpclkkkenekpaaGreatPuts
set_option linter.unusedVariables false
set_option linter.unusedSimpArgs false
namespace Go.Proofs.YtfpclkkkenekpaaGreat
open Go.RowKit

theorem wraps_i64 (n : Int) (h₀ : 0 ≤ n) (h₁ : n < 2 ^ 62) : IntKind.i64.wrap n = n := by rw [IntKind.wrap_i64]; omega
theorem or_word (x y : Nat) (hx : x < 256) (hy : y < 256) : bits .or .i64 ((x : Int) * 256) (y : Int) = (x : Int) * 256 + y :=
  bits_join .i64 62 (by decide) wraps_i64 8 _ _ (by omega) (by omega) (by omega) (by omega) (by omega) (by omega)

/-- The number at place p. -/
def gw (l : List UInt8) (p : Nat) : Nat := bt l p * 256 + bt l (p + 1)
theorem gw_lt (l : List UInt8) (p : Nat) : gw l p < 65536 := by
  have h1 := bt_lt l p
  have h2 := bt_lt l (p + 1)
  unfold gw
  omega

/-- A piece of what is read, as the slice instruction makes it. -/
theorem slice_cut {w : World} {ao : Option Addr} {n cap : Nat} {l : List UInt8} (hr : RdIn w ao n cap l) (p m : Nat) (hpm : p + m ≤ n) : ∃ ax cx,
    (∀ w', (Instr.slice 22 (.slice ao n cap) (some (.int .i64 (p : Int))) (some (.int .i64 ((p : Int) + (m : Int)))) none).run Tryz.prog w' = .ok (.slice ax m cx) w') ∧ RdIn w ax m cx ((l.drop p).take m) := by
  obtain ⟨i0, hi, hz0, hz1, hz2⟩ := info_parts info5
  obtain ⟨⟨hl, hc⟩, hcap, hmax, hnil⟩ := hr
  have he : Tryz.prog.elem 22 = 5 := by kernel_rfl
  have ht : Tryz.prog.underlying 22 = some (.slice (Tryz.prog.elem 22)) := by rw [he]; exact Tryz.underlying22
  refine ⟨if cap = p then ao else ao.map (·.add (p * 1)), cap - p, fun w' => ?_, ⟨by simp; omega, fun i hi' => ?_⟩, by omega, by omega, fun h => ?_⟩
  · have h := run_slice_lh (P := Tryz.prog) w' 22 ao n cap ht .i64 .i64 (p : Int) ((p : Int) + (m : Int)) (by omega) (by omega) (by omega)
    rw [h, he]
    have e1 : ((p : Int) + (m : Int)).toNat = p + m := by omega
    simp only [sizeOf, typeInfo, Sem.run_bind, Sem.run_pure, hi, hz1, Result.andThen_ok, sliced, Int.toNat_natCast, e1]
    simp [hi, hz1, Result.andThen, sliced]
  · obtain ⟨b, off, rfl, hcell⟩ := hc (p + i) (by omega)
    refine ⟨b, off + p, ?_, ?_⟩
    · rw [if_neg (by omega)]
      simp [Addr.add_lit]
    · rw [Nat.add_assoc, hcell]
      have e : bt ((l.drop p).take m) i = bt l (p + i) := by rw [bt_take _ _ _ hi', bt_drop]
      rw [e]
  · split at h
    · rename_i g
      omega
    · cases ao with
      | none => have := hnil rfl; omega
      | some a => simp at h

/-- string(..) of whatever is read. -/
theorem conv_rd {w : World} {ao : Option Addr} {n cap : Nat} {l : List UInt8} (hr : RdIn w ao n cap l) : (convert 22 9 (.slice ao n cap)).run Tryz.prog w = .ok (.string ⟨l.toArray⟩) w := by
  obtain ⟨⟨hl, hc⟩, hcap, hmax, hnil⟩ := hr
  rcases Nat.eq_zero_or_pos n with h0 | h0
  · subst h0
    have hl0 : l = [] := List.eq_nil_of_length_eq_zero hl
    subst hl0
    cases ao with
    | none => exact run_convert_bytes_nil w 22 5 Tryz.underlying22 Tryz.underlying5 0 cap 9 Tryz.underlying9
    | some a =>
      rw [run_convert_bytes_string w 22 9 5 _ 0 cap Tryz.underlying22 Tryz.underlying5 Tryz.underlying9, run_bytesToString w a 0 cap [] (by simp [loadCells, loadCellsFrom])]
      rfl
  · obtain ⟨b, off, rfl, hcell⟩ := (show Rd w ao n l from ⟨hl, hc⟩).at h0
    have h := conv_cut hl hcell 0 n (by omega) cap
    rw [Nat.add_zero] at h
    rw [h]
    simp [cut, List.take_of_length_le (show l.length ≤ n by omega)]

/-- What stands at place a, if a list does: its bytes and the place behind. -/
def getL (l : List UInt8) (a : Int) : Option (List UInt8 × Nat) :=
  if 0 ≤ a ∧ a ≤ (l.length : Int) - 2 ∧ gw l a.toNat ≤ 60 ∧ a.toNat + 2 + gw l a.toNat ≤ l.length then some ((l.drop (a.toNat + 2)).take (gw l a.toNat), a.toNat + 2 + gw l a.toNat) else none

/-- Where something stands. -/
theorem getL_some {l x : List UInt8} {a : Int} {k : Nat} (h : getL l a = some (x, k)) : ∃ p m : Nat, a = (p : Int) ∧ gw l p = m ∧ p + 2 ≤ l.length ∧ m ≤ 60 ∧ p + 2 + m ≤ l.length ∧ x = (l.drop (p + 2)).take m ∧ k = p + 2 + m ∧ x.length = m := by
  unfold getL at h
  split at h
  · rename_i g
    obtain ⟨p, rfl⟩ := Int.eq_ofNat_of_zero_le g.1
    simp only [Int.toNat_natCast, Option.some.injEq, Prod.mk.injEq] at h g
    refine ⟨p, gw l p, rfl, rfl, by omega, g.2.2.1, g.2.2.2, h.1.symm, h.2.symm, ?_⟩
    rw [← h.1]
    simp
    omega
  · simp at h

/-- What GetText answers. -/
def getT (l : List UInt8) (a : Int) : Option (List UInt8 × Nat) := match getL l a with
  | some (x, k) => if okT x then some (x, k) else none
  | none => none

def strOf (x : List UInt8) : ByteArray := ⟨x.toArray⟩
theorem strOf_data (x : List UInt8) : (strOf x).data.toList = x := by simp [strOf]

def ansT (l : List UInt8) (a : Int) : Ending := match getT l a with
  | some (x, k) => .returned (.tuple #[.string (strOf x), .int .i64 (k : Nat), .bool true])
  | none => .returned (.tuple #[.string ⟨#[]⟩, .int .i64 0, .bool false])

theorem ansT_form (l : List UInt8) (a : Int) : ∃ (s : ByteArray) (y : Int) (o : Bool), ansT l a = .returned (.tuple #[.string s, .int .i64 y, .bool o]) := by
  unfold ansT
  split
  · exact ⟨_, _, _, rfl⟩
  · exact ⟨_, _, _, rfl⟩

end Go.Proofs.YtfpclkkkenekpaaGreat
