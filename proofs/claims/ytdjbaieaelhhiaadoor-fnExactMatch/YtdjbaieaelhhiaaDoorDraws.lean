/- Contracts of the draws of chapter 1. -/
import Derived.Test.YtdjbaieaelhhiaaDoorBend
set_option linter.unusedVariables false
set_option linter.unusedSimpArgs false
namespace Go.Proofs.YtdjbaieaelhhiaaDoor
open Go.RowKit

def texts : List ByteArray := [⟨#[]⟩, ⟨#[97]⟩, ⟨#[104, 101, 108, 108, 111]⟩, ⟨#[195, 169]⟩, ⟨#[226, 130, 172]⟩, ⟨#[240, 159, 152, 128]⟩, ⟨#[97, 47, 98]⟩, ⟨#[0]⟩, ⟨#[255]⟩, ⟨#[192, 128]⟩, ⟨#[237, 160, 128]⟩, ⟨#[226, 130]⟩, ⟨#[244, 144, 128, 128]⟩, ⟨#[49, 50, 51, 52, 53, 54, 55, 56, 57, 48, 49, 50, 51, 52, 53, 54, 55, 56, 57, 48, 49, 50, 51, 52, 53, 54, 55, 56, 57, 48, 49, 50, 51, 52, 53, 54, 55, 56, 57, 48, 49, 50, 51, 52, 53, 54, 55, 56, 57, 48, 49, 50, 51, 52, 53, 54, 55, 56, 57, 48]⟩, ⟨#[49, 50, 51, 52, 53, 54, 55, 56, 57, 48, 49, 50, 51, 52, 53, 54, 55, 56, 57, 48, 49, 50, 51, 52, 53, 54, 55, 56, 57, 48, 49, 50, 51, 52, 53, 54, 55, 56, 57, 48, 49, 50, 51, 52, 53, 54, 55, 56, 57, 48, 49, 50, 51, 52, 53, 54, 55, 56, 57, 48, 49]⟩, ⟨#[120, 223, 191, 121, 224, 160, 128]⟩]
def tails : List ByteArray := [⟨#[]⟩, ⟨#[122]⟩, ⟨#[195, 169]⟩]
theorem texts_size : ∀ s ∈ texts, s.size ≤ 61 := by decide +kernel
theorem tails_size : ∀ s ∈ tails, s.size ≤ 61 := by decide +kernel
def odds : List Int := [-1, 0, 1, 2, 255, 256, 65535, 2147483647, 2147483648, 4294967295, 4294967296, -2147483648, 9223372036854775807, -9223372036854775808]

theorem bytes_made2 (s : ByteArray) (w : World) (hs : s.size ≤ 1048576) : ∃ wb cap, (convert 9 22 (.string s)).run Tryd.prog w = .ok (.slice (some ⟨w.heap.size, 0, none⟩) s.size cap) wb ∧
    RdIn wb (some ⟨w.heap.size, 0, none⟩) s.size cap s.data.toList ∧ Below w.heap.size w wb := by
  refine ⟨_, _, run_bytes_of_string w 9 22 5 s Tryd.underlying9 Tryd.underlying22 Tryd.underlying5, ⟨⟨rfl, fun i hi => ⟨_, _, rfl, ?_⟩⟩, grownCap_ge _ _ _ _, grownCap_le_maxLen _ _ _ _ (by unfold maxLen; omega), fun h => by simp at h⟩, ?_⟩
  · show (w.drew.alloc _).cell? ⟨w.drew.heap.size, _, none⟩ = _
    rw [Nat.zero_add, World.cell?_alloc_mark]
    exact bytesRow_at s _ i hi
  · exact ((Below.refl _ _).drew).alloc (Nat.le_refl _) _

/-- Behind a cursor's making and steps all elder memory stays. -/
theorem below_cur {w w1 w' : World} {g : Nat} (hb : Below g w w1) (hg : w1.grownBy w' (some g)) (hsz : g ≤ w1.heap.size) : Below g w w' :=
  hb.grown hg hsz (fun k hk => by simp at hk; omega)

theorem RdIn.cur {w w' : World} {g : Nat} {a : Option Addr} {m c : Nat} {x : List UInt8} (h : RdIn w a m c x) (hne : ∀ d, a = some d → g < d.block) (hg : w.grownBy w' (some g)) : RdIn w' a m c x :=
  h.grown hg (fun d e he => by have := hne d e; simp at he; omega)

theorem str_add_size (s t : ByteArray) : (s ++ t).size = s.size + t.size := by
  simp [ByteArray.size_append]

def sizes5 : List Int := [0, 1, 5, 60, 61]
def sizes4 : List Int := [0, 1, 5, 60]
def steps5 : List Int := [0, 0, 0, 1, -1]
theorem sizes5_le : ∀ x ∈ sizes5, 0 ≤ x ∧ x ≤ 61 := by decide
theorem sizes4_le : ∀ x ∈ sizes4, 0 ≤ x ∧ x ≤ 61 := by decide
theorem steps5_le : ∀ x ∈ steps5, -1 ≤ x ∧ x ≤ 1 := by decide

/-- laws.big -/
theorem big_lbig (ao : Option Addr) (n cap : Nat) (b : Bool) (w : World) (h : decide (1048576 < n) = b) :
    Calls Tryd.prog 9 #[.slice ao n cap] w fun e w' => e = .returned (.bool b) ∧ w' = w := by
  subst h
  go_enter Tryd.func9, Tryd.ntmps9
  go_wp2
  go_ret
  exact ⟨ret_bool (by simp; omega), rfl⟩

end Go.Proofs.YtdjbaieaelhhiaaDoor
