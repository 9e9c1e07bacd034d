/- Contracts of what puts numbers, texts and bytes behind a list of bytes, of both sides. -/
import Derived.Test.YtjjplfedaichcaaRune
set_option linter.unusedVariables false
set_option linter.unusedSimpArgs false
namespace Go.Proofs.Ytjjplfedaichcaa
open Go.RowKit

/-- A number's two bytes, the higher one first. -/
def wordB (x : Int) : List UInt8 := [UInt8.ofNat (x / 256 % 256).toNat, UInt8.ofNat (x % 256).toNat]
theorem wordB_length (x : Int) : (wordB x).length = 2 := rfl
theorem wordB_0 (x : Int) : ((bt (wordB x) 0 : Nat) : Int) = x / 256 % 256 := by
  show (((UInt8.ofNat (x / 256 % 256).toNat).toNat : Nat) : Int) = _
  simp
  omega
theorem wordB_1 (x : Int) : ((bt (wordB x) 1 : Nat) : Int) = x % 256 := by
  show (((UInt8.ofNat (x % 256).toNat).toNat : Nat) : Int) = _
  simp
  omega

theorem rd_word (w : World) (x : Int) : RdIn (w.alloc (.cells #[.int .u8 (x / 256 % 256), .int .u8 (x % 256)] 5)) (some ⟨w.heap.size, 0, none⟩) 2 2 (wordB x) := by
  refine ⟨⟨rfl, fun i hi => ⟨_, _, rfl, ?_⟩⟩, Nat.le_refl _, by unfold maxLen; omega, fun h => by simp at h⟩
  match i, hi with
  | 0, _ => rw [wordB_0]; simp
  | 1, _ => rw [wordB_1]; simp
  | i + 2, hi => omega

theorem Own.alloc {w : World} {B : Nat} {ao : Option Addr} {n cap : Nat} {l : List UInt8} (h : Own w B ao n cap l) (o : Obj) : Own (w.alloc o) B ao n cap l := h.below ((Below.refl _ _).alloc (Nat.le_refl _) _)
theorem RdIn.alloc {w : World} {ao : Option Addr} {n cap : Nat} {l : List UInt8} (h : RdIn w ao n cap l) (o : Obj) : RdIn (w.alloc o) ao n cap l := h.below ((Below.refl _ _).alloc (Nat.le_refl _) _)

/-- A law that ends in 'grownBy' of an owned row keeps what was there. -/
theorem below_grow {w w1 w2 : World} {B : Nat} {ao : Option Addr} {n cap : Nat} {l : List UInt8} (hb : Below B w w1) (hB : B ≤ w1.heap.size) (ho : Own w1 B ao n cap l) (hg : w1.grownBy w2 (Value.slice ao n cap).ownBlock) : Below B w w2 :=
  hb.grown hg hB (fun k hk => (ho.2.lt k hk).1)

theorem own_lit0 (w : World) : Own (w.alloc (.cells #[] 5)) w.heap.size (some ⟨w.heap.size, 0, none⟩) 0 0 [] :=
  ⟨rfl, World.ownsRow_made w #[] 0 (Nat.le_refl _) (Nat.zero_le _) (by simp)⟩

/-- What PutText answers, of bytes l. -/
def putT (l : List UInt8) (s : ByteArray) : List UInt8 := if okT s.data.toList then l ++ (wordB s.size ++ s.data.toList) else l
theorem putT_yes {l : List UInt8} {s : ByteArray} (h : okT s.data.toList = true) : putT l s = l ++ (wordB s.size ++ s.data.toList) := by simp [putT, h]
theorem putT_no {l : List UInt8} {s : ByteArray} (h : okT s.data.toList = false) : putT l s = l := by simp [putT, h]
theorem okT_size {s : ByteArray} (h : okT s.data.toList = true) : s.size ≤ 60 := by
  rcases Nat.lt_or_ge 60 s.size with g | g
  · rw [okT_long (show 60 < s.data.toList.length from g)] at h
    simp at h
  · exact g

/-- What PutBytes answers. -/
def putB (l x : List UInt8) : List UInt8 := if x.length ≤ 60 then l ++ (wordB x.length ++ x) else l

/-- Behind marks on what is owned: all below stays. -/
theorem mark_below {u u' : World} {B B0 : Nat} {ao : Option Addr} {n cap : Nat} {l : List UInt8} (ho : Own u B0 ao n cap l) (hg : u.grownBy u' (Value.slice ao n cap).ownBlock) (hB : B ≤ B0) (hu : B ≤ u.heap.size) : Below B u u' :=
  (Below.refl B u).grown hg hu (fun k hk => by have := (ho.2.lt k hk).1; omega)

/-- Behind marks on an elder list: a younger one stays. -/
theorem own_keep {u u' u3 : World} {B1 B2 : Nat} {a1 a2 : Option Addr} {n1 c1 n2 c2 : Nat} {l1 l2 : List UInt8} (h : Own u B1 a1 n1 c1 l1) (hx : Own u3 B2 a2 n2 c2 l2) (hB : u3.heap.size ≤ B1)
    (hg : u.grownBy u' (Value.slice a2 n2 c2).ownBlock) : Own u' B1 a1 n1 c1 l1 :=
  h.grown hg (fun a e hne => by
    have h1 := h.block e
    have h2 := hx.2.lt _ hne.symm
    omega)

theorem Own.at {w w1 w' : World} {B : Nat} {ao : Option Addr} {n cap : Nat} {l : List UInt8} (h : Own w1 B ao n cap l) (hb : Below w1.heap.size w1 w') : Own w' B ao n cap l := h.below hb

theorem putT_le (l : List UInt8) (s : ByteArray) : (putT l s).length ≤ l.length + 62 := by
  cases h : okT s.data.toList with
  | false => rw [putT_no h]; omega
  | true =>
    have := okT_size h
    have e : s.data.toList.length = s.size := rfl
    rw [putT_yes h, List.length_append, List.length_append, wordB_length]
    omega
theorem putB_le (l x : List UInt8) : (putB l x).length ≤ l.length + 62 := by
  unfold putB
  split
  · rw [List.length_append, List.length_append, wordB_length]; omega
  · omega

end Go.Proofs.Ytjjplfedaichcaa
