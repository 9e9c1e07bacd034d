/- Contracts of what puts numbers, texts and bytes behind a list of bytes, of both sides. -/
import Derived.Test.YtfpclkkkenekpaaGreatRune
set_option linter.unusedVariables false
set_option linter.unusedSimpArgs false
namespace Go.Proofs.YtfpclkkkenekpaaGreat
open Go.RowKit

set_option maxHeartbeats 400000 in
/-- impl.copyWithRoom -/
theorem copy_icopyWithRoom (ao : Option Addr) (n cap m : Nat) (l : List UInt8) (w : World) (hr : RdIn w ao n cap l) (hn : n ≤ 1099511627776) (hm : m ≤ 1099511627776) :
    Calls Tryz.prog 69 #[.slice ao n cap, .int .i64 m] w fun e w' => ∃ ao' cap', e = .returned (.slice ao' n cap') ∧ Own w' w.heap.size ao' n cap' l ∧ Below w.heap.size w w' := by
  go_enter Tryz.func69, Tryz.ntmps69
  go_wp2_with (at_make; refine w_make0 _ rfl _ _ rfl _ (n + m) rfl rfl (by omega) (by omega) ?_)
  intro w1 ho1 hb1
  go_wp2_with (at_builtin; refine w_app _ rfl _ _ rfl w.heap.size _ 0 _ [] rfl ho1 _ _ _ l rfl (hr.below hb1) (by omega) (hb1.size) ?_)
  intro a2 c2 w2 ho2 hg2
  go_wp2
  go_ret
  simp only [Nat.zero_add, List.nil_append] at ho2 ⊢
  exact ⟨a2, c2, rfl, ho2, hb1.grown hg2 hb1.size (fun k hk => by simp [Value.ownBlock] at hk; omega)⟩

/-- A number's two bytes, the higher one first. -/
def wordB (x : Int) : List UInt8 := [UInt8.ofNat (x / 256 % 256).toNat, UInt8.ofNat (x % 256).toNat]
theorem wordB_length (x : Int) : (wordB x).length = 2 := rfl
theorem wordB_0 (x : Int) : ((bt (wordB x) 0 : Nat) : Int) = x / 256 % 256 := by
  show (((UInt8.ofNat (x / 256 % 256).toNat).toNat : Nat) : Int) = _
  simp
  omega
theorem wordB_1 (x : Int) : ((bt (wordB x) 1 : Nat) : Int) = x % 256 := by
  show (((UInt8.ofNat (x % 256).toNat).toNat : Nat) : Int) = _
  simp
  omega

theorem rd_word (w : World) (x : Int) : RdIn (w.alloc (.cells #[.int .u8 (x / 256 % 256), .int .u8 (x % 256)] 5)) (some ⟨w.heap.size, 0, none⟩) 2 2 (wordB x) := by
  refine ⟨⟨rfl, fun i hi => ⟨_, _, rfl, ?_⟩⟩, Nat.le_refl _, by unfold maxLen; omega, fun h => by simp at h⟩
  match i, hi with
  | 0, _ => rw [wordB_0]; simp
  | 1, _ => rw [wordB_1]; simp
  | i + 2, hi => omega

theorem Own.alloc {w : World} {B : Nat} {ao : Option Addr} {n cap : Nat} {l : List UInt8} (h : Own w B ao n cap l) (o : Obj) : Own (w.alloc o) B ao n cap l := h.below ((Below.refl _ _).alloc (Nat.le_refl _) _)
theorem RdIn.alloc {w : World} {ao : Option Addr} {n cap : Nat} {l : List UInt8} (h : RdIn w ao n cap l) (o : Obj) : RdIn (w.alloc o) ao n cap l := h.below ((Below.refl _ _).alloc (Nat.le_refl _) _)

/-- A law that ends in 'grownBy' of an owned row keeps what was there. -/
theorem below_grow {w w1 w2 : World} {B : Nat} {ao : Option Addr} {n cap : Nat} {l : List UInt8} (hb : Below B w w1) (hB : B ≤ w1.heap.size) (ho : Own w1 B ao n cap l) (hg : w1.grownBy w2 (Value.slice ao n cap).ownBlock) : Below B w w2 :=
  hb.grown hg hB (fun k hk => (ho.2.lt k hk).1)

theorem own_lit0 (w : World) : Own (w.alloc (.cells #[] 5)) w.heap.size (some ⟨w.heap.size, 0, none⟩) 0 0 [] :=
  ⟨rfl, World.ownsRow_made w #[] 0 (Nat.le_refl _) (Nat.zero_le _) (by simp)⟩

set_option maxHeartbeats 400000 in
/-- impl.PutWord -/
theorem put_iPutWord (ao : Option Addr) (n cap : Nat) (x : Int) (l : List UInt8) (w : World) (hr : RdIn w ao n cap l) (hn : n ≤ 1099511627776) :
    Calls Tryz.prog 141 #[.slice ao n cap, .int .i64 x] w fun e w' => ∃ ao' cap', e = .returned (.slice ao' (n + 2) cap') ∧ Own w' w.heap.size ao' (n + 2) cap' (l ++ wordB x) ∧ Below w.heap.size w w' := by
  go_enter Tryz.func141, Tryz.ntmps141
  go_wp2_with fail
  refine (copy_icopyWithRoom _ _ _ 2 l _ hr hn (by omega)).mono ?_
  rintro e w1 ⟨a1, c1, rfl, ho1, hb1⟩
  go_wp2_with (at_builtin; refine w_app _ rfl _ _ rfl w.heap.size _ _ _ l rfl (ho1.alloc _) _ _ _ (wordB x) rfl (rd_word w1 x) (by omega) (by have := hb1.size; simp; omega) ?_)
  intro a2 c2 w2 ho2 hg2
  go_wp2
  go_ret
  exact ⟨a2, c2, rfl, ho2, below_grow (hb1.alloc hb1.size _) (by have := hb1.size; simp; omega) (ho1.alloc _) hg2⟩

set_option maxHeartbeats 400000 in
/-- spec.PutWord -/
theorem put_sPutWord (ao : Option Addr) (n cap : Nat) (x : Int) (l : List UInt8) (w : World) (hr : RdIn w ao n cap l) (hn : n ≤ 1099511627776) :
    Calls Tryz.prog 31 #[.slice ao n cap, .int .i64 x] w fun e w' => ∃ ao' cap', e = .returned (.slice ao' (n + 2) cap') ∧ Own w' w.heap.size ao' (n + 2) cap' (l ++ wordB x) ∧ Below w.heap.size w w' := by
  have m1 := mask255 x
  have m2 := mask255 (x / 256)
  go_enter Tryz.func31, Tryz.ntmps31
  go_wp2_with (at_builtin; refine w_app _ rfl _ _ rfl w.heap.size _ 0 _ [] rfl (own_lit0 w) _ _ _ l rfl (hr.alloc _) (by omega) (by simp) ?_)
  intro a1 c1 w1 ho1 hg1
  have hb1 : Below w.heap.size w w1 := below_grow ((Below.refl _ _).alloc (Nat.le_refl _) _) (by simp) (own_lit0 w) hg1
  clear hg1
  go_wp2_with (at_builtin; refine w_app _ rfl _ _ rfl w.heap.size _ _ _ l rfl (ho1.alloc _) _ _ _ (wordB x) rfl (rd_word w1 x) (by omega) (by have := hb1.size; simp; omega) ?_)
  intro a2 c2 w2 ho2 hg2
  go_wp2
  go_ret
  exact ⟨a2, c2, rfl, ho2, below_grow (hb1.alloc hb1.size _) (by have := hb1.size; simp; omega) (ho1.alloc _) hg2⟩

/-- What PutText answers, of bytes l. -/
def putT (l : List UInt8) (s : ByteArray) : List UInt8 := if okT s.data.toList then l ++ (wordB s.size ++ s.data.toList) else l
theorem putT_yes {l : List UInt8} {s : ByteArray} (h : okT s.data.toList = true) : putT l s = l ++ (wordB s.size ++ s.data.toList) := by simp [putT, h]
theorem putT_no {l : List UInt8} {s : ByteArray} (h : okT s.data.toList = false) : putT l s = l := by simp [putT, h]
theorem okT_size {s : ByteArray} (h : okT s.data.toList = true) : s.size ≤ 60 := by
  rcases Nat.lt_or_ge 60 s.size with g | g
  · rw [okT_long (show 60 < s.data.toList.length from g)] at h
    simp at h
  · exact g

set_option maxHeartbeats 400000 in
/-- impl.PutText -/
theorem put_iPutText (ao : Option Addr) (n cap : Nat) (s : ByteArray) (l : List UInt8) (w : World) (hr : RdIn w ao n cap l) (hn : n ≤ 1099511627000) (hs : s.size < 9223372036854775800) :
    Calls Tryz.prog 140 #[.slice ao n cap, .string s] w fun e w' => ∃ ao' n' cap', e = .returned (.slice ao' n' cap') ∧ Own w' w.heap.size ao' n' cap' (putT l s) ∧ Below w.heap.size w w' := by
  cases hok : okT s.data.toList with
  | false =>
    have HP : Hid (putT l s = l) := putT_no hok
    go_enter Tryz.func140, Tryz.ntmps140
    go_wp2_with fail
    refine (ok_iTextOk s _ (by omega)).mono ?_
    rintro e w1 ⟨he, hb1⟩
    rw [hok] at he
    subst he
    go_wp2_with fail
    refine (copy_icopyWithRoom _ _ _ 0 l _ (hr.below hb1) (by omega) (by omega)).mono ?_
    rintro e w2 ⟨a2, c2, rfl, ho2, hb2⟩
    go_wp2
    go_ret
    exact ⟨a2, n, c2, rfl, by rw [HP.out]; exact ho2.mono hb1.size, below_next hb1 hb2⟩
  | true =>
    have HP : Hid (putT l s = l ++ (wordB s.size ++ s.data.toList)) := putT_yes hok
    have h60 := okT_size hok
    go_enter Tryz.func140, Tryz.ntmps140
    go_wp2_with fail
    refine (ok_iTextOk s _ (by omega)).mono ?_
    rintro e w1 ⟨he, hb1⟩
    rw [hok] at he
    subst he
    go_wp2_with fail
    refine (put_iPutWord _ _ _ s.size l _ (hr.below hb1) (by omega)).mono ?_
    rintro e w2 ⟨a2, c2, rfl, ho2, hb2⟩
    go_wp2_with (at_builtin; refine w_apps _ rfl _ _ rfl w1.heap.size _ _ _ (l ++ wordB s.size) rfl ho2 s rfl (by omega) hb2.size ?_)
    intro a3 c3 w3 ho3 hg3
    have hb3 := below_grow hb2 hb2.size ho2 hg3
    go_wp2
    go_ret
    exact ⟨a3, _, c3, rfl, by rw [HP.out]; exact ho3.mono hb1.size, below_next hb1 hb3⟩

set_option maxHeartbeats 400000 in
/-- spec.PutText -/
theorem put_sPutText (ao : Option Addr) (n cap : Nat) (s : ByteArray) (l : List UInt8) (w : World) (hr : RdIn w ao n cap l) (hn : n ≤ 1099511627000) (hs : s.size < 9223372036854775800) :
    Calls Tryz.prog 29 #[.slice ao n cap, .string s] w fun e w' => ∃ ao' n' cap', e = .returned (.slice ao' n' cap') ∧ Own w' w.heap.size ao' n' cap' (putT l s) ∧ Below w.heap.size w w' := by
  cases hok : okT s.data.toList with
  | false =>
    have HP : Hid (putT l s = l) := putT_no hok
    go_enter Tryz.func29, Tryz.ntmps29
    go_wp2_with fail
    refine (ok_sTextOk s _ hs).mono ?_
    rintro e w1 ⟨he, hb1⟩
    rw [hok] at he
    subst he
    go_wp2_with (at_builtin; refine w_app _ rfl _ _ rfl w1.heap.size _ 0 _ [] rfl (own_lit0 w1) _ _ _ l rfl ((hr.below hb1).alloc _) (by omega) (by simp) ?_)
    intro a2 c2 w2 ho2 hg2
    have hb2 : Below w1.heap.size w1 w2 := below_grow ((Below.refl _ _).alloc (Nat.le_refl _) _) (by simp) (own_lit0 w1) hg2
    go_wp2
    go_ret
    exact ⟨a2, _, c2, rfl, by rw [HP.out]; exact ho2.mono hb1.size, below_next hb1 hb2⟩
  | true =>
    have HP : Hid (putT l s = l ++ (wordB s.size ++ s.data.toList)) := putT_yes hok
    have h60 := okT_size hok
    go_enter Tryz.func29, Tryz.ntmps29
    go_wp2_with fail
    refine (ok_sTextOk s _ hs).mono ?_
    rintro e w1 ⟨he, hb1⟩
    rw [hok] at he
    subst he
    go_wp2_with fail
    refine (put_sPutWord _ _ _ s.size l _ (hr.below hb1) (by omega)).mono ?_
    rintro e w2 ⟨a2, c2, rfl, ho2, hb2⟩
    go_wp2_with (at_builtin; refine w_apps _ rfl _ _ rfl w1.heap.size _ _ _ (l ++ wordB s.size) rfl ho2 s rfl (by omega) hb2.size ?_)
    intro a3 c3 w3 ho3 hg3
    have hb3 := below_grow hb2 hb2.size ho2 hg3
    go_wp2
    go_ret
    exact ⟨a3, _, c3, rfl, by rw [HP.out]; exact ho3.mono hb1.size, below_next hb1 hb3⟩

/-- What PutBytes answers. -/
def putB (l x : List UInt8) : List UInt8 := if x.length ≤ 60 then l ++ (wordB x.length ++ x) else l

set_option maxHeartbeats 400000 in
/-- impl.PutBytes -/
theorem put_iPutBytes (ao : Option Addr) (n cap : Nat) (l : List UInt8) (ax : Option Addr) (m c : Nat) (x : List UInt8) (w : World) (hr : RdIn w ao n cap l) (hx : RdIn w ax m c x) (hn : n ≤ 1099511627000) :
    Calls Tryz.prog 142 #[.slice ao n cap, .slice ax m c] w fun e w' => ∃ ao' n' cap', e = .returned (.slice ao' n' cap') ∧ Own w' w.heap.size ao' n' cap' (putB l x) ∧ Below w.heap.size w w' := by
  have hxl := hx.1.1
  by_cases h : m ≤ 60
  · have HP : Hid (putB l x = l ++ (wordB m ++ x)) := by unfold Hid putB; rw [if_pos (by omega), hxl]
    have h' : ¬ (60 : Int) < m := by omega
    clear hxl
    go_enter Tryz.func142, Tryz.ntmps142
    go_wp2_with fail
    refine (put_iPutWord _ _ _ m l _ hr (by omega)).mono ?_
    rintro e w2 ⟨a2, c2, rfl, ho2, hb2⟩
    go_wp2_with (at_builtin; refine w_app _ rfl _ _ rfl w.heap.size _ _ _ (l ++ wordB m) rfl ho2 _ _ _ x rfl (hx.below hb2) (by omega) hb2.size ?_)
    intro a3 c3 w3 ho3 hg3
    have hb3 := below_grow hb2 hb2.size ho2 hg3
    go_wp2
    go_ret
    exact ⟨a3, _, c3, rfl, by rw [HP.out]; exact ho3, hb3⟩
  · have HP : Hid (putB l x = l) := by unfold Hid putB; rw [if_neg (by omega)]
    have h' : (60 : Int) < m := by omega
    clear hxl
    go_enter Tryz.func142, Tryz.ntmps142
    go_wp2_with fail
    refine (copy_icopyWithRoom _ _ _ 0 l _ hr (by omega) (by omega)).mono ?_
    rintro e w2 ⟨a2, c2, rfl, ho2, hb2⟩
    go_wp2
    go_ret
    exact ⟨a2, n, c2, rfl, by rw [HP.out]; exact ho2, hb2⟩

set_option maxHeartbeats 400000 in
/-- spec.PutBytes -/
theorem put_sPutBytes (ao : Option Addr) (n cap : Nat) (l : List UInt8) (ax : Option Addr) (m c : Nat) (x : List UInt8) (w : World) (hr : RdIn w ao n cap l) (hx : RdIn w ax m c x) (hn : n ≤ 1099511627000) :
    Calls Tryz.prog 32 #[.slice ao n cap, .slice ax m c] w fun e w' => ∃ ao' n' cap', e = .returned (.slice ao' n' cap') ∧ Own w' w.heap.size ao' n' cap' (putB l x) ∧ Below w.heap.size w w' := by
  have hxl := hx.1.1
  by_cases h : m ≤ 60
  · have HP : Hid (putB l x = l ++ (wordB m ++ x)) := by unfold Hid putB; rw [if_pos (by omega), hxl]
    have h' : ¬ (60 : Int) < m := by omega
    clear hxl
    go_enter Tryz.func32, Tryz.ntmps32
    go_wp2_with fail
    refine (put_sPutWord _ _ _ m l _ hr (by omega)).mono ?_
    rintro e w2 ⟨a2, c2, rfl, ho2, hb2⟩
    go_wp2_with (at_builtin; refine w_app _ rfl _ _ rfl w.heap.size _ _ _ (l ++ wordB m) rfl ho2 _ _ _ x rfl (hx.below hb2) (by omega) hb2.size ?_)
    intro a3 c3 w3 ho3 hg3
    have hb3 := below_grow hb2 hb2.size ho2 hg3
    go_wp2
    go_ret
    exact ⟨a3, _, c3, rfl, by rw [HP.out]; exact ho3, hb3⟩
  · have HP : Hid (putB l x = l) := by unfold Hid putB; rw [if_neg (by omega)]
    have h' : (60 : Int) < m := by omega
    clear hxl
    go_enter Tryz.func32, Tryz.ntmps32
    go_wp2_with (at_builtin; refine w_app _ rfl _ _ rfl w.heap.size _ 0 _ [] rfl (own_lit0 w) _ _ _ l rfl (hr.alloc _) (by omega) (by simp) ?_)
    intro a2 c2 w2 ho2 hg2
    have hb2 : Below w.heap.size w w2 := below_grow ((Below.refl _ _).alloc (Nat.le_refl _) _) (by simp) (own_lit0 w) hg2
    go_wp2
    go_ret
    exact ⟨a2, _, c2, rfl, by rw [HP.out]; exact ho2, hb2⟩

/-- Behind marks on what is owned: all below stays. -/
theorem mark_below {u u' : World} {B B0 : Nat} {ao : Option Addr} {n cap : Nat} {l : List UInt8} (ho : Own u B0 ao n cap l) (hg : u.grownBy u' (Value.slice ao n cap).ownBlock) (hB : B ≤ B0) (hu : B ≤ u.heap.size) : Below B u u' :=
  (Below.refl B u).grown hg hu (fun k hk => by have := (ho.2.lt k hk).1; omega)

/-- Behind marks on an elder list: a younger one stays. -/
theorem own_keep {u u' u3 : World} {B1 B2 : Nat} {a1 a2 : Option Addr} {n1 c1 n2 c2 : Nat} {l1 l2 : List UInt8} (h : Own u B1 a1 n1 c1 l1) (hx : Own u3 B2 a2 n2 c2 l2) (hB : u3.heap.size ≤ B1)
    (hg : u.grownBy u' (Value.slice a2 n2 c2).ownBlock) : Own u' B1 a1 n1 c1 l1 :=
  h.grown hg (fun a e hne => by
    have h1 := h.block e
    have h2 := hx.2.lt _ hne.symm
    omega)

theorem Own.at {w w1 w' : World} {B : Nat} {ao : Option Addr} {n cap : Nat} {l : List UInt8} (h : Own w1 B ao n cap l) (hb : Below w1.heap.size w1 w') : Own w' B ao n cap l := h.below hb

theorem put_iPutTextN (N : Nat) (ao : Option Addr) (n cap : Nat) (s : ByteArray) (l : List UInt8) (w : World) (hN : (putT l s).length = N) (hr : RdIn w ao n cap l) (hn : n ≤ 1099511627000) (hs : s.size < 9223372036854775800) :
    Calls Tryz.prog 140 #[.slice ao n cap, .string s] w fun e w' => ∃ ao' cap', e = .returned (.slice ao' N cap') ∧ Own w' w.heap.size ao' N cap' (putT l s) ∧ Below w.heap.size w w' := by
  refine (put_iPutText ao n cap s l w hr hn hs).mono ?_
  rintro e w' ⟨ao', n', cap', rfl, ho, hb⟩
  obtain rfl : n' = N := ho.1.symm.trans hN
  exact ⟨ao', cap', rfl, ho, hb⟩

theorem put_sPutTextN (N : Nat) (ao : Option Addr) (n cap : Nat) (s : ByteArray) (l : List UInt8) (w : World) (hN : (putT l s).length = N) (hr : RdIn w ao n cap l) (hn : n ≤ 1099511627000) (hs : s.size < 9223372036854775800) :
    Calls Tryz.prog 29 #[.slice ao n cap, .string s] w fun e w' => ∃ ao' cap', e = .returned (.slice ao' N cap') ∧ Own w' w.heap.size ao' N cap' (putT l s) ∧ Below w.heap.size w w' := by
  refine (put_sPutText ao n cap s l w hr hn hs).mono ?_
  rintro e w' ⟨ao', n', cap', rfl, ho, hb⟩
  obtain rfl : n' = N := ho.1.symm.trans hN
  exact ⟨ao', cap', rfl, ho, hb⟩

theorem put_iPutBytesN (N : Nat) (ao : Option Addr) (n cap : Nat) (l : List UInt8) (ax : Option Addr) (m c : Nat) (x : List UInt8) (w : World) (hN : (putB l x).length = N) (hr : RdIn w ao n cap l) (hx : RdIn w ax m c x) (hn : n ≤ 1099511627000) :
    Calls Tryz.prog 142 #[.slice ao n cap, .slice ax m c] w fun e w' => ∃ ao' cap', e = .returned (.slice ao' N cap') ∧ Own w' w.heap.size ao' N cap' (putB l x) ∧ Below w.heap.size w w' := by
  refine (put_iPutBytes ao n cap l ax m c x w hr hx hn).mono ?_
  rintro e w' ⟨ao', n', cap', rfl, ho, hb⟩
  obtain rfl : n' = N := ho.1.symm.trans hN
  exact ⟨ao', cap', rfl, ho, hb⟩

theorem put_sPutBytesN (N : Nat) (ao : Option Addr) (n cap : Nat) (l : List UInt8) (ax : Option Addr) (m c : Nat) (x : List UInt8) (w : World) (hN : (putB l x).length = N) (hr : RdIn w ao n cap l) (hx : RdIn w ax m c x) (hn : n ≤ 1099511627000) :
    Calls Tryz.prog 32 #[.slice ao n cap, .slice ax m c] w fun e w' => ∃ ao' cap', e = .returned (.slice ao' N cap') ∧ Own w' w.heap.size ao' N cap' (putB l x) ∧ Below w.heap.size w w' := by
  refine (put_sPutBytes ao n cap l ax m c x w hr hx hn).mono ?_
  rintro e w' ⟨ao', n', cap', rfl, ho, hb⟩
  obtain rfl : n' = N := ho.1.symm.trans hN
  exact ⟨ao', cap', rfl, ho, hb⟩

theorem putT_le (l : List UInt8) (s : ByteArray) : (putT l s).length ≤ l.length + 62 := by
  cases h : okT s.data.toList with
  | false => rw [putT_no h]; omega
  | true =>
    have := okT_size h
    have e : s.data.toList.length = s.size := rfl
    rw [putT_yes h, List.length_append, List.length_append, wordB_length]
    omega
theorem putB_le (l x : List UInt8) : (putB l x).length ≤ l.length + 62 := by
  unfold putB
  split
  · rw [List.length_append, List.length_append, wordB_length]; omega
  · omega

theorem mark_lmarkByteSq (B : Nat) (ao : Option Addr) (n cap k : Nat) (q : Int) (l : List UInt8) (w : World) (hq : q = (k : Int)) (ho : Own w B ao n cap l) (hn : n ≤ 1099511627776) (hk : k ≤ 1099511627776) :
    Calls Tryz.prog 13 #[.slice ao n cap, .int .i64 q] w fun e w' => e = .returned (.int .i64 ((k + n : Nat) : Int)) ∧ Own w' B ao n cap (marks k n) ∧ w.grownBy w' (Value.slice ao n cap).ownBlock := by
  subst hq
  exact mark_lmarkByteS B ao n cap k l w ho hn hk

end Go.Proofs.YtfpclkkkenekpaaGreat
