/- Contracts of what gets numbers, texts and bytes out of a list of bytes, of both sides. -/
import Derived.Test.YtbleangknnjlcaaPuts
set_option linter.unusedVariables false
set_option linter.unusedSimpArgs false
namespace Go.Proofs.Ytbleangknnjlcaa
open Go.RowKit

theorem wraps_i64 (n : Int) (h₀ : 0 ≤ n) (h₁ : n < 2 ^ 62) : IntKind.i64.wrap n = n := by rw [IntKind.wrap_i64]; omega
theorem or_word (x y : Nat) (hx : x < 256) (hy : y < 256) : bits .or .i64 ((x : Int) * 256) (y : Int) = (x : Int) * 256 + y :=
  bits_join .i64 62 (by decide) wraps_i64 8 _ _ (by omega) (by omega) (by omega) (by omega) (by omega) (by omega)

/-- The number at place p. -/
def gw (l : List UInt8) (p : Nat) : Nat := bt l p * 256 + bt l (p + 1)
theorem gw_lt (l : List UInt8) (p : Nat) : gw l p < 65536 := by
  have h1 := bt_lt l p
  have h2 := bt_lt l (p + 1)
  unfold gw
  omega

theorem get29_out (ao : Option Addr) (n cap : Nat) (a : Int) (w : World) (hn : n ≤ 1099511627776) (h : a < 0 ∨ (n : Int) - 2 < a) :
    Calls Try.prog 29 #[.slice ao n cap, .int .i64 a] w fun e w' => e = .returned (.tuple #[.int .i64 0, .int .i64 0, .bool false]) ∧ Below w.heap.size w w' := by
  by_cases h0 : a < 0
  · go_enter Try.func29, Try.ntmps29
    go_wp2
    go_ret3
    exact ⟨rfl, Below.refl _ _⟩
  · have h1 : (n : Int) - 2 < a := by omega
    have h2 : 0 ≤ a := by omega
    go_enter Try.func29, Try.ntmps29
    go_wp2
    go_ret3
    exact ⟨rfl, Below.refl _ _⟩
theorem get43_out (ao : Option Addr) (n cap : Nat) (a : Int) (w : World) (hn : n ≤ 1099511627776) (h : a < 0 ∨ (n : Int) - 2 < a) :
    Calls Try.prog 43 #[.slice ao n cap, .int .i64 a] w fun e w' => e = .returned (.tuple #[.int .i64 0, .int .i64 0, .bool false]) ∧ Below w.heap.size w w' := by
  by_cases h0 : a < 0
  · go_enter Try.func43, Try.ntmps43
    go_wp2
    go_ret3
    exact ⟨rfl, Below.refl _ _⟩
  · have h1 : (n : Int) - 2 < a := by omega
    have h2 : 0 ≤ a := by omega
    go_enter Try.func43, Try.ntmps43
    go_wp2
    go_ret3
    exact ⟨rfl, Below.refl _ _⟩

set_option maxHeartbeats 400000 in
theorem get29_in (ao : Option Addr) (n cap p : Nat) (l : List UInt8) (w : World) (hr : RdIn w ao n cap l) (hp : p + 2 ≤ n) (hn : n ≤ 1099511627776) :
    Calls Try.prog 29 #[.slice ao n cap, .int .i64 p] w fun e w' => e = .returned (.tuple #[.int .i64 (gw l p : Nat), .int .i64 ((p + 2 : Nat) : Int), .bool true]) ∧ Below w.heap.size w w' := by
  obtain ⟨b, off, rfl, hc⟩ := hr.1.at (show 0 < n by omega)
  have c0 := hc p (by omega)
  have c1 := hc (p + 1) (by omega)
  have q0 := bt_lt l p
  have q1 := bt_lt l (p + 1)
  have HG : Hid (((gw l p : Nat) : Int) = (bt l p : Int) * 256 + bt l (p + 1)) := by unfold Hid gw; omega
  clear hc hr
  generalize bt l p = x at *
  generalize bt l (p + 1) = y at *
  have hor := or_word x y q0 q1
  have p0 : (0 : Int) ≤ p := by omega
  have p1 : ¬ (n : Int) - 2 < p := by omega
  have p2 : (p : Int) < n := by omega
  have p3 : (p : Int) + 1 < n := by omega
  go_enter Try.func29, Try.ntmps29
  go_wp2
  go_quiet (fail)
  go_wp2
  go_ret3
  refine ⟨?_, below_drewN (Below.refl _ _) _⟩
  rw [HG.out]
  simp [hor]

set_option maxHeartbeats 400000 in
theorem get43_in (ao : Option Addr) (n cap p : Nat) (l : List UInt8) (w : World) (hr : RdIn w ao n cap l) (hp : p + 2 ≤ n) (hn : n ≤ 1099511627776) :
    Calls Try.prog 43 #[.slice ao n cap, .int .i64 p] w fun e w' => e = .returned (.tuple #[.int .i64 (gw l p : Nat), .int .i64 ((p + 2 : Nat) : Int), .bool true]) ∧ Below w.heap.size w w' := by
  obtain ⟨b, off, rfl, hc⟩ := hr.1.at (show 0 < n by omega)
  have c0 := hc p (by omega)
  have c1 := hc (p + 1) (by omega)
  have q0 := bt_lt l p
  have q1 := bt_lt l (p + 1)
  have HG : Hid (((gw l p : Nat) : Int) = (bt l p : Int) * 256 + bt l (p + 1)) := by unfold Hid gw; omega
  clear hc hr
  generalize bt l p = x at *
  generalize bt l (p + 1) = y at *
  have p0 : (0 : Int) ≤ p := by omega
  have p1 : ¬ (n : Int) - 2 < p := by omega
  have p2 : (p : Int) < n := by omega
  have p3 : (p : Int) + 1 < n := by omega
  go_enter Try.func43, Try.ntmps43
  go_wp2
  go_quiet (fail)
  go_wp2
  go_ret3
  refine ⟨?_, below_drewN (Below.refl _ _) _⟩
  rw [HG.out]
  simp

/-- A piece of what is read, as the slice instruction makes it. -/
theorem slice_cut {w : World} {ao : Option Addr} {n cap : Nat} {l : List UInt8} (hr : RdIn w ao n cap l) (p m : Nat) (hpm : p + m ≤ n) : ∃ ax cx,
    (∀ w', (Instr.slice 22 (.slice ao n cap) (some (.int .i64 (p : Int))) (some (.int .i64 ((p : Int) + (m : Int)))) none).run Try.prog w' = .ok (.slice ax m cx) w') ∧ RdIn w ax m cx ((l.drop p).take m) := by
  obtain ⟨i0, hi, hz0, hz1, hz2⟩ := info_parts info5
  obtain ⟨⟨hl, hc⟩, hcap, hmax, hnil⟩ := hr
  have he : Try.prog.elem 22 = 5 := by kernel_rfl
  have ht : Try.prog.underlying 22 = some (.slice (Try.prog.elem 22)) := by rw [he]; exact Try.underlying22
  refine ⟨if cap = p then ao else ao.map (·.add (p * 1)), cap - p, fun w' => ?_, ⟨by simp; omega, fun i hi' => ?_⟩, by omega, by omega, fun h => ?_⟩
  · have h := run_slice_lh (P := Try.prog) w' 22 ao n cap ht .i64 .i64 (p : Int) ((p : Int) + (m : Int)) (by omega) (by omega) (by omega)
    rw [h, he]
    have e1 : ((p : Int) + (m : Int)).toNat = p + m := by omega
    simp only [sizeOf, typeInfo, Sem.run_bind, Sem.run_pure, hi, hz1, Result.andThen_ok, sliced, Int.toNat_natCast, e1]
    simp [hi, hz1, Result.andThen, sliced]
  · obtain ⟨b, off, rfl, hcell⟩ := hc (p + i) (by omega)
    refine ⟨b, off + p, ?_, ?_⟩
    · rw [if_neg (by omega)]
      simp [Addr.add_lit]
    · rw [Nat.add_assoc, hcell]
      have e : bt ((l.drop p).take m) i = bt l (p + i) := by rw [bt_take _ _ _ hi', bt_drop]
      rw [e]
  · split at h
    · rename_i g
      omega
    · cases ao with
      | none => have := hnil rfl; omega
      | some a => simp at h

/-- string(..) of whatever is read. -/
theorem conv_rd {w : World} {ao : Option Addr} {n cap : Nat} {l : List UInt8} (hr : RdIn w ao n cap l) : (convert 22 9 (.slice ao n cap)).run Try.prog w = .ok (.string ⟨l.toArray⟩) w := by
  obtain ⟨⟨hl, hc⟩, hcap, hmax, hnil⟩ := hr
  rcases Nat.eq_zero_or_pos n with h0 | h0
  · subst h0
    have hl0 : l = [] := List.eq_nil_of_length_eq_zero hl
    subst hl0
    cases ao with
    | none => exact run_convert_bytes_nil w 22 5 Try.underlying22 Try.underlying5 0 cap 9 Try.underlying9
    | some a =>
      rw [run_convert_bytes_string w 22 9 5 _ 0 cap Try.underlying22 Try.underlying5 Try.underlying9, run_bytesToString w a 0 cap [] (by simp [loadCells, loadCellsFrom])]
      rfl
  · obtain ⟨b, off, rfl, hcell⟩ := (show Rd w ao n l from ⟨hl, hc⟩).at h0
    have h := conv_cut hl hcell 0 n (by omega) cap
    rw [Nat.add_zero] at h
    rw [h]
    simp [cut, List.take_of_length_le (show l.length ≤ n by omega)]

/-- What stands at place a, if a list does: its bytes and the place behind. -/
def getL (l : List UInt8) (a : Int) : Option (List UInt8 × Nat) :=
  if 0 ≤ a ∧ a ≤ (l.length : Int) - 2 ∧ gw l a.toNat ≤ 60 ∧ a.toNat + 2 + gw l a.toNat ≤ l.length then some ((l.drop (a.toNat + 2)).take (gw l a.toNat), a.toNat + 2 + gw l a.toNat) else none

set_option maxHeartbeats 400000 in
/-- impl.span: there is one. -/
theorem span60_yes (ao : Option Addr) (n cap p m : Nat) (l : List UInt8) (w : World) (hr : RdIn w ao n cap l) (hp : p + 2 ≤ n) (hm : gw l p = m) (h60 : m ≤ 60) (hle : p + 2 + m ≤ n) (hn : n ≤ 1099511627776) :
    Calls Try.prog 60 #[.slice ao n cap, .int .i64 p] w fun e w' => e = .returned (.tuple #[.int .i64 ((p + 2 : Nat) : Int), .int .i64 ((p + 2 + m : Nat) : Int), .bool true]) ∧ Below w.heap.size w w' := by
  have HM : Hid (gw l p = m) := hm
  clear hm
  have g1 : ¬ (60 : Int) < m := by omega
  have g2 : ¬ (n : Int) - ((p : Int) + 2) < m := by omega
  go_enter Try.func60, Try.ntmps60
  go_wp2_with fail
  refine (get29_in _ _ _ p l _ hr hp hn).mono ?_
  rintro e w1 ⟨he, hb⟩
  rw [HM.out] at he
  subst he
  go_wp2
  go_ret3
  exact ⟨by simp, hb⟩

set_option maxHeartbeats 400000 in
/-- impl.span: there is none. -/
theorem span60_no (ao : Option Addr) (n cap : Nat) (a : Int) (l : List UInt8) (w : World) (hr : RdIn w ao n cap l) (hn : n ≤ 1099511627776) (h : getL l a = none) :
    Calls Try.prog 60 #[.slice ao n cap, .int .i64 a] w fun e w' => e = .returned (.tuple #[.int .i64 0, .int .i64 0, .bool false]) ∧ Below w.heap.size w w' := by
  by_cases hout : a < 0 ∨ (n : Int) - 2 < a
  · go_enter Try.func60, Try.ntmps60
    go_wp2_with fail
    refine (get29_out _ _ _ _ _ hn hout).mono ?_
    rintro e w1 ⟨rfl, hb⟩
    go_wp2
    go_ret3
    exact ⟨by simp, hb⟩
  · obtain ⟨p, rfl⟩ := Int.eq_ofNat_of_zero_le (show 0 ≤ a by omega)
    obtain ⟨m, hm⟩ : ∃ m, gw l p = m := ⟨_, rfl⟩
    have hl := hr.1.1
    have hbad : 60 < m ∨ n < p + 2 + m := by
      unfold getL at h
      rw [Int.toNat_natCast, hm, hl] at h
      split at h
      · simp at h
      · omega
    have HM : Hid (gw l p = m) := hm
    clear hm h hl
    by_cases g1 : 60 < m
    · have g1' : (60 : Int) < m := by omega
      go_enter Try.func60, Try.ntmps60
      go_wp2_with fail
      refine (get29_in _ _ _ p l _ hr (by omega) hn).mono ?_
      rintro e w1 ⟨he, hb⟩
      rw [HM.out] at he
      subst he
      go_wp2
      go_ret3
      exact ⟨by simp, hb⟩
    · have g1' : ¬ (60 : Int) < m := by omega
      have g2 : (n : Int) - ((p : Int) + 2) < m := by omega
      go_enter Try.func60, Try.ntmps60
      go_wp2_with fail
      refine (get29_in _ _ _ p l _ hr (by omega) hn).mono ?_
      rintro e w1 ⟨he, hb⟩
      rw [HM.out] at he
      subst he
      go_wp2
      go_ret3
      exact ⟨by simp, hb⟩

/-- Where something stands. -/
theorem getL_some {l x : List UInt8} {a : Int} {k : Nat} (h : getL l a = some (x, k)) : ∃ p m : Nat, a = (p : Int) ∧ gw l p = m ∧ p + 2 ≤ l.length ∧ m ≤ 60 ∧ p + 2 + m ≤ l.length ∧ x = (l.drop (p + 2)).take m ∧ k = p + 2 + m ∧ x.length = m := by
  unfold getL at h
  split at h
  · rename_i g
    obtain ⟨p, rfl⟩ := Int.eq_ofNat_of_zero_le g.1
    simp only [Int.toNat_natCast, Option.some.injEq, Prod.mk.injEq] at h g
    refine ⟨p, gw l p, rfl, rfl, by omega, g.2.2.1, g.2.2.2, h.1.symm, h.2.symm, ?_⟩
    rw [← h.1]
    simp
    omega
  · simp at h

set_option maxHeartbeats 400000 in
/-- impl.GetBytes -/
theorem get33_no (ao : Option Addr) (n cap : Nat) (a : Int) (l : List UInt8) (w : World) (hr : RdIn w ao n cap l) (hn : n ≤ 1099511627776) (h : getL l a = none) :
    Calls Try.prog 33 #[.slice ao n cap, .int .i64 a] w fun e w' => e = .returned (.tuple #[.slice none 0 0, .int .i64 0, .bool false]) ∧ Below w.heap.size w w' := by
  go_enter Try.func33, Try.ntmps33
  go_wp2_with fail
  refine (span60_no _ _ _ _ l _ hr hn h).mono ?_
  rintro e w1 ⟨rfl, hb⟩
  go_wp2
  go_ret3
  exact ⟨by simp, hb⟩

set_option maxHeartbeats 400000 in
theorem get33_yes (ao : Option Addr) (n cap : Nat) (a : Int) (l x : List UInt8) (k : Nat) (w : World) (hr : RdIn w ao n cap l) (hn : n ≤ 1099511627776) (h : getL l a = some (x, k)) :
    Calls Try.prog 33 #[.slice ao n cap, .int .i64 a] w fun e w' => ∃ ax cx, e = .returned (.tuple #[.slice ax x.length cx, .int .i64 (k : Nat), .bool true]) ∧ Own w' w.heap.size ax x.length cx x ∧ Below w.heap.size w w' := by
  obtain ⟨p, m, rfl, hm, hp, h60, hle, hx, rfl, hxl⟩ := getL_some h
  have hl := hr.1.1
  rw [hxl]
  obtain ⟨ax, cx, hsl, hrx⟩ := slice_cut hr (p + 2) m (by omega)
  rw [← hx] at hrx
  clear h hx hxl
  have hsl' : ∀ w', (Instr.slice 22 (.slice ao n cap) (some (.int .i64 ((p : Int) + 2))) (some (.int .i64 ((p : Int) + 2 + (m : Int)))) none).run Try.prog w' = .ok (.slice ax m cx) w' := fun w' => by
    have := hsl w'
    rw [show ((p + 2 : Nat) : Int) = (p : Int) + 2 from by omega] at this
    exact this
  clear hsl
  rw [hl] at hp hle
  clear hl
  go_enter Try.func33, Try.ntmps33
  go_wp2_with fail
  refine (span60_yes _ _ _ p m l _ hr hp hm h60 hle hn).mono ?_
  rintro e w1 ⟨rfl, hb⟩
  go_wp2_with fail
  refine (copy57 _ _ _ 0 x _ (hrx.below hb) (by omega) (by omega)).mono ?_
  rintro e w2 ⟨a2, c2, rfl, ho2, hb2⟩
  go_wp2
  go_ret3
  exact ⟨a2, c2, by simp, ho2.mono hb.size, below_next hb hb2⟩

set_option maxHeartbeats 400000 in
/-- spec.GetBytes -/
theorem get37_no (ao : Option Addr) (n cap : Nat) (a : Int) (l : List UInt8) (w : World) (hr : RdIn w ao n cap l) (hn : n ≤ 1099511627776) (h : getL l a = none) :
    Calls Try.prog 37 #[.slice ao n cap, .int .i64 a] w fun e w' => ∃ ax cx, e = .returned (.tuple #[.slice ax 0 cx, .int .i64 0, .bool false]) ∧ Own w' w.heap.size ax 0 cx [] ∧ Below w.heap.size w w' := by
  by_cases hout : a < 0 ∨ (n : Int) - 2 < a
  · go_enter Try.func37, Try.ntmps37
    go_wp2_with fail
    refine (get43_out _ _ _ _ _ hn hout).mono ?_
    rintro e w1 ⟨rfl, hb⟩
    go_wp2
    go_ret3
    exact ⟨_, _, by simp, (own_lit0 w1).mono hb.size, hb.alloc hb.size _⟩
  · obtain ⟨p, rfl⟩ := Int.eq_ofNat_of_zero_le (show 0 ≤ a by omega)
    obtain ⟨m, hm⟩ : ∃ m, gw l p = m := ⟨_, rfl⟩
    have hl := hr.1.1
    have hbad : 60 < m ∨ n < p + 2 + m := by
      unfold getL at h
      rw [Int.toNat_natCast, hm, hl] at h
      split at h
      · simp at h
      · omega
    have HM : Hid (gw l p = m) := hm
    clear hm h hl
    by_cases g1 : 60 < m
    · have g1' : (60 : Int) < m := by omega
      go_enter Try.func37, Try.ntmps37
      go_wp2_with fail
      refine (get43_in _ _ _ p l _ hr (by omega) hn).mono ?_
      rintro e w1 ⟨he, hb⟩
      rw [HM.out] at he
      subst he
      go_wp2
      go_ret3
      exact ⟨_, _, by simp, (own_lit0 w1).mono hb.size, hb.alloc hb.size _⟩
    · have g1' : ¬ (60 : Int) < m := by omega
      have g2 : (n : Int) - ((p : Int) + 2) < m := by omega
      go_enter Try.func37, Try.ntmps37
      go_wp2_with fail
      refine (get43_in _ _ _ p l _ hr (by omega) hn).mono ?_
      rintro e w1 ⟨he, hb⟩
      rw [HM.out] at he
      subst he
      go_wp2
      go_ret3
      exact ⟨_, _, by simp, (own_lit0 w1).mono hb.size, hb.alloc hb.size _⟩

set_option maxHeartbeats 400000 in
theorem get37_yes (ao : Option Addr) (n cap : Nat) (a : Int) (l x : List UInt8) (k : Nat) (w : World) (hr : RdIn w ao n cap l) (hn : n ≤ 1099511627776) (h : getL l a = some (x, k)) :
    Calls Try.prog 37 #[.slice ao n cap, .int .i64 a] w fun e w' => ∃ ax cx, e = .returned (.tuple #[.slice ax x.length cx, .int .i64 (k : Nat), .bool true]) ∧ Own w' w.heap.size ax x.length cx x ∧ Below w.heap.size w w' := by
  obtain ⟨p, m, rfl, hm, hp, h60, hle, hx, rfl, hxl⟩ := getL_some h
  have hl := hr.1.1
  rw [hxl]
  obtain ⟨ax, cx, hsl, hrx⟩ := slice_cut hr (p + 2) m (by omega)
  rw [← hx] at hrx
  clear h hx hxl
  have hsl' : ∀ w', (Instr.slice 22 (.slice ao n cap) (some (.int .i64 ((p : Int) + 2))) (some (.int .i64 ((p : Int) + 2 + (m : Int)))) none).run Try.prog w' = .ok (.slice ax m cx) w' := fun w' => by
    have := hsl w'
    rw [show ((p + 2 : Nat) : Int) = (p : Int) + 2 from by omega] at this
    exact this
  clear hsl
  rw [hl] at hp hle
  clear hl
  have HM : Hid (gw l p = m) := hm
  clear hm
  have g1 : ¬ (60 : Int) < m := by omega
  have g2 : ¬ (n : Int) - ((p : Int) + 2) < m := by omega
  go_enter Try.func37, Try.ntmps37
  go_wp2_with fail
  refine (get43_in _ _ _ p l _ hr hp hn).mono ?_
  rintro e w1 ⟨he, hb⟩
  rw [HM.out] at he
  subst he
  go_wp2_with (at_builtin; refine w_app _ rfl _ _ rfl w1.heap.size _ 0 _ [] rfl (own_lit0 w1) _ _ _ x rfl ((hrx.below hb).alloc _) (by omega) (by simp) ?_)
  intro a2 c2 w2 ho2 hg2
  have hb2 : Below w1.heap.size w1 w2 := below_grow ((Below.refl _ _).alloc (Nat.le_refl _) _) (by simp) (own_lit0 w1) hg2
  go_wp2
  go_ret3
  exact ⟨a2, c2, by simp, ho2.mono hb.size, below_next hb hb2⟩

/-- What GetText answers. -/
def getT (l : List UInt8) (a : Int) : Option (List UInt8 × Nat) := match getL l a with
  | some (x, k) => if okT x then some (x, k) else none
  | none => none

def strOf (x : List UInt8) : ByteArray := ⟨x.toArray⟩
theorem strOf_data (x : List UInt8) : (strOf x).data.toList = x := by simp [strOf]

def ansT (l : List UInt8) (a : Int) : Ending := match getT l a with
  | some (x, k) => .returned (.tuple #[.string (strOf x), .int .i64 (k : Nat), .bool true])
  | none => .returned (.tuple #[.string ⟨#[]⟩, .int .i64 0, .bool false])

set_option maxHeartbeats 400000 in
/-- impl.GetText -/
theorem get31 (ao : Option Addr) (n cap : Nat) (a : Int) (l : List UInt8) (w : World) (hr : RdIn w ao n cap l) (hn : n ≤ 1099511627776) :
    Calls Try.prog 31 #[.slice ao n cap, .int .i64 a] w fun e w' => e = ansT l a ∧ Below w.heap.size w w' := by
  cases h : getL l a with
  | none =>
    have HA : Hid (ansT l a = .returned (.tuple #[.string ⟨#[]⟩, .int .i64 0, .bool false])) := by unfold Hid; simp [ansT, getT, h]
    go_enter Try.func31, Try.ntmps31
    go_wp2_with fail
    refine (span60_no _ _ _ _ l _ hr hn h).mono ?_
    rintro e w1 ⟨rfl, hb⟩
    clear h
    go_wp2
    go_ret3
    exact ⟨by rw [HA.out]; simp, hb⟩
  | some xk =>
    obtain ⟨x, k⟩ := xk
    have hT : Hid (getT l a = if okT x then some (x, k) else none) := by unfold Hid; simp [getT, h]
    obtain ⟨p, m, rfl, hm, hp, h60, hle, hx, rfl, hxl⟩ := getL_some h
    have hl := hr.1.1
    obtain ⟨ax, cx, hsl, hrx⟩ := slice_cut hr (p + 2) m (by omega)
    rw [← hx] at hrx
    clear h hx
    have hsl' : ∀ w', (Instr.slice 22 (.slice ao n cap) (some (.int .i64 ((p : Int) + 2))) (some (.int .i64 ((p : Int) + 2 + (m : Int)))) none).run Try.prog w' = .ok (.slice ax m cx) w' := fun w' => by
      have := hsl w'
      rw [show ((p + 2 : Nat) : Int) = (p : Int) + 2 from by omega] at this
      exact this
    clear hsl
    rw [hl] at hp hle
    clear hl
    have hsz : (strOf x).size < 9223372036854775807 := by show x.toArray.size < _; simp; omega
    cases hok : okT x with
    | false =>
      have HA : Hid (ansT l (p : Int) = .returned (.tuple #[.string ⟨#[]⟩, .int .i64 0, .bool false])) := by unfold Hid ansT; rw [hT.out, hok]; rfl
      go_enter Try.func31, Try.ntmps31
      go_wp2_with fail
      refine (span60_yes _ _ _ p m l _ hr hp hm h60 hle hn).mono ?_
      rintro e w1 ⟨rfl, hb⟩
      have hcv : (convert 22 9 (.slice ax m cx)).run Try.prog w1 = .ok (.string (strOf x)) w1 := conv_rd (hrx.below hb)
      clear hm
      go_wp2_with fail
      refine (ok22 (strOf x) _ hsz).mono ?_
      rintro e w2 ⟨he, hb2⟩
      rw [strOf_data, hok] at he
      subst he
      go_wp2
      go_ret3
      exact ⟨by rw [HA.out]; simp, below_next hb hb2⟩
    | true =>
      have HA : Hid (ansT l (p : Int) = .returned (.tuple #[.string (strOf x), .int .i64 ((p + 2 + m : Nat) : Int), .bool true])) := by unfold Hid ansT; rw [hT.out, hok]; rfl
      go_enter Try.func31, Try.ntmps31
      go_wp2_with fail
      refine (span60_yes _ _ _ p m l _ hr hp hm h60 hle hn).mono ?_
      rintro e w1 ⟨rfl, hb⟩
      have hcv : (convert 22 9 (.slice ax m cx)).run Try.prog w1 = .ok (.string (strOf x)) w1 := conv_rd (hrx.below hb)
      clear hm
      go_wp2_with fail
      refine (ok22 (strOf x) _ hsz).mono ?_
      rintro e w2 ⟨he, hb2⟩
      rw [strOf_data, hok] at he
      subst he
      go_wp2
      go_ret3
      exact ⟨by rw [HA.out]; simp, below_next hb hb2⟩

set_option maxHeartbeats 400000 in
/-- spec.GetText -/
theorem get35 (ao : Option Addr) (n cap : Nat) (a : Int) (l : List UInt8) (w : World) (hr : RdIn w ao n cap l) (hn : n ≤ 1099511627776) :
    Calls Try.prog 35 #[.slice ao n cap, .int .i64 a] w fun e w' => e = ansT l a ∧ Below w.heap.size w w' := by
  cases h : getL l a with
  | none =>
    have HA : Hid (ansT l a = .returned (.tuple #[.string ⟨#[]⟩, .int .i64 0, .bool false])) := by unfold Hid; simp [ansT, getT, h]
    go_enter Try.func35, Try.ntmps35
    go_wp2_with fail
    refine (get37_no _ _ _ _ l _ hr hn h).mono ?_
    rintro e w1 ⟨ax, cx, rfl, ho, hb⟩
    clear h
    go_wp2
    go_ret3
    exact ⟨by rw [HA.out]; simp, hb⟩
  | some xk =>
    obtain ⟨x, k⟩ := xk
    have hT : Hid (getT l a = if okT x then some (x, k) else none) := by unfold Hid; simp [getT, h]
    obtain ⟨p, m, e0, hm, hp, h60, hle, hx, hk, hxl⟩ := getL_some h
    have hsz : (strOf x).size < 9223372036854775800 := by show x.toArray.size < _; simp; omega
    have hG := fun w hr => get37_yes ao n cap a l x k w hr hn h
    clear h hx e0 hm hp hle hk
    cases hok : okT x with
    | false =>
      have HA : Hid (ansT l a = .returned (.tuple #[.string ⟨#[]⟩, .int .i64 0, .bool false])) := by unfold Hid ansT; rw [hT.out, hok]; rfl
      go_enter Try.func35, Try.ntmps35
      go_wp2_with fail
      refine (hG _ hr).mono ?_
      rintro e w1 ⟨ax, cx, rfl, ho, hb⟩
      have hcv : (convert 22 9 (.slice ax x.length cx)).run Try.prog w1 = .ok (.string (strOf x)) w1 := conv_rd ho.rd
      rw [hxl] at hcv
      rw [hxl]
      clear hG
      go_wp2_with fail
      refine (ok30 (strOf x) _ hsz).mono ?_
      rintro e w2 ⟨he, hb2⟩
      rw [strOf_data, hok] at he
      subst he
      go_wp2
      go_ret3
      exact ⟨by rw [HA.out]; simp, below_next hb hb2⟩
    | true =>
      have HA : Hid (ansT l a = .returned (.tuple #[.string (strOf x), .int .i64 (k : Nat), .bool true])) := by unfold Hid ansT; rw [hT.out, hok]; rfl
      go_enter Try.func35, Try.ntmps35
      go_wp2_with fail
      refine (hG _ hr).mono ?_
      rintro e w1 ⟨ax, cx, rfl, ho, hb⟩
      have hcv : (convert 22 9 (.slice ax x.length cx)).run Try.prog w1 = .ok (.string (strOf x)) w1 := conv_rd ho.rd
      rw [hxl] at hcv
      rw [hxl]
      clear hG
      go_wp2_with fail
      refine (ok30 (strOf x) _ hsz).mono ?_
      rintro e w2 ⟨he, hb2⟩
      rw [strOf_data, hok] at he
      subst he
      have hcv2 : (convert 22 9 (.slice ax m cx)).run Try.prog w2 = .ok (.string (strOf x)) w2 := by
        have := conv_rd (ho.below hb2).rd
        rw [hxl] at this
        exact this
      clear hcv
      go_wp2
      go_ret3
      exact ⟨by rw [HA.out]; simp, below_next hb hb2⟩

/-- Both GetWords answer the same. -/
theorem words_same (n : Nat) (l : List UInt8) (a : Int) (hn : n ≤ 1099511627776) : ∃ (x y : Int) (o : Bool),
    (∀ ao cap w, RdIn w ao n cap l → Calls Try.prog 43 #[.slice ao n cap, .int .i64 a] w fun e w' => e = .returned (.tuple #[.int .i64 x, .int .i64 y, .bool o]) ∧ Below w.heap.size w w') ∧
    (∀ ao cap w, RdIn w ao n cap l → Calls Try.prog 29 #[.slice ao n cap, .int .i64 a] w fun e w' => e = .returned (.tuple #[.int .i64 x, .int .i64 y, .bool o]) ∧ Below w.heap.size w w') := by
  by_cases h : a < 0 ∨ (n : Int) - 2 < a
  · exact ⟨0, 0, false, fun ao cap w hr => get43_out ao n cap a w hn h, fun ao cap w hr => get29_out ao n cap a w hn h⟩
  · obtain ⟨p, rfl⟩ := Int.eq_ofNat_of_zero_le (show 0 ≤ a by omega)
    exact ⟨_, _, _, fun ao cap w hr => get43_in ao n cap p l w hr (by omega) hn, fun ao cap w hr => get29_in ao n cap p l w hr (by omega) hn⟩

theorem ansT_form (l : List UInt8) (a : Int) : ∃ (s : ByteArray) (y : Int) (o : Bool), ansT l a = .returned (.tuple #[.string s, .int .i64 y, .bool o]) := by
  unfold ansT
  split
  · exact ⟨_, _, _, rfl⟩
  · exact ⟨_, _, _, rfl⟩

theorem texts_same (n : Nat) (l : List UInt8) (a : Int) (hn : n ≤ 1099511627776) : ∃ (s : ByteArray) (y : Int) (o : Bool),
    (∀ ao cap w, RdIn w ao n cap l → Calls Try.prog 35 #[.slice ao n cap, .int .i64 a] w fun e w' => e = .returned (.tuple #[.string s, .int .i64 y, .bool o]) ∧ Below w.heap.size w w') ∧
    (∀ ao cap w, RdIn w ao n cap l → Calls Try.prog 31 #[.slice ao n cap, .int .i64 a] w fun e w' => e = .returned (.tuple #[.string s, .int .i64 y, .bool o]) ∧ Below w.heap.size w w') := by
  obtain ⟨s, y, o, e⟩ := ansT_form l a
  refine ⟨s, y, o, fun ao cap w hr => ?_, fun ao cap w hr => ?_⟩
  · rw [← e]; exact get35 ao n cap a l w hr hn
  · rw [← e]; exact get31 ao n cap a l w hr hn

/-- Both GetBytes answer the same bytes. -/
theorem bytes_same (n : Nat) (l : List UInt8) (a : Int) (hn : n ≤ 1099511627776) : ∃ (x : List UInt8) (m : Nat) (y : Int) (o : Bool), x.length = m ∧ m ≤ 60 ∧
    (∀ ao cap w, RdIn w ao n cap l → Calls Try.prog 37 #[.slice ao n cap, .int .i64 a] w fun e w' => ∃ ax cx, e = .returned (.tuple #[.slice ax m cx, .int .i64 y, .bool o]) ∧ Own w' w.heap.size ax m cx x ∧ Below w.heap.size w w') ∧
    (∀ ao cap w, RdIn w ao n cap l → Calls Try.prog 33 #[.slice ao n cap, .int .i64 a] w fun e w' => ∃ ax cx, e = .returned (.tuple #[.slice ax m cx, .int .i64 y, .bool o]) ∧ Own w' w.heap.size ax m cx x ∧ Below w.heap.size w w') := by
  cases h : getL l a with
  | none =>
    refine ⟨[], 0, 0, false, rfl, by omega, fun ao cap w hr => get37_no ao n cap a l w hr hn h, fun ao cap w hr => (get33_no ao n cap a l w hr hn h).mono ?_⟩
    rintro e w' ⟨he, hb⟩
    exact ⟨none, 0, he, ⟨rfl, World.ownsRow_nil _ _ _ _⟩, hb⟩
  | some xk =>
    obtain ⟨x, k⟩ := xk
    obtain ⟨p, m, e0, hm, hp, h60, hle, hx, hk, hxl⟩ := getL_some h
    exact ⟨x, x.length, k, true, rfl, by omega, fun ao cap w hr => get37_yes ao n cap a l x k w hr hn h, fun ao cap w hr => get33_yes ao n cap a l x k w hr hn h⟩

end Go.Proofs.Ytbleangknnjlcaa
