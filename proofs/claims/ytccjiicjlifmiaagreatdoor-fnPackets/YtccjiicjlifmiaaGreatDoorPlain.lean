/- Plain facts on signs in bytes (no Go text is run here): which sign a list of bytes begins with, in its shortest form, and how many signs a text has. Contracts of the functions that look at a string alone. -/
import Derived.Lib.DecodeN
import Derived.Test.YtccjiicjlifmiaaGreatDoorRows
import Derived.WalkKit
import Derived.WalkSpells
import Derived.WalkLawsBesides
import Derived.Laws.RangeString
import Derived.Laws.RangeAny
import Derived.Lib.Strings
import Derived.Deep.QuietTactic
import Derived.BigQuiet
set_option linter.unusedVariables false
namespace Go.Proofs.YtccjiicjlifmiaaGreatDoor

/-- The sign (and its width) that n bytes, the first four of them b0 .. b3, begin with. -/
def rune4 (n b0 b1 b2 b3 : Nat) : Option (Nat × Nat) :=
  if b0 < 128 then some (b0, 1)
  else if b0 < 192 then none
  else if b0 < 224 then
    (if 1 < n ∧ (128 ≤ b1 ∧ b1 ≤ 191) ∧ 128 ≤ b0 % 32 * 64 + b1 % 64 then some (b0 % 32 * 64 + b1 % 64, 2) else none)
  else if b0 < 240 then
    (if 2 < n ∧ (128 ≤ b1 ∧ b1 ≤ 191) ∧ (128 ≤ b2 ∧ b2 ≤ 191) ∧ 2048 ≤ b0 % 16 * 4096 + b1 % 64 * 64 + b2 % 64 ∧ ¬ (55296 ≤ b0 % 16 * 4096 + b1 % 64 * 64 + b2 % 64 ∧ b0 % 16 * 4096 + b1 % 64 * 64 + b2 % 64 ≤ 57343)
     then some (b0 % 16 * 4096 + b1 % 64 * 64 + b2 % 64, 3) else none)
  else if b0 < 248 then
    (if 3 < n ∧ (128 ≤ b1 ∧ b1 ≤ 191) ∧ (128 ≤ b2 ∧ b2 ≤ 191) ∧ (128 ≤ b3 ∧ b3 ≤ 191) ∧ 65536 ≤ b0 % 8 * 262144 + b1 % 64 * 4096 + b2 % 64 * 64 + b3 % 64 ∧ b0 % 8 * 262144 + b1 % 64 * 4096 + b2 % 64 * 64 + b3 % 64 ≤ 1114111
     then some (b0 % 8 * 262144 + b1 % 64 * 4096 + b2 % 64 * 64 + b3 % 64, 4) else none)
  else none

def bt (l : List UInt8) (i : Nat) : Nat := (l.getD i 0).toNat

theorem bt_lt (l : List UInt8) (i : Nat) : bt l i < 256 := (l.getD i 0).toNat_lt

/-- The sign that the list begins with. -/
def runeL (l : List UInt8) : Option (Nat × Nat) := if l.length = 0 then none else rune4 l.length (bt l 0) (bt l 1) (bt l 2) (bt l 3)

theorem bt_drop (l : List UInt8) (p k : Nat) : bt (l.drop p) k = bt l (p + k) := by
  simp [bt, List.getD_eq_getElem?_getD]

theorem rune4_width {n b0 b1 b2 b3 r k : Nat} (hn : 0 < n) (h : rune4 n b0 b1 b2 b3 = some (r, k)) : 1 ≤ k ∧ k ≤ n ∧ k ≤ 4 ∧ r ≤ 1114111 := by
  unfold rune4 at h
  repeat' split at h
  all_goals first | contradiction | (simp only [Option.some.injEq, Prod.mk.injEq] at h; omega)

theorem runeL_width {l : List UInt8} {r k : Nat} (h : runeL l = some (r, k)) : 1 ≤ k ∧ k ≤ l.length ∧ k ≤ 4 ∧ r ≤ 1114111 := by
  unfold runeL at h
  split at h
  · simp at h
  · exact rune4_width (by omega) h

set_option maxRecDepth 100000 in
set_option maxHeartbeats 4000000 in
theorem rune4_decode {n b0 b1 b2 b3 r k : Nat} (hn : 0 < n) (h0 : b0 < 256) (h1 : b1 < 256) (h2 : b2 < 256) (h3 : b3 < 256) (h : rune4 n b0 b1 b2 b3 = some (r, k)) : Lib.decodeN n b0 b1 b2 b3 = (r, k) := by
  unfold rune4 at h
  unfold Lib.decodeN
  repeat' split at h
  all_goals first | contradiction | (simp only [Option.some.injEq, Prod.mk.injEq] at h; obtain ⟨rfl, rfl⟩ := h)
  all_goals (repeat' split)
  all_goals first | rfl | (exfalso; omega) | (apply Prod.ext <;> simp only <;> omega)

set_option maxRecDepth 100000 in
set_option maxHeartbeats 4000000 in
theorem rune4_none {n b0 b1 b2 b3 : Nat} (hn : 0 < n) (h0 : b0 < 256) (h1 : b1 < 256) (h2 : b2 < 256) (h3 : b3 < 256) (h : rune4 n b0 b1 b2 b3 = none) : Lib.decodeN n b0 b1 b2 b3 = (65533, 1) := by
  unfold rune4 at h
  unfold Lib.decodeN
  repeat' split at h
  all_goals first | contradiction | skip
  all_goals (repeat' split)
  all_goals first | rfl | (exfalso; omega)

theorem get_bt (s : ByteArray) (i : Nat) : (s.get! i).toNat = bt s.data.toList i := by
  simp only [bt, ByteArray.get!, List.getD_eq_getElem?_getD]
  rw [Array.getElem!_eq_getD, Array.getD_eq_getD_getElem?]
  simp
  rfl

theorem decode_some {s : ByteArray} {p r k : Nat} (h : runeL (s.data.toList.drop p) = some (r, k)) : Utf8.decode s p = (r, k) := by
  rw [Lib.decode_at]
  simp only [get_bt]
  unfold runeL at h
  split at h
  · simp at h
  · rename_i hl
    simp only [bt_drop, List.length_drop, Nat.add_zero] at h hl
    have e : s.size - p = s.data.toList.length - p := rfl
    rw [e]
    exact rune4_decode (by omega) (bt_lt _ _) (bt_lt _ _) (bt_lt _ _) (bt_lt _ _) h

theorem decode_none {s : ByteArray} {p : Nat} (hp : p < s.size) (h : runeL (s.data.toList.drop p) = none) : Utf8.decode s p = (65533, 1) := by
  rw [Lib.decode_at]
  simp only [get_bt]
  have e : s.size - p = s.data.toList.length - p := rfl
  have hl : 0 < s.data.toList.length - p := by rw [← e]; omega
  unfold runeL at h
  rw [if_neg (by simp only [List.length_drop]; omega)] at h
  simp only [bt_drop, List.length_drop, Nat.add_zero] at h
  rw [e]
  exact rune4_none hl (bt_lt _ _) (bt_lt _ _) (bt_lt _ _) (bt_lt _ _) h

/-! ### A sign's bytes -/
theorem ofNat_bt (l : List UInt8) (i n : Nat) (h : n = bt l i) : UInt8.ofNat n = l.getD i 0 := by
  subst h
  simp [bt]

theorem take1 : ∀ (l : List UInt8), 1 ≤ l.length → l.take 1 = [l.getD 0 0]
  | [], h => by simp at h
  | [_], _ => rfl
  | _ :: _ :: _, _ => rfl
theorem take2 : ∀ (l : List UInt8), 2 ≤ l.length → l.take 2 = [l.getD 0 0, l.getD 1 0]
  | [], h => by simp at h
  | [_], h => by simp at h
  | _ :: _ :: _, _ => rfl
theorem take3 : ∀ (l : List UInt8), 3 ≤ l.length → l.take 3 = [l.getD 0 0, l.getD 1 0, l.getD 2 0]
  | [], h => by simp at h
  | [_], h => by simp at h
  | [_, _], h => by simp at h
  | _ :: _ :: _ :: _, _ => rfl
theorem take4 : ∀ (l : List UInt8), 4 ≤ l.length → l.take 4 = [l.getD 0 0, l.getD 1 0, l.getD 2 0, l.getD 3 0]
  | [], h => by simp at h
  | [_], h => by simp at h
  | [_, _], h => by simp at h
  | [_, _, _], h => by simp at h
  | _ :: _ :: _ :: _ :: _, _ => rfl

set_option maxRecDepth 100000 in
set_option maxHeartbeats 4000000 in
theorem encode_rune {l : List UInt8} {r k : Nat} (h : runeL l = some (r, k)) : (Utf8.encode (r : Int)).data.toList = l.take k := by
  have hw := runeL_width h
  have q0 := bt_lt l 0; have q1 := bt_lt l 1; have q2 := bt_lt l 2; have q3 := bt_lt l 3
  unfold runeL at h
  split at h
  · contradiction
  unfold rune4 at h
  have hv : Utf8.valid (r : Int) = true := by
    simp only [Utf8.valid, Bool.or_eq_true, Bool.and_eq_true, decide_eq_true_eq]
    repeat' split at h
    all_goals first | contradiction | (simp only [Option.some.injEq, Prod.mk.injEq] at h; omega)
  unfold Utf8.encode
  simp only [hv, if_true, Int.toNat_natCast]
  repeat' split at h
  all_goals first | (simp only [Option.some.injEq, Prod.mk.injEq] at h; obtain ⟨rfl, rfl⟩ := h) | (simp only [reduceCtorEq] at h)
  · rw [if_pos (by omega), take1 l (by omega)]
    rw [ofNat_bt l 0 (bt l 0) rfl]
  · rw [if_neg (by omega), if_pos (by omega), take2 l (by omega)]
    rw [ofNat_bt l 0 _ (by omega), ofNat_bt l 1 _ (by omega)]
  · rw [if_neg (by omega), if_neg (by omega), if_pos (by omega), take3 l (by omega)]
    rw [ofNat_bt l 0 _ (by omega), ofNat_bt l 1 _ (by omega), ofNat_bt l 2 _ (by omega)]
  · rw [if_neg (by omega), if_neg (by omega), if_neg (by omega), take4 l (by omega)]
    rw [ofNat_bt l 0 _ (by omega), ofNat_bt l 1 _ (by omega), ofNat_bt l 2 _ (by omega), ofNat_bt l 3 _ (by omega)]

theorem encode_err : (Utf8.encode (65533 : Int)).data.toList = [239, 191, 189] := by decide +kernel

/-- Whether s begins with p. -/
def starts (l p : List UInt8) : Bool := decide (p.length ≤ l.length) && (l.take p.length == p)

theorem starts_rune {l : List UInt8} {r k : Nat} (h : runeL l = some (r, k)) : starts l (Utf8.encode (r : Int)).data.toList = true := by
  have hw := runeL_width h
  rw [encode_rune h]
  simp only [starts, List.length_take, Nat.min_eq_left hw.2.1, Bool.and_eq_true, decide_eq_true_eq, beq_self_eq_true, and_true]
  exact hw.2.1

theorem starts_none {l : List UInt8} (hl : l.length ≠ 0) (h : runeL l = none) : starts l (Utf8.encode (65533 : Int)).data.toList = false := by
  rw [encode_err]
  simp only [starts, List.length_cons, List.length_nil]
  by_cases h3 : 3 ≤ l.length
  · rw [take3 l h3]
    simp only [Nat.zero_add, Nat.reduceAdd, h3, decide_true, Bool.true_and, beq_eq_false_iff_ne, ne_eq, List.cons.injEq, and_true]
    rintro ⟨e0, e1, e2⟩
    have b0 : bt l 0 = 239 := by simp only [bt, e0]; rfl
    have b1 : bt l 1 = 191 := by simp only [bt, e1]; rfl
    have b2 : bt l 2 = 189 := by simp only [bt, e2]; rfl
    unfold runeL rune4 at h
    rw [if_neg hl, b0, b1, b2] at h
    rw [if_neg (by omega), if_neg (by omega), if_neg (by omega), if_pos (by omega), if_pos (by omega)] at h
    contradiction
  · simp [h3]

/-! ### How many signs a text has -/
def countF : Nat → List UInt8 → Option Nat
  | 0, l => if l.length = 0 then some 0 else none
  | f + 1, l => if l.length = 0 then some 0 else
    match runeL l with
    | some (r, k) => if r = 0 then none else (countF f (l.drop k)).map (· + 1)
    | none => none

/-- How many signs; none where it is no text. -/
def countT (l : List UInt8) : Option Nat := if 60 < l.length then none else countF l.length l

def countI (l : List UInt8) : Int := match countT l with | some n => n | none => -1
def okT (l : List UInt8) : Bool := (countT l).isSome

theorem countF_end (f : Nat) (l : List UInt8) (h : l.length = 0) : countF f l = some 0 := by
  cases f <;> simp [countF, h]

theorem countF_bad {f : Nat} {l : List UInt8} (hl : l.length ≠ 0) (h : runeL l = none ∨ ∃ k, runeL l = some (0, k)) : countF f l = none := by
  cases f with
  | zero => simp [countF, hl]
  | succ f =>
    rcases h with h | ⟨k, h⟩ <;> simp [countF, hl, h]

theorem countF_step {f : Nat} {l : List UInt8} {r k : Nat} (hl : l.length ≠ 0) (h : runeL l = some (r, k)) (hr : r ≠ 0) : countF (f + 1) l = (countF f (l.drop k)).map (· + 1) := by
  simp [countF, hl, h, hr]

theorem countF_le : ∀ (f : Nat) (l : List UInt8) (n : Nat), countF f l = some n → n ≤ l.length := by
  intro f
  induction f with
  | zero =>
    intro l n h
    simp only [countF] at h
    split at h
    · simp at h; omega
    · contradiction
  | succ f ih =>
    intro l n h
    simp only [countF] at h
    split at h
    · simp at h; omega
    · split at h
      · rename_i r k hr
        have hw := runeL_width hr
        split at h
        · contradiction
        · simp only [Option.map_eq_some_iff] at h
          obtain ⟨m, hm, rfl⟩ := h
          have := ih _ _ hm
          simp only [List.length_drop] at this
          omega
      · contradiction

theorem okT_long {l : List UInt8} (h : 60 < l.length) : okT l = false := by simp [okT, countT, h]
theorem okT_short {l : List UInt8} (h : ¬ 60 < l.length) : okT l = (countF l.length l).isSome := by simp [okT, countT, h]
theorem countI_long {l : List UInt8} (h : 60 < l.length) : countI l = -1 := by simp [countI, countT, h]
theorem countI_ge (l : List UInt8) : decide (0 ≤ countI l) = okT l := by
  unfold countI okT
  cases countT l <;> simp
theorem countI_le (l : List UInt8) : countI l ≤ l.length := by
  unfold countI
  cases h : countT l with
  | none => simp only; omega
  | some n =>
    unfold countT at h
    split at h
    · contradiction
    · have := countF_le _ _ _ h
      simp only
      omega

end Go.Proofs.YtccjiicjlifmiaaGreatDoor
set_option linter.unusedVariables false
set_option linter.unusedSimpArgs false
namespace Go.Proofs.YtccjiicjlifmiaaGreatDoor
open Go.RowKit

theorem ret_bool {a b : Bool} (h : a = b) : Ending.returned (.bool a) = .returned (.bool b) := by rw [h]
theorem ret_int {k : IntKind} {a b : Int} (h : a = b) : Ending.returned (.int k a) = .returned (.int k b) := by rw [h]

theorem starts_extract (s p : ByteArray) (h : p.size ≤ s.size) : ((s.extract 0 p.size).toList == p.toList) = starts s.data.toList p.data.toList := by
  have e1 : s.size = s.data.toList.length := rfl
  have e2 : p.size = p.data.toList.length := rfl
  rw [ByteArray.toList_eq, ByteArray.toList_eq, Lib.extract_data]
  simp only [starts, List.drop_zero, Nat.sub_zero]
  rw [e1, e2] at h
  rw [e2, decide_eq_true h, Bool.true_and]

theorem hp_slHasPrefix (s p : ByteArray) (w : World) :
    Calls Tryz.prog 175 #[.string s, .string p] w fun e w' => e = .returned (.bool (starts s.data.toList p.data.toList)) ∧ w' = w := by
  by_cases h : p.size ≤ s.size
  · have h' : (p.size : Int) ≤ (s.size : Int) := by omega
    go_enter Tryz.func175, Tryz.ntmps175
    go_wp2
    go_ret
    exact ⟨ret_bool (starts_extract s p h), rfl⟩
  · have h' : (s.size : Int) < (p.size : Int) := by omega
    go_enter Tryz.func175, Tryz.ntmps175
    go_wp2
    go_ret
    refine ⟨ret_bool ?_, rfl⟩
    have e1 : s.size = s.data.toList.length := rfl
    have e2 : p.size = p.data.toList.length := rfl
    rw [e1, e2] at h
    rw [starts, decide_eq_false h, Bool.false_and]

theorem hp_xHasPrefix (s p : ByteArray) (w : World) :
    Calls Tryz.prog 174 #[.string s, .string p] w fun e w' => e = .returned (.bool (starts s.data.toList p.data.toList)) ∧ w' = w := by
  go_enter Tryz.func174, Tryz.ntmps174
  go_wp2_with (go_at_call 175; refine (hp_slHasPrefix _ _ _).mono ?_; rintro e w' ⟨rfl, rfl⟩)
  go_ret
  exact ⟨rfl, rfl⟩

theorem begins_ibegins (s : ByteArray) (r : Int) (w : World) :
    Calls Tryz.prog 173 #[.string s, .int .i32 r] w fun e w' => e = .returned (.bool (starts s.data.toList (Utf8.encode r).data.toList)) ∧ w' = w := by
  go_enter Tryz.func173, Tryz.ntmps173
  go_wp2_with (go_at_call 174; refine (hp_xHasPrefix _ _ _).mono ?_; rintro e w' ⟨rfl, rfl⟩)
  go_ret
  exact ⟨rfl, rfl⟩

theorem begins_ibeginsb (s : ByteArray) (r : Int) (w : World) (b : Bool) (hb : starts s.data.toList (Utf8.encode r).data.toList = b) :
    Calls Tryz.prog 173 #[.string s, .int .i32 r] w fun e w' => e = .returned (.bool b) ∧ w' = w := by
  subst hb
  exact begins_ibegins s r w

theorem iter_below (w : World) (s : ByteArray) (p : Nat) : Below w.heap.size w (w.iter s p) := (Below.refl _ _).alloc (Nat.le_refl _) _

theorem drop_size (s : ByteArray) (p : Nat) : (s.extract p s.size).data.toList = s.data.toList.drop p := by
  rw [Lib.extract_data]
  apply List.take_of_length_le
  rw [List.length_drop]
  exact Nat.le_refl _

/-- impl.TextOk. -/
theorem ok_iTextOk (s : ByteArray) (w : World) (hs : s.size < 9223372036854775807) :
    Calls Tryz.prog 172 #[.string s] w fun e w' => e = .returned (.bool (okT s.data.toList)) ∧ Below w.heap.size w w' := by
  have e1 : s.size = s.data.toList.length := rfl
  by_cases hlong : 60 < s.size
  · have h' : (60 : Int) < (s.size : Int) := by omega
    have hk : Hid (okT s.data.toList = false) := okT_long (by omega)
    clear e1
    go_enter Tryz.func172, Tryz.ntmps172
    go_wp2
    go_ret
    exact ⟨ret_bool hk.out.symm, Below.refl _ _⟩
  · have h' : (s.size : Int) ≤ 60 := by omega
    have hk : Hid (okT s.data.toList = (countF s.data.toList.length s.data.toList).isSome) := okT_short (by omega)
    have H1 : Hid (s.size = s.data.toList.length) := e1
    clear e1
    go_enter Tryz.func172, Tryz.ntmps172
    go_wp2
    go_loopw [3] (fun _ w' => ∃ (pos f : Nat), w' = w.iter s pos ∧ pos ≤ s.size ∧ s.size ≤ pos + f ∧ (countF s.data.toList.length s.data.toList).isSome = (countF f (s.data.toList.drop pos)).isSome) (fun _ w' => s.size - w'.iterPos w.heap.size)
    case atStart => exact ⟨0, s.size, rfl, Nat.zero_le _, by omega, rfl⟩
    case round =>
      obtain ⟨pos, f, rfl, hpos, hf, hc⟩ := hrel
      have HC : Hid ((countF s.data.toList.length s.data.toList).isSome = (countF f (s.data.toList.drop pos)).isSome) := hc
      clear hc
      by_cases hp : pos < s.size
      · have hl : (s.data.toList.drop pos).length ≠ 0 := by rw [List.length_drop, ← H1.out]; omega
        cases hr : runeL (s.data.toList.drop pos) with
        | none =>
          have hst : Hid (starts (s.data.toList.drop pos) (Utf8.encode (65533 : Int)).data.toList = false) := starts_none hl hr
          have hd : Utf8.decode s pos = (65533, 1) := decode_none hp hr
          have hnx : ∀ ty, (Instr.next (.pointer (some ⟨w.heap.size, 0, none⟩)) true ty).run Tryz.prog (w.iter s pos) = .ok (.tuple #[.bool true, .int .i64 (pos : Nat), .int .i32 65533]) (w.iter s (pos + 1)) := fun ty => by
            have := run_next_any (P := Tryz.prog) w s pos ty hp
            rw [hd] at this
            exact this
          have HF : Hid (countF f (s.data.toList.drop pos) = none) := countF_bad hl (.inl hr)
          clear hd hr hl
          go_wp2_with (go_at_call 173; refine (begins_ibeginsb _ _ _ false (by rw [drop_size]; exact hst.out)).mono ?_; rintro e w' ⟨rfl, rfl⟩)
          go_ret
          exact ⟨ret_bool (by rw [hk.out, HC.out, HF.out]; rfl), iter_below _ _ _⟩
        | some rk =>
          obtain ⟨r, k⟩ := rk
          have hw := runeL_width hr
          rw [List.length_drop, ← H1.out] at hw
          have hst : Hid (starts (s.data.toList.drop pos) (Utf8.encode (r : Int)).data.toList = true) := starts_rune hr
          have hd : Utf8.decode s pos = (r, k) := decode_some hr
          have hnx : ∀ ty, (Instr.next (.pointer (some ⟨w.heap.size, 0, none⟩)) true ty).run Tryz.prog (w.iter s pos) = .ok (.tuple #[.bool true, .int .i64 (pos : Nat), .int .i32 (r : Nat)]) (w.iter s (pos + k)) := fun ty => by
            have := run_next_any (P := Tryz.prog) w s pos ty hp
            rw [hd] at this
            exact this
          by_cases hr0 : r = 0
          · subst hr0
            have HF : Hid (countF f (s.data.toList.drop pos) = none) := countF_bad hl (.inr ⟨k, hr⟩)
            clear hd hr hl hst hw
            go_wp2_with fail
            go_ret
            exact ⟨ret_bool (by rw [hk.out, HC.out, HF.out]; rfl), iter_below _ _ _⟩
          · have hz : ((r : Int) == 0) = false := by simp; omega
            have HR : Hid (runeL (s.data.toList.drop pos) = some (r, k)) := hr
            have HL : Hid ((s.data.toList.drop pos).length ≠ 0) := hl
            have H0 : Hid (r ≠ 0) := hr0
            clear hd hr hl hr0
            go_wp2_with (go_at_call 173; refine (begins_ibeginsb _ _ _ true (by rw [drop_size]; exact hst.out)).mono ?_; rintro e w' ⟨rfl, rfl⟩)
            go_roundw
            case rel =>
              cases f with
              | zero => omega
              | succ f =>
                refine ⟨pos + k, f, rfl, by omega, by omega, ?_⟩
                rw [HC.out, countF_step HL.out HR.out H0.out, List.drop_drop]
                simp
            case measure =>
              simp
              omega
      · have hnx : ∀ ty, (Instr.next (.pointer (some ⟨w.heap.size, 0, none⟩)) true ty).run Tryz.prog (w.iter s pos) = _ := fun ty => run_next_end w s pos ty hp
        have HF : Hid (countF f (s.data.toList.drop pos) = some 0) := countF_end f _ (by rw [List.length_drop, ← H1.out]; omega)
        go_wp2
        go_ret
        exact ⟨ret_bool (by rw [hk.out, HC.out, HF.out]; rfl), iter_below _ _ _⟩

end Go.Proofs.YtccjiicjlifmiaaGreatDoor
