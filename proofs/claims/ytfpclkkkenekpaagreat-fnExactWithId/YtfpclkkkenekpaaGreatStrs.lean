/- Contracts of the functions that look at a string alone. -/
import Derived.Test.YtfpclkkkenekpaaGreatRows
import Derived.Test.YtfpclkkkenekpaaGreatPlain
import Derived.WalkKit
import Derived.WalkSpells
import Derived.WalkLawsBesides
import Derived.Laws.RangeString
import Derived.Laws.RangeAny
import Derived.Lib.Strings
import Derived.Deep.QuietTactic
import Derived.BigQuiet
set_option linter.unusedVariables false
set_option linter.unusedSimpArgs false
namespace Go.Proofs.YtfpclkkkenekpaaGreat
open Go.RowKit

theorem ret_bool {a b : Bool} (h : a = b) : Ending.returned (.bool a) = .returned (.bool b) := by rw [h]
theorem ret_int {k : IntKind} {a b : Int} (h : a = b) : Ending.returned (.int k a) = .returned (.int k b) := by rw [h]

theorem starts_extract (s p : ByteArray) (h : p.size ≤ s.size) : ((s.extract 0 p.size).toList == p.toList) = starts s.data.toList p.data.toList := by
  have e1 : s.size = s.data.toList.length := rfl
  have e2 : p.size = p.data.toList.length := rfl
  rw [ByteArray.toList_eq, ByteArray.toList_eq, Lib.extract_data]
  simp only [starts, List.drop_zero, Nat.sub_zero]
  rw [e1, e2] at h
  rw [e2, decide_eq_true h, Bool.true_and]

theorem hp_slHasPrefix (s p : ByteArray) (w : World) :
    Calls Tryz.prog 119 #[.string s, .string p] w fun e w' => e = .returned (.bool (starts s.data.toList p.data.toList)) ∧ w' = w := by
  by_cases h : p.size ≤ s.size
  · have h' : (p.size : Int) ≤ (s.size : Int) := by omega
    go_enter Tryz.func119, Tryz.ntmps119
    go_wp2
    go_ret
    exact ⟨ret_bool (starts_extract s p h), rfl⟩
  · have h' : (s.size : Int) < (p.size : Int) := by omega
    go_enter Tryz.func119, Tryz.ntmps119
    go_wp2
    go_ret
    refine ⟨ret_bool ?_, rfl⟩
    have e1 : s.size = s.data.toList.length := rfl
    have e2 : p.size = p.data.toList.length := rfl
    rw [e1, e2] at h
    rw [starts, decide_eq_false h, Bool.false_and]

theorem hp_xHasPrefix (s p : ByteArray) (w : World) :
    Calls Tryz.prog 112 #[.string s, .string p] w fun e w' => e = .returned (.bool (starts s.data.toList p.data.toList)) ∧ w' = w := by
  go_enter Tryz.func112, Tryz.ntmps112
  go_wp2_with (go_at_call 119; refine (hp_slHasPrefix _ _ _).mono ?_; rintro e w' ⟨rfl, rfl⟩)
  go_ret
  exact ⟨rfl, rfl⟩

theorem begins_ibegins (s : ByteArray) (r : Int) (w : World) :
    Calls Tryz.prog 108 #[.string s, .int .i32 r] w fun e w' => e = .returned (.bool (starts s.data.toList (Utf8.encode r).data.toList)) ∧ w' = w := by
  go_enter Tryz.func108, Tryz.ntmps108
  go_wp2_with (go_at_call 112; refine (hp_xHasPrefix _ _ _).mono ?_; rintro e w' ⟨rfl, rfl⟩)
  go_ret
  exact ⟨rfl, rfl⟩

theorem begins_ibeginsb (s : ByteArray) (r : Int) (w : World) (b : Bool) (hb : starts s.data.toList (Utf8.encode r).data.toList = b) :
    Calls Tryz.prog 108 #[.string s, .int .i32 r] w fun e w' => e = .returned (.bool b) ∧ w' = w := by
  subst hb
  exact begins_ibegins s r w

theorem iter_below (w : World) (s : ByteArray) (p : Nat) : Below w.heap.size w (w.iter s p) := (Below.refl _ _).alloc (Nat.le_refl _) _

theorem drop_size (s : ByteArray) (p : Nat) : (s.extract p s.size).data.toList = s.data.toList.drop p := by
  rw [Lib.extract_data]
  apply List.take_of_length_le
  rw [List.length_drop]
  exact Nat.le_refl _

/-- impl.TextOk. -/
theorem ok_iTextOk (s : ByteArray) (w : World) (hs : s.size < 9223372036854775807) :
    Calls Tryz.prog 105 #[.string s] w fun e w' => e = .returned (.bool (okT s.data.toList)) ∧ Below w.heap.size w w' := by
  have e1 : s.size = s.data.toList.length := rfl
  by_cases hlong : 60 < s.size
  · have h' : (60 : Int) < (s.size : Int) := by omega
    have hk : Hid (okT s.data.toList = false) := okT_long (by omega)
    clear e1
    go_enter Tryz.func105, Tryz.ntmps105
    go_wp2
    go_ret
    exact ⟨ret_bool hk.out.symm, Below.refl _ _⟩
  · have h' : (s.size : Int) ≤ 60 := by omega
    have hk : Hid (okT s.data.toList = (countF s.data.toList.length s.data.toList).isSome) := okT_short (by omega)
    have H1 : Hid (s.size = s.data.toList.length) := e1
    clear e1
    go_enter Tryz.func105, Tryz.ntmps105
    go_wp2
    go_loopw [3] (fun _ w' => ∃ (pos f : Nat), w' = w.iter s pos ∧ pos ≤ s.size ∧ s.size ≤ pos + f ∧ (countF s.data.toList.length s.data.toList).isSome = (countF f (s.data.toList.drop pos)).isSome) (fun _ w' => s.size - w'.iterPos w.heap.size)
    case atStart => exact ⟨0, s.size, rfl, Nat.zero_le _, by omega, rfl⟩
    case round =>
      obtain ⟨pos, f, rfl, hpos, hf, hc⟩ := hrel
      have HC : Hid ((countF s.data.toList.length s.data.toList).isSome = (countF f (s.data.toList.drop pos)).isSome) := hc
      clear hc
      by_cases hp : pos < s.size
      · have hl : (s.data.toList.drop pos).length ≠ 0 := by rw [List.length_drop, ← H1.out]; omega
        cases hr : runeL (s.data.toList.drop pos) with
        | none =>
          have hst : Hid (starts (s.data.toList.drop pos) (Utf8.encode (65533 : Int)).data.toList = false) := starts_none hl hr
          have hd : Utf8.decode s pos = (65533, 1) := decode_none hp hr
          have hnx : ∀ ty, (Instr.next (.pointer (some ⟨w.heap.size, 0, none⟩)) true ty).run Tryz.prog (w.iter s pos) = .ok (.tuple #[.bool true, .int .i64 (pos : Nat), .int .i32 65533]) (w.iter s (pos + 1)) := fun ty => by
            have := run_next_any (P := Tryz.prog) w s pos ty hp
            rw [hd] at this
            exact this
          have HF : Hid (countF f (s.data.toList.drop pos) = none) := countF_bad hl (.inl hr)
          clear hd hr hl
          go_wp2_with (go_at_call 108; refine (begins_ibeginsb _ _ _ false (by rw [drop_size]; exact hst.out)).mono ?_; rintro e w' ⟨rfl, rfl⟩)
          go_ret
          exact ⟨ret_bool (by rw [hk.out, HC.out, HF.out]; rfl), iter_below _ _ _⟩
        | some rk =>
          obtain ⟨r, k⟩ := rk
          have hw := runeL_width hr
          rw [List.length_drop, ← H1.out] at hw
          have hst : Hid (starts (s.data.toList.drop pos) (Utf8.encode (r : Int)).data.toList = true) := starts_rune hr
          have hd : Utf8.decode s pos = (r, k) := decode_some hr
          have hnx : ∀ ty, (Instr.next (.pointer (some ⟨w.heap.size, 0, none⟩)) true ty).run Tryz.prog (w.iter s pos) = .ok (.tuple #[.bool true, .int .i64 (pos : Nat), .int .i32 (r : Nat)]) (w.iter s (pos + k)) := fun ty => by
            have := run_next_any (P := Tryz.prog) w s pos ty hp
            rw [hd] at this
            exact this
          by_cases hr0 : r = 0
          · subst hr0
            have HF : Hid (countF f (s.data.toList.drop pos) = none) := countF_bad hl (.inr ⟨k, hr⟩)
            clear hd hr hl hst hw
            go_wp2_with fail
            go_ret
            exact ⟨ret_bool (by rw [hk.out, HC.out, HF.out]; rfl), iter_below _ _ _⟩
          · have hz : ((r : Int) == 0) = false := by simp; omega
            have HR : Hid (runeL (s.data.toList.drop pos) = some (r, k)) := hr
            have HL : Hid ((s.data.toList.drop pos).length ≠ 0) := hl
            have H0 : Hid (r ≠ 0) := hr0
            clear hd hr hl hr0
            go_wp2_with (go_at_call 108; refine (begins_ibeginsb _ _ _ true (by rw [drop_size]; exact hst.out)).mono ?_; rintro e w' ⟨rfl, rfl⟩)
            go_roundw
            case rel =>
              cases f with
              | zero => omega
              | succ f =>
                refine ⟨pos + k, f, rfl, by omega, by omega, ?_⟩
                rw [HC.out, countF_step HL.out HR.out H0.out, List.drop_drop]
                simp
            case measure =>
              simp
              omega
      · have hnx : ∀ ty, (Instr.next (.pointer (some ⟨w.heap.size, 0, none⟩)) true ty).run Tryz.prog (w.iter s pos) = _ := fun ty => run_next_end w s pos ty hp
        have HF : Hid (countF f (s.data.toList.drop pos) = some 0) := countF_end f _ (by rw [List.length_drop, ← H1.out]; omega)
        go_wp2
        go_ret
        exact ⟨ret_bool (by rw [hk.out, HC.out, HF.out]; rfl), iter_below _ _ _⟩

end Go.Proofs.YtfpclkkkenekpaaGreat
