/- Texts that the law FnExactBufOk uses. -/
import Derived.Laws.IdiomStrings
import Derived.Test.YtccjiicjlifmiaaGreatDoorR03
set_option linter.unusedVariables false
set_option linter.unusedSimpArgs false
set_option maxRecDepth 100000
set_option maxHeartbeats 20000000
namespace Go.Proofs.YtccjiicjlifmiaaGreatDoor
open Go.RowKit

theorem qrv (s : ByteArray) (cap i : Nat) (h : i < s.size) : (bytesRow s cap)[i]? = some (.int .u8 (bt s.data.toList i)) := by
 have hs : s.size = s.data.size := rfl
 have e : bt s.data.toList i = (s.data[i]'(by omega)).toNat := by
  simp only [bt, List.getD_eq_getElem?_getD]
  rw [List.getElem?_eq_getElem (by simpa using (by omega : i < s.data.size))]
  simp
 simp only [bytesRow]
 rw [Array.getElem?_append_left (by simpa using (by omega : i < s.data.size))]
 rw [Array.getElem?_map, Array.getElem?_eq_getElem (by omega)]
 simp [e]

theorem bytes_made (s : ByteArray) (w : World) : ∃ wb cap, (convert 9 22 (.string s)).run Tryz.prog w = .ok (.slice (some ⟨w.heap.size, 0, none⟩) s.size cap) wb ∧
  Rd wb (some ⟨w.heap.size, 0, none⟩) s.size s.data.toList ∧ Below w.heap.size w wb := by
 refine ⟨_, _, run_bytes_of_string w 9 22 5 s Tryz.underlying9 Tryz.underlying22 Tryz.underlying5, ⟨rfl, fun i hi => ⟨_, _, rfl, ?_⟩⟩, ?_⟩
 ·show (w.drew.alloc _).cell? ⟨w.drew.heap.size, _, none⟩ = _
  rw [Nat.zero_add, World.cell?_alloc_mark]
  exact qrv s _ i hi
 ·exact ((Below.refl _ _).drew).alloc (Nat.le_refl _) _

theorem qrz {l : List UInt8} (h : ¬ 60 < l.length) {n : Nat} (hc : qbt l.length l = some n) : qge l = n := by simp [qge, qld, h, hc]
theorem qry {l : List UInt8} (h : ¬ 60 < l.length) (hc : qbt l.length l = none) : qge l = -1 := by simp [qge, qld, h, hc]

theorem qki (s : ByteArray) (w : World) (hs : s.size < 9223372036854775800) :
  Calls Tryz.prog 121 #[.string s] w fun e w' => e = .returned (.int .i64 (qge s.data.toList)) ∧ Below w.heap.size w w' := by
 have e1 : s.size = s.data.toList.length := rfl
 by_cases hlong : 60 < s.size
 ·have h' : (60 : Int) < (s.size : Int) := by omega
  have hk : Hid (qge s.data.toList = -1) := qrx (by omega)
  clear e1
  go_enter Tryz.func121, Tryz.ntmps121
  go_wp2
  go_ret
  exact ⟨qqc hk.out.symm, Below.refl _ _⟩
 have h' : (s.size : Int) ≤ 60 := by omega
 have K1 : Hid (∀ n, qbt s.data.toList.length s.data.toList = some n → qge s.data.toList = n) := fun n h => qrz (by omega) h
 have K2 : Hid (qbt s.data.toList.length s.data.toList = none → qge s.data.toList = -1) := fun h => qry (by omega) h
 have H1 : Hid (s.size = s.data.toList.length) := e1
 clear e1
 obtain ⟨wb, cap, hconv, hrd, hbel⟩ := bytes_made s w
 generalize hl : s.data.toList = l at *
 clear hl
 go_enter Tryz.func121, Tryz.ntmps121
 go_wp2
 go_loop [4, 5, 6, 7, 8] (fun n i _ _ _ => ∃ pos acc f : Nat, i = .int .i64 pos ∧ n = .int .i64 acc ∧ pos ≤ s.size ∧ s.size ≤ pos + f ∧ acc ≤ pos ∧ qbt l.length l = (qbt f (l.drop pos)).map (acc + ·)) (fun _ i _ _ _ => s.size - (intOf i).toNat)
 case atStart => exact ⟨0, 0, l.length, rfl, rfl, Nat.zero_le _, by have := H1.out; omega, Nat.le_refl _, by simp⟩
 case round =>
  obtain ⟨pos, acc, f, rfl, rfl, hpos, hf, ha, hc⟩ := hrel
  have HC : Hid (qbt l.length l = (qbt f (l.drop pos)).map (acc + ·)) := hc
  clear hc
  by_cases hp : pos < s.size
  ·have hp' : (pos : Int) < s.size := by omega
   have hl0 : (l.drop pos).length ≠ 0 := by rw [List.length_drop, ← H1.out]; omega
   cases hr : runeL (l.drop pos) with
   | none =>
    have HA : Hid (ansR l pos = _) := qcy hr
    have HF : Hid (qbt f (l.drop pos) = none) := qio hl0 (.inl hr)
    clear hr hl0
    go_wp2_with (go_at_call 148; refine (qfn _ _ _ _ _ _ hrd hp hs).mono ?_; rintro e w' ⟨he, rfl⟩; rw [HA.out] at he; subst he)
    go_ret
    exact ⟨qqc (K2.out (by rw [HC.out, HF.out]; rfl)).symm, hbel⟩
   | some rk =>
    obtain ⟨r, k⟩ := rk
    have hw := qei hr
    rw [List.length_drop, ← H1.out] at hw
    have HA : Hid (ansR l pos = _) := qhu hr
    by_cases hr0 : r = 0
    ·subst hr0
     have HF : Hid (qbt f (l.drop pos) = none) := qio hl0 (.inr ⟨k, hr⟩)
     clear hr hl0
     go_wp2_with (go_at_call 148; refine (qfn _ _ _ _ _ _ hrd hp hs).mono ?_; rintro e w' ⟨he, rfl⟩; rw [HA.out] at he; subst he)
     go_ret
     exact ⟨qqc (K2.out (by rw [HC.out, HF.out]; rfl)).symm, hbel⟩
    ·have hz : ((r : Int) == 0) = false := by simp; omega
     have HR : Hid (runeL (l.drop pos) = some (r, k)) := hr
     have HL : Hid ((l.drop pos).length ≠ 0) := hl0
     have H0 : Hid (r ≠ 0) := hr0
     clear hr hl0 hr0
     go_wp2_with (go_at_call 148; refine (qfn _ _ _ _ _ _ hrd hp hs).mono ?_; rintro e w' ⟨he, rfl⟩; rw [HA.out] at he; subst he)
     go_round
     case rel =>
      cases f with
      | zero => omega
      | succ f =>
       refine ⟨pos + k, acc + 1, f, by go_num, by go_num, by omega, by omega, by omega, ?_⟩
       rw [HC.out, qmj HL.out HR.out H0.out, List.drop_drop]
       cases qbt f (l.drop (pos + k)) <;> simp
       omega
     case measure =>
      simp [intOf]
      omega
  ·have hp' : ¬ (pos : Int) < s.size := by omega
   have HF : Hid (qbt f (l.drop pos) = some 0) := qoz f _ (by rw [List.length_drop, ← H1.out]; omega)
   go_wp2
   go_ret
   exact ⟨qqc (K1.out acc (by rw [HC.out, HF.out]; rfl)).symm, hbel⟩

theorem qct (s : ByteArray) (w : World) (hs : s.size < 9223372036854775800) :
  Calls Tryz.prog 72 #[.string s] w fun e w' => e = .returned (.bool (okT s.data.toList)) ∧ Below w.heap.size w w' := by
 have hk : Hid (decide (0 ≤ qge s.data.toList) = okT s.data.toList) := countI_ge _
 go_enter Tryz.func72, Tryz.ntmps72
 go_wp2_with (go_at_call 121; refine (qki s _ hs).mono ?_; rintro e w' ⟨rfl, hb⟩)
 go_ret
 exact ⟨qab hk.out, hb⟩

end Go.Proofs.YtccjiicjlifmiaaGreatDoor
