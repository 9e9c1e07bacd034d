/- A packet's bytes, as a value. -/
import Derived.Test.YtccjiicjlifmiaaGreatDoorFol
set_option linter.unusedVariables false
set_option linter.unusedSimpArgs false
namespace Go.Proofs.YtccjiicjlifmiaaGreatDoor
open Go.RowKit

/-- What its kind puts ahead of an Id. -/
def Pv.head (v : Pv) : List UInt8 :=
  if v.ty = 1 then conB v.lev v.cli v.cln v.kee v.hw v.wt v.wb v.wq v.wr v.hu v.us v.hp v.pa
  else if v.ty = 2 then [byte (bit v.pre 1), byte v.cod]
  else if v.ty = 3 then pubB v.qos v.id v.top v.bod
  else []
/-- The lower bits of its first byte. -/
def Pv.low (v : Pv) : Int := if v.ty = 3 then pubL v.dup v.qos v.ret else if v.ty = 6 ∨ v.ty = 8 ∨ v.ty = 10 then 2 else 0
def Pv.idB (v : Pv) : List UInt8 := if v.ty ≠ 3 ∧ 0 < v.id then wordB v.id else []
/-- All that follows its length. -/
def Pv.rest (v : Pv) : List UInt8 := v.head ++ v.idB ++ wanB v.wan ++ cdsB v.cds ++ namB v.nam
def Pv.full (v : Pv) : List UInt8 := [byte (16 * v.ty + v.low)] ++ lenB v.rest.length ++ v.rest
/-- A packet's bytes; none of one that is not right. -/
def Pv.bytes (v : Pv) : List UInt8 := if v.ok then v.full else []

theorem flat_le {α : Type} (f : α → List UInt8) (k : Nat) (h : ∀ x, (f x).length ≤ k) (l : List α) : (l.flatMap f).length ≤ k * l.length := by
  induction l with
  | nil => simp
  | cons x l ih =>
    have := h x
    simp only [List.flatMap_cons, List.length_append, List.length_cons, Nat.mul_add, Nat.mul_one]
    omega
theorem wanB_le (l : List (ByteArray × Int)) : (wanB l).length ≤ 63 * l.length := flat_le _ 63 (fun x => by have := pT_le x.1; simp; omega) l
theorem namB_le (l : List ByteArray) : (namB l).length ≤ 62 * l.length := flat_le _ 62 pT_le l
theorem cdsB_le (l : List Int) : (cdsB l).length = l.length := by simp [cdsB]
theorem if_le (c : Bool) (x : List UInt8) (k : Nat) (h : x.length ≤ k) : (if c then x else []).length ≤ k := by
  cases c
  · simp
  · exact h
theorem conB_le (lev : Int) (cli : ByteArray) (cln : Bool) (kee : Int) (hw : Bool) (wt : ByteArray) (wb : List UInt8) (wq : Int) (wr : Bool) (hu : Bool) (us : ByteArray) (hp : Bool) (pa : List UInt8) : (conB lev cli cln kee hw wt wb wq wr hu us hp pa).length ≤ 500 := by
  unfold conB
  have h1 := pT_le mqtt
  have h2 := pT_le cli
  have h3 := if_le hw (pT wt ++ pB wb) 124 (by have := pT_le wt; have := pB_le wb; simp; omega)
  have h4 := if_le hu (pT us) 62 (pT_le us)
  have h5 := if_le hp (pB pa) 62 (pB_le pa)
  simp only [List.length_append, List.length_cons, List.length_nil, wordB_length]
  omega
theorem pubB_le (qos id : Int) (top : ByteArray) (b : List UInt8) : (pubB qos id top b).length ≤ 64 + b.length := by
  unfold pubB
  have := pT_le top
  split <;> simp [wordB_length] <;> omega
theorem rest_le (v : Pv) (h1 : v.bod.length ≤ 1048576) (h2 : v.wan.length ≤ 1048576) (h3 : v.nam.length ≤ 1048576) (h4 : v.cds.length ≤ 1048576) : v.rest.length ≤ 200000000 := by
  have a1 : v.head.length ≤ 1049576 := by
    unfold Pv.head
    split
    · exact Nat.le_trans (conB_le _ _ _ _ _ _ _ _ _ _ _ _ _) (by decide)
    split
    · simp
    split
    · exact Nat.le_trans (pubB_le _ _ _ _) (by omega)
    · simp
  have a2 : v.idB.length ≤ 2 := by unfold Pv.idB; split <;> simp [wordB_length]
  have a3 := wanB_le v.wan
  have a4 := namB_le v.nam
  have a5 := cdsB_le v.cds
  unfold Pv.rest
  simp only [List.length_append]
  omega
theorem ok_ty {v : Pv} (h : v.ok = true) : 1 ≤ v.ty ∧ v.ty ≤ 14 := by
  unfold Pv.ok at h
  simp only [Bool.and_eq_true] at h
  exact inB_iff.1 h.1
theorem ok_nam {v : Pv} (h : v.ok = true) : v = v.named := by
  unfold Pv.ok at h
  simp only [Bool.and_eq_true, decide_eq_true_eq] at h
  exact h.2.1
theorem ok_bod {v : Pv} (h : v.ok = true) : v.body = true := by
  unfold Pv.ok at h
  simp only [Bool.and_eq_true] at h
  exact h.2.2
theorem bytes_ok {v : Pv} (h : v.ok = true) : v.bytes = [byte (16 * v.ty + v.low)] ++ lenB v.rest.length ++ v.rest := by
  unfold Pv.bytes
  rw [if_pos h]
  rfl
theorem bytes_no {v : Pv} (h : v.ok = false) : v.bytes = [] := by
  unfold Pv.bytes
  rw [h]
  rfl
theorem body1 {v : Pv} (h : v.ok = true) (ht : v.ty = 1) : 0 ≤ (if v.hw then v.wq else 0) ∧ (if v.hw then v.wq else 0) ≤ 2 := by
  have hb := ok_bod h
  unfold Pv.body at hb
  rw [if_pos ht] at hb
  simp only [Bool.and_eq_true, Bool.or_eq_true] at hb
  cases hw : v.hw with
  | false => simp
  | true =>
    rw [hw] at hb
    have := hb.1
    simp only [Bool.not_true, Bool.false_eq_true, false_or] at this
    simpa using inB_iff.1 this.2.2
theorem body3 {v : Pv} (h : v.ok = true) (ht : v.ty = 3) : 0 ≤ v.qos ∧ v.qos ≤ 2 := by
  have hb := ok_bod h
  unfold Pv.body at hb
  rw [if_neg (by omega), if_neg (by omega), if_pos ht] at hb
  simp only [Bool.and_eq_true] at hb
  exact inB_iff.1 hb.1
theorem bodyI {v : Pv} (h : v.ok = true) (ht : v.ty = 4 ∨ v.ty = 5 ∨ v.ty = 6 ∨ v.ty = 7 ∨ v.ty = 8 ∨ v.ty = 9 ∨ v.ty = 10 ∨ v.ty = 11) : 1 ≤ v.id := by
  have hb := ok_bod h
  unfold Pv.body at hb
  rw [if_neg (by omega), if_neg (by omega), if_neg (by omega), if_neg (by omega)] at hb
  split at hb
  · simp only [Bool.and_eq_true] at hb; exact (inB_iff.1 hb.2.1).1
  split at hb
  · simp only [Bool.and_eq_true] at hb; exact (inB_iff.1 hb.2.1).1
  split at hb
  · simp only [Bool.and_eq_true] at hb; exact (inB_iff.1 hb.2.1).1
  · exact (inB_iff.1 hb).1
theorem rest1 {v : Pv} (h : v.ok = true) (ht : v.ty = 1) : v.rest = conB v.lev v.cli v.cln v.kee v.hw (if v.hw then v.wt else ByteArray.empty) (if v.hw then v.wb else []) (if v.hw then v.wq else 0) (if v.hw then v.wr else false) v.hu (if v.hu then v.us else ByteArray.empty) (v.hu && v.hp) (if v.hu && v.hp then v.pa else []) := by
  have e := ok_nam h
  rw [named1 v ht] at e
  conv => lhs; rw [e]
  simp [Pv.rest, Pv.head, Pv.idB, Pv.zero, wanB, cdsB, namB]
theorem rest2 {v : Pv} (h : v.ok = true) (ht : v.ty = 2) : v.rest = [byte (bit (v.pre && decide (v.cod = 0)) 1), byte v.cod] := by
  have e := ok_nam h
  rw [named2 v ht] at e
  conv => lhs; rw [e]
  simp [Pv.rest, Pv.head, Pv.idB, Pv.zero, wanB, cdsB, namB]
theorem rest3 {v : Pv} (h : v.ok = true) (ht : v.ty = 3) : v.rest = pubB v.qos (if 0 < v.qos then v.id else 0) v.top v.bod := by
  have e := ok_nam h
  rw [named3 v ht] at e
  conv => lhs; rw [e]
  simp [Pv.rest, Pv.head, Pv.idB, Pv.zero, wanB, cdsB, namB]
theorem low3 {v : Pv} (h : v.ok = true) (ht : v.ty = 3) : v.low = pubL (if 0 < v.qos then v.dup else false) v.qos v.ret := by
  have e := ok_nam h
  rw [named3 v ht] at e
  conv => lhs; rw [e]
  simp [Pv.low, Pv.zero]
theorem restI {v : Pv} (h : v.ok = true) (k : Int) (ht : v.ty = k) (hk : k = 4 ∨ k = 5 ∨ k = 6 ∨ k = 7 ∨ k = 11) : v.rest = wordB v.id := by
  have e := ok_nam h
  have hi := bodyI h (by omega)
  rw [namedI v k ht hk] at e
  conv => lhs; rw [e]
  have k1 : ¬ k = 1 := by omega
  have k2 : ¬ k = 2 := by omega
  have k3 : ¬ k = 3 := by omega
  have k4 : 0 < v.id := by omega
  simp [Pv.rest, Pv.head, Pv.idB, Pv.zero, wanB, cdsB, namB, k1, k2, k3, k4]
theorem rest8 {v : Pv} (h : v.ok = true) (ht : v.ty = 8) : v.rest = wordB v.id ++ wanB v.wan := by
  have e := ok_nam h
  have hi := bodyI h (by omega)
  rw [named8 v ht] at e
  conv => lhs; rw [e]
  have k4 : 0 < v.id := by omega
  simp [Pv.rest, Pv.head, Pv.idB, Pv.zero, cdsB, namB, k4]
theorem rest9 {v : Pv} (h : v.ok = true) (ht : v.ty = 9) : v.rest = wordB v.id ++ cdsB v.cds := by
  have e := ok_nam h
  have hi := bodyI h (by omega)
  rw [named9 v ht] at e
  conv => lhs; rw [e]
  have k4 : 0 < v.id := by omega
  simp [Pv.rest, Pv.head, Pv.idB, Pv.zero, wanB, namB, k4]
theorem rest10 {v : Pv} (h : v.ok = true) (ht : v.ty = 10) : v.rest = wordB v.id ++ namB v.nam := by
  have e := ok_nam h
  have hi := bodyI h (by omega)
  rw [named10 v ht] at e
  conv => lhs; rw [e]
  have k4 : 0 < v.id := by omega
  simp [Pv.rest, Pv.head, Pv.idB, Pv.zero, wanB, cdsB, k4]
theorem restN {v : Pv} (h : v.ok = true) (k : Int) (ht : v.ty = k) (hk : k = 12 ∨ k = 13 ∨ k = 14) : v.rest = [] := by
  have e := ok_nam h
  rw [namedN v k ht hk] at e
  rw [e]
  have k1 : ¬ k = 1 := by omega
  have k2 : ¬ k = 2 := by omega
  have k3 : ¬ k = 3 := by omega
  simp [Pv.rest, Pv.head, Pv.idB, Pv.zero, wanB, cdsB, namB, k1, k2, k3]
end Go.Proofs.YtccjiicjlifmiaaGreatDoor
