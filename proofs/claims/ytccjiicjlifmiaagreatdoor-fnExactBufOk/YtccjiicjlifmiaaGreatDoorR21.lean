/- Texts that the law FnExactBufOk uses. -/
import Derived.OneCell
import Derived.Deep.RegionHeld3
import Derived.Test.YtccjiicjlifmiaaGreatDoorR20
set_option linter.unusedVariables false
set_option linter.unusedSimpArgs false
set_option maxRecDepth 100000
set_option maxHeartbeats 20000000
namespace Go.Proofs.YtccjiicjlifmiaaGreatDoor
open Go.RowKit

def Pv.head (v : Pv) : List UInt8 :=
 if v.ty = 1 then conB v.lev v.cli v.cln v.kee v.hw v.wt v.wb v.wq v.wr v.hu v.us v.hp v.pa
 else if v.ty = 2 then [byte (bit v.pre 1), byte v.cod]
 else if v.ty = 3 then pubB v.qos v.id v.top v.bod
 else []
def Pv.low (v : Pv) : Int := if v.ty = 3 then pubL v.dup v.qos v.ret else if v.ty = 6 ∨ v.ty = 8 ∨ v.ty = 10 then 2 else 0
def Pv.idB (v : Pv) : List UInt8 := if v.ty ≠ 3 ∧ 0 < v.id then wordB v.id else []
def Pv.rest (v : Pv) : List UInt8 := v.head ++ v.idB ++ wanB v.wan ++ cdsB v.cds ++ namB v.nam
def Pv.full (v : Pv) : List UInt8 := [byte (16 * v.ty + v.low)] ++ lenB v.rest.length ++ v.rest
def Pv.bytes (v : Pv) : List UInt8 := if v.ok then v.full else []

theorem qsd {α : Type} (f : α → List UInt8) (k : Nat) (h : ∀ x, (f x).length ≤ k) (l : List α) : (l.flatMap f).length ≤ k * l.length := by
 induction l with
 | nil => simp
 | cons x l ih =>
  have := h x
  simp only [List.flatMap_cons, List.length_append, List.length_cons, Nat.mul_add, Nat.mul_one]
  omega
theorem wanB_le (l : List (ByteArray × Int)) : (wanB l).length ≤ 63 * l.length := qsd _ 63 (fun x => by have := pT_le x.1; simp; omega) l
theorem namB_le (l : List ByteArray) : (namB l).length ≤ 62 * l.length := qsd _ 62 pT_le l
theorem cdsB_le (l : List Int) : (cdsB l).length = l.length := by simp [cdsB]
theorem if_le (c : Bool) (x : List UInt8) (k : Nat) (h : x.length ≤ k) : (if c then x else []).length ≤ k := by
 cases c
 ·simp
 ·exact h
theorem conB_le (lev : Int) (cli : ByteArray) (cln : Bool) (kee : Int) (hw : Bool) (wt : ByteArray) (wb : List UInt8) (wq : Int) (wr : Bool) (hu : Bool) (us : ByteArray) (hp : Bool) (pa : List UInt8) : (conB lev cli cln kee hw wt wb wq wr hu us hp pa).length ≤ 500 := by
 unfold conB
 have h1 := pT_le mqtt
 have h2 := pT_le cli
 have h3 := if_le hw (pT wt ++ pB wb) 124 (by have := pT_le wt; have := pB_le wb; simp; omega)
 have h4 := if_le hu (pT us) 62 (pT_le us)
 have h5 := if_le hp (pB pa) 62 (pB_le pa)
 simp only [List.length_append, List.length_cons, List.length_nil, qav]
 omega
theorem pubB_le (qos id : Int) (top : ByteArray) (b : List UInt8) : (pubB qos id top b).length ≤ 64 + b.length := by
 unfold pubB
 have := pT_le top
 split <;> simp [qav] <;> omega
theorem qdl (v : Pv) (h1 : v.bod.length ≤ 1048576) (h2 : v.wan.length ≤ 1048576) (h3 : v.nam.length ≤ 1048576) (h4 : v.cds.length ≤ 1048576) : v.rest.length ≤ 200000000 := by
 have a1 : v.head.length ≤ 1049576 := by
  unfold Pv.head
  split
  ·exact Nat.le_trans (conB_le _ _ _ _ _ _ _ _ _ _ _ _ _) (by decide)
  split
  ·simp
  split
  ·exact Nat.le_trans (pubB_le _ _ _ _) (by omega)
  ·simp
 have a2 : v.idB.length ≤ 2 := by unfold Pv.idB; split <;> simp [qav]
 have a3 := wanB_le v.wan
 have a4 := namB_le v.nam
 have a5 := cdsB_le v.cds
 unfold Pv.rest
 simp only [List.length_append]
 omega
theorem ok_ty {v : Pv} (h : v.ok = true) : 1 ≤ v.ty ∧ v.ty ≤ 14 := by
 unfold Pv.ok at h
 simp only [Bool.and_eq_true] at h
 exact qda.1 h.1
theorem qee {v : Pv} (h : v.ok = true) : v = v.named := by
 unfold Pv.ok at h
 simp only [Bool.and_eq_true, decide_eq_true_eq] at h
 exact h.2.1
theorem qie {v : Pv} (h : v.ok = true) : v.body = true := by
 unfold Pv.ok at h
 simp only [Bool.and_eq_true] at h
 exact h.2.2
theorem qbz {v : Pv} (h : v.ok = true) : v.bytes = [byte (16 * v.ty + v.low)] ++ lenB v.rest.length ++ v.rest := by
 unfold Pv.bytes
 rw [if_pos h]
 rfl
theorem qpl {v : Pv} (h : v.ok = false) : v.bytes = [] := by
 unfold Pv.bytes
 rw [h]
 rfl
theorem body1 {v : Pv} (h : v.ok = true) (ht : v.ty = 1) : 0 ≤ (if v.hw then v.wq else 0) ∧ (if v.hw then v.wq else 0) ≤ 2 := by
 have hb := qie h
 unfold Pv.body at hb
 rw [if_pos ht] at hb
 simp only [Bool.and_eq_true, Bool.or_eq_true] at hb
 cases hw : v.hw with
 | false => simp
 | true =>
  rw [hw] at hb
  have := hb.1
  simp only [Bool.not_true, Bool.false_eq_true, false_or] at this
  simpa using qda.1 this.2.2
theorem body3 {v : Pv} (h : v.ok = true) (ht : v.ty = 3) : 0 ≤ v.qos ∧ v.qos ≤ 2 := by
 have hb := qie h
 unfold Pv.body at hb
 rw [if_neg (by omega), if_neg (by omega), if_pos ht] at hb
 simp only [Bool.and_eq_true] at hb
 exact qda.1 hb.1
theorem bodyI {v : Pv} (h : v.ok = true) (ht : v.ty = 4 ∨ v.ty = 5 ∨ v.ty = 6 ∨ v.ty = 7 ∨ v.ty = 8 ∨ v.ty = 9 ∨ v.ty = 10 ∨ v.ty = 11) : 1 ≤ v.id := by
 have hb := qie h
 unfold Pv.body at hb
 rw [if_neg (by omega), if_neg (by omega), if_neg (by omega), if_neg (by omega)] at hb
 split at hb
 ·simp only [Bool.and_eq_true] at hb; exact (qda.1 hb.2.1).1
 split at hb
 ·simp only [Bool.and_eq_true] at hb; exact (qda.1 hb.2.1).1
 split at hb
 ·simp only [Bool.and_eq_true] at hb; exact (qda.1 hb.2.1).1
 ·exact (qda.1 hb).1
theorem rest1 {v : Pv} (h : v.ok = true) (ht : v.ty = 1) : v.rest = conB v.lev v.cli v.cln v.kee v.hw (if v.hw then v.wt else ByteArray.empty) (if v.hw then v.wb else []) (if v.hw then v.wq else 0) (if v.hw then v.wr else false) v.hu (if v.hu then v.us else ByteArray.empty) (v.hu && v.hp) (if v.hu && v.hp then v.pa else []) := by
 have e := qee h
 rw [qic v ht] at e
 conv => lhs; rw [e]
 simp [Pv.rest, Pv.head, Pv.idB, Pv.zero, wanB, cdsB, namB]
theorem rest2 {v : Pv} (h : v.ok = true) (ht : v.ty = 2) : v.rest = [byte (bit (v.pre && decide (v.cod = 0)) 1), byte v.cod] := by
 have e := qee h
 rw [qpd v ht] at e
 conv => lhs; rw [e]
 simp [Pv.rest, Pv.head, Pv.idB, Pv.zero, wanB, cdsB, namB]
theorem rest3 {v : Pv} (h : v.ok = true) (ht : v.ty = 3) : v.rest = pubB v.qos (if 0 < v.qos then v.id else 0) v.top v.bod := by
 have e := qee h
 rw [qnj v ht] at e
 conv => lhs; rw [e]
 simp [Pv.rest, Pv.head, Pv.idB, Pv.zero, wanB, cdsB, namB]
theorem low3 {v : Pv} (h : v.ok = true) (ht : v.ty = 3) : v.low = pubL (if 0 < v.qos then v.dup else false) v.qos v.ret := by
 have e := qee h
 rw [qnj v ht] at e
 conv => lhs; rw [e]
 simp [Pv.low, Pv.zero]
theorem restI {v : Pv} (h : v.ok = true) (k : Int) (ht : v.ty = k) (hk : k = 4 ∨ k = 5 ∨ k = 6 ∨ k = 7 ∨ k = 11) : v.rest = wordB v.id := by
 have e := qee h
 have hi := bodyI h (by omega)
 rw [qep v k ht hk] at e
 conv => lhs; rw [e]
 have k1 : ¬ k = 1 := by omega
 have k2 : ¬ k = 2 := by omega
 have k3 : ¬ k = 3 := by omega
 have k4 : 0 < v.id := by omega
 simp [Pv.rest, Pv.head, Pv.idB, Pv.zero, wanB, cdsB, namB, k1, k2, k3, k4]
theorem rest8 {v : Pv} (h : v.ok = true) (ht : v.ty = 8) : v.rest = wordB v.id ++ wanB v.wan := by
 have e := qee h
 have hi := bodyI h (by omega)
 rw [qre v ht] at e
 conv => lhs; rw [e]
 have k4 : 0 < v.id := by omega
 simp [Pv.rest, Pv.head, Pv.idB, Pv.zero, cdsB, namB, k4]
theorem rest9 {v : Pv} (h : v.ok = true) (ht : v.ty = 9) : v.rest = wordB v.id ++ cdsB v.cds := by
 have e := qee h
 have hi := bodyI h (by omega)
 rw [qrf v ht] at e
 conv => lhs; rw [e]
 have k4 : 0 < v.id := by omega
 simp [Pv.rest, Pv.head, Pv.idB, Pv.zero, wanB, namB, k4]
theorem rest10 {v : Pv} (h : v.ok = true) (ht : v.ty = 10) : v.rest = wordB v.id ++ namB v.nam := by
 have e := qee h
 have hi := bodyI h (by omega)
 rw [qni v ht] at e
 conv => lhs; rw [e]
 have k4 : 0 < v.id := by omega
 simp [Pv.rest, Pv.head, Pv.idB, Pv.zero, wanB, cdsB, k4]
theorem restN {v : Pv} (h : v.ok = true) (k : Int) (ht : v.ty = k) (hk : k = 12 ∨ k = 13 ∨ k = 14) : v.rest = [] := by
 have e := qee h
 rw [qid v k ht hk] at e
 rw [e]
 have k1 : ¬ k = 1 := by omega
 have k2 : ¬ k = 2 := by omega
 have k3 : ¬ k = 3 := by omega
 simp [Pv.rest, Pv.head, Pv.idB, Pv.zero, wanB, cdsB, namB, k1, k2, k3]

def Cur (w : World) (g : Nat) (ao : Option Addr) (n cap : Nat) (l : List UInt8) : Prop :=
 ∃ i h : Int, w.heap[g]? = some (.cells #[.slice ao n cap, .int .i64 i, .int .i64 h] 117 (0, 0)) ∧ 0 ≤ i ∧ i ≤ n ∧ RdIn w ao n cap l ∧ (0 < n → ∀ a, ao = some a → a.block < g)

theorem cell_of {w : World} {g : Nat} {cs : Array Value} {t : TypeId} {fz : Nat × Nat} (h : w.heap[g]? = some (.cells cs t fz)) (j : Nat) : w.cell? ⟨g, j, none⟩ = cs[j]? := by
 simp [World.cell?, h]

theorem qad {w : World} {g : Nat} {cs : Array Value} {t : TypeId} {fz : Nat × Nat} (h : w.heap[g]? = some (.cells cs t fz)) (j : Nat) (u : Value) :
  (w.setCell ⟨g, j, none⟩ u).heap[g]? = some (.cells (cs.setIfInBounds j u) t fz) := by
 simp [World.setCell, Array.getElem?_modify, h]

theorem RdIn.grown' {w w' : World} {ao : Option Addr} {n cap : Nat} {l : List UInt8} {row : Option Nat} (h : RdIn w ao n cap l) (hg : w.grownBy w' row) (hne : 0 < n → ∀ a, ao = some a → some a.block ≠ row) : RdIn w' ao n cap l := by
 refine ⟨⟨h.1.1, fun i hi => ?_⟩, h.2⟩
 obtain ⟨b, off, e, hc⟩ := h.1.2 i hi
 exact ⟨b, off, e, hg.cell hc (show some b ≠ row from hne (by omega) ⟨b, off, none⟩ e)⟩

theorem qae (w : World) (g j : Nat) (u : Value) : w.grownBy (w.setCell ⟨g, j, none⟩ u) (some g) :=
 ⟨rfl, rfl, rfl, by simp [World.setCell], fun q hq hne => Below.heap_setCell _ _ _ q (fun e => hne (by rw [e]))⟩
theorem qcn {a b c : World} {row : Option Nat} (h : a.grownBy b row) (k : b.grownBy c row) : a.grownBy c row :=
 ⟨k.os.trans h.os, k.tape.trans h.tape, k.output.trans h.output, Nat.le_trans h.size k.size, fun q hq hne => (k.block q (Nat.lt_of_lt_of_le hq h.size) hne).trans (h.block q hq hne)⟩
theorem Cur.keep {w w' : World} {g : Nat} {ao : Option Addr} {n cap : Nat} {l : List UInt8} {row : Option Nat} (h : Cur w g ao n cap l) (hg : w.grownBy w' row) (hrow : ∀ k, row = some k → g < k) : Cur w' g ao n cap l := by
 obtain ⟨i, z, hh, h0, h1, hr, hne⟩ := h
 have hlt : g < w.heap.size := (Array.getElem?_eq_some_iff.1 hh).1
 refine ⟨i, z, ?_, h0, h1, hr.grown' hg (fun hn a e he => by have := hne hn a e; have := hrow _ he.symm; omega), hne⟩
 rw [hg.block g hlt (fun e => by have := hrow g e.symm; omega)]
 exact hh
theorem Cur.lt {w : World} {g : Nat} {ao : Option Addr} {n cap : Nat} {l : List UInt8} (h : Cur w g ao n cap l) : g < w.heap.size := by
 obtain ⟨i, z, hh, _⟩ := h
 exact (Array.getElem?_eq_some_iff.1 hh).1
theorem Cur.alloc {w : World} {g : Nat} {ao : Option Addr} {n cap : Nat} {l : List UInt8} (h : Cur w g ao n cap l) (o : Obj) : Cur (w.alloc o) g ao n cap l := h.keep (World.grownBy_alloc w o none) (fun k e => by cases e)
theorem Cur.own {w w' : World} {g B : Nat} {ao : Option Addr} {n cap : Nat} {l : List UInt8} {a : Option Addr} {m c : Nat} {x : List UInt8} (h : Cur w g ao n cap l) (ho : Own w B a m c x) (hB : g < B) (hg : w.grownBy w' (Value.slice a m c).ownBlock) : Cur w' g ao n cap l :=
 h.keep hg (fun k e => by have := (ho.2.lt k e).1; omega)
theorem Own.cur {w w' : World} {g B : Nat} {a : Option Addr} {m c : Nat} {x : List UInt8} (h : Own w B a m c x) (hB : g < B) (hg : w.grownBy w' (some g)) : Own w' B a m c x :=
 h.grown hg (fun d e he => by have := h.block e; simp at he; omega)

theorem qcd {w u u' : World} {g : Nat} (h : w.grownBy u (some g)) (hb : Below u.heap.size u u') : w.grownBy u' (some g) :=
 ⟨hb.os.trans h.os, hb.tape.trans h.tape, hb.output.trans h.output, Nat.le_trans h.size hb.size, fun k hk hne => (hb.block k (Nat.lt_of_lt_of_le hk h.size)).trans (h.block k hk hne)⟩
theorem Cur.below {w w' : World} {g : Nat} {ao : Option Addr} {n cap : Nat} {l : List UInt8} (h : Cur w g ao n cap l) (hb : Below w.heap.size w w') : Cur w' g ao n cap l :=
 h.keep (row := none) ⟨hb.os, hb.tape, hb.output, hb.size, fun k hk _ => hb.block k hk⟩ (fun k e => by cases e)


theorem Own.cut {w : World} {B : Nat} {a : Option Addr} {n c : Nat} {x : List UInt8} (h : Own w B a n c x) (k : Nat) (hk : k ≤ n) : Own w B a k c (x.take k) := by
 obtain ⟨hl, h1, h2⟩ := h
 refine ⟨by simp; omega, by rw [qhw]; simp; omega, ?_⟩
 rcases h2 with ⟨e, h0⟩ | ⟨g, c', cur, e, hB, hg, hc, hm, hs, ht⟩
 ·simp only [Value.slice.injEq] at e
  obtain ⟨rfl, _, rfl⟩ := e
  obtain rfl : k = 0 := by omega
  exact .inl ⟨rfl, rfl⟩
 ·simp only [Value.slice.injEq] at e
  obtain ⟨rfl, _, rfl⟩ := e
  refine .inr ⟨g, c, cur, rfl, hB, hg, by omega, hm, hs, ?_⟩
  have e2 : bvals (x.take k) = (bvals x).take k := by simp [bvals, List.map_take]
  rw [e2, ← ht, List.take_take]
  congr 1
  omega

theorem qpe (ao : Option Addr) (n cap j : Nat) (h : j ≤ cap) (w' : World) : (Instr.slice 22 (.slice ao n cap) none (some (.int .i64 (j : Int))) none).run Tryz.prog w' = .ok (.slice ao j cap) w' := by
 obtain ⟨i0, hi, hz0, hz1, hz2⟩ := info_parts info5
 have he : Tryz.prog.elem 22 = 5 := by kernel_rfl
 have ht : Tryz.prog.underlying 22 = some (.slice (Tryz.prog.elem 22)) := by rw [he]; exact Tryz.underlying22
 have hs := run_slice_h (P := Tryz.prog) w' 22 ao n cap ht .i64 (j : Int) (by omega) (by omega)
 rw [hs, he]
 simp only [sizeOf, typeInfo, Sem.run_bind, Sem.run_pure, hi, hz1, Result.andThen_ok, sliced, Int.toNat_natCast]
 simp [hi, hz1, Result.andThen, sliced]
 by_cases hc : cap = 0
 ·simp [hc]
 ·cases ao <;> simp [hc, Addr.add]

theorem Cur.drew {w : World} {g : Nat} {ao : Option Addr} {n cap : Nat} {l : List UInt8} (h : Cur w g ao n cap l) : Cur w.drew g ao n cap l := h
theorem Own.drew {w : World} {B : Nat} {a : Option Addr} {n c : Nat} {x : List UInt8} (h : Own w B a n c x) : Own w.drew B a n c x := h

theorem RdIn.cur {w w' : World} {g : Nat} {a : Option Addr} {m c : Nat} {x : List UInt8} (h : RdIn w a m c x) (hne : ∀ d, a = some d → g < d.block) (hg : w.grownBy w' (some g)) : RdIn w' a m c x :=
 h.grown hg (fun d e he => by have := hne d e; simp at he; omega)

end Go.Proofs.YtccjiicjlifmiaaGreatDoor
