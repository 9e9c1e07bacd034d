/- Texts that the law FnExactBufOk uses. -/
import Derived.Test.YtccjiicjlifmiaaGreatDoorR08
import Derived.Test.YtccjiicjlifmiaaGreatDoorR09
set_option linter.unusedVariables false
set_option linter.unusedSimpArgs false
set_option maxRecDepth 100000
set_option maxHeartbeats 20000000
namespace Go.Proofs.YtccjiicjlifmiaaGreatDoor
open Go.RowKit

def moreB (n : Nat) : UInt8 := UInt8.ofNat (n % 128 + 128)
theorem qgq (n : Nat) : (moreB n).toNat = n % 128 + 128 := by
 simp [moreB]
 omega
def lenF : Nat → Nat → List UInt8
 | 0, n => [UInt8.ofNat n]
 | f + 1, n => if n < 128 then [UInt8.ofNat n] else moreB n :: lenF f (n / 128)

def lenB (n : Int) : List UInt8 := if 0 ≤ n ∧ n ≤ 268435455 then lenF 3 n.toNat else []

theorem qdm (f n : Nat) (h : n < 128) : lenF f n = [UInt8.ofNat n] := by
 cases f with
 | zero => rfl
 | succ f => simp [lenF, h]
theorem qgn (f n : Nat) (h : ¬ n < 128) : lenF (f + 1) n = moreB n :: lenF f (n / 128) := by simp [lenF, h]
theorem lenF_len (f n : Nat) : 1 ≤ (lenF f n).length ∧ (lenF f n).length ≤ f + 1 := by
 induction f generalizing n with
 | zero => simp [lenF]
 | succ f ih =>
  by_cases h : n < 128
  ·rw [qdm _ _ h]; simp
  ·rw [qgn _ _ h]
   have := ih (n / 128)
   simp
   omega
theorem qsm {n : Int} (h : n < 0 ∨ 268435455 < n) : lenB n = [] := by
 unfold lenB
 rw [if_neg (by omega)]
theorem qmb {k : Nat} (h : k ≤ 268435455) : lenB (k : Int) = lenF 3 k := by
 unfold lenB
 rw [if_pos (by omega)]
 simp
theorem qsl (n : Int) : (lenB n).length ≤ 4 := by
 unfold lenB
 split
 ·exact (lenF_len 3 _).2
 ·simp

theorem or128 (x : Nat) : bits .or .u8 ((x : Int) % 256) 128 = ((x % 128 + 128 : Nat) : Int) := by
 have h : ∀ y : Fin 256, bits .or .u8 (y.val : Int) 128 = ((y.val % 128 + 128 : Nat) : Int) := by decide +kernel
 have := h ⟨x % 256, Nat.mod_lt _ (by omega)⟩
 simp only at this
 rw [show ((x % 256 : Nat) : Int) = (x : Int) % 256 from by omega] at this
 rw [this]
 omega
theorem not128 (x : Nat) (hx : x < 256) : bits .andNot .u8 (x : Int) 128 = ((x % 128 : Nat) : Int) := by
 have h : ∀ y : Fin 256, bits .andNot .u8 (y.val : Int) 128 = ((y.val % 128 : Nat) : Int) := by decide +kernel
 exact h ⟨x, hx⟩
theorem qla (x : Nat) (hx : x < 256) : bits .and .u8 (x : Int) 128 = if x < 128 then 0 else 128 := by
 have h : ∀ y : Fin 256, bits .and .u8 (y.val : Int) 128 = if y.val < 128 then 0 else 128 := by decide +kernel
 exact h ⟨x, hx⟩
theorem and127 (x : Nat) (hx : x < 256) : bits .and .i64 (x : Int) 127 = ((x % 128 : Nat) : Int) := by
 have h : ∀ y : Fin 256, bits .and .i64 (y.val : Int) 127 = ((y.val % 128 : Nat) : Int) := by decide +kernel
 exact h ⟨x, hx⟩

theorem qss (w : World) (k : Nat) (V : Int) (hV : V = ((k % 256 : Nat) : Int)) : RdIn (w.alloc (.cells #[.int .u8 V] 5)) (some ⟨w.heap.size, 0, none⟩) 1 1 [UInt8.ofNat k] := by
 subst hV
 refine ⟨⟨rfl, fun i hi => ⟨_, _, rfl, ?_⟩⟩, Nat.le_refl _, by unfold maxLen; omega, fun h => by simp at h⟩
 obtain rfl : i = 0 := by omega
 have e : ((bt [UInt8.ofNat k] 0 : Nat) : Int) = ((k % 256 : Nat) : Int) := by
  show (((UInt8.ofNat k).toNat : Nat) : Int) = _
  simp
 rw [e]
 simp

theorem rd_more (w : World) (k : Nat) (V : Int) (hV : V = ((k % 128 + 128 : Nat) : Int)) : RdIn (w.alloc (.cells #[.int .u8 V] 5)) (some ⟨w.heap.size, 0, none⟩) 1 1 [moreB k] :=
 qss w (k % 128 + 128) V (by omega)

theorem qpw (w : World) (B : Nat) : Own w B none 0 0 [] := ⟨rfl, rfl, .inl ⟨rfl, rfl⟩⟩

theorem qpq (N : Nat) (x : Int) (w : World) (hN : (lenB x).length = N) :
  Calls Tryz.prog 115 #[.int .i64 x] w fun e w' => ∃ ao cap, e = .returned (.slice ao N cap) ∧ Own w' w.heap.size ao N cap (lenB x) ∧ Below w.heap.size w w' := by
 by_cases h0 : x < 0
 ·have HL : Hid (lenB x = []) := qsm (.inl h0)
  rw [HL.out] at hN
  subst hN
  go_enter Tryz.func115, Tryz.ntmps115
  go_wp2
  go_ret
  exact ⟨none, 0, rfl, by rw [HL.out]; exact qpw _ _, Below.refl _ _⟩
 by_cases h1 : 268435455 < x
 ·have HL : Hid (lenB x = []) := qsm (.inr h1)
  rw [HL.out] at hN
  subst hN
  go_enter Tryz.func115, Tryz.ntmps115
  go_wp2
  go_ret
  exact ⟨none, 0, rfl, by rw [HL.out]; exact qpw _ _, Below.refl _ _⟩
 obtain ⟨k, rfl⟩ := Int.eq_ofNat_of_zero_le (show 0 ≤ x by omega)
 have hk : k ≤ 268435455 := by omega
 have HB : Hid (lenB (k : Int) = lenF 3 k) := qmb hk
 have HN : Hid ((lenF 3 k).length = N) := by rw [← HB.out]; exact hN
 clear hN
 go_enter Tryz.func115, Tryz.ntmps115
 go_wp2
 go_loopw [0, 3] (fun n v wr => ∃ (m f j : Nat) (a : Option Addr) (c : Nat) (acc : List UInt8), n = .int .i64 m ∧ v = .slice a j c ∧ j + f = 3 ∧ m < 128 ^ (f + 1) ∧ acc ++ lenF f m = lenF 3 k ∧ Own wr w.heap.size a j c acc ∧ Below w.heap.size w wr) (fun n _ _ => (intOf n).toNat)
 case atStart => exact ⟨k, 3, 0, none, 0, [], rfl, rfl, rfl, by omega, rfl, qpw _ _, Below.refl _ _⟩
 case round =>
  obtain ⟨m, f, j, a, c, acc, rfl, rfl, hj, hm, hacc, ho, hb⟩ := hrel
  have HA : Hid (acc ++ lenF f m = lenF 3 k) := hacc
  have HM : Hid (m < 128 ^ (f + 1)) := hm
  have hm4 : m < 268435456 := Nat.lt_of_lt_of_le hm (Nat.pow_le_pow_right (show 0 < 128 by omega) (show f + 1 ≤ 4 by omega))
  clear hacc hm
  by_cases hlt : m < 128
  ·have h' : ¬ (128 : Int) ≤ m := by omega
   have HF : Hid (lenF f m = [UInt8.ofNat m]) := qdm f m hlt
   go_wp2_with (at_builtin; refine w_app _ rfl _ _ rfl w.heap.size _ _ _ acc rfl (ho.alloc _) _ _ _ [UInt8.ofNat m] rfl (qss wr m _ (by omega)) (by omega) (by have := hb.size; simp; omega) ?_)
   intro a2 c2 w2 ho2 hg2
   have hb2 := qau (hb.alloc hb.size _) (by have := hb.size; simp; omega) (ho.alloc _) hg2
   rw [← HF.out, HA.out] at ho2
   obtain rfl : j + 1 = N := ho2.1.symm.trans HN.out
   go_wp2
   go_ret
   exact ⟨a2, c2, rfl, by rw [HB.out]; exact ho2, hb2⟩
  ·have h' : (128 : Int) ≤ m := by omega
   have hor := or128 m
   cases f with
   | zero => have := HM.out; omega
   | succ f =>
    have HF : Hid (lenF (f + 1) m = moreB m :: lenF f (m / 128)) := qgn f m hlt
    have HD : Hid (m / 128 < 128 ^ (f + 1)) := Nat.div_lt_of_lt_mul (by have := HM.out; rw [Nat.pow_succ] at this; omega)
    go_wp2_with (at_builtin; refine w_app _ rfl _ _ rfl w.heap.size _ _ _ acc rfl (ho.alloc _) _ _ _ [moreB m] rfl (rd_more wr m _ (by omega)) (by omega) (by have := hb.size; simp; omega) ?_)
    intro a2 c2 w2 ho2 hg2
    have hb2 := qau (hb.alloc hb.size _) (by have := hb.size; simp; omega) (ho.alloc _) hg2
    clear hg2 ho hb
    go_wp2
    go_roundw
    case rel =>
     refine ⟨m / 128, f, j + 1, a2, c2, _, by go_num, rfl, by omega, HD.out, ?_, ho2, hb2⟩
     rw [← HA.out, HF.out, List.append_assoc]
     rfl
    case measure => simp [intOf]; omega

theorem qcc (ao : Option Addr) (n cap : Nat) (l : List UInt8) (ax : Option Addr) (m c : Nat) (x : List UInt8) (w : World) (hr : RdIn w ao n cap l) (hx : RdIn w ax m c x) (hn : n ≤ 1099511627000) (hm : m ≤ 1099511627000) :
  Calls Tryz.prog 66 #[.slice ao n cap, .slice ax m c] w fun e w' => ∃ ao' cap', e = .returned (.slice ao' (n + m) cap') ∧ Own w' w.heap.size ao' (n + m) cap' (l ++ x) ∧ Below w.heap.size w w' := by
 go_enter Tryz.func66, Tryz.ntmps66
 go_wp2_with fail
 refine (qbp _ _ _ m l _ hr (by omega) (by omega)).mono ?_
 rintro e w1 ⟨a1, c1, rfl, ho1, hb1⟩
 go_wp2_with (at_builtin; refine w_app _ rfl _ _ rfl w.heap.size _ _ _ l rfl ho1 _ _ _ x rfl (hx.below hb1) (by omega) hb1.size ?_)
 intro a2 c2 w2 ho2 hg2
 go_wp2
 go_ret
 exact ⟨a2, c2, rfl, ho2, qau hb1 hb1.size ho1 hg2⟩

theorem qsp (N : Nat) (ao : Option Addr) (n cap : Nat) (x : Int) (l : List UInt8) (w : World) (hN : (lenB x).length = N) (hr : RdIn w ao n cap l) (hn : n ≤ 1099511627000) :
  Calls Tryz.prog 64 #[.slice ao n cap, .int .i64 x] w fun e w' => ∃ ao' cap', e = .returned (.slice ao' (n + N) cap') ∧ Own w' w.heap.size ao' (n + N) cap' (l ++ lenB x) ∧ Below w.heap.size w w' := by
 have hle := qsl x
 rw [hN] at hle
 go_enter Tryz.func64, Tryz.ntmps64
 go_wp2_with fail
 refine (qpq N x _ hN).mono ?_
 rintro e w1 ⟨a1, c1, rfl, ho1, hb1⟩
 go_wp2_with fail
 refine (qcc _ _ _ l _ _ _ (lenB x) _ (hr.below hb1) ho1.rd hn (by omega)).mono ?_
 rintro e w2 ⟨a2, c2, rfl, ho2, hb2⟩
 go_wp2
 go_ret
 exact ⟨a2, c2, rfl, ho2.mono hb1.size, qcg hb1 hb2⟩

theorem qsq (N : Nat) (ao : Option Addr) (n cap : Nat) (x : Int) (l : List UInt8) (w : World) (hN : (lenB x).length = N) (hr : RdIn w ao n cap l) (hn : n ≤ 1099511627000) :
  Calls Tryz.prog 134 #[.slice ao n cap, .int .i64 x] w fun e w' => ∃ ao' cap', e = .returned (.slice ao' (n + N) cap') ∧ Own w' w.heap.size ao' (n + N) cap' (l ++ lenB x) ∧ Below w.heap.size w w' := by
 by_cases hin : 0 ≤ x ∧ x ≤ 268435455
 ·obtain ⟨k, rfl⟩ := Int.eq_ofNat_of_zero_le hin.1
  have hk : k ≤ 268435455 := by omega
  have HB : Hid (lenB (k : Int) = lenF 3 k) := qmb hk
  have HN : Hid ((lenF 3 k).length = N) := by rw [← HB.out]; exact hN
  have hI : decide ((0 : Int) ≤ (k : Int) ∧ (k : Int) ≤ 268435455) = true := decide_eq_true ⟨by omega, by omega⟩
  have HL : Hid (l.length = n) := hr.1.1
  clear hN hin
  go_enter Tryz.func134, Tryz.ntmps134
  go_wp2_with (at_builtin; refine w_app _ rfl _ _ rfl w.heap.size _ 0 _ [] rfl (qbj w) _ _ _ l rfl (hr.alloc _) (by omega) (by simp) ?_)
  intro a1 c1 w1 ho1 hg1
  have hb1 : Below w.heap.size w w1 := qau ((Below.refl _ _).alloc (Nat.le_refl _) _) (by simp) (qbj w) hg1
  clear hg1
  go_wp2_with fail
  refine (qao _ _ _ true _ hI).mono ?_
  rintro e w2 ⟨rfl, rfl⟩
  go_wp2
  go_loopw [1, 5] (fun q v wr => ∃ (m f j : Nat) (a : Option Addr) (c : Nat) (acc : List UInt8), q = .int .i64 m ∧ v = .slice a (n + j) c ∧ j + f = 3 ∧ m < 128 ^ (f + 1) ∧ acc ++ lenF f m = lenF 3 k ∧ Own wr w.heap.size a (n + j) c (l ++ acc) ∧ Below w.heap.size w wr) (fun q _ _ => (intOf q).toNat)
  case atStart => exact ⟨k, 3, 0, a1, c1, [], rfl, by simp, rfl, by omega, rfl, by simpa using ho1, hb1⟩
  case round =>
   obtain ⟨m, f, j, a, c, acc, rfl, rfl, hj, hm, hacc, ho, hb⟩ := hrel
   have HA : Hid (acc ++ lenF f m = lenF 3 k) := hacc
   have HM : Hid (m < 128 ^ (f + 1)) := hm
   have hm4 : m < 268435456 := Nat.lt_of_lt_of_le hm (Nat.pow_le_pow_right (show 0 < 128 by omega) (show f + 1 ≤ 4 by omega))
   clear hacc hm
   by_cases hlt : m < 128
   ·have h' : ¬ (127 : Int) < m := by omega
    have HF : Hid (lenF f m = [UInt8.ofNat m]) := qdm f m hlt
    go_wp2_with (at_builtin; refine w_app _ rfl _ _ rfl w.heap.size _ _ _ (l ++ acc) rfl (ho.alloc _) _ _ _ [UInt8.ofNat m] rfl (qss wr m _ (by omega)) (by omega) (by have := hb.size; simp; omega) ?_)
    intro a2 c2 w2 ho2 hg2
    have hb2 := qau (hb.alloc hb.size _) (by have := hb.size; simp; omega) (ho.alloc _) hg2
    rw [← HF.out, HA.out] at ho2
    obtain rfl : j + 1 = N := by
     have h1 := ho2.1
     have h2 := HN.out
     have h3 := HL.out
     rw [List.length_append] at h1
     omega
    go_wp2
    go_ret
    exact ⟨a2, c2, rfl, by rw [HB.out]; exact ho2, hb2⟩
   ·have h' : (127 : Int) < m := by omega
    cases f with
    | zero => have := HM.out; omega
    | succ f =>
     have HF : Hid (lenF (f + 1) m = moreB m :: lenF f (m / 128)) := qgn f m hlt
     have HD : Hid (m / 128 < 128 ^ (f + 1)) := Nat.div_lt_of_lt_mul (by have := HM.out; rw [Nat.pow_succ] at this; omega)
     go_wp2_with (at_builtin; refine w_app _ rfl _ _ rfl w.heap.size _ _ _ (l ++ acc) rfl (ho.alloc _) _ _ _ [moreB m] rfl (rd_more wr m _ (by omega)) (by omega) (by have := hb.size; simp; omega) ?_)
     intro a2 c2 w2 ho2 hg2
     have hb2 := qau (hb.alloc hb.size _) (by have := hb.size; simp; omega) (ho.alloc _) hg2
     clear hg2 ho hb
     go_wp2
     go_roundw
     case rel =>
      refine ⟨m / 128, f, j + 1, a2, c2, _, by go_num, rfl, by omega, HD.out, ?_, ho2, hb2⟩
      rw [← HA.out, HF.out, List.append_assoc]
      rfl
     case measure => simp [intOf]; omega
 ·have HB : Hid (lenB x = []) := qsm (by omega)
  rw [HB.out] at hN
  subst hN
  have hI : decide ((0 : Int) ≤ x ∧ x ≤ 268435455) = false := decide_eq_false hin
  go_enter Tryz.func134, Tryz.ntmps134
  go_wp2_with (at_builtin; refine w_app _ rfl _ _ rfl w.heap.size _ 0 _ [] rfl (qbj w) _ _ _ l rfl (hr.alloc _) (by omega) (by simp) ?_)
  intro a1 c1 w1 ho1 hg1
  have hb1 : Below w.heap.size w w1 := qau ((Below.refl _ _).alloc (Nat.le_refl _) _) (by simp) (qbj w) hg1
  clear hg1
  go_wp2_with fail
  refine (qao _ _ _ false _ hI).mono ?_
  rintro e w2 ⟨rfl, rfl⟩
  go_wp2
  go_ret
  exact ⟨a1, c1, by simp, by rw [HB.out]; simpa using ho1, hb1⟩


theorem exec_call1 (P : Program) (u : World) (ρ : Operand → Value) (v : Value) (x : Operand) (f : FuncId) (hf : ∀ (xs : Array Value) (u : World), (callFunc f xs).run P u = .ok (.enter f xs) u) (hx : ρ x = v) (hr : ∀ g, ρ (.func g) = .func (.func g) #[] #[]) (d : Option Tmp) (t : TypeId) (p : String) (e : Array Edge) (g : Option (Nat × Bool)) (ts : Array TypeId) :
  (execOp ρ ⟨d, .call { callee := .value (.func f), args := #[x], argTypes := ts }, t, p, e, g⟩).run P u = .ok (.enter f #[v]) u := by
 simp [execOp, hx, hr, resolve, invoke, go_sem, hf]
theorem exec_call2 (P : Program) (u : World) (ρ : Operand → Value) (v v' : Value) (x y : Operand) (f : FuncId) (hf : ∀ (xs : Array Value) (u : World), (callFunc f xs).run P u = .ok (.enter f xs) u) (hx : ρ x = v) (hy : ρ y = v') (hr : ∀ g, ρ (.func g) = .func (.func g) #[] #[]) (d : Option Tmp) (t : TypeId) (p : String) (e : Array Edge) (g : Option (Nat × Bool)) (ts : Array TypeId) :
  (execOp ρ ⟨d, .call { callee := .value (.func f), args := #[x, y], argTypes := ts }, t, p, e, g⟩).run P u = .ok (.enter f #[v, v']) u := by
 simp [execOp, hx, hy, hr, resolve, invoke, go_sem, hf]
section
variable {P : Program} {o : Oper} {a : Act} {w : World} {K : Act → World → Prop} {Q : Exit → Act → World → Prop}
theorem qac {v : Value} {w' : World} (hx : (execOp a.eval o).run P w = .ok (.value v) w') (h : K (a.put o.dst v) w') : Oper.wp P o a w K Q := by
 unfold Oper.wp
 rw [hx]
 exact h
theorem st_call {f : FuncId} {args : Array Value} (hx : (execOp a.eval o).run P w = .ok (.enter f args) w) (h : Calls P f args w fun e w' => ∃ v, e = .returned v ∧ K (a.put o.dst v) w') : Oper.wp P o a w K Q := by
 unfold Oper.wp
 rw [hx]
 refine Calls.mono h ?_
 rintro e w' ⟨v, rfl, hh⟩
 exact hh
end

theorem Blk.next {w w' : World} {b : Nat} {p : Pk} (h : Blk w b p) (hb : Below w.heap.size w w') : Blk w' b p := h.below hb h.lt
theorem qay {o : Oper} {a : Act} {w : World} {K : Act → World → Prop} {Q : Exit → Act → World → Prop} {g : Nat} {p : Pk} (hB : Blk w g p) (x : Operand) (ho : o.op = .load 28 x)
  (hx : a.eval x = .pointer (some ⟨g, 0, none⟩)) (h : K (a.put o.dst (.agg p.cells)) w) : Oper.wp Tryz.prog o a w K Q :=
 wp_load_row 28 x ho g hx 28 p.cells (0, 0) _ hB Tryz.underlying28 rfl (infoP.trans (by rw [Pk.csize])) h
def Pk.zero : Pk := ⟨0, false, 0, false, 0, ByteArray.empty, ⟨none, 0, 0⟩, ByteArray.empty, 0, false, 0, false, ByteArray.empty, ⟨none, 0, 0⟩, 0, false, false, ByteArray.empty, false, ⟨none, 0, 0⟩, 0, false, ⟨none, 0, 0⟩, ⟨none, 0, 0⟩, ⟨none, 0, 0⟩⟩
theorem qmg (w : World) : (Instr.alloc 28 true (.tuple #[])).run Tryz.prog w = .ok (.pointer (some ⟨w.heap.size, 0, none⟩)) (w.alloc (.cells Pk.zero.cells 28)) := by kernel_rfl
theorem setRow_new (w : World) (cs ds : Array Value) (t : TypeId) : (w.alloc (.cells cs t)).setRow w.heap.size ds = w.alloc (.cells ds t) := by
 unfold World.setRow World.alloc
 congr 1
 apply Array.ext_getElem?
 intro i
 simp only [Array.getElem?_modify, Array.getElem?_push]
 by_cases h : w.heap.size = i
 ·subst h
  simp
 ·have h' : ¬ i = w.heap.size := fun e => h e.symm
  simp [h, h']
theorem Pk.ones (p : Pk) : p.cells.all (fun v => v.oneCell') = true := by
 simp [Pk.cells, Value.oneCell']
theorem qax {ops : Array Oper} {rest : List Oper} {a : Act} {w : World} {Q : Exit → Act → World → Prop} {p : Pk} {d : Nat} {y : Operand} {t1 t2 : TypeId} {p1 p2 : String} {e1 e2 : Array Edge}
  (hd : decide (d < a.tmps.size) = true) (hy : (a.put (some d) (.pointer (some ⟨w.heap.size, 0, none⟩))).eval y = .agg p.cells)
  (h : wpList Tryz.prog ops Q rest (a.put (some d) (.pointer (some ⟨w.heap.size, 0, none⟩))) (w.alloc (.cells p.cells 28))) :
  wpList Tryz.prog ops Q (⟨some d, .alloc 28, t1, p1, e1, none⟩ :: ⟨none, .store 28 (.tmp d) y, t2, p2, e2, none⟩ :: rest) a w := by
 refine qcx (w' := w.alloc (.cells Pk.zero.cells 28)) (v := .pointer (some ⟨w.heap.size, 0, none⟩)) (qaa rfl _) ?_ ?_
 ·simp only [execOp, Sem.run_bind, qmg, Result.andThen_ok, Sem.run_pure]
 refine wpList_store_row rfl 28 (.tmp d) y rfl w.heap.size p.cells (eval_at (qdg _ (of_decide_eq_true hd))) hy 28 Pk.zero.cells (heap_alloc_new _ _) (infoP.trans (by rw [Pk.csize])) rfl p.ones ?_
 rw [setRow_new]
 exact h
theorem qap {fn : Func} {R : Ending → World → Prop} {a : Act} {w : World} {g : Nat} {p : Pk} {t : Tmp} (hr : fn.results = #[.cell t 28]) (hp : a.tmps.getD t undef = .pointer (some ⟨g, 0, none⟩)) (hB : Blk w g p) (hd : a.defers = [])
  (h : R (.returned (.agg p.cells)) w) : bodyPost Tryz.prog fn R .ret a w :=
 bodyPost_ret (results_cell_row hr a.tmps w g 28 p.cells (0, 0) _ hp hB Tryz.underlying28 rfl (infoP.trans (by rw [Pk.csize]))) hd h
theorem bel {w w1 w2 : World} (h1 : Below w.heap.size w w1) (h2 : Below w1.heap.size w1 w2) : Below w.heap.size w w2 := h1.trans (h2.mono h1.size)
theorem bel_new (w : World) (o : Obj) : Below w.heap.size w (w.alloc o) := (Below.refl _ _).alloc (Nat.le_refl _) o

theorem ld_cell {P : Program} {w : World} {τ : TypeId} {d : TypeDesc} (hu : P.underlying τ = some d) (hd : (match d with | .struct _ | .array _ _ => true | _ => false) = false) {X : Addr} {v : Value} (h : w.cell? X = some v) :
  (Instr.loadAt τ (.pointer (some X))).run P w = .ok v w := by
 have hagg : (isAgg τ).run P w = .ok false w := by
  unfold isAgg
  rw [Sem.run_bind, run_underlying hu w]
  cases d <;> simp_all
 simp [Instr.loadAt, Instr.sureAddr, loadVar, Sem.run_bind, hagg, h]
section
variable {P : Program} {o : Oper} {a : Act} {w : World} {K : Act → World → Prop} {Q : Exit → Act → World → Prop}
theorem qba {v : Value} (x : Operand) (ho : o.op = .move x) (hx : a.eval x = v) (h : K (a.put o.dst v) w) : Oper.wp P o a w K Q :=
 qac (w' := w) (v := v) (by simp only [execOp, ho, hx, Sem.run_pure]) h
theorem z_fld {X Y : Addr} (T : TypeId) (x : Operand) (i : Nat) (ho : o.op = .fieldAddr T x i) (hx : a.eval x = .pointer (some X)) (hf : ∀ u : World, (Instr.fieldAt T (.pointer (some X)) i).run P u = .ok (.pointer (some Y)) u) (h : K (a.put o.dst (.pointer (some Y))) w) : Oper.wp P o a w K Q :=
 qac (w' := w) (by simp only [execOp, ho, hx, Sem.run_bind, hf, Result.andThen_ok, Sem.run_pure]) h
theorem z_load {X : Addr} {v : Value} {d : TypeDesc} (τ : TypeId) (x : Operand) (ho : o.op = .load τ x) (hx : a.eval x = .pointer (some X)) (hu : P.underlying τ = some d) (hd : (match d with | .struct _ | .array _ _ => true | _ => false) = false) (hc : w.cell? X = some v) (h : K (a.put o.dst v) w) : Oper.wp P o a w K Q := by
 have hl := ld_cell (P := P) (w := w) hu hd hc
 exact qac (w' := w) (v := v) (by simp only [execOp, ho, hx, Sem.run_bind, hl, Result.andThen_ok, Sem.run_pure]) h
theorem z_bin {v v' r : Value} (b : BinOp) (T T' : TypeId) (x y : Operand) (ho : o.op = .binOp b T x y T') (hx : a.eval x = v) (hy : a.eval y = v') (hr : (do eqGuard b T x y v v'; binOp b T v v' : Sem Value).run P w = .ok r w) (h : K (a.put o.dst r) w) : Oper.wp P o a w K Q :=
 qac (w' := w) (v := r) (by simp only [execOp, ho, hx, hy]; rw [Sem.run_bind, hr]; rfl) h
theorem qgv {v r : Value} (s t : TypeId) (x : Operand) (ho : o.op = .convert s t x) (hx : a.eval x = v) (hr : (convert s t v).run P w = .ok r w) (h : K (a.put o.dst r) w) : Oper.wp P o a w K Q :=
 qac (w' := w) (v := r) (by simp only [execOp, ho, hx, Sem.run_bind, hr, Result.andThen_ok, Sem.run_pure]) h
theorem z_not {b : Bool} (T : TypeId) (x : Operand) (ho : o.op = .unOp .not T x) (hx : a.eval x = .bool b) (h : K (a.put o.dst (.bool (!b))) w) : Oper.wp P o a w K Q :=
 qac (w' := w) (v := .bool (!b)) (by simp [execOp, ho, hx, Op.unary]) h
theorem z_mk {parts : Array (Nat × Operand)} {vs : Array (Nat × Value)} {r : Value} {w' : World} (t : TypeId) (n : Nat) (ho : o.op = .buildSlice t n parts) (hx : (parts.map fun (i, x) => (i, a.eval x)) = vs) (hr : (Instr.buildSlice t n vs).run P w = .ok r w') (h : K (a.put o.dst r) w') : Oper.wp P o a w K Q :=
 qac (w' := w') (v := r) (by simp only [execOp, ho, hx, Sem.run_bind, hr, Result.andThen_ok, Sem.run_pure]) h
end

theorem mkb2 (x y : Int) (u : World) : (Instr.buildSlice 22 2 #[(0, .int .u8 x), (1, .int .u8 y)]).run Tryz.prog u = .ok (.slice (some ⟨u.heap.size, 0, none⟩) 2 2) (u.alloc (.cells #[.int .u8 x, .int .u8 y] 5)) := by
 kernel_rfl
theorem mkb1 (x : Int) (u : World) : (Instr.buildSlice 22 1 #[(0, .int .u8 x)]).run Tryz.prog u = .ok (.slice (some ⟨u.heap.size, 0, none⟩) 1 1) (u.alloc (.cells #[.int .u8 x] 5)) := by
 kernel_rfl
theorem cvb (x : Int) (u : World) : (convert 3 5 (.int .i64 x)).run Tryz.prog u = .ok (.int .u8 (x % 256)) u := by
 simp [convert, go_sem, Conv.intToInt, IntKind.wrap_u8]
theorem addi (x y : Int) (u : World) (a b : Operand) (h : IntKind.i64.wrap (x + y) = x + y) : (do eqGuard .add 3 a b (.int .i64 x) (.int .i64 y); binOp .add 3 (.int .i64 x) (.int .i64 y) : Sem Value).run Tryz.prog u = .ok (.int .i64 (x + y)) u := by
 simp [eqGuard, binOp, go_sem, h]
theorem muli (x y : Int) (u : World) (a b : Operand) (h : IntKind.i64.wrap (x * y) = x * y) : (do eqGuard .mul 3 a b (.int .i64 x) (.int .i64 y); binOp .mul 3 (.int .i64 x) (.int .i64 y) : Sem Value).run Tryz.prog u = .ok (.int .i64 (x * y)) u := by
 simp [eqGuard, binOp, go_sem, h]
end Go.Proofs.YtccjiicjlifmiaaGreatDoor
