/- Texts that the law FnExactBufOk uses. -/
import Derived.Test.YtccjiicjlifmiaaGreatDoorR41
import Derived.Test.YtccjiicjlifmiaaGreatDoorR37
import Derived.Test.YtccjiicjlifmiaaGreatDoorR01
set_option linter.unusedVariables false
set_option linter.unusedSimpArgs false
set_option maxRecDepth 100000
set_option maxHeartbeats 20000000
namespace Go.Proofs.YtccjiicjlifmiaaGreatDoor
open Go.RowKit

def errC (c : Int) : Value := .iface 98 (.agg #[.int .i64 c])
def Head (w w' : World) (e : Ending) (b : List UInt8) (cap : Nat) : Prop := match headE b with
 | .inl c => e = .returned (.tuple #[.agg Pk.zero.cells, .slice none 0 0, errC c]) ∧ Below w.heap.size w w'
 | .inr (n, k) => ∃ ax cx, e = .returned (.tuple #[.agg (fstX (bt b 0)).cells, .slice ax n cx, .nilIface]) ∧ RdIn w' ax n cx ((b.drop k).take n) ∧ Below w.heap.size w w'
theorem qmp {l : List UInt8} {a b : Int} (hl : 1 ≤ l.length) (h : getE l 1 = (a, b, 0)) : ∃ m k : Nat, a = m ∧ b = k ∧ k ≤ l.length ∧ m ≤ 268435455 := by
 unfold getE at h
 rw [if_pos ⟨by omega, by omega⟩] at h
 obtain ⟨k, m, h1, h2, h3, h4, _⟩ := ansG_good (p := (1 : Int).toNat) (by simpa using hl) h
 exact ⟨m, _, h1, h3, h4, h2⟩
theorem z_slice {o : Oper} {a : Act} {w : World} {K : Act → World → Prop} {Q : Exit → Act → World → Prop} {s v1 v2 r : Value} (x y z : Operand) (ho : o.op = .slice 22 x (some y) (some z) none) (hx : a.eval x = s) (hy : a.eval y = v1) (hz : a.eval z = v2) (hr : (Instr.slice 22 s (some v1) (some v2) none).run Tryz.prog w = .ok r w) (h : K (a.put o.dst r) w) : Oper.wp Tryz.prog o a w K Q :=
 qac (w' := w) (v := r) (by unfold execOp; rw [ho]; simp only [Option.map_some, Option.map_none, hx, hy, hz, Instr.sliceAt, Sem.run_bind, run_underlying Tryz.underlying22, hr, Result.andThen_ok, Sem.run_pure]) h
def R7 (r : Nat) (p : Pk) (i : Nat) (u u' : World) : Prop := if i = 7 then u' = u.setRow r p.cells else u' = u
structure J7 (w0 : World) (r b : Nat) (p : Pk) (u : World) : Prop where
 blk : Blk u b p
 res : ∃ p0, Blk u r p0
 gro : Below w0.heap.size w0 u
theorem J7.set {w0 u : World} {r b : Nat} {p : Pk} (h : J7 w0 r b p u) (hrb : r ≠ b) (hr : w0.heap.size ≤ r) : J7 w0 r b p (u.setRow r p.cells) := by
 obtain ⟨p0, h0⟩ := h.res
 exact ⟨(setRow_other u r b _ (fun e => hrb e.symm)).trans h.blk, ⟨p, setRow_heap u r p0.cells p.cells 28 (0, 0) h0⟩, h.gro.grown (qgl u r _) h.gro.size (fun k e => by cases e; exact hr)⟩
theorem head_i (ao : Option Addr) (n cap : Nat) (l : List UInt8) (w : World) (hr : RdIn w ao n cap l) (hn : n ≤ 1048576) :
  Calls Tryz.prog 127 #[.slice ao n cap] w fun e w' => Head w w' e l cap := by
 have hl := hr.1.1
 have A1 : Blk (w.alloc (.cells Pk.zero.cells 28)) w.heap.size Pk.zero := heap_alloc_new _ _
 have hb := bel_new w (.cells Pk.zero.cells 28)
 by_cases h0 : n = 0
 ·have HX : Hid (∀ w w' e, Head w w' e l cap = (e = .returned (.tuple #[.agg Pk.zero.cells, .slice none 0 0, errC 1]) ∧ Below w.heap.size w w')) := fun w w' e => by
   unfold Head headE
   rw [if_pos (by omega)]
  subst h0
  clear hl hr
  go_enter Tryz.func127, Tryz.ntmps127
  go_upto_region 1 with (first | refine al_pk ?_ | fail)
  go_upto_region 2 with fail
  refine wp_region_list ?_
  refine bu_pk Pk.zero (by kernel_rfl) ?_
  go_wp2_with (first | (refine qaf (q := Pk.zero) (old := Pk.zero) A1 rfl rfl ?_; intro w9 B9 g9) | fail)
  exact qcf rfl rfl rfl rfl B9 rfl (by
   rw [HX.out]
   exact ⟨rfl, qat hb g9 (Nat.le_refl _)⟩)
 have h0' : ((n : Int) == 0) = false := by simp; omega
 obtain ⟨b0, off, rfl, hc⟩ := hr.1.at (show 0 < n by omega)
 have hcell := hc 0 (by omega)
 have hA : (w.alloc (.cells Pk.zero.cells 28)).cell? ⟨b0, off + 0, none⟩ = some (.int .u8 (bt l 0)) := by
  have hlt : b0 < w.heap.size := by
   rcases Nat.lt_or_ge b0 w.heap.size with h | h
   ·exact h
   ·simp [World.cell?, Array.getElem?_eq_none h] at hcell
  exact (hb.cell (p := ⟨b0, off + 0, none⟩) hlt).trans hcell
 rw [Nat.add_zero] at hA
 clear hc hcell
 obtain ⟨x, hx⟩ : ∃ x, bt l 0 = x := ⟨_, rfl⟩
 have hx256 : x < 256 := by rw [← hx]; exact bt_lt l 0
 rw [hx] at hA
 have hn0 : ¬ n = 0 := h0
 have H0 : Hid (0 < n) := Nat.pos_of_ne_zero h0
 have HL : Hid (l.length = n) := hl
 have HR : Hid (RdIn w (some ⟨b0, off, none⟩) n cap l) := hr
 clear hr h0 hl
 cases hf : fstOk x with
 | false =>
  have HX : Hid (∀ w w' e, Head w w' e l cap = (e = .returned (.tuple #[.agg Pk.zero.cells, .slice none 0 0, errC 2]) ∧ Below w.heap.size w w')) := fun w w' e => by
   unfold Head headE
   rw [if_neg (by have := HL.out; omega), if_pos (by rw [hx]; exact hf)]
  have HF : Hid (∀ w w' e, First w w' e x → e = .returned (.tuple #[.agg Pk.zero.cells, .iface 98 (.agg #[.int .i64 2])]) ∧ Below w.heap.size w w') := fun w w' e h => by
   unfold First at h
   rw [hf] at h
   exact h
  clear hf hx HL HR
  go_enter Tryz.func127, Tryz.ntmps127
  go_upto_region 3 with (first | refine al_pk ?_ | fail)
  go_wp2_with fail
  refine (first_i x hx256 _).mono ?_
  intro e w1 hfst
  obtain ⟨rfl, b1⟩ := HF.out _ _ _ hfst
  clear hfst hA
  replace A1 := A1.next b1
  replace hb := bel hb b1
  clear b1
  go_upto_region 4 with (first | refine qax (p := Pk.zero) rfl rfl ?_ | fail)
  replace A1 := A1.next (bel_new _ (.cells Pk.zero.cells 28))
  replace hb := bel hb (bel_new _ (.cells Pk.zero.cells 28))
  go_upto_region 5 with fail
  refine wp_region_list ?_
  refine bu_pk Pk.zero (by kernel_rfl) ?_
  go_wp2_with (first | (refine qaf (q := Pk.zero) (old := Pk.zero) A1 rfl rfl ?_; intro w9 B9 g9) | fail)
  exact qcf rfl rfl rfl rfl B9 rfl (by
   rw [HX.out]
   exact ⟨rfl, qat hb g9 (Nat.le_refl _)⟩)
 | true =>
  have HP : Hid (fstX x = fstX (bt l 0)) := by unfold Hid; rw [hx]
  have HF : Hid (∀ w w' e, First w w' e x → e = .returned (.tuple #[.agg (fstX x).cells, .nilIface]) ∧ Below w.heap.size w w') := fun w w' e h => by
   unfold First at h
   rw [hf] at h
   exact h
  have HE : Hid (l.length ≠ 0 ∧ ¬ fstOk (bt l 0) = false) := ⟨by have := HL.out; have := H0.out; omega, by rw [hx, hf]; simp⟩
  clear hf
  obtain ⟨p, hp⟩ : ∃ p, fstX x = p := ⟨_, rfl⟩
  rw [hp] at HF HP
  clear hp hx
  obtain ⟨T, hT⟩ : ∃ T, getE l 1 = T := ⟨_, rfl⟩
  have HT : Hid (getE l 1 = T) := hT
  have HG : Hid (∀ u : World, RdIn u (some ⟨b0, off, none⟩) n cap l → Calls Tryz.prog 19 #[.slice (some ⟨b0, off, none⟩) n cap, .int .i64 1] u fun e w' => e = .returned (.tuple #[.int .i64 T.1, .int .i64 T.2.1, .int .i64 T.2.2]) ∧ w' = u) := fun u hr => by
   have := qsg (some ⟨b0, off, none⟩) n cap 1 l u hr (by omega)
   rw [hT] at this
   exact this
  obtain ⟨a, bb, c⟩ := T
  have HM : Hid (c = 0 → ∃ m k : Nat, a = m ∧ bb = k ∧ k ≤ l.length ∧ m ≤ 268435455) := fun hc => qmp (by have := HL.out; have := H0.out; omega) (by rw [hT, hc])
  clear hT
  have hRA := HR.out.below hb
  go_enter Tryz.func127, Tryz.ntmps127
  go_upto_region 3 with (first | refine al_pk ?_ | fail)
  go_wp2_with fail
  refine (first_i x hx256 _).mono ?_
  intro e w1 hfst
  obtain ⟨rfl, b1⟩ := HF.out _ _ _ hfst
  clear hfst hA
  replace A1 := A1.next b1
  replace hb := bel hb b1
  replace hRA := hRA.below b1
  clear b1
  go_upto_region 4 with (first | refine qax (p := p) rfl rfl ?_ | fail)
  have A2 : Blk (w1.alloc (.cells p.cells 28)) w1.heap.size p := heap_alloc_new _ _
  have hne : w.heap.size ≠ w1.heap.size := Nat.ne_of_lt A1.lt
  replace A1 := A1.next (bel_new _ (.cells p.cells 28))
  replace hRA := hRA.below (bel_new _ (.cells p.cells 28))
  replace hb := bel hb (bel_new _ (.cells p.cells 28))
  generalize w1.alloc (.cells p.cells 28) = y at *
  generalize w1.heap.size = b at *
  go_wp2_with fail
  refine (HG.out _ hRA).mono ?_
  rintro e w2 ⟨rfl, rfl⟩
  clear HG HF
  have HH : Hid (∀ w w' e, Head w w' e l cap = (match (if c ≠ 0 then Sum.inl c else if 340 < a then Sum.inl 2 else if (l.length : Int) - bb < a then Sum.inl 1 else Sum.inr (a.toNat, bb.toNat) : Int ⊕ (Nat × Nat)) with
    | .inl c => e = .returned (.tuple #[.agg Pk.zero.cells, .slice none 0 0, errC c]) ∧ Below w.heap.size w w'
    | .inr (n, k) => ∃ ax cx, e = .returned (.tuple #[.agg p.cells, .slice ax n cx, .nilIface]) ∧ RdIn w' ax n cx ((l.drop k).take n) ∧ Below w.heap.size w w')) := fun w w' e => by
   unfold Head headE
   rw [if_neg HE.out.1, if_neg HE.out.2, HT.out, ← HP.out]
  clear HE HT HP
  by_cases hc : c = 0
  ·obtain ⟨m, k, rfl, rfl, hkl, hm⟩ := HM.out hc
   subst hc
   clear HM
   rw [HL.out] at hkl
   by_cases h340 : 340 < m
   ·have h340' : (340 : Int) < m := by omega
    have HX : Hid (∀ w w' e, Head w w' e l cap = (e = .returned (.tuple #[.agg Pk.zero.cells, .slice none 0 0, errC 2]) ∧ Below w.heap.size w w')) := fun w w' e => by
     rw [HH.out, if_neg (by simp), if_pos h340']
    clear HH HL HR h340
    go_upto_region 10 with fail
    refine wp_region_list ?_
    refine bu_pk Pk.zero (by kernel_rfl) ?_
    go_wp2_with (first | (refine qaf (q := Pk.zero) (old := Pk.zero) A1 rfl rfl ?_; intro w9 B9 g9) | fail)
    exact qcf rfl rfl rfl rfl B9 rfl (by
     rw [HX.out]
     exact ⟨rfl, qat hb g9 (Nat.le_refl _)⟩)
   ·have h340' : ¬ (340 : Int) < m := by omega
    by_cases hw : (n : Int) - k < m
    ·have HX : Hid (∀ w w' e, Head w w' e l cap = (e = .returned (.tuple #[.agg Pk.zero.cells, .slice none 0 0, errC 1]) ∧ Below w.heap.size w w')) := fun w w' e => by
      rw [HH.out, if_neg (by simp), if_neg h340', if_pos (by rw [HL.out]; exact hw)]
     clear HH HL HR h340
     go_upto_region 12 with fail
     refine wp_region_list ?_
     refine bu_pk Pk.zero (by kernel_rfl) ?_
     go_wp2_with (first | (refine qaf (q := Pk.zero) (old := Pk.zero) A1 rfl rfl ?_; intro w9 B9 g9) | fail)
     exact qcf rfl rfl rfl rfl B9 rfl (by
      rw [HX.out]
      exact ⟨rfl, qat hb g9 (Nat.le_refl _)⟩)
    ·have HX : Hid (∀ w w' e, Head w w' e l cap = (∃ ax cx, e = .returned (.tuple #[.agg p.cells, .slice ax m cx, .nilIface]) ∧ RdIn w' ax m cx ((l.drop k).take m) ∧ Below w.heap.size w w')) := fun w w' e => by
      rw [HH.out, if_neg (by simp), if_neg h340', if_neg (by rw [HL.out]; exact hw)]
      simp
     obtain ⟨ax, cx, hsl, hrx⟩ := qig HR.out k m (by omega)
     have HRX : Hid (RdIn w ax m cx ((l.drop k).take m)) := hrx
     clear HH HL HR h340 hrx hRA
     go_wp2
     refine qbi (by kernel_rfl) rfl (J7 w w.heap.size b p) ⟨A2, ⟨_, A1⟩, ⟨hb.os, hb.tape, hb.output, hb.size, hb.block⟩⟩ (R7 w.heap.size p) (fun i v u => match i with
      | 0 => v = .agg p.cells
      | 1 => v = .slice (some ⟨b0, off, none⟩) n cap
      | 2 => v = .int .i64 (k : Nat)
      | 3 => v = .int .i64 (k : Nat)
      | 4 => v = .int .i64 (m : Nat)
      | 5 => v = .int .i64 ((k : Int) + (m : Int))
      | 6 => v = .slice ax m cx
      | 8 => v = .slice ax m cx
      | 9 => v = .nilIface
      | _ => True) (fun i a u => if i = 7 then Blk u w.heap.size p else True) ?_ ?_ ?_ ?_ ?_
     ·intro i u u' hR hJ
      unfold R7 at hR
      split at hR
      ·rw [hR]; exact hJ.set hne (Nat.le_refl _)
      ·rw [hR]; exact hJ
     ·intro i0 i v u u' _ hx h
      match i, h with
      | 0, h => exact h
      | 1, h => exact h
      | 2, h => exact h
      | 3, h => exact h
      | 4, h => exact h
      | 5, h => exact h
      | 6, h => exact h
      | 7, h => exact h
      | 8, h => exact h
      | 9, h => exact h
      | (_ + 10), h => trivial
     ·intro i j o oj a v u u' hi hj hne hdj hx hS
      by_cases h7 : j = 7
      ·rw [if_pos h7] at hS ⊢
       unfold R7 at hx
       rw [if_neg (by omega)] at hx
       rw [hx]
       exact hS
      ·rw [if_neg h7]; trivial
     ·intro i o a u hi hk hJ hdep
      match i, hi with
      | 0, hi =>
       cases hi
       exact (qay hJ.blk _ rfl (eval_at ((hk.at 5 rfl).trans rfl)) ⟨_, rfl, rfl, rfl, trivial⟩)
      | 1, hi =>
       cases hi
       exact (qba _ rfl (eval_at ((hk.at 0 rfl).trans rfl)) ⟨_, rfl, rfl, rfl, trivial⟩)
      | 2, hi =>
       cases hi
       exact (qba _ rfl (eval_at ((hk.at 8 rfl).trans rfl)) ⟨_, rfl, rfl, rfl, trivial⟩)
      | 3, hi =>
       cases hi
       exact (qba _ rfl (eval_at ((hk.at 8 rfl).trans rfl)) ⟨_, rfl, rfl, rfl, trivial⟩)
      | 4, hi =>
       cases hi
       exact (qba _ rfl (eval_at ((hk.at 7 rfl).trans rfl)) ⟨_, rfl, rfl, rfl, trivial⟩)
      | 5, hi =>
       cases hi
       obtain ⟨z3, hz3, rfl, _⟩ := hdep 3 _ rfl rfl
       replace hz3 := hz3 _ rfl
       obtain ⟨z4, hz4, rfl, _⟩ := hdep 4 _ rfl rfl
       replace hz4 := hz4 _ rfl
       exact (z_bin _ _ _ _ _ rfl (eval_at hz3) (eval_at hz4) (addi _ _ _ _ _ (by rw [qar] <;> omega)) ⟨_, rfl, rfl, rfl, trivial⟩)
      | 6, hi =>
       cases hi
       obtain ⟨z1, hz1, rfl, _⟩ := hdep 1 _ rfl rfl
       replace hz1 := hz1 _ rfl
       obtain ⟨z2, hz2, rfl, _⟩ := hdep 2 _ rfl rfl
       replace hz2 := hz2 _ rfl
       obtain ⟨z5, hz5, rfl, _⟩ := hdep 5 _ rfl rfl
       replace hz5 := hz5 _ rfl
       exact (z_slice _ _ _ rfl (eval_at hz1) (eval_at hz2) (eval_at hz5) (hsl _) ⟨_, rfl, rfl, rfl, trivial⟩)
      | 7, hi =>
       cases hi
       obtain ⟨z0, hz0, rfl, _⟩ := hdep 0 _ rfl rfl
       replace hz0 := hz0 _ rfl
       obtain ⟨p0, h0⟩ := hJ.res
       exact wp_store_row 28 _ _ rfl w.heap.size p.cells (eval_at ((hk.at 2 rfl).trans rfl)) (eval_at hz0) 28 p0.cells h0 (infoP.trans (by rw [Pk.csize])) rfl p.ones ⟨_, rfl, rfl, trivial, setRow_heap u w.heap.size p0.cells p.cells 28 (0, 0) h0⟩
      | 8, hi =>
       cases hi
       obtain ⟨z6, hz6, rfl, _⟩ := hdep 6 _ rfl rfl
       replace hz6 := hz6 _ rfl
       exact (z_asg _ rfl (eval_at hz6) ⟨_, rfl, rfl, rfl, trivial⟩)
      | 9, hi =>
       cases hi
       exact (z_asg _ rfl rfl ⟨_, rfl, rfl, rfl, trivial⟩)
      | (_ + 10), hi => cases hi
     intro vs u9 hJ hG a3_ h3 hS_
     have B9 := hS_ 7 (by decide)
     rw [if_pos rfl] at B9
     clear hS_
     have e8 := hG 8 (by decide)
     replace e8 : vs 8 = .slice ax m cx := e8
     have e9 := hG 9 (by decide)
     replace e9 : vs 9 = .nilIface := e9
     clear hG
     replace h3 : puts _ 1 _ (Fq63) = _ := h3
     replace h3 : puts _ 2 _ (Fq63) = _ := h3
     replace h3 : puts _ 3 _ (Fq63) = _ := h3
     replace h3 : puts _ 4 _ (Fq63) = _ := h3
     replace h3 : puts _ 5 _ (Fq63) = _ := h3
     replace h3 : puts _ 6 _ (Fq63) = _ := h3
     replace h3 : puts _ 7 _ (Fq63) = _ := h3
     replace h3 : puts _ 8 _ (Fq63) = _ := h3
     replace h3 : puts _ 9 _ (Fq63) = _ := h3
     replace h3 : Fq63 = _ := h3
     unfold Fq63 at h3
     subst h3
     simp only [e8, e9]
     clear e8 e9
     go_wp2_with fail
     exact qcf rfl rfl rfl rfl B9 rfl (by
      rw [HX.out]
      exact ⟨ax, cx, rfl, HRX.out.below hJ.gro, hJ.gro⟩)
  ·have HX : Hid (∀ w w' e, Head w w' e l cap = (e = .returned (.tuple #[.agg Pk.zero.cells, .slice none 0 0, errC c]) ∧ Below w.heap.size w w')) := fun w w' e => by
    rw [HH.out, if_pos hc]
   clear HH HL HR HM
   go_upto_region 8 with fail
   refine wp_region_list ?_
   refine bu_pk Pk.zero (by kernel_rfl) ?_
   go_wp2_with (first | (refine qaf (q := Pk.zero) (old := Pk.zero) A1 rfl rfl ?_; intro w9 B9 g9) | fail)
   exact qcf rfl rfl rfl rfl B9 rfl (by
    rw [HX.out]
    exact ⟨rfl, qat hb g9 (Nat.le_refl _)⟩)
end Go.Proofs.YtccjiicjlifmiaaGreatDoor
