/- Texts that the law FnExactBufOk uses. -/
import Derived.Test.YtccjiicjlifmiaaGreatDoorR07
set_option linter.unusedVariables false
set_option linter.unusedSimpArgs false
set_option maxRecDepth 100000
set_option maxHeartbeats 20000000
namespace Go.Proofs.YtccjiicjlifmiaaGreatDoor
open Go.RowKit

theorem qkx (p q : Pk) (w : World) :
  Calls Tryz.prog 74 #[.agg p.cells, .agg q.cells] w fun e w' => e = .returned (.bool (p.ty == q.ty && p.qos == q.qos && p.id == q.id && p.lev == q.lev && p.kee == q.kee && p.wq == q.wq && p.cod == q.cod)) ∧ Below w.heap.size w w' := by
 have a0 := p.c0
 have b0 := q.c0
 have a2 := p.c2
 have b2 := q.c2
 have a4 := p.c4
 have b4 := q.c4
 have a8 := p.c8
 have b8 := q.c8
 have a10 := p.c10
 have b10 := q.c10
 have a14 := p.c14
 have b14 := q.c14
 have a20 := p.c20
 have b20 := q.c20
 generalize p.cells = cs at *
 generalize q.cells = ds at *
 have hb : Below w.heap.size w ((w.alloc (.cells cs 28)).alloc (.cells ds 28)) := ((Below.refl _ _).alloc (Nat.le_refl _) _).alloc (by simp) _
 go_enter Tryz.func74, Tryz.ntmps74
 go_wp2
 all_goals
  go_ret
  exact ⟨qab (by simp [*]), hb⟩

theorem qnx (p q : Pk) (w : World) :
  Calls Tryz.prog 75 #[.agg p.cells, .agg q.cells] w fun e w' => e = .returned (.bool (p.dup == q.dup && p.ret == q.ret && p.cln == q.cln && p.hw == q.hw && p.wr == q.wr && p.hu == q.hu && p.hp == q.hp && p.pre == q.pre)) ∧ Below w.heap.size w w' := by
 have a1 := p.c1
 have b1 := q.c1
 have a3 := p.c3
 have b3 := q.c3
 have a9 := p.c9
 have b9 := q.c9
 have a11 := p.c11
 have b11 := q.c11
 have a15 := p.c15
 have b15 := q.c15
 have a16 := p.c16
 have b16 := q.c16
 have a18 := p.c18
 have b18 := q.c18
 have a21 := p.c21
 have b21 := q.c21
 generalize p.cells = cs at *
 generalize q.cells = ds at *
 have hb : Below w.heap.size w ((w.alloc (.cells cs 28)).alloc (.cells ds 28)) := ((Below.refl _ _).alloc (Nat.le_refl _) _).alloc (by simp) _
 go_enter Tryz.func75, Tryz.ntmps75
 go_wp2
 all_goals
  go_ret
  exact ⟨qab (by simp [*]), hb⟩

theorem qnz (p q : Pk) (w : World) :
  Calls Tryz.prog 76 #[.agg p.cells, .agg q.cells] w fun e w' => e = .returned (.bool (decide (p.top = q.top) && decide (p.cli = q.cli) && decide (p.wt = q.wt) && decide (p.us = q.us))) ∧ Below w.heap.size w w' := by
 have a5 := p.c5
 have b5 := q.c5
 have a7 := p.c7
 have b7 := q.c7
 have a12 := p.c12
 have b12 := q.c12
 have a17 := p.c17
 have b17 := q.c17
 generalize p.cells = cs at *
 generalize q.cells = ds at *
 have hb : Below w.heap.size w ((w.alloc (.cells cs 28)).alloc (.cells ds 28)) := ((Below.refl _ _).alloc (Nat.le_refl _) _).alloc (by simp) _
 have s5 := qgd p.top q.top
 have s7 := qgd p.cli q.cli
 have s12 := qgd p.wt q.wt
 have s17 := qgd p.us q.us
 go_enter Tryz.func76, Tryz.ntmps76
 go_wp2
 all_goals
  go_ret
  exact ⟨qab (by simp [*]), hb⟩

theorem qny (p q : Pk) (d d' : Pd) (w : World) (hp : PRd w p d) (hq : PRd w q d') :
  Calls Tryz.prog 77 #[.agg p.cells, .agg q.cells] w fun e w' => e = .returned (.bool (decide (d.bod = d'.bod) && decide (d.wb = d'.wb) && decide (d.pa = d'.pa) && decide (d.wan = d'.wan) && decide (d.nam = d'.nam) && decide (d.cds = d'.cds))) ∧ Below w.heap.size w w' := by
 have a6 := p.c6
 have b6 := q.c6
 have a13 := p.c13
 have b13 := q.c13
 have a19 := p.c19
 have b19 := q.c19
 have a22 := p.c22
 have b22 := q.c22
 have a23 := p.c23
 have b23 := q.c23
 have a24 := p.c24
 have b24 := q.c24
 generalize p.cells = cs at *
 generalize q.cells = ds at *
 have hb : Below w.heap.size w ((w.alloc (.cells cs 28)).alloc (.cells ds 28)) := ((Below.refl _ _).alloc (Nat.le_refl _) _).alloc (by simp) _
 have r := hp.below hb
 have r' := hq.below hb
 go_enter Tryz.func77, Tryz.ntmps77
 go_wp2_with fail
 refine (qjb _ _ _ _ _ _ d.bod d'.bod _ (r).1 (r').1).mono ?_
 rintro e y0 ⟨rfl, m0, rfl⟩
 by_cases h0 : d.bod = d'.bod
 rotate_left
 ·have g0 : decide (d.bod = d'.bod) = false := decide_eq_false h0
  simp only [g0]
  go_wp2
  go_ret
  exact ⟨qab (by simp [g0]), below_drewN hb _⟩
 have g0 : decide (d.bod = d'.bod) = true := decide_eq_true h0
 simp only [g0]
 clear h0
 go_wp2_with fail
 refine (qjb _ _ _ _ _ _ d.wb d'.wb _ (r.drewN _).2.1 (r'.drewN _).2.1).mono ?_
 rintro e y1 ⟨rfl, m1, rfl⟩
 simp only [World.drewN_drewN]
 by_cases h1 : d.wb = d'.wb
 rotate_left
 ·have g1 : decide (d.wb = d'.wb) = false := decide_eq_false h1
  simp only [g1]
  go_wp2
  go_ret
  exact ⟨qab (by simp [g1]), below_drewN hb _⟩
 have g1 : decide (d.wb = d'.wb) = true := decide_eq_true h1
 simp only [g1]
 clear h1
 go_wp2_with fail
 refine (qjb _ _ _ _ _ _ d.pa d'.pa _ (r.drewN _).2.2.1 (r'.drewN _).2.2.1).mono ?_
 rintro e y2 ⟨rfl, m2, rfl⟩
 simp only [World.drewN_drewN]
 by_cases h2 : d.pa = d'.pa
 rotate_left
 ·have g2 : decide (d.pa = d'.pa) = false := decide_eq_false h2
  simp only [g2]
  go_wp2
  go_ret
  exact ⟨qab (by simp [g2]), below_drewN hb _⟩
 have g2 : decide (d.pa = d'.pa) = true := decide_eq_true h2
 simp only [g2]
 clear h2
 go_wp2_with fail
 refine (qsc _ _ _ _ _ _ d.wan d'.wan _ (r.drewN _).2.2.2.1 (r'.drewN _).2.2.2.1).mono ?_
 rintro e y3 ⟨rfl, m3, rfl⟩
 simp only [World.drewN_drewN]
 by_cases h3 : d.wan = d'.wan
 rotate_left
 ·have g3 : decide (d.wan = d'.wan) = false := decide_eq_false h3
  simp only [g3]
  go_wp2
  go_ret
  exact ⟨qab (by simp [g3]), below_drewN hb _⟩
 have g3 : decide (d.wan = d'.wan) = true := decide_eq_true h3
 simp only [g3]
 clear h3
 go_wp2_with fail
 refine (equal_strs _ _ _ _ _ _ d.nam d'.nam _ (r.drewN _).2.2.2.2.1 (r'.drewN _).2.2.2.2.1).mono ?_
 rintro e y4 ⟨rfl, m4, rfl⟩
 simp only [World.drewN_drewN]
 by_cases h4 : d.nam = d'.nam
 rotate_left
 ·have g4 : decide (d.nam = d'.nam) = false := decide_eq_false h4
  simp only [g4]
  go_wp2
  go_ret
  exact ⟨qab (by simp [g4]), below_drewN hb _⟩
 have g4 : decide (d.nam = d'.nam) = true := decide_eq_true h4
 simp only [g4]
 clear h4
 go_wp2_with fail
 refine (equal_ints _ _ _ _ _ _ d.cds d'.cds _ (r.drewN _).2.2.2.2.2 (r'.drewN _).2.2.2.2.2).mono ?_
 rintro e y5 ⟨rfl, m5, rfl⟩
 simp only [World.drewN_drewN]
 go_wp2
 go_ret
 exact ⟨qab (by simp [g0, g1, g2, g3, g4]), below_drewN hb _⟩

theorem load_g {P : Program} {ops : Array Oper} {rest : List Oper} {o : Oper} {a : Act} {w : World} {Q : Exit → Act → World → Prop} (hw : Region.wanted o (yielded ops a.tmps) = true) (ty : TypeId) (x : Operand) (ho : o.op = .load ty x)
  (g : Nat) (hx : a.eval x = .pointer (some ⟨g, 0, none⟩)) (t : TypeId) (cs : Array Value) (fr : Nat × Nat) (d : TypeDesc) (hg : w.heap[g]? = some (.cells cs t fr))
  (hu : P.underlying ty = some d) (hd : (match d with | .struct _ | .array _ _ => true | _ => false) = true) (hi : (P.info? ty).map (·.size) = some cs.size)
  (h : wpList P ops Q rest (a.put o.dst (.agg cs)) w) : wpList P ops Q (o :: rest) a w := by
 unfold wpList
 rw [if_pos hw]
 exact Or.inl (wp_load_row ty x ho g hx t cs fr d hg hu hd hi h)
theorem qai {ops : Array Oper} {rest : List Oper} {o : Oper} {a : Act} {w : World} {Q : Exit → Act → World → Prop} {g : Nat} {p : Pk} (hB : Blk w g p) (hw : Region.wanted o (yielded ops a.tmps) = true) (x : Operand) (ho : o.op = .load 28 x)
  (hx : a.eval x = .pointer (some ⟨g, 0, none⟩))
  (h : wpList Tryz.prog ops Q rest (a.put o.dst (.agg p.cells)) w) : wpList Tryz.prog ops Q (o :: rest) a w :=
 load_g hw 28 x ho g hx 28 p.cells (0, 0) _ hB Tryz.underlying28 rfl (infoP.trans (by rw [Pk.csize])) h
theorem qma (p q : Pk) (d d' : Pd) (w : World) (hp : PRd w p d) (hq : PRd w q d') :
  Calls Tryz.prog 18 #[.agg p.cells, .agg q.cells] w fun e w' => e = .returned (.bool (decide (pv p d = pv q d'))) ∧ Below w.heap.size w w' := by
 have hb : Below w.heap.size w ((w.alloc (.cells p.cells 28)).alloc (.cells q.cells 28)) := ((Below.refl _ _).alloc (Nat.le_refl _) _).alloc (by simp) _
 have A : Blk ((w.alloc (.cells p.cells 28)).alloc (.cells q.cells 28)) w.heap.size p := heap_alloc2_old _ _ _
 have B : Blk ((w.alloc (.cells p.cells 28)).alloc (.cells q.cells 28)) (w.heap.size + 1) q := heap_alloc2_new _ _ _
 have r := hp.below hb
 have r' := hq.below hb
 go_enter Tryz.func18, Tryz.ntmps18
 go_wp2_with (first | refine qai A rfl _ rfl rfl ?_ | refine qai B rfl _ rfl rfl ?_ | fail)
 refine (qkx p q _).mono ?_
 rintro e y0 ⟨rfl, b0⟩
 replace hb := hb.trans (b0.mono hb.size)
 replace B := B.below b0 B.lt
 replace A := A.below b0 A.lt
 replace r := r.below b0
 replace r' := r'.below b0
 clear b0
 generalize H0 : (_ && _) = x0
 cases x0
 ·go_wp2
  go_ret
  refine ⟨qab (decide_eq_false fun e => ?_).symm, hb⟩
  rw [pv_eq] at e
  obtain ⟨e1, e2, e3, e4, e5, e6, e7, e8, e9, e10, e11, e12, e13, e14, e15, e16, e17, e18, e19, e20, e21, e22, e23, e24, e25⟩ := e
  simp [*] at H0
 replace H0 : Hid (_ = true) := H0
 go_wp2_with (first | refine qai A rfl _ rfl rfl ?_ | refine qai B rfl _ rfl rfl ?_ | fail)
 refine (qnx p q _).mono ?_
 rintro e y1 ⟨rfl, b1⟩
 replace hb := hb.trans (b1.mono hb.size)
 replace B := B.below b1 B.lt
 replace A := A.below b1 A.lt
 replace r := r.below b1
 replace r' := r'.below b1
 clear b1
 generalize H1 : (_ && _) = x1
 cases x1
 ·go_wp2
  go_ret
  refine ⟨qab (decide_eq_false fun e => ?_).symm, hb⟩
  rw [pv_eq] at e
  obtain ⟨e1, e2, e3, e4, e5, e6, e7, e8, e9, e10, e11, e12, e13, e14, e15, e16, e17, e18, e19, e20, e21, e22, e23, e24, e25⟩ := e
  simp [*] at H1
 replace H1 : Hid (_ = true) := H1
 go_wp2_with (first | refine qai A rfl _ rfl rfl ?_ | refine qai B rfl _ rfl rfl ?_ | fail)
 refine (qnz p q _).mono ?_
 rintro e y2 ⟨rfl, b2⟩
 replace hb := hb.trans (b2.mono hb.size)
 replace B := B.below b2 B.lt
 replace A := A.below b2 A.lt
 replace r := r.below b2
 replace r' := r'.below b2
 clear b2
 generalize H2 : (_ && _) = x2
 cases x2
 ·go_wp2
  go_ret
  refine ⟨qab (decide_eq_false fun e => ?_).symm, hb⟩
  rw [pv_eq] at e
  obtain ⟨e1, e2, e3, e4, e5, e6, e7, e8, e9, e10, e11, e12, e13, e14, e15, e16, e17, e18, e19, e20, e21, e22, e23, e24, e25⟩ := e
  simp [*] at H2
 replace H2 : Hid (_ = true) := H2
 go_wp2_with (first | refine qai A rfl _ rfl rfl ?_ | refine qai B rfl _ rfl rfl ?_ | fail)
 refine (qny p q d d' _ r r').mono ?_
 rintro e y3 ⟨rfl, b3⟩
 replace hb := hb.trans (b3.mono hb.size)
 replace B := B.below b3 B.lt
 replace A := A.below b3 A.lt
 go_wp2
 go_ret
 refine ⟨qab ?_, hb⟩
 have h0 := H0.out
 have h1 := H1.out
 have h2 := H2.out
 simp only [Bool.and_eq_true, beq_iff_eq, decide_eq_true_eq] at h0 h1 h2
 rw [Bool.eq_iff_iff]
 simp only [Bool.and_eq_true, decide_eq_true_eq]
 rw [pv_eq]
 constructor
 ·intro h
  simp only [h0, h1, h2, h, and_self]
 ·intro h
  simp only [h, and_self]

end Go.Proofs.YtccjiicjlifmiaaGreatDoor
