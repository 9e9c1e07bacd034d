/- Long chains of '&&' in one region, over a frame of which only what is read is known: a part of the chain in one step, whichever way its guard goes. No Go text is run here. -/
import Derived.Test.YtfpclkkkenekpaaGreatPFld
set_option linter.unusedVariables false
set_option linter.unusedSimpArgs false
namespace Go.Proofs.YtfpclkkkenekpaaGreat
open Go.RowKit

/-- The slots below lo, how many there are, and the deferred calls are as they were. -/
structure Keep (lo : Nat) (a a' : Act) : Prop where
  size : a'.tmps.size = a.tmps.size
  defers : a'.defers = a.defers
  slot : ∀ s, s < lo → a'.tmps[s]? = a.tmps[s]?
theorem Keep.refl (lo : Nat) (a : Act) : Keep lo a a := ⟨rfl, rfl, fun _ _ => rfl⟩
theorem Keep.trans {lo : Nat} {a b c : Act} (h : Keep lo a b) (k : Keep lo b c) : Keep lo a c := ⟨k.size.trans h.size, k.defers.trans h.defers, fun s hs => (k.slot s hs).trans (h.slot s hs)⟩
theorem Keep.mono {lo l : Nat} {a b : Act} (h : Keep lo a b) (hl : l ≤ lo) : Keep l a b := ⟨h.size, h.defers, fun s hs => h.slot s (Nat.lt_of_lt_of_le hs hl)⟩
theorem put_ne {a : Act} {s d : Nat} (v : Value) (h : s ≠ d) : (a.put (some d) v).tmps[s]? = a.tmps[s]? := by
  show (a.tmps.setIfInBounds d v)[s]? = _
  rw [Array.getElem?_setIfInBounds, if_neg (fun e => h e.symm)]
theorem put_at {a : Act} {d : Nat} (v : Value) (h : d < a.tmps.size) : (a.put (some d) v).tmps[d]? = some v := by
  show (a.tmps.setIfInBounds d v)[d]? = _
  rw [Array.getElem?_setIfInBounds, if_pos rfl, if_pos h]
theorem put_size {a : Act} (d : Nat) (v : Value) : (a.put (some d) v).tmps.size = a.tmps.size := by
  show (a.tmps.setIfInBounds d v).size = _
  simp
theorem Keep.put {lo d : Nat} {a b : Act} (h : Keep lo a b) (hd : lo ≤ d) (v : Value) : Keep lo a (b.put (some d) v) :=
  ⟨(put_size d v).trans h.size, h.defers, fun s hs => (put_ne v (by omega)).trans (h.slot s hs)⟩
theorem eval_at {a : Act} {s : Nat} {v : Value} (h : a.tmps[s]? = some v) : a.eval (.tmp s) = v := by
  show a.tmps.getD s undef = v
  simp [h]
theorem yields {ops : Array Oper} {a : Act} {k s : Nat} {B : Bool} (hk : (ops[k]?).bind (fun o => o.dst) = some s) (h : a.tmps[s]? = some (.bool B)) : yielded ops a.tmps k = some B := by
  unfold yielded
  rw [hk]
  simp [h]

section
variable {P : Program} {ops : Array Oper} {Q : Exit → Act → World → Prop} {rest : List Oper} {a : Act} {w : World}
theorem op_skip {o : Oper} (hw : Region.wanted o (yielded ops a.tmps) = false) (h : wpList P ops Q rest (a.put o.dst undef) w) : wpList P ops Q (o :: rest) a w := by
  unfold wpList
  rw [if_neg (by rw [hw]; decide)]
  exact h
theorem op_value {o : Oper} {w' : World} {v : Value} (hw : Region.wanted o (yielded ops a.tmps) = true) (hx : (execOp a.eval o).run P w = .ok (.value v) w') (h : wpList P ops Q rest (a.put o.dst v) w') : wpList P ops Q (o :: rest) a w := by
  unfold wpList
  rw [if_pos hw]
  refine Or.inl ?_
  unfold Oper.wp
  rw [hx]
  exact h
theorem op_call {o : Oper} {f : FuncId} {args : Array Value} (hw : Region.wanted o (yielded ops a.tmps) = true) (hx : (execOp a.eval o).run P w = .ok (.enter f args) w)
    (h : Calls P f args w fun e w' => ∃ v, e = .returned v ∧ wpList P ops Q rest (a.put o.dst v) w') : wpList P ops Q (o :: rest) a w := by
  unfold wpList
  rw [if_pos hw]
  refine Or.inl ?_
  unfold Oper.wp
  rw [hx]
  refine Calls.mono h ?_
  rintro e w' ⟨v, rfl, hh⟩
  exact hh
/-- 'x.f' of two structs, each in a block of its own, both loaded: the values in two slots. -/
theorem two_fields {t1 t2 t3 t4 : TypeId} {p1 p2 p3 p4 : String} {e1 e2 e3 e4 : Array Edge} {g : Option (Nat × Bool)}
    {d1 d2 d3 d4 sx sy T τ i j : Nat} {X X' : Addr} {v v' : Value}
    (hw : ∀ a' : Act, Keep d1 a a' → ∀ d op t p e, Region.wanted ⟨some d, op, t, p, e, g⟩ (yielded ops a'.tmps) = true)
    (ho : (sx < d1 ∧ sy < d1) ∧ d1 < d2 ∧ d2 < d3 ∧ d3 < d4) (hn : d4 < a.tmps.size)
    (hx : a.eval (.tmp sx) = .pointer (some X)) (hy : a.tmps[sy]? = some (.pointer (some X')))
    (f1 : ∀ u : World, (Instr.fieldAt T (.pointer (some X)) i).run P u = .ok (.pointer (some (X.add j))) u)
    (f2 : ∀ u : World, (Instr.fieldAt T (.pointer (some X')) i).run P u = .ok (.pointer (some (X'.add j))) u)
    (l1 : (Instr.loadAt τ (.pointer (some (X.add j)))).run P w = .ok v w) (l2 : (Instr.loadAt τ (.pointer (some (X'.add j)))).run P w = .ok v' w)
    (h : ∀ a', Keep d1 a a' → a'.tmps[d2]? = some v → a'.tmps[d4]? = some v' → wpList P ops Q rest a' w) :
    wpList P ops Q (⟨some d1, .fieldAddr T (.tmp sx) i, t1, p1, e1, g⟩ :: ⟨some d2, .load τ (.tmp d1), t2, p2, e2, g⟩ :: ⟨some d3, .fieldAddr T (.tmp sy) i, t3, p3, e3, g⟩ :: ⟨some d4, .load τ (.tmp d3), t4, p4, e4, g⟩ :: rest) a w := by
  obtain ⟨⟨o1, o2⟩, o3, o4, o5⟩ := ho
  have K1 : Keep d1 a (a.put (some d1) (.pointer (some (X.add j)))) := (Keep.refl _ _).put (Nat.le_refl _) _
  refine op_value (w' := w) (v := .pointer (some (X.add j))) (hw a (Keep.refl _ _) _ _ _ _ _) (by simp [execOp, hx, f1]) ?_
  have s1 : (a.put (some d1) (.pointer (some (X.add j)))).tmps[d1]? = some (.pointer (some (X.add j))) := put_at _ (by omega)
  have K2 := K1.put (d := d2) (by omega) v
  refine op_value (w' := w) (v := v) (hw _ K1 _ _ _ _ _) (by simp [execOp, eval_at s1, l1]) ?_
  have s2 : ((a.put (some d1) (.pointer (some (X.add j)))).put (some d2) v).tmps[d2]? = some v := put_at _ (by rw [put_size]; omega)
  have sy2 := (K2.slot sy o2).trans hy
  have K3 := K2.put (d := d3) (by omega) (.pointer (some (X'.add j)))
  refine op_value (w' := w) (v := .pointer (some (X'.add j))) (hw _ K2 _ _ _ _ _) (by simp [execOp, eval_at sy2, f2]) ?_
  have s3 : (((a.put (some d1) (.pointer (some (X.add j)))).put (some d2) v).put (some d3) (.pointer (some (X'.add j)))).tmps[d3]? = some (.pointer (some (X'.add j))) := put_at _ (by rw [put_size, put_size]; omega)
  have K4 := K3.put (d := d4) (by omega) v'
  refine op_value (w' := w) (v := v') (hw _ K3 _ _ _ _ _) (by simp [execOp, eval_at s3, l2]) ?_
  refine h _ K4 ?_ (put_at _ (by rw [put_size, put_size, put_size]; omega))
  rw [put_ne _ (by omega), put_ne _ (by omega)]
  exact s2
theorem wanted_none {o : Oper} (h : o.guard = none) (y : Nat → Option Bool) : Region.wanted o y = true := by
  simp [Region.wanted, h]
theorem wanted_yes {o : Oper} {k : Nat} {y : Nat → Option Bool} (h : o.guard = some (k, true)) (hy : y k = some true) : Region.wanted o y = true := by
  simp [Region.wanted, h, hy]
theorem wanted_no {o : Oper} {k : Nat} {y : Nat → Option Bool} (h : o.guard = some (k, true)) (hy : y k = some false) : Region.wanted o y = false := by
  simp [Region.wanted, h, hy]
/-- A slot's value handed on. -/
theorem step_move {t : TypeId} {p : String} {e : Array Edge} {d s : Nat} {v : Value} (hn : d < a.tmps.size) (hs : a.tmps[s]? = some v)
    (h : ∀ a', Keep d a a' → a'.tmps[d]? = some v → wpList P ops Q rest a' w) : wpList P ops Q (⟨some d, .move (.tmp s), t, p, e, none⟩ :: rest) a w :=
  op_value (w' := w) (v := v) (wanted_none rfl _) (by simp [execOp, eval_at hs]) (h _ ((Keep.refl _ _).put (Nat.le_refl _) _) (put_at _ hn))
theorem step_assign {t : TypeId} {p : String} {e : Array Edge} {d s : Nat} {v : Value} (hn : d < a.tmps.size) (hs : a.tmps[s]? = some v)
    (h : ∀ a', Keep d a a' → a'.tmps[d]? = some v → wpList P ops Q rest a' w) : wpList P ops Q (⟨some d, .assign (.tmp s), t, p, e, none⟩ :: rest) a w :=
  op_value (w' := w) (v := v) (wanted_none rfl _) (by simp [execOp, eval_at hs]) (h _ ((Keep.refl _ _).put (Nat.le_refl _) _) (put_at _ hn))
/-- The first part of a chain: two fields held against each other. -/
theorem first_eq {t1 t2 t3 t4 t5 : TypeId} {p1 p2 p3 p4 p5 : String} {e1 e2 e3 e4 e5 : Array Edge}
    {d1 d2 d3 d4 d5 sx sy T τ i j : Nat} {X X' : Addr} {v v' : Value} {E : Bool}
    (ho : (sx < d1 ∧ sy < d1) ∧ d1 < d2 ∧ d2 < d3 ∧ d3 < d4) (h5 : d4 < d5) (hn : d5 < a.tmps.size)
    (hx : a.tmps[sx]? = some (.pointer (some X))) (hy : a.tmps[sy]? = some (.pointer (some X')))
    (f1 : ∀ u : World, (Instr.fieldAt T (.pointer (some X)) i).run P u = .ok (.pointer (some (X.add j))) u)
    (f2 : ∀ u : World, (Instr.fieldAt T (.pointer (some X')) i).run P u = .ok (.pointer (some (X'.add j))) u)
    (l1 : (Instr.loadAt τ (.pointer (some (X.add j)))).run P w = .ok v w) (l2 : (Instr.loadAt τ (.pointer (some (X'.add j)))).run P w = .ok v' w)
    (q : (do eqGuard .eql τ (.tmp d2) (.tmp d4) v v'; binOp .eql τ v v' : Sem Value).run P w = .ok (.bool E) w)
    (h : ∀ a', Keep d1 a a' → a'.tmps[d5]? = some (.bool E) → wpList P ops Q rest a' w) :
    wpList P ops Q (⟨some d1, .fieldAddr T (.tmp sx) i, t1, p1, e1, none⟩ :: ⟨some d2, .load τ (.tmp d1), t2, p2, e2, none⟩ :: ⟨some d3, .fieldAddr T (.tmp sy) i, t3, p3, e3, none⟩ :: ⟨some d4, .load τ (.tmp d3), t4, p4, e4, none⟩ :: ⟨some d5, .binOp .eql τ (.tmp d2) (.tmp d4) τ, t5, p5, e5, none⟩ :: rest) a w := by
  refine two_fields (fun a' _ d op t p e => wanted_none rfl _) ho (by omega) (eval_at hx) hy f1 f2 l1 l2 ?_
  intro a' k s2 s4
  refine op_value (v := .bool E) (w' := w) (wanted_none rfl _) ?_ (h _ (k.put (by omega) _) (put_at _ (by rw [k.size]; exact hn)))
  simp only [execOp, eval_at s2, eval_at s4, Sem.run_bind, q, Result.andThen_ok, Sem.run_pure]
/-- A further part: '&& x.f == y.f'. -/
theorem and_eq {t1 t2 t3 t4 t5 t6 : TypeId} {p1 p2 p3 p4 p5 p6 : String} {e1 e2 e3 e4 e5 e6 : Array Edge}
    {k s d1 d2 d3 d4 d5 d6 sx sy T τ i j : Nat} {X X' : Addr} {v v' : Value} {B E : Bool}
    (ho : (sx < d1 ∧ sy < d1) ∧ d1 < d2 ∧ d2 < d3 ∧ d3 < d4) (h5 : s < d1 ∧ d4 < d5 ∧ d5 < d6) (hn : d6 < a.tmps.size)
    (hk : (ops[k]?).bind (fun o => o.dst) = some s) (hB : a.tmps[s]? = some (.bool B))
    (hx : a.tmps[sx]? = some (.pointer (some X))) (hy : a.tmps[sy]? = some (.pointer (some X')))
    (f1 : ∀ u : World, (Instr.fieldAt T (.pointer (some X)) i).run P u = .ok (.pointer (some (X.add j))) u)
    (f2 : ∀ u : World, (Instr.fieldAt T (.pointer (some X')) i).run P u = .ok (.pointer (some (X'.add j))) u)
    (l1 : (Instr.loadAt τ (.pointer (some (X.add j)))).run P w = .ok v w) (l2 : (Instr.loadAt τ (.pointer (some (X'.add j)))).run P w = .ok v' w)
    (q : (do eqGuard .eql τ (.tmp d2) (.tmp d4) v v'; binOp .eql τ v v' : Sem Value).run P w = .ok (.bool E) w)
    (h : ∀ a', Keep d1 a a' → a'.tmps[d6]? = some (.bool (B && E)) → wpList P ops Q rest a' w) :
    wpList P ops Q (⟨some d1, .fieldAddr T (.tmp sx) i, t1, p1, e1, some (k, true)⟩ :: ⟨some d2, .load τ (.tmp d1), t2, p2, e2, some (k, true)⟩ :: ⟨some d3, .fieldAddr T (.tmp sy) i, t3, p3, e3, some (k, true)⟩ :: ⟨some d4, .load τ (.tmp d3), t4, p4, e4, some (k, true)⟩ :: ⟨some d5, .binOp .eql τ (.tmp d2) (.tmp d4) τ, t5, p5, e5, some (k, true)⟩ :: ⟨some d6, .pick (.tmp s) (.tmp d5) (.const (.bool false)), t6, p6, e6, none⟩ :: rest) a w := by
  obtain ⟨o1, o2, o3⟩ := h5
  cases B with
  | true =>
    refine two_fields (fun a' K d op t p e => wanted_yes rfl (yields hk ((K.slot s o1).trans hB))) ho (by omega) (eval_at hx) hy f1 f2 l1 l2 ?_
    intro a' K s2 s4
    refine op_value (v := .bool E) (w' := w) (wanted_yes rfl (yields hk ((K.slot s o1).trans hB))) ?_ ?_
    · simp only [execOp, eval_at s2, eval_at s4, Sem.run_bind, q, Result.andThen_ok, Sem.run_pure]
    have K5 := K.put (d := d5) (by omega) (.bool E)
    have s5 : (a'.put (some d5) (.bool E)).tmps[d5]? = some (.bool E) := put_at _ (by rw [K.size]; omega)
    refine op_value (v := .bool E) (w' := w) (wanted_none rfl _) ?_ (h _ (K5.put (by omega) _) (put_at _ (by rw [put_size, K.size]; exact hn)))
    simp [execOp, eval_at s5, eval_at ((K5.slot s o1).trans hB), asBool]
  | false =>
    have K0 := Keep.refl d1 a
    have go : ∀ a' : Act, Keep d1 a a' → ∀ d op t p e, Region.wanted ⟨some d, op, t, p, e, some (k, true)⟩ (yielded ops a'.tmps) = false := fun a' K d op t p e => wanted_no rfl (yields hk ((K.slot s o1).trans hB))
    have K1 := K0.put (d := d1) (Nat.le_refl _) undef
    have K2 := K1.put (d := d2) (by omega) undef
    have K3 := K2.put (d := d3) (by omega) undef
    have K4 := K3.put (d := d4) (by omega) undef
    have K5 := K4.put (d := d5) (by omega) undef
    refine op_skip (go _ K0 _ _ _ _ _) (op_skip (go _ K1 _ _ _ _ _) (op_skip (go _ K2 _ _ _ _ _) (op_skip (go _ K3 _ _ _ _ _) (op_skip (go _ K4 _ _ _ _ _) ?_))))
    refine op_value (v := .bool false) (w' := w) (wanted_none rfl _) ?_ (h _ (K5.put (by omega) _) (put_at _ (by rw [K5.size]; exact hn)))
    have ev : ∀ c : Value, Act.eval ((((((a.put (some d1) undef).put (some d2) undef).put (some d3) undef).put (some d4) undef).put (some d5) undef)) (.const c) = c := fun _ => rfl
    simp [execOp, eval_at ((K5.slot s o1).trans hB), asBool, ev]
/-- A further part: '&& f(x.g, y.g)', f a function that only looks. -/
theorem and_call {t1 t2 t3 t4 t5 t6 : TypeId} {p1 p2 p3 p4 p5 p6 : String} {e1 e2 e3 e4 e5 e6 : Array Edge} {ts : Array TypeId}
    {k s d1 d2 d3 d4 d5 d6 sx sy T τ i j f : Nat} {X X' : Addr} {v v' : Value} {B E : Bool}
    (ho : (sx < d1 ∧ sy < d1) ∧ d1 < d2 ∧ d2 < d3 ∧ d3 < d4) (h5 : s < d1 ∧ d4 < d5 ∧ d5 < d6) (hn : d6 < a.tmps.size)
    (hk : (ops[k]?).bind (fun o => o.dst) = some s) (hB : a.tmps[s]? = some (.bool B))
    (hx : a.tmps[sx]? = some (.pointer (some X))) (hy : a.tmps[sy]? = some (.pointer (some X')))
    (f1 : ∀ u : World, (Instr.fieldAt T (.pointer (some X)) i).run P u = .ok (.pointer (some (X.add j))) u)
    (f2 : ∀ u : World, (Instr.fieldAt T (.pointer (some X')) i).run P u = .ok (.pointer (some (X'.add j))) u)
    (l1 : (Instr.loadAt τ (.pointer (some (X.add j)))).run P w = .ok v w) (l2 : (Instr.loadAt τ (.pointer (some (X'.add j)))).run P w = .ok v' w)
    (hf : ∀ ρ : Operand → Value, ρ (.tmp d2) = v → ρ (.tmp d4) = v' → (∀ g, ρ (.func g) = .func (.func g) #[] #[]) → (execOp ρ ⟨some d5, .call { callee := .value (.func f), args := #[.tmp d2, .tmp d4], argTypes := ts }, t5, p5, e5, some (k, true)⟩).run P w = .ok (.enter f #[v, v']) w)
    (q : Calls P f #[v, v'] w fun e w' => e = .returned (.bool E) ∧ w' = w)
    (h : ∀ a', Keep d1 a a' → a'.tmps[d6]? = some (.bool (B && E)) → wpList P ops Q rest a' w) :
    wpList P ops Q (⟨some d1, .fieldAddr T (.tmp sx) i, t1, p1, e1, some (k, true)⟩ :: ⟨some d2, .load τ (.tmp d1), t2, p2, e2, some (k, true)⟩ :: ⟨some d3, .fieldAddr T (.tmp sy) i, t3, p3, e3, some (k, true)⟩ :: ⟨some d4, .load τ (.tmp d3), t4, p4, e4, some (k, true)⟩ :: ⟨some d5, .call { callee := .value (.func f), args := #[.tmp d2, .tmp d4], argTypes := ts }, t5, p5, e5, some (k, true)⟩ :: ⟨some d6, .pick (.tmp s) (.tmp d5) (.const (.bool false)), t6, p6, e6, none⟩ :: rest) a w := by
  obtain ⟨o1, o2, o3⟩ := h5
  cases B with
  | true =>
    refine two_fields (fun a' K d op t p e => wanted_yes rfl (yields hk ((K.slot s o1).trans hB))) ho (by omega) (eval_at hx) hy f1 f2 l1 l2 ?_
    intro a' K s2 s4
    refine op_call (f := f) (args := #[v, v']) (wanted_yes rfl (yields hk ((K.slot s o1).trans hB))) (hf _ (eval_at s2) (eval_at s4) (fun _ => rfl)) ?_
    refine Calls.mono q ?_
    rintro e w' ⟨rfl, rfl⟩
    refine ⟨_, rfl, ?_⟩
    have K5 := K.put (d := d5) (by omega) (.bool E)
    have s5 : (a'.put (some d5) (.bool E)).tmps[d5]? = some (.bool E) := put_at _ (by rw [K.size]; omega)
    refine op_value (v := .bool E) (w' := w') (wanted_none rfl _) ?_ (h _ (K5.put (by omega) _) (put_at _ (by rw [put_size, K.size]; exact hn)))
    simp [execOp, eval_at s5, eval_at ((K5.slot s o1).trans hB), asBool]
  | false =>
    have K0 := Keep.refl d1 a
    have go : ∀ a' : Act, Keep d1 a a' → ∀ d op t p e, Region.wanted ⟨some d, op, t, p, e, some (k, true)⟩ (yielded ops a'.tmps) = false := fun a' K d op t p e => wanted_no rfl (yields hk ((K.slot s o1).trans hB))
    have K1 := K0.put (d := d1) (Nat.le_refl _) undef
    have K2 := K1.put (d := d2) (by omega) undef
    have K3 := K2.put (d := d3) (by omega) undef
    have K4 := K3.put (d := d4) (by omega) undef
    have K5 := K4.put (d := d5) (by omega) undef
    refine op_skip (go _ K0 _ _ _ _ _) (op_skip (go _ K1 _ _ _ _ _) (op_skip (go _ K2 _ _ _ _ _) (op_skip (go _ K3 _ _ _ _ _) (op_skip (go _ K4 _ _ _ _ _) ?_))))
    refine op_value (v := .bool false) (w' := w) (wanted_none rfl _) ?_ (h _ (K5.put (by omega) _) (put_at _ (by rw [K5.size]; exact hn)))
    have ev : ∀ c : Value, Act.eval ((((((a.put (some d1) undef).put (some d2) undef).put (some d3) undef).put (some d4) undef).put (some d5) undef)) (.const c) = c := fun _ => rfl
    simp [execOp, eval_at ((K5.slot s o1).trans hB), asBool, ev]
end
end Go.Proofs.YtfpclkkkenekpaaGreat
