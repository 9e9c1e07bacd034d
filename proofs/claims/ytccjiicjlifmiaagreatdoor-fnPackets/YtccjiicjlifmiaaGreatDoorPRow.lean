/- Whole packets in a walk: loaded, kept in a variable, handed back; operations of a drawn region. Single operations of a drawn region: what each leaves. -/
import Derived.Test.YtccjiicjlifmiaaGreatDoorSameI
import Derived.Test.YtccjiicjlifmiaaGreatDoorAnyO
import Derived.Test.YtccjiicjlifmiaaGreatDoorLens
set_option linter.unusedVariables false
set_option linter.unusedSimpArgs false
namespace Go.Proofs.YtccjiicjlifmiaaGreatDoor
open Go.RowKit

theorem exec_call1 (P : Program) (u : World) (ρ : Operand → Value) (v : Value) (x : Operand) (f : FuncId) (hf : ∀ (xs : Array Value) (u : World), (callFunc f xs).run P u = .ok (.enter f xs) u) (hx : ρ x = v) (hr : ∀ g, ρ (.func g) = .func (.func g) #[] #[]) (d : Option Tmp) (t : TypeId) (p : String) (e : Array Edge) (g : Option (Nat × Bool)) (ts : Array TypeId) :
    (execOp ρ ⟨d, .call { callee := .value (.func f), args := #[x], argTypes := ts }, t, p, e, g⟩).run P u = .ok (.enter f #[v]) u := by
  simp [execOp, hx, hr, resolve, invoke, go_sem, hf]
theorem exec_call2 (P : Program) (u : World) (ρ : Operand → Value) (v v' : Value) (x y : Operand) (f : FuncId) (hf : ∀ (xs : Array Value) (u : World), (callFunc f xs).run P u = .ok (.enter f xs) u) (hx : ρ x = v) (hy : ρ y = v') (hr : ∀ g, ρ (.func g) = .func (.func g) #[] #[]) (d : Option Tmp) (t : TypeId) (p : String) (e : Array Edge) (g : Option (Nat × Bool)) (ts : Array TypeId) :
    (execOp ρ ⟨d, .call { callee := .value (.func f), args := #[x, y], argTypes := ts }, t, p, e, g⟩).run P u = .ok (.enter f #[v, v']) u := by
  simp [execOp, hx, hy, hr, resolve, invoke, go_sem, hf]
section
variable {P : Program} {o : Oper} {a : Act} {w : World} {K : Act → World → Prop} {Q : Exit → Act → World → Prop}
theorem st_value {v : Value} {w' : World} (hx : (execOp a.eval o).run P w = .ok (.value v) w') (h : K (a.put o.dst v) w') : Oper.wp P o a w K Q := by
  unfold Oper.wp
  rw [hx]
  exact h
theorem st_call {f : FuncId} {args : Array Value} (hx : (execOp a.eval o).run P w = .ok (.enter f args) w) (h : Calls P f args w fun e w' => ∃ v, e = .returned v ∧ K (a.put o.dst v) w') : Oper.wp P o a w K Q := by
  unfold Oper.wp
  rw [hx]
  refine Calls.mono h ?_
  rintro e w' ⟨v, rfl, hh⟩
  exact hh
end

theorem Blk.next {w w' : World} {b : Nat} {p : Pk} (h : Blk w b p) (hb : Below w.heap.size w w') : Blk w' b p := h.below hb h.lt
theorem st_loadP {o : Oper} {a : Act} {w : World} {K : Act → World → Prop} {Q : Exit → Act → World → Prop} {g : Nat} {p : Pk} (hB : Blk w g p) (x : Operand) (ho : o.op = .load 28 x)
    (hx : a.eval x = .pointer (some ⟨g, 0, none⟩)) (h : K (a.put o.dst (.agg p.cells)) w) : Oper.wp Tryz.prog o a w K Q :=
  wp_load_row 28 x ho g hx 28 p.cells (0, 0) _ hB Tryz.underlying28 rfl (infoP.trans (by rw [Pk.csize])) h
/-- The zero packet. -/
def Pk.zero : Pk := ⟨0, false, 0, false, 0, ByteArray.empty, ⟨none, 0, 0⟩, ByteArray.empty, 0, false, 0, false, ByteArray.empty, ⟨none, 0, 0⟩, 0, false, false, ByteArray.empty, false, ⟨none, 0, 0⟩, 0, false, ⟨none, 0, 0⟩, ⟨none, 0, 0⟩, ⟨none, 0, 0⟩⟩
theorem alloc_run (w : World) : (Instr.alloc 28 true (.tuple #[])).run Tryz.prog w = .ok (.pointer (some ⟨w.heap.size, 0, none⟩)) (w.alloc (.cells Pk.zero.cells 28)) := by kernel_rfl
theorem setRow_new (w : World) (cs ds : Array Value) (t : TypeId) : (w.alloc (.cells cs t)).setRow w.heap.size ds = w.alloc (.cells ds t) := by
  unfold World.setRow World.alloc
  congr 1
  apply Array.ext_getElem?
  intro i
  simp only [Array.getElem?_modify, Array.getElem?_push]
  by_cases h : w.heap.size = i
  · subst h
    simp
  · have h' : ¬ i = w.heap.size := fun e => h e.symm
    simp [h, h']
theorem Pk.ones (p : Pk) : p.cells.all (fun v => v.oneCell') = true := by
  simp [Pk.cells, Value.oneCell']
/-- 'x := <a packet>' that is kept in a variable of its own. -/
theorem var_pk {ops : Array Oper} {rest : List Oper} {a : Act} {w : World} {Q : Exit → Act → World → Prop} {p : Pk} {d : Nat} {y : Operand} {t1 t2 : TypeId} {p1 p2 : String} {e1 e2 : Array Edge}
    (hd : decide (d < a.tmps.size) = true) (hy : (a.put (some d) (.pointer (some ⟨w.heap.size, 0, none⟩))).eval y = .agg p.cells)
    (h : wpList Tryz.prog ops Q rest (a.put (some d) (.pointer (some ⟨w.heap.size, 0, none⟩))) (w.alloc (.cells p.cells 28))) :
    wpList Tryz.prog ops Q (⟨some d, .alloc 28, t1, p1, e1, none⟩ :: ⟨none, .store 28 (.tmp d) y, t2, p2, e2, none⟩ :: rest) a w := by
  refine op_value (w' := w.alloc (.cells Pk.zero.cells 28)) (v := .pointer (some ⟨w.heap.size, 0, none⟩)) (wanted_none rfl _) ?_ ?_
  · simp only [execOp, Sem.run_bind, alloc_run, Result.andThen_ok, Sem.run_pure]
  refine wpList_store_row rfl 28 (.tmp d) y rfl w.heap.size p.cells (eval_at (put_at _ (of_decide_eq_true hd))) hy 28 Pk.zero.cells (heap_alloc_new _ _) (infoP.trans (by rw [Pk.csize])) rfl p.ones ?_
  rw [setRow_new]
  exact h
/-- A packet handed back out of its block. -/
theorem ret_pk {fn : Func} {R : Ending → World → Prop} {a : Act} {w : World} {g : Nat} {p : Pk} {t : Tmp} (hr : fn.results = #[.cell t 28]) (hp : a.tmps.getD t undef = .pointer (some ⟨g, 0, none⟩)) (hB : Blk w g p) (hd : a.defers = [])
    (h : R (.returned (.agg p.cells)) w) : bodyPost Tryz.prog fn R .ret a w :=
  bodyPost_ret (results_cell_row hr a.tmps w g 28 p.cells (0, 0) _ hp hB Tryz.underlying28 rfl (infoP.trans (by rw [Pk.csize]))) hd h
theorem bel {w w1 w2 : World} (h1 : Below w.heap.size w w1) (h2 : Below w1.heap.size w1 w2) : Below w.heap.size w w2 := h1.trans (h2.mono h1.size)
theorem bel_new (w : World) (o : Obj) : Below w.heap.size w (w.alloc o) := (Below.refl _ _).alloc (Nat.le_refl _) o
end Go.Proofs.YtccjiicjlifmiaaGreatDoor
set_option linter.unusedVariables false
set_option linter.unusedSimpArgs false
namespace Go.Proofs.YtccjiicjlifmiaaGreatDoor
open Go.RowKit

theorem ld_cell {P : Program} {w : World} {τ : TypeId} {d : TypeDesc} (hu : P.underlying τ = some d) (hd : (match d with | .struct _ | .array _ _ => true | _ => false) = false) {X : Addr} {v : Value} (h : w.cell? X = some v) :
    (Instr.loadAt τ (.pointer (some X))).run P w = .ok v w := by
  have hagg : (isAgg τ).run P w = .ok false w := by
    unfold isAgg
    rw [Sem.run_bind, run_underlying hu w]
    cases d <;> simp_all
  simp [Instr.loadAt, Instr.sureAddr, loadVar, Sem.run_bind, hagg, h]
section
variable {P : Program} {o : Oper} {a : Act} {w : World} {K : Act → World → Prop} {Q : Exit → Act → World → Prop}
theorem z_move {v : Value} (x : Operand) (ho : o.op = .move x) (hx : a.eval x = v) (h : K (a.put o.dst v) w) : Oper.wp P o a w K Q :=
  st_value (w' := w) (v := v) (by simp only [execOp, ho, hx, Sem.run_pure]) h
theorem z_fld {X Y : Addr} (T : TypeId) (x : Operand) (i : Nat) (ho : o.op = .fieldAddr T x i) (hx : a.eval x = .pointer (some X)) (hf : ∀ u : World, (Instr.fieldAt T (.pointer (some X)) i).run P u = .ok (.pointer (some Y)) u) (h : K (a.put o.dst (.pointer (some Y))) w) : Oper.wp P o a w K Q :=
  st_value (w' := w) (by simp only [execOp, ho, hx, Sem.run_bind, hf, Result.andThen_ok, Sem.run_pure]) h
theorem z_load {X : Addr} {v : Value} {d : TypeDesc} (τ : TypeId) (x : Operand) (ho : o.op = .load τ x) (hx : a.eval x = .pointer (some X)) (hu : P.underlying τ = some d) (hd : (match d with | .struct _ | .array _ _ => true | _ => false) = false) (hc : w.cell? X = some v) (h : K (a.put o.dst v) w) : Oper.wp P o a w K Q := by
  have hl := ld_cell (P := P) (w := w) hu hd hc
  exact st_value (w' := w) (v := v) (by simp only [execOp, ho, hx, Sem.run_bind, hl, Result.andThen_ok, Sem.run_pure]) h
theorem z_bin {v v' r : Value} (b : BinOp) (T T' : TypeId) (x y : Operand) (ho : o.op = .binOp b T x y T') (hx : a.eval x = v) (hy : a.eval y = v') (hr : (do eqGuard b T x y v v'; binOp b T v v' : Sem Value).run P w = .ok r w) (h : K (a.put o.dst r) w) : Oper.wp P o a w K Q :=
  st_value (w' := w) (v := r) (by simp only [execOp, ho, hx, hy]; rw [Sem.run_bind, hr]; rfl) h
theorem z_conv {v r : Value} (s t : TypeId) (x : Operand) (ho : o.op = .convert s t x) (hx : a.eval x = v) (hr : (convert s t v).run P w = .ok r w) (h : K (a.put o.dst r) w) : Oper.wp P o a w K Q :=
  st_value (w' := w) (v := r) (by simp only [execOp, ho, hx, Sem.run_bind, hr, Result.andThen_ok, Sem.run_pure]) h
theorem z_not {b : Bool} (T : TypeId) (x : Operand) (ho : o.op = .unOp .not T x) (hx : a.eval x = .bool b) (h : K (a.put o.dst (.bool (!b))) w) : Oper.wp P o a w K Q :=
  st_value (w' := w) (v := .bool (!b)) (by simp [execOp, ho, hx, Op.unary]) h
theorem z_mk {parts : Array (Nat × Operand)} {vs : Array (Nat × Value)} {r : Value} {w' : World} (t : TypeId) (n : Nat) (ho : o.op = .buildSlice t n parts) (hx : (parts.map fun (i, x) => (i, a.eval x)) = vs) (hr : (Instr.buildSlice t n vs).run P w = .ok r w') (h : K (a.put o.dst r) w') : Oper.wp P o a w K Q :=
  st_value (w' := w') (v := r) (by simp only [execOp, ho, hx, Sem.run_bind, hr, Result.andThen_ok, Sem.run_pure]) h
end

theorem mkb2 (x y : Int) (u : World) : (Instr.buildSlice 22 2 #[(0, .int .u8 x), (1, .int .u8 y)]).run Tryz.prog u = .ok (.slice (some ⟨u.heap.size, 0, none⟩) 2 2) (u.alloc (.cells #[.int .u8 x, .int .u8 y] 5)) := by
  kernel_rfl
theorem mkb1 (x : Int) (u : World) : (Instr.buildSlice 22 1 #[(0, .int .u8 x)]).run Tryz.prog u = .ok (.slice (some ⟨u.heap.size, 0, none⟩) 1 1) (u.alloc (.cells #[.int .u8 x] 5)) := by
  kernel_rfl
theorem cvb (x : Int) (u : World) : (convert 3 5 (.int .i64 x)).run Tryz.prog u = .ok (.int .u8 (x % 256)) u := by
  simp [convert, go_sem, Conv.intToInt, IntKind.wrap_u8]
theorem addi (x y : Int) (u : World) (a b : Operand) (h : IntKind.i64.wrap (x + y) = x + y) : (do eqGuard .add 3 a b (.int .i64 x) (.int .i64 y); binOp .add 3 (.int .i64 x) (.int .i64 y) : Sem Value).run Tryz.prog u = .ok (.int .i64 (x + y)) u := by
  simp [eqGuard, binOp, go_sem, h]
theorem muli (x y : Int) (u : World) (a b : Operand) (h : IntKind.i64.wrap (x * y) = x * y) : (do eqGuard .mul 3 a b (.int .i64 x) (.int .i64 y); binOp .mul 3 (.int .i64 x) (.int .i64 y) : Sem Value).run Tryz.prog u = .ok (.int .i64 (x * y)) u := by
  simp [eqGuard, binOp, go_sem, h]
end Go.Proofs.YtccjiicjlifmiaaGreatDoor
