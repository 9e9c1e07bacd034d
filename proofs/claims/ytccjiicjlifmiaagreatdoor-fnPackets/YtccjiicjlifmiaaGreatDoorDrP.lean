/- Drawn regions with guards: single operations more; what a right packet's bytes begin with. The draws of chapter 5. -/
import Derived.Test.YtccjiicjlifmiaaGreatDoorSameS
import Derived.Test.YtccjiicjlifmiaaGreatDoorPRow
import Derived.Test.YtccjiicjlifmiaaGreatDoorSOk
import Derived.Test.YtccjiicjlifmiaaGreatDoorRpm
import Derived.Test.YtccjiicjlifmiaaGreatDoorL5a
set_option linter.unusedVariables false
set_option linter.unusedSimpArgs false
namespace Go.Proofs.YtccjiicjlifmiaaGreatDoor
open Go.RowKit

section
variable {P : Program} {o : Oper} {a : Act} {w : World} {K : Act → World → Prop} {Q : Exit → Act → World → Prop}
theorem z_pickT {v : Value} (c x y : Operand) (ho : o.op = .pick c x y) (hc : a.eval c = .bool true) (hx : a.eval x = v) (h : K (a.put o.dst v) w) : Oper.wp P o a w K Q :=
  st_value (w' := w) (v := v) (by simp [execOp, ho, hc, hx, asBool]) h
theorem z_pickF {v : Value} (c x y : Operand) (ho : o.op = .pick c x y) (hc : a.eval c = .bool false) (hy : a.eval y = v) (h : K (a.put o.dst v) w) : Oper.wp P o a w K Q :=
  st_value (w' := w) (v := v) (by simp [execOp, ho, hc, hy, asBool]) h
theorem z_asgn {v : Value} (x : Operand) (ho : o.op = .assign x) (hx : a.eval x = v) (h : K (a.put o.dst v) w) : Oper.wp P o a w K Q :=
  st_value (w' := w) (v := v) (by unfold execOp; rw [ho]; simp only [hx]; rfl) h
end
theorem z_ix {P : Program} {o : Oper} {a : Act} {w : World} {K : Act → World → Prop} {Q : Exit → Act → World → Prop} {X Y : Addr} {n c : Nat} {k : Int} (T : TypeId) (x y : Operand) (ho : o.op = .indexAddr T x y) (hx : a.eval x = .slice (some X) n c) (hy : a.eval y = .int .i64 k)
    (hr : ∀ u : World, (Instr.indexAt T (.slice (some X) n c) (.int .i64 k)).run P u = .ok (.pointer (some Y)) u) (h : K (a.put o.dst (.pointer (some Y))) w) : Oper.wp P o a w K Q :=
  st_value (w' := w) (by simp only [execOp, ho, hx, hy, Sem.run_bind, hr, Result.andThen_ok, Sem.run_pure]) h
theorem wanted_ne {o : Oper} {k : Nat} {b c : Bool} {y : Nat → Option Bool} (h : o.guard = some (k, b)) (hy : y k = some c) (hne : c ≠ b) : Region.wanted o y = false := by
  simp [Region.wanted, h, hy, hne]
theorem wanted_un {o : Oper} {k : Nat} {b : Bool} {y : Nat → Option Bool} (h : o.guard = some (k, b)) (hy : y k = none) : Region.wanted o y = false := by
  simp [Region.wanted, h, hy]
theorem yields_un {ops : Array Oper} {a : Act} {k s : Nat} (hk : (ops[k]?).bind (fun o => o.dst) = some s) (h : a.tmps[s]? = some undef) : yielded ops a.tmps k = none := by
  unfold yielded
  rw [hk]
  simp [h, undef]
theorem exec_len (u : World) (ρ : Operand → Value) (x : Operand) {ao : Option Addr} {n c : Nat} {o : Oper} (ho : o.op = .call { callee := .builtin .len, args := #[x], argTypes := #[22] }) (hx : ρ x = .slice ao n c) :
    (execOp ρ o).run Tryz.prog u = .ok (.value (.int .i64 n)) u := by
  simp [execOp, ho, hx, resolve, invoke, go_sem, Tryz.underlying22]
theorem z_len {o : Oper} {a : Act} {w : World} {K : Act → World → Prop} {Q : Exit → Act → World → Prop} {ao : Option Addr} {n c : Nat} (x : Operand) (ho : o.op = .call { callee := .builtin .len, args := #[x], argTypes := #[22] }) (hx : a.eval x = .slice ao n c) (h : K (a.put o.dst (.int .i64 n)) w) : Oper.wp Tryz.prog o a w K Q :=
  st_value (w' := w) (v := .int .i64 n) (exec_len w a.eval x ho hx) h
theorem eqi_t (u : World) (x y : Operand) (a b : Int) (h : a = b) : (do eqGuard .eql 3 x y (.int .i64 a) (.int .i64 b); binOp .eql 3 (.int .i64 a) (.int .i64 b) : Sem Value).run Tryz.prog u = .ok (.bool true) u :=
  (eqi u x y a b).trans (by rw [h]; simp)
theorem eqi_f (u : World) (x y : Operand) (a b : Int) (h : a ≠ b) : (do eqGuard .eql 3 x y (.int .i64 a) (.int .i64 b); binOp .eql 3 (.int .i64 a) (.int .i64 b) : Sem Value).run Tryz.prog u = .ok (.bool false) u :=
  (eqi u x y a b).trans (by simp [h])
theorem neb_same (u : World) (x y : Operand) (a : Bool) : (do eqGuard .neq 4 x y (.bool a) (.bool a); binOp .neq 4 (.bool a) (.bool a) : Sem Value).run Tryz.prog u = .ok (.bool false) u := by
  simp [go_sem, Tryz.underlying4]
theorem nes_t (u : World) (x y : Operand) (a b : ByteArray) (h : a ≠ b) : (do eqGuard .neq 9 x y (.string a) (.string b); binOp .neq 9 (.string a) (.string b) : Sem Value).run Tryz.prog u = .ok (.bool true) u := by
  have : (a.toList == b.toList) = false := (strq_eq a b).trans (decide_eq_false h)
  simp [go_sem, Tryz.underlying9, this]
theorem gei_t (u : World) (x y : Operand) (a b : Int) (h : b ≤ a) : (do eqGuard .geq 3 x y (.int .i64 a) (.int .i64 b); binOp .geq 3 (.int .i64 a) (.int .i64 b) : Sem Value).run Tryz.prog u = .ok (.bool true) u := by
  simp [go_sem, Tryz.underlying3, h]
theorem quo_byte (u : World) (x y : Operand) (n : Nat) (h : n < 256) : (do eqGuard .quo 3 x y (.int .i64 n) (.int .i64 16); binOp .quo 3 (.int .i64 n) (.int .i64 16) : Sem Value).run Tryz.prog u = .ok (.int .i64 ((n / 16 : Nat) : Int)) u := by
  have e : ((n : Int)).tdiv 16 = ((n / 16 : Nat) : Int) := rfl
  have e2 : IntKind.i64.wrap ((n : Int) / 16) = (n : Int) / 16 := by rw [wraps_i64] <;> omega
  simp [go_sem, Tryz.underlying3, e2]
theorem cvi (n : Nat) (u : World) (h : n < 256) : (convert 5 3 (.int .u8 n)).run Tryz.prog u = .ok (.int .i64 n) u := by
  have e2 : IntKind.i64.wrap (n : Int) = (n : Int) := by rw [wraps_i64] <;> omega
  simp [convert, go_sem, Conv.intToInt, e2]

theorem low_in {v : Pv} (h : v.ok = true) : 0 ≤ v.low ∧ v.low ≤ 15 := by
  unfold Pv.low
  split
  · rename_i h3
    have hb := ok_bod h
    unfold Pv.body at hb
    rw [if_neg (by omega), if_neg (by omega), if_pos h3] at hb
    simp only [Bool.and_eq_true, inB_iff] at hb
    have h1 := bit_in v.dup 8 (by omega)
    have h2 := bit_in v.ret 1 (by omega)
    unfold pubL
    omega
  · split <;> omega
theorem fst_ty {v : Pv} (h : v.ok = true) : ((v.fst / 16 : Nat) : Int) = v.ty := by
  have h1 := low_in h
  have h2 := ok_ty h
  have h3 := byte_nat (16 * v.ty + v.low)
  rw [Int.emod_eq_of_lt (by omega) (by omega)] at h3
  unfold Pv.fst
  omega
theorem getE_bytes {v : Pv} (h : v.ok = true) : getE v.bytes 1 = ((v.rest.length : Int), (v.hd : Int), 0) := by
  have h340 := rest_340 h
  have hB := bytes_ok h
  have hlen := bytes_len h
  have hput := ansG_put [byte (16 * v.ty + v.low)] v.rest.length (by omega)
  have hlf : lenB v.rest.length = lenF 3 v.rest.length := lenB_nat (by omega)
  have hhd : v.hd = 1 + (lenF 3 v.rest.length).length := by unfold Pv.hd; rw [hlf]
  have e : v.bytes = ([byte (16 * v.ty + v.low)] ++ lenF 3 v.rest.length) ++ v.rest := by rw [hB, hlf]
  have hl1 : 1 ≤ v.bytes.length := by rw [hlen]; unfold Pv.hd; omega
  unfold getE
  rw [if_pos ⟨by omega, by omega⟩, e]
  have := ansG_ext ([byte (16 * v.ty + v.low)] ++ lenF 3 v.rest.length) v.rest 1 4 (by omega) (by
    show ansG ([byte (16 * v.ty + v.low)] ++ lenF 3 v.rest.length) [byte (16 * v.ty + v.low)].length 4 ≠ _
    rw [hput]
    simp)
  rw [show ((1 : Int)).toNat = 1 from rfl, this, hhd]
  exact hput
theorem hd_two {v : Pv} (h : v.ok = true) : 2 ≤ v.hd := by
  have h340 := rest_340 h
  have hlf : lenB v.rest.length = lenF 3 v.rest.length := lenB_nat (by omega)
  have : 1 ≤ (lenF 3 v.rest.length).length := by
    rcases lenF_cases v.rest.length (by omega) with ⟨_, e⟩ | ⟨_, _, e⟩ | ⟨_, _, e⟩ | ⟨_, e⟩ <;> rw [e] <;> simp
  unfold Pv.hd
  rw [hlf]
  omega
theorem bt_bytes {v : Pv} (h : v.ok = true) : bt v.bytes 0 = v.fst := by
  rw [bytes_ok h]; rfl
end Go.Proofs.YtccjiicjlifmiaaGreatDoor
set_option linter.unusedVariables false
set_option linter.unusedSimpArgs false
namespace Go.Proofs.YtccjiicjlifmiaaGreatDoor
open Go.RowKit

set_option maxRecDepth 100000 in
set_option maxHeartbeats 4000000 in
/-- spec.DrawPutPacket. -/
theorem draw_sDrawPutPacket (ao : Option Addr) (n cap : Nat) (l : List UInt8) (w : World) (hr : RdIn w ao n cap l) (hn : n ≤ 1048576) :
    Calls Tryz.prog 14 #[.slice ao n cap] w fun e w' => ∃ p d, e = .returned (.agg (Pk.cells p)) ∧ POwn w' w.heap.size p d ∧ Pgd 256 p d ∧ Below w.heap.size w w' := by
  have A : Blk (w.alloc (.cells Pk.zero.cells 28)) w.heap.size Pk.zero := heap_alloc_new _ _
  have hr0 := hr.below (bel_new w (.cells Pk.zero.cells 28))
  have hb := bel_new w (.cells Pk.zero.cells 28)
  go_enter Tryz.func14, Tryz.ntmps14
  go_wp2_with (first | refine al_pk ?_ | fail)
  refine (new_sl1New ao n cap l _ hr0 hn).mono ?_
  rintro e w0 ⟨rfl, hc0, hb0⟩
  replace A := A.next hb0
  replace hb := bel hb hb0
  have hz0 := hc0.lt
  simp only [World.size_alloc] at hc0 hz0 ⊢
  go_wp2_with fail
  refine (any_sl5Any _ ao n cap l w0 hc0 hn).mono ?_
  rintro e w1 ⟨p, d, rfl, hp, hd, hc1, hg1⟩
  replace A : Blk w1 w.heap.size Pk.zero := (hg1.block _ A.lt (fun e => by simp at e)).trans A
  have hb1 : Below w.heap.size w w1 := hb.grown hg1 hb.size (fun k e => by cases e; omega)
  have hne : ¬ p.has w.heap.size := fun hk => by have := (hp.lt hk).1; omega
  go_wp2_with (first | (refine store_pk2 (q := p) (old := Pk.zero) A rfl rfl ?_; intro w9 B9 g9) | fail)
  exact ret_pk rfl rfl B9 rfl ⟨p, d, rfl, (hp.grown g9 (fun k e => by cases e; exact hne)).mono (by omega), hd, hb1.grown g9 hb1.size (fun k e => by cases e; exact Nat.le_refl _)⟩

set_option maxHeartbeats 2000000 in
/-- spec.DrawWithId. -/
theorem draw_sDrawWithId (ao : Option Addr) (n cap : Nat) (l : List UInt8) (w : World) (hr : RdIn w ao n cap l) (hn : n ≤ 1048576) :
    Calls Tryz.prog 20 #[.slice ao n cap] w fun e w' => ∃ k id : Int, -1 ≤ k ∧ k ≤ 15 ∧ e = .returned (.tuple #[.int .i64 k, .int .i64 id]) ∧ Below w.heap.size w w' := by
  go_enter Tryz.func20, Tryz.ntmps20
  go_wp2_with fail
  refine (new_sl1New ao n cap l _ hr hn).mono ?_
  rintro e w0 ⟨rfl, hc0, hb0⟩
  have hz0 : w.heap.size < w0.heap.size := hc0.lt
  go_wp2_with fail
  refine (below_sl1Below w.heap.size ao n cap l 17 _ hc0 hn (by omega) (by omega)).mono ?_
  rintro e w1 ⟨x, hx0, hx1, rfl, hc1, hg1⟩
  have lts := hc1.lt
  go_wp2_with fail
  refine (int_sl1Int w.heap.size ao n cap l _ 6 6 [1, 7, 65535, 0, 65536, (Int.negSucc 0)] _ (hc1.alloc _) hn (by omega) (by omega) rfl (fun i hi => ints_at _ [1, 7, 65535, 0, 65536, (Int.negSucc 0)] _ (by simp) i hi) (by omega)).mono ?_
  rintro e w2 ⟨id, _, rfl, hc2, hg2⟩
  have hB := below_cur hb0 (grownBy_trans hg1 (grownBy_trans (World.grownBy_alloc _ _ _) hg2)) (Nat.le_of_lt hz0)
  go_wp2
  go_ret2
  exact ⟨_, id, by omega, by omega, rfl, hB⟩
end Go.Proofs.YtccjiicjlifmiaaGreatDoor
