/- Drawn regions with guards: single operations more; what a right packet's bytes begin with. -/
import Derived.Test.YtccjiicjlifmiaaGreatDoorSPut
import Derived.Test.YtccjiicjlifmiaaGreatDoorRpm
set_option linter.unusedVariables false
set_option linter.unusedSimpArgs false
namespace Go.Proofs.YtccjiicjlifmiaaGreatDoor
open Go.RowKit

section
variable {P : Program} {o : Oper} {a : Act} {w : World} {K : Act → World → Prop} {Q : Exit → Act → World → Prop}
theorem z_pickT {v : Value} (c x y : Operand) (ho : o.op = .pick c x y) (hc : a.eval c = .bool true) (hx : a.eval x = v) (h : K (a.put o.dst v) w) : Oper.wp P o a w K Q :=
  st_value (w' := w) (v := v) (by simp [execOp, ho, hc, hx, asBool]) h
theorem z_pickF {v : Value} (c x y : Operand) (ho : o.op = .pick c x y) (hc : a.eval c = .bool false) (hy : a.eval y = v) (h : K (a.put o.dst v) w) : Oper.wp P o a w K Q :=
  st_value (w' := w) (v := v) (by simp [execOp, ho, hc, hy, asBool]) h
theorem z_asgn {v : Value} (x : Operand) (ho : o.op = .assign x) (hx : a.eval x = v) (h : K (a.put o.dst v) w) : Oper.wp P o a w K Q :=
  st_value (w' := w) (v := v) (by unfold execOp; rw [ho]; simp only [hx]; rfl) h
end
theorem wanted_ne {o : Oper} {k : Nat} {b c : Bool} {y : Nat → Option Bool} (h : o.guard = some (k, b)) (hy : y k = some c) (hne : c ≠ b) : Region.wanted o y = false := by
  simp [Region.wanted, h, hy, hne]
theorem wanted_un {o : Oper} {k : Nat} {b : Bool} {y : Nat → Option Bool} (h : o.guard = some (k, b)) (hy : y k = none) : Region.wanted o y = false := by
  simp [Region.wanted, h, hy]
theorem yields_un {ops : Array Oper} {a : Act} {k s : Nat} (hk : (ops[k]?).bind (fun o => o.dst) = some s) (h : a.tmps[s]? = some undef) : yielded ops a.tmps k = none := by
  unfold yielded
  rw [hk]
  simp [h, undef]
theorem exec_len (u : World) (ρ : Operand → Value) (x : Operand) {ao : Option Addr} {n c : Nat} {o : Oper} (ho : o.op = .call { callee := .builtin .len, args := #[x], argTypes := #[22] }) (hx : ρ x = .slice ao n c) :
    (execOp ρ o).run Tryz.prog u = .ok (.value (.int .i64 n)) u := by
  simp [execOp, ho, hx, resolve, invoke, go_sem, Tryz.underlying22]
theorem z_len {o : Oper} {a : Act} {w : World} {K : Act → World → Prop} {Q : Exit → Act → World → Prop} {ao : Option Addr} {n c : Nat} (x : Operand) (ho : o.op = .call { callee := .builtin .len, args := #[x], argTypes := #[22] }) (hx : a.eval x = .slice ao n c) (h : K (a.put o.dst (.int .i64 n)) w) : Oper.wp Tryz.prog o a w K Q :=
  st_value (w' := w) (v := .int .i64 n) (exec_len w a.eval x ho hx) h
theorem eqi_t (u : World) (x y : Operand) (a b : Int) (h : a = b) : (do eqGuard .eql 3 x y (.int .i64 a) (.int .i64 b); binOp .eql 3 (.int .i64 a) (.int .i64 b) : Sem Value).run Tryz.prog u = .ok (.bool true) u :=
  (eqi u x y a b).trans (by rw [h]; simp)
theorem eqi_f (u : World) (x y : Operand) (a b : Int) (h : a ≠ b) : (do eqGuard .eql 3 x y (.int .i64 a) (.int .i64 b); binOp .eql 3 (.int .i64 a) (.int .i64 b) : Sem Value).run Tryz.prog u = .ok (.bool false) u :=
  (eqi u x y a b).trans (by simp [h])
theorem neb_same (u : World) (x y : Operand) (a : Bool) : (do eqGuard .neq 4 x y (.bool a) (.bool a); binOp .neq 4 (.bool a) (.bool a) : Sem Value).run Tryz.prog u = .ok (.bool false) u := by
  simp [go_sem, Tryz.underlying4]
theorem nes_t (u : World) (x y : Operand) (a b : ByteArray) (h : a ≠ b) : (do eqGuard .neq 9 x y (.string a) (.string b); binOp .neq 9 (.string a) (.string b) : Sem Value).run Tryz.prog u = .ok (.bool true) u := by
  have : (a.toList == b.toList) = false := (strq_eq a b).trans (decide_eq_false h)
  simp [go_sem, Tryz.underlying9, this]
theorem gei_t (u : World) (x y : Operand) (a b : Int) (h : b ≤ a) : (do eqGuard .geq 3 x y (.int .i64 a) (.int .i64 b); binOp .geq 3 (.int .i64 a) (.int .i64 b) : Sem Value).run Tryz.prog u = .ok (.bool true) u := by
  simp [go_sem, Tryz.underlying3, h]
theorem quo_byte (u : World) (x y : Operand) (n : Nat) (h : n < 256) : (do eqGuard .quo 3 x y (.int .i64 n) (.int .i64 16); binOp .quo 3 (.int .i64 n) (.int .i64 16) : Sem Value).run Tryz.prog u = .ok (.int .i64 ((n / 16 : Nat) : Int)) u := by
  have e : ((n : Int)).tdiv 16 = ((n / 16 : Nat) : Int) := rfl
  have e2 : IntKind.i64.wrap ((n : Int) / 16) = (n : Int) / 16 := by rw [wraps_i64] <;> omega
  simp [go_sem, Tryz.underlying3, e2]
theorem cvi (n : Nat) (u : World) (h : n < 256) : (convert 5 3 (.int .u8 n)).run Tryz.prog u = .ok (.int .i64 n) u := by
  have e2 : IntKind.i64.wrap (n : Int) = (n : Int) := by rw [wraps_i64] <;> omega
  simp [convert, go_sem, Conv.intToInt, e2]

theorem low_in {v : Pv} (h : v.ok = true) : 0 ≤ v.low ∧ v.low ≤ 15 := by
  unfold Pv.low
  split
  · rename_i h3
    have hb := ok_bod h
    unfold Pv.body at hb
    rw [if_neg (by omega), if_neg (by omega), if_pos h3] at hb
    simp only [Bool.and_eq_true, inB_iff] at hb
    have h1 := bit_in v.dup 8 (by omega)
    have h2 := bit_in v.ret 1 (by omega)
    unfold pubL
    omega
  · split <;> omega
theorem fst_ty {v : Pv} (h : v.ok = true) : ((v.fst / 16 : Nat) : Int) = v.ty := by
  have h1 := low_in h
  have h2 := ok_ty h
  have h3 := byte_nat (16 * v.ty + v.low)
  rw [Int.emod_eq_of_lt (by omega) (by omega)] at h3
  unfold Pv.fst
  omega
theorem getE_bytes {v : Pv} (h : v.ok = true) : getE v.bytes 1 = ((v.rest.length : Int), (v.hd : Int), 0) := by
  have h340 := rest_340 h
  have hB := bytes_ok h
  have hlen := bytes_len h
  have hput := ansG_put [byte (16 * v.ty + v.low)] v.rest.length (by omega)
  have hlf : lenB v.rest.length = lenF 3 v.rest.length := lenB_nat (by omega)
  have hhd : v.hd = 1 + (lenF 3 v.rest.length).length := by unfold Pv.hd; rw [hlf]
  have e : v.bytes = ([byte (16 * v.ty + v.low)] ++ lenF 3 v.rest.length) ++ v.rest := by rw [hB, hlf]
  have hl1 : 1 ≤ v.bytes.length := by rw [hlen]; unfold Pv.hd; omega
  unfold getE
  rw [if_pos ⟨by omega, by omega⟩, e]
  have := ansG_ext ([byte (16 * v.ty + v.low)] ++ lenF 3 v.rest.length) v.rest 1 4 (by omega) (by
    show ansG ([byte (16 * v.ty + v.low)] ++ lenF 3 v.rest.length) [byte (16 * v.ty + v.low)].length 4 ≠ _
    rw [hput]
    simp)
  rw [show ((1 : Int)).toNat = 1 from rfl, this, hhd]
  exact hput
theorem hd_two {v : Pv} (h : v.ok = true) : 2 ≤ v.hd := by
  have h340 := rest_340 h
  have hlf : lenB v.rest.length = lenF 3 v.rest.length := lenB_nat (by omega)
  have : 1 ≤ (lenF 3 v.rest.length).length := by
    rcases lenF_cases v.rest.length (by omega) with ⟨_, e⟩ | ⟨_, _, e⟩ | ⟨_, _, e⟩ | ⟨_, e⟩ <;> rw [e] <;> simp
  unfold Pv.hd
  rw [hlf]
  omega
theorem bt_bytes {v : Pv} (h : v.ok = true) : bt v.bytes 0 = v.fst := by
  rw [bytes_ok h]; rfl
end Go.Proofs.YtccjiicjlifmiaaGreatDoor
