/- Texts that the law FnExactBufOk uses. -/
import Derived.Test.YtccjiicjlifmiaaGreatDoorR45
set_option linter.unusedVariables false
set_option linter.unusedSimpArgs false
set_option maxRecDepth 100000
set_option maxHeartbeats 20000000
namespace Go.Proofs.YtccjiicjlifmiaaGreatDoor
open Go.RowKit

section
variable {P : Program} {o : Oper} {a : Act} {w : World} {K : Act → World → Prop} {Q : Exit → Act → World → Prop}
theorem z_pickT {v : Value} (c x y : Operand) (ho : o.op = .pick c x y) (hc : a.eval c = .bool true) (hx : a.eval x = v) (h : K (a.put o.dst v) w) : Oper.wp P o a w K Q :=
 qac (w' := w) (v := v) (by simp [execOp, ho, hc, hx, asBool]) h
theorem z_pickF {v : Value} (c x y : Operand) (ho : o.op = .pick c x y) (hc : a.eval c = .bool false) (hy : a.eval y = v) (h : K (a.put o.dst v) w) : Oper.wp P o a w K Q :=
 qac (w' := w) (v := v) (by simp [execOp, ho, hc, hy, asBool]) h
end
theorem qec {o : Oper} {k : Nat} {b c : Bool} {y : Nat → Option Bool} (h : o.guard = some (k, b)) (hy : y k = some c) (hne : c ≠ b) : Region.wanted o y = false := by
 simp [Region.wanted, h, hy, hne]
end Go.Proofs.YtccjiicjlifmiaaGreatDoor
