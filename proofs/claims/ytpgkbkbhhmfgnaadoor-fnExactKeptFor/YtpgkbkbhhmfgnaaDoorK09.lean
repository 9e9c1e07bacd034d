/- Lemmas. -/
import Derived.Test.YtpgkbkbhhmfgnaaDoorK08
set_option linter.unusedVariables false
set_option linter.unusedSimpArgs false
set_option maxRecDepth 100000
set_option maxHeartbeats 20000000
namespace Go.Proofs.YtpgkbkbhhmfgnaaDoor
open Go.RowKit
section
variable {P : Program} {o : Oper} {a : Act} {w : World} {K : Act → World → Prop} {Q : Exit → Act → World → Prop}
theorem zg_ld_cell {P:Program} {w:World} {τ:TypeId} {d:TypeDesc} (hu:P.underlying τ=some d) (hd:(match d with | .struct _ | .array _ _=>true | _=>false)=false) {X:Addr} {v:Value} (h:w.cell? X=some v) :
  (Instr.loadAt τ (.pointer (some X))).run P w=.ok v w:=by
 have hagg:(isAgg τ).run P w=.ok false w:=by
  unfold isAgg;rw[Sem.run_bind,run_underlying hu w];cases d<;>simp_all
 simp[Instr.loadAt,Instr.sureAddr,loadVar,Sem.run_bind,hagg,h]
theorem qat {v:Value} {w':World} (hx:(execOp a.eval o).run P w=.ok (.value v) w') (h:K (a.put o.dst v) w'):Oper.wp P o a w K Q:=by
 unfold Oper.wp;rw[hx];exact h
theorem qak {f:FuncId} {args:Array Value} (hx:(execOp a.eval o).run P w=.ok (.enter f args) w) (h:Calls P f args w fun e w'=>∃v,e=.returned v∧K (a.put o.dst v) w'):Oper.wp P o a w K Q:=by
 unfold Oper.wp;rw[hx];refine Calls.mono h ?_;rintro e w' ⟨v,rfl,hh⟩;exact hh
theorem qav (P:Program) (u:World) (ρ:Operand→Value) (v:Value) (x:Operand) (f:FuncId) (hf:∀(xs:Array Value) (u:World),(callFunc f xs).run P u=.ok (.enter f xs) u) (hx:ρ x=v) (hr:∀g,ρ (.func g)=.func (.func g) #[] #[]) (d:Option Tmp) (t:TypeId) (p:String) (e:Array Edge) (g:Option (Nat×Bool)) (ts:Array TypeId) :
  (execOp ρ ⟨d,.call { callee:=.value (.func f),args:=#[x],argTypes:=ts },t,p,e,g⟩).run P u=.ok (.enter f #[v]) u:=by
 simp[execOp,hx,hr,resolve,invoke,go_sem,hf]
theorem qft (P:Program) (u:World) (ρ:Operand→Value) (v v':Value) (x y:Operand) (f:FuncId) (hf:∀(xs:Array Value) (u:World),(callFunc f xs).run P u=.ok (.enter f xs) u) (hx:ρ x=v) (hy:ρ y=v') (hr:∀g,ρ (.func g)=.func (.func g) #[] #[]) (d:Option Tmp) (t:TypeId) (p:String) (e:Array Edge) (g:Option (Nat×Bool)) (ts:Array TypeId) :
  (execOp ρ ⟨d,.call { callee:=.value (.func f),args:=#[x,y],argTypes:=ts },t,p,e,g⟩).run P u=.ok (.enter f #[v,v']) u:=by
 simp[execOp,hx,hy,hr,resolve,invoke,go_sem,hf]
theorem qai {v:Value} (x:Operand) (ho:o.op=.move x) (hx:a.eval x=v) (h:K (a.put o.dst v) w):Oper.wp P o a w K Q :=
 qat (w':=w) (v:=v) (by simp only[execOp,ho,hx,Sem.run_pure]) h
theorem qaw {X Y:Addr} (T:TypeId) (x:Operand) (i:Nat) (ho:o.op=.fieldAddr T x i) (hx:a.eval x=.pointer (some X)) (hf:∀u:World,(Instr.fieldAt T (.pointer (some X)) i).run P u=.ok (.pointer (some Y)) u) (h:K (a.put o.dst (.pointer (some Y))) w):Oper.wp P o a w K Q :=
 qat (w':=w) (by simp only[execOp,ho,hx,Sem.run_bind,hf,Result.andThen_ok,Sem.run_pure]) h
theorem zg_load {X:Addr} {v:Value} {d:TypeDesc} (τ:TypeId) (x:Operand) (ho:o.op=.load τ x) (hx:a.eval x=.pointer (some X)) (hu:P.underlying τ=some d) (hd:(match d with | .struct _ | .array _ _=>true | _=>false)=false) (hc:w.cell? X=some v) (h:K (a.put o.dst v) w):Oper.wp P o a w K Q:=by
 have hl:=zg_ld_cell (P:=P) (w:=w) hu hd hc;exact qat (w':=w) (v:=v) (by simp only[execOp,ho,hx,Sem.run_bind,hl,Result.andThen_ok,Sem.run_pure]) h
theorem qcf {v v' r:Value} (b:BinOp) (T T':TypeId) (x y:Operand) (ho:o.op=.binOp b T x y T') (hx:a.eval x=v) (hy:a.eval y=v') (hr:(do eqGuard b T x y v v';binOp b T v v':Sem Value).run P w=.ok r w) (h:K (a.put o.dst r) w):Oper.wp P o a w K Q :=
 qat (w':=w) (v:=r) (by simp only[execOp,ho,hx,hy];rw[Sem.run_bind,hr];rfl) h
theorem qbo {b:Bool} (T:TypeId) (x:Operand) (ho:o.op=.unOp .not T x) (hx:a.eval x=.bool b) (h:K (a.put o.dst (.bool (!b))) w):Oper.wp P o a w K Q :=
 qat (w':=w) (v:=.bool (!b)) (by simp[execOp,ho,hx,Op.unary]) h
theorem zg_mk {parts:Array (Nat×Operand)} {vs:Array (Nat×Value)} {r:Value} {w':World} (t:TypeId) (n:Nat) (ho:o.op=.buildSlice t n parts) (hx:(parts.map fun (i,x)=>(i,a.eval x))=vs) (hr:(Instr.buildSlice t n vs).run P w=.ok r w') (h:K (a.put o.dst r) w'):Oper.wp P o a w K Q :=
 qat (w':=w') (v:=r) (by simp only[execOp,ho,hx,Sem.run_bind,hr,Result.andThen_ok,Sem.run_pure]) h
theorem qaq (P:Program) (u:World) (ρ:Operand→Value) (v v' v'':Value) (x y z:Operand) (f:FuncId) (hf:∀(xs:Array Value) (u:World),(callFunc f xs).run P u=.ok (.enter f xs) u) (hx:ρ x=v) (hy:ρ y=v') (hz:ρ z=v'') (hr:∀g,ρ (.func g)=.func (.func g) #[] #[]) (d:Option Tmp) (t:TypeId) (p:String) (e:Array Edge) (g:Option (Nat×Bool)) (ts:Array TypeId) :
  (execOp ρ ⟨d,.call { callee:=.value (.func f),args:=#[x,y,z],argTypes:=ts },t,p,e,g⟩).run P u=.ok (.enter f #[v,v',v'']) u:=by
 simp[execOp,hx,hy,hz,hr,resolve,invoke,go_sem,hf]
theorem qac {o:Oper} {k:Nat} {b:Bool} {y:Nat→Option Bool} (h:o.guard=some (k,b)) (hy:y k=some b):Region.wanted o y=true:=by
 simp[Region.wanted,h,hy]
theorem qbq {v:Value} (c x y:Operand) (ho:o.op=.pick c x y) (hc:a.eval c=.bool true) (hx:a.eval x=v) (h:K (a.put o.dst v) w):Oper.wp P o a w K Q :=
 qat (w':=w) (v:=v) (by simp[execOp,ho,hc,hx,asBool]) h
theorem qbb {v:Value} (c x y:Operand) (ho:o.op=.pick c x y) (hc:a.eval c=.bool false) (hy:a.eval y=v) (h:K (a.put o.dst v) w):Oper.wp P o a w K Q :=
 qat (w':=w) (v:=v) (by simp[execOp,ho,hc,hy,asBool]) h
theorem zg_ix {P:Program} {o:Oper} {a:Act} {w:World} {K:Act→World→Prop} {Q:Exit→Act→World→Prop} {X Y:Addr} {n c:Nat} {k:Int} (T:TypeId) (x y:Operand) (ho:o.op=.indexAddr T x y) (hx:a.eval x=.slice (some X) n c) (hy:a.eval y=.int .i64 k)
  (hr:∀u:World,(Instr.indexAt T (.slice (some X) n c) (.int .i64 k)).run P u=.ok (.pointer (some Y)) u) (h:K (a.put o.dst (.pointer (some Y))) w):Oper.wp P o a w K Q :=
 qat (w':=w) (by simp only[execOp,ho,hx,hy,Sem.run_bind,hr,Result.andThen_ok,Sem.run_pure]) h
theorem qae {o:Oper} {k:Nat} {b c:Bool} {y:Nat→Option Bool} (h:o.guard=some (k,b)) (hy:y k=some c) (hne:c≠b):Region.wanted o y=false:=by
 simp[Region.wanted,h,hy,hne]
theorem qag {o:Oper} {k:Nat} {b:Bool} {y:Nat→Option Bool} (h:o.guard=some (k,b)) (hy:y k=none):Region.wanted o y=false:=by
 simp[Region.wanted,h,hy]
theorem qah {ops:Array Oper} {a:Act} {k s:Nat} (hk:(ops[k]?).bind (fun o=>o.dst)=some s) (h:a.tmps[s]? = some undef):yielded ops a.tmps k=none:=by
 unfold yielded;rw[hk];simp[h,undef]
theorem qcl (P:Program) (u:World) (ρ:Operand→Value) (v v':Value) (z x y:Operand) (f:FuncId) (hf:∀(xs:Array Value) (u:World),(callFunc f xs).run P u=.ok (.enter f xs) u) (hz:ρ z=.func (.func f) #[] #[]) (hx:ρ x=v) (hy:ρ y=v') (d:Option Tmp) (t:TypeId) (p:String) (e:Array Edge) (g:Option (Nat×Bool)) (ts:Array TypeId) :
  (execOp ρ ⟨d,.call { callee:=.value z,args:=#[x,y],argTypes:=ts },t,p,e,g⟩).run P u=.ok (.enter f #[v,v']) u:=by
 simp[execOp,hx,hy,hz,resolve,invoke,go_sem,hf]
theorem zg_ld {o:Oper} {a:Act} {w:World} {K:Act→World→Prop} {Q:Exit→Act→World→Prop} {X:Addr} {v:Value} (τ:TypeId) (x:Operand) (ho:o.op=.load τ x) (hx:a.eval x=.pointer (some X)) (ht:(Tryd.prog.underlying τ).map (fun d=>match d with | .struct _ | .array _ _=>true | _=>false)=some false) (hc:w.cell? X=some v) (h:K (a.put o.dst v) w):Oper.wp Tryd.prog o a w K Q:=by
 cases e:Tryd.prog.underlying τ with
 |none=>rw[e] at ht;cases ht
 |some d=>
  rw[e] at ht;exact zg_load τ x ho hx e (by cases d<;>first | rfl | cases ht) hc h
end
theorem zg_xlen {P:Program} {T e:TypeId} (hT:P.underlying T=some (.slice e)) (u:World) (ρ:Operand→Value) (x:Operand) {ao:Option Addr} {n c:Nat} {o:Oper} (ho:o.op=.call { callee:=.builtin .len,args:=#[x],argTypes:=#[T] }) (hx:ρ x=.slice ao n c) :
  (execOp ρ o).run P u=.ok (.value (.int .i64 n)) u:=by
 have hu:=run_underlying hT;simp[execOp,ho,hx,resolve,invoke,go_sem,hT,hu]
theorem qgs {P:Program} {o:Oper} {a:Act} {w:World} {K:Act→World→Prop} {Q:Exit→Act→World→Prop} {ao:Option Addr} {n c:Nat} {T e:TypeId} (x:Operand) (ho:o.op=.call { callee:=.builtin .len,args:=#[x],argTypes:=#[T] }) (hT:P.underlying T=some (.slice e)) (hx:a.eval x=.slice ao n c) (h:K (a.put o.dst (.int .i64 n)) w):Oper.wp P o a w K Q :=
 qat (w':=w) (v:=.int .i64 n) (zg_xlen hT w a.eval x ho hx) h
theorem zg_build {P:Program} {o:Oper} {a:Act} {w:World} {K:Act→World→Prop} {Q:Exit→Act→World→Prop} {parts:Array (Nat×Operand)} {vs:Array (Nat×Value)} {r:Value} (t:TypeId) (ho:o.op=.build t parts) (hx:(parts.map fun (i,x)=>(i,a.eval x))=vs) (hr:(Instr.build t vs).run P w=.ok r w) (h:K (a.put o.dst r) w):Oper.wp P o a w K Q :=
 qat (w':=w) (v:=r) (by simp only[execOp,ho,hx,Sem.run_bind,hr,Result.andThen_ok,Sem.run_pure]) h
theorem zg_idx {P:Program} {T e:TypeId} {sz:Nat} (hT:P.underlying T=some (.slice e)) (hE:P.elem T=e) (hs:∀u:World,(sizeOf e).run P u=.ok sz u) (b off n c k:Nat) (h:k<n) (u:World):(Instr.indexAt T (.slice (some ⟨b,off,none⟩) n c) (.int .i64 (k:Int))).run P u=.ok (.pointer (some ⟨b,off+k*sz,none⟩)) u:=by
 have h1:(k:Int)<n:=by omega
 have h2:(sizeOf (P.elem T)).run P u=.ok sz u:=by rw[hE];exact hs u
 have hu:=run_underlying hT;have e:(if k*sz=0 then (⟨b,off,none⟩ : Addr) else ⟨b,off+k*sz,none⟩) = ⟨b,off+k*sz,none⟩:=by split<;>simp_all
 have h3:=hs u;simp[Instr.indexAt,Instr.index,go_sem,hT,hu,h1,h2,h3,h,Addr.add]
