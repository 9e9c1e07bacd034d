/- Lemmas. -/
import Derived.LaidEql
import Derived.Stop.Asserts
import Derived.RowKitTokens
import Derived.Test.YtpjkbgdkligpdaaGreatDoorX26
set_option linter.unusedVariables false
set_option linter.unusedSimpArgs false
set_option maxRecDepth 100000
set_option maxHeartbeats 20000000
namespace Go.Proofs.YtpjkbgdkligpdaaGreatDoor
open Go.RowKit

theorem str_eq (x y:List UInt8):((⟨x.toArray⟩ : ByteArray).toList==(⟨y.toArray⟩ : ByteArray).toList)=decide (x=y):=by
 rw[ByteArray.toList_eq,ByteArray.toList_eq,Bool.eq_iff_iff];simp
theorem beq_bytes (x y:List UInt8):(x==y)=decide (x=y):=by
 rw[Bool.eq_iff_iff];simp
theorem eq_xEqual (a b:Option Addr) (n c m k:Nat) (x y:List UInt8) (w:World) (hx:RdIn w a n c x) (hy:RdIn w b m k y) :
  Calls Tryz.prog 160 #[.slice a n c,.slice b m k] w fun e w'=>e=.returned (.bool (decide (x=y)))∧w'=w:=by
 have h1:=qgn hx;have h2:=qgn hy;have h3:=str_eq x y;go_enter Tryz.func160,Tryz.ntmps160;go_wp2;go_ret;exact⟨qad (beq_bytes x y),rfl⟩
theorem rd_head {w:World} {ao:Option Addr} {n cap:Nat} {l:List UInt8} (h:RdIn w ao n cap l) (m:Nat) (hm:m≤n):RdIn w ao m cap (l.take m):=by
 obtain⟨⟨hl,hc⟩,h2,h3,h4⟩:=h;refine⟨⟨by rw[List.length_take];omega,fun i hi=>?_⟩,by omega,h3,h4⟩;obtain⟨b,off,e,hcell⟩:=hc i (by omega);refine⟨b,off,e,?_⟩;rw[hcell];have e2:bt (l.take m) i=bt l i:=by
  unfold bt;rw[List.getD_eq_getElem?_getD,List.getD_eq_getElem?_getD,List.getElem?_take,if_pos hi]
 rw[e2]
theorem qpt (a b:Option Addr) (n c m k:Nat) (x y:List UInt8) (w:World) (hx:RdIn w a n c x) (hy:RdIn w b m k y) :
  Calls Tryz.prog 129 #[.slice a n c,.slice b m k] w fun e w'=>e=.returned (.bool (qfl x y))∧w'=w:=by
 have l1:=hx.1.1;have l2:=hy.1.1;have hcap:=hx.2.1
 by_cases h:m≤n
 ·have h':(m:Int)≤n:=by omega
  have hB:Hid (qfl x y=decide (x.take m=y)):=by unfold Hid qfl;rw[l2]
  have hsl:∀w',(Instr.slice 22 (.slice a n c) none (some (.int .i64 (m:Int))) none).run Tryz.prog w'=.ok (.slice a m c) w':=fun w'=>qqd a n c m (by omega) w'
  have hx':=rd_head hx m h;clear l1 l2 hcap hx;go_enter Tryz.func129,Tryz.ntmps129;go_wp2_with fail
  refine (eq_xEqual a b m c m k _ y _ hx' hy).mono ?_;rintro e w1 ⟨rfl,rfl⟩;go_wp2;go_ret;rw[hB.out];exact⟨rfl,rfl⟩
 ·have h':¬(m:Int)≤n:=by omega
  have hB:Hid (qfl x y=false):=by
   unfold Hid qfl;rw[decide_eq_false_iff_not];intro e;have:=congrArg List.length e;rw[List.length_take] at this;omega
  clear l1 l2 hcap hx hy;go_enter Tryz.func129,Tryz.ntmps129;go_wp2;go_ret;rw[hB.out];exact⟨rfl,rfl⟩
open Go.RowKit Go.Extern.Stop Go.Stop Go.Extern

theorem as_nil (t:Value) (w:World):Calls Tryz.prog 82 #[.nilIface,t] w fun e w'=>e=.returned (.bool false)∧w'=w:=by
 go_enter Tryz.func82,Tryz.ntmps82;go_wp2;go_ret;exact⟨rfl,rfl⟩
theorem as_valueOf (t:Addr) (w:World):(ReflectliteValue.unpack (.iface 100 (.pointer (some t)))).run Tryz.prog w
  = .ok (.agg #[.pointer (some ⟨5,100,none⟩),.pointer (some ⟨w.heap.size,0,none⟩),.int .u64 150]) (w.alloc (.cells #[.pointer (some t)] 100)):=by kernel_rfl
theorem as_type (a : Addr) (w : World) : (ReflectliteValue.methodAny (ReflectliteValue.valueError "reflectlite.Value.Type" 0) (fun t _ _ _ => ReflectliteType.toType t) #[.agg #[.pointer (some ⟨5, 100, none⟩), .pointer (some a), .int .u64 150]]).run Tryz.prog w
  = .ok (.iface 196 (.agg #[.pointer (some ⟨5,100,none⟩)])) w:=by kernel_rfl
theorem as_mKind (h : Value) (w : World) : (Go.method 375 196 (.agg #[h]) "Kind").run Tryz.prog w = .ok (190, h) w := by kernel_rfl
theorem as_kindP (w:World):((ReflectliteType.abiMethod fun t=>(fun a:Nat=>Value.int IntKind.u8 (a:Int)) <$> Rtype.kind t) #[.pointer (some ⟨5,100,none⟩)]).run Tryz.prog w=.ok (.int .u8 22) w:=by kernel_rfl
theorem as_kindS (w:World):((ReflectliteType.abiMethod fun t=>(fun a:Nat=>Value.int IntKind.u8 (a:Int)) <$> Rtype.kind t) #[.pointer (some ⟨5,98,none⟩)]).run Tryz.prog w=.ok (.int .u8 25) w:=by kernel_rfl
theorem as_rlm (z:Sem Value) (f:TypeId→Addr→Nat→Nat→Sem Value) (v:Value) :
  ReflectliteValue.method z f #[v]=(do match ←ReflectliteValue.parts v with | none=>z | some (t,a,fl)=>f t a fl (fl%32)):=rfl
theorem qrm (a:Addr) (w:World):(ReflectliteValue.parts (.agg #[.pointer (some ⟨5,100,none⟩),.pointer (some a),.int .u64 150])).run Tryz.prog w=.ok (some (100,a,150)) w:=by kernel_rfl
theorem as_isNil (a p:Addr) (W:World) (ha:W.cell? a=some (.pointer (some p))) :
  (ReflectliteValue.method (ReflectliteValue.valueError "reflectlite.Value.IsNil" 0) ReflectliteValue.isNil #[.agg #[.pointer (some ⟨5, 100, none⟩), .pointer (some a), .int .u64 150]]).run Tryz.prog W = .ok (.bool false) W := by
 rw[as_rlm];simp only[Sem.run_bind,qrm,Result.andThen];simp[ReflectliteValue.isNil,loadVar,isAgg,underlying,Tryz.underlying100,ha,Result.andThen]
theorem as_mElem (h : Value) (w : World) : (Go.method 375 196 (.agg #[h]) "Elem").run Tryz.prog w = .ok (272, .agg #[h]) w := by kernel_rfl
theorem as_mImpl (h : Value) (w : World) : (Go.method 375 196 (.agg #[h]) "Implements").run Tryz.prog w = .ok (273, .agg #[h]) w := by kernel_rfl
theorem as_mAss (h : Value) (w : World) : (Go.method 375 196 (.agg #[h]) "AssignableTo").run Tryz.prog w = .ok (270, .agg #[h]) w := by kernel_rfl
theorem as_elem (w:World):(ReflectliteType.method ReflectliteType.elem #[.agg #[.pointer (some ⟨5,100,none⟩)]]).run Tryz.prog w=.ok (.iface 196 (.agg #[.pointer (some ⟨5,98,none⟩)])) w:=by kernel_rfl
theorem as_impl (w : World) : (ReflectliteType.relation "Implements" ReflectliteType.implements_ #[.agg #[.pointer (some ⟨5, 98, none⟩)], .iface 196 (.agg #[.pointer (some ⟨5, 94, none⟩)])]).run Tryz.prog w = .ok (.bool true) w := by kernel_rfl
theorem as_typeOf (v:Value) (w:World):(ReflectliteType.typeOf #[.iface 98 v]).run Tryz.prog w=.ok (.iface 196 (.agg #[.pointer (some ⟨5,98,none⟩)])) w:=by kernel_rfl
theorem as_assign (w : World) : (ReflectliteType.relation "AssignableTo" ReflectliteType.assignableTo #[.agg #[.pointer (some ⟨5, 98, none⟩)], .iface 196 (.agg #[.pointer (some ⟨5, 98, none⟩)])]).run Tryz.prog w = .ok (.bool true) w := by kernel_rfl
theorem as_valueS (c:Int) (w:World):(ReflectliteValue.unpack (.iface 98 (.agg #[.int .i64 c]))).run Tryz.prog w
  = .ok (.agg #[.pointer (some ⟨5,98,none⟩),.pointer (some ⟨w.heap.size,0,none⟩),.int .u64 153]) (w.alloc (.cells #[.int .i64 c] 98)):=by kernel_rfl
theorem as_elemOf (w:World):(Rtype.elem? 100).run Tryz.prog w=.ok (some 98) w:=by kernel_rfl
theorem as_mk (p:Addr) (w:World):(ReflectliteValue.mk 98 p ReflectliteValue.flagAddr).run Tryz.prog w=.ok (.agg #[.pointer (some ⟨5,98,none⟩),.pointer (some p),.int .u64 409]) w:=by kernel_rfl
theorem as_elemV (a p:Addr) (W:World) (ha:W.cell? a=some (.pointer (some p))) :
  (ReflectliteValue.method (ReflectliteValue.valueError "reflectlite.Value.Elem" 0) ReflectliteValue.elem #[.agg #[.pointer (some ⟨5, 100, none⟩), .pointer (some a), .int .u64 150]]).run Tryz.prog W
   = .ok (.agg #[.pointer (some ⟨5,98,none⟩),.pointer (some p),.int .u64 409]) W:=by
 rw[as_rlm];simp only[Sem.run_bind,qrm,Result.andThen];simp[ReflectliteValue.elem,loadVar,isAgg,underlying,Tryz.underlying100,ha,Result.andThen,as_elemOf,as_mk]
theorem as_partsA (a:Addr) (w:World):(ReflectliteValue.parts (.agg #[.pointer (some ⟨5,98,none⟩),.pointer (some a),.int .u64 409])).run Tryz.prog w=.ok (some (98,a,409)) w:=by kernel_rfl
theorem as_partsS (a:Addr) (w:World):(ReflectliteValue.parts (.agg #[.pointer (some ⟨5,98,none⟩),.pointer (some a),.int .u64 153])).run Tryz.prog w=.ok (some (98,a,153)) w:=by kernel_rfl
theorem as_direct (w:World):(Rtype.directlyAssignable 98 98).run Tryz.prog w=.ok true w:=by kernel_rfl
theorem as_rls (v x:Value):ReflectliteValue.set #[v,x]=(do
  let (some (dst,a,fl),some (src,b,_)):=(←ReflectliteValue.parts v,←ReflectliteValue.parts x)
   | unsupported (.noEntry "extern/(internal/reflectlite.Value).Set.zeroValue")
  if fl / ReflectliteValue.flagAddr % 2 == 0 then unsupported (.noEntry "extern/(internal/reflectlite.Value).Set.unaddressable")
  let val ←loadVar src b
  if ←Rtype.directlyAssignable dst src then storeVar dst a val
  else if ←Rtype.implements dst src then
   if (←Rtype.kind src)==20 then
    match val with
    | .nilIface => unsupported (.noEntry "extern/reflectlite: a nil value of one interface type handed on as a value of another")
    |_=>storeVar dst a val
   else storeVar dst a (.iface src val)
  else panicString ("reflectlite.Set: value of type " ++ (← Rtype.spelt src) ++ " is not assignable to type " ++ (← Rtype.spelt dst))
  pure (.tuple #[])):=rfl
theorem infoU:(Tryz.prog.info? 98).map (fun x=>x.size)=some 1:=by kernel_rfl
theorem as_set (t b:Nat) (c old:Int) (W:World) (hb:W.heap[b]? = some (.cells #[.int .i64 c] 98)) (ht:W.heap[t]? = some (.cells #[.int .i64 old] 98)) :
  (ReflectliteValue.set #[.agg #[.pointer (some ⟨5,98,none⟩),.pointer (some ⟨t,0,none⟩),.int .u64 409],.agg #[.pointer (some ⟨5,98,none⟩),.pointer (some ⟨b,0,none⟩),.int .u64 153]]).run Tryz.prog W
   = .ok (.tuple #[]) (W.setRow t #[.int .i64 c]):=by
 have hl:=run_loadVar_row (P:=Tryz.prog) W b 98 98 #[.int .i64 c] (0,0) _ hb Tryz.underlying98 rfl infoU;have hs:=run_storeVar_row (P:=Tryz.prog) W t 98 98 #[.int .i64 old] #[.int .i64 c] ht infoU rfl (by simp[Value.oneCell']);rw[as_rls];simp only[Sem.run_bind,as_partsA,as_partsS,Result.andThen];simp[ReflectliteValue.flagAddr,hl,Result.andThen,as_direct,hs]
def ErrTy (w:World):Prop:=w.cell? ⟨1,0,none⟩ = some (.iface 196 (.agg #[.pointer (some ⟨5,94,none⟩)]))
theorem ErrTy.below {w w':World} {B:Nat} (h:ErrTy w) (hb:Below B w w') (hB:1<B):ErrTy w':=(hb.cell (p:=⟨1,0,none⟩) hB).trans h
theorem as_hit (c old:Int) (t:Nat) (w:World) (hg:ErrTy w) (ht:w.heap[t]? = some (.cells #[.int .i64 old] 98)) :
  Calls Tryz.prog 82 #[.iface 98 (.agg #[.int .i64 c]),.iface 100 (.pointer (some ⟨t,0,none⟩))] w fun ev w'=>ev=.returned (.bool true)∧w'=((((w.alloc (.cells #[.pointer (some ⟨t,0,none⟩)] 100)).alloc (.cells #[.pointer (some ⟨5,100,none⟩),.pointer (some ⟨w.heap.size,0,none⟩),.int .u64 150] 166)).alloc (.cells #[.pointer (some ⟨5,100,none⟩),.pointer (some ⟨w.heap.size,0,none⟩),.int .u64 150] 166)).alloc (.cells #[.int .i64 c] 98)).setRow t #[.int .i64 c]:=by
 unfold ErrTy at hg;have hlt:1<w.heap.size:=by
  rcases Nat.lt_or_ge 1 w.heap.size with h | h
  ·exact h
  ·simp[World.cell?,Array.getElem?_eq_none h] at hg
 have htl:t<w.heap.size:=(Array.getElem?_eq_some_iff.1 ht).1;have ValueOf:=@run_callFunc_extern Tryz.prog 130 _ (fun args=>ReflectliteValue.unpack (args.getD 0 (.tuple #[]))) Tryz.func130 (by kernel_rfl) (by kernel_rfl) (by kernel_rfl) (by kernel_rfl);have hType := @run_callFunc_extern Tryz.prog 131 _ (ReflectliteValue.methodAny (ReflectliteValue.valueError "reflectlite.Value.Type" 0) (fun t _ _ _ => ReflectliteType.toType t)) Tryz.func131 (by kernel_rfl) (by kernel_rfl) (by kernel_rfl) (by kernel_rfl);have hNil := @run_callFunc_extern Tryz.prog 132 _ (ReflectliteValue.method (ReflectliteValue.valueError "reflectlite.Value.IsNil" 0) ReflectliteValue.isNil) Tryz.func132 (by kernel_rfl) (by kernel_rfl) (by kernel_rfl) (by kernel_rfl);have hKind:=@run_callFunc_extern Tryz.prog 190 _ (ReflectliteType.abiMethod fun t=>do pure (.int .u8 (←Rtype.kind t))) Tryz.func190 (by kernel_rfl) (by kernel_rfl) (by kernel_rfl) (by kernel_rfl);have hElem:=@run_callFunc_extern Tryz.prog 272 _ (ReflectliteType.method ReflectliteType.elem) Tryz.func272 (by kernel_rfl) (by kernel_rfl) (by kernel_rfl) (by kernel_rfl);have hImpl := @run_callFunc_extern Tryz.prog 273 _ (ReflectliteType.relation "Implements" ReflectliteType.implements_) Tryz.func273 (by kernel_rfl) (by kernel_rfl) (by kernel_rfl) (by kernel_rfl);have hTypeOf:=@run_callFunc_extern Tryz.prog 161 _ ReflectliteType.typeOf Tryz.func161 (by kernel_rfl) (by kernel_rfl) (by kernel_rfl) (by kernel_rfl)
 have hAss := @run_callFunc_extern Tryz.prog 270 _ (ReflectliteType.relation "AssignableTo" ReflectliteType.assignableTo) Tryz.func270 (by kernel_rfl) (by kernel_rfl) (by kernel_rfl) (by kernel_rfl);have hVElem := @run_callFunc_extern Tryz.prog 162 _ (ReflectliteValue.method (ReflectliteValue.valueError "reflectlite.Value.Elem" 0) ReflectliteValue.elem) Tryz.func162 (by kernel_rfl) (by kernel_rfl) (by kernel_rfl) (by kernel_rfl);have hSet:=@run_callFunc_extern Tryz.prog 163 _ ReflectliteValue.set Tryz.func163 (by kernel_rfl) (by kernel_rfl) (by kernel_rfl) (by kernel_rfl);have q_as_typeOf:=as_typeOf;have q_as_mAss:=as_mAss;have q_as_assign:=as_assign;have q_as_valueS:=as_valueS;have q_as_valueOf:=as_valueOf;have q_as_type:=as_type;have q_as_mKind:=as_mKind;have q_as_mElem:=as_mElem;have q_as_mImpl:=as_mImpl;have q_as_kindP:=as_kindP;have q_as_kindS:=as_kindS;have q_as_elem:=as_elem;have q_as_impl:=as_impl;have n8:=as_isNil ⟨w.heap.size,0,none⟩ ⟨t,0,none⟩ ((w.alloc (.cells #[.pointer (some ⟨t,0,none⟩)] 100)).alloc (.cells #[.pointer (some ⟨5,100,none⟩),.pointer (some ⟨w.heap.size,0,none⟩),.int .u64 150] 166)) (by simp);have hg2:((w.alloc (.cells #[.pointer (some ⟨t,0,none⟩)] 100)).alloc (.cells #[.pointer (some ⟨5,100,none⟩),.pointer (some ⟨w.heap.size,0,none⟩),.int .u64 150] 166)).cell? ⟨1,0,none⟩ = some (.iface 196 (.agg #[.pointer (some ⟨5,94,none⟩)])):=by
  rw[World.cell?_alloc_lt _ _ ⟨1,0,none⟩ (by simp;omega),World.cell?_alloc_lt _ _ ⟨1,0,none⟩ hlt];exact hg
 have el:=as_elemV ⟨w.heap.size,0,none⟩ ⟨t,0,none⟩ (((w.alloc (.cells #[.pointer (some ⟨t,0,none⟩)] 100)).alloc (.cells #[.pointer (some ⟨5,100,none⟩),.pointer (some ⟨w.heap.size,0,none⟩),.int .u64 150] 166)).alloc (.cells #[.pointer (some ⟨5,100,none⟩),.pointer (some ⟨w.heap.size,0,none⟩),.int .u64 150] 166)) (by rw[World.cell?_alloc_lt _ _ ⟨w.heap.size,0,none⟩ (by simp;omega)];simp);have st:=as_set t (w.heap.size+1+1+1) c old ((((w.alloc (.cells #[.pointer (some ⟨t,0,none⟩)] 100)).alloc (.cells #[.pointer (some ⟨5,100,none⟩),.pointer (some ⟨w.heap.size,0,none⟩),.int .u64 150] 166)).alloc (.cells #[.pointer (some ⟨5,100,none⟩),.pointer (some ⟨w.heap.size,0,none⟩),.int .u64 150] 166)).alloc (.cells #[.int .i64 c] 98))
  (by have:=heap_alloc_new (((w.alloc (.cells #[.pointer (some ⟨t,0,none⟩)] 100)).alloc (.cells #[.pointer (some ⟨5,100,none⟩),.pointer (some ⟨w.heap.size,0,none⟩),.int .u64 150] 166)).alloc (.cells #[.pointer (some ⟨5,100,none⟩),.pointer (some ⟨w.heap.size,0,none⟩),.int .u64 150] 166)) (.cells #[.int .i64 c] 98);simpa using this)
  (by rw[heap_alloc_old _ _ (by simp;omega),heap_alloc_old _ _ (by simp;omega),heap_alloc_old _ _ (by simp;omega),heap_alloc_old _ _ htl];exact ht)
 go_enter Tryz.func82,Tryz.ntmps82;go_wp2;refine wp_loop_rounds 1 ?_;rw[rounds_succ];go_wp2;go_ret;exact⟨rfl,rfl⟩
