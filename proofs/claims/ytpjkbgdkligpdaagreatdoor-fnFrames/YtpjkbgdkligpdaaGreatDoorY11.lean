/- Lemmas. -/
import Derived.Test.YtpjkbgdkligpdaaGreatDoorY10
import Derived.Test.YtpjkbgdkligpdaaGreatDoorY01
set_option linter.all false
set_option maxRecDepth 100000
set_option maxHeartbeats 20000000
namespace Go.Proofs.YtpjkbgdkligpdaaGreatDoor
open Go.RowKit

def errV (e:Bool):Value:=if e then .iface 98 (.agg #[.int .i64 2]) else .nilIface
def RB (w:World) (q:Nat) (ao:Option Addr) (n cap p:Nat) (e:Bool):Prop:=Row w q #[.slice ao n cap,.int .i64 (p:Nat),errV e] 187
theorem RB.set {w:World} {q:Nat} {ao:Option Addr} {n cap p:Nat} {e:Bool} (h:RB w q ao n cap p e) (k:Nat):RB (w.setCell ⟨q,1,none⟩ (.int .i64 (k:Nat))) q ao n cap k e:=qaf h 1 _
theorem RB.fail {w:World} {q:Nat} {ao:Option Addr} {n cap p:Nat} {e:Bool} (h:RB w q ao n cap p e):RB (w.setCell ⟨q,2,none⟩ (.iface 98 (.agg #[.int .i64 2]))) q ao n cap p true:=qaf h 2 _
theorem qvm {w w':World} {q:Nat} {ao:Option Addr} {n cap p:Nat} {e:Bool} {l:List UInt8} {a:Option Addr} {m c:Nat} (hr:RdIn w a m c l) (h:RB w q ao n cap p e) (hg:w.grownBy w' (some q)):RdIn w' a m c l:=by
 obtain⟨⟨hl,hc⟩,h2,h3,h4⟩:=hr;refine⟨⟨hl,fun i hi=>?_⟩,h2,h3,h4⟩;obtain⟨b,off,ea,hcell⟩:=hc i hi;refine⟨b,off,ea,?_⟩;have hbq:b≠q:=by
  rintro rfl;have:=cell_of_row w b (off+i) _ _ (0,0) h;rw[hcell] at this
  match off+i,this with
  |0,h=>cases h
  |1,h=>cases h
  |2,h=>unfold errV at h;cases e<;>cases h
  |(_+3),h=>cases h
 exact hg.cell hcell (by simpa using hbq)
section
variable {P : Program} {o : Oper} {a : Act} {w : World} {K : Act → World → Prop} {Q : Exit → Act → World → Prop}
theorem z_nil {X:Addr} (x:Operand) (ho:o.op=.nilCheck x) (hx:a.eval x=.pointer (some X)) (h:K (a.put o.dst (.pointer (some X))) w):Oper.wp P o a w K Q :=
 qae (w':=w) (v:=.pointer (some X)) (by unfold execOp;rw[ho];simp only[hx];rfl) h
theorem z_ext {vs:Array Value} {v:Value} (x:Operand) (i:Nat) (ho:o.op=.extract x i) (hx:a.eval x=.tuple vs) (hv:vs[i]? = some v) (h:K (a.put o.dst v) w):Oper.wp P o a w K Q :=
 qae (w':=w) (v:=v) (by unfold execOp;rw[ho];simp only[hx,Instr.extract,hv];rfl) h
theorem z_asg {v:Value} (x:Operand) (ho:o.op=.assign x) (hx:a.eval x=v) (h:K (a.put o.dst v) w):Oper.wp P o a w K Q :=
 qae (w':=w) (v:=v) (by unfold execOp;rw[ho];simp only[hx];rfl) h
end
theorem qex (P:Program) (u:World) (ρ:Operand→Value) (v v':Value) (z x y:Operand) (f:FuncId) (hf:∀(xs:Array Value) (u:World),(callFunc f xs).run P u=.ok (.enter f xs) u) (hz:ρ z=.func (.func f) #[] #[]) (hx:ρ x=v) (hy:ρ y=v') (d:Option Tmp) (t:TypeId) (p:String) (e:Array Edge) (g:Option (Nat×Bool)) (ts:Array TypeId) :
  (execOp ρ ⟨d,.call { callee:=.value z,args:=#[x,y],argTypes:=ts },t,p,e,g⟩).run P u=.ok (.enter f #[v,v']) u:=by
 simp[execOp,hx,hy,hz,resolve,invoke,go_sem,hf]
theorem qdv {w w':World} {row:Option Nat} (h:Below w.heap.size w w'):w.grownBy w' row:=qow ⟨h.os,h.tape,h.output,h.size,fun k hk _=>h.block k hk⟩
theorem _root_.Go.World.grownBy.trans_same {w w1 w2:World} {row:Option Nat} (h:w.grownBy w1 row) (g:w1.grownBy w2 row):w.grownBy w2 row:=qap h g
theorem cf_getByte (xs:Array Value) (u:World):(callFunc 152 xs).run Tryz.prog u=.ok (.enter 152 xs) u:=by kernel_rfl
theorem cf_GetWord (xs:Array Value) (u:World):(callFunc 154 xs).run Tryz.prog u=.ok (.enter 154 xs) u:=by kernel_rfl
theorem cf_GetText (xs:Array Value) (u:World):(callFunc 159 xs).run Tryz.prog u=.ok (.enter 159 xs) u:=by kernel_rfl
theorem qum (xs:Array Value) (u:World):(callFunc 168 xs).run Tryz.prog u=.ok (.enter 168 xs) u:=by kernel_rfl
theorem cf_getRest (xs:Array Value) (u:World):(callFunc 169 xs).run Tryz.prog u=.ok (.enter 169 xs) u:=by kernel_rfl
theorem cf_getWant (xs:Array Value) (u:World):(callFunc 156 xs).run Tryz.prog u=.ok (.enter 156 xs) u:=by kernel_rfl
theorem qfo (q:Nat) (ao:Option Addr) (n cap p:Nat) (e:Bool) (l:List UInt8) (w:World) (hR:RB w q ao n cap p e) (hr:RdIn w ao n cap l) (hn:n≤1048576) :
  Calls Tryz.prog 151 #[.pointer (some ⟨q,0,none⟩),.func (.func 152) #[] #[]] w fun e' w'=>e'=.returned (.int .i64 (rd gB 0 l (p,e)).1)∧RB w' q ao n cap (rd gB 0 l (p,e)).2.1 (rd gB 0 l (p,e)).2.2∧w.grownBy w' (some q):=by
 have hl:=hr.1.1;go_enter Tryz.func151,Tryz.ntmps151;go_wp2;refine qdq (by kernel_rfl) rfl (fun _ u u'=>Below u.heap.size u u') (fun i v u=>match i with
  |0=>v=.func (.func 152) #[] #[]
  |1=>v=.pointer (some ⟨q,0,none⟩)
  |2=>v=.pointer (some ⟨q,0,none⟩)
  |3=>v=.pointer (some ⟨q,0,none⟩)
  |4=>v=.slice ao n cap
  |5=>v=.pointer (some ⟨q,0,none⟩)
  |6=>v=.pointer (some ⟨q,0,none⟩)
  |7=>v=.pointer (some ⟨q,1,none⟩)
  |8=>v=.int .i64 (p:Nat)
  |9=>v=rInt (gB l p)
  |10=>v=rInt (gB l p)
  |11=>v=.int .i64 (xV 0 (gB l p))
  |12=>v=.int .i64 (xK (gB l p):Nat)
  |13=>v=.bool (gB l p).isSome
  |14=>v=.int .i64 (xV 0 (gB l p))
  |15=>v=.int .i64 (xK (gB l p):Nat)
  |16=>v=.bool (gB l p).isSome
  |_=>True) (fun _ _ _=>True) ?_ ?_ ?_ ?_ ?_
 ·exact fun i u u' hr hb=>hb.trans (hr.mono hb.size)
 ·intro i0 i v u u' _ hx h
  match i,h with
  |0,h|1,h|2,h|3,h|4,h|5,h|6,h|7,h|8,h|9,h|10,h|11,h|12,h|13,h|14,h|15,h|16,h=>exact h
  |(_+17),h=>trivial
 ·exact fun _ _ _ _ _ _ _ _ _ _ _ _ _ _=>trivial
 ·intro i o a u hi hk hbu hdep
  match i,hi with
  |0,hi=>cases hi;exact (qbd _ rfl (qevv hk 1 rfl rfl) ⟨_,rfl,Below.refl _ _,rfl,trivial⟩)
  |1,hi=>cases hi;exact (qbd _ rfl (qevv hk 0 rfl rfl) ⟨_,rfl,Below.refl _ _,rfl,trivial⟩)
  |2,hi=>cases hi;obtain⟨z1,hz1,rfl,_⟩:=hdep 1 _ rfl rfl;replace hz1:=hz1 _ rfl;exact (z_nil _ rfl (qab hz1) ⟨_,rfl,Below.refl _ _,rfl,trivial⟩)
  |3,hi=>cases hi;obtain⟨z2,hz2,rfl,_⟩:=hdep 2 _ rfl rfl;replace hz2:=hz2 _ rfl;exact (z_fld (X:=⟨q,0,none⟩) (Y:=⟨q,0,none⟩) 187 _ 0 rfl (qab hz2) (fun _=>by kernel_rfl) ⟨_,rfl,Below.refl _ _,rfl,trivial⟩)
  |4,hi=>cases hi;obtain⟨z3,hz3,rfl,_⟩:=hdep 3 _ rfl rfl;replace hz3:=hz3 _ rfl;exact (z_ld 22 _ rfl (qab hz3) (by kernel_rfl) ((hR.next hbu).cell 0 rfl) ⟨_,rfl,Below.refl _ _,rfl,trivial⟩)
  |5,hi=>cases hi;exact (qbd _ rfl (qevv hk 0 rfl rfl) ⟨_,rfl,Below.refl _ _,rfl,trivial⟩)
  |6,hi=>cases hi;obtain⟨z5,hz5,rfl,_⟩:=hdep 5 _ rfl rfl;replace hz5:=hz5 _ rfl;exact (z_nil _ rfl (qab hz5) ⟨_,rfl,Below.refl _ _,rfl,trivial⟩)
  |7,hi=>cases hi;obtain⟨z6,hz6,rfl,_⟩:=hdep 6 _ rfl rfl;replace hz6:=hz6 _ rfl;exact (z_fld (X:=⟨q,0,none⟩) (Y:=⟨q,1,none⟩) 187 _ 1 rfl (qab hz6) (fun _=>by kernel_rfl) ⟨_,rfl,Below.refl _ _,rfl,trivial⟩)
  |8,hi=>cases hi;obtain⟨z7,hz7,rfl,_⟩:=hdep 7 _ rfl rfl;replace hz7:=hz7 _ rfl;exact (z_ld 3 _ rfl (qab hz7) (by kernel_rfl) ((hR.next hbu).cell 1 rfl) ⟨_,rfl,Below.refl _ _,rfl,trivial⟩)
  |9,hi=>cases hi;obtain⟨z0,hz0,rfl,_⟩:=hdep 0 _ rfl rfl;replace hz0:=hz0 _ rfl;obtain⟨z4,hz4,rfl,_⟩:=hdep 4 _ rfl rfl;replace hz4:=hz4 _ rfl;obtain⟨z8,hz8,rfl,_⟩:=hdep 8 _ rfl rfl;replace hz8:=hz8 _ rfl;refine (qal (qex _ _ _ _ _ _ _ _ _ cf_getByte (qab hz0) (qab hz4) (qab hz8) _ _ _ _ _ _) ?_);refine (qkp ao n cap p l u (hr.below hbu) hn).mono ?_;rintro e' u' ⟨rfl,hb⟩;exact⟨_,rfl,_,rfl,hb,rfl,trivial⟩
  |10,hi=>cases hi;obtain⟨z9,hz9,rfl,_⟩:=hdep 9 _ rfl rfl;replace hz9:=hz9 _ rfl;exact (qbd _ rfl (qab hz9) ⟨_,rfl,Below.refl _ _,rfl,trivial⟩)
  |11,hi=>cases hi;obtain⟨z10,hz10,rfl,_⟩:=hdep 10 _ rfl rfl;replace hz10:=hz10 _ rfl;exact (z_ext _ 0 rfl (qab hz10) rfl ⟨_,rfl,Below.refl _ _,rfl,trivial⟩)
  |12,hi=>cases hi;obtain⟨z10,hz10,rfl,_⟩:=hdep 10 _ rfl rfl;replace hz10:=hz10 _ rfl;exact (z_ext _ 1 rfl (qab hz10) rfl ⟨_,rfl,Below.refl _ _,rfl,trivial⟩)
  |13,hi=>cases hi;obtain⟨z10,hz10,rfl,_⟩:=hdep 10 _ rfl rfl;replace hz10:=hz10 _ rfl;exact (z_ext _ 2 rfl (qab hz10) rfl ⟨_,rfl,Below.refl _ _,rfl,trivial⟩)
  |14,hi=>cases hi;obtain⟨z11,hz11,rfl,_⟩:=hdep 11 _ rfl rfl;replace hz11:=hz11 _ rfl;exact (z_asg _ rfl (qab hz11) ⟨_,rfl,Below.refl _ _,rfl,trivial⟩)
  |15,hi=>cases hi;obtain⟨z12,hz12,rfl,_⟩:=hdep 12 _ rfl rfl;replace hz12:=hz12 _ rfl;exact (z_asg _ rfl (qab hz12) ⟨_,rfl,Below.refl _ _,rfl,trivial⟩)
  |16,hi=>cases hi;obtain⟨z13,hz13,rfl,_⟩:=hdep 13 _ rfl rfl;replace hz13:=hz13 _ rfl;exact (z_asg _ rfl (qab hz13) ⟨_,rfl,Below.refl _ _,rfl,trivial⟩)
  |(_+17),hi=>cases hi
 intro vs u9 hb9 hG a3_ h3 hS_;clear hS_;have e11:=hG 14 (by decide);replace e11:vs 14=.int .i64 (xV 0 (gB l p)):=e11;have e12:=hG 15 (by decide);replace e12:vs 15=.int .i64 (xK (gB l p):Nat):=e12;have e13:=hG 16 (by decide);replace e13:vs 16=.bool (gB l p).isSome:=e13;clear hG;replace h3:puts _ 2 _ (Fq43)=_:=h3;replace h3:puts _ 4 _ (Fq43)=_:=h3;replace h3:puts _ 6 _ (Fq43)=_:=h3;replace h3:puts _ 8 _ (Fq43)=_:=h3;replace h3:puts _ 10 _ (Fq43)=_:=h3;replace h3:puts _ 12 _ (Fq43)=_:=h3;replace h3:puts _ 14 _ (Fq43)=_:=h3;replace h3:puts _ 16 _ (Fq43)=_:=h3;replace h3:Fq43=_:=h3;unfold Fq43 at h3;subst h3;simp only[e11,e12,e13];clear e11 e12 e13;have R9:RB u9 q ao n cap p e:=hR.next hb9;have c0:=R9.cell 0 rfl;have c1:=R9.cell 1 rfl;have c2:=R9.cell 2 rfl;have z1:=Lib.frozen_of_heap R9 1;have z2:=Lib.frozen_of_heap R9 2;have g9:w.grownBy u9 (some q):=qdv hb9;cases hg:gB l p with
 |none=>
  have HR:Hid (rd gB 0 l (p,e)=(0,n,true)):=by rw[←hl];exact rd_no hg
  simp only[xV,xK,Option.isSome_none];clear hg hl hr hR;go_wp2;go_ret;rw[HR.out];exact⟨by simp,(R9.set n).fail,(g9.trans_same (qai _ q 1 _)).trans_same (qai _ q 2 _)⟩
 |some xk=>
  obtain⟨x,k⟩:=xk;have HR:Hid (rd gB 0 l (p,e)=(x,k,e)):=qcs hg;simp only[xV,xK,Option.isSome_some];clear hg hl hr hR;go_wp2;go_ret;rw[HR.out];exact⟨by simp,R9.set k,g9.trans_same (qai _ q 1 _)⟩
theorem qed (q:Nat) (ao:Option Addr) (n cap p:Nat) (e:Bool) (l:List UInt8) (w:World) (hR:RB w q ao n cap p e) (hr:RdIn w ao n cap l) (hn:n≤1048576) :
  Calls Tryz.prog 151 #[.pointer (some ⟨q,0,none⟩),.func (.func 154) #[] #[]] w fun e' w'=>e'=.returned (.int .i64 (rd gW 0 l (p,e)).1)∧RB w' q ao n cap (rd gW 0 l (p,e)).2.1 (rd gW 0 l (p,e)).2.2∧w.grownBy w' (some q):=by
 have hl:=hr.1.1;go_enter Tryz.func151,Tryz.ntmps151;go_wp2;refine qdq (by kernel_rfl) rfl (fun _ u u'=>Below u.heap.size u u') (fun i v u=>match i with
  |0=>v=.func (.func 154) #[] #[]
  |1=>v=.pointer (some ⟨q,0,none⟩)
  |2=>v=.pointer (some ⟨q,0,none⟩)
  |3=>v=.pointer (some ⟨q,0,none⟩)
  |4=>v=.slice ao n cap
  |5=>v=.pointer (some ⟨q,0,none⟩)
  |6=>v=.pointer (some ⟨q,0,none⟩)
  |7=>v=.pointer (some ⟨q,1,none⟩)
  |8=>v=.int .i64 (p:Nat)
  |9=>v=rInt (gW l p)
  |10=>v=rInt (gW l p)
  |11=>v=.int .i64 (xV 0 (gW l p))
  |12=>v=.int .i64 (xK (gW l p):Nat)
  |13=>v=.bool (gW l p).isSome
  |14=>v=.int .i64 (xV 0 (gW l p))
  |15=>v=.int .i64 (xK (gW l p):Nat)
  |16=>v=.bool (gW l p).isSome
  |_=>True) (fun _ _ _=>True) ?_ ?_ ?_ ?_ ?_
 ·exact fun i u u' hr hb=>hb.trans (hr.mono hb.size)
 ·intro i0 i v u u' _ hx h
  match i,h with
  |0,h|1,h|2,h|3,h|4,h|5,h|6,h|7,h|8,h|9,h|10,h|11,h|12,h|13,h|14,h|15,h|16,h=>exact h
  |(_+17),h=>trivial
 ·exact fun _ _ _ _ _ _ _ _ _ _ _ _ _ _=>trivial
 ·intro i o a u hi hk hbu hdep
  match i,hi with
  |0,hi=>cases hi;exact (qbd _ rfl (qevv hk 1 rfl rfl) ⟨_,rfl,Below.refl _ _,rfl,trivial⟩)
  |1,hi=>cases hi;exact (qbd _ rfl (qevv hk 0 rfl rfl) ⟨_,rfl,Below.refl _ _,rfl,trivial⟩)
  |2,hi=>cases hi;obtain⟨z1,hz1,rfl,_⟩:=hdep 1 _ rfl rfl;replace hz1:=hz1 _ rfl;exact (z_nil _ rfl (qab hz1) ⟨_,rfl,Below.refl _ _,rfl,trivial⟩)
  |3,hi=>cases hi;obtain⟨z2,hz2,rfl,_⟩:=hdep 2 _ rfl rfl;replace hz2:=hz2 _ rfl;exact (z_fld (X:=⟨q,0,none⟩) (Y:=⟨q,0,none⟩) 187 _ 0 rfl (qab hz2) (fun _=>by kernel_rfl) ⟨_,rfl,Below.refl _ _,rfl,trivial⟩)
  |4,hi=>cases hi;obtain⟨z3,hz3,rfl,_⟩:=hdep 3 _ rfl rfl;replace hz3:=hz3 _ rfl;exact (z_ld 22 _ rfl (qab hz3) (by kernel_rfl) ((hR.next hbu).cell 0 rfl) ⟨_,rfl,Below.refl _ _,rfl,trivial⟩)
  |5,hi=>cases hi;exact (qbd _ rfl (qevv hk 0 rfl rfl) ⟨_,rfl,Below.refl _ _,rfl,trivial⟩)
  |6,hi=>cases hi;obtain⟨z5,hz5,rfl,_⟩:=hdep 5 _ rfl rfl;replace hz5:=hz5 _ rfl;exact (z_nil _ rfl (qab hz5) ⟨_,rfl,Below.refl _ _,rfl,trivial⟩)
  |7,hi=>cases hi;obtain⟨z6,hz6,rfl,_⟩:=hdep 6 _ rfl rfl;replace hz6:=hz6 _ rfl;exact (z_fld (X:=⟨q,0,none⟩) (Y:=⟨q,1,none⟩) 187 _ 1 rfl (qab hz6) (fun _=>by kernel_rfl) ⟨_,rfl,Below.refl _ _,rfl,trivial⟩)
  |8,hi=>cases hi;obtain⟨z7,hz7,rfl,_⟩:=hdep 7 _ rfl rfl;replace hz7:=hz7 _ rfl;exact (z_ld 3 _ rfl (qab hz7) (by kernel_rfl) ((hR.next hbu).cell 1 rfl) ⟨_,rfl,Below.refl _ _,rfl,trivial⟩)
  |9,hi=>cases hi;obtain⟨z0,hz0,rfl,_⟩:=hdep 0 _ rfl rfl;replace hz0:=hz0 _ rfl;obtain⟨z4,hz4,rfl,_⟩:=hdep 4 _ rfl rfl;replace hz4:=hz4 _ rfl;obtain⟨z8,hz8,rfl,_⟩:=hdep 8 _ rfl rfl;replace hz8:=hz8 _ rfl;refine (qal (qex _ _ _ _ _ _ _ _ _ cf_GetWord (qab hz0) (qab hz4) (qab hz8) _ _ _ _ _ _) ?_);refine (quz ao n cap p l u (hr.below hbu) hn).mono ?_;rintro e' u' ⟨rfl,hb⟩;exact⟨_,rfl,_,rfl,hb,rfl,trivial⟩
  |10,hi=>cases hi;obtain⟨z9,hz9,rfl,_⟩:=hdep 9 _ rfl rfl;replace hz9:=hz9 _ rfl;exact (qbd _ rfl (qab hz9) ⟨_,rfl,Below.refl _ _,rfl,trivial⟩)
  |11,hi=>cases hi;obtain⟨z10,hz10,rfl,_⟩:=hdep 10 _ rfl rfl;replace hz10:=hz10 _ rfl;exact (z_ext _ 0 rfl (qab hz10) rfl ⟨_,rfl,Below.refl _ _,rfl,trivial⟩)
  |12,hi=>cases hi;obtain⟨z10,hz10,rfl,_⟩:=hdep 10 _ rfl rfl;replace hz10:=hz10 _ rfl;exact (z_ext _ 1 rfl (qab hz10) rfl ⟨_,rfl,Below.refl _ _,rfl,trivial⟩)
  |13,hi=>cases hi;obtain⟨z10,hz10,rfl,_⟩:=hdep 10 _ rfl rfl;replace hz10:=hz10 _ rfl;exact (z_ext _ 2 rfl (qab hz10) rfl ⟨_,rfl,Below.refl _ _,rfl,trivial⟩)
  |14,hi=>cases hi;obtain⟨z11,hz11,rfl,_⟩:=hdep 11 _ rfl rfl;replace hz11:=hz11 _ rfl;exact (z_asg _ rfl (qab hz11) ⟨_,rfl,Below.refl _ _,rfl,trivial⟩)
  |15,hi=>cases hi;obtain⟨z12,hz12,rfl,_⟩:=hdep 12 _ rfl rfl;replace hz12:=hz12 _ rfl;exact (z_asg _ rfl (qab hz12) ⟨_,rfl,Below.refl _ _,rfl,trivial⟩)
  |16,hi=>cases hi;obtain⟨z13,hz13,rfl,_⟩:=hdep 13 _ rfl rfl;replace hz13:=hz13 _ rfl;exact (z_asg _ rfl (qab hz13) ⟨_,rfl,Below.refl _ _,rfl,trivial⟩)
  |(_+17),hi=>cases hi
 intro vs u9 hb9 hG a3_ h3 hS_;clear hS_;have e11:=hG 14 (by decide);replace e11:vs 14=.int .i64 (xV 0 (gW l p)):=e11;have e12:=hG 15 (by decide);replace e12:vs 15=.int .i64 (xK (gW l p):Nat):=e12;have e13:=hG 16 (by decide);replace e13:vs 16=.bool (gW l p).isSome:=e13;clear hG;replace h3:puts _ 2 _ (Fq43)=_:=h3;replace h3:puts _ 4 _ (Fq43)=_:=h3;replace h3:puts _ 6 _ (Fq43)=_:=h3;replace h3:puts _ 8 _ (Fq43)=_:=h3;replace h3:puts _ 10 _ (Fq43)=_:=h3;replace h3:puts _ 12 _ (Fq43)=_:=h3;replace h3:puts _ 14 _ (Fq43)=_:=h3;replace h3:puts _ 16 _ (Fq43)=_:=h3;replace h3:Fq43=_:=h3;unfold Fq43 at h3;subst h3;simp only[e11,e12,e13];clear e11 e12 e13;have R9:RB u9 q ao n cap p e:=hR.next hb9;have c0:=R9.cell 0 rfl;have c1:=R9.cell 1 rfl;have c2:=R9.cell 2 rfl;have z1:=Lib.frozen_of_heap R9 1;have z2:=Lib.frozen_of_heap R9 2;have g9:w.grownBy u9 (some q):=qdv hb9;cases hg:gW l p with
 |none=>
  have HR:Hid (rd gW 0 l (p,e)=(0,n,true)):=by rw[←hl];exact rd_no hg
  simp only[xV,xK,Option.isSome_none];clear hg hl hr hR;go_wp2;go_ret;rw[HR.out];exact⟨by simp,(R9.set n).fail,(g9.trans_same (qai _ q 1 _)).trans_same (qai _ q 2 _)⟩
 |some xk=>
  obtain⟨x,k⟩:=xk;have HR:Hid (rd gW 0 l (p,e)=(x,k,e)):=qcs hg;simp only[xV,xK,Option.isSome_some];clear hg hl hr hR;go_wp2;go_ret;rw[HR.out];exact⟨by simp,R9.set k,g9.trans_same (qai _ q 1 _)⟩
theorem qdn (q:Nat) (ao:Option Addr) (n cap p:Nat) (e:Bool) (l:List UInt8) (w:World) (hR:RB w q ao n cap p e) (hr:RdIn w ao n cap l) (hn:n≤1048576) :
  Calls Tryz.prog 166 #[.pointer (some ⟨q,0,none⟩),.func (.func 159) #[] #[]] w fun e' w'=>e'=.returned (.string (rd gT ByteArray.empty l (p,e)).1)∧RB w' q ao n cap (rd gT ByteArray.empty l (p,e)).2.1 (rd gT ByteArray.empty l (p,e)).2.2∧w.grownBy w' (some q):=by
 have hl:=hr.1.1;go_enter Tryz.func166,Tryz.ntmps166;go_wp2;refine qdq (by kernel_rfl) rfl (fun _ u u'=>Below u.heap.size u u') (fun i v u=>match i with
  |0=>v=.func (.func 159) #[] #[]
  |1=>v=.pointer (some ⟨q,0,none⟩)
  |2=>v=.pointer (some ⟨q,0,none⟩)
  |3=>v=.pointer (some ⟨q,0,none⟩)
  |4=>v=.slice ao n cap
  |5=>v=.pointer (some ⟨q,0,none⟩)
  |6=>v=.pointer (some ⟨q,0,none⟩)
  |7=>v=.pointer (some ⟨q,1,none⟩)
  |8=>v=.int .i64 (p:Nat)
  |9=>v=rTxt (gT l p)
  |10=>v=rTxt (gT l p)
  |11=>v=.string (xV ByteArray.empty (gT l p))
  |12=>v=.int .i64 (xK (gT l p):Nat)
  |13=>v=.bool (gT l p).isSome
  |14=>v=.string (xV ByteArray.empty (gT l p))
  |15=>v=.int .i64 (xK (gT l p):Nat)
  |16=>v=.bool (gT l p).isSome
  |_=>True) (fun _ _ _=>True) ?_ ?_ ?_ ?_ ?_
 ·exact fun i u u' hr hb=>hb.trans (hr.mono hb.size)
 ·intro i0 i v u u' _ hx h
  match i,h with
  |0,h|1,h|2,h|3,h|4,h|5,h|6,h|7,h|8,h|9,h|10,h|11,h|12,h|13,h|14,h|15,h|16,h=>exact h
  |(_+17),h=>trivial
 ·exact fun _ _ _ _ _ _ _ _ _ _ _ _ _ _=>trivial
 ·intro i o a u hi hk hbu hdep
  match i,hi with
  |0,hi=>cases hi;exact (qbd _ rfl (qevv hk 1 rfl rfl) ⟨_,rfl,Below.refl _ _,rfl,trivial⟩)
  |1,hi=>cases hi;exact (qbd _ rfl (qevv hk 0 rfl rfl) ⟨_,rfl,Below.refl _ _,rfl,trivial⟩)
  |2,hi=>cases hi;obtain⟨z1,hz1,rfl,_⟩:=hdep 1 _ rfl rfl;replace hz1:=hz1 _ rfl;exact (z_nil _ rfl (qab hz1) ⟨_,rfl,Below.refl _ _,rfl,trivial⟩)
  |3,hi=>cases hi;obtain⟨z2,hz2,rfl,_⟩:=hdep 2 _ rfl rfl;replace hz2:=hz2 _ rfl;exact (z_fld (X:=⟨q,0,none⟩) (Y:=⟨q,0,none⟩) 187 _ 0 rfl (qab hz2) (fun _=>by kernel_rfl) ⟨_,rfl,Below.refl _ _,rfl,trivial⟩)
  |4,hi=>cases hi;obtain⟨z3,hz3,rfl,_⟩:=hdep 3 _ rfl rfl;replace hz3:=hz3 _ rfl;exact (z_ld 22 _ rfl (qab hz3) (by kernel_rfl) ((hR.next hbu).cell 0 rfl) ⟨_,rfl,Below.refl _ _,rfl,trivial⟩)
  |5,hi=>cases hi;exact (qbd _ rfl (qevv hk 0 rfl rfl) ⟨_,rfl,Below.refl _ _,rfl,trivial⟩)
  |6,hi=>cases hi;obtain⟨z5,hz5,rfl,_⟩:=hdep 5 _ rfl rfl;replace hz5:=hz5 _ rfl;exact (z_nil _ rfl (qab hz5) ⟨_,rfl,Below.refl _ _,rfl,trivial⟩)
  |7,hi=>cases hi;obtain⟨z6,hz6,rfl,_⟩:=hdep 6 _ rfl rfl;replace hz6:=hz6 _ rfl;exact (z_fld (X:=⟨q,0,none⟩) (Y:=⟨q,1,none⟩) 187 _ 1 rfl (qab hz6) (fun _=>by kernel_rfl) ⟨_,rfl,Below.refl _ _,rfl,trivial⟩)
  |8,hi=>cases hi;obtain⟨z7,hz7,rfl,_⟩:=hdep 7 _ rfl rfl;replace hz7:=hz7 _ rfl;exact (z_ld 3 _ rfl (qab hz7) (by kernel_rfl) ((hR.next hbu).cell 1 rfl) ⟨_,rfl,Below.refl _ _,rfl,trivial⟩)
  |9,hi=>cases hi;obtain⟨z0,hz0,rfl,_⟩:=hdep 0 _ rfl rfl;replace hz0:=hz0 _ rfl;obtain⟨z4,hz4,rfl,_⟩:=hdep 4 _ rfl rfl;replace hz4:=hz4 _ rfl;obtain⟨z8,hz8,rfl,_⟩:=hdep 8 _ rfl rfl;replace hz8:=hz8 _ rfl;refine (qal (qex _ _ _ _ _ _ _ _ _ cf_GetText (qab hz0) (qab hz4) (qab hz8) _ _ _ _ _ _) ?_);refine (qij ao n cap p l u (hr.below hbu) hn).mono ?_;rintro e' u' ⟨rfl,hb⟩;exact⟨_,rfl,_,rfl,hb,rfl,trivial⟩
  |10,hi=>cases hi;obtain⟨z9,hz9,rfl,_⟩:=hdep 9 _ rfl rfl;replace hz9:=hz9 _ rfl;exact (qbd _ rfl (qab hz9) ⟨_,rfl,Below.refl _ _,rfl,trivial⟩)
  |11,hi=>cases hi;obtain⟨z10,hz10,rfl,_⟩:=hdep 10 _ rfl rfl;replace hz10:=hz10 _ rfl;exact (z_ext _ 0 rfl (qab hz10) rfl ⟨_,rfl,Below.refl _ _,rfl,trivial⟩)
  |12,hi=>cases hi;obtain⟨z10,hz10,rfl,_⟩:=hdep 10 _ rfl rfl;replace hz10:=hz10 _ rfl;exact (z_ext _ 1 rfl (qab hz10) rfl ⟨_,rfl,Below.refl _ _,rfl,trivial⟩)
  |13,hi=>cases hi;obtain⟨z10,hz10,rfl,_⟩:=hdep 10 _ rfl rfl;replace hz10:=hz10 _ rfl;exact (z_ext _ 2 rfl (qab hz10) rfl ⟨_,rfl,Below.refl _ _,rfl,trivial⟩)
  |14,hi=>cases hi;obtain⟨z11,hz11,rfl,_⟩:=hdep 11 _ rfl rfl;replace hz11:=hz11 _ rfl;exact (z_asg _ rfl (qab hz11) ⟨_,rfl,Below.refl _ _,rfl,trivial⟩)
  |15,hi=>cases hi;obtain⟨z12,hz12,rfl,_⟩:=hdep 12 _ rfl rfl;replace hz12:=hz12 _ rfl;exact (z_asg _ rfl (qab hz12) ⟨_,rfl,Below.refl _ _,rfl,trivial⟩)
  |16,hi=>cases hi;obtain⟨z13,hz13,rfl,_⟩:=hdep 13 _ rfl rfl;replace hz13:=hz13 _ rfl;exact (z_asg _ rfl (qab hz13) ⟨_,rfl,Below.refl _ _,rfl,trivial⟩)
  |(_+17),hi=>cases hi
 intro vs u9 hb9 hG a3_ h3 hS_;clear hS_;have e11:=hG 14 (by decide);replace e11:vs 14=.string (xV ByteArray.empty (gT l p)):=e11;have e12:=hG 15 (by decide);replace e12:vs 15=.int .i64 (xK (gT l p):Nat):=e12;have e13:=hG 16 (by decide);replace e13:vs 16=.bool (gT l p).isSome:=e13;clear hG;replace h3:puts _ 2 _ (Fq43)=_:=h3;replace h3:puts _ 4 _ (Fq43)=_:=h3;replace h3:puts _ 6 _ (Fq43)=_:=h3;replace h3:puts _ 8 _ (Fq43)=_:=h3;replace h3:puts _ 10 _ (Fq43)=_:=h3;replace h3:puts _ 12 _ (Fq43)=_:=h3;replace h3:puts _ 14 _ (Fq43)=_:=h3;replace h3:puts _ 16 _ (Fq43)=_:=h3;replace h3:Fq43=_:=h3;unfold Fq43 at h3;subst h3;simp only[e11,e12,e13];clear e11 e12 e13;have R9:RB u9 q ao n cap p e:=hR.next hb9;have c0:=R9.cell 0 rfl;have c1:=R9.cell 1 rfl;have c2:=R9.cell 2 rfl;have z1:=Lib.frozen_of_heap R9 1;have z2:=Lib.frozen_of_heap R9 2;have g9:w.grownBy u9 (some q):=qdv hb9;cases hg:gT l p with
 |none=>
  have HR:Hid (rd gT ByteArray.empty l (p,e)=(ByteArray.empty,n,true)):=by rw[←hl];exact rd_no hg
  simp only[xV,xK,Option.isSome_none];clear hg hl hr hR;go_wp2;go_ret;rw[HR.out];exact⟨by simp,(R9.set n).fail,(g9.trans_same (qai _ q 1 _)).trans_same (qai _ q 2 _)⟩
 |some xk=>
  obtain⟨x,k⟩:=xk;have HR:Hid (rd gT ByteArray.empty l (p,e)=(x,k,e)):=qcs hg;simp only[xV,xK,Option.isSome_some];clear hg hl hr hR;go_wp2;go_ret;rw[HR.out];exact⟨by simp,R9.set k,g9.trans_same (qai _ q 1 _)⟩
theorem qeo (q:Nat) (ao:Option Addr) (n cap p:Nat) (e:Bool) (l:List UInt8) (w:World) (hR:RB w q ao n cap p e) (hr:RdIn w ao n cap l) (hn:n≤1048576) :
  Calls Tryz.prog 167 #[.pointer (some ⟨q,0,none⟩),.func (.func 168) #[] #[]] w fun e' w'=>∃a c,e'=.returned (.slice a (rd gL [] l (p,e)).1.length c)∧Own w' w.heap.size a (rd gL [] l (p,e)).1.length c (rd gL [] l (p,e)).1∧RB w' q ao n cap (rd gL [] l (p,e)).2.1 (rd gL [] l (p,e)).2.2∧w.grownBy w' (some q):=by
 have hl:=hr.1.1;go_enter Tryz.func167,Tryz.ntmps167;go_wp2;refine qdq (by kernel_rfl) rfl (fun _ u u'=>Below u.heap.size u u') (fun i v u=>match i with
  |0=>v=.func (.func 168) #[] #[]
  |1=>v=.pointer (some ⟨q,0,none⟩)
  |2=>v=.pointer (some ⟨q,0,none⟩)
  |3=>v=.pointer (some ⟨q,0,none⟩)
  |4=>v=.slice ao n cap
  |5=>v=.pointer (some ⟨q,0,none⟩)
  |6=>v=.pointer (some ⟨q,0,none⟩)
  |7=>v=.pointer (some ⟨q,1,none⟩)
  |8=>v=.int .i64 (p:Nat)
  |9=>∃(a:Option Addr) (c:Nat),v=.tuple #[.slice a (xV [] (gL l p)).length c,.int .i64 (xK (gL l p):Nat),.bool (gL l p).isSome]∧Own u w.heap.size a (xV [] (gL l p)).length c (xV [] (gL l p))
  |10=>∃(a:Option Addr) (c:Nat),v=.tuple #[.slice a (xV [] (gL l p)).length c,.int .i64 (xK (gL l p):Nat),.bool (gL l p).isSome]∧Own u w.heap.size a (xV [] (gL l p)).length c (xV [] (gL l p))
  |11=>∃(a:Option Addr) (c:Nat),v=.slice a (xV [] (gL l p)).length c∧Own u w.heap.size a (xV [] (gL l p)).length c (xV [] (gL l p))
  |12=>v=.int .i64 (xK (gL l p):Nat)
  |13=>v=.bool (gL l p).isSome
  |14=>∃(a:Option Addr) (c:Nat),v=.slice a (xV [] (gL l p)).length c∧Own u w.heap.size a (xV [] (gL l p)).length c (xV [] (gL l p))
  |15=>v=.int .i64 (xK (gL l p):Nat)
  |16=>v=.bool (gL l p).isSome
  |_=>True) (fun _ _ _=>True) ?_ ?_ ?_ ?_ ?_
 ·exact fun i u u' hr hb=>hb.trans (hr.mono hb.size)
 ·intro i0 i v u u' _ hx h
  match i,h with
  |0,h|1,h|2,h|3,h|4,h|5,h|6,h|7,h|8,h=>exact h
  |9,h=>(obtain⟨a1,c1,e1,o1⟩:=h;exact⟨a1,c1,e1,o1.below hx⟩)
  |10,h=>(obtain⟨a1,c1,e1,o1⟩:=h;exact⟨a1,c1,e1,o1.below hx⟩)
  |11,h=>(obtain⟨a1,c1,e1,o1⟩:=h;exact⟨a1,c1,e1,o1.below hx⟩)
  |12,h|13,h=>exact h
  |14,h=>(obtain⟨a1,c1,e1,o1⟩:=h;exact⟨a1,c1,e1,o1.below hx⟩)
  |15,h|16,h=>exact h
  |(_+17),h=>trivial
 ·exact fun _ _ _ _ _ _ _ _ _ _ _ _ _ _=>trivial
 ·intro i o a u hi hk hbu hdep
  match i,hi with
  |0,hi=>cases hi;exact (qbd _ rfl (qevv hk 1 rfl rfl) ⟨_,rfl,Below.refl _ _,rfl,trivial⟩)
  |1,hi=>cases hi;exact (qbd _ rfl (qevv hk 0 rfl rfl) ⟨_,rfl,Below.refl _ _,rfl,trivial⟩)
  |2,hi=>cases hi;obtain⟨z1,hz1,rfl,_⟩:=hdep 1 _ rfl rfl;replace hz1:=hz1 _ rfl;exact (z_nil _ rfl (qab hz1) ⟨_,rfl,Below.refl _ _,rfl,trivial⟩)
  |3,hi=>cases hi;obtain⟨z2,hz2,rfl,_⟩:=hdep 2 _ rfl rfl;replace hz2:=hz2 _ rfl;exact (z_fld (X:=⟨q,0,none⟩) (Y:=⟨q,0,none⟩) 187 _ 0 rfl (qab hz2) (fun _=>by kernel_rfl) ⟨_,rfl,Below.refl _ _,rfl,trivial⟩)
  |4,hi=>cases hi;obtain⟨z3,hz3,rfl,_⟩:=hdep 3 _ rfl rfl;replace hz3:=hz3 _ rfl;exact (z_ld 22 _ rfl (qab hz3) (by kernel_rfl) ((hR.next hbu).cell 0 rfl) ⟨_,rfl,Below.refl _ _,rfl,trivial⟩)
  |5,hi=>cases hi;exact (qbd _ rfl (qevv hk 0 rfl rfl) ⟨_,rfl,Below.refl _ _,rfl,trivial⟩)
  |6,hi=>cases hi;obtain⟨z5,hz5,rfl,_⟩:=hdep 5 _ rfl rfl;replace hz5:=hz5 _ rfl;exact (z_nil _ rfl (qab hz5) ⟨_,rfl,Below.refl _ _,rfl,trivial⟩)
  |7,hi=>cases hi;obtain⟨z6,hz6,rfl,_⟩:=hdep 6 _ rfl rfl;replace hz6:=hz6 _ rfl;exact (z_fld (X:=⟨q,0,none⟩) (Y:=⟨q,1,none⟩) 187 _ 1 rfl (qab hz6) (fun _=>by kernel_rfl) ⟨_,rfl,Below.refl _ _,rfl,trivial⟩)
  |8,hi=>cases hi;obtain⟨z7,hz7,rfl,_⟩:=hdep 7 _ rfl rfl;replace hz7:=hz7 _ rfl;exact (z_ld 3 _ rfl (qab hz7) (by kernel_rfl) ((hR.next hbu).cell 1 rfl) ⟨_,rfl,Below.refl _ _,rfl,trivial⟩)
  |9,hi=>cases hi;obtain⟨z0,hz0,rfl,_⟩:=hdep 0 _ rfl rfl;replace hz0:=hz0 _ rfl;obtain⟨z4,hz4,rfl,_⟩:=hdep 4 _ rfl rfl;replace hz4:=hz4 _ rfl;obtain⟨z8,hz8,rfl,_⟩:=hdep 8 _ rfl rfl;replace hz8:=hz8 _ rfl;refine (qal (qex _ _ _ _ _ _ _ _ _ qum (qab hz0) (qab hz4) (qab hz8) _ _ _ _ _ _) ?_);refine (qtc ao n cap p l u (hr.below hbu) hn).mono ?_;rintro e' u' ⟨a4,c4,rfl,O4,hb⟩;exact⟨_,rfl,_,rfl,hb,⟨a4,c4,rfl,O4.mono hbu.size⟩,trivial⟩
  |10,hi=>cases hi;obtain⟨z9,hz9,⟨a4,c4,rfl,O4⟩,_⟩:=hdep 9 _ rfl rfl;replace hz9:=hz9 _ rfl;exact (qbd _ rfl (qab hz9) ⟨_,rfl,Below.refl _ _,⟨_,_,rfl,O4⟩,trivial⟩)
  |11,hi=>cases hi;obtain⟨z10,hz10,⟨a4,c4,rfl,O4⟩,_⟩:=hdep 10 _ rfl rfl;replace hz10:=hz10 _ rfl;exact (z_ext _ 0 rfl (qab hz10) rfl ⟨_,rfl,Below.refl _ _,⟨_,_,rfl,O4⟩,trivial⟩)
  |12,hi=>cases hi;obtain⟨z10,hz10,⟨a4,c4,rfl,O4⟩,_⟩:=hdep 10 _ rfl rfl;replace hz10:=hz10 _ rfl;exact (z_ext _ 1 rfl (qab hz10) rfl ⟨_,rfl,Below.refl _ _,rfl,trivial⟩)
  |13,hi=>cases hi;obtain⟨z10,hz10,⟨a4,c4,rfl,O4⟩,_⟩:=hdep 10 _ rfl rfl;replace hz10:=hz10 _ rfl;exact (z_ext _ 2 rfl (qab hz10) rfl ⟨_,rfl,Below.refl _ _,rfl,trivial⟩)
  |14,hi=>cases hi;obtain⟨z11,hz11,⟨a4,c4,rfl,O4⟩,_⟩:=hdep 11 _ rfl rfl;replace hz11:=hz11 _ rfl;exact (z_asg _ rfl (qab hz11) ⟨_,rfl,Below.refl _ _,⟨_,_,rfl,O4⟩,trivial⟩)
  |15,hi=>cases hi;obtain⟨z12,hz12,rfl,_⟩:=hdep 12 _ rfl rfl;replace hz12:=hz12 _ rfl;exact (z_asg _ rfl (qab hz12) ⟨_,rfl,Below.refl _ _,rfl,trivial⟩)
  |16,hi=>cases hi;obtain⟨z13,hz13,rfl,_⟩:=hdep 13 _ rfl rfl;replace hz13:=hz13 _ rfl;exact (z_asg _ rfl (qab hz13) ⟨_,rfl,Below.refl _ _,rfl,trivial⟩)
  |(_+17),hi=>cases hi
 intro vs u9 hb9 hG a3_ h3 hS_;clear hS_;obtain⟨a11,c11,e11,O11⟩:=hG 14 (by decide);have e12:=hG 15 (by decide);replace e12:vs 15=.int .i64 (xK (gL l p):Nat):=e12;have e13:=hG 16 (by decide);replace e13:vs 16=.bool (gL l p).isSome:=e13;clear hG;replace h3:puts _ 2 _ (Fq43)=_:=h3;replace h3:puts _ 4 _ (Fq43)=_:=h3;replace h3:puts _ 6 _ (Fq43)=_:=h3;replace h3:puts _ 8 _ (Fq43)=_:=h3;replace h3:puts _ 10 _ (Fq43)=_:=h3;replace h3:puts _ 12 _ (Fq43)=_:=h3;replace h3:puts _ 14 _ (Fq43)=_:=h3;replace h3:puts _ 16 _ (Fq43)=_:=h3;replace h3:Fq43=_:=h3;unfold Fq43 at h3;subst h3;simp only[e11,e12,e13];clear e11 e12 e13;have R9:RB u9 q ao n cap p e:=hR.next hb9;have c0:=R9.cell 0 rfl;have c1:=R9.cell 1 rfl;have c2:=R9.cell 2 rfl;have z1:=Lib.frozen_of_heap R9 1;have z2:=Lib.frozen_of_heap R9 2;have g9:w.grownBy u9 (some q):=qdv hb9;have hq:∀z,a11=some z→some z.block≠some q:=fun z hz e=>by have:=(O11.block hz).1;have:=hR.lt;simp at e;omega
 cases hg:gL l p with
 |none=>
  rw[hg] at O11;have HR:Hid (rd gL [] l (p,e)=([],n,true)):=by rw[←hl];exact rd_no hg
  simp only[xV,xK,Option.isSome_none] at O11 ⊢;clear hg hl hr hR;go_wp2;go_ret;rw[HR.out];exact⟨a11,c11,by simp,(O11.grown (qai _ q 1 _) (fun z hz=>hq z hz)).grown (qai _ q 2 _) (fun z hz=>hq z hz),(R9.set n).fail,(g9.trans_same (qai _ q 1 _)).trans_same (qai _ q 2 _)⟩
 |some xk=>
  obtain⟨x,k⟩:=xk;rw[hg] at O11;have HR:Hid (rd gL [] l (p,e)=(x,k,e)):=qcs hg;simp only[xV,xK,Option.isSome_some] at O11 ⊢;clear hg hl hr hR;go_wp2;go_ret;rw[HR.out];exact⟨a11,c11,by simp,O11.grown (qai _ q 1 _) (fun z hz=>hq z hz),R9.set k,g9.trans_same (qai _ q 1 _)⟩
theorem qnj (q:Nat) (ao:Option Addr) (n cap p:Nat) (e:Bool) (l:List UInt8) (w:World) (hR:RB w q ao n cap p e) (hr:RdIn w ao n cap l) (hn:n≤1048576) (hp:p≤n) :
  Calls Tryz.prog 167 #[.pointer (some ⟨q,0,none⟩),.func (.func 169) #[] #[]] w fun e' w'=>∃a c,e'=.returned (.slice a (rd gR [] l (p,e)).1.length c)∧Own w' w.heap.size a (rd gR [] l (p,e)).1.length c (rd gR [] l (p,e)).1∧RB w' q ao n cap (rd gR [] l (p,e)).2.1 (rd gR [] l (p,e)).2.2∧w.grownBy w' (some q):=by
 have hl:=hr.1.1;go_enter Tryz.func167,Tryz.ntmps167;go_wp2;refine qdq (by kernel_rfl) rfl (fun _ u u'=>Below u.heap.size u u') (fun i v u=>match i with
  |0=>v=.func (.func 169) #[] #[]
  |1=>v=.pointer (some ⟨q,0,none⟩)
  |2=>v=.pointer (some ⟨q,0,none⟩)
  |3=>v=.pointer (some ⟨q,0,none⟩)
  |4=>v=.slice ao n cap
  |5=>v=.pointer (some ⟨q,0,none⟩)
  |6=>v=.pointer (some ⟨q,0,none⟩)
  |7=>v=.pointer (some ⟨q,1,none⟩)
  |8=>v=.int .i64 (p:Nat)
  |9=>∃(a:Option Addr) (c:Nat),v=.tuple #[.slice a (xV [] (gR l p)).length c,.int .i64 (xK (gR l p):Nat),.bool (gR l p).isSome]∧Own u w.heap.size a (xV [] (gR l p)).length c (xV [] (gR l p))
  |10=>∃(a:Option Addr) (c:Nat),v=.tuple #[.slice a (xV [] (gR l p)).length c,.int .i64 (xK (gR l p):Nat),.bool (gR l p).isSome]∧Own u w.heap.size a (xV [] (gR l p)).length c (xV [] (gR l p))
  |11=>∃(a:Option Addr) (c:Nat),v=.slice a (xV [] (gR l p)).length c∧Own u w.heap.size a (xV [] (gR l p)).length c (xV [] (gR l p))
  |12=>v=.int .i64 (xK (gR l p):Nat)
  |13=>v=.bool (gR l p).isSome
  |14=>∃(a:Option Addr) (c:Nat),v=.slice a (xV [] (gR l p)).length c∧Own u w.heap.size a (xV [] (gR l p)).length c (xV [] (gR l p))
  |15=>v=.int .i64 (xK (gR l p):Nat)
  |16=>v=.bool (gR l p).isSome
  |_=>True) (fun _ _ _=>True) ?_ ?_ ?_ ?_ ?_
 ·exact fun i u u' hr hb=>hb.trans (hr.mono hb.size)
 ·intro i0 i v u u' _ hx h
  match i,h with
  |0,h|1,h|2,h|3,h|4,h|5,h|6,h|7,h|8,h=>exact h
  |9,h=>(obtain⟨a1,c1,e1,o1⟩:=h;exact⟨a1,c1,e1,o1.below hx⟩)
  |10,h=>(obtain⟨a1,c1,e1,o1⟩:=h;exact⟨a1,c1,e1,o1.below hx⟩)
  |11,h=>(obtain⟨a1,c1,e1,o1⟩:=h;exact⟨a1,c1,e1,o1.below hx⟩)
  |12,h|13,h=>exact h
  |14,h=>(obtain⟨a1,c1,e1,o1⟩:=h;exact⟨a1,c1,e1,o1.below hx⟩)
  |15,h|16,h=>exact h
  |(_+17),h=>trivial
 ·exact fun _ _ _ _ _ _ _ _ _ _ _ _ _ _=>trivial
 ·intro i o a u hi hk hbu hdep
  match i,hi with
  |0,hi=>cases hi;exact (qbd _ rfl (qevv hk 1 rfl rfl) ⟨_,rfl,Below.refl _ _,rfl,trivial⟩)
  |1,hi=>cases hi;exact (qbd _ rfl (qevv hk 0 rfl rfl) ⟨_,rfl,Below.refl _ _,rfl,trivial⟩)
  |2,hi=>cases hi;obtain⟨z1,hz1,rfl,_⟩:=hdep 1 _ rfl rfl;replace hz1:=hz1 _ rfl;exact (z_nil _ rfl (qab hz1) ⟨_,rfl,Below.refl _ _,rfl,trivial⟩)
  |3,hi=>cases hi;obtain⟨z2,hz2,rfl,_⟩:=hdep 2 _ rfl rfl;replace hz2:=hz2 _ rfl;exact (z_fld (X:=⟨q,0,none⟩) (Y:=⟨q,0,none⟩) 187 _ 0 rfl (qab hz2) (fun _=>by kernel_rfl) ⟨_,rfl,Below.refl _ _,rfl,trivial⟩)
  |4,hi=>cases hi;obtain⟨z3,hz3,rfl,_⟩:=hdep 3 _ rfl rfl;replace hz3:=hz3 _ rfl;exact (z_ld 22 _ rfl (qab hz3) (by kernel_rfl) ((hR.next hbu).cell 0 rfl) ⟨_,rfl,Below.refl _ _,rfl,trivial⟩)
  |5,hi=>cases hi;exact (qbd _ rfl (qevv hk 0 rfl rfl) ⟨_,rfl,Below.refl _ _,rfl,trivial⟩)
  |6,hi=>cases hi;obtain⟨z5,hz5,rfl,_⟩:=hdep 5 _ rfl rfl;replace hz5:=hz5 _ rfl;exact (z_nil _ rfl (qab hz5) ⟨_,rfl,Below.refl _ _,rfl,trivial⟩)
  |7,hi=>cases hi;obtain⟨z6,hz6,rfl,_⟩:=hdep 6 _ rfl rfl;replace hz6:=hz6 _ rfl;exact (z_fld (X:=⟨q,0,none⟩) (Y:=⟨q,1,none⟩) 187 _ 1 rfl (qab hz6) (fun _=>by kernel_rfl) ⟨_,rfl,Below.refl _ _,rfl,trivial⟩)
  |8,hi=>cases hi;obtain⟨z7,hz7,rfl,_⟩:=hdep 7 _ rfl rfl;replace hz7:=hz7 _ rfl;exact (z_ld 3 _ rfl (qab hz7) (by kernel_rfl) ((hR.next hbu).cell 1 rfl) ⟨_,rfl,Below.refl _ _,rfl,trivial⟩)
  |9,hi=>cases hi;obtain⟨z0,hz0,rfl,_⟩:=hdep 0 _ rfl rfl;replace hz0:=hz0 _ rfl;obtain⟨z4,hz4,rfl,_⟩:=hdep 4 _ rfl rfl;replace hz4:=hz4 _ rfl;obtain⟨z8,hz8,rfl,_⟩:=hdep 8 _ rfl rfl;replace hz8:=hz8 _ rfl;refine (qal (qex _ _ _ _ _ _ _ _ _ cf_getRest (qab hz0) (qab hz4) (qab hz8) _ _ _ _ _ _) ?_);refine (qtd ao n cap p l u (hr.below hbu) hn hp).mono ?_;rintro e' u' ⟨a4,c4,rfl,O4,hb⟩;exact⟨_,rfl,_,rfl,hb,⟨a4,c4,rfl,O4.mono hbu.size⟩,trivial⟩
  |10,hi=>cases hi;obtain⟨z9,hz9,⟨a4,c4,rfl,O4⟩,_⟩:=hdep 9 _ rfl rfl;replace hz9:=hz9 _ rfl;exact (qbd _ rfl (qab hz9) ⟨_,rfl,Below.refl _ _,⟨_,_,rfl,O4⟩,trivial⟩)
  |11,hi=>cases hi;obtain⟨z10,hz10,⟨a4,c4,rfl,O4⟩,_⟩:=hdep 10 _ rfl rfl;replace hz10:=hz10 _ rfl;exact (z_ext _ 0 rfl (qab hz10) rfl ⟨_,rfl,Below.refl _ _,⟨_,_,rfl,O4⟩,trivial⟩)
  |12,hi=>cases hi;obtain⟨z10,hz10,⟨a4,c4,rfl,O4⟩,_⟩:=hdep 10 _ rfl rfl;replace hz10:=hz10 _ rfl;exact (z_ext _ 1 rfl (qab hz10) rfl ⟨_,rfl,Below.refl _ _,rfl,trivial⟩)
  |13,hi=>cases hi;obtain⟨z10,hz10,⟨a4,c4,rfl,O4⟩,_⟩:=hdep 10 _ rfl rfl;replace hz10:=hz10 _ rfl;exact (z_ext _ 2 rfl (qab hz10) rfl ⟨_,rfl,Below.refl _ _,rfl,trivial⟩)
  |14,hi=>cases hi;obtain⟨z11,hz11,⟨a4,c4,rfl,O4⟩,_⟩:=hdep 11 _ rfl rfl;replace hz11:=hz11 _ rfl;exact (z_asg _ rfl (qab hz11) ⟨_,rfl,Below.refl _ _,⟨_,_,rfl,O4⟩,trivial⟩)
  |15,hi=>cases hi;obtain⟨z12,hz12,rfl,_⟩:=hdep 12 _ rfl rfl;replace hz12:=hz12 _ rfl;exact (z_asg _ rfl (qab hz12) ⟨_,rfl,Below.refl _ _,rfl,trivial⟩)
  |16,hi=>cases hi;obtain⟨z13,hz13,rfl,_⟩:=hdep 13 _ rfl rfl;replace hz13:=hz13 _ rfl;exact (z_asg _ rfl (qab hz13) ⟨_,rfl,Below.refl _ _,rfl,trivial⟩)
  |(_+17),hi=>cases hi
 intro vs u9 hb9 hG a3_ h3 hS_;clear hS_;obtain⟨a11,c11,e11,O11⟩:=hG 14 (by decide);have e12:=hG 15 (by decide);replace e12:vs 15=.int .i64 (xK (gR l p):Nat):=e12;have e13:=hG 16 (by decide);replace e13:vs 16=.bool (gR l p).isSome:=e13;clear hG;replace h3:puts _ 2 _ (Fq43)=_:=h3;replace h3:puts _ 4 _ (Fq43)=_:=h3;replace h3:puts _ 6 _ (Fq43)=_:=h3;replace h3:puts _ 8 _ (Fq43)=_:=h3;replace h3:puts _ 10 _ (Fq43)=_:=h3;replace h3:puts _ 12 _ (Fq43)=_:=h3;replace h3:puts _ 14 _ (Fq43)=_:=h3;replace h3:puts _ 16 _ (Fq43)=_:=h3;replace h3:Fq43=_:=h3;unfold Fq43 at h3;subst h3;simp only[e11,e12,e13];clear e11 e12 e13;have R9:RB u9 q ao n cap p e:=hR.next hb9;have c0:=R9.cell 0 rfl;have c1:=R9.cell 1 rfl;have c2:=R9.cell 2 rfl;have z1:=Lib.frozen_of_heap R9 1;have z2:=Lib.frozen_of_heap R9 2;have g9:w.grownBy u9 (some q):=qdv hb9;have hq:∀z,a11=some z→some z.block≠some q:=fun z hz e=>by have:=(O11.block hz).1;have:=hR.lt;simp at e;omega
 cases hg:gR l p with
 |none=>
  rw[hg] at O11;have HR:Hid (rd gR [] l (p,e)=([],n,true)):=by rw[←hl];exact rd_no hg
  simp only[xV,xK,Option.isSome_none] at O11 ⊢;clear hg hl hr hR;go_wp2;go_ret;rw[HR.out];exact⟨a11,c11,by simp,(O11.grown (qai _ q 1 _) (fun z hz=>hq z hz)).grown (qai _ q 2 _) (fun z hz=>hq z hz),(R9.set n).fail,(g9.trans_same (qai _ q 1 _)).trans_same (qai _ q 2 _)⟩
 |some xk=>
  obtain⟨x,k⟩:=xk;rw[hg] at O11;have HR:Hid (rd gR [] l (p,e)=(x,k,e)):=qcs hg;simp only[xV,xK,Option.isSome_some] at O11 ⊢;clear hg hl hr hR;go_wp2;go_ret;rw[HR.out];exact⟨a11,c11,by simp,O11.grown (qai _ q 1 _) (fun z hz=>hq z hz),R9.set k,g9.trans_same (qai _ q 1 _)⟩
theorem alloc_runW (w:World):(Instr.alloc 88 true (.tuple #[])).run Tryz.prog w=.ok (.pointer (some ⟨w.heap.size,0,none⟩)) (w.alloc (.cells #[.string ByteArray.empty,.int .i64 0] 88)):=by kernel_rfl
theorem infoW2:(Tryz.prog.info? 88).map (fun x=>x.size)=some 2:=by kernel_rfl
def RSt (B:Nat) (u u':World):Prop:=Below B u u'∧∀k x y,Row u k #[.string x,.int .i64 y] 88→∃x' y',Row u' k #[.string x',.int .i64 y'] 88
def RW (B i:Nat) (u u':World):Prop:=if i=15 then RSt B u u' else Below u.heap.size u u'
theorem Row.set2 {u:World} {r:Nat} {a:ByteArray} {b:Int} (h:Row u r #[.string a,.int .i64 b] 88) (x:ByteArray) (y:Int):Row ((u.setCell ⟨r,0,none⟩ (.string x)).setCell ⟨r,1,none⟩ (.int .i64 y)) r #[.string x,.int .i64 y] 88:=qaf (qaf h 0 _) 1 _
theorem want_rb {u:World} {q r n cap p:Nat} {ao:Option Addr} {e:Bool} {x y:Value} (h:RB u q ao n cap p e) (hne:q≠r):RB ((u.setCell ⟨r,0,none⟩ x).setCell ⟨r,1,none⟩ y) q ao n cap p e:=(Below.heap_setCell _ _ _ _ hne).trans ((Below.heap_setCell _ _ _ _ hne).trans h)
theorem want_gr {w0 u:World} {q:Nat} {x y:Value} (h:w0.grownBy u (some q)) (r:Nat) (hr:w0.heap.size≤r):w0.grownBy ((u.setCell ⟨r,0,none⟩ x).setCell ⟨r,1,none⟩ y) (some q):=qcc (qcc h (qai _ r 0 _) hr) (qai _ r 1 _) hr
theorem qts (q:Nat) (ao:Option Addr) (n cap p:Nat) (e:Bool) (l:List UInt8) (w0:World) (hR0:RB w0 q ao n cap p e) (hr0:RdIn w0 ao n cap l) (hn:n≤1048576) :
  Calls Tryz.prog 170 #[.pointer (some ⟨q,0,none⟩),.func (.func 156) #[] #[]] w0 fun e' w'=>e'=.returned (.agg #[.string (rd gN (ByteArray.empty,0) l (p,e)).1.1,.int .i64 (rd gN (ByteArray.empty,0) l (p,e)).1.2])∧RB w' q ao n cap (rd gN (ByteArray.empty,0) l (p,e)).2.1 (rd gN (ByteArray.empty,0) l (p,e)).2.2∧w0.grownBy w' (some q):=by
 have hl:=hr0.1.1;have hA0:Row (w0.alloc (.cells #[.string ByteArray.empty,.int .i64 0] 88)) w0.heap.size #[.string ByteArray.empty,.int .i64 0] 88:=Row.new _ _ _;have hR:=hR0.next (qac w0 (.cells #[.string ByteArray.empty,.int .i64 0] 88));have hr:=hr0.below (qac w0 (.cells #[.string ByteArray.empty,.int .i64 0] 88));have hg0:w0.grownBy (w0.alloc (.cells #[.string ByteArray.empty,.int .i64 0] 88)) (some q):=World.grownBy_alloc _ _ _;have hq0:q≠w0.heap.size:=Nat.ne_of_lt hR0.lt;obtain⟨r0,hr0e⟩ : ∃r0,w0.heap.size=r0:=⟨_,rfl⟩;go_enter Tryz.func170,Tryz.ntmps170;go_wp2;have hE:w0.alloc (.cells #[.string ⟨#[]⟩,.int .i64 0] 88)=w0.alloc (.cells #[.string ByteArray.empty,.int .i64 0] 88):=rfl;rw[hE];clear hE;generalize hw:w0.alloc (.cells #[.string ByteArray.empty,.int .i64 0] 88)=w at *;refine qdq (by kernel_rfl) rfl (RW w.heap.size) (fun i v u=>match i with
  |0=>v=.func (.func 156) #[] #[]
  |1=>v=.pointer (some ⟨q,0,none⟩)
  |2=>v=.pointer (some ⟨q,0,none⟩)
  |3=>v=.pointer (some ⟨q,0,none⟩)
  |4=>v=.slice ao n cap
  |5=>v=.pointer (some ⟨q,0,none⟩)
  |6=>v=.pointer (some ⟨q,0,none⟩)
  |7=>v=.pointer (some ⟨q,1,none⟩)
  |8=>v=.int .i64 (p:Nat)
  |9=>v=rWan (gN l p)
  |10=>v=rWan (gN l p)
  |11=>v=.agg #[.string (xV (ByteArray.empty,0) (gN l p)).1,.int .i64 (xV (ByteArray.empty,0) (gN l p)).2]
  |12=>v=.int .i64 (xK (gN l p):Nat)
  |13=>v=.bool (gN l p).isSome
  |14=>∃b:Nat,v=.pointer (some ⟨b,0,none⟩)∧w.heap.size≤b∧∃x y,Row u b #[.string x,.int .i64 y] 88
  |15=>True
  |16=>v=.int .i64 (xK (gN l p):Nat)
  |17=>v=.bool (gN l p).isSome
  |_=>True) (fun i a u=>if i=15 then ∃b:Nat,a.tmps[5]? = some (.pointer (some ⟨b,0,none⟩))∧w.heap.size≤b∧Row u b #[.string (xV (ByteArray.empty,0) (gN l p)).1,.int .i64 (xV (ByteArray.empty,0) (gN l p)).2] 88 else True) ?_ ?_ ?_ ?_ ?_
 ·intro i u u' hr hb;unfold RW at hr
  split at hr
  ·exact hb.trans hr.1
  ·exact hb.trans (hr.mono hb.size)
 ·intro i0 i v u u' hne hx h
  match i,h with
  |0,h|1,h|2,h|3,h|4,h|5,h|6,h|7,h|8,h|9,h|10,h|11,h|12,h|13,h=>exact h
  |14,h=>(
   obtain⟨b1,e1,h1,x1,y1,r1⟩:=h;unfold RW at hx
   split at hx
   ·obtain⟨x2,y2,r2⟩:=hx.2 b1 x1 y1 r1;exact⟨b1,e1,h1,x2,y2,r2⟩
   ·exact⟨b1,e1,h1,x1,y1,r1.next hx⟩)
  |15,h|16,h|17,h=>exact h
  |(_+18),h=>trivial
 ·intro i j o oj a v u u' hi hj hne hdj hx hS
  by_cases h15:j=15
  ·subst h15;rw[if_pos rfl] at hS ⊢;obtain⟨b1,e1,h1,r1⟩:=hS;have h14:i≠14:=by
    rintro rfl;cases hj
    exact hdj ⟨14,.data⟩ (by simp) rfl rfl
   unfold RW at hx;rw[if_neg (fun e=>hne e.symm)] at hx;refine⟨b1,?_,h1,r1.next hx⟩;rw[qdt _ _ _ _ ?_]
   ·exact e1
   ·match i,hi,h14 with
    |0,hi,_=>cases hi;exact by decide
    |1,hi,_=>cases hi;exact by decide
    |2,hi,_=>cases hi;exact by decide
    |3,hi,_=>cases hi;exact by decide
    |4,hi,_=>cases hi;exact by decide
    |5,hi,_=>cases hi;exact by decide
    |6,hi,_=>cases hi;exact by decide
    |7,hi,_=>cases hi;exact by decide
    |8,hi,_=>cases hi;exact by decide
    |9,hi,_=>cases hi;exact by decide
    |10,hi,_=>cases hi;exact by decide
    |11,hi,_=>cases hi;exact by decide
    |12,hi,_=>cases hi;exact by decide
    |13,hi,_=>cases hi;exact by decide
    |16,hi,_=>cases hi;exact by decide
    |17,hi,_=>cases hi;exact by decide
    |14,_,h=>exact absurd rfl h
    |15,_,_=>exact absurd rfl hne
    |(_+18),hi,_=>cases hi
  ·rw[if_neg h15];trivial
 ·intro i o a u hi hk hbu hdep
  match i,hi with
  |0,hi=>cases hi;exact (qbd _ rfl (qevv hk 1 rfl rfl) ⟨_,rfl,Below.refl _ _,rfl,trivial⟩)
  |1,hi=>cases hi;exact (qbd _ rfl (qevv hk 0 rfl rfl) ⟨_,rfl,Below.refl _ _,rfl,trivial⟩)
  |2,hi=>cases hi;obtain⟨z1,hz1,rfl,_⟩:=hdep 1 _ rfl rfl;replace hz1:=hz1 _ rfl;exact (z_nil _ rfl (qab hz1) ⟨_,rfl,Below.refl _ _,rfl,trivial⟩)
  |3,hi=>cases hi;obtain⟨z2,hz2,rfl,_⟩:=hdep 2 _ rfl rfl;replace hz2:=hz2 _ rfl;exact (z_fld (X:=⟨q,0,none⟩) (Y:=⟨q,0,none⟩) 187 _ 0 rfl (qab hz2) (fun _=>by kernel_rfl) ⟨_,rfl,Below.refl _ _,rfl,trivial⟩)
  |4,hi=>cases hi;obtain⟨z3,hz3,rfl,_⟩:=hdep 3 _ rfl rfl;replace hz3:=hz3 _ rfl;exact (z_ld 22 _ rfl (qab hz3) (by kernel_rfl) ((hR.next hbu).cell 0 rfl) ⟨_,rfl,Below.refl _ _,rfl,trivial⟩)
  |5,hi=>cases hi;exact (qbd _ rfl (qevv hk 0 rfl rfl) ⟨_,rfl,Below.refl _ _,rfl,trivial⟩)
  |6,hi=>cases hi;obtain⟨z5,hz5,rfl,_⟩:=hdep 5 _ rfl rfl;replace hz5:=hz5 _ rfl;exact (z_nil _ rfl (qab hz5) ⟨_,rfl,Below.refl _ _,rfl,trivial⟩)
  |7,hi=>cases hi;obtain⟨z6,hz6,rfl,_⟩:=hdep 6 _ rfl rfl;replace hz6:=hz6 _ rfl;exact (z_fld (X:=⟨q,0,none⟩) (Y:=⟨q,1,none⟩) 187 _ 1 rfl (qab hz6) (fun _=>by kernel_rfl) ⟨_,rfl,Below.refl _ _,rfl,trivial⟩)
  |8,hi=>cases hi;obtain⟨z7,hz7,rfl,_⟩:=hdep 7 _ rfl rfl;replace hz7:=hz7 _ rfl;exact (z_ld 3 _ rfl (qab hz7) (by kernel_rfl) ((hR.next hbu).cell 1 rfl) ⟨_,rfl,Below.refl _ _,rfl,trivial⟩)
  |9,hi=>cases hi;obtain⟨z0,hz0,rfl,_⟩:=hdep 0 _ rfl rfl;replace hz0:=hz0 _ rfl;obtain⟨z4,hz4,rfl,_⟩:=hdep 4 _ rfl rfl;replace hz4:=hz4 _ rfl;obtain⟨z8,hz8,rfl,_⟩:=hdep 8 _ rfl rfl;replace hz8:=hz8 _ rfl;refine (qal (qex _ _ _ _ _ _ _ _ _ cf_getWant (qab hz0) (qab hz4) (qab hz8) _ _ _ _ _ _) ?_);refine (qvb ao n cap p l u (hr.below hbu) hn).mono ?_;rintro e' u' ⟨rfl,hb⟩;exact⟨_,rfl,_,rfl,hb,rfl,trivial⟩
  |10,hi=>cases hi;obtain⟨z9,hz9,rfl,_⟩:=hdep 9 _ rfl rfl;replace hz9:=hz9 _ rfl;exact (qbd _ rfl (qab hz9) ⟨_,rfl,Below.refl _ _,rfl,trivial⟩)
  |11,hi=>cases hi;obtain⟨z10,hz10,rfl,_⟩:=hdep 10 _ rfl rfl;replace hz10:=hz10 _ rfl;exact (z_ext _ 0 rfl (qab hz10) rfl ⟨_,rfl,Below.refl _ _,rfl,trivial⟩)
  |12,hi=>cases hi;obtain⟨z10,hz10,rfl,_⟩:=hdep 10 _ rfl rfl;replace hz10:=hz10 _ rfl;exact (z_ext _ 1 rfl (qab hz10) rfl ⟨_,rfl,Below.refl _ _,rfl,trivial⟩)
  |13,hi=>cases hi;obtain⟨z10,hz10,rfl,_⟩:=hdep 10 _ rfl rfl;replace hz10:=hz10 _ rfl;exact (z_ext _ 2 rfl (qab hz10) rfl ⟨_,rfl,Below.refl _ _,rfl,trivial⟩)
  |14,hi=>cases hi;exact (qae (w':=u.alloc (.cells #[.string ByteArray.empty,.int .i64 0] 88)) (v:=.pointer (some ⟨u.heap.size,0,none⟩)) (by simp only[execOp,Sem.run_bind,alloc_runW,Result.andThen_ok,Sem.run_pure]) ⟨_,rfl,qac _ _,⟨_,rfl,hbu.size,_,_,Row.new _ _ _⟩,trivial⟩)
  |15,hi=>
   cases hi;obtain⟨z14,hz14,⟨b,rfl,hb,x5,y5,r5⟩,_⟩:=hdep 14 _ rfl rfl;replace hz14:=hz14 _ rfl;obtain⟨z11,hz11,rfl,_⟩:=hdep 11 _ rfl rfl;replace hz11:=hz11 _ rfl;refine wp_store_row 88 _ _ rfl b #[.string (xV (ByteArray.empty,0) (gN l p)).1,.int .i64 (xV (ByteArray.empty,0) (gN l p)).2] (qab hz14) (qab hz11) 88 #[.string x5,.int .i64 y5] r5 (infoW2.trans rfl) rfl (by simp[Value.oneCell']) ?_;refine⟨_,rfl,⟨⟨rfl,rfl,rfl,by simp,fun k hk=>setRow_other u b k _ (fun e=>by omega)⟩,fun k x y hk=>?_⟩,trivial,b,hz14,hb,setRow_heap u b _ _ _ (0,0) r5⟩
   by_cases e:k=b
   ·subst e;exact⟨_,_,setRow_heap u k _ _ _ (0,0) r5⟩
   ·exact⟨x,y,(setRow_other u b k _ e).trans hk⟩
  |16,hi=>cases hi;obtain⟨z12,hz12,rfl,_⟩:=hdep 12 _ rfl rfl;replace hz12:=hz12 _ rfl;exact (z_asg _ rfl (qab hz12) ⟨_,rfl,Below.refl _ _,rfl,trivial⟩)
  |17,hi=>cases hi;obtain⟨z13,hz13,rfl,_⟩:=hdep 13 _ rfl rfl;replace hz13:=hz13 _ rfl;exact (z_asg _ rfl (qab hz13) ⟨_,rfl,Below.refl _ _,rfl,trivial⟩)
  |(_+18),hi=>cases hi
 intro vs u9 hb9 hG a3_ h3 hS_;have S5:=hS_ 15 (by decide);rw[if_pos rfl] at S5;clear hS_;have e16:=hG 16 (by decide);replace e16:vs 16=.int .i64 (xK (gN l p):Nat):=e16;have e17:=hG 17 (by decide);replace e17:vs 17=.bool (gN l p).isSome:=e17;clear hG;replace h3:puts _ 2 _ (Fq43)=_:=h3;replace h3:puts _ 4 _ (Fq43)=_:=h3;replace h3:puts _ 6 _ (Fq43)=_:=h3;replace h3:puts _ 8 _ (Fq43)=_:=h3;replace h3:puts _ 10 _ (Fq43)=_:=h3;replace h3:puts _ 12 _ (Fq43)=_:=h3;replace h3:puts _ 14 _ (Fq43)=_:=h3;replace h3:puts _ 16 _ (Fq43)=_:=h3;replace h3:Fq43=_:=h3;unfold Fq43 at h3;subst h3;obtain⟨b,eb,hbn,rB⟩:=S5;replace eb:some (vs 14)=some (.pointer (some ⟨b,0,none⟩)):=eb;obtain eb:=Option.some.inj eb;simp only[eb,e16,e17];clear eb e16 e17;have R9:RB u9 q ao n cap p e:=hR.next hb9;have A9:Row u9 r0 #[.string ByteArray.empty,.int .i64 0] 88:=by rw[←hr0e];exact hA0.next hb9
 have c0:=R9.cell 0 rfl;have c1:=R9.cell 1 rfl;have c2:=R9.cell 2 rfl;have z1:=Lib.frozen_of_heap R9 1;have z2:=Lib.frozen_of_heap R9 2;have k0:=rB.cell 0 rfl;have k1:=rB.cell 1 rfl;have a0:=A9.cell 0 rfl;have a1:=A9.cell 1 rfl;have y0:=Lib.frozen_of_heap A9 0;have y1:=Lib.frozen_of_heap A9 1;have g9:w0.grownBy u9 (some q):=qap hg0 (qdv hb9);have hq9:q≠r0:=by omega
 have hrb:r0≠b:=by have:=hA0.lt;omega
 have hqb:q≠b:=by have:=hR.lt;omega
 cases hg:gN l p with
 |none=>
  have HR:Hid (rd gN (ByteArray.empty,0) l (p,e)=((ByteArray.empty,0),n,true)):=by rw[←hl];exact rd_no hg
  rw[hg] at k0 k1;simp only[xV,xK,Option.isSome_none] at k0 k1 ⊢;have R2:=(R9.set n).fail;have G2:=(g9.trans_same (qai u9 q 1 (.int .i64 (n:Nat)))).trans_same (qai _ q 2 (.iface 98 (.agg #[.int .i64 2])));have A2:Row ((u9.setCell ⟨q,1,none⟩ (.int .i64 (n:Nat))).setCell ⟨q,2,none⟩ (.iface 98 (.agg #[.int .i64 2]))) r0 #[.string ByteArray.empty,.int .i64 0] 88:=(Below.heap_setCell _ _ _ _ (fun h=>hq9 h.symm)).trans ((Below.heap_setCell _ _ _ _ (fun h=>hq9 h.symm)).trans A9);have B2:Row ((u9.setCell ⟨q,1,none⟩ (.int .i64 (n:Nat))).setCell ⟨q,2,none⟩ (.iface 98 (.agg #[.int .i64 2]))) b #[.string ByteArray.empty,.int .i64 0] 88:=(Below.heap_setCell _ _ _ _ (fun h=>hqb h.symm)).trans ((Below.heap_setCell _ _ _ _ (fun h=>hqb h.symm)).trans (by rw[hg] at rB;exact rB));clear hg hl hr hR;go_wp2;refine bodyPost_ret (v:=.agg #[.string ByteArray.empty,.int .i64 0]) ?_ rfl ?_
  ·have C0:=(A2.set2 ByteArray.empty 0).cell 0 rfl;have C1:=(A2.set2 ByteArray.empty 0).cell 1 rfl;simp[results,Tryz.results170,go_sem,C0,C1]
  ·rw[HR.out];exact⟨rfl,want_rb R2 (fun h=>hq9 h),want_gr G2 r0 (Nat.le_of_eq hr0e)⟩
 |some xk=>
  obtain⟨x,k⟩:=xk;have HR:Hid (rd gN (ByteArray.empty,0) l (p,e)=(x,k,e)):=qcs hg;rw[hg] at k0 k1;simp only[xV,xK,Option.isSome_some] at k0 k1 ⊢;have R2:=R9.set k;have G2:=g9.trans_same (qai u9 q 1 (.int .i64 (k:Nat)));have A2:Row (u9.setCell ⟨q,1,none⟩ (.int .i64 (k:Nat))) r0 #[.string ByteArray.empty,.int .i64 0] 88:=(Below.heap_setCell _ _ _ _ (fun h=>hq9 h.symm)).trans A9;clear hg hl hr hR;go_wp2;refine bodyPost_ret (v:=.agg #[.string x.1,.int .i64 x.2]) ?_ rfl ?_
  ·have C0:=(A2.set2 x.1 x.2).cell 0 rfl;have C1:=(A2.set2 x.1 x.2).cell 1 rfl;simp[results,Tryz.results170,go_sem,C0,C1]
  ·rw[HR.out];exact⟨rfl,want_rb R2 (fun h=>hq9 h),want_gr G2 r0 (Nat.le_of_eq hr0e)⟩
