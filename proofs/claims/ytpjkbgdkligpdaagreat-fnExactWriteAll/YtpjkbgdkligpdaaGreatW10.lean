/- Lemmas. -/
import Derived.Test.YtpjkbgdkligpdaaGreatW09
import Derived.Test.YtpjkbgdkligpdaaGreatW07
set_option linter.unusedVariables false
set_option linter.unusedSimpArgs false
set_option maxRecDepth 100000
set_option maxHeartbeats 20000000
namespace Go.Proofs.YtpjkbgdkligpdaaGreat
open Go.RowKit

def moreB (n:Nat):UInt8:=UInt8.ofNat (n%128+128)
def lenF:Nat→Nat→List UInt8
 |0,n=>[UInt8.ofNat n]
 |f+1,n=>if n<128 then [UInt8.ofNat n] else moreB n :: lenF f (n / 128)

def lenB (n:Int):List UInt8:=if 0≤n∧n≤268435455 then lenF 3 n.toNat else []

theorem qig (f n:Nat) (h:n<128):lenF f n = [UInt8.ofNat n]:=by
 cases f with
 |zero=>rfl
 |succ f=>simp[lenF,h]
theorem qkn (f n:Nat) (h:¬n<128):lenF (f+1) n=moreB n :: lenF f (n / 128):=by simp[lenF,h]
theorem lenF_len (f n:Nat):1≤(lenF f n).length∧(lenF f n).length≤f+1:=by
 induction f generalizing n with
 |zero=>simp[lenF]
 |succ f ih=>
  by_cases h:n<128
  ·rw[qig _ _ h];simp
  ·rw[qkn _ _ h];have:=ih (n / 128);simp;omega
theorem qow {n:Int} (h:n<0∨268435455<n):lenB n = []:=by
 unfold lenB;rw[if_neg (by omega)]
theorem lenB_nat {k:Nat} (h:k≤268435455):lenB (k:Int)=lenF 3 k:=by
 unfold lenB;rw[if_pos (by omega)];simp
theorem qmy (n:Int):(lenB n).length≤4:=by
 unfold lenB
 split
 ·exact (lenF_len 3 _).2
 ·simp

theorem or128 (x:Nat):bits .or .u8 ((x:Int)%256) 128=((x%128+128:Nat):Int):=by
 have h:∀y:Fin 256,bits .or .u8 (y.val:Int) 128=((y.val%128+128:Nat):Int):=by decide +kernel
 have:=h ⟨x%256,Nat.mod_lt _ (by omega)⟩;simp only at this;rw[show ((x%256:Nat):Int)=(x:Int)%256 from by omega] at this;rw[this];omega
theorem qpc (w:World) (k:Nat) (V:Int) (hV:V=((k%256:Nat):Int)):RdIn (w.alloc (.cells #[.int .u8 V] 5)) (some ⟨w.heap.size,0,none⟩) 1 1 [UInt8.ofNat k]:=by
 subst hV;refine⟨⟨rfl,fun i hi=>⟨_,_,rfl,?_⟩⟩,Nat.le_refl _,by unfold maxLen;omega,fun h=>by simp at h⟩;obtain rfl:i=0:=by omega
 have e:((bt [UInt8.ofNat k] 0:Nat):Int)=((k%256:Nat):Int):=by
  show (((UInt8.ofNat k).toNat:Nat):Int)=_;simp
 rw[e];simp

theorem rd_more (w:World) (k:Nat) (V:Int) (hV:V=((k%128+128:Nat):Int)):RdIn (w.alloc (.cells #[.int .u8 V] 5)) (some ⟨w.heap.size,0,none⟩) 1 1 [moreB k] :=
 qpc w (k%128+128) V (by omega)

theorem qng (w:World) (B:Nat):Own w B none 0 0 []:=⟨rfl,rfl,.inl ⟨rfl,rfl⟩⟩

theorem qmz (N:Nat) (x:Int) (w:World) (hN:(lenB x).length=N) :
  Calls Tryz.prog 58 #[.int .i64 x] w fun e w'=>∃ao cap,e=.returned (.slice ao N cap)∧Own w' w.heap.size ao N cap (lenB x)∧Below w.heap.size w w':=by
 by_cases h0:x<0
 ·have HL:Hid (lenB x = []):=qow (.inl h0);rw[HL.out] at hN;subst hN;go_enter Tryz.func58,Tryz.ntmps58;go_wp2;go_ret;exact⟨none,0,rfl,by rw[HL.out];exact qng _ _,Below.refl _ _⟩
 by_cases h1:268435455<x
 ·have HL:Hid (lenB x = []):=qow (.inr h1);rw[HL.out] at hN;subst hN;go_enter Tryz.func58,Tryz.ntmps58;go_wp2;go_ret;exact⟨none,0,rfl,by rw[HL.out];exact qng _ _,Below.refl _ _⟩
 obtain⟨k,rfl⟩:=Int.eq_ofNat_of_zero_le (show 0≤x by omega);have hk:k≤268435455:=by omega
 have HB:Hid (lenB (k:Int)=lenF 3 k):=lenB_nat hk;have HN:Hid ((lenF 3 k).length=N):=by rw[←HB.out];exact hN
 clear hN;go_enter Tryz.func58,Tryz.ntmps58;go_wp2
 go_loopw [0,3] (fun n v wr=>∃(m f j:Nat) (a:Option Addr) (c:Nat) (acc:List UInt8),n=.int .i64 m∧v=.slice a j c∧j+f=3∧m<128 ^ (f+1)∧acc++lenF f m=lenF 3 k∧Own wr w.heap.size a j c acc∧Below w.heap.size w wr) (fun n _ _=>(intOf n).toNat)
 case atStart=>exact⟨k,3,0,none,0,[],rfl,rfl,rfl,by omega,rfl,qng _ _,Below.refl _ _⟩
 case round=>
  obtain⟨m,f,j,a,c,acc,rfl,rfl,hj,hm,hacc,ho,hb⟩:=hrel;have HA:Hid (acc++lenF f m=lenF 3 k):=hacc;have HM:Hid (m<128 ^ (f+1)):=hm;have hm4:m<268435456:=Nat.lt_of_lt_of_le hm (Nat.pow_le_pow_right (show 0<128 by omega) (show f+1≤4 by omega));clear hacc hm
  by_cases hlt:m<128
  ·have h':¬(128:Int)≤m:=by omega
   have HF:Hid (lenF f m = [UInt8.ofNat m]):=qig f m hlt;go_wp2_with (at_builtin;refine w_app _ rfl _ _ rfl w.heap.size _ _ _ acc rfl (ho.alloc _) _ _ _ [UInt8.ofNat m] rfl (qpc wr m _ (by omega)) (by omega) (by have:=hb.size;simp;omega) ?_)
   intro a2 c2 w2 ho2 hg2;have hb2:=qas (hb.alloc hb.size _) (by have:=hb.size;simp;omega) (ho.alloc _) hg2;rw[←HF.out,HA.out] at ho2;obtain rfl:j+1=N:=ho2.1.symm.trans HN.out;go_wp2;go_ret;exact⟨a2,c2,rfl,by rw[HB.out];exact ho2,hb2⟩
  ·have h':(128:Int)≤m:=by omega
   have hor:=or128 m;cases f with
   |zero=>have:=HM.out;omega
   |succ f=>
    have HF:Hid (lenF (f+1) m=moreB m :: lenF f (m / 128)):=qkn f m hlt;have HD:Hid (m / 128<128 ^ (f+1)):=Nat.div_lt_of_lt_mul (by have:=HM.out;rw[Nat.pow_succ] at this;omega);go_wp2_with (at_builtin;refine w_app _ rfl _ _ rfl w.heap.size _ _ _ acc rfl (ho.alloc _) _ _ _ [moreB m] rfl (rd_more wr m _ (by omega)) (by omega) (by have:=hb.size;simp;omega) ?_)
    intro a2 c2 w2 ho2 hg2;have hb2:=qas (hb.alloc hb.size _) (by have:=hb.size;simp;omega) (ho.alloc _) hg2;clear hg2 ho hb;go_wp2;go_roundw
    case rel=>
     refine⟨m / 128,f,j+1,a2,c2,_,by go_num,rfl,by omega,HD.out,?_,ho2,hb2⟩;rw[←HA.out,HF.out,List.append_assoc];rfl
    case measure=>simp[intOf];omega

theorem qbq (ao:Option Addr) (n cap:Nat) (l:List UInt8) (ax:Option Addr) (m c:Nat) (x:List UInt8) (w:World) (hr:RdIn w ao n cap l) (hx:RdIn w ax m c x) (hn:n≤1099511627000) (hm:m≤1099511627000) :
  Calls Tryz.prog 38 #[.slice ao n cap,.slice ax m c] w fun e w'=>∃ao' cap',e=.returned (.slice ao' (n+m) cap')∧Own w' w.heap.size ao' (n+m) cap' (l++x)∧Below w.heap.size w w':=by
 go_enter Tryz.func38,Tryz.ntmps38;go_wp2_with fail
 refine (qcc _ _ _ m l _ hr (by omega) (by omega)).mono ?_;rintro e w1 ⟨a1,c1,rfl,ho1,hb1⟩;go_wp2_with (at_builtin;refine w_app _ rfl _ _ rfl w.heap.size _ _ _ l rfl ho1 _ _ _ x rfl (hx.below hb1) (by omega) hb1.size ?_)
 intro a2 c2 w2 ho2 hg2;go_wp2;go_ret;exact⟨a2,c2,rfl,ho2,qas hb1 hb1.size ho1 hg2⟩

theorem qpa (N:Nat) (ao:Option Addr) (n cap:Nat) (x:Int) (l:List UInt8) (w:World) (hN:(lenB x).length=N) (hr:RdIn w ao n cap l) (hn:n≤1099511627000) :
  Calls Tryz.prog 36 #[.slice ao n cap,.int .i64 x] w fun e w'=>∃ao' cap',e=.returned (.slice ao' (n+N) cap')∧Own w' w.heap.size ao' (n+N) cap' (l++lenB x)∧Below w.heap.size w w':=by
 have hle:=qmy x;rw[hN] at hle;go_enter Tryz.func36,Tryz.ntmps36;go_wp2_with fail
 refine (qmz N x _ hN).mono ?_;rintro e w1 ⟨a1,c1,rfl,ho1,hb1⟩;go_wp2_with fail
 refine (qbq _ _ _ l _ _ _ (lenB x) _ (hr.below hb1) ho1.rd hn (by omega)).mono ?_;rintro e w2 ⟨a2,c2,rfl,ho2,hb2⟩;go_wp2;go_ret;exact⟨a2,c2,rfl,ho2.mono hb1.size,qea hb1 hb2⟩

theorem qpb (N:Nat) (ao:Option Addr) (n cap:Nat) (x:Int) (l:List UInt8) (w:World) (hN:(lenB x).length=N) (hr:RdIn w ao n cap l) (hn:n≤1099511627000) :
  Calls Tryz.prog 29 #[.slice ao n cap,.int .i64 x] w fun e w'=>∃ao' cap',e=.returned (.slice ao' (n+N) cap')∧Own w' w.heap.size ao' (n+N) cap' (l++lenB x)∧Below w.heap.size w w':=by
 by_cases hin:0≤x∧x≤268435455
 ·obtain⟨k,rfl⟩:=Int.eq_ofNat_of_zero_le hin.1;have hk:k≤268435455:=by omega
  have HB:Hid (lenB (k:Int)=lenF 3 k):=lenB_nat hk;have HN:Hid ((lenF 3 k).length=N):=by rw[←HB.out];exact hN
  have hI:decide ((0:Int)≤(k:Int)∧(k:Int)≤268435455)=true:=decide_eq_true ⟨by omega,by omega⟩;have HL:Hid (l.length=n):=hr.1.1;clear hN hin;go_enter Tryz.func29,Tryz.ntmps29;go_wp2_with (at_builtin;refine w_app _ rfl _ _ rfl w.heap.size _ 0 _ [] rfl (qby w) _ _ _ l rfl (hr.alloc _) (by omega) (by simp) ?_)
  intro a1 c1 w1 ho1 hg1;have hb1:Below w.heap.size w w1:=qas ((Below.refl _ _).alloc (Nat.le_refl _) _) (by simp) (qby w) hg1;clear hg1;go_wp2_with fail
  refine (qan _ _ _ true _ hI).mono ?_;rintro e w2 ⟨rfl,rfl⟩;go_wp2
  go_loopw [1,5] (fun q v wr=>∃(m f j:Nat) (a:Option Addr) (c:Nat) (acc:List UInt8),q=.int .i64 m∧v=.slice a (n+j) c∧j+f=3∧m<128 ^ (f+1)∧acc++lenF f m=lenF 3 k∧Own wr w.heap.size a (n+j) c (l++acc)∧Below w.heap.size w wr) (fun q _ _=>(intOf q).toNat)
  case atStart=>exact⟨k,3,0,a1,c1,[],rfl,by simp,rfl,by omega,rfl,by simpa using ho1,hb1⟩
  case round=>
   obtain⟨m,f,j,a,c,acc,rfl,rfl,hj,hm,hacc,ho,hb⟩:=hrel;have HA:Hid (acc++lenF f m=lenF 3 k):=hacc;have HM:Hid (m<128 ^ (f+1)):=hm;have hm4:m<268435456:=Nat.lt_of_lt_of_le hm (Nat.pow_le_pow_right (show 0<128 by omega) (show f+1≤4 by omega));clear hacc hm
   by_cases hlt:m<128
   ·have h':¬(127:Int)<m:=by omega
    have HF:Hid (lenF f m = [UInt8.ofNat m]):=qig f m hlt;go_wp2_with (at_builtin;refine w_app _ rfl _ _ rfl w.heap.size _ _ _ (l++acc) rfl (ho.alloc _) _ _ _ [UInt8.ofNat m] rfl (qpc wr m _ (by omega)) (by omega) (by have:=hb.size;simp;omega) ?_)
    intro a2 c2 w2 ho2 hg2;have hb2:=qas (hb.alloc hb.size _) (by have:=hb.size;simp;omega) (ho.alloc _) hg2;rw[←HF.out,HA.out] at ho2;obtain rfl:j+1=N:=by
     have h1:=ho2.1;have h2:=HN.out;have h3:=HL.out;rw[List.length_append] at h1;omega
    go_wp2;go_ret;exact⟨a2,c2,rfl,by rw[HB.out];exact ho2,hb2⟩
   ·have h':(127:Int)<m:=by omega
    cases f with
    |zero=>have:=HM.out;omega
    |succ f=>
     have HF:Hid (lenF (f+1) m=moreB m :: lenF f (m / 128)):=qkn f m hlt;have HD:Hid (m / 128<128 ^ (f+1)):=Nat.div_lt_of_lt_mul (by have:=HM.out;rw[Nat.pow_succ] at this;omega);go_wp2_with (at_builtin;refine w_app _ rfl _ _ rfl w.heap.size _ _ _ (l++acc) rfl (ho.alloc _) _ _ _ [moreB m] rfl (rd_more wr m _ (by omega)) (by omega) (by have:=hb.size;simp;omega) ?_)
     intro a2 c2 w2 ho2 hg2;have hb2:=qas (hb.alloc hb.size _) (by have:=hb.size;simp;omega) (ho.alloc _) hg2;clear hg2 ho hb;go_wp2;go_roundw
     case rel=>
      refine⟨m / 128,f,j+1,a2,c2,_,by go_num,rfl,by omega,HD.out,?_,ho2,hb2⟩;rw[←HA.out,HF.out,List.append_assoc];rfl
     case measure=>simp[intOf];omega
 ·have HB:Hid (lenB x = []):=qow (by omega);rw[HB.out] at hN;subst hN;have hI:decide ((0:Int)≤x∧x≤268435455)=false:=decide_eq_false hin;go_enter Tryz.func29,Tryz.ntmps29;go_wp2_with (at_builtin;refine w_app _ rfl _ _ rfl w.heap.size _ 0 _ [] rfl (qby w) _ _ _ l rfl (hr.alloc _) (by omega) (by simp) ?_)
  intro a1 c1 w1 ho1 hg1;have hb1:Below w.heap.size w w1:=qas ((Below.refl _ _).alloc (Nat.le_refl _) _) (by simp) (qby w) hg1;clear hg1;go_wp2_with fail
  refine (qan _ _ _ false _ hI).mono ?_;rintro e w2 ⟨rfl,rfl⟩;go_wp2;go_ret;exact⟨a1,c1,by simp,by rw[HB.out];simpa using ho1,hb1⟩


theorem qbt (P:Program) (u:World) (ρ:Operand→Value) (v:Value) (x:Operand) (f:FuncId) (hf:∀(xs:Array Value) (u:World),(callFunc f xs).run P u=.ok (.enter f xs) u) (hx:ρ x=v) (hr:∀g,ρ (.func g)=.func (.func g) #[] #[]) (d:Option Tmp) (t:TypeId) (p:String) (e:Array Edge) (g:Option (Nat×Bool)) (ts:Array TypeId) :
  (execOp ρ ⟨d,.call { callee:=.value (.func f),args:=#[x],argTypes:=ts },t,p,e,g⟩).run P u=.ok (.enter f #[v]) u:=by
 simp[execOp,hx,hr,resolve,invoke,go_sem,hf]
theorem qag (P:Program) (u:World) (ρ:Operand→Value) (v v':Value) (x y:Operand) (f:FuncId) (hf:∀(xs:Array Value) (u:World),(callFunc f xs).run P u=.ok (.enter f xs) u) (hx:ρ x=v) (hy:ρ y=v') (hr:∀g,ρ (.func g)=.func (.func g) #[] #[]) (d:Option Tmp) (t:TypeId) (p:String) (e:Array Edge) (g:Option (Nat×Bool)) (ts:Array TypeId) :
  (execOp ρ ⟨d,.call { callee:=.value (.func f),args:=#[x,y],argTypes:=ts },t,p,e,g⟩).run P u=.ok (.enter f #[v,v']) u:=by
 simp[execOp,hx,hy,hr,resolve,invoke,go_sem,hf]
section
variable {P : Program} {o : Oper} {a : Act} {w : World} {K : Act → World → Prop} {Q : Exit → Act → World → Prop}
theorem qad {v:Value} {w':World} (hx:(execOp a.eval o).run P w=.ok (.value v) w') (h:K (a.put o.dst v) w'):Oper.wp P o a w K Q:=by
 unfold Oper.wp;rw[hx];exact h
theorem qaj {f:FuncId} {args:Array Value} (hx:(execOp a.eval o).run P w=.ok (.enter f args) w) (h:Calls P f args w fun e w'=>∃v,e=.returned v∧K (a.put o.dst v) w'):Oper.wp P o a w K Q:=by
 unfold Oper.wp;rw[hx];refine Calls.mono h ?_;rintro e w' ⟨v,rfl,hh⟩;exact hh
end

def BlkL (w:World) (b:Nat) (p:Pk):Prop:=w.heap[b]? = some (.cells p.cells 27)
theorem BlkL.below {w w':World} {b B:Nat} {p:Pk} (h:BlkL w b p) (hb:Below B w w') (hB:b<B):BlkL w' b p:=(hb.block b hB).trans h
theorem BlkL.lt {w:World} {b:Nat} {p:Pk} (h:BlkL w b p):b<w.heap.size:=(Array.getElem?_eq_some_iff.1 h).1
theorem BlkL.next {w w':World} {b:Nat} {p:Pk} (h:BlkL w b p) (hb:Below w.heap.size w w'):BlkL w' b p:=h.below hb h.lt
theorem Blk.next {w w':World} {b:Nat} {p:Pk} (h:Blk w b p) (hb:Below w.heap.size w w'):Blk w' b p:=h.below hb h.lt
theorem qbk {o:Oper} {a:Act} {w:World} {K:Act→World→Prop} {Q:Exit→Act→World→Prop} {g:Nat} {p:Pk} (hB:Blk w g p) (x:Operand) (ho:o.op=.load 32 x)
  (hx:a.eval x=.pointer (some ⟨g,0,none⟩)) (h:K (a.put o.dst (.agg p.cells)) w):Oper.wp Tryz.prog o a w K Q :=
 wp_load_row 32 x ho g hx 32 p.cells (0,0) _ hB Tryz.underlying32 rfl (infoP.trans (by rw[Pk.csize])) h
def Pk.zero:Pk:=⟨0,false,0,false,0,ByteArray.empty,⟨none,0,0⟩,ByteArray.empty,0,false,0,false,ByteArray.empty,⟨none,0,0⟩,0,false,false,ByteArray.empty,false,⟨none,0,0⟩,0,false,⟨none,0,0⟩,⟨none,0,0⟩,⟨none,0,0⟩⟩
theorem qnp (w:World):(Instr.alloc 32 true (.tuple #[])).run Tryz.prog w=.ok (.pointer (some ⟨w.heap.size,0,none⟩)) (w.alloc (.cells Pk.zero.cells 32)):=by kernel_rfl
theorem setRow_new (w:World) (cs ds:Array Value) (t:TypeId):(w.alloc (.cells cs t)).setRow w.heap.size ds=w.alloc (.cells ds t):=by
 unfold World.setRow World.alloc
 congr 1
 apply Array.ext_getElem?
 intro i;simp only[Array.getElem?_modify,Array.getElem?_push]
 by_cases h:w.heap.size=i
 ·subst h;simp
 ·have h':¬i=w.heap.size:=fun e=>h e.symm
  simp[h,h']
theorem Pk.ones (p:Pk):p.cells.all (fun v=>v.oneCell')=true:=by
 simp[Pk.cells,Value.oneCell']
theorem qbe {ops:Array Oper} {rest:List Oper} {a:Act} {w:World} {Q:Exit→Act→World→Prop} {p:Pk} {d:Nat} {y:Operand} {t1 t2:TypeId} {p1 p2:String} {e1 e2:Array Edge}
  (hd:decide (d<a.tmps.size)=true) (hy:(a.put (some d) (.pointer (some ⟨w.heap.size,0,none⟩))).eval y=.agg p.cells)
  (h:wpList Tryz.prog ops Q rest (a.put (some d) (.pointer (some ⟨w.heap.size,0,none⟩))) (w.alloc (.cells p.cells 32))) :
  wpList Tryz.prog ops Q (⟨some d,.alloc 32,t1,p1,e1,none⟩ :: ⟨none,.store 32 (.tmp d) y,t2,p2,e2,none⟩ :: rest) a w:=by
 refine qbx (w':=w.alloc (.cells Pk.zero.cells 32)) (v:=.pointer (some ⟨w.heap.size,0,none⟩)) (qaa rfl _) ?_ ?_
 ·simp only[execOp,Sem.run_bind,qnp,Result.andThen_ok,Sem.run_pure]
 refine wpList_store_row rfl 32 (.tmp d) y rfl w.heap.size p.cells (qab (qde _ (of_decide_eq_true hd))) hy 32 Pk.zero.cells (heap_alloc_new _ _) (infoP.trans (by rw[Pk.csize])) rfl p.ones ?_;rw[setRow_new];exact h
theorem qaw {fn:Func} {R:Ending→World→Prop} {a:Act} {w:World} {g:Nat} {p:Pk} {t:Tmp} (hr:fn.results = #[.cell t 32]) (hp:a.tmps.getD t undef=.pointer (some ⟨g,0,none⟩)) (hB:Blk w g p) (hd:a.defers = [])
  (h:R (.returned (.agg p.cells)) w):bodyPost Tryz.prog fn R .ret a w :=
 bodyPost_ret (results_cell_row hr a.tmps w g 32 p.cells (0,0) _ hp hB Tryz.underlying32 rfl (infoP.trans (by rw[Pk.csize]))) hd h
theorem bel {w w1 w2:World} (h1:Below w.heap.size w w1) (h2:Below w1.heap.size w1 w2):Below w.heap.size w w2:=h1.trans (h2.mono h1.size)
theorem qae (w:World) (o:Obj):Below w.heap.size w (w.alloc o):=(Below.refl _ _).alloc (Nat.le_refl _) o

theorem ld_cell {P:Program} {w:World} {τ:TypeId} {d:TypeDesc} (hu:P.underlying τ=some d) (hd:(match d with | .struct _ | .array _ _=>true | _=>false)=false) {X:Addr} {v:Value} (h:w.cell? X=some v) :
  (Instr.loadAt τ (.pointer (some X))).run P w=.ok v w:=by
 have hagg:(isAgg τ).run P w=.ok false w:=by
  unfold isAgg;rw[Sem.run_bind,run_underlying hu w];cases d<;>simp_all
 simp[Instr.loadAt,Instr.sureAddr,loadVar,Sem.run_bind,hagg,h]
section
variable {P : Program} {o : Oper} {a : Act} {w : World} {K : Act → World → Prop} {Q : Exit → Act → World → Prop}
theorem z_move {v:Value} (x:Operand) (ho:o.op=.move x) (hx:a.eval x=v) (h:K (a.put o.dst v) w):Oper.wp P o a w K Q :=
 qad (w':=w) (v:=v) (by simp only[execOp,ho,hx,Sem.run_pure]) h
theorem z_fld {X Y:Addr} (T:TypeId) (x:Operand) (i:Nat) (ho:o.op=.fieldAddr T x i) (hx:a.eval x=.pointer (some X)) (hf:∀u:World,(Instr.fieldAt T (.pointer (some X)) i).run P u=.ok (.pointer (some Y)) u) (h:K (a.put o.dst (.pointer (some Y))) w):Oper.wp P o a w K Q :=
 qad (w':=w) (by simp only[execOp,ho,hx,Sem.run_bind,hf,Result.andThen_ok,Sem.run_pure]) h
theorem z_load {X:Addr} {v:Value} {d:TypeDesc} (τ:TypeId) (x:Operand) (ho:o.op=.load τ x) (hx:a.eval x=.pointer (some X)) (hu:P.underlying τ=some d) (hd:(match d with | .struct _ | .array _ _=>true | _=>false)=false) (hc:w.cell? X=some v) (h:K (a.put o.dst v) w):Oper.wp P o a w K Q:=by
 have hl:=ld_cell (P:=P) (w:=w) hu hd hc;exact qad (w':=w) (v:=v) (by simp only[execOp,ho,hx,Sem.run_bind,hl,Result.andThen_ok,Sem.run_pure]) h
theorem z_bin {v v' r:Value} (b:BinOp) (T T':TypeId) (x y:Operand) (ho:o.op=.binOp b T x y T') (hx:a.eval x=v) (hy:a.eval y=v') (hr:(do eqGuard b T x y v v';binOp b T v v':Sem Value).run P w=.ok r w) (h:K (a.put o.dst r) w):Oper.wp P o a w K Q :=
 qad (w':=w) (v:=r) (by simp only[execOp,ho,hx,hy];rw[Sem.run_bind,hr];rfl) h
theorem qgo {v r:Value} (s t:TypeId) (x:Operand) (ho:o.op=.convert s t x) (hx:a.eval x=v) (hr:(convert s t v).run P w=.ok r w) (h:K (a.put o.dst r) w):Oper.wp P o a w K Q :=
 qad (w':=w) (v:=r) (by simp only[execOp,ho,hx,Sem.run_bind,hr,Result.andThen_ok,Sem.run_pure]) h
theorem z_not {b:Bool} (T:TypeId) (x:Operand) (ho:o.op=.unOp .not T x) (hx:a.eval x=.bool b) (h:K (a.put o.dst (.bool (!b))) w):Oper.wp P o a w K Q :=
 qad (w':=w) (v:=.bool (!b)) (by simp[execOp,ho,hx,Op.unary]) h
theorem z_mk {parts:Array (Nat×Operand)} {vs:Array (Nat×Value)} {r:Value} {w':World} (t:TypeId) (n:Nat) (ho:o.op=.buildSlice t n parts) (hx:(parts.map fun (i,x)=>(i,a.eval x))=vs) (hr:(Instr.buildSlice t n vs).run P w=.ok r w') (h:K (a.put o.dst r) w'):Oper.wp P o a w K Q :=
 qad (w':=w') (v:=r) (by simp only[execOp,ho,hx,Sem.run_bind,hr,Result.andThen_ok,Sem.run_pure]) h
end

theorem mkb2 (x y:Int) (u:World):(Instr.buildSlice 22 2 #[(0,.int .u8 x),(1,.int .u8 y)]).run Tryz.prog u=.ok (.slice (some ⟨u.heap.size,0,none⟩) 2 2) (u.alloc (.cells #[.int .u8 x,.int .u8 y] 5)):=by
 kernel_rfl
theorem mkb1 (x:Int) (u:World):(Instr.buildSlice 22 1 #[(0,.int .u8 x)]).run Tryz.prog u=.ok (.slice (some ⟨u.heap.size,0,none⟩) 1 1) (u.alloc (.cells #[.int .u8 x] 5)):=by
 kernel_rfl
theorem cvb (x:Int) (u:World):(convert 3 5 (.int .i64 x)).run Tryz.prog u=.ok (.int .u8 (x%256)) u:=by
 simp[convert,go_sem,Conv.intToInt,IntKind.wrap_u8]
theorem addi (x y:Int) (u:World) (a b:Operand) (h:IntKind.i64.wrap (x+y)=x+y):(do eqGuard .add 3 a b (.int .i64 x) (.int .i64 y);binOp .add 3 (.int .i64 x) (.int .i64 y):Sem Value).run Tryz.prog u=.ok (.int .i64 (x+y)) u:=by
 simp[eqGuard,binOp,go_sem,h]
theorem muli (x y:Int) (u:World) (a b:Operand) (h:IntKind.i64.wrap (x*y)=x*y):(do eqGuard .mul 3 a b (.int .i64 x) (.int .i64 y);binOp .mul 3 (.int .i64 x) (.int .i64 y):Sem Value).run Tryz.prog u=.ok (.int .i64 (x*y)) u:=by
 simp[eqGuard,binOp,go_sem,h]

theorem mark_lS (B:Nat) (ao:Option Addr) (n cap k:Nat) (l:List ByteArray) (w:World) (ho:SOwn w B ao n cap l) (hn:n≤100000000000) (hk0:0<k) (hk:k≤100000000000) :
  Calls Tryz.prog 43 #[.slice ao n cap,.int .i64 k] w fun e w'=>e=.returned (.int .i64 ((k+n:Nat):Int))∧SOwn w' B ao n cap (mks k n)∧w.grownBy w' (Value.slice ao n cap).ownBlock:=by
 have HL:Hid (l.length=n):=ho.1;go_enter Tryz.func43,Tryz.ntmps43;go_wp2
 go_loopw [1,5] (fun q i wr=>∃j:Nat,i=.int .i64 j∧q=.int .i64 ((k+j:Nat):Int)∧j≤n∧SOwn wr B ao n cap (mks k j++l.drop j)∧w.grownBy wr (Value.slice ao n cap).ownBlock) (fun _ i _=>n-(intOf i).toNat)
 case atStart=>exact⟨0,rfl,rfl,Nat.zero_le _,by simpa[mks] using ho,World.grownBy.refl _ _⟩
 case round=>
  obtain⟨j,rfl,rfl,hj,hoj,hb⟩:=hrel
  by_cases hlt:j<n
  ·obtain⟨g,e⟩:=ho.head (by omega);subst e;have hgB:=(ho.block rfl).1;have hlt':(j:Int)<n:=by omega
   clear ho;go_wp2_with fail
   refine (qdy (k+j) wr (by omega) (by omega)).mono ?_;rintro e w1 ⟨rfl,hb1⟩;have ho1:=hoj.below hb1;have hb2:w.grownBy w1 (some g):=qgl hb hb1;clear hoj hb hb1;have hz:=ho1.cell j hlt;have hf:=ho1.frozen j;have HO:=ho1.store j (mtx (k+j));rw[mks_set l k n j HL.out hlt] at HO;have HO':Hid (SOwn (w1.setCell ⟨g,j,none⟩ (.string (mtx (k+j)))) B (some ⟨g,0,none⟩) n cap (mks k (j+1)++l.drop (j+1))):=HO;have HB:Hid (w.grownBy (w1.setCell ⟨g,j,none⟩ (.string (mtx (k+j)))) (some g)):=qjx hb2 j _;clear HO ho1 hb2;go_wp2;go_roundw
   case rel=>exact⟨j+1,by go_num,by go_num,by omega,HO'.out,HB.out⟩
   case measure=>simp[intOf]<;>omega
  ·have hlt':¬(j:Int)<n:=by omega
   obtain rfl:j=n:=by omega
   go_wp2;go_ret;refine⟨by simp,?_,hb⟩;have:=HL.out;rw[List.drop_of_length_le (by omega),List.append_nil] at hoj;exact hoj

theorem mark_lI (B:Nat) (ao:Option Addr) (n cap k:Nat) (l:List Int) (w:World) (ho:IOwn w B ao n cap l) (hn:n≤1099511627776) (hk:k≤1099511627776) :
  Calls Tryz.prog 44 #[.slice ao n cap,.int .i64 k] w fun e w'=>e=.returned (.int .i64 ((k+n:Nat):Int))∧IOwn w' B ao n cap (imks k n)∧w.grownBy w' (Value.slice ao n cap).ownBlock:=by
 have HL:Hid (l.length=n):=ho.1;go_enter Tryz.func44,Tryz.ntmps44;go_wp2
 go_loopw [1,5] (fun q i wr=>∃j:Nat,i=.int .i64 j∧q=.int .i64 ((k+j:Nat):Int)∧j≤n∧IOwn wr B ao n cap (imks k j++l.drop j)∧w.grownBy wr (Value.slice ao n cap).ownBlock) (fun _ i _=>n-(intOf i).toNat)
 case atStart=>exact⟨0,rfl,rfl,Nat.zero_le _,by simpa[imks] using ho,World.grownBy.refl _ _⟩
 case round=>
  obtain⟨j,rfl,rfl,hj,hoj,hb⟩:=hrel
  by_cases hlt:j<n
  ·obtain⟨g,e⟩:=ho.head (by omega);subst e;have hgB:=(ho.block rfl).1;have hlt':(j:Int)<n:=by omega
   have hz:=hoj.cell j hlt;have hf:=hoj.frozen j;have HO:=hoj.store j ((k+j:Nat):Int);rw[imks_set l k n j HL.out hlt] at HO;have HO':Hid (IOwn (wr.setCell ⟨g,j,none⟩ (.int .i64 ((k+j:Nat):Int))) B (some ⟨g,0,none⟩) n cap (imks k (j+1)++l.drop (j+1))):=HO;have HB:Hid (w.grownBy (wr.setCell ⟨g,j,none⟩ (.int .i64 ((k+j:Nat):Int))) (some g)):=qjx hb j _;clear HO hoj hb ho;go_wp2;go_roundw
   case rel=>exact⟨j+1,by go_num,by go_num,by omega,by simpa using HO'.out,by simpa[Value.ownBlock] using HB.out⟩
   case measure=>simp[intOf];omega
  ·have hlt':¬(j:Int)<n:=by omega
   obtain rfl:j=n:=by omega
   go_wp2;go_ret;refine⟨by simp,?_,hb⟩;have:=HL.out;rw[List.drop_of_length_le (by omega),List.append_nil] at hoj;exact hoj

theorem WOwn.grown {w w':World} {B:Nat} {ao:Option Addr} {n cap:Nat} {l:List (ByteArray×Int)} {row:Option Nat} (h:WOwn w B ao n cap l) (hg:w.grownBy w' row) (hne:∀a,ao=some a→some a.block≠row):WOwn w' B ao n cap l:=by
 refine⟨h.1,h.2.kept hg ?_⟩;cases ao with
 |none=>exact .inl rfl
 |some a=>exact .inr (hne a rfl)
theorem WOwn.block {w:World} {B:Nat} {ao:Option Addr} {n cap:Nat} {l:List (ByteArray×Int)} (h:WOwn w B ao n cap l) {a:Addr} (e:ao=some a):B≤a.block∧a.block<w.heap.size:=by
 subst e;exact h.2.lt _ rfl
theorem WOwn.head {w:World} {B:Nat} {ao:Option Addr} {n cap:Nat} {l:List (ByteArray×Int)} (h:WOwn w B ao n cap l) (hn:0<n):∃g,ao=some ⟨g,0,none⟩:=by
 rcases h.2.2 with ⟨e,h0⟩ | ⟨g,c,cur,e,_⟩
 ·omega
 ·simp only[Value.slice.injEq] at e;exact⟨g,e.1⟩
def wmks (k n:Nat):List (ByteArray×Int):=(List.range n).map fun i=>(mtx (k+2*i),((k+2*i+1:Nat):Int))
theorem qlo (k n:Nat):(wmks k n).length=n:=by simp[wmks]
theorem wmks_set (l:List (ByteArray×Int)) (k n j:Nat) (hl:l.length=n) (hj:j<n):(wmks k j++l.drop j).set j (mtx (k+2*j),((k+2*j+1:Nat):Int))=wmks k (j+1)++l.drop (j+1):=by
 rw[List.set_append_right _ _ (by rw[qlo];exact Nat.le_refl _),qlo,Nat.sub_self];rw[List.drop_eq_getElem_cons (by omega),List.set_cons_zero];simp only[wmks,List.range_succ,List.map_append,List.map_cons,List.map_nil,List.append_assoc];rfl
theorem mark_lW (B:Nat) (ao:Option Addr) (n cap k:Nat) (l:List (ByteArray×Int)) (w:World) (ho:WOwn w B ao n cap l) (hn:n≤100000000000) (hk0:0<k) (hk:k≤100000000000) :
  Calls Tryz.prog 42 #[.slice ao n cap,.int .i64 k] w fun e w'=>e=.returned (.int .i64 ((k+2*n:Nat):Int))∧WOwn w' B ao n cap (wmks k n)∧w.grownBy w' (Value.slice ao n cap).ownBlock:=by
 have HL:Hid (l.length=n):=ho.1;go_enter Tryz.func42,Tryz.ntmps42;go_wp2
 go_loopw [1,5] (fun q i wr=>∃j:Nat,i=.int .i64 j∧q=.int .i64 ((k+2*j:Nat):Int)∧j≤n∧WOwn wr B ao n cap (wmks k j++l.drop j)∧w.grownBy wr (Value.slice ao n cap).ownBlock) (fun _ i _=>n-(intOf i).toNat)
 case atStart=>exact⟨0,rfl,rfl,Nat.zero_le _,by simpa[wmks] using ho,World.grownBy.refl _ _⟩
 case round=>
  obtain⟨j,rfl,rfl,hj,hoj,hb⟩:=hrel
  by_cases hlt:j<n
  ·obtain⟨g,e⟩:=ho.head (by omega);subst e;have hgB:=(ho.block rfl).1;have hlt':(j:Int)<n:=by omega
   clear ho;go_wp2_with fail
   refine (qdy (k+2*j) wr (by omega) (by omega)).mono ?_;rintro e w1 ⟨rfl,hb1⟩;have ho1:=hoj.below hb1;have hb2:w.grownBy w1 (some g):=qgl hb hb1;clear hoj hb hb1;obtain⟨_,_,e0,hz0,hz1⟩:=ho1.rd.1.2 j hlt;simp only[Option.some.injEq,Addr.mk.injEq,and_true] at e0;obtain⟨rfl,rfl⟩:=e0;rw[Nat.zero_add] at hz0 hz1;have hf0:=ho1.frozen (j*2);have hf1:=ho1.frozen (j*2+1);have HO:=ho1.store j (mtx (k+2*j)) ((k+2*j+1:Nat):Int);rw[wmks_set l k n j HL.out hlt] at HO;have HO':Hid (WOwn ((w1.setCell ⟨g,j*2,none⟩ (.string (mtx (k+2*j)))).setCell ⟨g,j*2+1,none⟩ (.int .i64 ((k+2*j+1:Nat):Int))) B (some ⟨g,0,none⟩) n cap (wmks k (j+1)++l.drop (j+1))):=HO;have HB:Hid (w.grownBy ((w1.setCell ⟨g,j*2,none⟩ (.string (mtx (k+2*j)))).setCell ⟨g,j*2+1,none⟩ (.int .i64 ((k+2*j+1:Nat):Int))) (some g)):=qjx (qjx hb2 _ _) _ _;clear HO ho1 hb2;go_wp2;go_roundw
   case rel=>exact⟨j+1,by go_num,by go_num,by omega,by simpa using HO'.out,by simpa[Value.ownBlock] using HB.out⟩
   case measure=>simp[intOf]<;>omega
  ·have hlt':¬(j:Int)<n:=by omega
   obtain rfl:j=n:=by omega
   go_wp2;go_ret;refine⟨by simp,?_,hb⟩;have:=HL.out;rw[List.drop_of_length_le (by omega),List.append_nil] at hoj;exact hoj

def Pk.has (p:Pk) (k:Nat):Prop:=∃a:Addr,some a∈[p.bod.a,p.wb.a,p.pa.a,p.wan.a,p.nam.a,p.cds.a]∧a.block=k
structure Touch (F:Nat→Prop) (w w':World):Prop where
 os:w'.os=w.os
 tape:w'.tape=w.tape
 output:w'.output=w.output
 size:w.heap.size≤w'.heap.size
 block:∀k,k<w.heap.size→¬F k→w'.heap[k]? = w.heap[k]?
theorem Touch.refl (F:Nat→Prop) (w:World):Touch F w w:=⟨rfl,rfl,rfl,Nat.le_refl _,fun _ _ _=>rfl⟩
theorem Touch.trans {F:Nat→Prop} {w w1 w2:World} (h:Touch F w w1) (g:Touch F w1 w2):Touch F w w2 :=
 ⟨g.os.trans h.os,g.tape.trans h.tape,g.output.trans h.output,Nat.le_trans h.size g.size,fun k hk hn=>(g.block k (Nat.lt_of_lt_of_le hk h.size) hn).trans (h.block k hk hn)⟩
theorem Touch.below {F:Nat→Prop} {w w':World} {B:Nat} (h:Touch F w w') (hB:B≤w.heap.size) (hF:∀k,F k→B≤k):Below B w w' :=
 ⟨h.os,h.tape,h.output,h.size,fun k hk=>h.block k (by omega) (fun hf=>by have:=hF k hf;omega)⟩
theorem POwn.lt {w:World} {B:Nat} {p:Pk} {d:Pd} (h:POwn w B p d) {k:Nat} (hk:p.has k):B≤k∧k<w.heap.size:=by
 obtain⟨a,ha,rfl⟩:=hk;simp only[List.mem_cons,List.not_mem_nil,or_false] at ha
 rcases ha with ha | ha | ha | ha | ha | ha
 ·exact h.bod.block ha.symm
 ·exact h.wb.block ha.symm
 ·exact h.pa.block ha.symm
 ·exact h.wan.block ha.symm
 ·exact h.nam.block ha.symm
 ·exact h.cds.block ha.symm
theorem POwn.below {w w':World} {B:Nat} {p:Pk} {d:Pd} (h:POwn w B p d) (hb:Below w.heap.size w w'):POwn w' B p d :=
 ⟨h.bod.below hb,h.wb.below hb,h.pa.below hb,h.wan.below hb,h.nam.below hb,h.cds.below hb,h.dis⟩
theorem sl_row {s:Sl} {k:Nat} (h:(Value.slice s.a s.n s.c).ownBlock=some k):∃a,s.a=some a∧a.block=k:=by
 cases e:s.a with
 |none=>rw[e] at h;simp[Value.ownBlock] at h
 |some a=>rw[e] at h;exact⟨a,rfl,by simpa[Value.ownBlock] using h⟩
theorem qbb {s t:Sl} (h:Dis s.a t.a):∀a,s.a=some a→some a.block≠(Value.slice t.a t.n t.c).ownBlock:=by
 intro a ha e;obtain⟨b,hb,hbk⟩:=sl_row e.symm;exact h a b ha hb hbk.symm
theorem Dis.symm {x y:Option Addr} (h:Dis x y):Dis y x:=fun a b ha hb e=>h b a hb ha e.symm
def Pk.cnt (p:Pk):Nat:=p.bod.n+p.wb.n+p.pa.n+2*p.wan.n+p.nam.n+p.cds.n
theorem qhl {w:World} {B:Nat} {e:TypeId} {s:Nat} {q:Addr} {n c k:Nat} {xs:List Value} (h:w.ownsRow B e s (.slice (some q) n c) k xs):∃cur,w.heap[q.block]? = some (.cells cur e):=by
 rcases h.2 with ⟨e',_⟩ | ⟨g,c',cur,e',hb,hg,_⟩
 ·cases e'
 ·simp only[Value.slice.injEq,Option.some.injEq] at e';obtain⟨rfl,_⟩:=e';exact⟨cur,hg⟩
theorem ty_ne {w:World} {q b:Nat} {cs ds:Array Value} {t t':TypeId} (h1:w.heap[q]? = some (.cells cs t)) (h2:w.heap[b]? = some (.cells ds t')) (ht:t≠t'):q≠b:=by
 rintro rfl;rw[h1] at h2;cases h2
 exact ht rfl
def dnil:Pd:=⟨[],[],[],[],[],[]⟩
theorem POwn.grown {w w':World} {B:Nat} {p:Pk} {d:Pd} {row:Option Nat} (h:POwn w B p d) (hg:w.grownBy w' row) (hn:∀k,row=some k→¬p.has k):POwn w' B p d :=
 ⟨h.bod.grown hg (fun a e he=>hn _ he.symm ⟨a,by simp[e],rfl⟩),h.wb.grown hg (fun a e he=>hn _ he.symm ⟨a,by simp[e],rfl⟩),h.pa.grown hg (fun a e he=>hn _ he.symm ⟨a,by simp[e],rfl⟩),h.wan.grown hg (fun a e he=>hn _ he.symm ⟨a,by simp[e],rfl⟩),h.nam.grown hg (fun a e he=>hn _ he.symm ⟨a,by simp[e],rfl⟩),h.cds.grown hg (fun a e he=>hn _ he.symm ⟨a,by simp[e],rfl⟩),h.dis⟩
theorem POwn.low {w:World} {B B':Nat} {p:Pk} {d:Pd} (h:POwn w B p d) (hB:B'≤B):POwn w B' p d :=
 ⟨⟨h.bod.1,qbc h.bod.2 hB⟩,⟨h.wb.1,qbc h.wb.2 hB⟩,⟨h.pa.1,qbc h.pa.2 hB⟩,⟨h.wan.1,qbc h.wan.2 hB⟩,⟨h.nam.1,qbc h.nam.2 hB⟩,⟨h.cds.1,qbc h.cds.2 hB⟩,h.dis⟩
