/- Lemmas. -/
import Derived.Test.YtpgkbkbhhmfgnaaDoorK12
import Derived.Test.YtpgkbkbhhmfgnaaDoorK11
set_option linter.unusedVariables false
set_option linter.unusedSimpArgs false
set_option maxRecDepth 100000
set_option maxHeartbeats 20000000
namespace Go.Proofs.YtpgkbkbhhmfgnaaDoor
open Go.RowKit

theorem fit_ifits (x y:ByteArray) (w:World) :
  Calls Tryd.prog 101 #[.string x,.string y] w fun e w'=>e=.returned (.bool (fit1 x.data.toList y.data.toList))∧w'=w:=by
 have HF:Hid (fit1 x.data.toList y.data.toList=_):=fit1_or _ _
 by_cases hxy:x.data.toList=y.data.toList
 ·have F:Hid (fit1 x.data.toList y.data.toList=true):=by unfold Hid;rw[HF.out,decide_eq_true hxy];rfl
  have e4:(x.toList==y.toList)=true:=by rw[ByteArray.toList_eq,ByteArray.toList_eq,hxy];simp
  clear hxy;go_enter Tryd.func101,Tryd.ntmps101;go_wp2;go_ret;exact⟨qaf F.out.symm,rfl⟩
 ·have e4:(x.toList==y.toList)=false:=by rw[ByteArray.toList_eq,ByteArray.toList_eq];exact beq_eq_false_iff_ne.2 hxy
  by_cases h43:x.data.toList = [43]
  ·have e3:=qbn h43
   by_cases hy:y.data.toList = [35]
   ·have F:Hid (fit1 x.data.toList y.data.toList=false):=by unfold Hid;rw[HF.out,decide_eq_false hxy,decide_eq_true h43];simp[hy]
    have e5:=qbn hy;clear hxy h43 hy;go_enter Tryd.func101,Tryd.ntmps101;go_wp2;go_ret;exact⟨qaf F.out.symm,rfl⟩
   ·have F:Hid (fit1 x.data.toList y.data.toList=true):=by unfold Hid;rw[HF.out,decide_eq_false hxy,decide_eq_true h43];simp[hy]
    have e5:=qbg hy;clear hxy h43 hy;go_enter Tryd.func101,Tryd.ntmps101;go_wp2;go_ret;exact⟨qaf F.out.symm,rfl⟩
  ·have e3:=qbg h43;have F:Hid (fit1 x.data.toList y.data.toList=false):=by unfold Hid;rw[HF.out,decide_eq_false hxy,decide_eq_false h43];rfl
   clear hxy h43;go_enter Tryd.func101,Tryd.ntmps101;go_wp2;go_ret;exact⟨qaf F.out.symm,rfl⟩

theorem infoWL:(Tryd.prog.info? 117).map (fun i=>(i.zero,i.size,i.bytes))=some (some (.string ByteArray.empty),1,16):=by kernel_rfl

def LOwn (w:World) (B:Nat) (ao:Option Addr) (n cap:Nat) (ss:List ByteArray):Prop:=ss.length=n∧w.ownsRow B 117 1 (.slice ao n cap) n (svals ss)
theorem LOwn.nil (w:World) (B:Nat):LOwn w B none 0 0 []:=⟨rfl,rfl,.inl ⟨rfl,rfl⟩⟩
theorem LOwn.rd {w:World} {B:Nat} {ao:Option Addr} {n cap:Nat} {ss:List ByteArray} (h:LOwn w B ao n cap ss):SRd w ao n cap ss:=by
 obtain⟨hl,h1,h2⟩:=h
 rcases h2 with ⟨e,rfl⟩ | ⟨g,c,cur,e,hb,hg,hc,hm,hs,ht⟩
 ·simp only[Value.slice.injEq] at e;obtain⟨rfl,_,rfl⟩:=e;exact⟨⟨hl,fun i hi=>by omega⟩,Nat.le_refl _,Nat.zero_le _,fun _=>rfl⟩
 ·simp only[Value.slice.injEq] at e;obtain⟨rfl,_,rfl⟩:=e;refine⟨⟨hl,fun i hi=>⟨g,0,rfl,?_⟩⟩,hc,hm,fun h=>by simp at h⟩;have own:w.ownsRow B 117 1 (.slice (some ⟨g,0,none⟩) n cap) n (svals ss):=⟨h1,.inr ⟨g,cap,cur,rfl,hb,hg,hc,hm,hs,ht⟩⟩;rw[Nat.zero_add,own.cellAt i (by omega),qfr ss i (by omega)]
theorem LOwn.below {w w':World} {B:Nat} {ao:Option Addr} {n cap:Nat} {ss:List ByteArray} (h:LOwn w B ao n cap ss) (hb:Below w.heap.size w w'):LOwn w' B ao n cap ss:=by
 refine⟨h.1,h.2.1,?_⟩
 rcases h.2.2 with hn | ⟨g,c,cur,e,hB,hg,rest⟩
 ·exact .inl hn
 ·exact .inr ⟨g,c,cur,e,hB,by rw[hb.block g (Array.getElem?_eq_some_iff.1 hg).1];exact hg,rest⟩
theorem LOwn.head {w:World} {B:Nat} {ao:Option Addr} {n cap:Nat} {ss:List ByteArray} (h:LOwn w B ao n cap ss) (hn:0<n):∃g,ao=some ⟨g,0,none⟩:=by
 rcases h.2.2 with ⟨_,h0⟩ | ⟨g,c,cur,e,_⟩
 ·omega
 ·simp only[Value.slice.injEq] at e;exact⟨g,e.1⟩
theorem lown_open {w:World} {B:Nat} {v:Value} {n:Nat} {ss:List ByteArray} (hl:ss.length=n) (h:w.ownsRow B 117 1 v n (svals ss)):∃ao cap,v=.slice ao n cap∧LOwn w B ao n cap ss:=by
 rcases h.2 with ⟨rfl,rfl⟩ | ⟨g,c,cur,rfl,_⟩
 ·exact⟨none,0,rfl,hl,h⟩
 ·exact⟨_,_,rfl,hl,h⟩
theorem qhg {w w1 w2:World} {B:Nat} {ao:Option Addr} {n cap:Nat} {ss:List ByteArray} (hb:Below B w w1) (hB:B≤w1.heap.size) (ho:LOwn w1 B ao n cap ss) (hg:w1.grownBy w2 (Value.slice ao n cap).ownBlock):Below B w w2 :=
 hb.grown hg hB (fun k hk=>by
  cases ao with
  |none=>cases hk
  |some a=>cases hk;exact (ho.2.lt _ rfl).1)

theorem w_lapp {ops:Array Oper} {rest:List Oper} {o:Oper} {a:Act} {Q:Exit→Act→World→Prop} (w:World) (hgd:o.guard=none) (s x:Operand)
  (ho:o.op=.call { callee:=.builtin .append,args:=#[s,x],argTypes:=#[115,115] })
  (B:Nat) (ao:Option Addr) (n cap:Nat) (ss:List ByteArray) (hs:a.eval s=.slice ao n cap) (hown:LOwn w B ao n cap ss)
  (ad:Nat) (u:ByteArray) (hx:a.eval x=.slice (some ⟨ad,0,none⟩) 1 1) (hc:w.cell? ⟨ad,0,none⟩ = some (.string u)) (hb:n<1099511627776) (hB:B≤w.heap.size)
  (h:∀ao' cap' w',LOwn w' B ao' (n+1) cap' (ss++[u])→w.grownBy w' (Value.slice ao n cap).ownBlock→wpList Tryd.prog ops Q rest (a.put o.dst (.slice ao' (n+1) cap')) w') :
  wpList Tryd.prog ops Q (o :: rest) a w:=by
 obtain⟨i0,hi,hz0,hz1,hz2⟩:=info_parts infoWL;have hlen:(ss++[u]).length=n+1:=by rw[List.length_append,hown.1];rfl
 refine wpList_append_own w hgd s x 115 ho B 117 i0 (.string ByteArray.empty) 1 16 Tryd.underlying115 hi hz0 hz1 hz2 rfl (by decide) (.slice ao n cap) n (svals ss) hs hown.2 ⟨ad,0,none⟩ 1 1 [.string u] hx rfl ?_ (by intro v hv;simp at hv;subst hv;rfl) (by unfold maxLen;omega) (by omega) hB ?_
 ·intro j v hv
  match j,hv with
  |0,hv=>
   simp at hv;subst hv;exact hc
 ·intro v' w' hv hg _;have e:svals ss++[.string u]=svals (ss++[u]):=by simp[svals]
  rw[e] at hv;obtain⟨ao',cap',rfl,hown'⟩:=lown_open hlen hv;exact h ao' cap' w' hown' hg

theorem qgq (ss:List ByteArray) (k:Nat) (h:k<ss.length):ss.take k++[st ss k]=ss.take (k+1):=by
 rw[List.take_succ_eq_append_getElem h];simp[st,List.getD_eq_getElem?_getD,List.getElem?_eq_getElem h]

theorem qby (s:ByteArray) (n:Nat) (w:World) (hs:s.size≤1048576) (hN:(lvl s.data.toList).length=n) :
  Calls Tryd.prog 99 #[.string s] w fun e w'=>∃ao cap,e=.returned (.slice ao n cap)∧SRd w' ao n cap (lvs s.data.toList)∧Below w.heap.size w w':=by
 have hle:n≤s.size+1:=by rw[←hN];exact qan s.data.toList
 have HV:Hid ((lvs s.data.toList).length=n):=by unfold Hid;rw[qba];exact hN
 have c:=qbl s n w hs hN;clear hN;generalize lvs s.data.toList=ss at *;go_enter Tryd.func99,Tryd.ntmps99;go_wp2_with fail
 refine c.mono ?_;rintro e w1 ⟨rfl,ho1,hb1⟩;have hr1:=ho1.rd;clear c ho1;go_wp2
 go_loopw [3,9] (fun o i wr=>∃(k c:Nat) (a:Option Addr),i=.int .i64 k∧o=.slice a k c∧k≤n∧LOwn wr w1.heap.size a k c (ss.take k)∧Below w1.heap.size w1 wr) (fun _ i _=>n-(intOf i).toNat)
 case atStart=>exact⟨0,0,none,rfl,rfl,Nat.zero_le _,LOwn.nil _ _,Below.refl _ _⟩
 case round=>
  obtain⟨k,c,a,rfl,rfl,hk,ho,hb⟩:=hrel;have hsz:=hb1.size;have hsz2:=hb.size
  by_cases hlt:k<n
  ·obtain⟨b,off,e,hc⟩:=hr1.1.2 k hlt;have e:=e;simp only[Option.some.injEq,Addr.mk.injEq,and_true] at e;obtain⟨rfl,rfl⟩:=e;have hck:=(hb.cell (World.block_lt_of_cell? w1 _ hc)).trans hc;rw[Nat.zero_add] at hck;have hlt':(k:Int)<n:=by omega
   have HT:Hid (ss.take k++[st ss k]=ss.take (k+1)):=qgq ss k (by rw[HV.out];exact hlt);generalize st ss k=x at hck HT;clear hc;go_wp2_with (at_builtin;refine w_lapp _ rfl _ _ rfl w1.heap.size a k c (ss.take k) rfl (ho.below ((Below.refl _ _).alloc (Nat.le_refl _) _)) wr.heap.size x rfl (qdq _ _ _) (by omega) (by simp;omega) ?_)
   intro a' c' w' ho' hg';rw[HT.out] at ho';have hb':Below w1.heap.size w1 w':=qhg (hb.alloc hb.size _) (by have:=hb.size;simp;omega) (ho.below ((Below.refl _ _).alloc (Nat.le_refl _) _)) hg';clear hg';go_wp2;go_roundw
   case rel=>exact⟨k+1,c',a',by go_num,rfl,by omega,ho',hb'⟩
   case measure=>simp[intOf]<;>omega
  ·have hlt':¬(k:Int)<n:=by omega
   obtain rfl:k=n:=by omega
   rw[List.take_of_length_le (by rw[HV.out];exact Nat.le_refl _)] at ho;go_wp2;go_ret;exact⟨a,c,rfl,ho.rd,bel2 hb1 hb⟩

theorem equ_x (ao a1:Option Addr) (n cap m cap1:Nat) (fs gs:List ByteArray) (w:World) (hr:SRd w ao n cap fs) (h1:SRd w a1 m cap1 gs) (hn:n≤1048577) (hm:m≤1048577) :
  Calls Tryd.prog 100 #[.slice ao n cap,.slice a1 m cap1,.func (.func 101) #[] #[]] w fun e w'=>e=.returned (.bool (eqF (dats fs) (dats gs)))∧Below w.heap.size w w':=by
 have HF:Hid (fs.length=n):=hr.1.1;have HG:Hid (gs.length=m):=h1.1.1
 by_cases hnm:n=m
 ·subst hnm;have hne:((n:Int) != n)=false:=by simp
  go_enter Tryd.func100,Tryd.ntmps100;go_wp2
  go_loopw [17] (fun i wr=>∃k:Nat,i=.int .i64 k∧k≤n∧eqF (dats fs) (dats gs)=eqF ((dats fs).drop k) ((dats gs).drop k)∧Below w.heap.size w wr) (fun i _=>n-(intOf i).toNat)
  case atStart=>exact⟨0,rfl,Nat.zero_le _,rfl,Below.refl _ _⟩
  case round=>
   obtain⟨k,rfl,hk,hfit,hb⟩:=hrel;have HK:Hid (eqF (dats fs) (dats gs)=eqF ((dats fs).drop k) ((dats gs).drop k)):=hfit;clear hfit
   by_cases hlt:k<n
   ·obtain⟨b,off,e,hc⟩:=hr.1.2 k hlt;subst e;obtain⟨b1,off1,e1,hc1⟩:=h1.1.2 k hlt;subst e1;have hck:wr.cell? ⟨b,off+k,none⟩ = some (.string (st fs k)):=(hb.cell (World.block_lt_of_cell? w _ hc)).trans hc;have hck1:wr.cell? ⟨b1,off1+k,none⟩ = some (.string (st gs k)):=(hb.cell (World.block_lt_of_cell? w _ hc1)).trans hc1;have hlt':(k:Int)<n:=by omega
    have k0:(0:Int)≤k:=by omega
    have hx:=qdo HF.out hlt;have hy:=qdo HG.out hlt;have hstep:=eqF_step (dats fs) (dats gs) k (by rw[qap,HF.out];exact hlt) (by rw[qap,HG.out];exact hlt);rw[hx,hy] at hstep;have HS:Hid (eqF ((dats fs).drop k) ((dats gs).drop k)=(fit1 (st fs k).data.toList (st gs k).data.toList&&eqF ((dats fs).drop (k+1)) ((dats gs).drop (k+1)))):=hstep;have cm:=fit_ifits (st fs k) (st gs k) wr;clear hc hc1 hx hy hstep;cases hv:fit1 (st fs k).data.toList (st gs k).data.toList with
    |false=>
     rw[hv] at cm;have F:Hid (eqF (dats fs) (dats gs)=false):=by unfold Hid;rw[HK.out,HS.out,hv];rfl
     clear hv;go_wp2_with fail
     refine cm.mono ?_;rintro e w3 ⟨rfl,hw3⟩;rw[hw3];go_wp2;go_ret;exact⟨qaf F.out.symm,hb⟩
    |true=>
     rw[hv] at cm;have G:Hid (eqF (dats fs) (dats gs)=eqF ((dats fs).drop (k+1)) ((dats gs).drop (k+1))):=by unfold Hid;rw[HK.out,HS.out,hv];rfl
     clear hv;go_wp2_with fail
     refine cm.mono ?_;rintro e w3 ⟨rfl,hw3⟩;rw[hw3];go_wp2;go_roundw
     case rel=>exact⟨k+1,by go_num,by omega,G.out,hb⟩
     case measure=>simp[intOf]<;>omega
   ·have hlt':¬(k:Int)<n:=by omega
    obtain rfl:k=n:=by omega
    have F:Hid (eqF (dats fs) (dats gs)=true):=by unfold Hid;rw[HK.out];exact eqF_end _ _ _ (by rw[qap,HF.out];exact Nat.le_refl _) (by rw[qap,HG.out];exact Nat.le_refl _)
    go_wp2;go_ret;exact⟨qaf F.out.symm,hb⟩
 ·have hne:((n:Int) != m)=true:=by simp[bne_iff_ne];omega
  have F:Hid (eqF (dats fs) (dats gs)=false):=eqF_len _ _ (by rw[qap,qap,HF.out,HG.out];exact hnm);go_enter Tryd.func100,Tryd.ntmps100;go_wp2;go_ret;exact⟨qaf F.out.symm,Below.refl _ _⟩

theorem qdr (s:ByteArray) (w:World) (hs:s.size≤1048576) :
  Calls Tryd.prog 97 #[.string s] w fun e w'=>e=.returned (.bool (qao s.data.toList))∧Below w.heap.size w w':=by
 go_enter Tryd.func97,Tryd.ntmps97;go_wp2_with fail
 refine (any_all s w hs).mono ?_;rintro e w1 ⟨q,rfl,_,hq,hb⟩;have HQ:Hid ((q==0)=qao s.data.toList):=hq;clear hq;go_wp2;go_ret;exact⟨qaf HQ.out,hb⟩

theorem SRd.front {w:World} {ao:Option Addr} {n cap:Nat} {ss:List ByteArray} (h:SRd w ao n cap ss) (k:Nat) (hk:k≤n):SRd w ao k cap (ss.take k):=by
 obtain⟨⟨hl,hc⟩,h2,h3,h4⟩:=h;refine⟨⟨by rw[List.length_take];omega,fun i hi=>?_⟩,by omega,h3,h4⟩;obtain⟨b,off,e,hcell⟩:=hc i (by omega);refine⟨b,off,e,?_⟩;rw[hcell];simp only[st,List.getD_eq_getElem?_getD,List.getElem?_take,hi,if_true]
theorem qcp (ss:List ByteArray) (k:Nat):dats (ss.take k)=(dats ss).take k:=by simp[dats,List.map_take]

theorem qev (ao:Option Addr) (n cap k:Nat) (h:k≤cap) (w':World):(Instr.slice 115 (.slice ao n cap) none (some (.int .i64 (k:Int))) none).run Tryd.prog w'=.ok (.slice ao k cap) w':=by
 have he:Tryd.prog.elem 115=117:=by kernel_rfl
 have ht:Tryd.prog.underlying 115=some (.slice (Tryd.prog.elem 115)):=by rw[he];exact Tryd.underlying115
 obtain⟨i0,hi,hz0,hz1,hz2⟩:=info_parts infoWL;have h:=run_slice_h (P:=Tryd.prog) w' 115 ao n cap ht .i64 (k:Int) (by omega) (by omega);rw[h,he];simp[sizeOf,typeInfo,Sem.run_bind,Sem.run_pure,hi,hz1,Result.andThen,sliced];intro _;cases ao with
 |none=>rfl
 |some a=>obtain⟨b,off,sp⟩:=a;simp[Addr.add]
theorem qeu (ao:Option Addr) (n cap k:Nat) (h:k≤cap) (w':World):(Instr.slice 39 (.slice ao n cap) none (some (.int .i64 (k:Int))) none).run Tryd.prog w'=.ok (.slice ao k cap) w':=by
 have he:Tryd.prog.elem 39=9:=by kernel_rfl
 have ht:Tryd.prog.underlying 39=some (.slice (Tryd.prog.elem 39)):=by rw[he];exact Tryd.underlying39
 obtain⟨i0,hi,hz0,hz1,hz2⟩:=info_parts info9;have h:=run_slice_h (P:=Tryd.prog) w' 39 ao n cap ht .i64 (k:Int) (by omega) (by omega);rw[h,he];simp[sizeOf,typeInfo,Sem.run_bind,Sem.run_pure,hi,hz1,Result.andThen,sliced];intro _;cases ao with
 |none=>rfl
 |some a=>obtain⟨b,off,sp⟩:=a;simp[Addr.add]

theorem qdx (f t:ByteArray) (w:World) (hf:f.size≤1048576) (ht:t.size≤1048576) (hm:qam (lvl f.data.toList)=true) :
  Calls Tryd.prog 72 #[.string f,.string t] w fun e w'=>e=.returned (.bool (!(qao f.data.toList&&hidB t.data.toList)&&fits (lvl f.data.toList) (lvl t.data.toList)))∧Below w.heap.size w w':=by
 obtain⟨n,hN⟩ : ∃n,(lvl f.data.toList).length=n:=⟨_,rfl⟩;obtain⟨m,hM⟩ : ∃m,(lvl t.data.toList).length=m:=⟨_,rfl⟩;have hn:n≤f.size+1:=by rw[←hN];exact qan _
 have hm':m≤t.size+1:=by rw[←hM];exact qan _
 have hn0:0<n:=by rw[←hN];exact List.length_pos_iff.2 (qgg _)
 obtain⟨q,hq⟩ : ∃q,n=q+1:=⟨n-1,by omega⟩;have hq1:(n:Int)-1=(q:Int):=by omega
 have HQ:Hid ((lvl f.data.toList).length=q+1):=hN.trans hq;have hqn:q<n:=by omega
 have HN:Hid ((lvl f.data.toList).length=n):=hN;have HM:Hid ((lvl t.data.toList).length=m):=hM;have HX:Hid ((st (lvs f.data.toList) q).data.toList=(lvl f.data.toList).getD q []):=lvs_at _ _ (by rw[hN];exact hqn);clear hN hM hq;have cL:=fun w=>qdr f w hf
 have cH:=fun w=>qgc t w
 obtain⟨A,hA⟩ : ∃A,(!(qao f.data.toList&&hidB t.data.toList)&&fits (lvl f.data.toList) (lvl t.data.toList))=A:=⟨_,rfl⟩;rw[hA];cases h4:qao f.data.toList with
 |false=>
  rw[h4] at cL hA;have HA:Hid (fits (lvl f.data.toList) (lvl t.data.toList)=A):=hA;clear h4 hA cH;go_enter Tryd.func72,Tryd.ntmps72;go_wp2_with fail
  refine (cL w).mono ?_;rintro e w2 ⟨rfl,hb2⟩;go_wp2_with fail
  refine (qby f n w2 hf HN.out).mono ?_;rintro e w3 ⟨ao,cap,rfl,hr3,hb3⟩;go_wp2_with fail
  refine (qbl t m w3 ht HM.out).mono ?_;rintro e w4 ⟨rfl,ho4,hb4⟩;have hr5:=hr3.below hb4;have hr4:=ho4.rd;have hb24:=bel2 hb2 (bel2 hb3 hb4);clear hr3 ho4 hb3 hb4 hb2;obtain⟨b,off,e,hc⟩:=hr5.1.2 q (by omega);subst e;have hcq:=hr5.2.1
  by_cases h35:(lvl f.data.toList).getD q [] = [35]
  ·have e1:=qbn (HX.out.trans h35);have FL:=qga (lvl t.data.toList) hm HQ.out h35;rw[HM.out] at FL
   by_cases hmq:m<q
   ·have hmq':(m:Int)<q:=by omega
    have F:Hid (A=false):=by unfold Hid;rw[←HA.out,FL,decide_eq_false (by omega)];rfl
    clear FL h35;go_wp2;go_ret;exact⟨qaf F.out.symm,hb24⟩
   ·have hmq':¬(m:Int)<q:=by omega
    have F:Hid (eqF (dats ((lvs f.data.toList).take q)) (dats ((lvs t.data.toList).take q))=A):=by unfold Hid;rw[←HA.out,FL,decide_eq_true (by omega),qcp,qcp,qaz,qaz];rfl
    have hs1:=qev (some ⟨b,off,none⟩) n cap q (by omega);have hs2:=qeu (some ⟨w3.heap.size,0,none⟩) m m q (by omega);have hf1:=hr5.front q (by omega);have hf2:=hr4.front q (by omega);clear FL h35;go_wp2
    go_quiet (fail)
    go_wp2_with fail
    refine (equ_x _ _ q cap q m _ _ _ (hf1.below (below_drewN (Below.refl _ _) _)) (hf2.below (below_drewN (Below.refl _ _) _)) (by omega) (by omega)).mono ?_;rintro e w7 ⟨he,hb7⟩;rw[F.out] at he;subst he;go_wp2;go_ret;exact⟨rfl,bel2 hb24 (bel2 (below_drewN (Below.refl _ _) _) hb7)⟩
  ·have e1:=qbg (fun e=>h35 (HX.out.symm.trans e));have F:Hid (eqF (dats (lvs f.data.toList)) (dats (lvs t.data.toList))=A):=by unfold Hid;rw[←HA.out,qfy (lvl t.data.toList) hm HQ.out h35,qaz,qaz]
   clear h35;go_wp2_with fail
   refine (equ_x _ _ n cap m m _ _ w4 hr5 hr4 (by omega) (by omega)).mono ?_;rintro e w7 ⟨he,hb7⟩;rw[F.out] at he;subst he;go_wp2;go_ret;exact⟨rfl,bel2 hb24 hb7⟩
 |true=>
  rw[h4] at cL hA;cases h5:hidB t.data.toList with
  |true=>
   rw[h5] at cH hA;have HA:Hid (A=false):=hA.symm;clear h4 h5 hA;go_enter Tryd.func72,Tryd.ntmps72;go_wp2_with fail
   refine (cL w).mono ?_;rintro e w1 ⟨rfl,hb1⟩;go_wp2_with fail
   refine (cH w1).mono ?_;rintro e w2 ⟨rfl,hw2⟩;rw[hw2];go_wp2;go_ret;exact⟨qaf HA.out.symm,hb1⟩
  |false=>
   rw[h5] at cH hA;have HA:Hid (fits (lvl f.data.toList) (lvl t.data.toList)=A):=hA;clear h4 h5 hA;go_enter Tryd.func72,Tryd.ntmps72;go_wp2_with fail
   refine (cL w).mono ?_;rintro e w2 ⟨rfl,hb2⟩;go_wp2_with fail
   refine (cH w2).mono ?_;rintro e w2' ⟨rfl,hw2⟩;rw[hw2];go_wp2_with fail
   refine (qby f n w2 hf HN.out).mono ?_;rintro e w3 ⟨ao,cap,rfl,hr3,hb3⟩;go_wp2_with fail
   refine (qbl t m w3 ht HM.out).mono ?_;rintro e w4 ⟨rfl,ho4,hb4⟩;have hr5:=hr3.below hb4;have hr4:=ho4.rd;have hb24:=bel2 hb2 (bel2 hb3 hb4);clear hr3 ho4 hb3 hb4 hb2;obtain⟨b,off,e,hc⟩:=hr5.1.2 q (by omega);subst e;have hcq:=hr5.2.1
   by_cases h35:(lvl f.data.toList).getD q [] = [35]
   ·have e1:=qbn (HX.out.trans h35);have FL:=qga (lvl t.data.toList) hm HQ.out h35;rw[HM.out] at FL
    by_cases hmq:m<q
    ·have hmq':(m:Int)<q:=by omega
     have F:Hid (A=false):=by unfold Hid;rw[←HA.out,FL,decide_eq_false (by omega)];rfl
     clear FL h35;go_wp2;go_ret;exact⟨qaf F.out.symm,hb24⟩
    ·have hmq':¬(m:Int)<q:=by omega
     have F:Hid (eqF (dats ((lvs f.data.toList).take q)) (dats ((lvs t.data.toList).take q))=A):=by unfold Hid;rw[←HA.out,FL,decide_eq_true (by omega),qcp,qcp,qaz,qaz];rfl
     have hs1:=qev (some ⟨b,off,none⟩) n cap q (by omega);have hs2:=qeu (some ⟨w3.heap.size,0,none⟩) m m q (by omega);have hf1:=hr5.front q (by omega);have hf2:=hr4.front q (by omega);clear FL h35;go_wp2
     go_quiet (fail)
     go_wp2_with fail
     refine (equ_x _ _ q cap q m _ _ _ (hf1.below (below_drewN (Below.refl _ _) _)) (hf2.below (below_drewN (Below.refl _ _) _)) (by omega) (by omega)).mono ?_;rintro e w7 ⟨he,hb7⟩;rw[F.out] at he;subst he;go_wp2;go_ret;exact⟨rfl,bel2 hb24 (bel2 (below_drewN (Below.refl _ _) _) hb7)⟩
   ·have e1:=qbg (fun e=>h35 (HX.out.symm.trans e));have F:Hid (eqF (dats (lvs f.data.toList)) (dats (lvs t.data.toList))=A):=by unfold Hid;rw[←HA.out,qfy (lvl t.data.toList) hm HQ.out h35,qaz,qaz]
    clear h35;go_wp2_with fail
    refine (equ_x _ _ n cap m m _ _ w4 hr5 hr4 (by omega) (by omega)).mono ?_;rintro e w7 ⟨he,hb7⟩;rw[F.out] at he;subst he;go_wp2;go_ret;exact⟨rfl,bel2 hb24 hb7⟩

theorem mat_iMatch (f t:ByteArray) (w:World) (hf:f.size≤1048576) (ht:t.size≤1048576) :
  Calls Tryd.prog 42 #[.string f,.string t] w fun e w'=>e=.returned (.bool (qbf f.data.toList t.data.toList))∧Below w.heap.size w w':=by
 have HM:Hid (qbf f.data.toList t.data.toList=(filOk f.data.toList&&(topOk t.data.toList&&(!(qao f.data.toList&&hidB t.data.toList)&&fits (lvl f.data.toList) (lvl t.data.toList))))):=rfl;have cF:=fun w=>qfk f w hf
 have cT:=fun w=>qdg t w ht
 cases h1:filOk f.data.toList with
 |false=>
  have F:Hid (qbf f.data.toList t.data.toList=false):=by unfold Hid;rw[HM.out,h1];rfl
  rw[h1] at cF;clear h1;go_enter Tryd.func42,Tryd.ntmps42;go_wp2_with fail
  refine (cF w).mono ?_;rintro e w1 ⟨rfl,hb1⟩;go_wp2;go_ret;exact⟨qaf F.out.symm,hb1⟩
 |true=>
  rw[h1] at cF;cases h2:topOk t.data.toList with
  |false=>
   have F:Hid (qbf f.data.toList t.data.toList=false):=by unfold Hid;rw[HM.out,h1,h2];rfl
   rw[h2] at cT;clear h1 h2;go_enter Tryd.func42,Tryd.ntmps42;go_wp2_with fail
   refine (cF w).mono ?_;rintro e w1 ⟨rfl,hb1⟩;go_wp2_with fail
   refine (cT w1).mono ?_;rintro e w2 ⟨rfl,hb2⟩;go_wp2;go_ret;exact⟨qaf F.out.symm,bel2 hb1 hb2⟩
  |true=>
   have hm:qam (lvl f.data.toList)=true:=by
    have:=h1;simp only[filOk,Bool.and_eq_true] at this;exact this.2
   have F:Hid ((!(qao f.data.toList&&hidB t.data.toList)&&fits (lvl f.data.toList) (lvl t.data.toList))=qbf f.data.toList t.data.toList):=by unfold Hid;rw[HM.out,h1,h2];rfl
   have cI:=fun w=>qdx f t w hf ht hm
   rw[F.out] at cI;rw[h2] at cT;clear h1 h2 hm;generalize qbf f.data.toList t.data.toList=A at *;go_enter Tryd.func42,Tryd.ntmps42;go_wp2_with fail
   refine (cF w).mono ?_;rintro e w1 ⟨rfl,hb1⟩;go_wp2_with fail
   refine (cT w1).mono ?_;rintro e w2 ⟨rfl,hb2⟩;go_wp2_with fail
   refine (cI w2).mono ?_;rintro e w3 ⟨rfl,hb3⟩;go_wp2;go_ret;exact⟨rfl,bel2 hb1 (bel2 hb2 hb3)⟩

