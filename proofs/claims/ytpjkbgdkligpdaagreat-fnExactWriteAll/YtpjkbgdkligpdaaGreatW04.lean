/- Lemmas. -/
import Derived.Laws.BytesArg
import Derived.Test.YtpjkbgdkligpdaaGreatW03
set_option linter.unusedVariables false
set_option linter.unusedSimpArgs false
set_option maxRecDepth 100000
set_option maxHeartbeats 20000000
namespace Go.Proofs.YtpjkbgdkligpdaaGreat
open Go.RowKit

theorem info5:(Tryz.prog.info? 5).map (fun i=>(i.zero,i.size,i.bytes))=some (some (.int .u8 0),1,1):=by kernel_rfl

def bvals (l:List UInt8):List Value:=l.map fun u=>Value.int .u8 u.toNat

theorem qfj (l:List UInt8):(bvals l).length=l.length:=by simp[bvals]
theorem qiu (l m:List UInt8):bvals (l++m)=bvals l++bvals m:=by simp[bvals]
theorem bvals_one (l:List UInt8):∀u∈bvals l,u.oneCell'=true:=by
 intro u hu;simp only[bvals,List.mem_map] at hu;obtain⟨b,_,rfl⟩:=hu;rfl
theorem qmq (l:List UInt8) (i:Nat) (h:i<l.length):(bvals l)[i]? = some (.int .u8 (bt l i)):=by
 simp only[bvals,bt,List.getElem?_map,List.getElem?_eq_getElem h,Option.map_some,List.getD_eq_getElem?_getD,Option.getD_some]
theorem bvals_str (s:ByteArray):Lib.strCells s=bvals s.data.toList:=rfl

def RdIn (w:World) (ao:Option Addr) (n cap:Nat) (l:List UInt8):Prop:=Rd w ao n l∧n≤cap∧cap≤maxLen∧(ao=none→cap=0)

theorem RdIn.nil (w:World):RdIn w none 0 0 []:=⟨⟨rfl,fun i hi=>by omega⟩,Nat.le_refl _,Nat.zero_le _,fun _=>rfl⟩

theorem RdIn.of_ints {w:World} {x:Addr} {len cap:Nat} {zs:List Int} (hl:len≤cap) (hm:cap≤maxLen) (hz:zs.length=cap)
  (hcell:∀i,i<zs.length→w.cell? (x.add i)=some (.int .u8 (zs.getD i 0))) (hwz:∀n∈zs,(Lit.int .u8 n).wf=true):∃l,RdIn w (some x) len cap l:=by
 refine⟨(zs.take len).map (fun n=>UInt8.ofNat n.toNat),⟨by simp;omega,fun i hi=>?_⟩,hl,hm,fun h=>by simp at h⟩;obtain⟨b,off,spot⟩:=x;have hc0:=hcell 0 (by omega);have hspot:spot=none:=by simpa[Addr.add] using World.cell?_spot hc0
 subst hspot;have hc:=hcell i (by omega);have hi':i<zs.length:=by omega
 have hw:=hwz zs[i] (List.getElem_mem hi');simp[Lit.wf,IntKind.min,IntKind.max,IntKind.signed,IntKind.bits] at hw;refine⟨b,off,rfl,?_⟩;rw[Addr.add_lit] at hc;rw[hc];have e:((bt ((zs.take len).map (fun n=>UInt8.ofNat n.toNat)) i:Nat):Int)=zs.getD i 0:=by
  simp only[bt,List.getD_eq_getElem?_getD,List.getElem?_map,List.getElem?_take,hi,if_true,List.getElem?_eq_getElem hi',Option.map_some,Option.getD_some];simp;omega
 rw[e]

def Own (w:World) (B:Nat) (ao:Option Addr) (n cap:Nat) (l:List UInt8):Prop:=l.length=n∧w.ownsRow B 5 1 (.slice ao n cap) n (bvals l)

theorem Own.rd {w:World} {B:Nat} {ao:Option Addr} {n cap:Nat} {l:List UInt8} (h:Own w B ao n cap l):RdIn w ao n cap l:=by
 obtain⟨hl,h1,h2⟩:=h
 rcases h2 with ⟨e,rfl⟩ | ⟨g,c,cur,e,hb,hg,hc,hm,hs,ht⟩
 ·simp only[Value.slice.injEq] at e;obtain⟨rfl,_,rfl⟩:=e;exact⟨⟨hl,fun i hi=>by omega⟩,Nat.le_refl _,Nat.zero_le _,fun _=>rfl⟩
 ·simp only[Value.slice.injEq] at e;obtain⟨rfl,_,rfl⟩:=e;refine⟨⟨hl,fun i hi=>⟨g,0,rfl,?_⟩⟩,hc,hm,fun h=>by simp at h⟩;have own:w.ownsRow B 5 1 (.slice (some ⟨g,0,none⟩) n cap) n (bvals l):=⟨h1,.inr ⟨g,cap,cur,rfl,hb,hg,hc,hm,hs,ht⟩⟩;rw[Nat.zero_add,own.cellAt i (by omega),qmq l i (by omega)]

theorem Own.block {w:World} {B:Nat} {ao:Option Addr} {n cap:Nat} {l:List UInt8} (h:Own w B ao n cap l) {a:Addr} (e:ao=some a):B≤a.block∧a.block<w.heap.size:=by
 subst e;exact h.2.lt _ rfl

theorem RdIn.below {w w':World} {ao:Option Addr} {n cap:Nat} {l:List UInt8} (h:RdIn w ao n cap l) (hb:Below w.heap.size w w'):RdIn w' ao n cap l:=by
 refine⟨⟨h.1.1,fun i hi=>?_⟩,h.2⟩;obtain⟨b,off,e,hc⟩:=h.1.2 i hi;exact⟨b,off,e,(hb.cell (World.block_lt_of_cell? w _ hc)).trans hc⟩

theorem Own.below {w w':World} {B:Nat} {ao:Option Addr} {n cap:Nat} {l:List UInt8} (h:Own w B ao n cap l) (hb:Below w.heap.size w w'):Own w' B ao n cap l:=by
 refine⟨h.1,h.2.1,?_⟩
 rcases h.2.2 with hn | ⟨g,c,cur,e,hB,hg,rest⟩
 ·exact .inl hn
 ·exact .inr ⟨g,c,cur,e,hB,by rw[hb.block g (Array.getElem?_eq_some_iff.1 hg).1];exact hg,rest⟩

theorem Own.mono {w:World} {B B':Nat} {ao:Option Addr} {n cap:Nat} {l:List UInt8} (h:Own w B ao n cap l) (hB:B'≤B):Own w B' ao n cap l:=by
 refine⟨h.1,h.2.1,?_⟩
 rcases h.2.2 with hn | ⟨g,c,cur,e,hb,rest⟩
 ·exact .inl hn
 ·exact .inr ⟨g,c,cur,e,by omega,rest⟩

theorem RdIn.grown {w w':World} {ao:Option Addr} {n cap:Nat} {l:List UInt8} {row:Option Nat} (h:RdIn w ao n cap l) (hg:w.grownBy w' row) (hne:∀a,ao=some a→some a.block≠row):RdIn w' ao n cap l:=by
 refine⟨⟨h.1.1,fun i hi=>?_⟩,h.2⟩;obtain⟨b,off,e,hc⟩:=h.1.2 i hi;exact⟨b,off,e,hg.cell hc (show some b≠row from hne ⟨b,off,none⟩ e)⟩

theorem Own.grown {w w':World} {B:Nat} {ao:Option Addr} {n cap:Nat} {l:List UInt8} {row:Option Nat} (h:Own w B ao n cap l) (hg:w.grownBy w' row) (hne:∀a,ao=some a→some a.block≠row):Own w' B ao n cap l:=by
 refine⟨h.1,h.2.kept hg ?_⟩;cases ao with
 |none=>exact .inl rfl
 |some a=>exact .inr (hne a rfl)

theorem own_open {w:World} {B:Nat} {v:Value} {n:Nat} {l:List UInt8} (hl:l.length=n) (h:w.ownsRow B 5 1 v n (bvals l)):∃ao cap,v=.slice ao n cap∧Own w B ao n cap l:=by
 rcases h.2 with ⟨rfl,rfl⟩ | ⟨g,c,cur,rfl,_⟩
 ·exact⟨none,0,rfl,hl,h⟩
 ·exact⟨_,_,rfl,hl,h⟩

theorem w_app {ops:Array Oper} {rest:List Oper} {o:Oper} {a:Act} {Q:Exit→Act→World→Prop} (w:World) (hgd:o.guard=none) (s x:Operand)
  (ho:o.op=.call { callee:=.builtin .append,args:=#[s,x],argTypes:=#[22,22] })
  (B:Nat) (ao:Option Addr) (n cap:Nat) (l:List UInt8) (hs:a.eval s=.slice ao n cap) (hown:Own w B ao n cap l)
  (ax:Option Addr) (m c:Nat) (lx:List UInt8) (hx:a.eval x=.slice ax m c) (hr:RdIn w ax m c lx) (hb:n+m≤140737488355328) (hB:B≤w.heap.size)
  (h:∀ao' cap' w',Own w' B ao' (n+m) cap' (l++lx)→w.grownBy w' (Value.slice ao n cap).ownBlock→wpList Tryz.prog ops Q rest (a.put o.dst (.slice ao' (n+m) cap')) w') :
  wpList Tryz.prog ops Q (o :: rest) a w:=by
 obtain⟨i0,hi,hz0,hz1,hz2⟩:=info_parts info5;have hlen:(l++lx).length=n+m:=by rw[List.length_append,hown.1,hr.1.1]
 cases ax with
 |none=>
  have hc:c=0:=hr.2.2.2 rfl;have hm:m=0:=by have:=hr.2.1;omega
  subst hc;subst hm;have hlx:lx = []:=List.eq_nil_of_length_eq_zero hr.1.1;subst hlx;refine wpList_append_own_none hgd s x 22 ho B 5 i0 1 Tryz.underlying22 hi (.slice ao n cap) n (bvals l) hs hown.2 hx ?_;have:=h ao cap w (by simpa using hown) (World.grownBy.refl _ _)
  simpa using this
 |some ad=>
  refine wpList_append_own w hgd s x 22 ho B 5 i0 (.int .u8 0) 1 1 Tryz.underlying22 hi hz0 hz1 hz2 rfl (by decide) (.slice ao n cap) n (bvals l) hs hown.2 ad m c (bvals lx) hx (by rw[qfj,hr.1.1,Nat.mul_one]) ?_ (bvals_one lx) (by unfold maxLen;omega) (by omega) hB ?_
  ·intro j u hu;have hj:j<lx.length:=by
    have:=(List.getElem?_eq_some_iff.1 hu).1
    rwa [qfj] at this
   obtain⟨b,off,e,hcell⟩:=hr.1.2 j (by rw[←hr.1.1];exact hj);simp at e;subst e;rw[qmq lx j hj] at hu;rw[Addr.add_lit,hcell];exact hu
  ·intro v' w' hv hg _;rw[←qiu] at hv;obtain⟨ao',cap',rfl,hown'⟩:=own_open hlen hv;exact h ao' cap' w' hown' hg

theorem w_apps {ops:Array Oper} {rest:List Oper} {o:Oper} {a:Act} {Q:Exit→Act→World→Prop} (w:World) (hgd:o.guard=none) (s x:Operand)
  (ho:o.op=.call { callee:=.builtin .append,args:=#[s,x],argTypes:=#[22,9] })
  (B:Nat) (ao:Option Addr) (n cap:Nat) (l:List UInt8) (hs:a.eval s=.slice ao n cap) (hown:Own w B ao n cap l)
  (str:ByteArray) (hx:a.eval x=.string str) (hb:n+str.size≤140737488355328) (hB:B≤w.heap.size)
  (h:∀ao' cap' w',Own w' B ao' (n+str.size) cap' (l++str.data.toList)→w.grownBy w' (Value.slice ao n cap).ownBlock→wpList Tryz.prog ops Q rest (a.put o.dst (.slice ao' (n+str.size) cap')) w') :
  wpList Tryz.prog ops Q (o :: rest) a w:=by
 obtain⟨i0,hi,hz0,hz1,hz2⟩:=info_parts info5;have hlen:(l++str.data.toList).length=n+str.size:=by rw[List.length_append,hown.1];rfl
 refine Lib.wpList_append_own_string w hgd s x 22 9 ho B 5 i0 Tryz.underlying22 Tryz.underlying9 hi hz0 hz1 hz2 (.slice ao n cap) n (bvals l) hs hown.2 str hx (by unfold maxLen;omega) hb hB ?_;intro v' w' hv hg _;rw[bvals_str,←qiu] at hv;obtain⟨ao',cap',rfl,hown'⟩:=own_open hlen hv;exact h ao' cap' w' hown' hg

theorem w_make0 {ops:Array Oper} {rest:List Oper} {o:Oper} {a:Act} {Q:Exit→Act→World→Prop} (w:World) (hgd:o.guard=none) (l c:Operand) (hop:o.op=Op.makeSlice 22 l c)
  (C:Int) (n:Nat) (hl:a.eval l=.int .i64 0) (hc:a.eval c=.int .i64 C) (hC:C=(n:Int)) (hb:n≤140737488355328)
  (h:∀w',Own w' w.heap.size (some ⟨w.heap.size,0,none⟩) 0 n []→Below w.heap.size w w'→wpList Tryz.prog ops Q rest (a.put o.dst (.slice (some ⟨w.heap.size,0,none⟩) 0 n)) w') :
  wpList Tryz.prog ops Q (o :: rest) a w:=by
 obtain⟨i0,hi,hz0,hz1,hz2⟩:=info_parts info5;refine wpList_make_own w hgd l c 22 hop w.heap.size 5 i0 (.int .u8 0) 1 Tryz.underlying22 hi hz0 hz1 .i64 .i64 C n hl hc hC (by rw[hz2];omega) (by unfold maxLen;omega) (Nat.le_refl _) ?_;intro w' hown hg;exact h w' ⟨rfl,hown⟩ ((Below.refl _ _).grown hg (Nat.le_refl _) (fun k hk=>by cases hk))

theorem w_maken {ops:Array Oper} {rest:List Oper} {o:Oper} {a:Act} {Q:Exit→Act→World→Prop} (w:World) (hgd:o.guard=none) (l c:Operand) (hop:o.op=Op.makeSlice 22 l c)
  (C:Int) (n:Nat) (hl:a.eval l=.int .i64 C) (hc:a.eval c=.int .i64 C) (hC:C=(n:Int)) (hb:n≤140737488355328)
  (h:∀w',Own w' w.heap.size (some ⟨w.heap.size,0,none⟩) n n (List.replicate n 0)→Below w.heap.size w w'→wpList Tryz.prog ops Q rest (a.put o.dst (.slice (some ⟨w.heap.size,0,none⟩) n n)) w') :
  wpList Tryz.prog ops Q (o :: rest) a w:=by
 obtain⟨i0,hi,hz0,hz1,hz2⟩:=info_parts info5;refine wpList_make_full w hgd l c 22 hop w.heap.size 5 i0 (.int .u8 0) 1 Tryz.underlying22 hi hz0 hz1 .i64 .i64 C C n hl hc hC hC (by rw[hz2];omega) (by unfold maxLen;omega) (Nat.le_refl _) ?_;intro w' hown hg;refine h w' ⟨by simp,?_⟩ ((Below.refl _ _).grown hg (Nat.le_refl _) (fun k hk=>by cases hk));have e:(madeCells (Value.int .u8 0).cells (n*1)).toList=bvals (List.replicate n 0):=by
  rw[Nat.mul_one];show (madeCells #[Value.int .u8 0] n).toList=_;rw[toList_madeCells_one];simp[bvals]
 rw[e] at hown;exact hown


theorem Own.frozen {w:World} {B:Nat} {g n cap:Nat} {l:List UInt8} (h:Own w B (some ⟨g,0,none⟩) n cap l) (j:Nat):w.frozen? ⟨g,j,none⟩ = false:=h.2.frozenAt j
theorem Own.cell {w:World} {B:Nat} {g n cap:Nat} {l:List UInt8} (h:Own w B (some ⟨g,0,none⟩) n cap l) (j:Nat) (hj:j<n):w.cell? ⟨g,j,none⟩ = some (.int .u8 (bt l j)):=by
 rw[h.2.cellAt j (by omega),qmq l j (by rw[h.1];exact hj)]

theorem Own.store {w:World} {B:Nat} {g n cap:Nat} {l:List UInt8} (h:Own w B (some ⟨g,0,none⟩) n cap l) (j:Nat) (u:UInt8) :
  Own (w.setCell ⟨g,j,none⟩ (.int .u8 u.toNat)) B (some ⟨g,0,none⟩) n cap (l.set j u):=by
 refine⟨by simpa using h.1,?_⟩;have:=(h.2.stored j (.int .u8 u.toNat)).1;have e:(bvals l).set j (.int .u8 u.toNat)=bvals (l.set j u):=by simp[bvals,List.map_set]
 rw[e] at this;exact this

theorem byte_of (l:List UInt8) (i:Nat):((l.getD i 0).toNat:Int)=(bt l i:Int):=rfl

theorem set_take (l:List UInt8) (n k:Nat) (hl:l.length=n) (hk:k<n):(l.take k++List.replicate (n-k) 0).set k (l.getD k 0)=l.take (k+1)++List.replicate (n-(k+1)) 0:=by
 rw[List.set_append_right _ _ (by simp;omega)];rw[List.length_take,hl,Nat.min_eq_left (by omega),Nat.sub_self];rw[show n-k=(n-(k+1))+1 from by omega,List.replicate_succ,List.set_cons_zero];rw[List.take_succ_eq_append_getElem (by omega)];have e:l.getD k 0=l[k]'(by omega):=by simp[List.getD_eq_getElem?_getD,List.getElem?_eq_getElem (show k<l.length by omega)]
 rw[e,List.append_assoc];rfl

theorem qpi (ao:Option Addr) (n cap:Nat) (l:List UInt8) (w:World) (hr:RdIn w ao n cap l) (hn:n≤1099511627776) :
  Calls Tryz.prog 30 #[.slice ao n cap] w fun e w'=>e=.returned (.slice (some ⟨w.heap.size,0,none⟩) n n)∧Own w' w.heap.size (some ⟨w.heap.size,0,none⟩) n n l∧Below w.heap.size w w':=by
 have hl:=hr.1.1;have HL:Hid (l.length=n):=hl;clear hl;go_enter Tryz.func30,Tryz.ntmps30;go_wp2_with (at_make;refine w_maken _ rfl _ _ rfl _ n rfl rfl rfl (by omega) ?_)
 intro w1 hown hb1;go_wp2
 go_loopw [4] (fun i wr=>∃k:Nat,i=.int .i64 k∧k≤n∧Own wr w.heap.size (some ⟨w.heap.size,0,none⟩) n n (l.take k++List.replicate (n-k) 0)∧Below w.heap.size w wr) (fun i _=>n-(intOf i).toNat)
 case atStart=>exact⟨0,rfl,Nat.zero_le _,by simpa using hown,hb1⟩
 case round=>
  obtain⟨k,rfl,hk,ho,hb⟩:=hrel;clear hown hb1
  by_cases hlt:k<n
  ·obtain⟨b,off,e,hc⟩:=hr.1.2 k hlt;subst e;have hck:wr.cell? ⟨b,off+k,none⟩ = some (.int .u8 (bt l k)):=(hb.cell (World.block_lt_of_cell? w _ hc)).trans hc;have hlt':(k:Int)<n:=by omega
   have hz:=ho.cell k hlt;have hf:=ho.frozen k;have HO:=ho.store k (l.getD k 0);rw[set_take l n k HL.out hlt,byte_of] at HO;have HO':Hid (Own (wr.setCell ⟨w.heap.size,k,none⟩ (.int .u8 (bt l k))) w.heap.size (some ⟨w.heap.size,0,none⟩) n n (l.take (k+1)++List.replicate (n-(k+1)) 0)):=HO;clear HO hc ho;go_wp2;go_roundw
   case rel=>exact⟨k+1,by go_num,by omega,HO'.out,hb.setCell (Nat.le_refl _) _⟩
   case measure=>simp[intOf];omega
  ·have hlt':¬(k:Int)<n:=by omega
   obtain rfl:k=n:=by omega
   go_wp2;go_ret;refine⟨rfl,?_,hb⟩;have:=HL.out;rw[Nat.sub_self,List.take_of_length_le (by omega)] at ho
   simpa using ho

theorem eq_leqByteS (ao a1:Option Addr) (n cap cap1:Nat) (l:List UInt8) (w:World) (hr:RdIn w ao n cap l) (h1:RdIn w a1 n cap1 l) (hn:n≤1099511627776) :
  Calls Tryz.prog 9 #[.slice ao n cap,.slice a1 n cap1] w fun e w'=>e=.returned (.bool true)∧Below w.heap.size w w':=by
 have hne:((n:Int) != n)=false:=by simp
 go_enter Tryz.func9,Tryz.ntmps9;go_wp2
 go_loopw [5] (fun i wr=>∃k:Nat,i=.int .i64 k∧k≤n∧Below w.heap.size w wr) (fun i _=>n-(intOf i).toNat)
 case atStart=>exact⟨0,rfl,Nat.zero_le _,Below.refl _ _⟩
 case round=>
  obtain⟨k,rfl,hk,hb⟩:=hrel
  by_cases hlt:k<n
  ·obtain⟨b,off,e,hc⟩:=hr.1.2 k hlt;subst e;obtain⟨b1,off1,e1,hc1⟩:=h1.1.2 k hlt;subst e1;have hck:wr.cell? ⟨b,off+k,none⟩ = some (.int .u8 (bt l k)):=(hb.cell (World.block_lt_of_cell? w _ hc)).trans hc;have hck1:wr.cell? ⟨b1,off1+k,none⟩ = some (.int .u8 (bt l k)):=(hb.cell (World.block_lt_of_cell? w _ hc1)).trans hc1;have hlt':(k:Int)<n:=by omega
   have k0:(0:Int)≤k:=by omega
   have hbn:(((bt l k:Nat):Int) != ((bt l k:Nat):Int))=false:=by simp
   clear hc hc1;go_wp2
   go_quiet (fail)
   go_wp2;go_roundw
   case rel=>exact⟨k+1,by go_num,by omega,below_drewN hb _⟩
   case measure=>simp[intOf];omega
  ·have hlt':¬(k:Int)<n:=by omega
   go_wp2;go_ret;exact⟨rfl,hb⟩

def marks (k n:Nat):List UInt8:=(List.range n).map fun i=>UInt8.ofNat (k+i)
theorem qja (k n:Nat):(marks k n).length=n:=by simp[marks]
theorem marks_at (k n i:Nat) (h:i<n):bt (marks k n) i=(k+i)%256:=by
 simp[bt,marks,List.getD_eq_getElem?_getD,h]

theorem marks_set (l:List UInt8) (k n j:Nat) (hl:l.length=n) (hj:j<n):(marks k j++l.drop j).set j (UInt8.ofNat (k+j))=marks k (j+1)++l.drop (j+1):=by
 rw[List.set_append_right _ _ (by rw[qja];exact Nat.le_refl _),qja,Nat.sub_self];rw[List.drop_eq_getElem_cons (by omega),List.set_cons_zero];simp only[marks,List.range_succ,List.map_append,List.map_cons,List.map_nil,List.append_assoc];rfl

theorem mark_lmarkByteS (B:Nat) (ao:Option Addr) (n cap k:Nat) (l:List UInt8) (w:World) (ho:Own w B ao n cap l) (hn:n≤1099511627776) (hk:k≤1099511627776) :
  Calls Tryz.prog 12 #[.slice ao n cap,.int .i64 k] w fun e w'=>e=.returned (.int .i64 ((k+n:Nat):Int))∧Own w' B ao n cap (marks k n)∧w.grownBy w' (Value.slice ao n cap).ownBlock:=by
 have HL:Hid (l.length=n):=ho.1;go_enter Tryz.func12,Tryz.ntmps12;go_wp2
 go_loopw [1,5] (fun q i wr=>∃j:Nat,i=.int .i64 j∧q=.int .i64 ((k+j:Nat):Int)∧j≤n∧Own wr B ao n cap (marks k j++l.drop j)∧w.grownBy wr (Value.slice ao n cap).ownBlock) (fun _ i _=>n-(intOf i).toNat)
 case atStart=>exact⟨0,rfl,rfl,Nat.zero_le _,by simpa[marks] using ho,World.grownBy.refl _ _⟩
 case round=>
  obtain⟨j,rfl,rfl,hj,hoj,hg⟩:=hrel
  by_cases hlt:j<n
  ·obtain⟨g,e⟩ : ∃g,ao=some ⟨g,0,none⟩:=by
    rcases ho.2.2 with ⟨_,h0⟩ | ⟨g,c,cur,e,_⟩
    ·omega
    ·simp only[Value.slice.injEq] at e;exact⟨g,e.1⟩
   subst e;have hlt':(j:Int)<n:=by omega
   have hz:=hoj.cell j hlt;have hf:=hoj.frozen j;have HO:=hoj.store j (UInt8.ofNat (k+j));rw[marks_set l k n j HL.out hlt] at HO;have eb:((UInt8.ofNat (k+j)).toNat:Int)=((k+j:Nat):Int)%256:=by simp
   rw[eb] at HO;have HO':Hid (Own (wr.setCell ⟨g,j,none⟩ (.int .u8 (((k+j:Nat):Int)%256))) B (some ⟨g,0,none⟩) n cap (marks k (j+1)++l.drop (j+1))):=HO;have HG:Hid (w.grownBy (wr.setCell ⟨g,j,none⟩ (.int .u8 (((k+j:Nat):Int)%256))) (some g)) :=
    ⟨hg.os,hg.tape,hg.output,by simpa[World.setCell] using hg.size,fun q hq hne=>(Below.heap_setCell _ _ _ q (fun e=>hne (by rw[e]))).trans (hg.block q hq hne)⟩
   clear HO eb hoj hg ho;go_wp2;go_roundw
   case rel=>exact⟨j+1,by go_num,by go_num,by omega,by simpa using HO'.out,by simpa[Value.ownBlock] using HG.out⟩
   case measure=>simp[intOf];omega
  ·have hlt':¬(j:Int)<n:=by omega
   obtain rfl:j=n:=by omega
   go_wp2;go_ret;refine⟨by simp,?_,hg⟩;have:=HL.out;rw[List.drop_of_length_le (by omega),List.append_nil] at hoj;exact hoj

theorem held_lheldByteS (ao:Option Addr) (n cap k:Nat) (w:World) (hr:RdIn w ao n cap (marks k n)) (hn:n≤1099511627776) (hk:k≤1099511627776) :
  Calls Tryz.prog 13 #[.slice ao n cap,.int .i64 k] w fun e w'=>e=.returned (.int .i64 ((k+n:Nat):Int))∧w'=w:=by
 go_enter Tryz.func13,Tryz.ntmps13;go_wp2
 go_loop [1,5] (fun q i=>∃j:Nat,i=.int .i64 j∧q=.int .i64 ((k+j:Nat):Int)∧j≤n) (fun _ i=>n-(intOf i).toNat)
 case atStart=>exact⟨0,rfl,rfl,Nat.zero_le _⟩
 case round=>
  obtain⟨j,rfl,rfl,hj⟩:=hrel
  by_cases hlt:j<n
  ·obtain⟨b,off,e,hc⟩:=hr.1.2 j hlt;subst e;rw[marks_at k n j hlt] at hc;have hlt':(j:Int)<n:=by omega
   go_wp2
   go_round
   case rel=>exact⟨j+1,by go_num,by go_num,by omega⟩
   case measure=>simp[intOf];omega
  ·have hlt':¬(j:Int)<n:=by omega
   obtain rfl:j=n:=by omega
   go_wp2;go_ret;exact⟨by simp,rfl⟩


theorem bt_take (l:List UInt8) (k i:Nat) (h:i<k):bt (l.take k) i=bt l i:=by
 simp only[bt,List.getD_eq_getElem?_getD,List.getElem?_take,h,if_true]

def cut (l:List UInt8) (p m:Nat):ByteArray:=⟨((l.drop p).take m).toArray⟩
theorem conv_cut {w:World} {b off n:Nat} {l:List UInt8} (hl:l.length=n) (hc:∀i,i<n→w.cell? ⟨b,off+i,none⟩ = some (.int .u8 (bt l i))) (p m:Nat) (hpm:p+m≤n) (c:Nat) :
  (convert 22 9 (.slice (some ⟨b,off+p,none⟩) m c)).run Tryz.prog w=.ok (.string (cut l p m)) w:=by
 have h:=run_convert_bytes_arg (P:=Tryz.prog) w 22 5 Tryz.underlying22 Tryz.underlying5 b (off+p) m c (((l.drop p).take m).map fun u=>(u.toNat:Int)) (by simp;omega) (fun i hi=>by
  rw[Nat.add_assoc,hc (p+i) (by omega)];have e:i<((l.drop p).take m).length:=by simp;omega
  simp only[bt,List.getD_eq_getElem?_getD,List.getElem?_map,List.getElem?_take,hi,if_true,List.getElem?_drop];rw[List.getElem?_eq_getElem (show p+i<l.length by omega)];rfl) 9 Tryz.underlying9
 rw[h]
 congr 2
 simp only[strOfNums,cut,List.map_map]
 congr 2
 apply List.ext_getElem
 ·simp
 ·intro i h1 h2;simp

theorem qea {w w1 w2:World} (h1:Below w.heap.size w w1) (h2:Below w1.heap.size w1 w2):Below w.heap.size w w2:=h1.trans (h2.mono h1.size)


theorem qcc (ao:Option Addr) (n cap m:Nat) (l:List UInt8) (w:World) (hr:RdIn w ao n cap l) (hn:n≤1099511627776) (hm:m≤1099511627776) :
  Calls Tryz.prog 61 #[.slice ao n cap,.int .i64 m] w fun e w'=>∃ao' cap',e=.returned (.slice ao' n cap')∧Own w' w.heap.size ao' n cap' l∧Below w.heap.size w w':=by
 go_enter Tryz.func61,Tryz.ntmps61;go_wp2_with (at_make;refine w_make0 _ rfl _ _ rfl _ (n+m) rfl rfl (by omega) (by omega) ?_)
 intro w1 ho1 hb1;go_wp2_with (at_builtin;refine w_app _ rfl _ _ rfl w.heap.size _ 0 _ [] rfl ho1 _ _ _ l rfl (hr.below hb1) (by omega) (hb1.size) ?_)
 intro a2 c2 w2 ho2 hg2;go_wp2;go_ret;simp only[Nat.zero_add,List.nil_append] at ho2 ⊢;exact⟨a2,c2,rfl,ho2,hb1.grown hg2 hb1.size (fun k hk=>by simp[Value.ownBlock] at hk;omega)⟩

def wordB (x:Int):List UInt8:=[UInt8.ofNat (x / 256%256).toNat,UInt8.ofNat (x%256).toNat]
theorem qba (x:Int):(wordB x).length=2:=rfl
theorem wordB_0 (x:Int):((bt (wordB x) 0:Nat):Int)=x / 256%256:=by
 show (((UInt8.ofNat (x / 256%256).toNat).toNat:Nat):Int)=_;simp;omega
theorem wordB_1 (x:Int):((bt (wordB x) 1:Nat):Int)=x%256:=by
 show (((UInt8.ofNat (x%256).toNat).toNat:Nat):Int)=_;simp;omega

theorem rd_word (w:World) (x:Int):RdIn (w.alloc (.cells #[.int .u8 (x / 256%256),.int .u8 (x%256)] 5)) (some ⟨w.heap.size,0,none⟩) 2 2 (wordB x):=by
 refine⟨⟨rfl,fun i hi=>⟨_,_,rfl,?_⟩⟩,Nat.le_refl _,by unfold maxLen;omega,fun h=>by simp at h⟩
 match i,hi with
 |0,_=>rw[wordB_0];simp
 |1,_=>rw[wordB_1];simp
 |i+2,hi=>omega

theorem Own.alloc {w:World} {B:Nat} {ao:Option Addr} {n cap:Nat} {l:List UInt8} (h:Own w B ao n cap l) (o:Obj):Own (w.alloc o) B ao n cap l:=h.below ((Below.refl _ _).alloc (Nat.le_refl _) _)
theorem RdIn.alloc {w:World} {ao:Option Addr} {n cap:Nat} {l:List UInt8} (h:RdIn w ao n cap l) (o:Obj):RdIn (w.alloc o) ao n cap l:=h.below ((Below.refl _ _).alloc (Nat.le_refl _) _)

theorem qas {w w1 w2:World} {B:Nat} {ao:Option Addr} {n cap:Nat} {l:List UInt8} (hb:Below B w w1) (hB:B≤w1.heap.size) (ho:Own w1 B ao n cap l) (hg:w1.grownBy w2 (Value.slice ao n cap).ownBlock):Below B w w2 :=
 hb.grown hg hB (fun k hk=>(ho.2.lt k hk).1)

theorem qby (w:World):Own (w.alloc (.cells #[] 5)) w.heap.size (some ⟨w.heap.size,0,none⟩) 0 0 [] :=
 ⟨rfl,World.ownsRow_made w #[] 0 (Nat.le_refl _) (Nat.zero_le _) (by simp)⟩

theorem qbv (ao:Option Addr) (n cap:Nat) (x:Int) (l:List UInt8) (w:World) (hr:RdIn w ao n cap l) (hn:n≤1099511627776) :
  Calls Tryz.prog 133 #[.slice ao n cap,.int .i64 x] w fun e w'=>∃ao' cap',e=.returned (.slice ao' (n+2) cap')∧Own w' w.heap.size ao' (n+2) cap' (l++wordB x)∧Below w.heap.size w w':=by
 go_enter Tryz.func133,Tryz.ntmps133;go_wp2_with fail
 refine (qcc _ _ _ 2 l _ hr hn (by omega)).mono ?_;rintro e w1 ⟨a1,c1,rfl,ho1,hb1⟩;go_wp2_with (at_builtin;refine w_app _ rfl _ _ rfl w.heap.size _ _ _ l rfl (ho1.alloc _) _ _ _ (wordB x) rfl (rd_word w1 x) (by omega) (by have:=hb1.size;simp;omega) ?_)
 intro a2 c2 w2 ho2 hg2;go_wp2;go_ret;exact⟨a2,c2,rfl,ho2,qas (hb1.alloc hb1.size _) (by have:=hb1.size;simp;omega) (ho1.alloc _) hg2⟩

theorem qdf (ao:Option Addr) (n cap:Nat) (x:Int) (l:List UInt8) (w:World) (hr:RdIn w ao n cap l) (hn:n≤1099511627776) :
  Calls Tryz.prog 27 #[.slice ao n cap,.int .i64 x] w fun e w'=>∃ao' cap',e=.returned (.slice ao' (n+2) cap')∧Own w' w.heap.size ao' (n+2) cap' (l++wordB x)∧Below w.heap.size w w':=by
 have m1:=mask255 x;have m2:=mask255 (x / 256);go_enter Tryz.func27,Tryz.ntmps27;go_wp2_with (at_builtin;refine w_app _ rfl _ _ rfl w.heap.size _ 0 _ [] rfl (qby w) _ _ _ l rfl (hr.alloc _) (by omega) (by simp) ?_)
 intro a1 c1 w1 ho1 hg1;have hb1:Below w.heap.size w w1:=qas ((Below.refl _ _).alloc (Nat.le_refl _) _) (by simp) (qby w) hg1;clear hg1;go_wp2_with (at_builtin;refine w_app _ rfl _ _ rfl w.heap.size _ _ _ l rfl (ho1.alloc _) _ _ _ (wordB x) rfl (rd_word w1 x) (by omega) (by have:=hb1.size;simp;omega) ?_)
 intro a2 c2 w2 ho2 hg2;go_wp2;go_ret;exact⟨a2,c2,rfl,ho2,qas (hb1.alloc hb1.size _) (by have:=hb1.size;simp;omega) (ho1.alloc _) hg2⟩

def putT (l:List UInt8) (s:ByteArray):List UInt8:=if okT s.data.toList then l++(wordB s.size++s.data.toList) else l
theorem qnh {l:List UInt8} {s:ByteArray} (h:okT s.data.toList=true):putT l s=l++(wordB s.size++s.data.toList):=by simp[putT,h]
theorem qoz {l:List UInt8} {s:ByteArray} (h:okT s.data.toList=false):putT l s=l:=by simp[putT,h]
theorem qne {s:ByteArray} (h:okT s.data.toList=true):s.size≤60:=by
 rcases Nat.lt_or_ge 60 s.size with g | g
 ·rw[okT_long (show 60<s.data.toList.length from g)] at h;simp at h
 ·exact g

theorem qbu (ao:Option Addr) (n cap:Nat) (s:ByteArray) (l:List UInt8) (w:World) (hr:RdIn w ao n cap l) (hn:n≤1099511627000) (hs:s.size<9223372036854775800) :
  Calls Tryz.prog 132 #[.slice ao n cap,.string s] w fun e w'=>∃ao' n' cap',e=.returned (.slice ao' n' cap')∧Own w' w.heap.size ao' n' cap' (putT l s)∧Below w.heap.size w w':=by
 cases hok:okT s.data.toList with
 |false=>
  have HP:Hid (putT l s=l):=qoz hok;go_enter Tryz.func132,Tryz.ntmps132;go_wp2_with fail
  refine (qcn s _ (by omega)).mono ?_;rintro e w1 ⟨he,hb1⟩;rw[hok] at he;subst he;go_wp2_with fail
  refine (qcc _ _ _ 0 l _ (hr.below hb1) (by omega) (by omega)).mono ?_;rintro e w2 ⟨a2,c2,rfl,ho2,hb2⟩;go_wp2;go_ret;exact⟨a2,n,c2,rfl,by rw[HP.out];exact ho2.mono hb1.size,qea hb1 hb2⟩
 |true=>
  have HP:Hid (putT l s=l++(wordB s.size++s.data.toList)):=qnh hok;have h60:=qne hok;go_enter Tryz.func132,Tryz.ntmps132;go_wp2_with fail
  refine (qcn s _ (by omega)).mono ?_;rintro e w1 ⟨he,hb1⟩;rw[hok] at he;subst he;go_wp2_with fail
  refine (qbv _ _ _ s.size l _ (hr.below hb1) (by omega)).mono ?_;rintro e w2 ⟨a2,c2,rfl,ho2,hb2⟩;go_wp2_with (at_builtin;refine w_apps _ rfl _ _ rfl w1.heap.size _ _ _ (l++wordB s.size) rfl ho2 s rfl (by omega) hb2.size ?_)
  intro a3 c3 w3 ho3 hg3;have hb3:=qas hb2 hb2.size ho2 hg3;go_wp2;go_ret;exact⟨a3,_,c3,rfl,by rw[HP.out];exact ho3.mono hb1.size,qea hb1 hb3⟩

theorem qbw (ao:Option Addr) (n cap:Nat) (s:ByteArray) (l:List UInt8) (w:World) (hr:RdIn w ao n cap l) (hn:n≤1099511627000) (hs:s.size<9223372036854775800) :
  Calls Tryz.prog 25 #[.slice ao n cap,.string s] w fun e w'=>∃ao' n' cap',e=.returned (.slice ao' n' cap')∧Own w' w.heap.size ao' n' cap' (putT l s)∧Below w.heap.size w w':=by
 cases hok:okT s.data.toList with
 |false=>
  have HP:Hid (putT l s=l):=qoz hok;go_enter Tryz.func25,Tryz.ntmps25;go_wp2_with fail
  refine (qco s _ hs).mono ?_;rintro e w1 ⟨he,hb1⟩;rw[hok] at he;subst he;go_wp2_with (at_builtin;refine w_app _ rfl _ _ rfl w1.heap.size _ 0 _ [] rfl (qby w1) _ _ _ l rfl ((hr.below hb1).alloc _) (by omega) (by simp) ?_)
  intro a2 c2 w2 ho2 hg2;have hb2:Below w1.heap.size w1 w2:=qas ((Below.refl _ _).alloc (Nat.le_refl _) _) (by simp) (qby w1) hg2;go_wp2;go_ret;exact⟨a2,_,c2,rfl,by rw[HP.out];exact ho2.mono hb1.size,qea hb1 hb2⟩
 |true=>
  have HP:Hid (putT l s=l++(wordB s.size++s.data.toList)):=qnh hok;have h60:=qne hok;go_enter Tryz.func25,Tryz.ntmps25;go_wp2_with fail
  refine (qco s _ hs).mono ?_;rintro e w1 ⟨he,hb1⟩;rw[hok] at he;subst he;go_wp2_with fail
  refine (qdf _ _ _ s.size l _ (hr.below hb1) (by omega)).mono ?_;rintro e w2 ⟨a2,c2,rfl,ho2,hb2⟩;go_wp2_with (at_builtin;refine w_apps _ rfl _ _ rfl w1.heap.size _ _ _ (l++wordB s.size) rfl ho2 s rfl (by omega) hb2.size ?_)
  intro a3 c3 w3 ho3 hg3;have hb3:=qas hb2 hb2.size ho2 hg3;go_wp2;go_ret;exact⟨a3,_,c3,rfl,by rw[HP.out];exact ho3.mono hb1.size,qea hb1 hb3⟩

def putB (l x:List UInt8):List UInt8:=if x.length≤60 then l++(wordB x.length++x) else l

theorem qcs (ao:Option Addr) (n cap:Nat) (l:List UInt8) (ax:Option Addr) (m c:Nat) (x:List UInt8) (w:World) (hr:RdIn w ao n cap l) (hx:RdIn w ax m c x) (hn:n≤1099511627000) :
  Calls Tryz.prog 134 #[.slice ao n cap,.slice ax m c] w fun e w'=>∃ao' n' cap',e=.returned (.slice ao' n' cap')∧Own w' w.heap.size ao' n' cap' (putB l x)∧Below w.heap.size w w':=by
 have hxl:=hx.1.1
 by_cases h:m≤60
 ·have HP:Hid (putB l x=l++(wordB m++x)):=by unfold Hid putB;rw[if_pos (by omega),hxl]
  have h':¬(60:Int)<m:=by omega
  clear hxl;go_enter Tryz.func134,Tryz.ntmps134;go_wp2_with fail
  refine (qbv _ _ _ m l _ hr (by omega)).mono ?_;rintro e w2 ⟨a2,c2,rfl,ho2,hb2⟩;go_wp2_with (at_builtin;refine w_app _ rfl _ _ rfl w.heap.size _ _ _ (l++wordB m) rfl ho2 _ _ _ x rfl (hx.below hb2) (by omega) hb2.size ?_)
  intro a3 c3 w3 ho3 hg3;have hb3:=qas hb2 hb2.size ho2 hg3;go_wp2;go_ret;exact⟨a3,_,c3,rfl,by rw[HP.out];exact ho3,hb3⟩
 ·have HP:Hid (putB l x=l):=by unfold Hid putB;rw[if_neg (by omega)]
  have h':(60:Int)<m:=by omega
  clear hxl;go_enter Tryz.func134,Tryz.ntmps134;go_wp2_with fail
  refine (qcc _ _ _ 0 l _ hr (by omega) (by omega)).mono ?_;rintro e w2 ⟨a2,c2,rfl,ho2,hb2⟩;go_wp2;go_ret;exact⟨a2,n,c2,rfl,by rw[HP.out];exact ho2,hb2⟩

theorem qct (ao:Option Addr) (n cap:Nat) (l:List UInt8) (ax:Option Addr) (m c:Nat) (x:List UInt8) (w:World) (hr:RdIn w ao n cap l) (hx:RdIn w ax m c x) (hn:n≤1099511627000) :
  Calls Tryz.prog 28 #[.slice ao n cap,.slice ax m c] w fun e w'=>∃ao' n' cap',e=.returned (.slice ao' n' cap')∧Own w' w.heap.size ao' n' cap' (putB l x)∧Below w.heap.size w w':=by
 have hxl:=hx.1.1
 by_cases h:m≤60
 ·have HP:Hid (putB l x=l++(wordB m++x)):=by unfold Hid putB;rw[if_pos (by omega),hxl]
  have h':¬(60:Int)<m:=by omega
  clear hxl;go_enter Tryz.func28,Tryz.ntmps28;go_wp2_with fail
  refine (qdf _ _ _ m l _ hr (by omega)).mono ?_;rintro e w2 ⟨a2,c2,rfl,ho2,hb2⟩;go_wp2_with (at_builtin;refine w_app _ rfl _ _ rfl w.heap.size _ _ _ (l++wordB m) rfl ho2 _ _ _ x rfl (hx.below hb2) (by omega) hb2.size ?_)
  intro a3 c3 w3 ho3 hg3;have hb3:=qas hb2 hb2.size ho2 hg3;go_wp2;go_ret;exact⟨a3,_,c3,rfl,by rw[HP.out];exact ho3,hb3⟩
 ·have HP:Hid (putB l x=l):=by unfold Hid putB;rw[if_neg (by omega)]
  have h':(60:Int)<m:=by omega
  clear hxl;go_enter Tryz.func28,Tryz.ntmps28;go_wp2_with (at_builtin;refine w_app _ rfl _ _ rfl w.heap.size _ 0 _ [] rfl (qby w) _ _ _ l rfl (hr.alloc _) (by omega) (by simp) ?_)
  intro a2 c2 w2 ho2 hg2;have hb2:Below w.heap.size w w2:=qas ((Below.refl _ _).alloc (Nat.le_refl _) _) (by simp) (qby w) hg2;go_wp2;go_ret;exact⟨a2,_,c2,rfl,by rw[HP.out];exact ho2,hb2⟩

theorem Own.at {w w1 w':World} {B:Nat} {ao:Option Addr} {n cap:Nat} {l:List UInt8} (h:Own w1 B ao n cap l) (hb:Below w1.heap.size w1 w'):Own w' B ao n cap l:=h.below hb

theorem qgy (l:List UInt8) (s:ByteArray):(putT l s).length≤l.length+62:=by
 cases h:okT s.data.toList with
 |false=>rw[qoz h];omega
 |true=>
  have:=qne h;have e:s.data.toList.length=s.size:=rfl;rw[qnh h,List.length_append,List.length_append,qba];omega
theorem putB_le (l x:List UInt8):(putB l x).length≤l.length+62:=by
 unfold putB
 split
 ·rw[List.length_append,List.length_append,qba];omega
 ·omega


theorem qau (n:Int) (h₀:0≤n) (h₁:n<2 ^ 62):IntKind.i64.wrap n=n:=by rw[IntKind.wrap_i64];omega
theorem qol {w:World} {ao:Option Addr} {n cap:Nat} {l:List UInt8} (hr:RdIn w ao n cap l):(convert 22 9 (.slice ao n cap)).run Tryz.prog w=.ok (.string ⟨l.toArray⟩) w:=by
 obtain⟨⟨hl,hc⟩,hcap,hmax,hnil⟩:=hr
 rcases Nat.eq_zero_or_pos n with h0 | h0
 ·subst h0;have hl0:l = []:=List.eq_nil_of_length_eq_zero hl;subst hl0;cases ao with
  |none=>exact run_convert_bytes_nil w 22 5 Tryz.underlying22 Tryz.underlying5 0 cap 9 Tryz.underlying9
  |some a=>
   rw[run_convert_bytes_string w 22 9 5 _ 0 cap Tryz.underlying22 Tryz.underlying5 Tryz.underlying9,run_bytesToString w a 0 cap [] (by simp[loadCells,loadCellsFrom])];rfl
 ·obtain⟨b,off,rfl,hcell⟩:=(show Rd w ao n l from ⟨hl,hc⟩).at h0;have h:=conv_cut hl hcell 0 n (by omega) cap;rw[Nat.add_zero] at h;rw[h];simp[cut,List.take_of_length_le (show l.length≤n by omega)]


def mtF:Nat→Nat→List UInt8→List UInt8
 |0,_,acc=>109 :: acc
 |f+1,k,acc=>if k=0 then 109 :: acc else mtF f (k / 10) (UInt8.ofNat (48+k%10) :: acc)
def mtx (k:Nat):ByteArray:=⟨(mtF k k []).toArray⟩
theorem mtF_zero (f:Nat) (acc:List UInt8):mtF f 0 acc=109 :: acc:=by cases f<;>simp[mtF]
theorem mtF_step (f k:Nat) (acc:List UInt8) (h:0<k):mtF (f+1) k acc=mtF f (k / 10) (UInt8.ofNat (48+k%10) :: acc):=by
 rw[mtF,if_neg (by omega)]

theorem one_rd (w:World) (x:UInt8):RdIn (w.alloc (.cells #[.int .u8 (x.toNat:Int)] 5)) (some ⟨w.heap.size,0,none⟩) 1 1 [x]:=by
 refine⟨⟨rfl,fun i hi=>⟨w.heap.size,0,rfl,?_⟩⟩,Nat.le_refl _,by unfold maxLen;omega,fun h=>by simp at h⟩;obtain rfl:i=0:=by omega
 rw[qnd];rfl

theorem qdy (k0:Nat) (w:World) (h0:0<k0) (hk0:k0≤1099511627776) :
  Calls Tryz.prog 45 #[.int .i64 k0] w fun e w'=>e=.returned (.string (mtx k0))∧Below w.heap.size w w':=by
 have h0':¬(k0:Int)≤0:=by omega
 go_enter Tryz.func45,Tryz.ntmps45;go_wp2
 go_loopw [0,3] (fun q o wr=>∃(k f:Nat) (s:ByteArray),q=.int .i64 k∧o=.string s∧k≤f∧s.size+k≤k0∧mtF f k s.data.toList=mtF k0 k0 []∧Below w.heap.size w wr) (fun q _ _=>(intOf q).toNat)
 case atStart=>exact⟨k0,k0,_,rfl,rfl,Nat.le_refl _,Nat.le_of_eq (Nat.zero_add _),rfl,Below.refl _ _⟩
 case round=>
  obtain⟨k,f,s,rfl,rfl,hf,hz,hm,hb⟩:=hrel;have HM:Hid (mtF f k s.data.toList=mtF k0 k0 []):=hm;clear hm
  by_cases hk:0<k
  ·have hk':(0:Int)<k:=by omega
   obtain⟨x,hx⟩ : ∃x,UInt8.ofNat (48+k%10)=x:=⟨_,rfl⟩;have hxn:(x.toNat:Int)=48+(k:Int)%10:=by rw[←hx];simp;omega
   have hcv:=qol (one_rd wr x);rw[hxn] at hcv;obtain⟨d,hd⟩ : ∃d:ByteArray,(⟨[x].toArray⟩ : ByteArray)=d:=⟨_,rfl⟩;rw[hd] at hcv;have hds:d.size=1:=by rw[←hd];rfl
   have HD:Hid (d.data.toList = [UInt8.ofNat (48+k%10)]):=by unfold Hid;rw[←hd,hx]
   have hq:¬9223372036854775807<d.size+s.size:=by omega
   clear hx hxn hd;go_wp2;go_roundw
   case rel=>
    cases f with
    |zero=>omega
    |succ f=>
     refine⟨k / 10,f,_,by go_num,rfl,by omega,?_,?_,hb.alloc hb.size _⟩
     ·simp only[ByteArray.size_append];omega
     ·rw[←HM.out,mtF_step f k _ hk];simp[HD.out]
   case measure=>simp[intOf]<;>omega
  ·have hk':¬(0:Int)<k:=by omega
   obtain rfl:k=0:=by omega
   have hq:¬9223372036854775807<1+s.size:=by omega
   go_wp2;go_ret;refine⟨?_,hb⟩;have hm:=HM.out;rw[mtF_zero] at hm;have:(⟨#[109]⟩++s:ByteArray)=mtx k0:=by
    apply ba_eq
    rw[←hm];simp
   rw[this];rfl

def mks (k n:Nat):List ByteArray:=(List.range n).map fun i=>mtx (k+i)
theorem qmh (k n:Nat):(mks k n).length=n:=by simp[mks]
theorem mks_set (l:List ByteArray) (k n j:Nat) (hl:l.length=n) (hj:j<n):(mks k j++l.drop j).set j (mtx (k+j))=mks k (j+1)++l.drop (j+1):=by
 rw[List.set_append_right _ _ (by rw[qmh];exact Nat.le_refl _),qmh,Nat.sub_self];rw[List.drop_eq_getElem_cons (by omega),List.set_cons_zero];simp only[mks,List.range_succ,List.map_append,List.map_cons,List.map_nil,List.append_assoc];rfl

theorem qgl {w w1 w2:World} {row:Option Nat} (h:w.grownBy w1 row) (hb:Below w1.heap.size w1 w2):w.grownBy w2 row :=
 ⟨hb.os.trans h.os,hb.tape.trans h.tape,hb.output.trans h.output,Nat.le_trans h.size hb.size,fun k hk hne=>(hb.block k (Nat.lt_of_lt_of_le hk h.size)).trans (h.block k hk hne)⟩
theorem qjx {w w1:World} {g:Nat} (h:w.grownBy w1 (some g)) (j:Nat) (u:Value):w.grownBy (w1.setCell ⟨g,j,none⟩ u) (some g) :=
 ⟨h.os,h.tape,h.output,by simpa[World.setCell] using h.size,fun q hq hne=>(Below.heap_setCell _ _ _ q (fun e=>hne (by rw[e]))).trans (h.block q hq hne)⟩

