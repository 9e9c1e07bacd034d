/- Lemmas. -/
import Derived.Lib.AppendStr
import Derived.Laws.AppendOwnNone
import Derived.Laws.BytesArg
import Derived.Deep.MidRow
import Derived.Test.YtpgkbkbhhmfgnaaDoorK02
set_option linter.unusedVariables false
set_option linter.unusedSimpArgs false
set_option maxRecDepth 100000
set_option maxHeartbeats 20000000
namespace Go.Proofs.YtpgkbkbhhmfgnaaDoor
open Go.RowKit

theorem info5:(Tryd.prog.info? 5).map (fun i=>(i.zero,i.size,i.bytes))=some (some (.int .u8 0),1,1):=by kernel_rfl

def bvals (l:List UInt8):List Value:=l.map fun u=>Value.int .u8 u.toNat

theorem qbk (l:List UInt8):(bvals l).length=l.length:=by simp[bvals]
theorem qdb (l m:List UInt8):bvals (l++m)=bvals l++bvals m:=by simp[bvals]
theorem qds (l:List UInt8):∀u∈bvals l,u.oneCell'=true:=by
 intro u hu;simp only[bvals,List.mem_map] at hu;obtain⟨b,_,rfl⟩:=hu;rfl
theorem qdm (l:List UInt8) (i:Nat) (h:i<l.length):(bvals l)[i]? = some (.int .u8 (bt l i)):=by
 simp only[bvals,bt,List.getElem?_map,List.getElem?_eq_getElem h,Option.map_some,List.getD_eq_getElem?_getD,Option.getD_some]
def RdIn (w:World) (ao:Option Addr) (n cap:Nat) (l:List UInt8):Prop:=Rd w ao n l∧n≤cap∧cap≤maxLen∧(ao=none→cap=0)

theorem RdIn.nil (w:World):RdIn w none 0 0 []:=⟨⟨rfl,fun i hi=>by omega⟩,Nat.le_refl _,Nat.zero_le _,fun _=>rfl⟩

theorem RdIn.of_ints {w:World} {x:Addr} {len cap:Nat} {zs:List Int} (hl:len≤cap) (hm:cap≤maxLen) (hz:zs.length=cap)
  (hcell:∀i,i<zs.length→w.cell? (x.add i)=some (.int .u8 (zs.getD i 0))) (hwz:∀n∈zs,(Lit.int .u8 n).wf=true):∃l,RdIn w (some x) len cap l:=by
 refine⟨(zs.take len).map (fun n=>UInt8.ofNat n.toNat),⟨by simp;omega,fun i hi=>?_⟩,hl,hm,fun h=>by simp at h⟩;obtain⟨b,off,spot⟩:=x;have hc0:=hcell 0 (by omega);have hspot:spot=none:=by simpa[Addr.add] using World.cell?_spot hc0
 subst hspot;have hc:=hcell i (by omega);have hi':i<zs.length:=by omega
 have hw:=hwz zs[i] (List.getElem_mem hi');simp[Lit.wf,IntKind.min,IntKind.max,IntKind.signed,IntKind.bits] at hw;refine⟨b,off,rfl,?_⟩;rw[Addr.add_lit] at hc;rw[hc];have e:((bt ((zs.take len).map (fun n=>UInt8.ofNat n.toNat)) i:Nat):Int)=zs.getD i 0:=by
  simp only[bt,List.getD_eq_getElem?_getD,List.getElem?_map,List.getElem?_take,hi,if_true,List.getElem?_eq_getElem hi',Option.map_some,Option.getD_some];simp;omega
 rw[e]

def Own (w:World) (B:Nat) (ao:Option Addr) (n cap:Nat) (l:List UInt8):Prop:=l.length=n∧w.ownsRow B 5 1 (.slice ao n cap) n (bvals l)

theorem Own.rd {w:World} {B:Nat} {ao:Option Addr} {n cap:Nat} {l:List UInt8} (h:Own w B ao n cap l):RdIn w ao n cap l:=by
 obtain⟨hl,h1,h2⟩:=h
 rcases h2 with ⟨e,rfl⟩ | ⟨g,c,cur,e,hb,hg,hc,hm,hs,ht⟩
 ·simp only[Value.slice.injEq] at e;obtain⟨rfl,_,rfl⟩:=e;exact⟨⟨hl,fun i hi=>by omega⟩,Nat.le_refl _,Nat.zero_le _,fun _=>rfl⟩
 ·simp only[Value.slice.injEq] at e;obtain⟨rfl,_,rfl⟩:=e;refine⟨⟨hl,fun i hi=>⟨g,0,rfl,?_⟩⟩,hc,hm,fun h=>by simp at h⟩;have own:w.ownsRow B 5 1 (.slice (some ⟨g,0,none⟩) n cap) n (bvals l):=⟨h1,.inr ⟨g,cap,cur,rfl,hb,hg,hc,hm,hs,ht⟩⟩;rw[Nat.zero_add,own.cellAt i (by omega),qdm l i (by omega)]

theorem Own.block {w:World} {B:Nat} {ao:Option Addr} {n cap:Nat} {l:List UInt8} (h:Own w B ao n cap l) {a:Addr} (e:ao=some a):B≤a.block∧a.block<w.heap.size:=by
 subst e;exact h.2.lt _ rfl

theorem RdIn.below {w w':World} {ao:Option Addr} {n cap:Nat} {l:List UInt8} (h:RdIn w ao n cap l) (hb:Below w.heap.size w w'):RdIn w' ao n cap l:=by
 refine⟨⟨h.1.1,fun i hi=>?_⟩,h.2⟩;obtain⟨b,off,e,hc⟩:=h.1.2 i hi;exact⟨b,off,e,(hb.cell (World.block_lt_of_cell? w _ hc)).trans hc⟩

theorem Own.below {w w':World} {B:Nat} {ao:Option Addr} {n cap:Nat} {l:List UInt8} (h:Own w B ao n cap l) (hb:Below w.heap.size w w'):Own w' B ao n cap l:=by
 refine⟨h.1,h.2.1,?_⟩
 rcases h.2.2 with hn | ⟨g,c,cur,e,hB,hg,rest⟩
 ·exact .inl hn
 ·exact .inr ⟨g,c,cur,e,hB,by rw[hb.block g (Array.getElem?_eq_some_iff.1 hg).1];exact hg,rest⟩

theorem Own.mono {w:World} {B B':Nat} {ao:Option Addr} {n cap:Nat} {l:List UInt8} (h:Own w B ao n cap l) (hB:B'≤B):Own w B' ao n cap l:=by
 refine⟨h.1,h.2.1,?_⟩
 rcases h.2.2 with hn | ⟨g,c,cur,e,hb,rest⟩
 ·exact .inl hn
 ·exact .inr ⟨g,c,cur,e,by omega,rest⟩

theorem RdIn.grown {w w':World} {ao:Option Addr} {n cap:Nat} {l:List UInt8} {row:Option Nat} (h:RdIn w ao n cap l) (hg:w.grownBy w' row) (hne:∀a,ao=some a→some a.block≠row):RdIn w' ao n cap l:=by
 refine⟨⟨h.1.1,fun i hi=>?_⟩,h.2⟩;obtain⟨b,off,e,hc⟩:=h.1.2 i hi;exact⟨b,off,e,hg.cell hc (show some b≠row from hne ⟨b,off,none⟩ e)⟩

theorem Own.grown {w w':World} {B:Nat} {ao:Option Addr} {n cap:Nat} {l:List UInt8} {row:Option Nat} (h:Own w B ao n cap l) (hg:w.grownBy w' row) (hne:∀a,ao=some a→some a.block≠row):Own w' B ao n cap l:=by
 refine⟨h.1,h.2.kept hg ?_⟩;cases ao with
 |none=>exact .inl rfl
 |some a=>exact .inr (hne a rfl)

theorem own_open {w:World} {B:Nat} {v:Value} {n:Nat} {l:List UInt8} (hl:l.length=n) (h:w.ownsRow B 5 1 v n (bvals l)):∃ao cap,v=.slice ao n cap∧Own w B ao n cap l:=by
 rcases h.2 with ⟨rfl,rfl⟩ | ⟨g,c,cur,rfl,_⟩
 ·exact⟨none,0,rfl,hl,h⟩
 ·exact⟨_,_,rfl,hl,h⟩

theorem w_app {ops:Array Oper} {rest:List Oper} {o:Oper} {a:Act} {Q:Exit→Act→World→Prop} (w:World) (hgd:o.guard=none) (s x:Operand)
  (ho:o.op=.call { callee:=.builtin .append,args:=#[s,x],argTypes:=#[29,29] })
  (B:Nat) (ao:Option Addr) (n cap:Nat) (l:List UInt8) (hs:a.eval s=.slice ao n cap) (hown:Own w B ao n cap l)
  (ax:Option Addr) (m c:Nat) (lx:List UInt8) (hx:a.eval x=.slice ax m c) (hr:RdIn w ax m c lx) (hb:n+m≤140737488355328) (hB:B≤w.heap.size)
  (h:∀ao' cap' w',Own w' B ao' (n+m) cap' (l++lx)→w.grownBy w' (Value.slice ao n cap).ownBlock→wpList Tryd.prog ops Q rest (a.put o.dst (.slice ao' (n+m) cap')) w') :
  wpList Tryd.prog ops Q (o :: rest) a w:=by
 obtain⟨i0,hi,hz0,hz1,hz2⟩:=info_parts info5;have hlen:(l++lx).length=n+m:=by rw[List.length_append,hown.1,hr.1.1]
 cases ax with
 |none=>
  have hc:c=0:=hr.2.2.2 rfl;have hm:m=0:=by have:=hr.2.1;omega
  subst hc;subst hm;have hlx:lx = []:=List.eq_nil_of_length_eq_zero hr.1.1;subst hlx;refine wpList_append_own_none hgd s x 29 ho B 5 i0 1 Tryd.underlying29 hi (.slice ao n cap) n (bvals l) hs hown.2 hx ?_;have:=h ao cap w (by simpa using hown) (World.grownBy.refl _ _)
  simpa using this
 |some ad=>
  refine wpList_append_own w hgd s x 29 ho B 5 i0 (.int .u8 0) 1 1 Tryd.underlying29 hi hz0 hz1 hz2 rfl (by decide) (.slice ao n cap) n (bvals l) hs hown.2 ad m c (bvals lx) hx (by rw[qbk,hr.1.1,Nat.mul_one]) ?_ (qds lx) (by unfold maxLen;omega) (by omega) hB ?_
  ·intro j u hu;have hj:j<lx.length:=by
    have:=(List.getElem?_eq_some_iff.1 hu).1
    rwa [qbk] at this
   obtain⟨b,off,e,hcell⟩:=hr.1.2 j (by rw[←hr.1.1];exact hj);simp at e;subst e;rw[qdm lx j hj] at hu;rw[Addr.add_lit,hcell];exact hu
  ·intro v' w' hv hg _;rw[←qdb] at hv;obtain⟨ao',cap',rfl,hown'⟩:=own_open hlen hv;exact h ao' cap' w' hown' hg

theorem w_make0 {ops:Array Oper} {rest:List Oper} {o:Oper} {a:Act} {Q:Exit→Act→World→Prop} (w:World) (hgd:o.guard=none) (l c:Operand) (hop:o.op=Op.makeSlice 29 l c)
  (C:Int) (n:Nat) (hl:a.eval l=.int .i64 0) (hc:a.eval c=.int .i64 C) (hC:C=(n:Int)) (hb:n≤140737488355328)
  (h:∀w',Own w' w.heap.size (some ⟨w.heap.size,0,none⟩) 0 n []→Below w.heap.size w w'→wpList Tryd.prog ops Q rest (a.put o.dst (.slice (some ⟨w.heap.size,0,none⟩) 0 n)) w') :
  wpList Tryd.prog ops Q (o :: rest) a w:=by
 obtain⟨i0,hi,hz0,hz1,hz2⟩:=info_parts info5;refine wpList_make_own w hgd l c 29 hop w.heap.size 5 i0 (.int .u8 0) 1 Tryd.underlying29 hi hz0 hz1 .i64 .i64 C n hl hc hC (by rw[hz2];omega) (by unfold maxLen;omega) (Nat.le_refl _) ?_;intro w' hown hg;exact h w' ⟨rfl,hown⟩ ((Below.refl _ _).grown hg (Nat.le_refl _) (fun k hk=>by cases hk))

theorem w_maken {ops:Array Oper} {rest:List Oper} {o:Oper} {a:Act} {Q:Exit→Act→World→Prop} (w:World) (hgd:o.guard=none) (l c:Operand) (hop:o.op=Op.makeSlice 29 l c)
  (C:Int) (n:Nat) (hl:a.eval l=.int .i64 C) (hc:a.eval c=.int .i64 C) (hC:C=(n:Int)) (hb:n≤140737488355328)
  (h:∀w',Own w' w.heap.size (some ⟨w.heap.size,0,none⟩) n n (List.replicate n 0)→Below w.heap.size w w'→wpList Tryd.prog ops Q rest (a.put o.dst (.slice (some ⟨w.heap.size,0,none⟩) n n)) w') :
  wpList Tryd.prog ops Q (o :: rest) a w:=by
 obtain⟨i0,hi,hz0,hz1,hz2⟩:=info_parts info5;refine wpList_make_full w hgd l c 29 hop w.heap.size 5 i0 (.int .u8 0) 1 Tryd.underlying29 hi hz0 hz1 .i64 .i64 C C n hl hc hC hC (by rw[hz2];omega) (by unfold maxLen;omega) (Nat.le_refl _) ?_;intro w' hown hg;refine h w' ⟨by simp,?_⟩ ((Below.refl _ _).grown hg (Nat.le_refl _) (fun k hk=>by cases hk));have e:(madeCells (Value.int .u8 0).cells (n*1)).toList=bvals (List.replicate n 0):=by
  rw[Nat.mul_one];show (madeCells #[Value.int .u8 0] n).toList=_;rw[toList_madeCells_one];simp[bvals]
 rw[e] at hown;exact hown


theorem Own.frozen {w:World} {B:Nat} {g n cap:Nat} {l:List UInt8} (h:Own w B (some ⟨g,0,none⟩) n cap l) (j:Nat):w.frozen? ⟨g,j,none⟩ = false:=h.2.frozenAt j
theorem Own.cell {w:World} {B:Nat} {g n cap:Nat} {l:List UInt8} (h:Own w B (some ⟨g,0,none⟩) n cap l) (j:Nat) (hj:j<n):w.cell? ⟨g,j,none⟩ = some (.int .u8 (bt l j)):=by
 rw[h.2.cellAt j (by omega),qdm l j (by rw[h.1];exact hj)]

theorem Own.store {w:World} {B:Nat} {g n cap:Nat} {l:List UInt8} (h:Own w B (some ⟨g,0,none⟩) n cap l) (j:Nat) (u:UInt8) :
  Own (w.setCell ⟨g,j,none⟩ (.int .u8 u.toNat)) B (some ⟨g,0,none⟩) n cap (l.set j u):=by
 refine⟨by simpa using h.1,?_⟩;have:=(h.2.stored j (.int .u8 u.toNat)).1;have e:(bvals l).set j (.int .u8 u.toNat)=bvals (l.set j u):=by simp[bvals,List.map_set]
 rw[e] at this;exact this

theorem byte_of (l:List UInt8) (i:Nat):((l.getD i 0).toNat:Int)=(bt l i:Int):=rfl

theorem set_take (l:List UInt8) (n k:Nat) (hl:l.length=n) (hk:k<n):(l.take k++List.replicate (n-k) 0).set k (l.getD k 0)=l.take (k+1)++List.replicate (n-(k+1)) 0:=by
 rw[List.set_append_right _ _ (by simp;omega)];rw[List.length_take,hl,Nat.min_eq_left (by omega),Nat.sub_self];rw[show n-k=(n-(k+1))+1 from by omega,List.replicate_succ,List.set_cons_zero];rw[List.take_succ_eq_append_getElem (by omega)];have e:l.getD k 0=l[k]'(by omega):=by simp[List.getD_eq_getElem?_getD,List.getElem?_eq_getElem (show k<l.length by omega)]
 rw[e,List.append_assoc];rfl

theorem qhm (ao:Option Addr) (n cap:Nat) (l:List UInt8) (w:World) (hr:RdIn w ao n cap l) (hn:n≤1099511627776) :
  Calls Tryd.prog 13 #[.slice ao n cap] w fun e w'=>e=.returned (.slice (some ⟨w.heap.size,0,none⟩) n n)∧Own w' w.heap.size (some ⟨w.heap.size,0,none⟩) n n l∧Below w.heap.size w w':=by
 have hl:=hr.1.1;have HL:Hid (l.length=n):=hl;clear hl;go_enter Tryd.func13,Tryd.ntmps13;go_wp2_with (at_make;refine w_maken _ rfl _ _ rfl _ n rfl rfl rfl (by omega) ?_)
 intro w1 hown hb1;go_wp2
 go_loopw [4] (fun i wr=>∃k:Nat,i=.int .i64 k∧k≤n∧Own wr w.heap.size (some ⟨w.heap.size,0,none⟩) n n (l.take k++List.replicate (n-k) 0)∧Below w.heap.size w wr) (fun i _=>n-(intOf i).toNat)
 case atStart=>exact⟨0,rfl,Nat.zero_le _,by simpa using hown,hb1⟩
 case round=>
  obtain⟨k,rfl,hk,ho,hb⟩:=hrel;clear hown hb1
  by_cases hlt:k<n
  ·obtain⟨b,off,e,hc⟩:=hr.1.2 k hlt;subst e;have hck:wr.cell? ⟨b,off+k,none⟩ = some (.int .u8 (bt l k)):=(hb.cell (World.block_lt_of_cell? w _ hc)).trans hc;have hlt':(k:Int)<n:=by omega
   have hz:=ho.cell k hlt;have hf:=ho.frozen k;have HO:=ho.store k (l.getD k 0);rw[set_take l n k HL.out hlt,byte_of] at HO;have HO':Hid (Own (wr.setCell ⟨w.heap.size,k,none⟩ (.int .u8 (bt l k))) w.heap.size (some ⟨w.heap.size,0,none⟩) n n (l.take (k+1)++List.replicate (n-(k+1)) 0)):=HO;clear HO hc ho;go_wp2;go_roundw
   case rel=>exact⟨k+1,by go_num,by omega,HO'.out,hb.setCell (Nat.le_refl _) _⟩
   case measure=>simp[intOf];omega
  ·have hlt':¬(k:Int)<n:=by omega
   obtain rfl:k=n:=by omega
   go_wp2;go_ret;refine⟨rfl,?_,hb⟩;have:=HL.out;rw[Nat.sub_self,List.take_of_length_le (by omega)] at ho
   simpa using ho

theorem qgz (ao a1:Option Addr) (n cap cap1:Nat) (l:List UInt8) (w:World) (hr:RdIn w ao n cap l) (h1:RdIn w a1 n cap1 l) (hn:n≤1099511627776) :
  Calls Tryd.prog 15 #[.slice ao n cap,.slice a1 n cap1] w fun e w'=>e=.returned (.bool true)∧Below w.heap.size w w':=by
 have hne:((n:Int) != n)=false:=by simp
 go_enter Tryd.func15,Tryd.ntmps15;go_wp2
 go_loopw [5] (fun i wr=>∃k:Nat,i=.int .i64 k∧k≤n∧Below w.heap.size w wr) (fun i _=>n-(intOf i).toNat)
 case atStart=>exact⟨0,rfl,Nat.zero_le _,Below.refl _ _⟩
 case round=>
  obtain⟨k,rfl,hk,hb⟩:=hrel
  by_cases hlt:k<n
  ·obtain⟨b,off,e,hc⟩:=hr.1.2 k hlt;subst e;obtain⟨b1,off1,e1,hc1⟩:=h1.1.2 k hlt;subst e1;have hck:wr.cell? ⟨b,off+k,none⟩ = some (.int .u8 (bt l k)):=(hb.cell (World.block_lt_of_cell? w _ hc)).trans hc;have hck1:wr.cell? ⟨b1,off1+k,none⟩ = some (.int .u8 (bt l k)):=(hb.cell (World.block_lt_of_cell? w _ hc1)).trans hc1;have hlt':(k:Int)<n:=by omega
   have k0:(0:Int)≤k:=by omega
   have hbn:(((bt l k:Nat):Int) != ((bt l k:Nat):Int))=false:=by simp
   clear hc hc1;go_wp2
   go_quiet (fail)
   go_wp2;go_roundw
   case rel=>exact⟨k+1,by go_num,by omega,below_drewN hb _⟩
   case measure=>simp[intOf];omega
  ·have hlt':¬(k:Int)<n:=by omega
   go_wp2;go_ret;exact⟨rfl,hb⟩

def marks (k n:Nat):List UInt8:=(List.range n).map fun i=>UInt8.ofNat (k+i)
theorem qdf (k n:Nat):(marks k n).length=n:=by simp[marks]
theorem marks_at (k n i:Nat) (h:i<n):bt (marks k n) i=(k+i)%256:=by
 simp[bt,marks,List.getD_eq_getElem?_getD,h]

theorem marks_set (l:List UInt8) (k n j:Nat) (hl:l.length=n) (hj:j<n):(marks k j++l.drop j).set j (UInt8.ofNat (k+j))=marks k (j+1)++l.drop (j+1):=by
 rw[List.set_append_right _ _ (by rw[qdf];exact Nat.le_refl _),qdf,Nat.sub_self];rw[List.drop_eq_getElem_cons (by omega),List.set_cons_zero];simp only[marks,List.range_succ,List.map_append,List.map_cons,List.map_nil,List.append_assoc];rfl

theorem qef (B:Nat) (ao:Option Addr) (n cap k:Nat) (l:List UInt8) (w:World) (ho:Own w B ao n cap l) (hn:n≤1099511627776) (hk:k≤1099511627776) :
  Calls Tryd.prog 17 #[.slice ao n cap,.int .i64 k] w fun e w'=>e=.returned (.int .i64 ((k+n:Nat):Int))∧Own w' B ao n cap (marks k n)∧w.grownBy w' (Value.slice ao n cap).ownBlock:=by
 have HL:Hid (l.length=n):=ho.1;go_enter Tryd.func17,Tryd.ntmps17;go_wp2
 go_loopw [1,5] (fun q i wr=>∃j:Nat,i=.int .i64 j∧q=.int .i64 ((k+j:Nat):Int)∧j≤n∧Own wr B ao n cap (marks k j++l.drop j)∧w.grownBy wr (Value.slice ao n cap).ownBlock) (fun _ i _=>n-(intOf i).toNat)
 case atStart=>exact⟨0,rfl,rfl,Nat.zero_le _,by simpa[marks] using ho,World.grownBy.refl _ _⟩
 case round=>
  obtain⟨j,rfl,rfl,hj,hoj,hg⟩:=hrel
  by_cases hlt:j<n
  ·obtain⟨g,e⟩ : ∃g,ao=some ⟨g,0,none⟩:=by
    rcases ho.2.2 with ⟨_,h0⟩ | ⟨g,c,cur,e,_⟩
    ·omega
    ·simp only[Value.slice.injEq] at e;exact⟨g,e.1⟩
   subst e;have hlt':(j:Int)<n:=by omega
   have hz:=hoj.cell j hlt;have hf:=hoj.frozen j;have HO:=hoj.store j (UInt8.ofNat (k+j));rw[marks_set l k n j HL.out hlt] at HO;have eb:((UInt8.ofNat (k+j)).toNat:Int)=((k+j:Nat):Int)%256:=by simp
   rw[eb] at HO;have HO':Hid (Own (wr.setCell ⟨g,j,none⟩ (.int .u8 (((k+j:Nat):Int)%256))) B (some ⟨g,0,none⟩) n cap (marks k (j+1)++l.drop (j+1))):=HO;have HG:Hid (w.grownBy (wr.setCell ⟨g,j,none⟩ (.int .u8 (((k+j:Nat):Int)%256))) (some g)) :=
    ⟨hg.os,hg.tape,hg.output,by simpa[World.setCell] using hg.size,fun q hq hne=>(Below.heap_setCell _ _ _ q (fun e=>hne (by rw[e]))).trans (hg.block q hq hne)⟩
   clear HO eb hoj hg ho;go_wp2;go_roundw
   case rel=>exact⟨j+1,by go_num,by go_num,by omega,by simpa using HO'.out,by simpa[Value.ownBlock] using HG.out⟩
   case measure=>simp[intOf];omega
  ·have hlt':¬(j:Int)<n:=by omega
   obtain rfl:j=n:=by omega
   go_wp2;go_ret;refine⟨by simp,?_,hg⟩;have:=HL.out;rw[List.drop_of_length_le (by omega),List.append_nil] at hoj;exact hoj

theorem qea (ao:Option Addr) (n cap k:Nat) (w:World) (hr:RdIn w ao n cap (marks k n)) (hn:n≤1099511627776) (hk:k≤1099511627776) :
  Calls Tryd.prog 40 #[.slice ao n cap,.int .i64 k] w fun e w'=>e=.returned (.int .i64 ((k+n:Nat):Int))∧w'=w:=by
 go_enter Tryd.func40,Tryd.ntmps40;go_wp2
 go_loop [1,5] (fun q i=>∃j:Nat,i=.int .i64 j∧q=.int .i64 ((k+j:Nat):Int)∧j≤n) (fun _ i=>n-(intOf i).toNat)
 case atStart=>exact⟨0,rfl,rfl,Nat.zero_le _⟩
 case round=>
  obtain⟨j,rfl,rfl,hj⟩:=hrel
  by_cases hlt:j<n
  ·obtain⟨b,off,e,hc⟩:=hr.1.2 j hlt;subst e;rw[marks_at k n j hlt] at hc;have hlt':(j:Int)<n:=by omega
   go_wp2
   go_round
   case rel=>exact⟨j+1,by go_num,by go_num,by omega⟩
   case measure=>simp[intOf];omega
  ·have hlt':¬(j:Int)<n:=by omega
   obtain rfl:j=n:=by omega
   go_wp2;go_ret;exact⟨by simp,rfl⟩


def cut (l:List UInt8) (p m:Nat):ByteArray:=⟨((l.drop p).take m).toArray⟩
theorem conv_cut {w:World} {b off n:Nat} {l:List UInt8} (hl:l.length=n) (hc:∀i,i<n→w.cell? ⟨b,off+i,none⟩ = some (.int .u8 (bt l i))) (p m:Nat) (hpm:p+m≤n) (c:Nat) :
  (convert 29 9 (.slice (some ⟨b,off+p,none⟩) m c)).run Tryd.prog w=.ok (.string (cut l p m)) w:=by
 have h:=run_convert_bytes_arg (P:=Tryd.prog) w 29 5 Tryd.underlying29 Tryd.underlying5 b (off+p) m c (((l.drop p).take m).map fun u=>(u.toNat:Int)) (by simp;omega) (fun i hi=>by
  rw[Nat.add_assoc,hc (p+i) (by omega)];have e:i<((l.drop p).take m).length:=by simp;omega
  simp only[bt,List.getD_eq_getElem?_getD,List.getElem?_map,List.getElem?_take,hi,if_true,List.getElem?_drop];rw[List.getElem?_eq_getElem (show p+i<l.length by omega)];rfl) 9 Tryd.underlying9
 rw[h]
 congr 2
 simp only[strOfNums,cut,List.map_map]
 congr 2
 apply List.ext_getElem
 ·simp
 ·intro i h1 h2;simp


theorem qco (ao:Option Addr) (n cap m:Nat) (l:List UInt8) (w:World) (hr:RdIn w ao n cap l) (hn:n≤1099511627776) (hm:m≤1099511627776) :
  Calls Tryd.prog 74 #[.slice ao n cap,.int .i64 m] w fun e w'=>∃ao' cap',e=.returned (.slice ao' n cap')∧Own w' w.heap.size ao' n cap' l∧Below w.heap.size w w':=by
 go_enter Tryd.func74,Tryd.ntmps74;go_wp2_with (at_make;refine w_make0 _ rfl _ _ rfl _ (n+m) rfl rfl (by omega) (by omega) ?_)
 intro w1 ho1 hb1;go_wp2_with (at_builtin;refine w_app _ rfl _ _ rfl w.heap.size _ 0 _ [] rfl ho1 _ _ _ l rfl (hr.below hb1) (by omega) (hb1.size) ?_)
 intro a2 c2 w2 ho2 hg2;go_wp2;go_ret;simp only[Nat.zero_add,List.nil_append] at ho2 ⊢;exact⟨a2,c2,rfl,ho2,hb1.grown hg2 hb1.size (fun k hk=>by simp[Value.ownBlock] at hk;omega)⟩

theorem Own.alloc {w:World} {B:Nat} {ao:Option Addr} {n cap:Nat} {l:List UInt8} (h:Own w B ao n cap l) (o:Obj):Own (w.alloc o) B ao n cap l:=h.below ((Below.refl _ _).alloc (Nat.le_refl _) _)
theorem RdIn.alloc {w:World} {ao:Option Addr} {n cap:Nat} {l:List UInt8} (h:RdIn w ao n cap l) (o:Obj):RdIn (w.alloc o) ao n cap l:=h.below ((Below.refl _ _).alloc (Nat.le_refl _) _)

theorem Own.at {w w1 w':World} {B:Nat} {ao:Option Addr} {n cap:Nat} {l:List UInt8} (h:Own w1 B ao n cap l) (hb:Below w1.heap.size w1 w'):Own w' B ao n cap l:=h.below hb

theorem qdj (B:Nat) (ao:Option Addr) (n cap k:Nat) (q:Int) (l:List UInt8) (w:World) (hq:q=(k:Int)) (ho:Own w B ao n cap l) (hn:n≤1099511627776) (hk:k≤1099511627776) :
  Calls Tryd.prog 17 #[.slice ao n cap,.int .i64 q] w fun e w'=>e=.returned (.int .i64 ((k+n:Nat):Int))∧Own w' B ao n cap (marks k n)∧w.grownBy w' (Value.slice ao n cap).ownBlock:=by
 subst hq;exact qef B ao n cap k l w ho hn hk


theorem wraps_i64 (n:Int) (h₀:0≤n) (h₁:n<2 ^ 62):IntKind.i64.wrap n=n:=by rw[IntKind.wrap_i64];omega
theorem conv_rd {w:World} {ao:Option Addr} {n cap:Nat} {l:List UInt8} (hr:RdIn w ao n cap l):(convert 29 9 (.slice ao n cap)).run Tryd.prog w=.ok (.string ⟨l.toArray⟩) w:=by
 obtain⟨⟨hl,hc⟩,hcap,hmax,hnil⟩:=hr
 rcases Nat.eq_zero_or_pos n with h0 | h0
 ·subst h0;have hl0:l = []:=List.eq_nil_of_length_eq_zero hl;subst hl0;cases ao with
  |none=>exact run_convert_bytes_nil w 29 5 Tryd.underlying29 Tryd.underlying5 0 cap 9 Tryd.underlying9
  |some a=>
   rw[run_convert_bytes_string w 29 9 5 _ 0 cap Tryd.underlying29 Tryd.underlying5 Tryd.underlying9,run_bytesToString w a 0 cap [] (by simp[loadCells,loadCellsFrom])];rfl
 ·obtain⟨b,off,rfl,hcell⟩:=(show Rd w ao n l from ⟨hl,hc⟩).at h0;have h:=conv_cut hl hcell 0 n (by omega) cap;rw[Nat.add_zero] at h;rw[h];simp[cut,List.take_of_length_le (show l.length≤n by omega)]


theorem g_ownsmono {w:World} {B B':Nat} {t:TypeId} {k:Nat} {v:Value} {n:Nat} {l:List Value} (h:w.ownsRow B t k v n l) (hB:B'≤B):w.ownsRow B' t k v n l:=by
 refine⟨h.1,?_⟩
 rcases h.2 with hn | ⟨g,c,cur,e,hb,rest⟩
 ·exact .inl hn
 ·exact .inr ⟨g,c,cur,e,Nat.le_trans hB hb,rest⟩
theorem qha {w w':World} {B:Nat} {t:TypeId} {k:Nat} {v:Value} {n:Nat} {l:List Value} (h:w.ownsRow B t k v n l) (hb:Below w.heap.size w w'):w'.ownsRow B t k v n l:=by
 refine⟨h.1,?_⟩
 rcases h.2 with hn | ⟨g,c,cur,e,hB,hg,rest⟩
 ·exact .inl hn
 ·exact .inr ⟨g,c,cur,e,hB,(hb.block g (Array.getElem?_eq_some_iff.1 hg).1).trans hg,rest⟩
theorem g_ty {w:World} {B:Nat} {e:TypeId} {s:Nat} {q:Addr} {n c k:Nat} {xs:List Value} (h:w.ownsRow B e s (.slice (some q) n c) k xs):∃cur,w.heap[q.block]? = some (.cells cur e):=by
 rcases h.2 with ⟨e1,_⟩ | ⟨g,c1,cur,e1,_,hg,_⟩
 ·simp at e1
 ·simp only[Value.slice.injEq,Option.some.injEq] at e1;obtain⟨rfl,_⟩:=e1;exact⟨cur,hg⟩
theorem g_tyne {w:World} {q b:Nat} {cs ds:Array Value} {t t':TypeId} (h1:w.heap[q]? = some (.cells cs t)) (h2:w.heap[b]? = some (.cells ds t')) (ht:t≠t'):q≠b:=by
 rintro rfl;rw[h1] at h2;simp only[Option.some.injEq,Obj.cells.injEq] at h2;exact ht h2.2.1
theorem qal {w:World} {g:Nat} {cs:Array Value} {t:TypeId} {fz:Nat×Nat} (h:w.heap[g]? = some (.cells cs t fz)) (j:Nat):w.cell? ⟨g,j,none⟩ = cs[j]?:=by
 simp[World.cell?,h]
theorem qde (w:World) (g j:Nat) (u:Value):w.grownBy (w.setCell ⟨g,j,none⟩ u) (some g) :=
 ⟨rfl,rfl,rfl,by simp[World.setCell],fun q hq hne=>Below.heap_setCell _ _ _ q (fun e=>hne (by rw[e]))⟩
theorem g_bel {w w1 w2:World} (h1:Below w.heap.size w w1) (h2:Below w1.heap.size w1 w2):Below w.heap.size w w2:=h1.trans (h2.mono h1.size)
theorem qau {w w':World} {b o:Nat} {cs:List Value} (h:w.rangeAt b o cs) (hb:Below w.heap.size w w'):w'.rangeAt b o cs:=fun j v hv=>
 (hb.cell (p:=⟨b,o+j,none⟩) (World.block_lt_of_cell? w _ (h j v hv))).trans (h j v hv)

structure GK (α:Type) where
 ty:TypeId
 sty:TypeId
 sz:Nat
 bytes:Nat
 cells:α→Array Value
 zero:α
structure GKok {α:Type} (K:GK α):Prop where
 size:∀x,(K.cells x).size=K.sz
 one:∀x,∀u∈(K.cells x).toList,u.oneCell'=true
 pos:0<K.sz
 und:Tryd.prog.underlying K.sty=some (.slice K.ty)
 info:(Tryd.prog.info? K.ty).map (fun i=>(i.zero,i.size,i.bytes))=some (some (.agg (K.cells K.zero)),K.sz,K.bytes)
 row:∃d,Tryd.prog.underlying K.ty=some d∧d.isRow=true
section
variable {α : Type} {K : GK α}
def GK.at (K:GK α) (ps:List α) (i:Nat):α:=ps.getD i K.zero
def GK.vals (K:GK α) (ps:List α):List Value:=ps.flatMap fun p=>(K.cells p).toList
theorem GKok.len (H:GKok K) (p:α):(K.cells p).toList.length=K.sz:=by rw[Array.length_toList];exact H.size p
theorem GKok.vals_length (H:GKok K) (ps:List α):(K.vals ps).length=ps.length*K.sz:=by
 induction ps with
 |nil=>simp[GK.vals]
 |cons p r ih=>
  have e:K.vals (p :: r)=(K.cells p).toList++K.vals r:=rfl;rw[e,List.length_append,H.len,ih,List.length_cons,Nat.succ_mul];omega
theorem GK.vals_app (K:GK α) (a b:List α):K.vals a++K.vals b=K.vals (a++b):=by simp[GK.vals]
theorem GKok.vals_one (H:GKok K) (a:List α):∀u∈K.vals a,u.oneCell'=true:=by
 intro u hu;simp only[GK.vals,List.mem_flatMap] at hu;obtain⟨p,_,hp⟩:=hu;exact H.one p u hp
theorem GKok.vals_at (H:GKok K) (ps:List α) (i j:Nat) (h:i<ps.length) (hj:j<K.sz):(K.vals ps)[i*K.sz+j]? = (K.cells (K.at ps i))[j]?:=by
 induction ps generalizing i with
 |nil=>simp at h
 |cons p r ih=>
  have e:K.vals (p :: r)=(K.cells p).toList++K.vals r:=rfl;rw[e];cases i with
  |zero=>
   rw[List.getElem?_append_left (by rw[H.len];omega)];simp[GK.at]
  |succ i=>
   rw[List.getElem?_append_right (by rw[H.len,Nat.succ_mul];omega),H.len,show (i+1)*K.sz+j-K.sz=i*K.sz+j from by rw[Nat.succ_mul];omega,ih i (by simpa using h)];rfl
theorem GKok.vals_set (H:GKok K) (ps:List α) (i j:Nat) (v:Value) (p':α) (h:i<ps.length) (hj:j<K.sz) (hc:(K.cells (K.at ps i)).setIfInBounds j v=K.cells p'):K.vals (ps.set i p')=(K.vals ps).set (i*K.sz+j) v:=by
 induction ps generalizing i with
 |nil=>simp at h
 |cons p r ih=>
  have e:K.vals (p :: r)=(K.cells p).toList++K.vals r:=rfl;cases i with
  |zero=>
   have e2:K.vals ((p :: r).set 0 p')=(K.cells p').toList++K.vals r:=rfl;have e3:(K.cells p').toList=(K.cells p).toList.set j v:=by
    rw[←Array.toList_setIfInBounds];exact congrArg Array.toList hc.symm
   rw[e,e2,e3,Nat.zero_mul,Nat.zero_add,List.set_append_left _ _ (by rw[H.len];exact hj)]
  |succ i=>
   have e2:K.vals ((p :: r).set (i+1) p')=(K.cells p).toList++K.vals (r.set i p'):=rfl;rw[e,e2,ih i (by simpa using h) hc,List.set_append_right _ _ (by rw[H.len,Nat.succ_mul];omega),H.len,show (i+1)*K.sz+j-K.sz=i*K.sz+j from by rw[Nat.succ_mul];omega]
def GK.Rd (K:GK α) (w:World) (ao:Option Addr) (n cap:Nat) (ps:List α):Prop :=
 (ps.length=n∧∀i,i<n→∃b off,ao=some ⟨b,off,none⟩∧w.rangeAt b (off+i*K.sz) (K.cells (K.at ps i)).toList)∧n≤cap∧cap≤maxLen∧(ao=none→cap=0)
theorem GK.Rd.below {w w':World} {ao:Option Addr} {n cap:Nat} {ps:List α} (h:K.Rd w ao n cap ps) (hb:Below w.heap.size w w'):K.Rd w' ao n cap ps:=by
 refine⟨⟨h.1.1,fun i hi=>?_⟩,h.2⟩;obtain⟨b,off,e,hr⟩:=h.1.2 i hi;exact⟨b,off,e,qau hr hb⟩
theorem GK.Rd.cell (H:GKok K) {w:World} {ao:Option Addr} {n cap:Nat} {ps:List α} (h:K.Rd w ao n cap ps) (i:Nat) (hi:i<n):∃b off,ao=some ⟨b,off,none⟩∧w.rangeAt b (off+i*K.sz) (K.cells (K.at ps i)).toList∧∀j v,(K.cells (K.at ps i))[j]? = some v→w.cell? ⟨b,off+i*K.sz+j,none⟩ = some v:=by
 obtain⟨b,off,e,hr⟩:=h.1.2 i hi;refine⟨b,off,e,hr,fun j v hv=>hr j v ?_⟩;rw[Array.getElem?_toList];exact hv
def GK.Own (K:GK α) (w:World) (B:Nat) (ao:Option Addr) (n cap:Nat) (ps:List α):Prop:=ps.length=n∧w.ownsRow B K.ty K.sz (.slice ao n cap) n (K.vals ps)
theorem GK.Own.len {w:World} {B:Nat} {ao:Option Addr} {n cap:Nat} {ps:List α} (h:K.Own w B ao n cap ps):ps.length=n:=h.1
theorem GK.Own.opened {w:World} {B:Nat} {v:Value} {n:Nat} {ps:List α} (hl:ps.length=n) (h:w.ownsRow B K.ty K.sz v n (K.vals ps)):∃ao cap,v=.slice ao n cap∧K.Own w B ao n cap ps:=by
 rcases h.2 with ⟨rfl,rfl⟩ | ⟨g,c,cur,rfl,_⟩
 ·exact⟨none,0,rfl,hl,h⟩
 ·exact⟨_,_,rfl,hl,h⟩
theorem GK.Own.below {w w':World} {B:Nat} {ao:Option Addr} {n cap:Nat} {ps:List α} (h:K.Own w B ao n cap ps) (hb:Below w.heap.size w w'):K.Own w' B ao n cap ps:=⟨h.1,qha h.2 hb⟩
theorem GK.Own.mono {w:World} {B B':Nat} {ao:Option Addr} {n cap:Nat} {ps:List α} (h:K.Own w B ao n cap ps) (hB:B'≤B):K.Own w B' ao n cap ps:=⟨h.1,g_ownsmono h.2 hB⟩
theorem GK.Own.nil (K:GK α) (w:World) (B:Nat):K.Own w B none 0 0 []:=⟨rfl,World.ownsRow_nil _ _ _ _⟩
theorem GK.Own.lt {w:World} {B:Nat} {a:Addr} {n cap:Nat} {ps:List α} (h:K.Own w B (some a) n cap ps):B≤a.block∧a.block<w.heap.size:=h.2.lt _ rfl
theorem GK.Own.grown {w w':World} {B:Nat} {ao:Option Addr} {n cap:Nat} {ps:List α} {row:Option Nat} (h:K.Own w B ao n cap ps) (hg:w.grownBy w' row) (hne:∀a,ao=some a→some a.block≠row):K.Own w' B ao n cap ps:=by
 refine⟨h.1,h.2.kept hg ?_⟩;cases ao with
 |none=>exact .inl rfl
 |some a=>exact .inr (hne a rfl)
theorem GK.Own.rd (H:GKok K) {w:World} {B:Nat} {ao:Option Addr} {n cap:Nat} {ps:List α} (h:K.Own w B ao n cap ps):K.Rd w ao n cap ps:=by
 obtain⟨hl,h1,h2⟩:=h
 rcases h2 with ⟨e,_⟩ | ⟨g,c,cur,e,hb,hg,hc,hm,hs,ht⟩
 ·simp only[Value.slice.injEq] at e;obtain⟨rfl,rfl,rfl⟩:=e;exact⟨⟨hl,fun i hi=>by omega⟩,Nat.le_refl _,Nat.zero_le _,fun _=>rfl⟩
 ·simp only[Value.slice.injEq] at e;obtain⟨rfl,_,rfl⟩:=e;refine⟨⟨hl,fun i hi=>⟨g,0,rfl,fun j v hv=>?_⟩⟩,hc,hm,fun h=>by simp at h⟩;have own:w.ownsRow B K.ty K.sz (.slice (some ⟨g,0,none⟩) n cap) n (K.vals ps):=⟨h1,.inr ⟨g,cap,cur,rfl,hb,hg,hc,hm,hs,ht⟩⟩;have hj:j<K.sz:=by
   have:=(List.getElem?_eq_some_iff.1 hv).1
   rwa [H.len] at this
  have hlt:i*K.sz+j<n*K.sz:=by
   have:(i+1)*K.sz≤n*K.sz:=Nat.mul_le_mul_right _ hi;rw[Nat.succ_mul] at this;omega
  rw[Nat.zero_add,own.cellAt (i*K.sz+j) hlt,H.vals_at _ i j (by omega) hj];rw[←hv,Array.getElem?_toList]
theorem GK.Own.froz {w:World} {B g n cap:Nat} {ps:List α} (h:K.Own w B (some ⟨g,0,none⟩) n cap ps) (j:Nat):w.frozen? ⟨g,j,none⟩ = false:=h.2.frozenAt j
theorem GK.Own.block {w:World} {B:Nat} {a:Addr} {n cap:Nat} {ps:List α} (h:K.Own w B (some a) n cap ps):∃cur,w.heap[a.block]? = some (.cells cur K.ty):=g_ty h.2
theorem GK.Own.store (H:GKok K) {w:World} {B g n cap:Nat} {ps:List α} (h:K.Own w B (some ⟨g,0,none⟩) n cap ps) (i j:Nat) (v:Value) (p':α) (hi:i<n) (hj:j<K.sz) (hc:(K.cells (K.at ps i)).setIfInBounds j v=K.cells p') :
  K.Own (w.setCell ⟨g,i*K.sz+j,none⟩ v) B (some ⟨g,0,none⟩) n cap (ps.set i p')∧w.grownBy (w.setCell ⟨g,i*K.sz+j,none⟩ v) (some g):=by
 obtain⟨h1,hg⟩:=h.2.stored (i*K.sz+j) v;refine⟨⟨by simpa using h.1,?_⟩,hg⟩;rw[H.vals_set ps i j v p' (by rw[h.1];exact hi) hj hc];exact h1
theorem g_app (H:GKok K) {ops:Array Oper} {rest:List Oper} {o:Oper} {a:Act} {Q:Exit→Act→World→Prop} (w:World) (hgd:o.guard=none) (s x:Operand)
  (ho:o.op=.call { callee:=.builtin .append,args:=#[s,x],argTypes:=#[K.sty,K.sty] })
  (B:Nat) (ao:Option Addr) (n cap:Nat) (zs:List α) (hs:a.eval s=.slice ao n cap) (hown:K.Own w B ao n cap zs)
  (ad:Addr) (u:α) (hx:a.eval x=.slice (some ad) 1 1) (hc:∀j v,(K.cells u)[j]? = some v→w.cell? (ad.add j)=some v) (hb:n<maxLen) (hbb:(n+1)*K.bytes≤140737488355328) (hB:B≤w.heap.size)
  (h:∀ao' cap' w',K.Own w' B ao' (n+1) cap' (zs++[u])→w.grownBy w' (Value.slice ao n cap).ownBlock→wpList Tryd.prog ops Q rest (a.put o.dst (.slice ao' (n+1) cap')) w') :
  wpList Tryd.prog ops Q (o :: rest) a w:=by
 obtain⟨i0,hi,hz0,hz1,hz2⟩:=info_parts H.info;have hlen:(zs++[u]).length=n+1:=by rw[List.length_append,hown.1];rfl
 have hz:(Value.agg (K.cells K.zero)).cells.size=K.sz:=H.size _;have hu:K.vals [u]=(K.cells u).toList:=by simp[GK.vals]
 refine wpList_append_own w hgd s x K.sty ho B K.ty i0 (.agg (K.cells K.zero)) K.sz K.bytes H.und hi hz0 hz1 hz2 hz H.pos (.slice ao n cap) n (K.vals zs) hs hown.2 ad 1 1 (K.vals [u]) hx (H.vals_length [u]) ?_ (H.vals_one [u]) (by omega) hbb hB ?_
 ·intro j v hv;refine hc j v ?_;rw[hu,Array.getElem?_toList] at hv;exact hv
 ·intro v' w' hv hg _;rw[K.vals_app] at hv;obtain⟨ao',cap',rfl,hown'⟩:=GK.Own.opened hlen hv;exact h ao' cap' w' hown' hg
theorem g_make (H:GKok K) {ops:Array Oper} {rest:List Oper} {o:Oper} {a:Act} {Q:Exit→Act→World→Prop} (w:World) (hgd:o.guard=none) (l c:Operand) (hop:o.op=Op.makeSlice K.sty l c)
  (C:Int) (n:Nat) (hl:a.eval l=.int .i64 C) (hc:a.eval c=.int .i64 C) (hC:C=(n:Int)) (hb:n≤maxLen) (hbb:K.bytes*n≤281474976710656)
  (h:∀w',K.Own w' w.heap.size (some ⟨w.heap.size,0,none⟩) n n (List.replicate n K.zero)→Below w.heap.size w w'→wpList Tryd.prog ops Q rest (a.put o.dst (.slice (some ⟨w.heap.size,0,none⟩) n n)) w') :
  wpList Tryd.prog ops Q (o :: rest) a w:=by
 obtain⟨i0,hi,hz0,hz1,hz2⟩:=info_parts H.info;refine wpList_make_full w hgd l c K.sty hop w.heap.size K.ty i0 (.agg (K.cells K.zero)) K.sz H.und hi hz0 hz1 .i64 .i64 C C n hl hc hC hC (by rw[hz2];exact hbb) hb (Nat.le_refl _) ?_;intro w' hown hg;refine h w' ⟨by simp,?_⟩ ((Below.refl _ _).grown hg (Nat.le_refl _) (fun k hk=>by cases hk));have e:(madeCells (Value.agg (K.cells K.zero)).cells (n*K.sz)).toList=K.vals (List.replicate n K.zero):=by
  apply List.ext_getElem?
  intro i;show (madeCells (K.cells K.zero) (n*K.sz)).toList[i]? = _;have hp:=H.pos
  by_cases hi2:i<n*K.sz
  ·have hdm:=Nat.div_add_mod i K.sz;have hm:=Nat.mod_lt i hp;have hk:i / K.sz<n:=Nat.div_lt_of_lt_mul (by rw[Nat.mul_comm];exact hi2);have hv:=H.vals_at (List.replicate n K.zero) (i / K.sz) (i%K.sz) (by simpa using hk) hm;have hz:K.at (List.replicate n K.zero) (i / K.sz)=K.zero:=by simp[GK.at,List.getD_eq_getElem?_getD,hk]
   rw[hz,Nat.mul_comm,hdm] at hv;rw[hv];have hs:=H.size K.zero;have hm':i%K.sz<(K.cells K.zero).size:=by rw[hs];exact hm
   simp[madeCells,hi2,hs,Array.getElem?_eq_getElem hm'];exact getElem!_pos (K.cells K.zero) _ hm'
  ·have h1:(madeCells (K.cells K.zero) (n*K.sz)).toList.length=n*K.sz:=by simp[madeCells]
   have h2:(K.vals (List.replicate n K.zero)).length=n*K.sz:=by rw[H.vals_length];simp
   rw[List.getElem?_eq_none (by rw[h1];omega),List.getElem?_eq_none (by rw[h2];omega)]
 rw[e] at hown;exact hown
theorem g_ldM (H:GKok K) {o:Oper} {a:Act} {w:World} {C:Act→World→Prop} {Q:Exit→Act→World→Prop} {b i:Nat} {p:α} (hB:w.rangeAt b i (K.cells p).toList) (x:Operand) (ho:o.op=.load K.ty x)
  (hx:a.eval x=.pointer (some ⟨b,i,none⟩)) (h:C (a.put o.dst (.agg (K.cells p))) w):Oper.wp Tryd.prog o a w C Q:=by
 obtain⟨d,hd,hr⟩:=H.row;obtain⟨i0,hi,hz0,hz1,hz2⟩:=info_parts H.info;have e:=run_loadVar_mid (P:=Tryd.prog) w b i K.ty (K.cells p).toList _ hB hd hr (by rw[H.len,hi];simp[hz1]);rw[Array.toArray_toList] at e;unfold Oper.wp;rw[show (execOp a.eval o).run Tryd.prog w=.ok (.value (.agg (K.cells p))) w from by simp only[execOp,ho,hx,Instr.loadAt,Instr.sureAddr,Sem.run_bind,Sem.run_pure,Result.andThen_ok,e]];exact h
theorem qcm {w w1 w2:World} {B:Nat} {ao:Option Addr} {n cap:Nat} {ps:List α} (hb:Below B w w1) (hB:B≤w1.heap.size) (ho:K.Own w1 B ao n cap ps) (hg:w1.grownBy w2 (Value.slice ao n cap).ownBlock):Below B w w2 :=
 hb.grown hg hB (fun k e=>by
  cases ao with
  |none=>simp[Value.ownBlock] at e
  |some a=>
   obtain rfl:a.block=k:=by simpa[Value.ownBlock] using e
   exact ho.lt.1)
end
