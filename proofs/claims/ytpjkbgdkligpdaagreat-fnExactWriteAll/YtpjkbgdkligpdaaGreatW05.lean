/- Lemmas. -/
import Derived.Test.YtpjkbgdkligpdaaGreatW01
set_option linter.unusedVariables false
set_option linter.unusedSimpArgs false
set_option maxRecDepth 100000
set_option maxHeartbeats 20000000
namespace Go.Proofs.YtpjkbgdkligpdaaGreat
open Go.RowKit

theorem info3:(Tryz.prog.info? 3).map (fun i=>(i.zero,i.size,i.bytes))=some (some (.int .i64 0),1,8):=by kernel_rfl

def nt (zs:List Int) (i:Nat):Int:=zs.getD i 0
def ivals (zs:List Int):List Value:=zs.map fun z=>Value.int .i64 z

theorem ivals_at (zs:List Int) (i:Nat) (h:i<zs.length):(ivals zs)[i]? = some (.int .i64 (nt zs i)):=by
 simp only[ivals,nt,List.getElem?_map,List.getElem?_eq_getElem h,Option.map_some,List.getD_eq_getElem?_getD,Option.getD_some]

def IRd (w:World) (ao:Option Addr) (n cap:Nat) (zs:List Int):Prop :=
 (zs.length=n∧∀i,i<n→∃b off,ao=some ⟨b,off,none⟩∧w.cell? ⟨b,off+i,none⟩ = some (.int .i64 (nt zs i)))∧n≤cap∧cap≤maxLen∧(ao=none→cap=0)

theorem IRd.nil (w:World):IRd w none 0 0 []:=⟨⟨rfl,fun i hi=>by omega⟩,Nat.le_refl _,Nat.zero_le _,fun _=>rfl⟩

def IOwn (w:World) (B:Nat) (ao:Option Addr) (n cap:Nat) (zs:List Int):Prop:=zs.length=n∧w.ownsRow B 3 1 (.slice ao n cap) n (ivals zs)

theorem IOwn.rd {w:World} {B:Nat} {ao:Option Addr} {n cap:Nat} {zs:List Int} (h:IOwn w B ao n cap zs):IRd w ao n cap zs:=by
 obtain⟨hl,h1,h2⟩:=h
 rcases h2 with ⟨e,rfl⟩ | ⟨g,c,cur,e,hb,hg,hc,hm,hs,ht⟩
 ·simp only[Value.slice.injEq] at e;obtain⟨rfl,_,rfl⟩:=e;exact⟨⟨hl,fun i hi=>by omega⟩,Nat.le_refl _,Nat.zero_le _,fun _=>rfl⟩
 ·simp only[Value.slice.injEq] at e;obtain⟨rfl,_,rfl⟩:=e;refine⟨⟨hl,fun i hi=>⟨g,0,rfl,?_⟩⟩,hc,hm,fun h=>by simp at h⟩;have own:w.ownsRow B 3 1 (.slice (some ⟨g,0,none⟩) n cap) n (ivals zs):=⟨h1,.inr ⟨g,cap,cur,rfl,hb,hg,hc,hm,hs,ht⟩⟩;rw[Nat.zero_add,own.cellAt i (by omega),ivals_at zs i (by omega)]
theorem IOwn.block {w:World} {B:Nat} {ao:Option Addr} {n cap:Nat} {zs:List Int} (h:IOwn w B ao n cap zs) {a:Addr} (e:ao=some a):B≤a.block∧a.block<w.heap.size:=by
 subst e;exact h.2.lt _ rfl
theorem IRd.below {w w':World} {ao:Option Addr} {n cap:Nat} {zs:List Int} (h:IRd w ao n cap zs) (hb:Below w.heap.size w w'):IRd w' ao n cap zs:=by
 refine⟨⟨h.1.1,fun i hi=>?_⟩,h.2⟩;obtain⟨b,off,e,hc⟩:=h.1.2 i hi;exact⟨b,off,e,(hb.cell (World.block_lt_of_cell? w _ hc)).trans hc⟩
theorem IOwn.below {w w':World} {B:Nat} {ao:Option Addr} {n cap:Nat} {zs:List Int} (h:IOwn w B ao n cap zs) (hb:Below w.heap.size w w'):IOwn w' B ao n cap zs:=by
 refine⟨h.1,h.2.1,?_⟩
 rcases h.2.2 with hn | ⟨g,c,cur,e,hB,hg,rest⟩
 ·exact .inl hn
 ·exact .inr ⟨g,c,cur,e,hB,by rw[hb.block g (Array.getElem?_eq_some_iff.1 hg).1];exact hg,rest⟩
theorem IOwn.grown {w w':World} {B:Nat} {ao:Option Addr} {n cap:Nat} {zs:List Int} {row:Option Nat} (h:IOwn w B ao n cap zs) (hg:w.grownBy w' row) (hne:∀a,ao=some a→some a.block≠row):IOwn w' B ao n cap zs:=by
 refine⟨h.1,h.2.kept hg ?_⟩;cases ao with
 |none=>exact .inl rfl
 |some a=>exact .inr (hne a rfl)
theorem IOwn.frozen {w:World} {B:Nat} {g n cap:Nat} {zs:List Int} (h:IOwn w B (some ⟨g,0,none⟩) n cap zs) (j:Nat):w.frozen? ⟨g,j,none⟩ = false:=h.2.frozenAt j
theorem IOwn.cell {w:World} {B:Nat} {g n cap:Nat} {zs:List Int} (h:IOwn w B (some ⟨g,0,none⟩) n cap zs) (j:Nat) (hj:j<n):w.cell? ⟨g,j,none⟩ = some (.int .i64 (nt zs j)):=by
 rw[h.2.cellAt j (by omega),ivals_at zs j (by rw[h.1];exact hj)]
theorem IOwn.head {w:World} {B:Nat} {ao:Option Addr} {n cap:Nat} {zs:List Int} (h:IOwn w B ao n cap zs) (hn:0<n):∃g,ao=some ⟨g,0,none⟩:=by
 rcases h.2.2 with ⟨_,h0⟩ | ⟨g,c,cur,e,_⟩
 ·omega
 ·simp only[Value.slice.injEq] at e;exact⟨g,e.1⟩
theorem IOwn.store {w:World} {B:Nat} {g n cap:Nat} {zs:List Int} (h:IOwn w B (some ⟨g,0,none⟩) n cap zs) (j:Nat) (u:Int) :
  IOwn (w.setCell ⟨g,j,none⟩ (.int .i64 u)) B (some ⟨g,0,none⟩) n cap (zs.set j u):=by
 refine⟨by simpa using h.1,?_⟩;have:=(h.2.stored j (.int .i64 u)).1;have e:(ivals zs).set j (.int .i64 u)=ivals (zs.set j u):=by simp[ivals,List.map_set]
 rw[e] at this;exact this
theorem eq_leqIntS (ao a1:Option Addr) (n cap cap1:Nat) (l:List Int) (w:World) (hr:IRd w ao n cap l) (h1:IRd w a1 n cap1 l) (hn:n≤1099511627776) :
  Calls Tryz.prog 41 #[.slice ao n cap,.slice a1 n cap1] w fun e w'=>e=.returned (.bool true)∧Below w.heap.size w w':=by
 have hne:((n:Int) != n)=false:=by simp
 go_enter Tryz.func41,Tryz.ntmps41;go_wp2
 go_loopw [5] (fun i wr=>∃k:Nat,i=.int .i64 k∧k≤n∧Below w.heap.size w wr) (fun i _=>n-(intOf i).toNat)
 case atStart=>exact⟨0,rfl,Nat.zero_le _,Below.refl _ _⟩
 case round=>
  obtain⟨k,rfl,hk,hb⟩:=hrel
  by_cases hlt:k<n
  ·obtain⟨b,off,e,hc⟩:=hr.1.2 k hlt;subst e;obtain⟨b1,off1,e1,hc1⟩:=h1.1.2 k hlt;subst e1;have hck:wr.cell? ⟨b,off+k,none⟩ = some (.int .i64 (nt l k)):=(hb.cell (World.block_lt_of_cell? w _ hc)).trans hc;have hck1:wr.cell? ⟨b1,off1+k,none⟩ = some (.int .i64 (nt l k)):=(hb.cell (World.block_lt_of_cell? w _ hc1)).trans hc1;have hlt':(k:Int)<n:=by omega
   have k0:(0:Int)≤k:=by omega
   have hbn:(nt l k != nt l k)=false:=by simp
   clear hc hc1;go_wp2
   go_quiet (fail)
   go_wp2;go_roundw
   case rel=>exact⟨k+1,by go_num,by omega,below_drewN hb _⟩
   case measure=>simp[intOf];omega
  ·have hlt':¬(k:Int)<n:=by omega
   go_wp2;go_ret;exact⟨rfl,hb⟩

def imks (k n:Nat):List Int:=(List.range n).map fun i=>((k+i:Nat):Int)
theorem qki (k n:Nat):(imks k n).length=n:=by simp[imks]
theorem imks_set (l:List Int) (k n j:Nat) (hl:l.length=n) (hj:j<n):(imks k j++l.drop j).set j ((k+j:Nat):Int)=imks k (j+1)++l.drop (j+1):=by
 rw[List.set_append_right _ _ (by rw[qki];exact Nat.le_refl _),qki,Nat.sub_self];rw[List.drop_eq_getElem_cons (by omega),List.set_cons_zero];simp only[imks,List.range_succ,List.map_append,List.map_cons,List.map_nil,List.append_assoc];rfl

theorem w_imaken {ops:Array Oper} {rest:List Oper} {o:Oper} {a:Act} {Q:Exit→Act→World→Prop} (w:World) (hgd:o.guard=none) (l c:Operand) (hop:o.op=Op.makeSlice 25 l c)
  (C:Int) (n:Nat) (hl:a.eval l=.int .i64 C) (hc:a.eval c=.int .i64 C) (hC:C=(n:Int)) (hb:n≤1099511627776)
  (h:∀w',IOwn w' w.heap.size (some ⟨w.heap.size,0,none⟩) n n (List.replicate n 0)→Below w.heap.size w w'→wpList Tryz.prog ops Q rest (a.put o.dst (.slice (some ⟨w.heap.size,0,none⟩) n n)) w') :
  wpList Tryz.prog ops Q (o :: rest) a w:=by
 obtain⟨i0,hi,hz0,hz1,hz2⟩:=info_parts info3;refine wpList_make_full w hgd l c 25 hop w.heap.size 3 i0 (.int .i64 0) 1 Tryz.underlying25 hi hz0 hz1 .i64 .i64 C C n hl hc hC hC (by rw[hz2];omega) (by unfold maxLen;omega) (Nat.le_refl _) ?_;intro w' hown hg;refine h w' ⟨by simp,?_⟩ ((Below.refl _ _).grown hg (Nat.le_refl _) (fun k hk=>by cases hk));have e:(madeCells (Value.int .i64 0).cells (n*1)).toList=ivals (List.replicate n 0):=by
  rw[Nat.mul_one];show (madeCells #[Value.int .i64 0] n).toList=_;rw[toList_madeCells_one];simp[ivals]
 rw[e] at hown;exact hown

theorem iset_take (l:List Int) (n k:Nat) (hl:l.length=n) (hk:k<n):(l.take k++List.replicate (n-k) 0).set k (nt l k)=l.take (k+1)++List.replicate (n-(k+1)) 0:=by
 rw[List.set_append_right _ _ (by simp;omega)];rw[List.length_take,hl,Nat.min_eq_left (by omega),Nat.sub_self];rw[show n-k=(n-(k+1))+1 from by omega,List.replicate_succ,List.set_cons_zero];rw[List.take_succ_eq_append_getElem (by omega)];have e:nt l k=l[k]'(by omega):=by simp[nt,List.getD_eq_getElem?_getD,List.getElem?_eq_getElem (show k<l.length by omega)]
 rw[e,List.append_assoc];rfl

theorem to_ltoIntS (ao:Option Addr) (n cap:Nat) (l:List Int) (w:World) (hr:IRd w ao n cap l) (hn:n≤1099511627776) :
  Calls Tryz.prog 33 #[.slice ao n cap] w fun e w'=>e=.returned (.slice (some ⟨w.heap.size,0,none⟩) n n)∧IOwn w' w.heap.size (some ⟨w.heap.size,0,none⟩) n n l∧Below w.heap.size w w':=by
 have HL:Hid (l.length=n):=hr.1.1;go_enter Tryz.func33,Tryz.ntmps33;go_wp2_with (at_make;refine w_imaken _ rfl _ _ rfl _ n rfl rfl rfl (by omega) ?_)
 intro w1 hown hb1;go_wp2
 go_loopw [4] (fun i wr=>∃k:Nat,i=.int .i64 k∧k≤n∧IOwn wr w.heap.size (some ⟨w.heap.size,0,none⟩) n n (l.take k++List.replicate (n-k) 0)∧Below w.heap.size w wr) (fun i _=>n-(intOf i).toNat)
 case atStart=>exact⟨0,rfl,Nat.zero_le _,by simpa using hown,hb1⟩
 case round=>
  obtain⟨k,rfl,hk,ho,hb⟩:=hrel;clear hown hb1
  by_cases hlt:k<n
  ·obtain⟨b,off,e,hc⟩:=hr.1.2 k hlt;subst e;have hck:wr.cell? ⟨b,off+k,none⟩ = some (.int .i64 (nt l k)):=(hb.cell (World.block_lt_of_cell? w _ hc)).trans hc;have hlt':(k:Int)<n:=by omega
   have hz:=ho.cell k hlt;have hf:=ho.frozen k;have HO:=ho.store k (nt l k);rw[iset_take l n k HL.out hlt] at HO;have HO':Hid (IOwn (wr.setCell ⟨w.heap.size,k,none⟩ (.int .i64 (nt l k))) w.heap.size (some ⟨w.heap.size,0,none⟩) n n (l.take (k+1)++List.replicate (n-(k+1)) 0)):=HO;clear HO hc ho;go_wp2;go_roundw
   case rel=>exact⟨k+1,by go_num,by omega,HO'.out,hb.setCell (Nat.le_refl _) _⟩
   case measure=>simp[intOf];omega
  ·have hlt':¬(k:Int)<n:=by omega
   obtain rfl:k=n:=by omega
   go_wp2;go_ret;refine⟨rfl,?_,hb⟩;have:=HL.out;rw[Nat.sub_self,List.take_of_length_le (by omega)] at ho
   simpa using ho

