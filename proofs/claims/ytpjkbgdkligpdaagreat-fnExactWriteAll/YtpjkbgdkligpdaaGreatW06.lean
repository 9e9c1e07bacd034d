/- Lemmas. -/
import Derived.Handy
import Derived.Deep.RegionWith
import Derived.Test.YtpjkbgdkligpdaaGreatW05
import Derived.Test.YtpjkbgdkligpdaaGreatW04
set_option linter.unusedVariables false
set_option linter.unusedSimpArgs false
set_option maxRecDepth 100000
set_option maxHeartbeats 20000000
namespace Go.Proofs.YtpjkbgdkligpdaaGreat
open Go.RowKit

def wf (ws:List (ByteArray×Int)) (i:Nat):ByteArray:=(ws.getD i (ByteArray.empty,0)).1
def wq (ws:List (ByteArray×Int)) (i:Nat):Int:=(ws.getD i (ByteArray.empty,0)).2
def wvals (ws:List (ByteArray×Int)):List Value:=ws.flatMap fun x=>[.string x.1,.int .i64 x.2]
theorem qoj (ws:List (ByteArray×Int)):(wvals ws).length=2*ws.length:=by
 induction ws with
 |nil=>rfl
 |cons a r ih=>simp[wvals] at ih ⊢;omega

def WRd (w:World) (ao:Option Addr) (n cap:Nat) (ws:List (ByteArray×Int)):Prop :=
 (ws.length=n∧∀i,i<n→∃b off,ao=some ⟨b,off,none⟩∧w.cell? ⟨b,off+i*2,none⟩ = some (.string (wf ws i))∧w.cell? ⟨b,off+i*2+1,none⟩ = some (.int .i64 (wq ws i)))∧n≤cap∧cap≤maxLen∧(ao=none→cap=0)

theorem WRd.below {w w':World} {ao:Option Addr} {n cap:Nat} {ws:List (ByteArray×Int)} (h:WRd w ao n cap ws) (hb:Below w.heap.size w w'):WRd w' ao n cap ws:=by
 refine⟨⟨h.1.1,fun i hi=>?_⟩,h.2⟩;obtain⟨b,off,e,hc,hd⟩:=h.1.2 i hi;exact⟨b,off,e,(hb.cell (World.block_lt_of_cell? w _ hc)).trans hc,(hb.cell (World.block_lt_of_cell? w _ hd)).trans hd⟩

theorem sz_lszWant (f:ByteArray) (q:Int) (L:Nat) (w:World) (hn:f.size≤maxLen) (hL:L≤1048576) :
  Calls Tryz.prog 46 #[.agg #[.string f,.int .i64 q],.int .i64 L] w fun e w'=>∃r:Int,e=.returned (.int .i64 r)∧Below w.heap.size w w'∧(r<0∨∃R:Nat,r=R∧R+f.size=L):=by
 unfold maxLen at hn
 by_cases h:f.size≤L
 ·have h':¬(L:Int)-f.size<0:=by omega
  go_enter Tryz.func46,Tryz.ntmps46;go_wp2;go_ret;exact⟨_,rfl,(Below.refl _ _).alloc (Nat.le_refl _) _,.inr ⟨L-f.size,by omega,by omega⟩⟩
 ·have h':(L:Int)-f.size<0:=by omega
  go_enter Tryz.func46,Tryz.ntmps46;go_wp2;go_ret;exact⟨_,rfl,(Below.refl _ _).alloc (Nat.le_refl _) _,.inl (by decide)⟩

def wtot (ws:List (ByteArray×Int)):Nat:=(ws.map fun x=>x.1.size).sum
theorem wtot_take (ws:List (ByteArray×Int)) (k:Nat) (h:k<ws.length):wtot (ws.take (k+1))=wtot (ws.take k)+(wf ws k).size:=by
 have e:wf ws k=(ws[k]'h).1:=by simp[wf,List.getD_eq_getElem?_getD,List.getElem?_eq_getElem h]
 rw[List.take_succ_eq_append_getElem h,e];simp only[wtot,List.map_append,List.map_cons,List.map_nil,List.sum_append,List.sum_cons,List.sum_nil,Nat.add_zero]

theorem qph (ao:Option Addr) (n cap L:Nat) (ws:List (ByteArray×Int)) (w:World) (hr:WRd w ao n cap ws) (hs:∀x∈ws,x.1.size≤maxLen) (hL:L≤1048576) :
  Calls Tryz.prog 21 #[.slice ao n cap,.int .i64 L] w fun e w'=>∃r:Int,e=.returned (.int .i64 r)∧Below w.heap.size w w'∧(r<0∨∃R:Nat,r=R∧R+n+wtot ws=L):=by
 have HL:Hid (ws.length=n):=hr.1.1;have HS:Hid (∀k,k<n→(wf ws k).size≤maxLen):=fun k hk=>by
  have h:k<ws.length:=by rw[HL.out];exact hk
  have e:wf ws k=(ws[k]'h).1:=by simp[wf,List.getD_eq_getElem?_getD,List.getElem?_eq_getElem h]
  rw[e];exact hs _ (List.getElem_mem h)
 have hcap:n≤maxLen:=Nat.le_trans hr.2.1 hr.2.2.1;unfold maxLen at hcap;clear hs
 by_cases hbig:L<n
 ·have h':(L:Int)-n<0:=by omega
  go_enter Tryz.func21,Tryz.ntmps21;go_wp2;go_ret;exact⟨_,rfl,Below.refl _ _,.inl (by decide)⟩
 ·have h':¬(L:Int)-n<0:=by omega
  go_enter Tryz.func21,Tryz.ntmps21;go_wp2
  go_loopw [1,5] (fun q i wr=>∃k M:Nat,i=.int .i64 k∧q=.int .i64 M∧k≤n∧M+n+wtot (ws.take k)=L∧Below w.heap.size w wr) (fun _ i _=>n-(intOf i).toNat)
  case atStart=>exact⟨0,L-n,rfl,by go_num,Nat.zero_le _,by simp[wtot];omega,Below.refl _ _⟩
  case round=>
   obtain⟨k,M,rfl,rfl,hk,hT,hb⟩:=hrel
   by_cases hlt:k<n
   ·obtain⟨b,off,e,hc,hd⟩:=hr.1.2 k hlt;subst e;have hck:wr.cell? ⟨b,off+k*2,none⟩ = some (.string (wf ws k)):=(hb.cell (World.block_lt_of_cell? w _ hc)).trans hc;have hdk:wr.cell? ⟨b,off+k*2+1,none⟩ = some (.int .i64 (wq ws k)):=(hb.cell (World.block_lt_of_cell? w _ hd)).trans hd;have hlt':(k:Int)<n:=by omega
    have HT:Hid (wtot (ws.take (k+1))=wtot (ws.take k)+(wf ws k).size):=wtot_take ws k (by rw[HL.out];exact hlt);have hsz:=HS.out k hlt;clear hc hd;go_wp2_with fail
    refine (sz_lszWant (wf ws k) (wq ws k) M wr hsz (by omega)).mono ?_;rintro e w2 ⟨r,rfl,hb2,hcase⟩;have hb3:=hb.trans (hb2.mono hb.size)
    rcases hcase with hneg | ⟨R,rfl,hR⟩
    ·go_wp2;go_ret;exact⟨_,rfl,hb3,.inl (by decide)⟩
    ·have hneg:¬(R:Int)<0:=by omega
     go_wp2;go_roundw
     case rel=>exact⟨k+1,R,by go_num,rfl,by omega,by have:=HT.out;omega,hb3⟩
     case measure=>simp[intOf]<;>omega
   ·have hlt':¬(k:Int)<n:=by omega
    obtain rfl:k=n:=by omega
    go_wp2;go_ret;refine⟨_,rfl,hb,.inr ⟨M,rfl,?_⟩⟩;rw[List.take_of_length_le (by rw[HL.out];exact Nat.le_refl _)] at hT;exact hT

theorem to_ltoWant (f:ByteArray) (q:Int) (w:World) :
  Calls Tryz.prog 53 #[.agg #[.string f,.int .i64 q]] w fun e w'=>e=.returned (.agg #[.string f,.int .i64 q])∧Below w.heap.size w w':=by
 go_enter Tryz.func53,Tryz.ntmps53;go_wp2
 go_returns
 exact⟨rfl,(((Below.refl _ _).alloc (Nat.le_refl _) _).alloc (by simp) _).alloc (by simp;omega) _⟩

theorem eq_leqWant (f:ByteArray) (q:Int) (w:World) :
  Calls Tryz.prog 62 #[.agg #[.string f,.int .i64 q],.agg #[.string f,.int .i64 q]] w fun e w'=>e=.returned (.bool true)∧Below w.heap.size w w':=by
 have h1:=qcz f;have h2:(q != q)=false:=by simp
 go_enter Tryz.func62,Tryz.ntmps62;go_wp2;go_ret;exact⟨rfl,((Below.refl _ _).alloc (Nat.le_refl _) _).alloc (by simp) _⟩

theorem qoq (ao a1:Option Addr) (n cap cap1:Nat) (l:List (ByteArray×Int)) (w:World) (hr:WRd w ao n cap l) (h1:WRd w a1 n cap1 l) (hn:n≤1099511627776) :
  Calls Tryz.prog 39 #[.slice ao n cap,.slice a1 n cap1] w fun e w'=>e=.returned (.bool true)∧Below w.heap.size w w':=by
 have hne:((n:Int) != n)=false:=by simp
 go_enter Tryz.func39,Tryz.ntmps39;go_wp2
 go_loopw [5] (fun i wr=>∃k:Nat,i=.int .i64 k∧k≤n∧Below w.heap.size w wr) (fun i _=>n-(intOf i).toNat)
 case atStart=>exact⟨0,rfl,Nat.zero_le _,Below.refl _ _⟩
 case round=>
  obtain⟨k,rfl,hk,hb⟩:=hrel
  by_cases hlt:k<n
  ·obtain⟨b,off,e,hc,hd⟩:=hr.1.2 k hlt;subst e;obtain⟨b1,off1,e1,hc1,hd1⟩:=h1.1.2 k hlt;subst e1;have hck:wr.cell? ⟨b,off+k*2,none⟩ = some (.string (wf l k)):=(hb.cell (World.block_lt_of_cell? w _ hc)).trans hc;have hdk:wr.cell? ⟨b,off+k*2+1,none⟩ = some (.int .i64 (wq l k)):=(hb.cell (World.block_lt_of_cell? w _ hd)).trans hd;have hck1:wr.cell? ⟨b1,off1+k*2,none⟩ = some (.string (wf l k)):=(hb.cell (World.block_lt_of_cell? w _ hc1)).trans hc1;have hdk1:wr.cell? ⟨b1,off1+k*2+1,none⟩ = some (.int .i64 (wq l k)):=(hb.cell (World.block_lt_of_cell? w _ hd1)).trans hd1;have hlt':(k:Int)<n:=by omega
   have k0:(0:Int)≤k:=by omega
   clear hc hd hc1 hd1;go_wp2
   go_region_with (go_at_call 62;refine (eq_leqWant _ _ _).mono ?_;rintro e w1 ⟨rfl,hb1⟩)
   all_goals
    go_wp2;go_roundw
    case rel=>exact⟨k+1,by go_num,by omega,(below_drewN hb 1).trans (hb1.mono hb.size)⟩
    case measure=>simp[intOf]<;>omega
  ·have hlt':¬(k:Int)<n:=by omega
   go_wp2;go_ret;exact⟨rfl,hb⟩

theorem infoW:(Tryz.prog.info? 56).map (fun i=>(i.zero,i.size,i.bytes))=some (some (.agg #[.string ByteArray.empty,.int .i64 0]),2,24):=by kernel_rfl

def WOwn (w:World) (B:Nat) (ao:Option Addr) (n cap:Nat) (ws:List (ByteArray×Int)):Prop:=ws.length=n∧w.ownsRow B 56 2 (.slice ao n cap) n (wvals ws)

theorem qnn (ws:List (ByteArray×Int)) (i:Nat) (h:i<ws.length):(wvals ws)[i*2]? = some (.string (wf ws i))∧(wvals ws)[i*2+1]? = some (.int .i64 (wq ws i)):=by
 induction ws generalizing i with
 |nil=>simp at h
 |cons a r ih=>
  have e:wvals (a :: r)=.string a.1 :: .int .i64 a.2 :: wvals r:=rfl;cases i with
  |zero=>exact⟨rfl,rfl⟩
  |succ i=>
   have:=ih i (by simpa using h);rw[e,show (i+1)*2=i*2+1+1 by omega]
   simpa[wf,wq] using this

theorem WOwn.rd {w:World} {B:Nat} {ao:Option Addr} {n cap:Nat} {ws:List (ByteArray×Int)} (h:WOwn w B ao n cap ws):WRd w ao n cap ws:=by
 obtain⟨hl,h1,h2⟩:=h
 rcases h2 with ⟨e,rfl⟩ | ⟨g,c,cur,e,hb,hg,hc,hm,hs,ht⟩
 ·simp only[Value.slice.injEq] at e;obtain⟨rfl,_,rfl⟩:=e;exact⟨⟨hl,fun i hi=>by omega⟩,Nat.le_refl _,Nat.zero_le _,fun _=>rfl⟩
 ·simp only[Value.slice.injEq] at e;obtain⟨rfl,_,rfl⟩:=e;refine⟨⟨hl,fun i hi=>⟨g,0,rfl,?_,?_⟩⟩,hc,hm,fun h=>by simp at h⟩
  all_goals
   have own:w.ownsRow B 56 2 (.slice (some ⟨g,0,none⟩) n cap) n (wvals ws):=⟨h1,.inr ⟨g,cap,cur,rfl,hb,hg,hc,hm,hs,ht⟩⟩
  ·rw[Nat.zero_add,own.cellAt (i*2) (by omega),(qnn ws i (by omega)).1]
  ·rw[Nat.zero_add,own.cellAt (i*2+1) (by omega),(qnn ws i (by omega)).2]

theorem w_wmaken {ops:Array Oper} {rest:List Oper} {o:Oper} {a:Act} {Q:Exit→Act→World→Prop} (w:World) (hgd:o.guard=none) (l c:Operand) (hop:o.op=Op.makeSlice 30 l c)
  (C:Int) (n:Nat) (hl:a.eval l=.int .i64 C) (hc:a.eval c=.int .i64 C) (hC:C=(n:Int)) (hb:n≤1099511627776)
  (h:∀w',WOwn w' w.heap.size (some ⟨w.heap.size,0,none⟩) n n (List.replicate n (ByteArray.empty,0))→Below w.heap.size w w'→wpList Tryz.prog ops Q rest (a.put o.dst (.slice (some ⟨w.heap.size,0,none⟩) n n)) w') :
  wpList Tryz.prog ops Q (o :: rest) a w:=by
 obtain⟨i0,hi,hz0,hz1,hz2⟩:=info_parts infoW;refine wpList_make_full w hgd l c 30 hop w.heap.size 56 i0 (.agg #[.string ByteArray.empty,.int .i64 0]) 2 Tryz.underlying30 hi hz0 hz1 .i64 .i64 C C n hl hc hC hC (by rw[hz2];omega) (by unfold maxLen;omega) (Nat.le_refl _) ?_;intro w' hown hg;refine h w' ⟨by simp,?_⟩ ((Below.refl _ _).grown hg (Nat.le_refl _) (fun k hk=>by cases hk));have e:(madeCells (Value.agg #[.string ByteArray.empty,.int .i64 0]).cells (n*2)).toList=wvals (List.replicate n (ByteArray.empty,0)):=by
  apply List.ext_getElem?
  intro i;show (madeCells #[Value.string ByteArray.empty,.int .i64 0] (n*2)).toList[i]? = _
  by_cases hi2:i<n*2
  ·have hk:i / 2<n:=by omega
   have hw:=qnn (List.replicate n (ByteArray.empty,(0:Int))) (i / 2) (by simpa using hk);have hf:wf (List.replicate n (ByteArray.empty,(0:Int))) (i / 2)=ByteArray.empty:=by simp[wf,List.getD_eq_getElem?_getD,hk]
   have hq:wq (List.replicate n (ByteArray.empty,(0:Int))) (i / 2)=0:=by simp[wq,List.getD_eq_getElem?_getD,hk]
   rw[hf,hq] at hw
   rcases Nat.mod_two_eq_zero_or_one i with h0 | h0
   ·have:i=i / 2*2:=by omega
    rw[←this] at hw;rw[hw.1];simp[madeCells,hi2,h0]
   ·have:i=i / 2*2+1:=by omega
    rw[←this] at hw;rw[hw.2];simp[madeCells,hi2,h0]
  ·have h1:(madeCells #[Value.string ByteArray.empty,.int .i64 0] (n*2)).toList.length=n*2:=by simp[madeCells]
   have h2:(wvals (List.replicate n (ByteArray.empty,(0:Int)))).length=n*2:=by rw[qoj];simp;omega
   rw[List.getElem?_eq_none (by rw[h1];omega),List.getElem?_eq_none (by rw[h2];omega)]
 rw[e] at hown;exact hown

theorem wvals_set (ws:List (ByteArray×Int)) (k:Nat) (f:ByteArray) (q:Int):((wvals ws).set (k*2) (.string f)).set (k*2+1) (.int .i64 q)=wvals (ws.set k (f,q)):=by
 induction ws generalizing k with
 |nil=>simp[wvals]
 |cons a r ih=>
  have e:wvals (a :: r)=.string a.1 :: .int .i64 a.2 :: wvals r:=rfl;cases k with
  |zero=>rfl
  |succ k=>
   rw[e,show (k+1)*2=k*2+1+1 by omega];simp only[List.set_cons_succ];rw[ih k];rfl
theorem WOwn.below {w w':World} {B:Nat} {ao:Option Addr} {n cap:Nat} {ws:List (ByteArray×Int)} (h:WOwn w B ao n cap ws) (hb:Below w.heap.size w w'):WOwn w' B ao n cap ws:=by
 refine⟨h.1,h.2.1,?_⟩
 rcases h.2.2 with hn | ⟨g,c,cur,e,hB,hg,rest⟩
 ·exact .inl hn
 ·exact .inr ⟨g,c,cur,e,hB,by rw[hb.block g (Array.getElem?_eq_some_iff.1 hg).1];exact hg,rest⟩
theorem WOwn.frozen {w:World} {B:Nat} {g n cap:Nat} {ws:List (ByteArray×Int)} (h:WOwn w B (some ⟨g,0,none⟩) n cap ws) (j:Nat):w.frozen? ⟨g,j,none⟩ = false:=h.2.frozenAt j
theorem WOwn.store {w:World} {B:Nat} {g n cap:Nat} {ws:List (ByteArray×Int)} (h:WOwn w B (some ⟨g,0,none⟩) n cap ws) (k:Nat) (f:ByteArray) (q:Int) :
  WOwn ((w.setCell ⟨g,k*2,none⟩ (.string f)).setCell ⟨g,k*2+1,none⟩ (.int .i64 q)) B (some ⟨g,0,none⟩) n cap (ws.set k (f,q)):=by
 refine⟨by simpa using h.1,?_⟩;have:=((h.2.stored (k*2) (.string f)).1.stored (k*2+1) (.int .i64 q)).1;rw[wvals_set] at this;exact this
theorem wset_take (l:List (ByteArray×Int)) (n k:Nat) (hl:l.length=n) (hk:k<n):(l.take k++List.replicate (n-k) (ByteArray.empty,(0:Int))).set k (wf l k,wq l k)=l.take (k+1)++List.replicate (n-(k+1)) (ByteArray.empty,0):=by
 rw[List.set_append_right _ _ (by simp;omega)];rw[List.length_take,hl,Nat.min_eq_left (by omega),Nat.sub_self];rw[show n-k=(n-(k+1))+1 from by omega,List.replicate_succ,List.set_cons_zero];rw[List.take_succ_eq_append_getElem (by omega)];have e:(wf l k,wq l k)=l[k]'(by omega):=by simp[wf,wq,List.getD_eq_getElem?_getD,List.getElem?_eq_getElem (show k<l.length by omega)]
 rw[e,List.append_assoc];rfl

theorem qpj (ao:Option Addr) (n cap:Nat) (l:List (ByteArray×Int)) (w:World) (hr:WRd w ao n cap l) (hn:n≤1099511627776) :
  Calls Tryz.prog 31 #[.slice ao n cap] w fun e w'=>e=.returned (.slice (some ⟨w.heap.size,0,none⟩) n n)∧WOwn w' w.heap.size (some ⟨w.heap.size,0,none⟩) n n l∧Below w.heap.size w w':=by
 have HL:Hid (l.length=n):=hr.1.1;go_enter Tryz.func31,Tryz.ntmps31;go_wp2_with (at_make;refine w_wmaken _ rfl _ _ rfl _ n rfl rfl rfl (by omega) ?_)
 intro w1 hown hb1;go_wp2
 go_loopw [4] (fun i wr=>∃k:Nat,i=.int .i64 k∧k≤n∧WOwn wr w.heap.size (some ⟨w.heap.size,0,none⟩) n n (l.take k++List.replicate (n-k) (ByteArray.empty,0))∧Below w.heap.size w wr) (fun i _=>n-(intOf i).toNat)
 case atStart=>exact⟨0,rfl,Nat.zero_le _,by simpa using hown,hb1⟩
 case round=>
  obtain⟨k,rfl,hk,ho,hb⟩:=hrel;clear hown hb1
  by_cases hlt:k<n
  ·obtain⟨b,off,e,hc,hd⟩:=hr.1.2 k hlt;subst e;have hck:wr.cell? ⟨b,off+k*2,none⟩ = some (.string (wf l k)):=(hb.cell (World.block_lt_of_cell? w _ hc)).trans hc;have hdk:wr.cell? ⟨b,off+k*2+1,none⟩ = some (.int .i64 (wq l k)):=(hb.cell (World.block_lt_of_cell? w _ hd)).trans hd;have hlt':(k:Int)<n:=by omega
   clear hc hd;go_wp2_with fail
   refine (to_ltoWant (wf l k) (wq l k) wr).mono ?_;rintro e w2 ⟨rfl,hb2⟩;have ho2:=ho.below hb2;have hb3:=hb.trans (hb2.mono hb.size);obtain⟨_,_,e0,hz0,hz1⟩:=ho2.rd.1.2 k hlt;simp only[Option.some.injEq,Addr.mk.injEq,and_true] at e0;obtain⟨rfl,rfl⟩:=e0;rw[Nat.zero_add] at hz0 hz1;have hf0:=ho2.frozen (k*2);have hf1:=ho2.frozen (k*2+1);have HO:=ho2.store k (wf l k) (wq l k);rw[wset_take l n k HL.out hlt] at HO;have HO':Hid (WOwn ((w2.setCell ⟨w.heap.size,k*2,none⟩ (.string (wf l k))).setCell ⟨w.heap.size,k*2+1,none⟩ (.int .i64 (wq l k))) w.heap.size (some ⟨w.heap.size,0,none⟩) n n (l.take (k+1)++List.replicate (n-(k+1)) (ByteArray.empty,0))):=HO;have HB:Hid (Below w.heap.size w ((w2.setCell ⟨w.heap.size,k*2,none⟩ (.string (wf l k))).setCell ⟨w.heap.size,k*2+1,none⟩ (.int .i64 (wq l k)))):=(hb3.setCell (p:=⟨w.heap.size,k*2,none⟩) (Nat.le_refl _) _).setCell (p:=⟨w.heap.size,k*2+1,none⟩) (Nat.le_refl _) _;clear HO ho ho2 hb hb2 hb3;go_wp2;go_roundw
   case rel=>exact⟨k+1,by go_num,by omega,HO'.out,HB.out⟩
   case measure=>simp[intOf]<;>omega
  ·have hlt':¬(k:Int)<n:=by omega
   obtain rfl:k=n:=by omega
   go_wp2;go_ret;refine⟨rfl,?_,hb⟩;have:=HL.out;rw[Nat.sub_self,List.take_of_length_le (by omega)] at ho
   simpa using ho

theorem qha (a:Option Addr) (n c L:Nat) (w:World) (hn:n≤maxLen) (hL:L≤1048576) :
  Calls Tryz.prog 20 #[.slice a n c,.int .i64 L] w fun e w'=>∃r:Int,e=.returned (.int .i64 r)∧w'=w∧(r<0∨∃R:Nat,r=R∧R+n=L):=by
 unfold maxLen at hn
 by_cases h:n≤L
 ·have h':¬(L:Int)-n<0:=by omega
  go_enter Tryz.func20,Tryz.ntmps20;go_wp2;go_ret;exact⟨_,rfl,rfl,.inr ⟨L-n,by omega,by omega⟩⟩
 ·have h':(L:Int)-n<0:=by omega
  go_enter Tryz.func20,Tryz.ntmps20;go_wp2;go_ret;exact⟨_,rfl,rfl,.inl (by decide)⟩

theorem sz_lszIntS (a:Option Addr) (n c L:Nat) (w:World) (hn:n≤maxLen) (hL:L≤1048576) :
  Calls Tryz.prog 23 #[.slice a n c,.int .i64 L] w fun e w'=>∃r:Int,e=.returned (.int .i64 r)∧w'=w∧(r<0∨∃R:Nat,r=R∧R+n=L):=by
 unfold maxLen at hn
 by_cases h:n≤L
 ·have h':¬(L:Int)-n<0:=by omega
  go_enter Tryz.func23,Tryz.ntmps23;go_wp2;go_ret;exact⟨_,rfl,rfl,.inr ⟨L-n,by omega,by omega⟩⟩
 ·have h':(L:Int)-n<0:=by omega
  go_enter Tryz.func23,Tryz.ntmps23;go_wp2;go_ret;exact⟨_,rfl,rfl,.inl (by decide)⟩

theorem qmc (ao:Option Addr) (n cap L:Nat) (l:List ByteArray) (w:World) (hr:SRd w ao n cap l) (hs:∀s∈l,s.size≤maxLen) (hL:L≤1048576) :
  Calls Tryz.prog 22 #[.slice ao n cap,.int .i64 L] w fun e w'=>∃r:Int,e=.returned (.int .i64 r)∧w'=w∧(r<0∨∃R:Nat,r=R∧R+n+tot l=L):=by
 have HL:Hid (l.length=n):=hr.1.1;have hcap:n≤maxLen:=Nat.le_trans hr.2.1 hr.2.2.1;unfold maxLen at hcap
 by_cases hbig:L<n
 ·have h':(L:Int)-n<0:=by omega
  go_enter Tryz.func22,Tryz.ntmps22;go_wp2;go_ret;exact⟨_,rfl,rfl,.inl (by decide)⟩
 ·have h':¬(L:Int)-n<0:=by omega
  go_enter Tryz.func22,Tryz.ntmps22;go_wp2
  go_loop [1,5] (fun q i=>∃k M:Nat,i=.int .i64 k∧q=.int .i64 M∧k≤n∧M+n+tot (l.take k)=L) (fun _ i=>n-(intOf i).toNat)
  case atStart=>exact⟨0,L-n,rfl,by go_num,Nat.zero_le _,by simp[tot];omega⟩
  case round=>
   obtain⟨k,M,rfl,rfl,hk,hT⟩:=hrel
   by_cases hlt:k<n
   ·obtain⟨b,off,e,hc⟩:=hr.1.2 k hlt;subst e;have hlt':(k:Int)<n:=by omega
    have hsz:=hs _ (qmn (show k<l.length by rw[HL.out];exact hlt));unfold maxLen at hsz;have hst:=tot_take l k (by rw[HL.out];exact hlt);obtain⟨x,hx⟩ : ∃x,st l k=x:=⟨_,rfl⟩;rw[hx] at hc hsz hst;have HT:Hid (tot (l.take (k+1))=tot (l.take k)+x.size):=hst;clear hst hx
    by_cases hneg:M<x.size
    ·have hn':(M:Int)-x.size<0:=by omega
     go_wp2;go_ret;exact⟨_,rfl,rfl,.inl (by decide)⟩
    ·have hn':¬(M:Int)-x.size<0:=by omega
     go_wp2
     go_round
     case rel=>exact⟨k+1,M-x.size,by go_num,by go_num,by omega,by have:=HT.out;omega⟩
     case measure=>simp[intOf];omega
   ·have hlt':¬(k:Int)<n:=by omega
    obtain rfl:k=n:=by omega
    go_wp2;go_ret;refine⟨_,rfl,rfl,.inr ⟨M,rfl,?_⟩⟩;rw[List.take_of_length_le (by rw[HL.out];exact Nat.le_refl _)] at hT;exact hT


structure Sl where
 a:Option Addr
 n:Nat
 c:Nat
structure Pk where
 ty:Int
 dup:Bool
 qos:Int
 ret:Bool
 id:Int
 top:ByteArray
 bod:Sl
 cli:ByteArray
 lev:Int
 cln:Bool
 kee:Int
 hw:Bool
 wt:ByteArray
 wb:Sl
 wq:Int
 wr:Bool
 hu:Bool
 us:ByteArray
 hp:Bool
 pa:Sl
 cod:Int
 pre:Bool
 wan:Sl
 nam:Sl
 cds:Sl
def Pk.cells (p:Pk):Array Value:=#[.int .i64 p.ty,.bool p.dup,.int .i64 p.qos,.bool p.ret,.int .i64 p.id,.string p.top,.slice p.bod.a p.bod.n p.bod.c,.string p.cli,.int .i64 p.lev,.bool p.cln,.int .i64 p.kee,.bool p.hw,.string p.wt,.slice p.wb.a p.wb.n p.wb.c,.int .i64 p.wq,.bool p.wr,.bool p.hu,.string p.us,.bool p.hp,.slice p.pa.a p.pa.n p.pa.c,.int .i64 p.cod,.bool p.pre,.slice p.wan.a p.wan.n p.wan.c,.slice p.nam.a p.nam.n p.nam.c,.slice p.cds.a p.cds.n p.cds.c]
structure Pd where
 bod:List UInt8
 wb:List UInt8
 pa:List UInt8
 wan:List (ByteArray×Int)
 nam:List ByteArray
 cds:List Int
def PRd (w:World) (p:Pk) (d:Pd):Prop :=
 RdIn w p.bod.a p.bod.n p.bod.c d.bod∧RdIn w p.wb.a p.wb.n p.wb.c d.wb∧RdIn w p.pa.a p.pa.n p.pa.c d.pa∧WRd w p.wan.a p.wan.n p.wan.c d.wan∧SRd w p.nam.a p.nam.n p.nam.c d.nam∧IRd w p.cds.a p.cds.n p.cds.c d.cds
theorem PRd.below {w w':World} {p:Pk} {d:Pd} (h:PRd w p d) (hb:Below w.heap.size w w'):PRd w' p d :=
 ⟨h.1.below hb,h.2.1.below hb,h.2.2.1.below hb,h.2.2.2.1.below hb,h.2.2.2.2.1.below hb,h.2.2.2.2.2.below hb⟩
def Pok (p:Pk) (d:Pd):Prop:=p.top.size≤maxLen∧p.cli.size≤maxLen∧p.wt.size≤maxLen∧p.us.size≤maxLen∧(∀x∈d.wan,x.1.size≤maxLen)∧(∀s∈d.nam,s.size≤maxLen)
def Psm (p:Pk) (d:Pd) (L:Nat):Prop:=p.top.size+p.bod.n+p.cli.size+p.wt.size+p.wb.n+p.us.size+p.pa.n+(p.wan.n+wtot d.wan)+(p.nam.n+tot d.nam)+p.cds.n≤L

theorem qoi (p:Pk) (d:Pd) (L:Nat) (w:World) (hL:L≤1048576) (hr:PRd w p d) (hk:Pok p d) :
  Calls Tryz.prog 5 #[.agg p.cells,.int .i64 L] w fun e w'=>∃r:Int,e=.returned (.int .i64 r)∧Below w.heap.size w w'∧(r<0∨∃R:Nat,r=R∧R≤L∧Psm p d (L-R)):=by
 obtain⟨k1,k2,k3,k4,k5,k6⟩:=hk;obtain⟨r1,r2,r3,r4,r5,r6⟩:=hr;have m1:p.bod.n≤maxLen:=Nat.le_trans r1.2.1 r1.2.2.1;have m2:p.wb.n≤maxLen:=Nat.le_trans r2.2.1 r2.2.2.1;have m3:p.pa.n≤maxLen:=Nat.le_trans r3.2.1 r3.2.2.1;have m6:p.cds.n≤maxLen:=Nat.le_trans r6.2.1 r6.2.2.1;have K5:Hid (∀x∈d.wan,x.1.size≤maxLen):=k5;have K6:Hid (∀s∈d.nam,s.size≤maxLen):=k6;clear k5 k6 r1 r2 r3;unfold Pk.cells;generalize hcs:(#[.int .i64 p.ty,.bool p.dup,.int .i64 p.qos,.bool p.ret,.int .i64 p.id,.string p.top,.slice p.bod.a p.bod.n p.bod.c,.string p.cli,.int .i64 p.lev,.bool p.cln,.int .i64 p.kee,.bool p.hw,.string p.wt,.slice p.wb.a p.wb.n p.wb.c,.int .i64 p.wq,.bool p.wr,.bool p.hu,.string p.us,.bool p.hp,.slice p.pa.a p.pa.n p.pa.c,.int .i64 p.cod,.bool p.pre,.slice p.wan.a p.wan.n p.wan.c,.slice p.nam.a p.nam.n p.nam.c,.slice p.cds.a p.cds.n p.cds.c]:Array Value)=cs;have hb0:Below w.heap.size w (w.alloc (.cells cs 27)):=(Below.refl _ _).alloc (Nat.le_refl _) _;have r4':=r4.below hb0;have r5':=r5.below hb0;subst hcs;unfold maxLen at k1 k2 k3 k4;go_enter Tryz.func5,Tryz.ntmps5
 by_cases q1:p.top.size≤L
 rotate_left
 ·have q1':(L:Int)-p.top.size<0:=by omega
  go_wp2;go_ret;exact⟨_,rfl,hb0,.inl (by decide)⟩
 have q1':¬(L:Int)-p.top.size<0:=by omega
 obtain⟨L1,hL1⟩ : ∃X:Nat,X+p.top.size=L:=⟨L-p.top.size,by omega⟩;have eL1:(L:Int)-p.top.size=L1:=by omega
 go_wp2_with fail
 refine (qha p.bod.a p.bod.n p.bod.c L1 _ m1 (by omega)).mono ?_;rintro e wz2 ⟨r2,rfl,hw2,hc2⟩;rw[hw2]
 rcases hc2 with hn2 | ⟨R2,rfl,hR2⟩
 ·go_wp2;go_ret;exact⟨_,rfl,hb0,.inl (by decide)⟩
 have hn2:¬(R2:Int)<0:=by omega
 by_cases q3:p.cli.size≤R2
 rotate_left
 ·have q3':(R2:Int)-p.cli.size<0:=by omega
  go_wp2;go_ret;exact⟨_,rfl,hb0,.inl (by decide)⟩
 have q3':¬(R2:Int)-p.cli.size<0:=by omega
 obtain⟨L3,hL3⟩ : ∃X:Nat,X+p.cli.size=R2:=⟨R2-p.cli.size,by omega⟩;have eL3:(R2:Int)-p.cli.size=L3:=by omega
 by_cases q4:p.wt.size≤L3
 rotate_left
 ·have q4':(L3:Int)-p.wt.size<0:=by omega
  go_wp2;go_ret;exact⟨_,rfl,hb0,.inl (by decide)⟩
 have q4':¬(L3:Int)-p.wt.size<0:=by omega
 obtain⟨L4,hL4⟩ : ∃X:Nat,X+p.wt.size=L3:=⟨L3-p.wt.size,by omega⟩;have eL4:(L3:Int)-p.wt.size=L4:=by omega
 go_wp2_with fail
 refine (qha p.wb.a p.wb.n p.wb.c L4 _ m2 (by omega)).mono ?_;rintro e wz5 ⟨r5,rfl,hw5,hc5⟩;rw[hw5]
 rcases hc5 with hn5 | ⟨R5,rfl,hR5⟩
 ·go_wp2;go_ret;exact⟨_,rfl,hb0,.inl (by decide)⟩
 have hn5:¬(R5:Int)<0:=by omega
 by_cases q6:p.us.size≤R5
 rotate_left
 ·have q6':(R5:Int)-p.us.size<0:=by omega
  go_wp2;go_ret;exact⟨_,rfl,hb0,.inl (by decide)⟩
 have q6':¬(R5:Int)-p.us.size<0:=by omega
 obtain⟨L6,hL6⟩ : ∃X:Nat,X+p.us.size=R5:=⟨R5-p.us.size,by omega⟩;have eL6:(R5:Int)-p.us.size=L6:=by omega
 go_wp2_with fail
 refine (qha p.pa.a p.pa.n p.pa.c L6 _ m3 (by omega)).mono ?_;rintro e wz7 ⟨r7,rfl,hw7,hc7⟩;rw[hw7]
 rcases hc7 with hn7 | ⟨R7,rfl,hR7⟩
 ·go_wp2;go_ret;exact⟨_,rfl,hb0,.inl (by decide)⟩
 have hn7:¬(R7:Int)<0:=by omega
 go_wp2_with fail
 refine (qph p.wan.a p.wan.n p.wan.c R7 d.wan _ r4' K5.out (by omega)).mono ?_;rintro e ww ⟨r8,rfl,hbw,hc8⟩;have hbw2:=hb0.trans (hbw.mono hb0.size);have r5w:=r5'.below hbw;have f23:ww.cell? ⟨w.heap.size,23,none⟩ = some (.slice p.nam.a p.nam.n p.nam.c):=(hbw.cell (by simp)).trans (by simp);have f24:ww.cell? ⟨w.heap.size,24,none⟩ = some (.slice p.cds.a p.cds.n p.cds.c):=(hbw.cell (by simp)).trans (by simp)
 rcases hc8 with hn8 | ⟨R8,rfl,hR8⟩
 ·go_wp2;go_ret;exact⟨_,rfl,hbw2,.inl (by decide)⟩
 have hn8:¬(R8:Int)<0:=by omega
 go_wp2_with fail
 refine (qmc p.nam.a p.nam.n p.nam.c R8 d.nam _ r5w K6.out (by omega)).mono ?_;rintro e wz9 ⟨r9,rfl,hw9,hc9⟩;rw[hw9]
 rcases hc9 with hn9 | ⟨R9,rfl,hR9⟩
 ·go_wp2;go_ret;exact⟨_,rfl,hbw2,.inl (by decide)⟩
 have hn9:¬(R9:Int)<0:=by omega
 go_wp2_with fail
 refine (sz_lszIntS p.cds.a p.cds.n p.cds.c R9 _ m6 (by omega)).mono ?_;rintro e wz10 ⟨r10,rfl,hw10,hc10⟩;rw[hw10]
 rcases hc10 with hn10 | ⟨R10,rfl,hR10⟩
 ·go_wp2;go_ret;exact⟨_,rfl,hbw2,.inl (by decide)⟩
 have hn10:¬(R10:Int)<0:=by omega
 go_wp2;go_ret;refine⟨_,rfl,hbw2,.inr ⟨R10,rfl,by omega,?_⟩⟩;unfold Psm;omega

structure Re where
 bod:Option Addr×Nat
 wb:Option Addr×Nat
 pa:Option Addr×Nat
 wan:Option Addr×Nat
 nam:Option Addr×Nat
 cds:Option Addr×Nat
def Pk.re (p:Pk) (x:Re):Pk:={ p with bod:=⟨x.bod.1,p.bod.n,x.bod.2⟩,wb:=⟨x.wb.1,p.wb.n,x.wb.2⟩,pa:=⟨x.pa.1,p.pa.n,x.pa.2⟩,wan:=⟨x.wan.1,p.wan.n,x.wan.2⟩,nam:=⟨x.nam.1,p.nam.n,x.nam.2⟩,cds:=⟨x.cds.1,p.cds.n,x.cds.2⟩ }
def Plen (p:Pk) (L:Nat):Prop:=p.bod.n≤L∧p.wb.n≤L∧p.pa.n≤L∧p.wan.n≤L∧p.nam.n≤L∧p.cds.n≤L
theorem Psm.len {p:Pk} {d:Pd} {L:Nat} (h:Psm p d L):Plen p L:=by
 unfold Psm at h;unfold Plen;omega

theorem qnt (p:Pk) (x:Re) (d:Pd) (w:World) (hp:PRd w p d) (hq:PRd w (p.re x) d) (hl:Plen p 1099511627776) :
  Calls Tryz.prog 10 #[.agg p.cells,.agg (p.re x).cells] w fun e w'=>e=.returned (.bool true)∧Below w.heap.size w w':=by
 obtain⟨l1,l2,l3,l4,l5,l6⟩:=hl;have ex:(p.re x).cells = #[.int .i64 p.ty,.bool p.dup,.int .i64 p.qos,.bool p.ret,.int .i64 p.id,.string p.top,.slice x.bod.1 p.bod.n x.bod.2,.string p.cli,.int .i64 p.lev,.bool p.cln,.int .i64 p.kee,.bool p.hw,.string p.wt,.slice x.wb.1 p.wb.n x.wb.2,.int .i64 p.wq,.bool p.wr,.bool p.hu,.string p.us,.bool p.hp,.slice x.pa.1 p.pa.n x.pa.2,.int .i64 p.cod,.bool p.pre,.slice x.wan.1 p.wan.n x.wan.2,.slice x.nam.1 p.nam.n x.nam.2,.slice x.cds.1 p.cds.n x.cds.2]:=rfl;rw[ex];unfold Pk.cells;generalize hcs:(#[.int .i64 p.ty,.bool p.dup,.int .i64 p.qos,.bool p.ret,.int .i64 p.id,.string p.top,.slice p.bod.a p.bod.n p.bod.c,.string p.cli,.int .i64 p.lev,.bool p.cln,.int .i64 p.kee,.bool p.hw,.string p.wt,.slice p.wb.a p.wb.n p.wb.c,.int .i64 p.wq,.bool p.wr,.bool p.hu,.string p.us,.bool p.hp,.slice p.pa.a p.pa.n p.pa.c,.int .i64 p.cod,.bool p.pre,.slice p.wan.a p.wan.n p.wan.c,.slice p.nam.a p.nam.n p.nam.c,.slice p.cds.a p.cds.n p.cds.c]:Array Value)=cs;generalize hds:(#[.int .i64 p.ty,.bool p.dup,.int .i64 p.qos,.bool p.ret,.int .i64 p.id,.string p.top,.slice x.bod.1 p.bod.n x.bod.2,.string p.cli,.int .i64 p.lev,.bool p.cln,.int .i64 p.kee,.bool p.hw,.string p.wt,.slice x.wb.1 p.wb.n x.wb.2,.int .i64 p.wq,.bool p.wr,.bool p.hu,.string p.us,.bool p.hp,.slice x.pa.1 p.pa.n x.pa.2,.int .i64 p.cod,.bool p.pre,.slice x.wan.1 p.wan.n x.wan.2,.slice x.nam.1 p.nam.n x.nam.2,.slice x.cds.1 p.cds.n x.cds.2]:Array Value)=ds
 have hb0:Below w.heap.size w ((w.alloc (.cells cs 32)).alloc (.cells ds 32)):=((Below.refl _ _).alloc (Nat.le_refl _) _).alloc (by simp) _;obtain⟨p1,p2,p3,p4,p5,p6⟩:=hp.below hb0;obtain⟨q1,q2,q3,q4,q5,q6⟩ : PRd _ (p.re x) d:=hq.below hb0;subst hcs;subst hds;have e_ty:(p.ty != p.ty)=false:=by simp
 have e_dup:(p.dup != p.dup)=false:=by simp
 have e_qos:(p.qos != p.qos)=false:=by simp
 have e_ret:(p.ret != p.ret)=false:=by simp
 have e_id:(p.id != p.id)=false:=by simp
 have e_top:=qcz p.top;have e_cli:=qcz p.cli;have e_lev:(p.lev != p.lev)=false:=by simp
 have e_cln:(p.cln != p.cln)=false:=by simp
 have e_kee:(p.kee != p.kee)=false:=by simp
 have e_hw:(p.hw != p.hw)=false:=by simp
 have e_wt:=qcz p.wt;have e_wq:(p.wq != p.wq)=false:=by simp
 have e_wr:(p.wr != p.wr)=false:=by simp
 have e_hu:(p.hu != p.hu)=false:=by simp
 have e_us:=qcz p.us;have e_hp:(p.hp != p.hp)=false:=by simp
 have e_cod:(p.cod != p.cod)=false:=by simp
 have e_pre:(p.pre != p.pre)=false:=by simp
 go_enter Tryz.func10,Tryz.ntmps10;go_wp2_with fail
 refine (eq_leqByteS p.bod.a x.bod.1 p.bod.n p.bod.c x.bod.2 d.bod _ p1 q1 l1).mono ?_;rintro e y1 ⟨rfl,hb1⟩;have hB1:=hb0.trans (hb1.mono hb0.size);replace p2:=p2.below hb1;replace q2:=q2.below hb1;replace p3:=p3.below hb1;replace q3:=q3.below hb1;replace p4:=p4.below hb1;replace q4:=q4.below hb1;replace p5:=p5.below hb1;replace q5:=q5.below hb1;replace p6:=p6.below hb1;replace q6:=q6.below hb1;have a7:y1.cell? ⟨w.heap.size,7,none⟩ = some (.string p.cli):=(hb1.cell (by simp;omega)).trans (by simp);have b7:y1.cell? ⟨w.heap.size+1,7,none⟩ = some (.string p.cli):=(hb1.cell (by simp)).trans (by simp);have a8:y1.cell? ⟨w.heap.size,8,none⟩ = some (.int .i64 p.lev):=(hb1.cell (by simp;omega)).trans (by simp);have b8:y1.cell? ⟨w.heap.size+1,8,none⟩ = some (.int .i64 p.lev):=(hb1.cell (by simp)).trans (by simp);have a9:y1.cell? ⟨w.heap.size,9,none⟩ = some (.bool p.cln):=(hb1.cell (by simp;omega)).trans (by simp);have b9:y1.cell? ⟨w.heap.size+1,9,none⟩ = some (.bool p.cln):=(hb1.cell (by simp)).trans (by simp);have a10:y1.cell? ⟨w.heap.size,10,none⟩ = some (.int .i64 p.kee):=(hb1.cell (by simp;omega)).trans (by simp);have b10:y1.cell? ⟨w.heap.size+1,10,none⟩ = some (.int .i64 p.kee):=(hb1.cell (by simp)).trans (by simp);have a11:y1.cell? ⟨w.heap.size,11,none⟩ = some (.bool p.hw):=(hb1.cell (by simp;omega)).trans (by simp);have b11:y1.cell? ⟨w.heap.size+1,11,none⟩ = some (.bool p.hw):=(hb1.cell (by simp)).trans (by simp)
 have a12:y1.cell? ⟨w.heap.size,12,none⟩ = some (.string p.wt):=(hb1.cell (by simp;omega)).trans (by simp);have b12:y1.cell? ⟨w.heap.size+1,12,none⟩ = some (.string p.wt):=(hb1.cell (by simp)).trans (by simp);have a13:y1.cell? ⟨w.heap.size,13,none⟩ = some (.slice p.wb.a p.wb.n p.wb.c):=(hb1.cell (by simp;omega)).trans (by simp);have b13:y1.cell? ⟨w.heap.size+1,13,none⟩ = some (.slice x.wb.1 p.wb.n x.wb.2):=(hb1.cell (by simp)).trans (by simp);have a14:y1.cell? ⟨w.heap.size,14,none⟩ = some (.int .i64 p.wq):=(hb1.cell (by simp;omega)).trans (by simp);have b14:y1.cell? ⟨w.heap.size+1,14,none⟩ = some (.int .i64 p.wq):=(hb1.cell (by simp)).trans (by simp);have a15:y1.cell? ⟨w.heap.size,15,none⟩ = some (.bool p.wr):=(hb1.cell (by simp;omega)).trans (by simp);have b15:y1.cell? ⟨w.heap.size+1,15,none⟩ = some (.bool p.wr):=(hb1.cell (by simp)).trans (by simp);have a16:y1.cell? ⟨w.heap.size,16,none⟩ = some (.bool p.hu):=(hb1.cell (by simp;omega)).trans (by simp);have b16:y1.cell? ⟨w.heap.size+1,16,none⟩ = some (.bool p.hu):=(hb1.cell (by simp)).trans (by simp);have a17:y1.cell? ⟨w.heap.size,17,none⟩ = some (.string p.us):=(hb1.cell (by simp;omega)).trans (by simp);have b17:y1.cell? ⟨w.heap.size+1,17,none⟩ = some (.string p.us):=(hb1.cell (by simp)).trans (by simp);have a18:y1.cell? ⟨w.heap.size,18,none⟩ = some (.bool p.hp):=(hb1.cell (by simp;omega)).trans (by simp);have b18:y1.cell? ⟨w.heap.size+1,18,none⟩ = some (.bool p.hp):=(hb1.cell (by simp)).trans (by simp)
 have a19:y1.cell? ⟨w.heap.size,19,none⟩ = some (.slice p.pa.a p.pa.n p.pa.c):=(hb1.cell (by simp;omega)).trans (by simp);have b19:y1.cell? ⟨w.heap.size+1,19,none⟩ = some (.slice x.pa.1 p.pa.n x.pa.2):=(hb1.cell (by simp)).trans (by simp);have a20:y1.cell? ⟨w.heap.size,20,none⟩ = some (.int .i64 p.cod):=(hb1.cell (by simp;omega)).trans (by simp);have b20:y1.cell? ⟨w.heap.size+1,20,none⟩ = some (.int .i64 p.cod):=(hb1.cell (by simp)).trans (by simp);have a21:y1.cell? ⟨w.heap.size,21,none⟩ = some (.bool p.pre):=(hb1.cell (by simp;omega)).trans (by simp);have b21:y1.cell? ⟨w.heap.size+1,21,none⟩ = some (.bool p.pre):=(hb1.cell (by simp)).trans (by simp);have a22:y1.cell? ⟨w.heap.size,22,none⟩ = some (.slice p.wan.a p.wan.n p.wan.c):=(hb1.cell (by simp;omega)).trans (by simp);have b22:y1.cell? ⟨w.heap.size+1,22,none⟩ = some (.slice x.wan.1 p.wan.n x.wan.2):=(hb1.cell (by simp)).trans (by simp);have a23:y1.cell? ⟨w.heap.size,23,none⟩ = some (.slice p.nam.a p.nam.n p.nam.c):=(hb1.cell (by simp;omega)).trans (by simp);have b23:y1.cell? ⟨w.heap.size+1,23,none⟩ = some (.slice x.nam.1 p.nam.n x.nam.2):=(hb1.cell (by simp)).trans (by simp);have a24:y1.cell? ⟨w.heap.size,24,none⟩ = some (.slice p.cds.a p.cds.n p.cds.c):=(hb1.cell (by simp;omega)).trans (by simp);have b24:y1.cell? ⟨w.heap.size+1,24,none⟩ = some (.slice x.cds.1 p.cds.n x.cds.2):=(hb1.cell (by simp)).trans (by simp);clear hb0 hb1;go_wp2_with fail
 refine (eq_leqByteS p.wb.a x.wb.1 p.wb.n p.wb.c x.wb.2 d.wb _ p2 q2 l2).mono ?_;rintro e y2 ⟨rfl,hb2⟩;have hB2:=hB1.trans (hb2.mono hB1.size);replace p3:=p3.below hb2;replace q3:=q3.below hb2;replace p4:=p4.below hb2;replace q4:=q4.below hb2;replace p5:=p5.below hb2;replace q5:=q5.below hb2;replace p6:=p6.below hb2;replace q6:=q6.below hb2;replace a14:y2.cell? ⟨w.heap.size,14,none⟩ = some (.int .i64 p.wq):=(hb2.cell (World.block_lt_of_cell? _ _ a14)).trans a14;replace b14:y2.cell? ⟨w.heap.size+1,14,none⟩ = some (.int .i64 p.wq):=(hb2.cell (World.block_lt_of_cell? _ _ b14)).trans b14;replace a15:y2.cell? ⟨w.heap.size,15,none⟩ = some (.bool p.wr):=(hb2.cell (World.block_lt_of_cell? _ _ a15)).trans a15;replace b15:y2.cell? ⟨w.heap.size+1,15,none⟩ = some (.bool p.wr):=(hb2.cell (World.block_lt_of_cell? _ _ b15)).trans b15;replace a16:y2.cell? ⟨w.heap.size,16,none⟩ = some (.bool p.hu):=(hb2.cell (World.block_lt_of_cell? _ _ a16)).trans a16;replace b16:y2.cell? ⟨w.heap.size+1,16,none⟩ = some (.bool p.hu):=(hb2.cell (World.block_lt_of_cell? _ _ b16)).trans b16;replace a17:y2.cell? ⟨w.heap.size,17,none⟩ = some (.string p.us):=(hb2.cell (World.block_lt_of_cell? _ _ a17)).trans a17;replace b17:y2.cell? ⟨w.heap.size+1,17,none⟩ = some (.string p.us):=(hb2.cell (World.block_lt_of_cell? _ _ b17)).trans b17;replace a18:y2.cell? ⟨w.heap.size,18,none⟩ = some (.bool p.hp):=(hb2.cell (World.block_lt_of_cell? _ _ a18)).trans a18
 replace b18:y2.cell? ⟨w.heap.size+1,18,none⟩ = some (.bool p.hp):=(hb2.cell (World.block_lt_of_cell? _ _ b18)).trans b18;replace a19:y2.cell? ⟨w.heap.size,19,none⟩ = some (.slice p.pa.a p.pa.n p.pa.c):=(hb2.cell (World.block_lt_of_cell? _ _ a19)).trans a19;replace b19:y2.cell? ⟨w.heap.size+1,19,none⟩ = some (.slice x.pa.1 p.pa.n x.pa.2):=(hb2.cell (World.block_lt_of_cell? _ _ b19)).trans b19;replace a20:y2.cell? ⟨w.heap.size,20,none⟩ = some (.int .i64 p.cod):=(hb2.cell (World.block_lt_of_cell? _ _ a20)).trans a20;replace b20:y2.cell? ⟨w.heap.size+1,20,none⟩ = some (.int .i64 p.cod):=(hb2.cell (World.block_lt_of_cell? _ _ b20)).trans b20;replace a21:y2.cell? ⟨w.heap.size,21,none⟩ = some (.bool p.pre):=(hb2.cell (World.block_lt_of_cell? _ _ a21)).trans a21;replace b21:y2.cell? ⟨w.heap.size+1,21,none⟩ = some (.bool p.pre):=(hb2.cell (World.block_lt_of_cell? _ _ b21)).trans b21;replace a22:y2.cell? ⟨w.heap.size,22,none⟩ = some (.slice p.wan.a p.wan.n p.wan.c):=(hb2.cell (World.block_lt_of_cell? _ _ a22)).trans a22;replace b22:y2.cell? ⟨w.heap.size+1,22,none⟩ = some (.slice x.wan.1 p.wan.n x.wan.2):=(hb2.cell (World.block_lt_of_cell? _ _ b22)).trans b22;replace a23:y2.cell? ⟨w.heap.size,23,none⟩ = some (.slice p.nam.a p.nam.n p.nam.c):=(hb2.cell (World.block_lt_of_cell? _ _ a23)).trans a23;replace b23:y2.cell? ⟨w.heap.size+1,23,none⟩ = some (.slice x.nam.1 p.nam.n x.nam.2):=(hb2.cell (World.block_lt_of_cell? _ _ b23)).trans b23
 replace a24:y2.cell? ⟨w.heap.size,24,none⟩ = some (.slice p.cds.a p.cds.n p.cds.c):=(hb2.cell (World.block_lt_of_cell? _ _ a24)).trans a24;replace b24:y2.cell? ⟨w.heap.size+1,24,none⟩ = some (.slice x.cds.1 p.cds.n x.cds.2):=(hb2.cell (World.block_lt_of_cell? _ _ b24)).trans b24;clear hB1 hb2;go_wp2_with fail
 refine (eq_leqByteS p.pa.a x.pa.1 p.pa.n p.pa.c x.pa.2 d.pa _ p3 q3 l3).mono ?_;rintro e y3 ⟨rfl,hb3⟩;have hB3:=hB2.trans (hb3.mono hB2.size);replace p4:=p4.below hb3;replace q4:=q4.below hb3;replace p5:=p5.below hb3;replace q5:=q5.below hb3;replace p6:=p6.below hb3;replace q6:=q6.below hb3;replace a20:y3.cell? ⟨w.heap.size,20,none⟩ = some (.int .i64 p.cod):=(hb3.cell (World.block_lt_of_cell? _ _ a20)).trans a20;replace b20:y3.cell? ⟨w.heap.size+1,20,none⟩ = some (.int .i64 p.cod):=(hb3.cell (World.block_lt_of_cell? _ _ b20)).trans b20;replace a21:y3.cell? ⟨w.heap.size,21,none⟩ = some (.bool p.pre):=(hb3.cell (World.block_lt_of_cell? _ _ a21)).trans a21;replace b21:y3.cell? ⟨w.heap.size+1,21,none⟩ = some (.bool p.pre):=(hb3.cell (World.block_lt_of_cell? _ _ b21)).trans b21;replace a22:y3.cell? ⟨w.heap.size,22,none⟩ = some (.slice p.wan.a p.wan.n p.wan.c):=(hb3.cell (World.block_lt_of_cell? _ _ a22)).trans a22;replace b22:y3.cell? ⟨w.heap.size+1,22,none⟩ = some (.slice x.wan.1 p.wan.n x.wan.2):=(hb3.cell (World.block_lt_of_cell? _ _ b22)).trans b22;replace a23:y3.cell? ⟨w.heap.size,23,none⟩ = some (.slice p.nam.a p.nam.n p.nam.c):=(hb3.cell (World.block_lt_of_cell? _ _ a23)).trans a23;replace b23:y3.cell? ⟨w.heap.size+1,23,none⟩ = some (.slice x.nam.1 p.nam.n x.nam.2):=(hb3.cell (World.block_lt_of_cell? _ _ b23)).trans b23;replace a24:y3.cell? ⟨w.heap.size,24,none⟩ = some (.slice p.cds.a p.cds.n p.cds.c):=(hb3.cell (World.block_lt_of_cell? _ _ a24)).trans a24
 replace b24:y3.cell? ⟨w.heap.size+1,24,none⟩ = some (.slice x.cds.1 p.cds.n x.cds.2):=(hb3.cell (World.block_lt_of_cell? _ _ b24)).trans b24;clear hB2 hb3;go_wp2_with fail
 refine (qoq p.wan.a x.wan.1 p.wan.n p.wan.c x.wan.2 d.wan _ p4 q4 l4).mono ?_;rintro e y4 ⟨rfl,hb4⟩;have hB4:=hB3.trans (hb4.mono hB3.size);replace p5:=p5.below hb4;replace q5:=q5.below hb4;replace p6:=p6.below hb4;replace q6:=q6.below hb4;replace a23:y4.cell? ⟨w.heap.size,23,none⟩ = some (.slice p.nam.a p.nam.n p.nam.c):=(hb4.cell (World.block_lt_of_cell? _ _ a23)).trans a23;replace b23:y4.cell? ⟨w.heap.size+1,23,none⟩ = some (.slice x.nam.1 p.nam.n x.nam.2):=(hb4.cell (World.block_lt_of_cell? _ _ b23)).trans b23;replace a24:y4.cell? ⟨w.heap.size,24,none⟩ = some (.slice p.cds.a p.cds.n p.cds.c):=(hb4.cell (World.block_lt_of_cell? _ _ a24)).trans a24;replace b24:y4.cell? ⟨w.heap.size+1,24,none⟩ = some (.slice x.cds.1 p.cds.n x.cds.2):=(hb4.cell (World.block_lt_of_cell? _ _ b24)).trans b24;clear hB3 hb4;go_wp2_with fail
 refine (qmu p.nam.a x.nam.1 p.nam.n p.nam.c x.nam.2 d.nam _ p5 q5 l5).mono ?_;rintro e y5 ⟨rfl,hb5⟩;have hB5:=hB4.trans (hb5.mono hB4.size);replace p6:=p6.below hb5;replace q6:=q6.below hb5;replace a24:y5.cell? ⟨w.heap.size,24,none⟩ = some (.slice p.cds.a p.cds.n p.cds.c):=(hb5.cell (World.block_lt_of_cell? _ _ a24)).trans a24;replace b24:y5.cell? ⟨w.heap.size+1,24,none⟩ = some (.slice x.cds.1 p.cds.n x.cds.2):=(hb5.cell (World.block_lt_of_cell? _ _ b24)).trans b24;clear hB4 hb5;go_wp2_with fail
 refine (eq_leqIntS p.cds.a x.cds.1 p.cds.n p.cds.c x.cds.2 d.cds _ p6 q6 l6).mono ?_;rintro e y6 ⟨rfl,hb6⟩;have hB6:=hB5.trans (hb6.mono hB5.size);clear hB5 hb6;go_wp2;go_ret;exact⟨rfl,hB6⟩

