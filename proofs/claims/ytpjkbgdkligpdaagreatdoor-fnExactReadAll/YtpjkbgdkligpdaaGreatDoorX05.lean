/- Lemmas. -/
import Derived.Handy
import Derived.Deep.RegionWith
import Derived.Laws.CopyOwn
import Derived.Test.YtpjkbgdkligpdaaGreatDoorX04
set_option linter.unusedVariables false
set_option linter.unusedSimpArgs false
set_option maxRecDepth 100000
set_option maxHeartbeats 20000000
namespace Go.Proofs.YtpjkbgdkligpdaaGreatDoor
open Go.RowKit

def mtF:Nat→Nat→List UInt8→List UInt8
 |0,_,acc=>109 :: acc
 |f+1,k,acc=>if k=0 then 109 :: acc else mtF f (k / 10) (UInt8.ofNat (48+k%10) :: acc)
def mtx (k:Nat):ByteArray:=⟨(mtF k k []).toArray⟩
theorem mtF_zero (f:Nat) (acc:List UInt8):mtF f 0 acc=109 :: acc:=by cases f<;>simp[mtF]
theorem mtF_step (f k:Nat) (acc:List UInt8) (h:0<k):mtF (f+1) k acc=mtF f (k / 10) (UInt8.ofNat (48+k%10) :: acc):=by
 rw[mtF,if_neg (by omega)]

theorem one_rd (w:World) (x:UInt8):RdIn (w.alloc (.cells #[.int .u8 (x.toNat:Int)] 5)) (some ⟨w.heap.size,0,none⟩) 1 1 [x]:=by
 refine⟨⟨rfl,fun i hi=>⟨w.heap.size,0,rfl,?_⟩⟩,Nat.le_refl _,by unfold maxLen;omega,fun h=>by simp at h⟩;obtain rfl:i=0:=by omega
 rw[qqw];rfl

theorem qdm (k0:Nat) (w:World) (h0:0<k0) (hk0:k0≤1099511627776) :
  Calls Tryz.prog 106 #[.int .i64 k0] w fun e w'=>e=.returned (.string (mtx k0))∧Below w.heap.size w w':=by
 have h0':¬(k0:Int)≤0:=by omega
 go_enter Tryz.func106,Tryz.ntmps106;go_wp2
 go_loopw [0,3] (fun q o wr=>∃(k f:Nat) (s:ByteArray),q=.int .i64 k∧o=.string s∧k≤f∧s.size+k≤k0∧mtF f k s.data.toList=mtF k0 k0 []∧Below w.heap.size w wr) (fun q _ _=>(intOf q).toNat)
 case atStart=>exact⟨k0,k0,_,rfl,rfl,Nat.le_refl _,Nat.le_of_eq (Nat.zero_add _),rfl,Below.refl _ _⟩
 case round=>
  obtain⟨k,f,s,rfl,rfl,hf,hz,hm,hb⟩:=hrel;have HM:Hid (mtF f k s.data.toList=mtF k0 k0 []):=hm;clear hm
  by_cases hk:0<k
  ·have hk':(0:Int)<k:=by omega
   obtain⟨x,hx⟩ : ∃x,UInt8.ofNat (48+k%10)=x:=⟨_,rfl⟩;have hxn:(x.toNat:Int)=48+(k:Int)%10:=by rw[←hx];simp;omega
   have hcv:=qgn (one_rd wr x);rw[hxn] at hcv;obtain⟨d,hd⟩ : ∃d:ByteArray,(⟨[x].toArray⟩ : ByteArray)=d:=⟨_,rfl⟩;rw[hd] at hcv;have hds:d.size=1:=by rw[←hd];rfl
   have HD:Hid (d.data.toList = [UInt8.ofNat (48+k%10)]):=by unfold Hid;rw[←hd,hx]
   have hq:¬9223372036854775807<d.size+s.size:=by omega
   clear hx hxn hd;go_wp2;go_roundw
   case rel=>
    cases f with
    |zero=>omega
    |succ f=>
     refine⟨k / 10,f,_,by go_num,rfl,by omega,?_,?_,hb.alloc hb.size _⟩
     ·simp only[ByteArray.size_append];omega
     ·rw[←HM.out,mtF_step f k _ hk];simp[HD.out]
   case measure=>simp[intOf]<;>omega
  ·have hk':¬(0:Int)<k:=by omega
   obtain rfl:k=0:=by omega
   have hq:¬9223372036854775807<1+s.size:=by omega
   go_wp2;go_ret;refine⟨?_,hb⟩;have hm:=HM.out;rw[mtF_zero] at hm;have:(⟨#[109]⟩++s:ByteArray)=mtx k0:=by
    apply ba_eq
    rw[←hm];simp
   rw[this];rfl

def mks (k n:Nat):List ByteArray:=(List.range n).map fun i=>mtx (k+i)
theorem qqb (k n:Nat):(mks k n).length=n:=by simp[mks]
theorem mks_at (k n i:Nat) (h:i<n):st (mks k n) i=mtx (k+i):=by
 simp[st,mks,List.getD_eq_getElem?_getD,h]
theorem mks_set (l:List ByteArray) (k n j:Nat) (hl:l.length=n) (hj:j<n):(mks k j++l.drop j).set j (mtx (k+j))=mks k (j+1)++l.drop (j+1):=by
 rw[List.set_append_right _ _ (by rw[qqb];exact Nat.le_refl _),qqb,Nat.sub_self];rw[List.drop_eq_getElem_cons (by omega),List.set_cons_zero];simp only[mks,List.range_succ,List.map_append,List.map_cons,List.map_nil,List.append_assoc];rfl

theorem qjn {w w1 w2:World} {row:Option Nat} (h:w.grownBy w1 row) (hb:Below w1.heap.size w1 w2):w.grownBy w2 row :=
 ⟨hb.os.trans h.os,hb.tape.trans h.tape,hb.output.trans h.output,Nat.le_trans h.size hb.size,fun k hk hne=>(hb.block k (Nat.lt_of_lt_of_le hk h.size)).trans (h.block k hk hne)⟩
theorem qmv {w w1:World} {g:Nat} (h:w.grownBy w1 (some g)) (j:Nat) (u:Value):w.grownBy (w1.setCell ⟨g,j,none⟩ u) (some g) :=
 ⟨h.os,h.tape,h.output,by simpa[World.setCell] using h.size,fun q hq hne=>(Below.heap_setCell _ _ _ q (fun e=>hne (by rw[e]))).trans (h.block q hq hne)⟩


theorem info3:(Tryz.prog.info? 3).map (fun i=>(i.zero,i.size,i.bytes))=some (some (.int .i64 0),1,8):=by kernel_rfl

def nt (zs:List Int) (i:Nat):Int:=zs.getD i 0
def ivals (zs:List Int):List Value:=zs.map fun z=>Value.int .i64 z

theorem ivals_at (zs:List Int) (i:Nat) (h:i<zs.length):(ivals zs)[i]? = some (.int .i64 (nt zs i)):=by
 simp only[ivals,nt,List.getElem?_map,List.getElem?_eq_getElem h,Option.map_some,List.getD_eq_getElem?_getD,Option.getD_some]

def IRd (w:World) (ao:Option Addr) (n cap:Nat) (zs:List Int):Prop :=
 (zs.length=n∧∀i,i<n→∃b off,ao=some ⟨b,off,none⟩∧w.cell? ⟨b,off+i,none⟩ = some (.int .i64 (nt zs i)))∧n≤cap∧cap≤maxLen∧(ao=none→cap=0)

theorem IRd.nil (w:World):IRd w none 0 0 []:=⟨⟨rfl,fun i hi=>by omega⟩,Nat.le_refl _,Nat.zero_le _,fun _=>rfl⟩

def IOwn (w:World) (B:Nat) (ao:Option Addr) (n cap:Nat) (zs:List Int):Prop:=zs.length=n∧w.ownsRow B 3 1 (.slice ao n cap) n (ivals zs)

theorem IOwn.rd {w:World} {B:Nat} {ao:Option Addr} {n cap:Nat} {zs:List Int} (h:IOwn w B ao n cap zs):IRd w ao n cap zs:=by
 obtain⟨hl,h1,h2⟩:=h
 rcases h2 with ⟨e,rfl⟩ | ⟨g,c,cur,e,hb,hg,hc,hm,hs,ht⟩
 ·simp only[Value.slice.injEq] at e;obtain⟨rfl,_,rfl⟩:=e;exact⟨⟨hl,fun i hi=>by omega⟩,Nat.le_refl _,Nat.zero_le _,fun _=>rfl⟩
 ·simp only[Value.slice.injEq] at e;obtain⟨rfl,_,rfl⟩:=e;refine⟨⟨hl,fun i hi=>⟨g,0,rfl,?_⟩⟩,hc,hm,fun h=>by simp at h⟩;have own:w.ownsRow B 3 1 (.slice (some ⟨g,0,none⟩) n cap) n (ivals zs):=⟨h1,.inr ⟨g,cap,cur,rfl,hb,hg,hc,hm,hs,ht⟩⟩;rw[Nat.zero_add,own.cellAt i (by omega),ivals_at zs i (by omega)]
theorem IOwn.block {w:World} {B:Nat} {ao:Option Addr} {n cap:Nat} {zs:List Int} (h:IOwn w B ao n cap zs) {a:Addr} (e:ao=some a):B≤a.block∧a.block<w.heap.size:=by
 subst e;exact h.2.lt _ rfl
theorem IRd.below {w w':World} {ao:Option Addr} {n cap:Nat} {zs:List Int} (h:IRd w ao n cap zs) (hb:Below w.heap.size w w'):IRd w' ao n cap zs:=by
 refine⟨⟨h.1.1,fun i hi=>?_⟩,h.2⟩;obtain⟨b,off,e,hc⟩:=h.1.2 i hi;exact⟨b,off,e,(hb.cell (World.block_lt_of_cell? w _ hc)).trans hc⟩
theorem IOwn.below {w w':World} {B:Nat} {ao:Option Addr} {n cap:Nat} {zs:List Int} (h:IOwn w B ao n cap zs) (hb:Below w.heap.size w w'):IOwn w' B ao n cap zs:=by
 refine⟨h.1,h.2.1,?_⟩
 rcases h.2.2 with hn | ⟨g,c,cur,e,hB,hg,rest⟩
 ·exact .inl hn
 ·exact .inr ⟨g,c,cur,e,hB,by rw[hb.block g (Array.getElem?_eq_some_iff.1 hg).1];exact hg,rest⟩
theorem IOwn.grown {w w':World} {B:Nat} {ao:Option Addr} {n cap:Nat} {zs:List Int} {row:Option Nat} (h:IOwn w B ao n cap zs) (hg:w.grownBy w' row) (hne:∀a,ao=some a→some a.block≠row):IOwn w' B ao n cap zs:=by
 refine⟨h.1,h.2.kept hg ?_⟩;cases ao with
 |none=>exact .inl rfl
 |some a=>exact .inr (hne a rfl)
theorem IOwn.frozen {w:World} {B:Nat} {g n cap:Nat} {zs:List Int} (h:IOwn w B (some ⟨g,0,none⟩) n cap zs) (j:Nat):w.frozen? ⟨g,j,none⟩ = false:=h.2.frozenAt j
theorem IOwn.cell {w:World} {B:Nat} {g n cap:Nat} {zs:List Int} (h:IOwn w B (some ⟨g,0,none⟩) n cap zs) (j:Nat) (hj:j<n):w.cell? ⟨g,j,none⟩ = some (.int .i64 (nt zs j)):=by
 rw[h.2.cellAt j (by omega),ivals_at zs j (by rw[h.1];exact hj)]
theorem IOwn.head {w:World} {B:Nat} {ao:Option Addr} {n cap:Nat} {zs:List Int} (h:IOwn w B ao n cap zs) (hn:0<n):∃g,ao=some ⟨g,0,none⟩:=by
 rcases h.2.2 with ⟨_,h0⟩ | ⟨g,c,cur,e,_⟩
 ·omega
 ·simp only[Value.slice.injEq] at e;exact⟨g,e.1⟩
theorem IOwn.store {w:World} {B:Nat} {g n cap:Nat} {zs:List Int} (h:IOwn w B (some ⟨g,0,none⟩) n cap zs) (j:Nat) (u:Int) :
  IOwn (w.setCell ⟨g,j,none⟩ (.int .i64 u)) B (some ⟨g,0,none⟩) n cap (zs.set j u):=by
 refine⟨by simpa using h.1,?_⟩;have:=(h.2.stored j (.int .i64 u)).1;have e:(ivals zs).set j (.int .i64 u)=ivals (zs.set j u):=by simp[ivals,List.map_set]
 rw[e] at this;exact this
theorem qsc {w:World} {B:Nat} {v:Value} {n:Nat} {zs:List Int} (hl:zs.length=n) (h:w.ownsRow B 3 1 v n (ivals zs)):∃ao cap,v=.slice ao n cap∧IOwn w B ao n cap zs:=by
 rcases h.2 with ⟨rfl,rfl⟩ | ⟨g,c,cur,rfl,_⟩
 ·exact⟨none,0,rfl,hl,h⟩
 ·exact⟨_,_,rfl,hl,h⟩

theorem w_iapp {ops:Array Oper} {rest:List Oper} {o:Oper} {a:Act} {Q:Exit→Act→World→Prop} (w:World) (hgd:o.guard=none) (s x:Operand)
  (ho:o.op=.call { callee:=.builtin .append,args:=#[s,x],argTypes:=#[26,26] })
  (B:Nat) (ao:Option Addr) (n cap:Nat) (zs:List Int) (hs:a.eval s=.slice ao n cap) (hown:IOwn w B ao n cap zs)
  (ad:Nat) (u:Int) (hx:a.eval x=.slice (some ⟨ad,0,none⟩) 1 1) (hc:w.cell? ⟨ad,0,none⟩ = some (.int .i64 u)) (hb:n<1099511627776) (hB:B≤w.heap.size)
  (h:∀ao' cap' w',IOwn w' B ao' (n+1) cap' (zs++[u])→w.grownBy w' (Value.slice ao n cap).ownBlock→wpList Tryz.prog ops Q rest (a.put o.dst (.slice ao' (n+1) cap')) w') :
  wpList Tryz.prog ops Q (o :: rest) a w:=by
 obtain⟨i0,hi,hz0,hz1,hz2⟩:=info_parts info3;have hlen:(zs++[u]).length=n+1:=by rw[List.length_append,hown.1];rfl
 refine wpList_append_own w hgd s x 26 ho B 3 i0 (.int .i64 0) 1 8 Tryz.underlying26 hi hz0 hz1 hz2 rfl (by decide) (.slice ao n cap) n (ivals zs) hs hown.2 ⟨ad,0,none⟩ 1 1 [.int .i64 u] hx rfl ?_ (by intro v hv;simp at hv;subst hv;rfl) (by unfold maxLen;omega) (by omega) hB ?_
 ·intro j v hv
  match j,hv with
  |0,hv=>
   simp at hv;subst hv;exact hc
 ·intro v' w' hv hg _;have e:ivals zs++[.int .i64 u]=ivals (zs++[u]):=by simp[ivals]
  rw[e] at hv;obtain⟨ao',cap',rfl,hown'⟩:=qsc hlen hv;exact h ao' cap' w' hown' hg

theorem eq_leqIntS (ao a1:Option Addr) (n cap cap1:Nat) (l:List Int) (w:World) (hr:IRd w ao n cap l) (h1:IRd w a1 n cap1 l) (hn:n≤1099511627776) :
  Calls Tryz.prog 98 #[.slice ao n cap,.slice a1 n cap1] w fun e w'=>e=.returned (.bool true)∧Below w.heap.size w w':=by
 have hne:((n:Int) != n)=false:=by simp
 go_enter Tryz.func98,Tryz.ntmps98;go_wp2
 go_loopw [5] (fun i wr=>∃k:Nat,i=.int .i64 k∧k≤n∧Below w.heap.size w wr) (fun i _=>n-(intOf i).toNat)
 case atStart=>exact⟨0,rfl,Nat.zero_le _,Below.refl _ _⟩
 case round=>
  obtain⟨k,rfl,hk,hb⟩:=hrel
  by_cases hlt:k<n
  ·obtain⟨b,off,e,hc⟩:=hr.1.2 k hlt;subst e;obtain⟨b1,off1,e1,hc1⟩:=h1.1.2 k hlt;subst e1;have hck:wr.cell? ⟨b,off+k,none⟩ = some (.int .i64 (nt l k)):=(hb.cell (World.block_lt_of_cell? w _ hc)).trans hc;have hck1:wr.cell? ⟨b1,off1+k,none⟩ = some (.int .i64 (nt l k)):=(hb.cell (World.block_lt_of_cell? w _ hc1)).trans hc1;have hlt':(k:Int)<n:=by omega
   have k0:(0:Int)≤k:=by omega
   have hbn:(nt l k != nt l k)=false:=by simp
   clear hc hc1;go_wp2
   go_quiet (fail)
   go_wp2;go_roundw
   case rel=>exact⟨k+1,by go_num,by omega,below_drewN hb _⟩
   case measure=>simp[intOf];omega
  ·have hlt':¬(k:Int)<n:=by omega
   go_wp2;go_ret;exact⟨rfl,hb⟩

def imks (k n:Nat):List Int:=(List.range n).map fun i=>((k+i:Nat):Int)
theorem qnr (k n:Nat):(imks k n).length=n:=by simp[imks]
theorem imks_at (k n i:Nat) (h:i<n):nt (imks k n) i=((k+i:Nat):Int):=by
 simp[nt,imks,List.getD_eq_getElem?_getD,h]
theorem imks_set (l:List Int) (k n j:Nat) (hl:l.length=n) (hj:j<n):(imks k j++l.drop j).set j ((k+j:Nat):Int)=imks k (j+1)++l.drop (j+1):=by
 rw[List.set_append_right _ _ (by rw[qnr];exact Nat.le_refl _),qnr,Nat.sub_self];rw[List.drop_eq_getElem_cons (by omega),List.set_cons_zero];simp only[imks,List.range_succ,List.map_append,List.map_cons,List.map_nil,List.append_assoc];rfl

theorem qpj (ao:Option Addr) (n cap k:Nat) (w:World) (hr:IRd w ao n cap (imks k n)) (hn:n≤1099511627776) (hk:k≤1099511627776) :
  Calls Tryz.prog 105 #[.slice ao n cap,.int .i64 k] w fun e w'=>e=.returned (.int .i64 ((k+n:Nat):Int))∧w'=w:=by
 go_enter Tryz.func105,Tryz.ntmps105;go_wp2
 go_loop [1,5] (fun q i=>∃j:Nat,i=.int .i64 j∧q=.int .i64 ((k+j:Nat):Int)∧j≤n) (fun _ i=>n-(intOf i).toNat)
 case atStart=>exact⟨0,rfl,rfl,Nat.zero_le _⟩
 case round=>
  obtain⟨j,rfl,rfl,hj⟩:=hrel
  by_cases hlt:j<n
  ·obtain⟨b,off,e,hc⟩:=hr.1.2 j hlt;subst e;rw[imks_at k n j hlt] at hc;have hlt':(j:Int)<n:=by omega
   go_wp2
   go_round
   case rel=>exact⟨j+1,by go_num,by go_num,by omega⟩
   case measure=>simp[intOf];omega
  ·have hlt':¬(j:Int)<n:=by omega
   obtain rfl:j=n:=by omega
   go_wp2;go_ret;exact⟨by simp,rfl⟩


def wf (ws:List (ByteArray×Int)) (i:Nat):ByteArray:=(ws.getD i (ByteArray.empty,0)).1
def wq (ws:List (ByteArray×Int)) (i:Nat):Int:=(ws.getD i (ByteArray.empty,0)).2
def wvals (ws:List (ByteArray×Int)):List Value:=ws.flatMap fun x=>[.string x.1,.int .i64 x.2]
theorem qtf (ws:List (ByteArray×Int)):(wvals ws).length=2*ws.length:=by
 induction ws with
 |nil=>rfl
 |cons a r ih=>simp[wvals] at ih ⊢;omega

def WRd (w:World) (ao:Option Addr) (n cap:Nat) (ws:List (ByteArray×Int)):Prop :=
 (ws.length=n∧∀i,i<n→∃b off,ao=some ⟨b,off,none⟩∧w.cell? ⟨b,off+i*2,none⟩ = some (.string (wf ws i))∧w.cell? ⟨b,off+i*2+1,none⟩ = some (.int .i64 (wq ws i)))∧n≤cap∧cap≤maxLen∧(ao=none→cap=0)

theorem WRd.below {w w':World} {ao:Option Addr} {n cap:Nat} {ws:List (ByteArray×Int)} (h:WRd w ao n cap ws) (hb:Below w.heap.size w w'):WRd w' ao n cap ws:=by
 refine⟨⟨h.1.1,fun i hi=>?_⟩,h.2⟩;obtain⟨b,off,e,hc,hd⟩:=h.1.2 i hi;exact⟨b,off,e,(hb.cell (World.block_lt_of_cell? w _ hc)).trans hc,(hb.cell (World.block_lt_of_cell? w _ hd)).trans hd⟩

def wtot (ws:List (ByteArray×Int)):Nat:=(ws.map fun x=>x.1.size).sum
theorem eq_leqWant (f:ByteArray) (q:Int) (w:World) :
  Calls Tryz.prog 142 #[.agg #[.string f,.int .i64 q],.agg #[.string f,.int .i64 q]] w fun e w'=>e=.returned (.bool true)∧Below w.heap.size w w':=by
 have h1:=qdg f;have h2:(q != q)=false:=by simp
 go_enter Tryz.func142,Tryz.ntmps142;go_wp2;go_ret;exact⟨rfl,((Below.refl _ _).alloc (Nat.le_refl _) _).alloc (by simp) _⟩

theorem qtn (ao a1:Option Addr) (n cap cap1:Nat) (l:List (ByteArray×Int)) (w:World) (hr:WRd w ao n cap l) (h1:WRd w a1 n cap1 l) (hn:n≤1099511627776) :
  Calls Tryz.prog 96 #[.slice ao n cap,.slice a1 n cap1] w fun e w'=>e=.returned (.bool true)∧Below w.heap.size w w':=by
 have hne:((n:Int) != n)=false:=by simp
 go_enter Tryz.func96,Tryz.ntmps96;go_wp2
 go_loopw [5] (fun i wr=>∃k:Nat,i=.int .i64 k∧k≤n∧Below w.heap.size w wr) (fun i _=>n-(intOf i).toNat)
 case atStart=>exact⟨0,rfl,Nat.zero_le _,Below.refl _ _⟩
 case round=>
  obtain⟨k,rfl,hk,hb⟩:=hrel
  by_cases hlt:k<n
  ·obtain⟨b,off,e,hc,hd⟩:=hr.1.2 k hlt;subst e;obtain⟨b1,off1,e1,hc1,hd1⟩:=h1.1.2 k hlt;subst e1;have hck:wr.cell? ⟨b,off+k*2,none⟩ = some (.string (wf l k)):=(hb.cell (World.block_lt_of_cell? w _ hc)).trans hc;have hdk:wr.cell? ⟨b,off+k*2+1,none⟩ = some (.int .i64 (wq l k)):=(hb.cell (World.block_lt_of_cell? w _ hd)).trans hd;have hck1:wr.cell? ⟨b1,off1+k*2,none⟩ = some (.string (wf l k)):=(hb.cell (World.block_lt_of_cell? w _ hc1)).trans hc1;have hdk1:wr.cell? ⟨b1,off1+k*2+1,none⟩ = some (.int .i64 (wq l k)):=(hb.cell (World.block_lt_of_cell? w _ hd1)).trans hd1;have hlt':(k:Int)<n:=by omega
   have k0:(0:Int)≤k:=by omega
   clear hc hd hc1 hd1;go_wp2
   go_region_with (go_at_call 142;refine (eq_leqWant _ _ _).mono ?_;rintro e w1 ⟨rfl,hb1⟩)
   all_goals
    go_wp2;go_roundw
    case rel=>exact⟨k+1,by go_num,by omega,(below_drewN hb 1).trans (hb1.mono hb.size)⟩
    case measure=>simp[intOf]<;>omega
  ·have hlt':¬(k:Int)<n:=by omega
   go_wp2;go_ret;exact⟨rfl,hb⟩

theorem infoW:(Tryz.prog.info? 88).map (fun i=>(i.zero,i.size,i.bytes))=some (some (.agg #[.string ByteArray.empty,.int .i64 0]),2,24):=by kernel_rfl

def WOwn (w:World) (B:Nat) (ao:Option Addr) (n cap:Nat) (ws:List (ByteArray×Int)):Prop:=ws.length=n∧w.ownsRow B 88 2 (.slice ao n cap) n (wvals ws)

theorem wvals_at (ws:List (ByteArray×Int)) (i:Nat) (h:i<ws.length):(wvals ws)[i*2]? = some (.string (wf ws i))∧(wvals ws)[i*2+1]? = some (.int .i64 (wq ws i)):=by
 induction ws generalizing i with
 |nil=>simp at h
 |cons a r ih=>
  have e:wvals (a :: r)=.string a.1 :: .int .i64 a.2 :: wvals r:=rfl;cases i with
  |zero=>exact⟨rfl,rfl⟩
  |succ i=>
   have:=ih i (by simpa using h);rw[e,show (i+1)*2=i*2+1+1 by omega]
   simpa[wf,wq] using this

theorem WOwn.rd {w:World} {B:Nat} {ao:Option Addr} {n cap:Nat} {ws:List (ByteArray×Int)} (h:WOwn w B ao n cap ws):WRd w ao n cap ws:=by
 obtain⟨hl,h1,h2⟩:=h
 rcases h2 with ⟨e,rfl⟩ | ⟨g,c,cur,e,hb,hg,hc,hm,hs,ht⟩
 ·simp only[Value.slice.injEq] at e;obtain⟨rfl,_,rfl⟩:=e;exact⟨⟨hl,fun i hi=>by omega⟩,Nat.le_refl _,Nat.zero_le _,fun _=>rfl⟩
 ·simp only[Value.slice.injEq] at e;obtain⟨rfl,_,rfl⟩:=e;refine⟨⟨hl,fun i hi=>⟨g,0,rfl,?_,?_⟩⟩,hc,hm,fun h=>by simp at h⟩
  all_goals
   have own:w.ownsRow B 88 2 (.slice (some ⟨g,0,none⟩) n cap) n (wvals ws):=⟨h1,.inr ⟨g,cap,cur,rfl,hb,hg,hc,hm,hs,ht⟩⟩
  ·rw[Nat.zero_add,own.cellAt (i*2) (by omega),(wvals_at ws i (by omega)).1]
  ·rw[Nat.zero_add,own.cellAt (i*2+1) (by omega),(wvals_at ws i (by omega)).2]

theorem wvals_set (ws:List (ByteArray×Int)) (k:Nat) (f:ByteArray) (q:Int):((wvals ws).set (k*2) (.string f)).set (k*2+1) (.int .i64 q)=wvals (ws.set k (f,q)):=by
 induction ws generalizing k with
 |nil=>simp[wvals]
 |cons a r ih=>
  have e:wvals (a :: r)=.string a.1 :: .int .i64 a.2 :: wvals r:=rfl;cases k with
  |zero=>rfl
  |succ k=>
   rw[e,show (k+1)*2=k*2+1+1 by omega];simp only[List.set_cons_succ];rw[ih k];rfl
theorem WOwn.below {w w':World} {B:Nat} {ao:Option Addr} {n cap:Nat} {ws:List (ByteArray×Int)} (h:WOwn w B ao n cap ws) (hb:Below w.heap.size w w'):WOwn w' B ao n cap ws:=by
 refine⟨h.1,h.2.1,?_⟩
 rcases h.2.2 with hn | ⟨g,c,cur,e,hB,hg,rest⟩
 ·exact .inl hn
 ·exact .inr ⟨g,c,cur,e,hB,by rw[hb.block g (Array.getElem?_eq_some_iff.1 hg).1];exact hg,rest⟩
theorem WOwn.frozen {w:World} {B:Nat} {g n cap:Nat} {ws:List (ByteArray×Int)} (h:WOwn w B (some ⟨g,0,none⟩) n cap ws) (j:Nat):w.frozen? ⟨g,j,none⟩ = false:=h.2.frozenAt j
theorem WOwn.store {w:World} {B:Nat} {g n cap:Nat} {ws:List (ByteArray×Int)} (h:WOwn w B (some ⟨g,0,none⟩) n cap ws) (k:Nat) (f:ByteArray) (q:Int) :
  WOwn ((w.setCell ⟨g,k*2,none⟩ (.string f)).setCell ⟨g,k*2+1,none⟩ (.int .i64 q)) B (some ⟨g,0,none⟩) n cap (ws.set k (f,q)):=by
 refine⟨by simpa using h.1,?_⟩;have:=((h.2.stored (k*2) (.string f)).1.stored (k*2+1) (.int .i64 q)).1;rw[wvals_set] at this;exact this

structure Sl where
 a:Option Addr
 n:Nat
 c:Nat
structure Pk where
 ty:Int
 dup:Bool
 qos:Int
 ret:Bool
 id:Int
 top:ByteArray
 bod:Sl
 cli:ByteArray
 lev:Int
 cln:Bool
 kee:Int
 hw:Bool
 wt:ByteArray
 wb:Sl
 wq:Int
 wr:Bool
 hu:Bool
 us:ByteArray
 hp:Bool
 pa:Sl
 cod:Int
 pre:Bool
 wan:Sl
 nam:Sl
 cds:Sl
def Pk.cells (p:Pk):Array Value:=#[.int .i64 p.ty,.bool p.dup,.int .i64 p.qos,.bool p.ret,.int .i64 p.id,.string p.top,.slice p.bod.a p.bod.n p.bod.c,.string p.cli,.int .i64 p.lev,.bool p.cln,.int .i64 p.kee,.bool p.hw,.string p.wt,.slice p.wb.a p.wb.n p.wb.c,.int .i64 p.wq,.bool p.wr,.bool p.hu,.string p.us,.bool p.hp,.slice p.pa.a p.pa.n p.pa.c,.int .i64 p.cod,.bool p.pre,.slice p.wan.a p.wan.n p.wan.c,.slice p.nam.a p.nam.n p.nam.c,.slice p.cds.a p.cds.n p.cds.c]
structure Pd where
 bod:List UInt8
 wb:List UInt8
 pa:List UInt8
 wan:List (ByteArray×Int)
 nam:List ByteArray
 cds:List Int
def PRd (w:World) (p:Pk) (d:Pd):Prop :=
 RdIn w p.bod.a p.bod.n p.bod.c d.bod∧RdIn w p.wb.a p.wb.n p.wb.c d.wb∧RdIn w p.pa.a p.pa.n p.pa.c d.pa∧WRd w p.wan.a p.wan.n p.wan.c d.wan∧SRd w p.nam.a p.nam.n p.nam.c d.nam∧IRd w p.cds.a p.cds.n p.cds.c d.cds
theorem PRd.below {w w':World} {p:Pk} {d:Pd} (h:PRd w p d) (hb:Below w.heap.size w w'):PRd w' p d :=
 ⟨h.1.below hb,h.2.1.below hb,h.2.2.1.below hb,h.2.2.2.1.below hb,h.2.2.2.2.1.below hb,h.2.2.2.2.2.below hb⟩
def Psm (p:Pk) (d:Pd) (L:Nat):Prop:=p.top.size+p.bod.n+p.cli.size+p.wt.size+p.wb.n+p.us.size+p.pa.n+(p.wan.n+wtot d.wan)+(p.nam.n+tot d.nam)+p.cds.n≤L

structure Re where
 bod:Option Addr×Nat
 wb:Option Addr×Nat
 pa:Option Addr×Nat
 wan:Option Addr×Nat
 nam:Option Addr×Nat
 cds:Option Addr×Nat
def Pk.re (p:Pk) (x:Re):Pk:={ p with bod:=⟨x.bod.1,p.bod.n,x.bod.2⟩,wb:=⟨x.wb.1,p.wb.n,x.wb.2⟩,pa:=⟨x.pa.1,p.pa.n,x.pa.2⟩,wan:=⟨x.wan.1,p.wan.n,x.wan.2⟩,nam:=⟨x.nam.1,p.nam.n,x.nam.2⟩,cds:=⟨x.cds.1,p.cds.n,x.cds.2⟩ }
def Plen (p:Pk) (L:Nat):Prop:=p.bod.n≤L∧p.wb.n≤L∧p.pa.n≤L∧p.wan.n≤L∧p.nam.n≤L∧p.cds.n≤L
theorem Psm.len {p:Pk} {d:Pd} {L:Nat} (h:Psm p d L):Plen p L:=by
 unfold Psm at h;unfold Plen;omega

theorem qru (p:Pk) (x:Re) (d:Pd) (w:World) (hp:PRd w p d) (hq:PRd w (p.re x) d) (hl:Plen p 1099511627776) :
  Calls Tryz.prog 42 #[.agg p.cells,.agg (p.re x).cells] w fun e w'=>e=.returned (.bool true)∧Below w.heap.size w w':=by
 obtain⟨l1,l2,l3,l4,l5,l6⟩:=hl;have ex:(p.re x).cells = #[.int .i64 p.ty,.bool p.dup,.int .i64 p.qos,.bool p.ret,.int .i64 p.id,.string p.top,.slice x.bod.1 p.bod.n x.bod.2,.string p.cli,.int .i64 p.lev,.bool p.cln,.int .i64 p.kee,.bool p.hw,.string p.wt,.slice x.wb.1 p.wb.n x.wb.2,.int .i64 p.wq,.bool p.wr,.bool p.hu,.string p.us,.bool p.hp,.slice x.pa.1 p.pa.n x.pa.2,.int .i64 p.cod,.bool p.pre,.slice x.wan.1 p.wan.n x.wan.2,.slice x.nam.1 p.nam.n x.nam.2,.slice x.cds.1 p.cds.n x.cds.2]:=rfl;rw[ex];unfold Pk.cells;generalize hcs:(#[.int .i64 p.ty,.bool p.dup,.int .i64 p.qos,.bool p.ret,.int .i64 p.id,.string p.top,.slice p.bod.a p.bod.n p.bod.c,.string p.cli,.int .i64 p.lev,.bool p.cln,.int .i64 p.kee,.bool p.hw,.string p.wt,.slice p.wb.a p.wb.n p.wb.c,.int .i64 p.wq,.bool p.wr,.bool p.hu,.string p.us,.bool p.hp,.slice p.pa.a p.pa.n p.pa.c,.int .i64 p.cod,.bool p.pre,.slice p.wan.a p.wan.n p.wan.c,.slice p.nam.a p.nam.n p.nam.c,.slice p.cds.a p.cds.n p.cds.c]:Array Value)=cs;generalize hds:(#[.int .i64 p.ty,.bool p.dup,.int .i64 p.qos,.bool p.ret,.int .i64 p.id,.string p.top,.slice x.bod.1 p.bod.n x.bod.2,.string p.cli,.int .i64 p.lev,.bool p.cln,.int .i64 p.kee,.bool p.hw,.string p.wt,.slice x.wb.1 p.wb.n x.wb.2,.int .i64 p.wq,.bool p.wr,.bool p.hu,.string p.us,.bool p.hp,.slice x.pa.1 p.pa.n x.pa.2,.int .i64 p.cod,.bool p.pre,.slice x.wan.1 p.wan.n x.wan.2,.slice x.nam.1 p.nam.n x.nam.2,.slice x.cds.1 p.cds.n x.cds.2]:Array Value)=ds
 have hb0:Below w.heap.size w ((w.alloc (.cells cs 28)).alloc (.cells ds 28)):=((Below.refl _ _).alloc (Nat.le_refl _) _).alloc (by simp) _;obtain⟨p1,p2,p3,p4,p5,p6⟩:=hp.below hb0;obtain⟨q1,q2,q3,q4,q5,q6⟩ : PRd _ (p.re x) d:=hq.below hb0;subst hcs;subst hds;have e_ty:(p.ty != p.ty)=false:=by simp
 have e_dup:(p.dup != p.dup)=false:=by simp
 have e_qos:(p.qos != p.qos)=false:=by simp
 have e_ret:(p.ret != p.ret)=false:=by simp
 have e_id:(p.id != p.id)=false:=by simp
 have e_top:=qdg p.top;have e_cli:=qdg p.cli;have e_lev:(p.lev != p.lev)=false:=by simp
 have e_cln:(p.cln != p.cln)=false:=by simp
 have e_kee:(p.kee != p.kee)=false:=by simp
 have e_hw:(p.hw != p.hw)=false:=by simp
 have e_wt:=qdg p.wt;have e_wq:(p.wq != p.wq)=false:=by simp
 have e_wr:(p.wr != p.wr)=false:=by simp
 have e_hu:(p.hu != p.hu)=false:=by simp
 have e_us:=qdg p.us;have e_hp:(p.hp != p.hp)=false:=by simp
 have e_cod:(p.cod != p.cod)=false:=by simp
 have e_pre:(p.pre != p.pre)=false:=by simp
 go_enter Tryz.func42,Tryz.ntmps42;go_wp2_with fail
 refine (eq_leqByteS p.bod.a x.bod.1 p.bod.n p.bod.c x.bod.2 d.bod _ p1 q1 l1).mono ?_;rintro e y1 ⟨rfl,hb1⟩;have hB1:=hb0.trans (hb1.mono hb0.size);replace p2:=p2.below hb1;replace q2:=q2.below hb1;replace p3:=p3.below hb1;replace q3:=q3.below hb1;replace p4:=p4.below hb1;replace q4:=q4.below hb1;replace p5:=p5.below hb1;replace q5:=q5.below hb1;replace p6:=p6.below hb1;replace q6:=q6.below hb1;have a7:y1.cell? ⟨w.heap.size,7,none⟩ = some (.string p.cli):=(hb1.cell (by simp;omega)).trans (by simp);have b7:y1.cell? ⟨w.heap.size+1,7,none⟩ = some (.string p.cli):=(hb1.cell (by simp)).trans (by simp);have a8:y1.cell? ⟨w.heap.size,8,none⟩ = some (.int .i64 p.lev):=(hb1.cell (by simp;omega)).trans (by simp);have b8:y1.cell? ⟨w.heap.size+1,8,none⟩ = some (.int .i64 p.lev):=(hb1.cell (by simp)).trans (by simp);have a9:y1.cell? ⟨w.heap.size,9,none⟩ = some (.bool p.cln):=(hb1.cell (by simp;omega)).trans (by simp);have b9:y1.cell? ⟨w.heap.size+1,9,none⟩ = some (.bool p.cln):=(hb1.cell (by simp)).trans (by simp);have a10:y1.cell? ⟨w.heap.size,10,none⟩ = some (.int .i64 p.kee):=(hb1.cell (by simp;omega)).trans (by simp);have b10:y1.cell? ⟨w.heap.size+1,10,none⟩ = some (.int .i64 p.kee):=(hb1.cell (by simp)).trans (by simp);have a11:y1.cell? ⟨w.heap.size,11,none⟩ = some (.bool p.hw):=(hb1.cell (by simp;omega)).trans (by simp);have b11:y1.cell? ⟨w.heap.size+1,11,none⟩ = some (.bool p.hw):=(hb1.cell (by simp)).trans (by simp)
 have a12:y1.cell? ⟨w.heap.size,12,none⟩ = some (.string p.wt):=(hb1.cell (by simp;omega)).trans (by simp);have b12:y1.cell? ⟨w.heap.size+1,12,none⟩ = some (.string p.wt):=(hb1.cell (by simp)).trans (by simp);have a13:y1.cell? ⟨w.heap.size,13,none⟩ = some (.slice p.wb.a p.wb.n p.wb.c):=(hb1.cell (by simp;omega)).trans (by simp);have b13:y1.cell? ⟨w.heap.size+1,13,none⟩ = some (.slice x.wb.1 p.wb.n x.wb.2):=(hb1.cell (by simp)).trans (by simp);have a14:y1.cell? ⟨w.heap.size,14,none⟩ = some (.int .i64 p.wq):=(hb1.cell (by simp;omega)).trans (by simp);have b14:y1.cell? ⟨w.heap.size+1,14,none⟩ = some (.int .i64 p.wq):=(hb1.cell (by simp)).trans (by simp);have a15:y1.cell? ⟨w.heap.size,15,none⟩ = some (.bool p.wr):=(hb1.cell (by simp;omega)).trans (by simp);have b15:y1.cell? ⟨w.heap.size+1,15,none⟩ = some (.bool p.wr):=(hb1.cell (by simp)).trans (by simp);have a16:y1.cell? ⟨w.heap.size,16,none⟩ = some (.bool p.hu):=(hb1.cell (by simp;omega)).trans (by simp);have b16:y1.cell? ⟨w.heap.size+1,16,none⟩ = some (.bool p.hu):=(hb1.cell (by simp)).trans (by simp);have a17:y1.cell? ⟨w.heap.size,17,none⟩ = some (.string p.us):=(hb1.cell (by simp;omega)).trans (by simp);have b17:y1.cell? ⟨w.heap.size+1,17,none⟩ = some (.string p.us):=(hb1.cell (by simp)).trans (by simp);have a18:y1.cell? ⟨w.heap.size,18,none⟩ = some (.bool p.hp):=(hb1.cell (by simp;omega)).trans (by simp);have b18:y1.cell? ⟨w.heap.size+1,18,none⟩ = some (.bool p.hp):=(hb1.cell (by simp)).trans (by simp)
 have a19:y1.cell? ⟨w.heap.size,19,none⟩ = some (.slice p.pa.a p.pa.n p.pa.c):=(hb1.cell (by simp;omega)).trans (by simp);have b19:y1.cell? ⟨w.heap.size+1,19,none⟩ = some (.slice x.pa.1 p.pa.n x.pa.2):=(hb1.cell (by simp)).trans (by simp);have a20:y1.cell? ⟨w.heap.size,20,none⟩ = some (.int .i64 p.cod):=(hb1.cell (by simp;omega)).trans (by simp);have b20:y1.cell? ⟨w.heap.size+1,20,none⟩ = some (.int .i64 p.cod):=(hb1.cell (by simp)).trans (by simp);have a21:y1.cell? ⟨w.heap.size,21,none⟩ = some (.bool p.pre):=(hb1.cell (by simp;omega)).trans (by simp);have b21:y1.cell? ⟨w.heap.size+1,21,none⟩ = some (.bool p.pre):=(hb1.cell (by simp)).trans (by simp);have a22:y1.cell? ⟨w.heap.size,22,none⟩ = some (.slice p.wan.a p.wan.n p.wan.c):=(hb1.cell (by simp;omega)).trans (by simp);have b22:y1.cell? ⟨w.heap.size+1,22,none⟩ = some (.slice x.wan.1 p.wan.n x.wan.2):=(hb1.cell (by simp)).trans (by simp);have a23:y1.cell? ⟨w.heap.size,23,none⟩ = some (.slice p.nam.a p.nam.n p.nam.c):=(hb1.cell (by simp;omega)).trans (by simp);have b23:y1.cell? ⟨w.heap.size+1,23,none⟩ = some (.slice x.nam.1 p.nam.n x.nam.2):=(hb1.cell (by simp)).trans (by simp);have a24:y1.cell? ⟨w.heap.size,24,none⟩ = some (.slice p.cds.a p.cds.n p.cds.c):=(hb1.cell (by simp;omega)).trans (by simp);have b24:y1.cell? ⟨w.heap.size+1,24,none⟩ = some (.slice x.cds.1 p.cds.n x.cds.2):=(hb1.cell (by simp)).trans (by simp);clear hb0 hb1;go_wp2_with fail
 refine (eq_leqByteS p.wb.a x.wb.1 p.wb.n p.wb.c x.wb.2 d.wb _ p2 q2 l2).mono ?_;rintro e y2 ⟨rfl,hb2⟩;have hB2:=hB1.trans (hb2.mono hB1.size);replace p3:=p3.below hb2;replace q3:=q3.below hb2;replace p4:=p4.below hb2;replace q4:=q4.below hb2;replace p5:=p5.below hb2;replace q5:=q5.below hb2;replace p6:=p6.below hb2;replace q6:=q6.below hb2;replace a14:y2.cell? ⟨w.heap.size,14,none⟩ = some (.int .i64 p.wq):=(hb2.cell (World.block_lt_of_cell? _ _ a14)).trans a14;replace b14:y2.cell? ⟨w.heap.size+1,14,none⟩ = some (.int .i64 p.wq):=(hb2.cell (World.block_lt_of_cell? _ _ b14)).trans b14;replace a15:y2.cell? ⟨w.heap.size,15,none⟩ = some (.bool p.wr):=(hb2.cell (World.block_lt_of_cell? _ _ a15)).trans a15;replace b15:y2.cell? ⟨w.heap.size+1,15,none⟩ = some (.bool p.wr):=(hb2.cell (World.block_lt_of_cell? _ _ b15)).trans b15;replace a16:y2.cell? ⟨w.heap.size,16,none⟩ = some (.bool p.hu):=(hb2.cell (World.block_lt_of_cell? _ _ a16)).trans a16;replace b16:y2.cell? ⟨w.heap.size+1,16,none⟩ = some (.bool p.hu):=(hb2.cell (World.block_lt_of_cell? _ _ b16)).trans b16;replace a17:y2.cell? ⟨w.heap.size,17,none⟩ = some (.string p.us):=(hb2.cell (World.block_lt_of_cell? _ _ a17)).trans a17;replace b17:y2.cell? ⟨w.heap.size+1,17,none⟩ = some (.string p.us):=(hb2.cell (World.block_lt_of_cell? _ _ b17)).trans b17;replace a18:y2.cell? ⟨w.heap.size,18,none⟩ = some (.bool p.hp):=(hb2.cell (World.block_lt_of_cell? _ _ a18)).trans a18
 replace b18:y2.cell? ⟨w.heap.size+1,18,none⟩ = some (.bool p.hp):=(hb2.cell (World.block_lt_of_cell? _ _ b18)).trans b18;replace a19:y2.cell? ⟨w.heap.size,19,none⟩ = some (.slice p.pa.a p.pa.n p.pa.c):=(hb2.cell (World.block_lt_of_cell? _ _ a19)).trans a19;replace b19:y2.cell? ⟨w.heap.size+1,19,none⟩ = some (.slice x.pa.1 p.pa.n x.pa.2):=(hb2.cell (World.block_lt_of_cell? _ _ b19)).trans b19;replace a20:y2.cell? ⟨w.heap.size,20,none⟩ = some (.int .i64 p.cod):=(hb2.cell (World.block_lt_of_cell? _ _ a20)).trans a20;replace b20:y2.cell? ⟨w.heap.size+1,20,none⟩ = some (.int .i64 p.cod):=(hb2.cell (World.block_lt_of_cell? _ _ b20)).trans b20;replace a21:y2.cell? ⟨w.heap.size,21,none⟩ = some (.bool p.pre):=(hb2.cell (World.block_lt_of_cell? _ _ a21)).trans a21;replace b21:y2.cell? ⟨w.heap.size+1,21,none⟩ = some (.bool p.pre):=(hb2.cell (World.block_lt_of_cell? _ _ b21)).trans b21;replace a22:y2.cell? ⟨w.heap.size,22,none⟩ = some (.slice p.wan.a p.wan.n p.wan.c):=(hb2.cell (World.block_lt_of_cell? _ _ a22)).trans a22;replace b22:y2.cell? ⟨w.heap.size+1,22,none⟩ = some (.slice x.wan.1 p.wan.n x.wan.2):=(hb2.cell (World.block_lt_of_cell? _ _ b22)).trans b22;replace a23:y2.cell? ⟨w.heap.size,23,none⟩ = some (.slice p.nam.a p.nam.n p.nam.c):=(hb2.cell (World.block_lt_of_cell? _ _ a23)).trans a23;replace b23:y2.cell? ⟨w.heap.size+1,23,none⟩ = some (.slice x.nam.1 p.nam.n x.nam.2):=(hb2.cell (World.block_lt_of_cell? _ _ b23)).trans b23
 replace a24:y2.cell? ⟨w.heap.size,24,none⟩ = some (.slice p.cds.a p.cds.n p.cds.c):=(hb2.cell (World.block_lt_of_cell? _ _ a24)).trans a24;replace b24:y2.cell? ⟨w.heap.size+1,24,none⟩ = some (.slice x.cds.1 p.cds.n x.cds.2):=(hb2.cell (World.block_lt_of_cell? _ _ b24)).trans b24;clear hB1 hb2;go_wp2_with fail
 refine (eq_leqByteS p.pa.a x.pa.1 p.pa.n p.pa.c x.pa.2 d.pa _ p3 q3 l3).mono ?_;rintro e y3 ⟨rfl,hb3⟩;have hB3:=hB2.trans (hb3.mono hB2.size);replace p4:=p4.below hb3;replace q4:=q4.below hb3;replace p5:=p5.below hb3;replace q5:=q5.below hb3;replace p6:=p6.below hb3;replace q6:=q6.below hb3;replace a20:y3.cell? ⟨w.heap.size,20,none⟩ = some (.int .i64 p.cod):=(hb3.cell (World.block_lt_of_cell? _ _ a20)).trans a20;replace b20:y3.cell? ⟨w.heap.size+1,20,none⟩ = some (.int .i64 p.cod):=(hb3.cell (World.block_lt_of_cell? _ _ b20)).trans b20;replace a21:y3.cell? ⟨w.heap.size,21,none⟩ = some (.bool p.pre):=(hb3.cell (World.block_lt_of_cell? _ _ a21)).trans a21;replace b21:y3.cell? ⟨w.heap.size+1,21,none⟩ = some (.bool p.pre):=(hb3.cell (World.block_lt_of_cell? _ _ b21)).trans b21;replace a22:y3.cell? ⟨w.heap.size,22,none⟩ = some (.slice p.wan.a p.wan.n p.wan.c):=(hb3.cell (World.block_lt_of_cell? _ _ a22)).trans a22;replace b22:y3.cell? ⟨w.heap.size+1,22,none⟩ = some (.slice x.wan.1 p.wan.n x.wan.2):=(hb3.cell (World.block_lt_of_cell? _ _ b22)).trans b22;replace a23:y3.cell? ⟨w.heap.size,23,none⟩ = some (.slice p.nam.a p.nam.n p.nam.c):=(hb3.cell (World.block_lt_of_cell? _ _ a23)).trans a23;replace b23:y3.cell? ⟨w.heap.size+1,23,none⟩ = some (.slice x.nam.1 p.nam.n x.nam.2):=(hb3.cell (World.block_lt_of_cell? _ _ b23)).trans b23;replace a24:y3.cell? ⟨w.heap.size,24,none⟩ = some (.slice p.cds.a p.cds.n p.cds.c):=(hb3.cell (World.block_lt_of_cell? _ _ a24)).trans a24
 replace b24:y3.cell? ⟨w.heap.size+1,24,none⟩ = some (.slice x.cds.1 p.cds.n x.cds.2):=(hb3.cell (World.block_lt_of_cell? _ _ b24)).trans b24;clear hB2 hb3;go_wp2_with fail
 refine (qtn p.wan.a x.wan.1 p.wan.n p.wan.c x.wan.2 d.wan _ p4 q4 l4).mono ?_;rintro e y4 ⟨rfl,hb4⟩;have hB4:=hB3.trans (hb4.mono hB3.size);replace p5:=p5.below hb4;replace q5:=q5.below hb4;replace p6:=p6.below hb4;replace q6:=q6.below hb4;replace a23:y4.cell? ⟨w.heap.size,23,none⟩ = some (.slice p.nam.a p.nam.n p.nam.c):=(hb4.cell (World.block_lt_of_cell? _ _ a23)).trans a23;replace b23:y4.cell? ⟨w.heap.size+1,23,none⟩ = some (.slice x.nam.1 p.nam.n x.nam.2):=(hb4.cell (World.block_lt_of_cell? _ _ b23)).trans b23;replace a24:y4.cell? ⟨w.heap.size,24,none⟩ = some (.slice p.cds.a p.cds.n p.cds.c):=(hb4.cell (World.block_lt_of_cell? _ _ a24)).trans a24;replace b24:y4.cell? ⟨w.heap.size+1,24,none⟩ = some (.slice x.cds.1 p.cds.n x.cds.2):=(hb4.cell (World.block_lt_of_cell? _ _ b24)).trans b24;clear hB3 hb4;go_wp2_with fail
 refine (qqo p.nam.a x.nam.1 p.nam.n p.nam.c x.nam.2 d.nam _ p5 q5 l5).mono ?_;rintro e y5 ⟨rfl,hb5⟩;have hB5:=hB4.trans (hb5.mono hB4.size);replace p6:=p6.below hb5;replace q6:=q6.below hb5;replace a24:y5.cell? ⟨w.heap.size,24,none⟩ = some (.slice p.cds.a p.cds.n p.cds.c):=(hb5.cell (World.block_lt_of_cell? _ _ a24)).trans a24;replace b24:y5.cell? ⟨w.heap.size+1,24,none⟩ = some (.slice x.cds.1 p.cds.n x.cds.2):=(hb5.cell (World.block_lt_of_cell? _ _ b24)).trans b24;clear hB4 hb5;go_wp2_with fail
 refine (eq_leqIntS p.cds.a x.cds.1 p.cds.n p.cds.c x.cds.2 d.cds _ p6 q6 l6).mono ?_;rintro e y6 ⟨rfl,hb6⟩;have hB6:=hB5.trans (hb6.mono hB5.size);clear hB5 hb6;go_wp2;go_ret;exact⟨rfl,hB6⟩


theorem qbc {w:World} {B B':Nat} {t:TypeId} {k:Nat} {v:Value} {n:Nat} {l:List Value} (h:w.ownsRow B t k v n l) (hB:B'≤B):w.ownsRow B' t k v n l:=by
 refine⟨h.1,?_⟩
 rcases h.2 with hn | ⟨b,c,cur,e,hb,rest⟩
 ·exact .inl hn
 ·exact .inr ⟨b,c,cur,e,by omega,rest⟩
def Dis (x y:Option Addr):Prop:=∀a b,x=some a→y=some b→a.block≠b.block
structure POwn (w:World) (B:Nat) (p:Pk) (d:Pd):Prop where
 bod:Own w B p.bod.a p.bod.n p.bod.c d.bod
 wb:Own w B p.wb.a p.wb.n p.wb.c d.wb
 pa:Own w B p.pa.a p.pa.n p.pa.c d.pa
 wan:WOwn w B p.wan.a p.wan.n p.wan.c d.wan
 nam:SOwn w B p.nam.a p.nam.n p.nam.c d.nam
 cds:IOwn w B p.cds.a p.cds.n p.cds.c d.cds
 dis:List.Pairwise Dis [p.bod.a,p.wb.a,p.pa.a,p.wan.a,p.nam.a,p.cds.a]
theorem POwn.rd {w:World} {B:Nat} {p:Pk} {d:Pd} (h:POwn w B p d):PRd w p d:=⟨h.bod.rd,h.wb.rd,h.pa.rd,h.wan.rd,h.nam.rd,h.cds.rd⟩
