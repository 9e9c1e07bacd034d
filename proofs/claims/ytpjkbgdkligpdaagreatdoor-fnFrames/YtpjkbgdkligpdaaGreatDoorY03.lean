/- Lemmas. -/
import Derived.Handy
import Derived.Deep.RegionWith
import Derived.Laws.CopyOwn
import Derived.Laws.StructEq
import Derived.BigGuardPart
import Derived.Test.YtpjkbgdkligpdaaGreatDoorY02
set_option linter.all false
set_option maxRecDepth 100000
set_option maxHeartbeats 20000000
namespace Go.Proofs.YtpjkbgdkligpdaaGreatDoor
open Go.RowKit

theorem info3:(Tryz.prog.info? 3).map (fun i=>(i.zero,i.size,i.bytes))=some (some (.int .i64 0),1,8):=by kernel_rfl

def nt (zs:List Int) (i:Nat):Int:=zs.getD i 0
def ivals (zs:List Int):List Value:=zs.map fun z=>Value.int .i64 z

theorem ivals_at (zs:List Int) (i:Nat) (h:i<zs.length):(ivals zs)[i]? = some (.int .i64 (nt zs i)):=by
 simp only[ivals,nt,List.getElem?_map,List.getElem?_eq_getElem h,Option.map_some,List.getD_eq_getElem?_getD,Option.getD_some]

def IRd (w:World) (ao:Option Addr) (n cap:Nat) (zs:List Int):Prop :=
 (zs.length=n∧∀i,i<n→∃b off,ao=some ⟨b,off,none⟩∧w.cell? ⟨b,off+i,none⟩ = some (.int .i64 (nt zs i)))∧n≤cap∧cap≤maxLen∧(ao=none→cap=0)

theorem IRd.nil (w:World):IRd w none 0 0 []:=⟨⟨rfl,fun i hi=>by omega⟩,Nat.le_refl _,Nat.zero_le _,fun _=>rfl⟩

def IOwn (w:World) (B:Nat) (ao:Option Addr) (n cap:Nat) (zs:List Int):Prop:=zs.length=n∧w.ownsRow B 3 1 (.slice ao n cap) n (ivals zs)

theorem IOwn.rd {w:World} {B:Nat} {ao:Option Addr} {n cap:Nat} {zs:List Int} (h:IOwn w B ao n cap zs):IRd w ao n cap zs:=by
 obtain⟨hl,h1,h2⟩:=h
 rcases h2 with ⟨e,rfl⟩ | ⟨g,c,cur,e,hb,hg,hc,hm,hs,ht⟩
 ·simp only[Value.slice.injEq] at e;obtain⟨rfl,_,rfl⟩:=e;exact⟨⟨hl,fun i hi=>by omega⟩,Nat.le_refl _,Nat.zero_le _,fun _=>rfl⟩
 ·simp only[Value.slice.injEq] at e;obtain⟨rfl,_,rfl⟩:=e;refine⟨⟨hl,fun i hi=>⟨g,0,rfl,?_⟩⟩,hc,hm,fun h=>by simp at h⟩;have own:w.ownsRow B 3 1 (.slice (some ⟨g,0,none⟩) n cap) n (ivals zs):=⟨h1,.inr ⟨g,cap,cur,rfl,hb,hg,hc,hm,hs,ht⟩⟩;rw[Nat.zero_add,own.cellAt i (by omega),ivals_at zs i (by omega)]
theorem IOwn.block {w:World} {B:Nat} {ao:Option Addr} {n cap:Nat} {zs:List Int} (h:IOwn w B ao n cap zs) {a:Addr} (e:ao=some a):B≤a.block∧a.block<w.heap.size:=by
 subst e;exact h.2.lt _ rfl
theorem IRd.below {w w':World} {ao:Option Addr} {n cap:Nat} {zs:List Int} (h:IRd w ao n cap zs) (hb:Below w.heap.size w w'):IRd w' ao n cap zs:=by
 refine⟨⟨h.1.1,fun i hi=>?_⟩,h.2⟩;obtain⟨b,off,e,hc⟩:=h.1.2 i hi;exact⟨b,off,e,(hb.cell (World.block_lt_of_cell? w _ hc)).trans hc⟩
theorem IOwn.below {w w':World} {B:Nat} {ao:Option Addr} {n cap:Nat} {zs:List Int} (h:IOwn w B ao n cap zs) (hb:Below w.heap.size w w'):IOwn w' B ao n cap zs:=by
 refine⟨h.1,h.2.1,?_⟩
 rcases h.2.2 with hn | ⟨g,c,cur,e,hB,hg,rest⟩
 ·exact .inl hn
 ·exact .inr ⟨g,c,cur,e,hB,by rw[hb.block g (Array.getElem?_eq_some_iff.1 hg).1];exact hg,rest⟩
theorem IOwn.grown {w w':World} {B:Nat} {ao:Option Addr} {n cap:Nat} {zs:List Int} {row:Option Nat} (h:IOwn w B ao n cap zs) (hg:w.grownBy w' row) (hne:∀a,ao=some a→some a.block≠row):IOwn w' B ao n cap zs:=by
 refine⟨h.1,h.2.kept hg ?_⟩;cases ao with
 |none=>exact .inl rfl
 |some a=>exact .inr (hne a rfl)
theorem IOwn.frozen {w:World} {B:Nat} {g n cap:Nat} {zs:List Int} (h:IOwn w B (some ⟨g,0,none⟩) n cap zs) (j:Nat):w.frozen? ⟨g,j,none⟩ = false:=h.2.frozenAt j
theorem IOwn.cell {w:World} {B:Nat} {g n cap:Nat} {zs:List Int} (h:IOwn w B (some ⟨g,0,none⟩) n cap zs) (j:Nat) (hj:j<n):w.cell? ⟨g,j,none⟩ = some (.int .i64 (nt zs j)):=by
 rw[h.2.cellAt j (by omega),ivals_at zs j (by rw[h.1];exact hj)]
theorem IOwn.head {w:World} {B:Nat} {ao:Option Addr} {n cap:Nat} {zs:List Int} (h:IOwn w B ao n cap zs) (hn:0<n):∃g,ao=some ⟨g,0,none⟩:=by
 rcases h.2.2 with ⟨_,h0⟩ | ⟨g,c,cur,e,_⟩
 ·omega
 ·simp only[Value.slice.injEq] at e;exact⟨g,e.1⟩
theorem IOwn.store {w:World} {B:Nat} {g n cap:Nat} {zs:List Int} (h:IOwn w B (some ⟨g,0,none⟩) n cap zs) (j:Nat) (u:Int) :
  IOwn (w.setCell ⟨g,j,none⟩ (.int .i64 u)) B (some ⟨g,0,none⟩) n cap (zs.set j u):=by
 refine⟨by simpa using h.1,?_⟩;have:=(h.2.stored j (.int .i64 u)).1;have e:(ivals zs).set j (.int .i64 u)=ivals (zs.set j u):=by simp[ivals,List.map_set]
 rw[e] at this;exact this
theorem qtf {w:World} {B:Nat} {v:Value} {n:Nat} {zs:List Int} (hl:zs.length=n) (h:w.ownsRow B 3 1 v n (ivals zs)):∃ao cap,v=.slice ao n cap∧IOwn w B ao n cap zs:=by
 rcases h.2 with ⟨rfl,rfl⟩ | ⟨g,c,cur,rfl,_⟩
 ·exact⟨none,0,rfl,hl,h⟩
 ·exact⟨_,_,rfl,hl,h⟩

theorem w_iapp {ops:Array Oper} {rest:List Oper} {o:Oper} {a:Act} {Q:Exit→Act→World→Prop} (w:World) (hgd:o.guard=none) (s x:Operand)
  (ho:o.op=.call { callee:=.builtin .append,args:=#[s,x],argTypes:=#[26,26] })
  (B:Nat) (ao:Option Addr) (n cap:Nat) (zs:List Int) (hs:a.eval s=.slice ao n cap) (hown:IOwn w B ao n cap zs)
  (ad:Nat) (u:Int) (hx:a.eval x=.slice (some ⟨ad,0,none⟩) 1 1) (hc:w.cell? ⟨ad,0,none⟩ = some (.int .i64 u)) (hb:n<1099511627776) (hB:B≤w.heap.size)
  (h:∀ao' cap' w',IOwn w' B ao' (n+1) cap' (zs++[u])→w.grownBy w' (Value.slice ao n cap).ownBlock→wpList Tryz.prog ops Q rest (a.put o.dst (.slice ao' (n+1) cap')) w') :
  wpList Tryz.prog ops Q (o :: rest) a w:=by
 obtain⟨i0,hi,hz0,hz1,hz2⟩:=info_parts info3;have hlen:(zs++[u]).length=n+1:=by rw[List.length_append,hown.1];rfl
 refine wpList_append_own w hgd s x 26 ho B 3 i0 (.int .i64 0) 1 8 Tryz.underlying26 hi hz0 hz1 hz2 rfl (by decide) (.slice ao n cap) n (ivals zs) hs hown.2 ⟨ad,0,none⟩ 1 1 [.int .i64 u] hx rfl ?_ (by intro v hv;simp at hv;subst hv;rfl) (by unfold maxLen;omega) (by omega) hB ?_
 ·intro j v hv
  match j,hv with
  |0,hv=>
   simp at hv;subst hv;exact hc
 ·intro v' w' hv hg _;have e:ivals zs++[.int .i64 u]=ivals (zs++[u]):=by simp[ivals]
  rw[e] at hv;obtain⟨ao',cap',rfl,hown'⟩:=qtf hlen hv;exact h ao' cap' w' hown' hg


def wf (ws:List (ByteArray×Int)) (i:Nat):ByteArray:=(ws.getD i (ByteArray.empty,0)).1
def wq (ws:List (ByteArray×Int)) (i:Nat):Int:=(ws.getD i (ByteArray.empty,0)).2
def wvals (ws:List (ByteArray×Int)):List Value:=ws.flatMap fun x=>[.string x.1,.int .i64 x.2]
theorem qui (ws:List (ByteArray×Int)):(wvals ws).length=2*ws.length:=by
 induction ws with
 |nil=>rfl
 |cons a r ih=>simp[wvals] at ih ⊢;omega

def WRd (w:World) (ao:Option Addr) (n cap:Nat) (ws:List (ByteArray×Int)):Prop :=
 (ws.length=n∧∀i,i<n→∃b off,ao=some ⟨b,off,none⟩∧w.cell? ⟨b,off+i*2,none⟩ = some (.string (wf ws i))∧w.cell? ⟨b,off+i*2+1,none⟩ = some (.int .i64 (wq ws i)))∧n≤cap∧cap≤maxLen∧(ao=none→cap=0)

theorem WRd.below {w w':World} {ao:Option Addr} {n cap:Nat} {ws:List (ByteArray×Int)} (h:WRd w ao n cap ws) (hb:Below w.heap.size w w'):WRd w' ao n cap ws:=by
 refine⟨⟨h.1.1,fun i hi=>?_⟩,h.2⟩;obtain⟨b,off,e,hc,hd⟩:=h.1.2 i hi;exact⟨b,off,e,(hb.cell (World.block_lt_of_cell? w _ hc)).trans hc,(hb.cell (World.block_lt_of_cell? w _ hd)).trans hd⟩

def wtot (ws:List (ByteArray×Int)):Nat:=(ws.map fun x=>x.1.size).sum
theorem infoW:(Tryz.prog.info? 88).map (fun i=>(i.zero,i.size,i.bytes))=some (some (.agg #[.string ByteArray.empty,.int .i64 0]),2,24):=by kernel_rfl

def WOwn (w:World) (B:Nat) (ao:Option Addr) (n cap:Nat) (ws:List (ByteArray×Int)):Prop:=ws.length=n∧w.ownsRow B 88 2 (.slice ao n cap) n (wvals ws)

theorem wvals_at (ws:List (ByteArray×Int)) (i:Nat) (h:i<ws.length):(wvals ws)[i*2]? = some (.string (wf ws i))∧(wvals ws)[i*2+1]? = some (.int .i64 (wq ws i)):=by
 induction ws generalizing i with
 |nil=>simp at h
 |cons a r ih=>
  have e:wvals (a :: r)=.string a.1 :: .int .i64 a.2 :: wvals r:=rfl;cases i with
  |zero=>exact⟨rfl,rfl⟩
  |succ i=>
   have:=ih i (by simpa using h);rw[e,show (i+1)*2=i*2+1+1 by omega]
   simpa[wf,wq] using this

theorem WOwn.rd {w:World} {B:Nat} {ao:Option Addr} {n cap:Nat} {ws:List (ByteArray×Int)} (h:WOwn w B ao n cap ws):WRd w ao n cap ws:=by
 obtain⟨hl,h1,h2⟩:=h
 rcases h2 with ⟨e,rfl⟩ | ⟨g,c,cur,e,hb,hg,hc,hm,hs,ht⟩
 ·simp only[Value.slice.injEq] at e;obtain⟨rfl,_,rfl⟩:=e;exact⟨⟨hl,fun i hi=>by omega⟩,Nat.le_refl _,Nat.zero_le _,fun _=>rfl⟩
 ·simp only[Value.slice.injEq] at e;obtain⟨rfl,_,rfl⟩:=e;refine⟨⟨hl,fun i hi=>⟨g,0,rfl,?_,?_⟩⟩,hc,hm,fun h=>by simp at h⟩
  all_goals
   have own:w.ownsRow B 88 2 (.slice (some ⟨g,0,none⟩) n cap) n (wvals ws):=⟨h1,.inr ⟨g,cap,cur,rfl,hb,hg,hc,hm,hs,ht⟩⟩
  ·rw[Nat.zero_add,own.cellAt (i*2) (by omega),(wvals_at ws i (by omega)).1]
  ·rw[Nat.zero_add,own.cellAt (i*2+1) (by omega),(wvals_at ws i (by omega)).2]

theorem wvals_set (ws:List (ByteArray×Int)) (k:Nat) (f:ByteArray) (q:Int):((wvals ws).set (k*2) (.string f)).set (k*2+1) (.int .i64 q)=wvals (ws.set k (f,q)):=by
 induction ws generalizing k with
 |nil=>simp[wvals]
 |cons a r ih=>
  have e:wvals (a :: r)=.string a.1 :: .int .i64 a.2 :: wvals r:=rfl;cases k with
  |zero=>rfl
  |succ k=>
   rw[e,show (k+1)*2=k*2+1+1 by omega];simp only[List.set_cons_succ];rw[ih k];rfl
theorem WOwn.below {w w':World} {B:Nat} {ao:Option Addr} {n cap:Nat} {ws:List (ByteArray×Int)} (h:WOwn w B ao n cap ws) (hb:Below w.heap.size w w'):WOwn w' B ao n cap ws:=by
 refine⟨h.1,h.2.1,?_⟩
 rcases h.2.2 with hn | ⟨g,c,cur,e,hB,hg,rest⟩
 ·exact .inl hn
 ·exact .inr ⟨g,c,cur,e,hB,by rw[hb.block g (Array.getElem?_eq_some_iff.1 hg).1];exact hg,rest⟩
theorem WOwn.frozen {w:World} {B:Nat} {g n cap:Nat} {ws:List (ByteArray×Int)} (h:WOwn w B (some ⟨g,0,none⟩) n cap ws) (j:Nat):w.frozen? ⟨g,j,none⟩ = false:=h.2.frozenAt j
theorem WOwn.store {w:World} {B:Nat} {g n cap:Nat} {ws:List (ByteArray×Int)} (h:WOwn w B (some ⟨g,0,none⟩) n cap ws) (k:Nat) (f:ByteArray) (q:Int) :
  WOwn ((w.setCell ⟨g,k*2,none⟩ (.string f)).setCell ⟨g,k*2+1,none⟩ (.int .i64 q)) B (some ⟨g,0,none⟩) n cap (ws.set k (f,q)):=by
 refine⟨by simpa using h.1,?_⟩;have:=((h.2.stored (k*2) (.string f)).1.stored (k*2+1) (.int .i64 q)).1;rw[wvals_set] at this;exact this

structure Sl where
 a:Option Addr
 n:Nat
 c:Nat
structure Pk where
 ty:Int
 dup:Bool
 qos:Int
 ret:Bool
 id:Int
 top:ByteArray
 bod:Sl
 cli:ByteArray
 lev:Int
 cln:Bool
 kee:Int
 hw:Bool
 wt:ByteArray
 wb:Sl
 wq:Int
 wr:Bool
 hu:Bool
 us:ByteArray
 hp:Bool
 pa:Sl
 cod:Int
 pre:Bool
 wan:Sl
 nam:Sl
 cds:Sl
def Pk.cells (p:Pk):Array Value:=#[.int .i64 p.ty,.bool p.dup,.int .i64 p.qos,.bool p.ret,.int .i64 p.id,.string p.top,.slice p.bod.a p.bod.n p.bod.c,.string p.cli,.int .i64 p.lev,.bool p.cln,.int .i64 p.kee,.bool p.hw,.string p.wt,.slice p.wb.a p.wb.n p.wb.c,.int .i64 p.wq,.bool p.wr,.bool p.hu,.string p.us,.bool p.hp,.slice p.pa.a p.pa.n p.pa.c,.int .i64 p.cod,.bool p.pre,.slice p.wan.a p.wan.n p.wan.c,.slice p.nam.a p.nam.n p.nam.c,.slice p.cds.a p.cds.n p.cds.c]
structure Pd where
 bod:List UInt8
 wb:List UInt8
 pa:List UInt8
 wan:List (ByteArray×Int)
 nam:List ByteArray
 cds:List Int
def PRd (w:World) (p:Pk) (d:Pd):Prop :=
 RdIn w p.bod.a p.bod.n p.bod.c d.bod∧RdIn w p.wb.a p.wb.n p.wb.c d.wb∧RdIn w p.pa.a p.pa.n p.pa.c d.pa∧WRd w p.wan.a p.wan.n p.wan.c d.wan∧SRd w p.nam.a p.nam.n p.nam.c d.nam∧IRd w p.cds.a p.cds.n p.cds.c d.cds
theorem PRd.below {w w':World} {p:Pk} {d:Pd} (h:PRd w p d) (hb:Below w.heap.size w w'):PRd w' p d :=
 ⟨h.1.below hb,h.2.1.below hb,h.2.2.1.below hb,h.2.2.2.1.below hb,h.2.2.2.2.1.below hb,h.2.2.2.2.2.below hb⟩
def Psm (p:Pk) (d:Pd) (L:Nat):Prop:=p.top.size+p.bod.n+p.cli.size+p.wt.size+p.wb.n+p.us.size+p.pa.n+(p.wan.n+wtot d.wan)+(p.nam.n+tot d.nam)+p.cds.n≤L

structure Re where
 bod:Option Addr×Nat
 wb:Option Addr×Nat
 pa:Option Addr×Nat
 wan:Option Addr×Nat
 nam:Option Addr×Nat
 cds:Option Addr×Nat
def Plen (p:Pk) (L:Nat):Prop:=p.bod.n≤L∧p.wb.n≤L∧p.pa.n≤L∧p.wan.n≤L∧p.nam.n≤L∧p.cds.n≤L
theorem Psm.len {p:Pk} {d:Pd} {L:Nat} (h:Psm p d L):Plen p L:=by
 unfold Psm at h;unfold Plen;omega


theorem qox {w w':World} {row:Option Nat} (h:Below w.heap.size w w'):w.grownBy w' row:=⟨h.os,h.tape,h.output,h.size,fun q hq _=>h.block q hq⟩
theorem gRow (w:World) (g:Nat) (cs:Array Value):w.grownBy (w.setRow g cs) (some g) :=
 ⟨rfl,rfl,rfl,by simp,fun q hq hne=>by
  have hne':g≠q:=fun e=>hne (by rw[e])
  simp[World.setRow,Array.getElem?_modify,hne']⟩
theorem qbc {w:World} {B B':Nat} {t:TypeId} {k:Nat} {v:Value} {n:Nat} {l:List Value} (h:w.ownsRow B t k v n l) (hB:B'≤B):w.ownsRow B' t k v n l:=by
 refine⟨h.1,?_⟩
 rcases h.2 with hn | ⟨b,c,cur,e,hb,rest⟩
 ·exact .inl hn
 ·exact .inr ⟨b,c,cur,e,by omega,rest⟩
def Dis (x y:Option Addr):Prop:=∀a b,x=some a→y=some b→a.block≠b.block
structure POwn (w:World) (B:Nat) (p:Pk) (d:Pd):Prop where
 bod:Own w B p.bod.a p.bod.n p.bod.c d.bod
 wb:Own w B p.wb.a p.wb.n p.wb.c d.wb
 pa:Own w B p.pa.a p.pa.n p.pa.c d.pa
 wan:WOwn w B p.wan.a p.wan.n p.wan.c d.wan
 nam:SOwn w B p.nam.a p.nam.n p.nam.c d.nam
 cds:IOwn w B p.cds.a p.cds.n p.cds.c d.cds
 dis:List.Pairwise Dis [p.bod.a,p.wb.a,p.pa.a,p.wan.a,p.nam.a,p.cds.a]
theorem POwn.rd {w:World} {B:Nat} {p:Pk} {d:Pd} (h:POwn w B p d):PRd w p d:=⟨h.bod.rd,h.wb.rd,h.pa.rd,h.wan.rd,h.nam.rd,h.cds.rd⟩

theorem qsr {a b:ByteArray} (h:a.toList=b.toList):a=b:=by
 rw[ByteArray.toList_eq,ByteArray.toList_eq] at h;obtain⟨⟨x⟩⟩:=a;obtain⟨⟨y⟩⟩:=b
 simpa using h
theorem qgn {α:Type} (l l':List α) (d:α) (k:Nat) (h:l.take k=l'.take k) (hk:k<l.length) (hk':k<l'.length) (e:l.getD k d=l'.getD k d):l.take (k+1)=l'.take (k+1):=by
 rw[List.take_succ_eq_append_getElem hk,List.take_succ_eq_append_getElem hk',h];simp only[List.getD_eq_getElem?_getD,List.getElem?_eq_getElem hk,List.getElem?_eq_getElem hk',Option.getD_some] at e;rw[e]
theorem qio {α:Type} {l l':List α} {n:Nat} (h:l.length=n) (h':l'.length=n) (e:l.take n=l'.take n):l=l':=by
 rwa [List.take_of_length_le (by omega),List.take_of_length_le (by omega)] at e
theorem ne_len {α:Type} {l l':List α} {n m:Nat} (h:l.length=n) (h':l'.length=m) (hne:n≠m):l≠l':=by
 rintro rfl;omega
theorem bt_inj {l l':List UInt8} {k:Nat} (h:bt l k=bt l' k):l.getD k 0=l'.getD k 0:=UInt8.toNat_inj.1 h
theorem nt_inj {l l':List Int} {k:Nat} (h:nt l k=nt l' k):l.getD k 0=l'.getD k 0:=h
theorem st_inj {l l':List ByteArray} {k:Nat} (h:st l k=st l' k):l.getD k ByteArray.empty=l'.getD k ByteArray.empty:=h
theorem wt_inj {l l':List (ByteArray×Int)} {k:Nat} (h:(wf l k,wq l k)=(wf l' k,wq l' k)):l.getD k (ByteArray.empty,0)=l'.getD k (ByteArray.empty,0):=by
 simp only[wf,wq,Prod.mk.injEq] at h;exact Prod.ext h.1 h.2
theorem qic (a:Nat):((a:Int) != (a:Int))=false:=by simp
theorem qna {a b:Nat} (h:a≠b):((a:Int) != (b:Int))=true:=by simp;omega
theorem ntn_self (a:Int):(a != a)=false:=by simp
theorem ntn_ne {a b:Int} (h:a≠b):(a != b)=true:=by simpa using h
theorem stn_self (s:ByteArray):(s.toList != s.toList)=false:=by simp
theorem stn_ne {s t:ByteArray} (h:s≠t):(s.toList==t.toList)=false:=by
 simp only[beq_eq_false_iff_ne,ne_eq];exact fun e=>h (qsr e)
theorem ntq_ne {a b:Int} (h:a≠b):(a==b)=false:=by simpa using h

theorem qgw (a b:Option Addr) (n c m c':Nat) (l l':List UInt8) (w:World) (h1:RdIn w a n c l) (h2:RdIn w b m c' l') :
  Calls Tryz.prog 89 #[.slice a n c,.slice b m c'] w fun e w'=>e=.returned (.bool (decide (l=l')))∧w'=w:=by
 have e1:=qgb h1;have e2:=qgb h2;go_enter Tryz.func89,Tryz.ntmps89;go_wp2;go_ret;refine⟨qad ?_,rfl⟩;rw[Bool.eq_iff_iff];simp

theorem qkn (ao a1:Option Addr) (n cap m cap1:Nat) (l l':List UInt8) (w:World) (hr:RdIn w ao n cap l) (h1:RdIn w a1 m cap1 l') :
  Calls Tryz.prog 122 #[.slice ao n cap,.slice a1 m cap1] w fun e w'=>e=.returned (.bool (decide (l=l')))∧∃q,w'=w.drewN q:=by
 have hn:n≤maxLen:=Nat.le_trans hr.2.1 hr.2.2.1;have HL:Hid (l.length=n):=hr.1.1;have HL':Hid (l'.length=m):=h1.1.1;unfold maxLen at hn
 by_cases hnm:n=m
 rotate_left
 ·have hne:=qna hnm;go_enter Tryz.func122,Tryz.ntmps122;go_wp2;go_ret;exact⟨qad (decide_eq_false (ne_len HL.out HL'.out hnm)).symm,0,rfl⟩
 subst hnm;have hne:((n:Int) != n)=false:=by simp
 go_enter Tryz.func122,Tryz.ntmps122;go_wp2
 go_loopw [13] (fun i wr=>∃k:Nat,i=.int .i64 k∧k≤n∧Hid (l.take k=l'.take k)∧∃q,wr=w.drewN q) (fun i _=>n-(intOf i).toNat)
 case atStart=>exact⟨0,rfl,Nat.zero_le _,rfl,0,rfl⟩
 case round=>
  obtain⟨k,rfl,hk,hT,qm,rfl⟩:=hrel
  by_cases hlt:k<n
  ·obtain⟨b,off,e,hc⟩:=hr.1.2 k hlt;subst e;obtain⟨b1,off1,e1,hc1⟩:=h1.1.2 k hlt;subst e1;have hck:w.cell? ⟨b,off+k,none⟩ = some (.int .u8 (bt l k)):=hc;have hck1:w.cell? ⟨b1,off1+k,none⟩ = some (.int .u8 (bt l' k)):=hc1;have hlt':(k:Int)<n:=by omega
   have k0:(0:Int)≤k:=by omega
   clear hc hc1
   by_cases he:bt l k=bt l' k
   ·have HS:Hid (l.take (k+1)=l'.take (k+1)):=qgn l l' _ k hT.out (by rw[HL.out];exact hlt) (by rw[HL'.out];exact hlt) (bt_inj he);rw[←he] at hck1;have hbn:=qic (bt l k);clear he;go_wp2
    go_quiet (fail)
    go_wp2;go_roundw
    case rel=>exact⟨k+1,by go_num,by omega,HS,_,rfl⟩
    case measure=>simp[intOf];omega
   ·have HN:Hid (l≠l'):=fun e=>he (by rw[e])
    have hbn:=qna he;clear he;go_wp2
    go_quiet (fail)
    go_wp2;go_ret;exact⟨qad (decide_eq_false HN.out).symm,_,World.drewN_drewN _ _ _⟩
  ·have hlt':¬(k:Int)<n:=by omega
   obtain rfl:k=n:=by omega
   go_wp2;go_ret;exact⟨qad (decide_eq_true (qio HL.out HL'.out hT.out)).symm,_,rfl⟩

theorem equal_ints (ao a1:Option Addr) (n cap m cap1:Nat) (l l':List Int) (w:World) (hr:IRd w ao n cap l) (h1:IRd w a1 m cap1 l') :
  Calls Tryz.prog 125 #[.slice ao n cap,.slice a1 m cap1] w fun e w'=>e=.returned (.bool (decide (l=l')))∧∃q,w'=w.drewN q:=by
 have hn:n≤maxLen:=Nat.le_trans hr.2.1 hr.2.2.1;have HL:Hid (l.length=n):=hr.1.1;have HL':Hid (l'.length=m):=h1.1.1;unfold maxLen at hn
 by_cases hnm:n=m
 rotate_left
 ·have hne:=qna hnm;go_enter Tryz.func125,Tryz.ntmps125;go_wp2;go_ret;exact⟨qad (decide_eq_false (ne_len HL.out HL'.out hnm)).symm,0,rfl⟩
 subst hnm;have hne:((n:Int) != n)=false:=by simp
 go_enter Tryz.func125,Tryz.ntmps125;go_wp2
 go_loopw [13] (fun i wr=>∃k:Nat,i=.int .i64 k∧k≤n∧Hid (l.take k=l'.take k)∧∃q,wr=w.drewN q) (fun i _=>n-(intOf i).toNat)
 case atStart=>exact⟨0,rfl,Nat.zero_le _,rfl,0,rfl⟩
 case round=>
  obtain⟨k,rfl,hk,hT,qm,rfl⟩:=hrel
  by_cases hlt:k<n
  ·obtain⟨b,off,e,hc⟩:=hr.1.2 k hlt;subst e;obtain⟨b1,off1,e1,hc1⟩:=h1.1.2 k hlt;subst e1;have hck:w.cell? ⟨b,off+k,none⟩ = some (.int .i64 (nt l k)):=hc;have hck1:w.cell? ⟨b1,off1+k,none⟩ = some (.int .i64 (nt l' k)):=hc1;have hlt':(k:Int)<n:=by omega
   have k0:(0:Int)≤k:=by omega
   clear hc hc1
   by_cases he:nt l k=nt l' k
   ·have HS:Hid (l.take (k+1)=l'.take (k+1)):=qgn l l' _ k hT.out (by rw[HL.out];exact hlt) (by rw[HL'.out];exact hlt) (nt_inj he);rw[←he] at hck1;have hbn:=ntn_self (nt l k);clear he;go_wp2
    go_quiet (fail)
    go_wp2;go_roundw
    case rel=>exact⟨k+1,by go_num,by omega,HS,_,rfl⟩
    case measure=>simp[intOf];omega
   ·have HN:Hid (l≠l'):=fun e=>he (by rw[e])
    have hbn:=ntn_ne he;clear he;go_wp2
    go_quiet (fail)
    go_wp2;go_ret;exact⟨qad (decide_eq_false HN.out).symm,_,World.drewN_drewN _ _ _⟩
  ·have hlt':¬(k:Int)<n:=by omega
   obtain rfl:k=n:=by omega
   go_wp2;go_ret;exact⟨qad (decide_eq_true (qio HL.out HL'.out hT.out)).symm,_,rfl⟩

theorem equal_strs (ao a1:Option Addr) (n cap m cap1:Nat) (l l':List ByteArray) (w:World) (hr:SRd w ao n cap l) (h1:SRd w a1 m cap1 l') :
  Calls Tryz.prog 124 #[.slice ao n cap,.slice a1 m cap1] w fun e w'=>e=.returned (.bool (decide (l=l')))∧∃q,w'=w.drewN q:=by
 have hn:n≤maxLen:=Nat.le_trans hr.2.1 hr.2.2.1;have HL:Hid (l.length=n):=hr.1.1;have HL':Hid (l'.length=m):=h1.1.1;unfold maxLen at hn
 by_cases hnm:n=m
 rotate_left
 ·have hne:=qna hnm;go_enter Tryz.func124,Tryz.ntmps124;go_wp2;go_ret;exact⟨qad (decide_eq_false (ne_len HL.out HL'.out hnm)).symm,0,rfl⟩
 subst hnm;have hne:((n:Int) != n)=false:=by simp
 go_enter Tryz.func124,Tryz.ntmps124;go_wp2
 go_loopw [13] (fun i wr=>∃k:Nat,i=.int .i64 k∧k≤n∧Hid (l.take k=l'.take k)∧∃q,wr=w.drewN q) (fun i _=>n-(intOf i).toNat)
 case atStart=>exact⟨0,rfl,Nat.zero_le _,rfl,0,rfl⟩
 case round=>
  obtain⟨k,rfl,hk,hT,qm,rfl⟩:=hrel
  by_cases hlt:k<n
  ·obtain⟨b,off,e,hc⟩:=hr.1.2 k hlt;subst e;obtain⟨b1,off1,e1,hc1⟩:=h1.1.2 k hlt;subst e1;have hck:w.cell? ⟨b,off+k,none⟩ = some (.string (st l k)):=hc;have hck1:w.cell? ⟨b1,off1+k,none⟩ = some (.string (st l' k)):=hc1;have hlt':(k:Int)<n:=by omega
   have k0:(0:Int)≤k:=by omega
   clear hc hc1
   by_cases he:st l k=st l' k
   ·have HS:Hid (l.take (k+1)=l'.take (k+1)):=qgn l l' _ k hT.out (by rw[HL.out];exact hlt) (by rw[HL'.out];exact hlt) (st_inj he);rw[←he] at hck1;have hbn:=stn_self (st l k);clear he;go_wp2
    go_quiet (fail)
    go_wp2;go_roundw
    case rel=>exact⟨k+1,by go_num,by omega,HS,_,rfl⟩
    case measure=>simp[intOf];omega
   ·have HN:Hid (l≠l'):=fun e=>he (by rw[e])
    have hbn:=stn_ne he;clear he;go_wp2
    go_quiet (fail)
    go_wp2;go_ret;exact⟨qad (decide_eq_false HN.out).symm,_,World.drewN_drewN _ _ _⟩
  ·have hlt':¬(k:Int)<n:=by omega
   obtain rfl:k=n:=by omega
   go_wp2;go_ret;exact⟨qad (decide_eq_true (qio HL.out HL'.out hT.out)).symm,_,rfl⟩

theorem qus (ao a1:Option Addr) (n cap m cap1:Nat) (l l':List (ByteArray×Int)) (w:World) (hr:WRd w ao n cap l) (h1:WRd w a1 m cap1 l') :
  Calls Tryz.prog 123 #[.slice ao n cap,.slice a1 m cap1] w fun e w'=>e=.returned (.bool (decide (l=l')))∧∃q,w'=w.drewN q:=by
 have hn:n≤maxLen:=Nat.le_trans hr.2.1 hr.2.2.1;have HL:Hid (l.length=n):=hr.1.1;have HL':Hid (l'.length=m):=h1.1.1;unfold maxLen at hn
 by_cases hnm:n=m
 rotate_left
 ·have hne:=qna hnm;go_enter Tryz.func123,Tryz.ntmps123;go_wp2;go_ret;exact⟨qad (decide_eq_false (ne_len HL.out HL'.out hnm)).symm,0,rfl⟩
 subst hnm;have hne:((n:Int) != n)=false:=by simp
 go_enter Tryz.func123,Tryz.ntmps123;go_wp2
 go_loopw [13] (fun i wr=>∃k:Nat,i=.int .i64 k∧k≤n∧Hid (l.take k=l'.take k)∧∃q,wr=w.drewN q) (fun i _=>n-(intOf i).toNat)
 case atStart=>exact⟨0,rfl,Nat.zero_le _,rfl,0,rfl⟩
 case round=>
  obtain⟨k,rfl,hk,hT,qm,rfl⟩:=hrel
  by_cases hlt:k<n
  ·obtain⟨b,off,e,hc,hd⟩:=hr.1.2 k hlt;subst e;obtain⟨b1,off1,e1,hc1,hd1⟩:=h1.1.2 k hlt;subst e1;have hck:w.cell? ⟨b,off+k*2,none⟩ = some (.string (wf l k)):=hc;have hck1:w.cell? ⟨b1,off1+k*2,none⟩ = some (.string (wf l' k)):=hc1;have hdk:w.cell? ⟨b,off+k*2+1,none⟩ = some (.int .i64 (wq l k)):=hd;have hdk1:w.cell? ⟨b1,off1+k*2+1,none⟩ = some (.int .i64 (wq l' k)):=hd1;have hlt':(k:Int)<n:=by omega
   have k0:(0:Int)≤k:=by omega
   clear hc hc1 hd hd1
   by_cases he:(wf l k,wq l k)=(wf l' k,wq l' k)
   ·have HS:Hid (l.take (k+1)=l'.take (k+1)):=qgn l l' _ k hT.out (by rw[HL.out];exact hlt) (by rw[HL'.out];exact hlt) (wt_inj he);rw[Prod.mk.injEq] at he;rw[←he.1] at hck1;rw[←he.2] at hdk1;clear he;go_wp2
    go_quiet (fail)
    go_wp2;go_roundw
    case rel=>exact⟨k+1,by go_num,by omega,HS,_,rfl⟩
    case measure=>simp[intOf];omega
   ·have HN:Hid (l≠l'):=fun e=>he (by rw[e])
    by_cases h2:wf l k=wf l' k
    ·have hbn:(wq l k==wq l' k)=false:=ntq_ne (fun e=>he (by rw[h2,e]));rw[←h2] at hck1;clear he h2;go_wp2
     go_quiet (fail)
     go_wp2;go_ret;exact⟨qad (decide_eq_false HN.out).symm,_,World.drewN_drewN _ _ _⟩
    ·have hbn:=stn_ne h2;clear he h2;go_wp2
     go_quiet (fail)
     go_wp2;go_ret;exact⟨qad (decide_eq_false HN.out).symm,_,World.drewN_drewN _ _ _⟩
  ·have hlt':¬(k:Int)<n:=by omega
   obtain rfl:k=n:=by omega
   go_wp2;go_ret;exact⟨qad (decide_eq_true (qio HL.out HL'.out hT.out)).symm,_,rfl⟩


theorem Pk.c0 (p:Pk):p.cells[0]? = some (.int .i64 p.ty):=rfl
theorem Pk.c1 (p:Pk):p.cells[1]? = some (.bool p.dup):=rfl
theorem Pk.c2 (p:Pk):p.cells[2]? = some (.int .i64 p.qos):=rfl
theorem Pk.c3 (p:Pk):p.cells[3]? = some (.bool p.ret):=rfl
theorem Pk.c4 (p:Pk):p.cells[4]? = some (.int .i64 p.id):=rfl
theorem Pk.c5 (p:Pk):p.cells[5]? = some (.string p.top):=rfl
theorem Pk.c6 (p:Pk):p.cells[6]? = some (.slice p.bod.a p.bod.n p.bod.c):=rfl
theorem Pk.c7 (p:Pk):p.cells[7]? = some (.string p.cli):=rfl
theorem Pk.c8 (p:Pk):p.cells[8]? = some (.int .i64 p.lev):=rfl
theorem Pk.c9 (p:Pk):p.cells[9]? = some (.bool p.cln):=rfl
theorem Pk.c10 (p:Pk):p.cells[10]? = some (.int .i64 p.kee):=rfl
theorem Pk.c11 (p:Pk):p.cells[11]? = some (.bool p.hw):=rfl
theorem Pk.c12 (p:Pk):p.cells[12]? = some (.string p.wt):=rfl
theorem Pk.c13 (p:Pk):p.cells[13]? = some (.slice p.wb.a p.wb.n p.wb.c):=rfl
theorem Pk.c14 (p:Pk):p.cells[14]? = some (.int .i64 p.wq):=rfl
theorem Pk.c15 (p:Pk):p.cells[15]? = some (.bool p.wr):=rfl
theorem Pk.c16 (p:Pk):p.cells[16]? = some (.bool p.hu):=rfl
theorem Pk.c17 (p:Pk):p.cells[17]? = some (.string p.us):=rfl
theorem Pk.c18 (p:Pk):p.cells[18]? = some (.bool p.hp):=rfl
theorem Pk.c19 (p:Pk):p.cells[19]? = some (.slice p.pa.a p.pa.n p.pa.c):=rfl
theorem Pk.c20 (p:Pk):p.cells[20]? = some (.int .i64 p.cod):=rfl
theorem Pk.c21 (p:Pk):p.cells[21]? = some (.bool p.pre):=rfl
theorem Pk.c22 (p:Pk):p.cells[22]? = some (.slice p.wan.a p.wan.n p.wan.c):=rfl
theorem Pk.c23 (p:Pk):p.cells[23]? = some (.slice p.nam.a p.nam.n p.nam.c):=rfl
theorem Pk.c24 (p:Pk):p.cells[24]? = some (.slice p.cds.a p.cds.n p.cds.c):=rfl
theorem Pk.csize (p:Pk):p.cells.size=25:=rfl
def pv (p:Pk) (d:Pd):Pv:=⟨p.ty,p.dup,p.qos,p.ret,p.id,p.top,d.bod,p.cli,p.lev,p.cln,p.kee,p.hw,p.wt,d.wb,p.wq,p.wr,p.hu,p.us,p.hp,d.pa,p.cod,p.pre,d.wan,d.nam,d.cds⟩
theorem pv_wan (p:Pk) (d:Pd):(pv p d).wan=d.wan:=rfl
theorem pv_nam (p:Pk) (d:Pd):(pv p d).nam=d.nam:=rfl
theorem pv_cds (p:Pk) (d:Pd):(pv p d).cds=d.cds:=rfl
theorem pv_eq {p q:Pk} {d d':Pd} : pv p d=pv q d' ↔ (p.ty=q.ty∧p.dup=q.dup∧p.qos=q.qos∧p.ret=q.ret∧p.id=q.id∧p.top=q.top∧d.bod=d'.bod∧p.cli=q.cli∧p.lev=q.lev∧p.cln=q.cln∧p.kee=q.kee∧p.hw=q.hw∧p.wt=q.wt∧d.wb=d'.wb∧p.wq=q.wq∧p.wr=q.wr∧p.hu=q.hu∧p.us=q.us∧p.hp=q.hp∧d.pa=d'.pa∧p.cod=q.cod∧p.pre=q.pre∧d.wan=d'.wan∧d.nam=d'.nam∧d.cds=d'.cds):=by
 simp only[pv,Pv.mk.injEq]
theorem PRd.drewN {w:World} {p:Pk} {d:Pd} (h:PRd w p d) (n:Nat):PRd (w.drewN n) p d:=h
def Blk (w:World) (b:Nat) (p:Pk):Prop:=w.heap[b]? = some (.cells p.cells 28)
theorem Blk.new (w:World) (p:Pk):Blk (w.alloc (.cells p.cells 28)) w.heap.size p:=heap_alloc_new _ _
theorem Blk.below {w w':World} {b B:Nat} {p:Pk} (h:Blk w b p) (hb:Below B w w') (hB:b<B):Blk w' b p:=(hb.block b hB).trans h
theorem Blk.lt {w:World} {b:Nat} {p:Pk} (h:Blk w b p):b<w.heap.size:=(Array.getElem?_eq_some_iff.1 h).1
theorem Blk.cell {w:World} {b:Nat} {p:Pk} (h:Blk w b p) (i:Nat):w.cell? ⟨b,i,none⟩ = p.cells[i]?:=cell_of_row w b i p.cells _ (0,0) h
theorem infoP:(Tryz.prog.info? 28).map (fun x=>x.size)=some 25:=by kernel_rfl
theorem qhd (s t:ByteArray):(s.toList==t.toList)=decide (s=t):=by
 rw[Bool.eq_iff_iff];simp only[beq_iff_eq,decide_eq_true_eq];exact⟨qsr,fun h=>by rw[h]⟩

structure Keep (lo:Nat) (a a':Act):Prop where
 size:a'.tmps.size=a.tmps.size
 defers:a'.defers=a.defers
 slot:∀s,s<lo→a'.tmps[s]? = a.tmps[s]?
theorem Keep.refl (lo:Nat) (a:Act):Keep lo a a:=⟨rfl,rfl,fun _ _=>rfl⟩
theorem Keep.trans {lo:Nat} {a b c:Act} (h:Keep lo a b) (k:Keep lo b c):Keep lo a c:=⟨k.size.trans h.size,k.defers.trans h.defers,fun s hs=>(k.slot s hs).trans (h.slot s hs)⟩
theorem Keep.mono {lo l:Nat} {a b:Act} (h:Keep lo a b) (hl:l≤lo):Keep l a b:=⟨h.size,h.defers,fun s hs=>h.slot s (Nat.lt_of_lt_of_le hs hl)⟩
theorem put_ne {a:Act} {s d:Nat} (v:Value) (h:s≠d):(a.put (some d) v).tmps[s]? = a.tmps[s]?:=by
 show (a.tmps.setIfInBounds d v)[s]? = _;rw[Array.getElem?_setIfInBounds,if_neg (fun e=>h e.symm)]
theorem qee {a:Act} {d:Nat} (v:Value) (h:d<a.tmps.size):(a.put (some d) v).tmps[d]? = some v:=by
 show (a.tmps.setIfInBounds d v)[d]? = _;rw[Array.getElem?_setIfInBounds,if_pos rfl,if_pos h]
theorem qfi {a:Act} (d:Nat) (v:Value):(a.put (some d) v).tmps.size=a.tmps.size:=by
 show (a.tmps.setIfInBounds d v).size=_;simp
theorem Keep.put {lo d:Nat} {a b:Act} (h:Keep lo a b) (hd:lo≤d) (v:Value):Keep lo a (b.put (some d) v) :=
 ⟨(qfi d v).trans h.size,h.defers,fun s hs=>(put_ne v (by omega)).trans (h.slot s hs)⟩
theorem qab {a:Act} {s:Nat} {v:Value} (h:a.tmps[s]? = some v):a.eval (.tmp s)=v:=by
 show a.tmps.getD s undef=v;simp[h]
theorem qaq {ops:Array Oper} {a:Act} {k s:Nat} {B:Bool} (hk:(ops[k]?).bind (fun o=>o.dst)=some s) (h:a.tmps[s]? = some (.bool B)):yielded ops a.tmps k=some B:=by
 unfold yielded;rw[hk];simp[h]

section
variable {P : Program} {ops : Array Oper} {Q : Exit → Act → World → Prop} {rest : List Oper} {a : Act} {w : World}
theorem qha {o:Oper} (hw:Region.wanted o (yielded ops a.tmps)=false) (h:wpList P ops Q rest (a.put o.dst undef) w):wpList P ops Q (o :: rest) a w:=by
 unfold wpList;rw[if_neg (by rw[hw];decide)];exact h
theorem qcr {o:Oper} {w':World} {v:Value} (hw:Region.wanted o (yielded ops a.tmps)=true) (hx:(execOp a.eval o).run P w=.ok (.value v) w') (h:wpList P ops Q rest (a.put o.dst v) w'):wpList P ops Q (o :: rest) a w:=by
 unfold wpList;rw[if_pos hw];refine Or.inl ?_;unfold Oper.wp;rw[hx];exact h
theorem op_call {o:Oper} {f:FuncId} {args:Array Value} (hw:Region.wanted o (yielded ops a.tmps)=true) (hx:(execOp a.eval o).run P w=.ok (.enter f args) w)
  (h:Calls P f args w fun e w'=>∃v,e=.returned v∧wpList P ops Q rest (a.put o.dst v) w'):wpList P ops Q (o :: rest) a w:=by
 unfold wpList;rw[if_pos hw];refine Or.inl ?_;unfold Oper.wp;rw[hx];refine Calls.mono h ?_;rintro e w' ⟨v,rfl,hh⟩;exact hh
theorem qmy {t1 t2 t3 t4:TypeId} {p1 p2 p3 p4:String} {e1 e2 e3 e4:Array Edge} {g:Option (Nat×Bool)}
  {d1 d2 d3 d4 sx sy T τ i j:Nat} {X X':Addr} {v v':Value}
  (hw:∀a':Act,Keep d1 a a'→∀d op t p e,Region.wanted ⟨some d,op,t,p,e,g⟩ (yielded ops a'.tmps)=true)
  (ho:(sx<d1∧sy<d1)∧d1<d2∧d2<d3∧d3<d4) (hn:d4<a.tmps.size)
  (hx:a.eval (.tmp sx)=.pointer (some X)) (hy:a.tmps[sy]? = some (.pointer (some X')))
  (f1:∀u:World,(Instr.fieldAt T (.pointer (some X)) i).run P u=.ok (.pointer (some (X.add j))) u)
  (f2:∀u:World,(Instr.fieldAt T (.pointer (some X')) i).run P u=.ok (.pointer (some (X'.add j))) u)
  (l1:(Instr.loadAt τ (.pointer (some (X.add j)))).run P w=.ok v w) (l2:(Instr.loadAt τ (.pointer (some (X'.add j)))).run P w=.ok v' w)
  (h:∀a',Keep d1 a a'→a'.tmps[d2]? = some v→a'.tmps[d4]? = some v'→wpList P ops Q rest a' w) :
  wpList P ops Q (⟨some d1,.fieldAddr T (.tmp sx) i,t1,p1,e1,g⟩ :: ⟨some d2,.load τ (.tmp d1),t2,p2,e2,g⟩ :: ⟨some d3,.fieldAddr T (.tmp sy) i,t3,p3,e3,g⟩ :: ⟨some d4,.load τ (.tmp d3),t4,p4,e4,g⟩ :: rest) a w:=by
 obtain⟨⟨o1,o2⟩,o3,o4,o5⟩:=ho;have K1:Keep d1 a (a.put (some d1) (.pointer (some (X.add j)))):=(Keep.refl _ _).put (Nat.le_refl _) _;refine qcr (w':=w) (v:=.pointer (some (X.add j))) (hw a (Keep.refl _ _) _ _ _ _ _) (by simp[execOp,hx,f1]) ?_;have s1:(a.put (some d1) (.pointer (some (X.add j)))).tmps[d1]? = some (.pointer (some (X.add j))):=qee _ (by omega);have K2:=K1.put (d:=d2) (by omega) v;refine qcr (w':=w) (v:=v) (hw _ K1 _ _ _ _ _) (by simp[execOp,qab s1,l1]) ?_;have s2:((a.put (some d1) (.pointer (some (X.add j)))).put (some d2) v).tmps[d2]? = some v:=qee _ (by rw[qfi];omega);have sy2:=(K2.slot sy o2).trans hy;have K3:=K2.put (d:=d3) (by omega) (.pointer (some (X'.add j)));refine qcr (w':=w) (v:=.pointer (some (X'.add j))) (hw _ K2 _ _ _ _ _) (by simp[execOp,qab sy2,f2]) ?_;have s3:(((a.put (some d1) (.pointer (some (X.add j)))).put (some d2) v).put (some d3) (.pointer (some (X'.add j)))).tmps[d3]? = some (.pointer (some (X'.add j))):=qee _ (by rw[qfi,qfi];omega);have K4:=K3.put (d:=d4) (by omega) v';refine qcr (w':=w) (v:=v') (hw _ K3 _ _ _ _ _) (by simp[execOp,qab s3,l2]) ?_;refine h _ K4 ?_ (qee _ (by rw[qfi,qfi,qfi];omega));rw[put_ne _ (by omega),put_ne _ (by omega)];exact s2
theorem qaa {o:Oper} (h:o.guard=none) (y:Nat→Option Bool):Region.wanted o y=true:=by
 simp[Region.wanted,h]
theorem qco {o:Oper} {k:Nat} {y:Nat→Option Bool} (h:o.guard=some (k,true)) (hy:y k=some true):Region.wanted o y=true:=by
 simp[Region.wanted,h,hy]
theorem qdc {o:Oper} {k:Nat} {y:Nat→Option Bool} (h:o.guard=some (k,true)) (hy:y k=some false):Region.wanted o y=false:=by
 simp[Region.wanted,h,hy]
theorem qbn {t:TypeId} {p:String} {e:Array Edge} {d s:Nat} {v:Value} (hn:d<a.tmps.size) (hs:a.tmps[s]? = some v)
  (h:∀a',Keep d a a'→a'.tmps[d]? = some v→wpList P ops Q rest a' w):wpList P ops Q (⟨some d,.move (.tmp s),t,p,e,none⟩ :: rest) a w :=
 qcr (w':=w) (v:=v) (qaa rfl _) (by simp[execOp,qab hs]) (h _ ((Keep.refl _ _).put (Nat.le_refl _) _) (qee _ hn))
theorem qvs {t:TypeId} {p:String} {e:Array Edge} {d s:Nat} {v:Value} (hn:d<a.tmps.size) (hs:a.tmps[s]? = some v)
  (h:∀a',Keep d a a'→a'.tmps[d]? = some v→wpList P ops Q rest a' w):wpList P ops Q (⟨some d,.assign (.tmp s),t,p,e,none⟩ :: rest) a w :=
 qcr (w':=w) (v:=v) (qaa rfl _) (by simp[execOp,qab hs]) (h _ ((Keep.refl _ _).put (Nat.le_refl _) _) (qee _ hn))
theorem first_eq {t1 t2 t3 t4 t5:TypeId} {p1 p2 p3 p4 p5:String} {e1 e2 e3 e4 e5:Array Edge}
  {d1 d2 d3 d4 d5 sx sy T τ i j:Nat} {X X':Addr} {v v':Value} {E:Bool}
  (ho:(sx<d1∧sy<d1)∧d1<d2∧d2<d3∧d3<d4) (h5:d4<d5) (hn:d5<a.tmps.size)
  (hx:a.tmps[sx]? = some (.pointer (some X))) (hy:a.tmps[sy]? = some (.pointer (some X')))
  (f1:∀u:World,(Instr.fieldAt T (.pointer (some X)) i).run P u=.ok (.pointer (some (X.add j))) u)
  (f2:∀u:World,(Instr.fieldAt T (.pointer (some X')) i).run P u=.ok (.pointer (some (X'.add j))) u)
  (l1:(Instr.loadAt τ (.pointer (some (X.add j)))).run P w=.ok v w) (l2:(Instr.loadAt τ (.pointer (some (X'.add j)))).run P w=.ok v' w)
  (q:(do eqGuard .eql τ (.tmp d2) (.tmp d4) v v';binOp .eql τ v v':Sem Value).run P w=.ok (.bool E) w)
  (h:∀a',Keep d1 a a'→a'.tmps[d5]? = some (.bool E)→wpList P ops Q rest a' w) :
  wpList P ops Q (⟨some d1,.fieldAddr T (.tmp sx) i,t1,p1,e1,none⟩ :: ⟨some d2,.load τ (.tmp d1),t2,p2,e2,none⟩ :: ⟨some d3,.fieldAddr T (.tmp sy) i,t3,p3,e3,none⟩ :: ⟨some d4,.load τ (.tmp d3),t4,p4,e4,none⟩ :: ⟨some d5,.binOp .eql τ (.tmp d2) (.tmp d4) τ,t5,p5,e5,none⟩ :: rest) a w:=by
 refine qmy (fun a' _ d op t p e=>qaa rfl _) ho (by omega) (qab hx) hy f1 f2 l1 l2 ?_;intro a' k s2 s4;refine qcr (v:=.bool E) (w':=w) (qaa rfl _) ?_ (h _ (k.put (by omega) _) (qee _ (by rw[k.size];exact hn)));simp only[execOp,qab s2,qab s4,Sem.run_bind,q,Result.andThen_ok,Sem.run_pure]
theorem qeu {t1 t2 t3 t4 t5 t6:TypeId} {p1 p2 p3 p4 p5 p6:String} {e1 e2 e3 e4 e5 e6:Array Edge}
  {k s d1 d2 d3 d4 d5 d6 sx sy T τ i j:Nat} {X X':Addr} {v v':Value} {B E:Bool}
  (ho:(sx<d1∧sy<d1)∧d1<d2∧d2<d3∧d3<d4) (h5:s<d1∧d4<d5∧d5<d6) (hn:d6<a.tmps.size)
  (hk:(ops[k]?).bind (fun o=>o.dst)=some s) (hB:a.tmps[s]? = some (.bool B))
  (hx:a.tmps[sx]? = some (.pointer (some X))) (hy:a.tmps[sy]? = some (.pointer (some X')))
  (f1:∀u:World,(Instr.fieldAt T (.pointer (some X)) i).run P u=.ok (.pointer (some (X.add j))) u)
  (f2:∀u:World,(Instr.fieldAt T (.pointer (some X')) i).run P u=.ok (.pointer (some (X'.add j))) u)
  (l1:(Instr.loadAt τ (.pointer (some (X.add j)))).run P w=.ok v w) (l2:(Instr.loadAt τ (.pointer (some (X'.add j)))).run P w=.ok v' w)
  (q:(do eqGuard .eql τ (.tmp d2) (.tmp d4) v v';binOp .eql τ v v':Sem Value).run P w=.ok (.bool E) w)
  (h:∀a',Keep d1 a a'→a'.tmps[d6]? = some (.bool (B&&E))→wpList P ops Q rest a' w) :
  wpList P ops Q (⟨some d1,.fieldAddr T (.tmp sx) i,t1,p1,e1,some (k,true)⟩ :: ⟨some d2,.load τ (.tmp d1),t2,p2,e2,some (k,true)⟩ :: ⟨some d3,.fieldAddr T (.tmp sy) i,t3,p3,e3,some (k,true)⟩ :: ⟨some d4,.load τ (.tmp d3),t4,p4,e4,some (k,true)⟩ :: ⟨some d5,.binOp .eql τ (.tmp d2) (.tmp d4) τ,t5,p5,e5,some (k,true)⟩ :: ⟨some d6,.pick (.tmp s) (.tmp d5) (.const (.bool false)),t6,p6,e6,none⟩ :: rest) a w:=by
 obtain⟨o1,o2,o3⟩:=h5;cases B with
 |true=>
  refine qmy (fun a' K d op t p e=>qco rfl (qaq hk ((K.slot s o1).trans hB))) ho (by omega) (qab hx) hy f1 f2 l1 l2 ?_;intro a' K s2 s4;refine qcr (v:=.bool E) (w':=w) (qco rfl (qaq hk ((K.slot s o1).trans hB))) ?_ ?_
  ·simp only[execOp,qab s2,qab s4,Sem.run_bind,q,Result.andThen_ok,Sem.run_pure]
  have K5:=K.put (d:=d5) (by omega) (.bool E);have s5:(a'.put (some d5) (.bool E)).tmps[d5]? = some (.bool E):=qee _ (by rw[K.size];omega);refine qcr (v:=.bool E) (w':=w) (qaa rfl _) ?_ (h _ (K5.put (by omega) _) (qee _ (by rw[qfi,K.size];exact hn)));simp[execOp,qab s5,qab ((K5.slot s o1).trans hB),asBool]
 |false=>
  have K0:=Keep.refl d1 a;have go:∀a':Act,Keep d1 a a'→∀d op t p e,Region.wanted ⟨some d,op,t,p,e,some (k,true)⟩ (yielded ops a'.tmps)=false:=fun a' K d op t p e=>qdc rfl (qaq hk ((K.slot s o1).trans hB))
  have K1:=K0.put (d:=d1) (Nat.le_refl _) undef;have K2:=K1.put (d:=d2) (by omega) undef;have K3:=K2.put (d:=d3) (by omega) undef;have K4:=K3.put (d:=d4) (by omega) undef;have K5:=K4.put (d:=d5) (by omega) undef;refine qha (go _ K0 _ _ _ _ _) (qha (go _ K1 _ _ _ _ _) (qha (go _ K2 _ _ _ _ _) (qha (go _ K3 _ _ _ _ _) (qha (go _ K4 _ _ _ _ _) ?_))));refine qcr (v:=.bool false) (w':=w) (qaa rfl _) ?_ (h _ (K5.put (by omega) _) (qee _ (by rw[K5.size];exact hn)));have ev:∀c:Value,Act.eval ((((((a.put (some d1) undef).put (some d2) undef).put (some d3) undef).put (some d4) undef).put (some d5) undef)) (.const c)=c:=fun _=>rfl
  simp[execOp,qab ((K5.slot s o1).trans hB),asBool,ev]
theorem qro {t1 t2 t3 t4 t5 t6:TypeId} {p1 p2 p3 p4 p5 p6:String} {e1 e2 e3 e4 e5 e6:Array Edge} {ts:Array TypeId}
  {k s d1 d2 d3 d4 d5 d6 sx sy T τ i j f:Nat} {X X':Addr} {v v':Value} {B E:Bool}
  (ho:(sx<d1∧sy<d1)∧d1<d2∧d2<d3∧d3<d4) (h5:s<d1∧d4<d5∧d5<d6) (hn:d6<a.tmps.size)
  (hk:(ops[k]?).bind (fun o=>o.dst)=some s) (hB:a.tmps[s]? = some (.bool B))
  (hx:a.tmps[sx]? = some (.pointer (some X))) (hy:a.tmps[sy]? = some (.pointer (some X')))
  (f1:∀u:World,(Instr.fieldAt T (.pointer (some X)) i).run P u=.ok (.pointer (some (X.add j))) u)
  (f2:∀u:World,(Instr.fieldAt T (.pointer (some X')) i).run P u=.ok (.pointer (some (X'.add j))) u)
  (l1:(Instr.loadAt τ (.pointer (some (X.add j)))).run P w=.ok v w) (l2:(Instr.loadAt τ (.pointer (some (X'.add j)))).run P w=.ok v' w)
  (hf:∀ρ:Operand→Value,ρ (.tmp d2)=v→ρ (.tmp d4)=v'→(∀g,ρ (.func g)=.func (.func g) #[] #[])→(execOp ρ ⟨some d5,.call { callee:=.value (.func f),args:=#[.tmp d2,.tmp d4],argTypes:=ts },t5,p5,e5,some (k,true)⟩).run P w=.ok (.enter f #[v,v']) w)
  (q:Calls P f #[v,v'] w fun e w'=>e=.returned (.bool E)∧w'=w)
  (h:∀a',Keep d1 a a'→a'.tmps[d6]? = some (.bool (B&&E))→wpList P ops Q rest a' w) :
  wpList P ops Q (⟨some d1,.fieldAddr T (.tmp sx) i,t1,p1,e1,some (k,true)⟩ :: ⟨some d2,.load τ (.tmp d1),t2,p2,e2,some (k,true)⟩ :: ⟨some d3,.fieldAddr T (.tmp sy) i,t3,p3,e3,some (k,true)⟩ :: ⟨some d4,.load τ (.tmp d3),t4,p4,e4,some (k,true)⟩ :: ⟨some d5,.call { callee:=.value (.func f),args:=#[.tmp d2,.tmp d4],argTypes:=ts },t5,p5,e5,some (k,true)⟩ :: ⟨some d6,.pick (.tmp s) (.tmp d5) (.const (.bool false)),t6,p6,e6,none⟩ :: rest) a w:=by
 obtain⟨o1,o2,o3⟩:=h5;cases B with
 |true=>
  refine qmy (fun a' K d op t p e=>qco rfl (qaq hk ((K.slot s o1).trans hB))) ho (by omega) (qab hx) hy f1 f2 l1 l2 ?_;intro a' K s2 s4;refine op_call (f:=f) (args:=#[v,v']) (qco rfl (qaq hk ((K.slot s o1).trans hB))) (hf _ (qab s2) (qab s4) (fun _=>rfl)) ?_;refine Calls.mono q ?_;rintro e w' ⟨rfl,rfl⟩;refine⟨_,rfl,?_⟩;have K5:=K.put (d:=d5) (by omega) (.bool E);have s5:(a'.put (some d5) (.bool E)).tmps[d5]? = some (.bool E):=qee _ (by rw[K.size];omega);refine qcr (v:=.bool E) (w':=w') (qaa rfl _) ?_ (h _ (K5.put (by omega) _) (qee _ (by rw[qfi,K.size];exact hn)));simp[execOp,qab s5,qab ((K5.slot s o1).trans hB),asBool]
 |false=>
  have K0:=Keep.refl d1 a;have go:∀a':Act,Keep d1 a a'→∀d op t p e,Region.wanted ⟨some d,op,t,p,e,some (k,true)⟩ (yielded ops a'.tmps)=false:=fun a' K d op t p e=>qdc rfl (qaq hk ((K.slot s o1).trans hB))
  have K1:=K0.put (d:=d1) (Nat.le_refl _) undef;have K2:=K1.put (d:=d2) (by omega) undef;have K3:=K2.put (d:=d3) (by omega) undef;have K4:=K3.put (d:=d4) (by omega) undef;have K5:=K4.put (d:=d5) (by omega) undef;refine qha (go _ K0 _ _ _ _ _) (qha (go _ K1 _ _ _ _ _) (qha (go _ K2 _ _ _ _ _) (qha (go _ K3 _ _ _ _ _) (qha (go _ K4 _ _ _ _ _) ?_))));refine qcr (v:=.bool false) (w':=w) (qaa rfl _) ?_ (h _ (K5.put (by omega) _) (qee _ (by rw[K5.size];exact hn)));have ev:∀c:Value,Act.eval ((((((a.put (some d1) undef).put (some d2) undef).put (some d3) undef).put (some d4) undef).put (some d5) undef)) (.const c)=c:=fun _=>rfl
  simp[execOp,qab ((K5.slot s o1).trans hB),asBool,ev]
end

theorem qmt (p q:Pk) (w:World) :
  Calls Tryz.prog 74 #[.agg p.cells,.agg q.cells] w fun e w'=>e=.returned (.bool (p.ty==q.ty&&p.qos==q.qos&&p.id==q.id&&p.lev==q.lev&&p.kee==q.kee&&p.wq==q.wq&&p.cod==q.cod))∧Below w.heap.size w w':=by
 have a0:=p.c0;have b0:=q.c0;have a2:=p.c2;have b2:=q.c2;have a4:=p.c4;have b4:=q.c4;have a8:=p.c8;have b8:=q.c8;have a10:=p.c10;have b10:=q.c10;have a14:=p.c14;have b14:=q.c14;have a20:=p.c20;have b20:=q.c20;generalize p.cells=cs at *;generalize q.cells=ds at *;have hb:Below w.heap.size w ((w.alloc (.cells cs 28)).alloc (.cells ds 28)):=((Below.refl _ _).alloc (Nat.le_refl _) _).alloc (by simp) _;go_enter Tryz.func74,Tryz.ntmps74;go_wp2
 all_goals
  go_ret;exact⟨qad (by simp[*]),hb⟩

theorem qqe (p q:Pk) (w:World) :
  Calls Tryz.prog 75 #[.agg p.cells,.agg q.cells] w fun e w'=>e=.returned (.bool (p.dup==q.dup&&p.ret==q.ret&&p.cln==q.cln&&p.hw==q.hw&&p.wr==q.wr&&p.hu==q.hu&&p.hp==q.hp&&p.pre==q.pre))∧Below w.heap.size w w':=by
 have a1:=p.c1;have b1:=q.c1;have a3:=p.c3;have b3:=q.c3;have a9:=p.c9;have b9:=q.c9;have a11:=p.c11;have b11:=q.c11;have a15:=p.c15;have b15:=q.c15;have a16:=p.c16;have b16:=q.c16;have a18:=p.c18;have b18:=q.c18;have a21:=p.c21;have b21:=q.c21;generalize p.cells=cs at *;generalize q.cells=ds at *;have hb:Below w.heap.size w ((w.alloc (.cells cs 28)).alloc (.cells ds 28)):=((Below.refl _ _).alloc (Nat.le_refl _) _).alloc (by simp) _;go_enter Tryz.func75,Tryz.ntmps75;go_wp2
 all_goals
  go_ret;exact⟨qad (by simp[*]),hb⟩

theorem qqg (p q:Pk) (w:World) :
  Calls Tryz.prog 76 #[.agg p.cells,.agg q.cells] w fun e w'=>e=.returned (.bool (decide (p.top=q.top)&&decide (p.cli=q.cli)&&decide (p.wt=q.wt)&&decide (p.us=q.us)))∧Below w.heap.size w w':=by
 have a5:=p.c5;have b5:=q.c5;have a7:=p.c7;have b7:=q.c7;have a12:=p.c12;have b12:=q.c12;have a17:=p.c17;have b17:=q.c17;generalize p.cells=cs at *;generalize q.cells=ds at *;have hb:Below w.heap.size w ((w.alloc (.cells cs 28)).alloc (.cells ds 28)):=((Below.refl _ _).alloc (Nat.le_refl _) _).alloc (by simp) _;have s5:=qhd p.top q.top;have s7:=qhd p.cli q.cli;have s12:=qhd p.wt q.wt;have s17:=qhd p.us q.us;go_enter Tryz.func76,Tryz.ntmps76;go_wp2
 all_goals
  go_ret;exact⟨qad (by simp[*]),hb⟩

theorem qqf (p q:Pk) (d d':Pd) (w:World) (hp:PRd w p d) (hq:PRd w q d') :
  Calls Tryz.prog 77 #[.agg p.cells,.agg q.cells] w fun e w'=>e=.returned (.bool (decide (d.bod=d'.bod)&&decide (d.wb=d'.wb)&&decide (d.pa=d'.pa)&&decide (d.wan=d'.wan)&&decide (d.nam=d'.nam)&&decide (d.cds=d'.cds)))∧Below w.heap.size w w':=by
 have a6:=p.c6;have b6:=q.c6;have a13:=p.c13;have b13:=q.c13;have a19:=p.c19;have b19:=q.c19;have a22:=p.c22;have b22:=q.c22;have a23:=p.c23;have b23:=q.c23;have a24:=p.c24;have b24:=q.c24;generalize p.cells=cs at *;generalize q.cells=ds at *;have hb:Below w.heap.size w ((w.alloc (.cells cs 28)).alloc (.cells ds 28)):=((Below.refl _ _).alloc (Nat.le_refl _) _).alloc (by simp) _;have r:=hp.below hb;have r':=hq.below hb;go_enter Tryz.func77,Tryz.ntmps77;go_wp2_with fail
 refine (qkn _ _ _ _ _ _ d.bod d'.bod _ (r).1 (r').1).mono ?_;rintro e y0 ⟨rfl,m0,rfl⟩
 by_cases h0:d.bod=d'.bod
 rotate_left
 ·have g0:decide (d.bod=d'.bod)=false:=decide_eq_false h0;simp only[g0];go_wp2;go_ret;exact⟨qad (by simp[g0]),below_drewN hb _⟩
 have g0:decide (d.bod=d'.bod)=true:=decide_eq_true h0;simp only[g0];clear h0;go_wp2_with fail
 refine (qkn _ _ _ _ _ _ d.wb d'.wb _ (r.drewN _).2.1 (r'.drewN _).2.1).mono ?_;rintro e y1 ⟨rfl,m1,rfl⟩;simp only[World.drewN_drewN]
 by_cases h1:d.wb=d'.wb
 rotate_left
 ·have g1:decide (d.wb=d'.wb)=false:=decide_eq_false h1;simp only[g1];go_wp2;go_ret;exact⟨qad (by simp[g1]),below_drewN hb _⟩
 have g1:decide (d.wb=d'.wb)=true:=decide_eq_true h1;simp only[g1];clear h1;go_wp2_with fail
 refine (qkn _ _ _ _ _ _ d.pa d'.pa _ (r.drewN _).2.2.1 (r'.drewN _).2.2.1).mono ?_;rintro e y2 ⟨rfl,m2,rfl⟩;simp only[World.drewN_drewN]
 by_cases h2:d.pa=d'.pa
 rotate_left
 ·have g2:decide (d.pa=d'.pa)=false:=decide_eq_false h2;simp only[g2];go_wp2;go_ret;exact⟨qad (by simp[g2]),below_drewN hb _⟩
 have g2:decide (d.pa=d'.pa)=true:=decide_eq_true h2;simp only[g2];clear h2;go_wp2_with fail
 refine (qus _ _ _ _ _ _ d.wan d'.wan _ (r.drewN _).2.2.2.1 (r'.drewN _).2.2.2.1).mono ?_;rintro e y3 ⟨rfl,m3,rfl⟩;simp only[World.drewN_drewN]
 by_cases h3:d.wan=d'.wan
 rotate_left
 ·have g3:decide (d.wan=d'.wan)=false:=decide_eq_false h3;simp only[g3];go_wp2;go_ret;exact⟨qad (by simp[g3]),below_drewN hb _⟩
 have g3:decide (d.wan=d'.wan)=true:=decide_eq_true h3;simp only[g3];clear h3;go_wp2_with fail
 refine (equal_strs _ _ _ _ _ _ d.nam d'.nam _ (r.drewN _).2.2.2.2.1 (r'.drewN _).2.2.2.2.1).mono ?_;rintro e y4 ⟨rfl,m4,rfl⟩;simp only[World.drewN_drewN]
 by_cases h4:d.nam=d'.nam
 rotate_left
 ·have g4:decide (d.nam=d'.nam)=false:=decide_eq_false h4;simp only[g4];go_wp2;go_ret;exact⟨qad (by simp[g4]),below_drewN hb _⟩
 have g4:decide (d.nam=d'.nam)=true:=decide_eq_true h4;simp only[g4];clear h4;go_wp2_with fail
 refine (equal_ints _ _ _ _ _ _ d.cds d'.cds _ (r.drewN _).2.2.2.2.2 (r'.drewN _).2.2.2.2.2).mono ?_;rintro e y5 ⟨rfl,m5,rfl⟩;simp only[World.drewN_drewN];go_wp2;go_ret;exact⟨qad (by simp[g0,g1,g2,g3,g4]),below_drewN hb _⟩

theorem load_g {P:Program} {ops:Array Oper} {rest:List Oper} {o:Oper} {a:Act} {w:World} {Q:Exit→Act→World→Prop} (hw:Region.wanted o (yielded ops a.tmps)=true) (ty:TypeId) (x:Operand) (ho:o.op=.load ty x)
  (g:Nat) (hx:a.eval x=.pointer (some ⟨g,0,none⟩)) (t:TypeId) (cs:Array Value) (fr:Nat×Nat) (d:TypeDesc) (hg:w.heap[g]? = some (.cells cs t fr))
  (hu:P.underlying ty=some d) (hd:(match d with | .struct _ | .array _ _=>true | _=>false)=true) (hi:(P.info? ty).map (·.size)=some cs.size)
  (h:wpList P ops Q rest (a.put o.dst (.agg cs)) w):wpList P ops Q (o :: rest) a w:=by
 unfold wpList;rw[if_pos hw];exact Or.inl (wp_load_row ty x ho g hx t cs fr d hg hu hd hi h)
theorem qaj {ops:Array Oper} {rest:List Oper} {o:Oper} {a:Act} {w:World} {Q:Exit→Act→World→Prop} {g:Nat} {p:Pk} (hB:Blk w g p) (hw:Region.wanted o (yielded ops a.tmps)=true) (x:Operand) (ho:o.op=.load 28 x)
  (hx:a.eval x=.pointer (some ⟨g,0,none⟩))
  (h:wpList Tryz.prog ops Q rest (a.put o.dst (.agg p.cells)) w):wpList Tryz.prog ops Q (o :: rest) a w :=
 load_g hw 28 x ho g hx 28 p.cells (0,0) _ hB Tryz.underlying28 rfl (infoP.trans (by rw[Pk.csize])) h
theorem qiy (p q:Pk) (d d':Pd) (w:World) (hp:PRd w p d) (hq:PRd w q d') :
  Calls Tryz.prog 18 #[.agg p.cells,.agg q.cells] w fun e w'=>e=.returned (.bool (decide (pv p d=pv q d')))∧Below w.heap.size w w':=by
 have hb:Below w.heap.size w ((w.alloc (.cells p.cells 28)).alloc (.cells q.cells 28)):=((Below.refl _ _).alloc (Nat.le_refl _) _).alloc (by simp) _;have A:Blk ((w.alloc (.cells p.cells 28)).alloc (.cells q.cells 28)) w.heap.size p:=heap_alloc2_old _ _ _;have B:Blk ((w.alloc (.cells p.cells 28)).alloc (.cells q.cells 28)) (w.heap.size+1) q:=heap_alloc2_new _ _ _;have r:=hp.below hb;have r':=hq.below hb;go_enter Tryz.func18,Tryz.ntmps18;go_wp2_with (first | refine qaj A rfl _ rfl rfl ?_ | refine qaj B rfl _ rfl rfl ?_ | fail)
 refine (qmt p q _).mono ?_;rintro e y0 ⟨rfl,b0⟩;replace hb:=hb.trans (b0.mono hb.size);replace B:=B.below b0 B.lt;replace A:=A.below b0 A.lt;replace r:=r.below b0;replace r':=r'.below b0;clear b0;generalize H0:(_&&_)=x0;cases x0
 ·go_wp2;go_ret;refine⟨qad (decide_eq_false fun e=>?_).symm,hb⟩;rw[pv_eq] at e;obtain⟨e1,e2,e3,e4,e5,e6,e7,e8,e9,e10,e11,e12,e13,e14,e15,e16,e17,e18,e19,e20,e21,e22,e23,e24,e25⟩:=e;simp[*] at H0
 replace H0:Hid (_=true):=H0;go_wp2_with (first | refine qaj A rfl _ rfl rfl ?_ | refine qaj B rfl _ rfl rfl ?_ | fail)
 refine (qqe p q _).mono ?_;rintro e y1 ⟨rfl,b1⟩;replace hb:=hb.trans (b1.mono hb.size);replace B:=B.below b1 B.lt;replace A:=A.below b1 A.lt;replace r:=r.below b1;replace r':=r'.below b1;clear b1;generalize H1:(_&&_)=x1;cases x1
 ·go_wp2;go_ret;refine⟨qad (decide_eq_false fun e=>?_).symm,hb⟩;rw[pv_eq] at e;obtain⟨e1,e2,e3,e4,e5,e6,e7,e8,e9,e10,e11,e12,e13,e14,e15,e16,e17,e18,e19,e20,e21,e22,e23,e24,e25⟩:=e;simp[*] at H1
 replace H1:Hid (_=true):=H1;go_wp2_with (first | refine qaj A rfl _ rfl rfl ?_ | refine qaj B rfl _ rfl rfl ?_ | fail)
 refine (qqg p q _).mono ?_;rintro e y2 ⟨rfl,b2⟩;replace hb:=hb.trans (b2.mono hb.size);replace B:=B.below b2 B.lt;replace A:=A.below b2 A.lt;replace r:=r.below b2;replace r':=r'.below b2;clear b2;generalize H2:(_&&_)=x2;cases x2
 ·go_wp2;go_ret;refine⟨qad (decide_eq_false fun e=>?_).symm,hb⟩;rw[pv_eq] at e;obtain⟨e1,e2,e3,e4,e5,e6,e7,e8,e9,e10,e11,e12,e13,e14,e15,e16,e17,e18,e19,e20,e21,e22,e23,e24,e25⟩:=e;simp[*] at H2
 replace H2:Hid (_=true):=H2;go_wp2_with (first | refine qaj A rfl _ rfl rfl ?_ | refine qaj B rfl _ rfl rfl ?_ | fail)
 refine (qqf p q d d' _ r r').mono ?_;rintro e y3 ⟨rfl,b3⟩;replace hb:=hb.trans (b3.mono hb.size);replace B:=B.below b3 B.lt;replace A:=A.below b3 A.lt;go_wp2;go_ret;refine⟨qad ?_,hb⟩;have h0:=H0.out;have h1:=H1.out;have h2:=H2.out;simp only[Bool.and_eq_true,beq_iff_eq,decide_eq_true_eq] at h0 h1 h2;rw[Bool.eq_iff_iff];simp only[Bool.and_eq_true,decide_eq_true_eq];rw[pv_eq];constructor
 ·intro h;simp only[h0,h1,h2,h,and_self]
 ·intro h;simp only[h,and_self]

