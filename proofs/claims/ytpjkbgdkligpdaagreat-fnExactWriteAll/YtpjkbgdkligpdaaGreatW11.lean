/- Lemmas. -/
import Derived.Deep.MidRow
import Derived.Test.YtpjkbgdkligpdaaGreatW10
set_option linter.unusedVariables false
set_option linter.unusedSimpArgs false
set_option maxRecDepth 100000
set_option maxHeartbeats 20000000
namespace Go.Proofs.YtpjkbgdkligpdaaGreat
open Go.RowKit

theorem g_ownsmono {w:World} {B B':Nat} {t:TypeId} {k:Nat} {v:Value} {n:Nat} {l:List Value} (h:w.ownsRow B t k v n l) (hB:B'≤B):w.ownsRow B' t k v n l:=by
 refine⟨h.1,?_⟩
 rcases h.2 with hn | ⟨g,c,cur,e,hb,rest⟩
 ·exact .inl hn
 ·exact .inr ⟨g,c,cur,e,Nat.le_trans hB hb,rest⟩
theorem qov {w w':World} {B:Nat} {t:TypeId} {k:Nat} {v:Value} {n:Nat} {l:List Value} (h:w.ownsRow B t k v n l) (hb:Below w.heap.size w w'):w'.ownsRow B t k v n l:=by
 refine⟨h.1,?_⟩
 rcases h.2 with hn | ⟨g,c,cur,e,hB,hg,rest⟩
 ·exact .inl hn
 ·exact .inr ⟨g,c,cur,e,hB,(hb.block g (Array.getElem?_eq_some_iff.1 hg).1).trans hg,rest⟩
theorem g_ty {w:World} {B:Nat} {e:TypeId} {s:Nat} {q:Addr} {n c k:Nat} {xs:List Value} (h:w.ownsRow B e s (.slice (some q) n c) k xs):∃cur,w.heap[q.block]? = some (.cells cur e):=by
 rcases h.2 with ⟨e1,_⟩ | ⟨g,c1,cur,e1,_,hg,_⟩
 ·simp at e1
 ·simp only[Value.slice.injEq,Option.some.injEq] at e1;obtain⟨rfl,_⟩:=e1;exact⟨cur,hg⟩
theorem g_bel {w w1 w2:World} (h1:Below w.heap.size w w1) (h2:Below w1.heap.size w1 w2):Below w.heap.size w w2:=h1.trans (h2.mono h1.size)
theorem qnu {w w':World} {b o:Nat} {cs:List Value} (h:w.rangeAt b o cs) (hb:Below w.heap.size w w'):w'.rangeAt b o cs:=fun j v hv=>
 (hb.cell (p:=⟨b,o+j,none⟩) (World.block_lt_of_cell? w _ (h j v hv))).trans (h j v hv)

structure GK (α:Type) where
 ty:TypeId
 sty:TypeId
 sz:Nat
 bytes:Nat
 cells:α→Array Value
 zero:α
structure GKok {α:Type} (K:GK α):Prop where
 size:∀x,(K.cells x).size=K.sz
 one:∀x,∀u∈(K.cells x).toList,u.oneCell'=true
 pos:0<K.sz
 und:Tryz.prog.underlying K.sty=some (.slice K.ty)
 info:(Tryz.prog.info? K.ty).map (fun i=>(i.zero,i.size,i.bytes))=some (some (.agg (K.cells K.zero)),K.sz,K.bytes)
 row:∃d,Tryz.prog.underlying K.ty=some d∧d.isRow=true
section
variable {α : Type} {K : GK α}
def GK.at (K:GK α) (ps:List α) (i:Nat):α:=ps.getD i K.zero
def GK.vals (K:GK α) (ps:List α):List Value:=ps.flatMap fun p=>(K.cells p).toList
theorem GKok.len (H:GKok K) (p:α):(K.cells p).toList.length=K.sz:=by rw[Array.length_toList];exact H.size p
theorem GKok.vals_length (H:GKok K) (ps:List α):(K.vals ps).length=ps.length*K.sz:=by
 induction ps with
 |nil=>simp[GK.vals]
 |cons p r ih=>
  have e:K.vals (p :: r)=(K.cells p).toList++K.vals r:=rfl;rw[e,List.length_append,H.len,ih,List.length_cons,Nat.succ_mul];omega
theorem GK.vals_app (K:GK α) (a b:List α):K.vals a++K.vals b=K.vals (a++b):=by simp[GK.vals]
theorem GKok.vals_at (H:GKok K) (ps:List α) (i j:Nat) (h:i<ps.length) (hj:j<K.sz):(K.vals ps)[i*K.sz+j]? = (K.cells (K.at ps i))[j]?:=by
 induction ps generalizing i with
 |nil=>simp at h
 |cons p r ih=>
  have e:K.vals (p :: r)=(K.cells p).toList++K.vals r:=rfl;rw[e];cases i with
  |zero=>
   rw[List.getElem?_append_left (by rw[H.len];omega)];simp[GK.at]
  |succ i=>
   rw[List.getElem?_append_right (by rw[H.len,Nat.succ_mul];omega),H.len,show (i+1)*K.sz+j-K.sz=i*K.sz+j from by rw[Nat.succ_mul];omega,ih i (by simpa using h)];rfl
theorem GKok.vals_set (H:GKok K) (ps:List α) (i j:Nat) (v:Value) (p':α) (h:i<ps.length) (hj:j<K.sz) (hc:(K.cells (K.at ps i)).setIfInBounds j v=K.cells p'):K.vals (ps.set i p')=(K.vals ps).set (i*K.sz+j) v:=by
 induction ps generalizing i with
 |nil=>simp at h
 |cons p r ih=>
  have e:K.vals (p :: r)=(K.cells p).toList++K.vals r:=rfl;cases i with
  |zero=>
   have e2:K.vals ((p :: r).set 0 p')=(K.cells p').toList++K.vals r:=rfl;have e3:(K.cells p').toList=(K.cells p).toList.set j v:=by
    rw[←Array.toList_setIfInBounds];exact congrArg Array.toList hc.symm
   rw[e,e2,e3,Nat.zero_mul,Nat.zero_add,List.set_append_left _ _ (by rw[H.len];exact hj)]
  |succ i=>
   have e2:K.vals ((p :: r).set (i+1) p')=(K.cells p).toList++K.vals (r.set i p'):=rfl;rw[e,e2,ih i (by simpa using h) hc,List.set_append_right _ _ (by rw[H.len,Nat.succ_mul];omega),H.len,show (i+1)*K.sz+j-K.sz=i*K.sz+j from by rw[Nat.succ_mul];omega]
def GK.Rd (K:GK α) (w:World) (ao:Option Addr) (n cap:Nat) (ps:List α):Prop :=
 (ps.length=n∧∀i,i<n→∃b off,ao=some ⟨b,off,none⟩∧w.rangeAt b (off+i*K.sz) (K.cells (K.at ps i)).toList)∧n≤cap∧cap≤maxLen∧(ao=none→cap=0)
theorem GK.Rd.below {w w':World} {ao:Option Addr} {n cap:Nat} {ps:List α} (h:K.Rd w ao n cap ps) (hb:Below w.heap.size w w'):K.Rd w' ao n cap ps:=by
 refine⟨⟨h.1.1,fun i hi=>?_⟩,h.2⟩;obtain⟨b,off,e,hr⟩:=h.1.2 i hi;exact⟨b,off,e,qnu hr hb⟩
theorem GK.Rd.cell (H:GKok K) {w:World} {ao:Option Addr} {n cap:Nat} {ps:List α} (h:K.Rd w ao n cap ps) (i:Nat) (hi:i<n):∃b off,ao=some ⟨b,off,none⟩∧w.rangeAt b (off+i*K.sz) (K.cells (K.at ps i)).toList∧∀j v,(K.cells (K.at ps i))[j]? = some v→w.cell? ⟨b,off+i*K.sz+j,none⟩ = some v:=by
 obtain⟨b,off,e,hr⟩:=h.1.2 i hi;refine⟨b,off,e,hr,fun j v hv=>hr j v ?_⟩;rw[Array.getElem?_toList];exact hv
def GK.Own (K:GK α) (w:World) (B:Nat) (ao:Option Addr) (n cap:Nat) (ps:List α):Prop:=ps.length=n∧w.ownsRow B K.ty K.sz (.slice ao n cap) n (K.vals ps)
theorem GK.Own.len {w:World} {B:Nat} {ao:Option Addr} {n cap:Nat} {ps:List α} (h:K.Own w B ao n cap ps):ps.length=n:=h.1
theorem GK.Own.below {w w':World} {B:Nat} {ao:Option Addr} {n cap:Nat} {ps:List α} (h:K.Own w B ao n cap ps) (hb:Below w.heap.size w w'):K.Own w' B ao n cap ps:=⟨h.1,qov h.2 hb⟩
theorem GK.Own.mono {w:World} {B B':Nat} {ao:Option Addr} {n cap:Nat} {ps:List α} (h:K.Own w B ao n cap ps) (hB:B'≤B):K.Own w B' ao n cap ps:=⟨h.1,g_ownsmono h.2 hB⟩
theorem GK.Own.nil (K:GK α) (w:World) (B:Nat):K.Own w B none 0 0 []:=⟨rfl,World.ownsRow_nil _ _ _ _⟩
theorem GK.Own.lt {w:World} {B:Nat} {a:Addr} {n cap:Nat} {ps:List α} (h:K.Own w B (some a) n cap ps):B≤a.block∧a.block<w.heap.size:=h.2.lt _ rfl
theorem GK.Own.grown {w w':World} {B:Nat} {ao:Option Addr} {n cap:Nat} {ps:List α} {row:Option Nat} (h:K.Own w B ao n cap ps) (hg:w.grownBy w' row) (hne:∀a,ao=some a→some a.block≠row):K.Own w' B ao n cap ps:=by
 refine⟨h.1,h.2.kept hg ?_⟩;cases ao with
 |none=>exact .inl rfl
 |some a=>exact .inr (hne a rfl)
theorem GK.Own.rd (H:GKok K) {w:World} {B:Nat} {ao:Option Addr} {n cap:Nat} {ps:List α} (h:K.Own w B ao n cap ps):K.Rd w ao n cap ps:=by
 obtain⟨hl,h1,h2⟩:=h
 rcases h2 with ⟨e,_⟩ | ⟨g,c,cur,e,hb,hg,hc,hm,hs,ht⟩
 ·simp only[Value.slice.injEq] at e;obtain⟨rfl,rfl,rfl⟩:=e;exact⟨⟨hl,fun i hi=>by omega⟩,Nat.le_refl _,Nat.zero_le _,fun _=>rfl⟩
 ·simp only[Value.slice.injEq] at e;obtain⟨rfl,_,rfl⟩:=e;refine⟨⟨hl,fun i hi=>⟨g,0,rfl,fun j v hv=>?_⟩⟩,hc,hm,fun h=>by simp at h⟩;have own:w.ownsRow B K.ty K.sz (.slice (some ⟨g,0,none⟩) n cap) n (K.vals ps):=⟨h1,.inr ⟨g,cap,cur,rfl,hb,hg,hc,hm,hs,ht⟩⟩;have hj:j<K.sz:=by
   have:=(List.getElem?_eq_some_iff.1 hv).1
   rwa [H.len] at this
  have hlt:i*K.sz+j<n*K.sz:=by
   have:(i+1)*K.sz≤n*K.sz:=Nat.mul_le_mul_right _ hi;rw[Nat.succ_mul] at this;omega
  rw[Nat.zero_add,own.cellAt (i*K.sz+j) hlt,H.vals_at _ i j (by omega) hj];rw[←hv,Array.getElem?_toList]
theorem GK.Own.froz {w:World} {B g n cap:Nat} {ps:List α} (h:K.Own w B (some ⟨g,0,none⟩) n cap ps) (j:Nat):w.frozen? ⟨g,j,none⟩ = false:=h.2.frozenAt j
theorem GK.Own.block {w:World} {B:Nat} {a:Addr} {n cap:Nat} {ps:List α} (h:K.Own w B (some a) n cap ps):∃cur,w.heap[a.block]? = some (.cells cur K.ty):=g_ty h.2
theorem GK.Own.store (H:GKok K) {w:World} {B g n cap:Nat} {ps:List α} (h:K.Own w B (some ⟨g,0,none⟩) n cap ps) (i j:Nat) (v:Value) (p':α) (hi:i<n) (hj:j<K.sz) (hc:(K.cells (K.at ps i)).setIfInBounds j v=K.cells p') :
  K.Own (w.setCell ⟨g,i*K.sz+j,none⟩ v) B (some ⟨g,0,none⟩) n cap (ps.set i p')∧w.grownBy (w.setCell ⟨g,i*K.sz+j,none⟩ v) (some g):=by
 obtain⟨h1,hg⟩:=h.2.stored (i*K.sz+j) v;refine⟨⟨by simpa using h.1,?_⟩,hg⟩;rw[H.vals_set ps i j v p' (by rw[h.1];exact hi) hj hc];exact h1
theorem g_make (H:GKok K) {ops:Array Oper} {rest:List Oper} {o:Oper} {a:Act} {Q:Exit→Act→World→Prop} (w:World) (hgd:o.guard=none) (l c:Operand) (hop:o.op=Op.makeSlice K.sty l c)
  (C:Int) (n:Nat) (hl:a.eval l=.int .i64 C) (hc:a.eval c=.int .i64 C) (hC:C=(n:Int)) (hb:n≤maxLen) (hbb:K.bytes*n≤281474976710656)
  (h:∀w',K.Own w' w.heap.size (some ⟨w.heap.size,0,none⟩) n n (List.replicate n K.zero)→Below w.heap.size w w'→wpList Tryz.prog ops Q rest (a.put o.dst (.slice (some ⟨w.heap.size,0,none⟩) n n)) w') :
  wpList Tryz.prog ops Q (o :: rest) a w:=by
 obtain⟨i0,hi,hz0,hz1,hz2⟩:=info_parts H.info;refine wpList_make_full w hgd l c K.sty hop w.heap.size K.ty i0 (.agg (K.cells K.zero)) K.sz H.und hi hz0 hz1 .i64 .i64 C C n hl hc hC hC (by rw[hz2];exact hbb) hb (Nat.le_refl _) ?_;intro w' hown hg;refine h w' ⟨by simp,?_⟩ ((Below.refl _ _).grown hg (Nat.le_refl _) (fun k hk=>by cases hk));have e:(madeCells (Value.agg (K.cells K.zero)).cells (n*K.sz)).toList=K.vals (List.replicate n K.zero):=by
  apply List.ext_getElem?
  intro i;show (madeCells (K.cells K.zero) (n*K.sz)).toList[i]? = _;have hp:=H.pos
  by_cases hi2:i<n*K.sz
  ·have hdm:=Nat.div_add_mod i K.sz;have hm:=Nat.mod_lt i hp;have hk:i / K.sz<n:=Nat.div_lt_of_lt_mul (by rw[Nat.mul_comm];exact hi2);have hv:=H.vals_at (List.replicate n K.zero) (i / K.sz) (i%K.sz) (by simpa using hk) hm;have hz:K.at (List.replicate n K.zero) (i / K.sz)=K.zero:=by simp[GK.at,List.getD_eq_getElem?_getD,hk]
   rw[hz,Nat.mul_comm,hdm] at hv;rw[hv];have hs:=H.size K.zero;have hm':i%K.sz<(K.cells K.zero).size:=by rw[hs];exact hm
   simp[madeCells,hi2,hs,Array.getElem?_eq_getElem hm'];exact getElem!_pos (K.cells K.zero) _ hm'
  ·have h1:(madeCells (K.cells K.zero) (n*K.sz)).toList.length=n*K.sz:=by simp[madeCells]
   have h2:(K.vals (List.replicate n K.zero)).length=n*K.sz:=by rw[H.vals_length];simp
   rw[List.getElem?_eq_none (by rw[h1];omega),List.getElem?_eq_none (by rw[h2];omega)]
 rw[e] at hown;exact hown
theorem g_value {P:Program} {ops:Array Oper} {rest:List Oper} {o:Oper} {a:Act} {w w':World} {Q:Exit→Act→World→Prop} {v:Value} (hw:Region.wanted o (yielded ops a.tmps)=true) (hx:(execOp a.eval o).run P w=.ok (.value v) w') (h:wpList P ops Q rest (a.put o.dst v) w'):wpList P ops Q (o :: rest) a w:=by
 unfold wpList;rw[if_pos hw];refine Or.inl ?_;unfold Oper.wp;rw[hx];exact h
theorem g_load (H:GKok K) {ops:Array Oper} {rest:List Oper} {o:Oper} {a:Act} {w:World} {Q:Exit→Act→World→Prop} {b i:Nat} {p:α} (hB:w.rangeAt b i (K.cells p).toList) (hw:Region.wanted o (yielded ops a.tmps)=true) (x:Operand) (ho:o.op=.load K.ty x)
  (hx:a.eval x=.pointer (some ⟨b,i,none⟩))
  (h:wpList Tryz.prog ops Q rest (a.put o.dst (.agg (K.cells p))) w):wpList Tryz.prog ops Q (o :: rest) a w:=by
 obtain⟨d,hd,hr⟩:=H.row;obtain⟨i0,hi,hz0,hz1,hz2⟩:=info_parts H.info;refine g_value hw (w':=w) (v:=.agg (K.cells p)) ?_ h;have e:=run_loadVar_mid (P:=Tryz.prog) w b i K.ty (K.cells p).toList _ hB hd hr (by rw[H.len,hi];simp[hz1]);rw[Array.toArray_toList] at e;simp only[execOp,ho,hx,Instr.loadAt,Instr.sureAddr,Sem.run_bind,Sem.run_pure,Result.andThen_ok,e]
end

theorem infoPa:(Tryz.prog.info? 32).map (fun i=>(i.zero,i.size,i.bytes))=some (some (.agg Pk.zero.cells),25,320):=by kernel_rfl
def pvals (ps:List Pk):List Value:=ps.flatMap fun p=>p.cells.toList
theorem qci (p:Pk):p.cells.toList.length=25:=by rw[Array.length_toList];exact Pk.csize p
theorem qmj (a:List Pk):∀u∈pvals a,u.oneCell'=true:=by
 intro u hu;simp only[pvals,List.mem_flatMap] at hu;obtain⟨p,_,hp⟩:=hu;unfold Pk.cells at hp;simp only[List.mem_cons,List.not_mem_nil,or_false] at hp
 rcases hp with h | h | h | h | h | h | h | h | h | h | h | h | h | h | h | h | h | h | h | h | h | h | h | h | h<;>(rw[h];rfl)
theorem pvals_at (ps:List Pk) (i j:Nat) (h:i<ps.length) (hj:j<25):(pvals ps)[i*25+j]? = (ps.getD i Pk.zero).cells[j]?:=by
 induction ps generalizing i with
 |nil=>simp at h
 |cons p r ih=>
  have e:pvals (p :: r)=p.cells.toList++pvals r:=rfl;rw[e];cases i with
  |zero=>
   rw[List.getElem?_append_left (by rw[qci];omega)];simp
  |succ i=>
   rw[List.getElem?_append_right (by rw[qci];omega),qci,show (i+1)*25+j-25=i*25+j from by omega,ih i (by simpa using h)];rfl
def POwnR (w:World) (B:Nat) (ao:Option Addr) (n cap:Nat) (ps:List Pk):Prop:=ps.length=n∧w.ownsRow B 32 25 (.slice ao n cap) n (pvals ps)
theorem POwnR.below {w w':World} {B:Nat} {ao:Option Addr} {n cap:Nat} {ps:List Pk} (h:POwnR w B ao n cap ps) (hb:Below w.heap.size w w'):POwnR w' B ao n cap ps:=by
 refine⟨h.1,h.2.1,?_⟩
 rcases h.2.2 with hn | ⟨g,c,cur,e,hB,hg,rest⟩
 ·exact .inl hn
 ·exact .inr ⟨g,c,cur,e,hB,(hb.block g (Array.getElem?_eq_some_iff.1 hg).1).trans hg,rest⟩
theorem POwnR.nil (w:World) (B:Nat):POwnR w B none 0 0 []:=⟨rfl,World.ownsRow_nil _ _ _ _⟩

abbrev PL:=List (Pk×Pd)
def pks (l:PL):List Pk:=l.map Prod.fst
def pvs (l:PL):List Pv:=l.map fun x=>pv x.1 x.2
def pk (l:PL) (i:Nat):Pk:=(l.getD i (Pk.zero,dnil)).1
def pd (l:PL) (i:Nat):Pd:=(l.getD i (Pk.zero,dnil)).2
theorem qez {l:PL} {i:Nat} (h:i<l.length):(pk l i,pd l i)∈l:=by
 have e:(pk l i,pd l i)=l[i]'h:=by simp[pk,pd,List.getD_eq_getElem?_getD,List.getElem?_eq_getElem h]
 rw[e];exact List.getElem_mem h
theorem qcx (l:PL):(pks l).length=l.length:=by simp[pks]
theorem qmk (l:PL):(pvs l).length=l.length:=by simp[pvs]
theorem pvs_app (a b:PL):pvs (a++b)=pvs a++pvs b:=by simp[pvs]
theorem pks_at (l:PL) (i:Nat):(pks l).getD i Pk.zero=pk l i:=by
 simp only[pks,pk,List.getD_eq_getElem?_getD,List.getElem?_map];cases l[i]?<;>rfl
theorem pvs_at (l:PL) (i:Nat) (h:i<l.length):(pvs l)[i]? = some (pv (pk l i) (pd l i)):=by
 simp[pvs,pk,pd,List.getD_eq_getElem?_getD,List.getElem?_eq_getElem h]
theorem pvs_take (l:PL) (i:Nat) (h:i<l.length):pvs (l.take (i+1))=pvs (l.take i)++[pv (pk l i) (pd l i)]:=by
 rw[List.take_succ_eq_append_getElem h,pvs_app];simp[pvs,pk,pd,List.getD_eq_getElem?_getD,List.getElem?_eq_getElem h]
theorem qgz {w w':World} {b o:Nat} {cs:List Value} (h:w.rangeAt b o cs) (hb:Below w.heap.size w w'):w'.rangeAt b o cs:=fun j v hv=>
 (hb.cell (p:=⟨b,o+j,none⟩) (World.block_lt_of_cell? w _ (h j v hv))).trans (h j v hv)
def QRd (w:World) (ao:Option Addr) (n cap:Nat) (l:PL):Prop :=
 (l.length=n∧∀i,i<n→∃b off,ao=some ⟨b,off,none⟩∧w.rangeAt b (off+i*25) (pk l i).cells.toList)∧(∀x∈l,PRd w x.1 x.2)∧n≤cap∧cap≤maxLen∧(ao=none→cap=0)
theorem QRd.below {w w':World} {ao:Option Addr} {n cap:Nat} {l:PL} (h:QRd w ao n cap l) (hb:Below w.heap.size w w'):QRd w' ao n cap l:=by
 refine⟨⟨h.1.1,fun i hi=>?_⟩,fun x hx=>(h.2.1 x hx).below hb,h.2.2⟩;obtain⟨b,off,e,hr⟩:=h.1.2 i hi;exact⟨b,off,e,qgz hr hb⟩
theorem POwnR.rd {w:World} {B:Nat} {ao:Option Addr} {n cap:Nat} {l:PL} (h:POwnR w B ao n cap (pks l)) (hp:∀x∈l,PRd w x.1 x.2):QRd w ao n cap l:=by
 obtain⟨hl,h1,h2⟩:=h;rw[qcx] at hl
 rcases h2 with ⟨e,_⟩ | ⟨g,c,cur,e,hb,hg,hc,hm,hs,ht⟩
 ·simp only[Value.slice.injEq] at e;obtain⟨rfl,rfl,rfl⟩:=e;exact⟨⟨hl,fun i hi=>by omega⟩,hp,Nat.le_refl _,Nat.zero_le _,fun _=>rfl⟩
 ·simp only[Value.slice.injEq] at e;obtain⟨rfl,_,rfl⟩:=e;refine⟨⟨hl,fun i hi=>⟨g,0,rfl,fun j v hv=>?_⟩⟩,hp,hc,hm,fun h=>by simp at h⟩;have own:w.ownsRow B 32 25 (.slice (some ⟨g,0,none⟩) n cap) n (pvals (pks l)):=⟨h1,.inr ⟨g,cap,cur,rfl,hb,hg,hc,hm,hs,ht⟩⟩;have hj:j<25:=by
   have:=(List.getElem?_eq_some_iff.1 hv).1
   rwa [qci] at this
  rw[Nat.zero_add,own.cellAt (i*25+j) (by omega),pvals_at _ i j (by rw[qcx];omega) hj,pks_at];rw[←hv];simp
structure QOwn (w:World) (B:Nat) (ao:Option Addr) (n cap:Nat) (l:PL):Prop where
 row:POwnR w B ao n cap (pks l)
 own:∀x∈l,POwn w B x.1 x.2
 dis:l.Pairwise fun x y=>∀k,x.1.has k→¬y.1.has k
theorem QOwn.rd {w:World} {B:Nat} {ao:Option Addr} {n cap:Nat} {l:PL} (h:QOwn w B ao n cap l):QRd w ao n cap l:=h.row.rd fun x hx=>(h.own x hx).rd
theorem QOwn.len {w:World} {B:Nat} {ao:Option Addr} {n cap:Nat} {l:PL} (h:QOwn w B ao n cap l):l.length=n:=by
 rw[←h.row.1,qcx]
theorem QOwn.nil (w:World) (B:Nat):QOwn w B none 0 0 []:=⟨POwnR.nil w B,fun x h=>(by cases h),List.Pairwise.nil⟩
theorem QOwn.below {w w':World} {B:Nat} {ao:Option Addr} {n cap:Nat} {l:PL} (h:QOwn w B ao n cap l) (hb:Below w.heap.size w w'):QOwn w' B ao n cap l :=
 ⟨h.row.below hb,fun x hx=>(h.own x hx).below hb,h.dis⟩
theorem QOwn.mono {w:World} {B B':Nat} {ao:Option Addr} {n cap:Nat} {l:PL} (h:QOwn w B ao n cap l) (hB:B'≤B):QOwn w B' ao n cap l :=
 ⟨⟨h.row.1,qbc h.row.2 hB⟩,fun x hx=>(h.own x hx).low hB,h.dis⟩
theorem POwnR.lt {w:World} {B:Nat} {ao:Option Addr} {n cap:Nat} {ps:List Pk} (h:POwnR w B ao n cap ps) {a:Addr} (e:ao=some a):B≤a.block∧a.block<w.heap.size:=by
 subst e;exact h.2.lt _ rfl
theorem POwnR.grown {w w':World} {B:Nat} {ao:Option Addr} {n cap:Nat} {ps:List Pk} {row:Option Nat} (h:POwnR w B ao n cap ps) (hg:w.grownBy w' row) (hne:∀a,ao=some a→some a.block≠row):POwnR w' B ao n cap ps:=by
 refine⟨h.1,h.2.kept hg ?_⟩;cases ao with
 |none=>exact .inl rfl
 |some a=>exact .inr (hne a rfl)
theorem QOwn.cur {w w':World} {B g:Nat} {ao:Option Addr} {n cap:Nat} {l:PL} (h:QOwn w B ao n cap l) (hB:g<B) (hg:w.grownBy w' (some g)):QOwn w' B ao n cap l :=
 ⟨h.row.grown hg (fun a e he=>by cases he;have:=(h.row.lt e).1;omega),fun x hx=>(h.own x hx).grown hg (fun k e hk=>by cases e;have:=((h.own x hx).lt hk).1;omega),h.dis⟩
theorem POwn.neR {w:World} {B:Nat} {p:Pk} {d:Pd} {b:Nat} {cs:Array Value} (h:POwn w B p d) (hb:w.heap[b]? = some (.cells cs 32)):¬p.has b:=by
 rintro ⟨a,ha,hab⟩;simp only[List.mem_cons,List.not_mem_nil,or_false] at ha
 rcases ha with ha | ha | ha | ha | ha | ha
 ·have hh:=h.bod.2;rw[←ha] at hh;obtain⟨cur,hc⟩:=qhl hh;exact ty_ne hc hb (by decide) hab
 ·have hh:=h.wb.2;rw[←ha] at hh;obtain⟨cur,hc⟩:=qhl hh;exact ty_ne hc hb (by decide) hab
 ·have hh:=h.pa.2;rw[←ha] at hh;obtain⟨cur,hc⟩:=qhl hh;exact ty_ne hc hb (by decide) hab
 ·have hh:=h.wan.2;rw[←ha] at hh;obtain⟨cur,hc⟩:=qhl hh;exact ty_ne hc hb (by decide) hab
 ·have hh:=h.nam.2;rw[←ha] at hh;obtain⟨cur,hc⟩:=qhl hh;exact ty_ne hc hb (by decide) hab
 ·have hh:=h.cds.2;rw[←ha] at hh;obtain⟨cur,hc⟩:=qhl hh;exact ty_ne hc hb (by decide) hab
theorem POwn.rowed {w w':World} {B B2:Nat} {p:Pk} {d:Pd} {ao:Option Addr} {n cap:Nat} {ps:List Pk} (h:POwn w B p d) (hR:POwnR w B2 ao n cap ps) (hg:w.grownBy w' (Value.slice ao n cap).ownBlock):POwn w' B p d:=by
 refine h.grown hg fun k e=>?_
 cases ao with
 |none=>simp[Value.ownBlock] at e
 |some a=>
  obtain rfl:a.block=k:=by simpa[Value.ownBlock] using e
  obtain⟨cur,hc⟩:=qhl hR.2;exact h.neR hc
theorem load_mid {ops:Array Oper} {rest:List Oper} {o:Oper} {a:Act} {w:World} {Q:Exit→Act→World→Prop} {b i:Nat} {p:Pk} (hB:w.rangeAt b i p.cells.toList) (hw:Region.wanted o (yielded ops a.tmps)=true) (x:Operand) (ho:o.op=.load 32 x)
  (hx:a.eval x=.pointer (some ⟨b,i,none⟩))
  (h:wpList Tryz.prog ops Q rest (a.put o.dst (.agg p.cells)) w):wpList Tryz.prog ops Q (o :: rest) a w:=by
 refine qbx hw (w':=w) (v:=.agg p.cells) ?_ h;have e:=run_loadVar_mid (P:=Tryz.prog) w b i 32 p.cells.toList _ hB Tryz.underlying32 rfl (infoP.trans (by rw[qci]));rw[Array.toArray_toList] at e;simp only[execOp,ho,hx,Instr.loadAt,Instr.sureAddr,Sem.run_bind,Sem.run_pure,Result.andThen_ok,e]
theorem st_loadM {o:Oper} {a:Act} {w:World} {K:Act→World→Prop} {Q:Exit→Act→World→Prop} {b i:Nat} {p:Pk} (hB:w.rangeAt b i p.cells.toList) (x:Operand) (ho:o.op=.load 32 x)
  (hx:a.eval x=.pointer (some ⟨b,i,none⟩)) (h:K (a.put o.dst (.agg p.cells)) w):Oper.wp Tryz.prog o a w K Q:=by
 have e:=run_loadVar_mid (P:=Tryz.prog) w b i 32 p.cells.toList _ hB Tryz.underlying32 rfl (infoP.trans (by rw[qci]));rw[Array.toArray_toList] at e;exact qad (w':=w) (v:=.agg p.cells) (by simp only[execOp,ho,hx,Instr.loadAt,Instr.sureAddr,Sem.run_bind,Sem.run_pure,Result.andThen_ok,e]) h
theorem idx_p (b off n c k:Nat) (h:k<n) (u:World):(Instr.indexAt 42 (.slice (some ⟨b,off,none⟩) n c) (.int .i64 (k:Int))).run Tryz.prog u=.ok (.pointer (some ⟨b,off+k*25,none⟩)) u:=by
 have h1:(k:Int)<n:=by omega
 have h2:(sizeOf (Tryz.prog.elem 42)).run Tryz.prog u=.ok 25 u:=by kernel_rfl
 simp[Instr.indexAt,Instr.index,go_sem,Tryz.underlying42,h1,h2,h,Addr.add]

structure Span (lo hi:Nat) (w w':World):Prop where
 os:w'.os=w.os
 tape:w'.tape=w.tape
 output:w'.output=w.output
 size:w.heap.size≤w'.heap.size
 low:∀k,k<lo→w'.heap[k]? = w.heap[k]?
 high:∀k,hi≤k→k<w.heap.size→w'.heap[k]? = w.heap[k]?
theorem Span.refl (lo hi:Nat) (w:World):Span lo hi w w:=⟨rfl,rfl,rfl,Nat.le_refl _,fun _ _=>rfl,fun _ _ _=>rfl⟩
theorem Span.new {lo hi:Nat} {w w1 w2:World} (h:Span lo hi w w1) (hb:Below w1.heap.size w1 w2) (hlo:lo≤w.heap.size):Span lo hi w w2 :=
 ⟨hb.os.trans h.os,hb.tape.trans h.tape,hb.output.trans h.output,Nat.le_trans h.size hb.size,fun k hk=>(hb.block k (by have:=h.size;omega)).trans (h.low k hk),fun k h1 h2=>(hb.block k (by have:=h.size;omega)).trans (h.high k h1 h2)⟩
theorem Span.row {lo hi:Nat} {w w1 w2:World} {r:Option Nat} (h:Span lo hi w w1) (hg:w1.grownBy w2 r) (hlo:lo≤w.heap.size) (hr:∀k,r=some k→lo≤k∧k<hi):Span lo hi w w2 :=
 ⟨hg.os.trans h.os,hg.tape.trans h.tape,hg.output.trans h.output,Nat.le_trans h.size hg.size,
  fun k hk=>(hg.block k (by have:=h.size;omega) (fun e=>by have:=(hr k e.symm).1;omega)).trans (h.low k hk),
  fun k h1 h2=>(hg.block k (by have:=h.size;omega) (fun e=>by have:=(hr k e.symm).2;omega)).trans (h.high k h1 h2)⟩
theorem Span.below {lo hi:Nat} {w w':World} (h:Span lo hi w w'):Below lo w w':=⟨h.os,h.tape,h.output,h.size,h.low⟩
theorem span_owns {lo hi:Nat} {w w':World} {B:Nat} {t:TypeId} {k:Nat} {v:Value} {n:Nat} {l:List Value} (s:Span lo hi w w') (h:w.ownsRow B t k v n l) (hB:hi≤B):w'.ownsRow B t k v n l:=by
 refine⟨h.1,?_⟩
 rcases h.2 with hn | ⟨g,c,cur,e,hb,hg,rest⟩
 ·exact .inl hn
 ·exact .inr ⟨g,c,cur,e,hb,(s.high g (by omega) (Array.getElem?_eq_some_iff.1 hg).1).trans hg,rest⟩

theorem pvals_set (ps:List Pk) (i j:Nat) (v:Value) (p':Pk) (h:i<ps.length) (hj:j<25) (hc:(ps.getD i Pk.zero).cells.setIfInBounds j v=p'.cells):pvals (ps.set i p')=(pvals ps).set (i*25+j) v:=by
 induction ps generalizing i with
 |nil=>simp at h
 |cons p r ih=>
  have e:pvals (p :: r)=p.cells.toList++pvals r:=rfl;cases i with
  |zero=>
   have e2:pvals ((p :: r).set 0 p')=p'.cells.toList++pvals r:=rfl;have e3:p'.cells.toList=p.cells.toList.set j v:=by
    rw[←Array.toList_setIfInBounds];exact congrArg Array.toList hc.symm
   rw[e,e2,e3,Nat.zero_mul,Nat.zero_add,List.set_append_left _ _ (by rw[qci];exact hj)]
  |succ i=>
   have e2:pvals ((p :: r).set (i+1) p')=p.cells.toList++pvals (r.set i p'):=rfl;rw[e,e2,ih i (by simpa using h) hc,List.set_append_right _ _ (by rw[qci];omega),qci,show (i+1)*25+j-25=i*25+j from by omega]
theorem qlc (l:PL) (i:Nat) (x:Pk×Pd):pks (l.set i x)=(pks l).set i x.1:=by simp[pks,List.map_set]
theorem pw_set {l:PL} {i:Nat} {x x':Pk×Pd} {R:Pk×Pd→Pk×Pd→Prop} (h:(l.set i x).Pairwise R) (h1:∀z,R z x→R z x') (h2:∀z,R x z→R x' z):(l.set i x').Pairwise R:=by
 rw[List.pairwise_iff_getElem] at h ⊢;intro a b ha hb hab;have ha':a<(l.set i x).length:=by simpa using ha
 have hb':b<(l.set i x).length:=by simpa using hb
 have:=h a b ha' hb' hab;simp only[List.getElem_set] at this ⊢
 split at this<;>split at this<;>simp_all
structure MQ (w y:World) (B hi g n c:Nat) (l:PL) (i:Nat) (p:Pk) (d:Pd):Prop where
 own:QOwn y B (some ⟨g,0,none⟩) n c (l.set i (p,d))
 blw:Span B hi w y
 lt:i<l.length
 hB:B≤w.heap.size
 hgh:g<hi∧∀k,p.has k→k<hi
section
variable {w y y' : World} {B hi g n c : Nat} {l : PL} {i : Nat} {p p' : Pk} {d d' : Pd}
theorem MQ.len (s:MQ w y B hi g n c l i p d):l.length=n:=by
 have:=s.own.len
 simpa using this
theorem MQ.at (s:MQ w y B hi g n c l i p d):(pks (l.set i (p,d))).getD i Pk.zero=p:=by
 rw[qlc];simp[List.getD_eq_getElem?_getD,List.getElem?_set,qcx,s.lt]
theorem MQ.cell (s:MQ w y B hi g n c l i p d) (j:Nat) (hj:j<25):y.cell? ⟨g,i*25+j,none⟩ = p.cells[j]?:=by
 have hl:=s.len;have hlt:=s.lt;rw[s.own.row.2.cellAt (i*25+j) (by omega),pvals_at _ i j (by rw[qcx];simpa using hlt) hj,s.at]
theorem MQ.froz (s:MQ w y B hi g n c l i p d) (j:Nat):y.frozen? ⟨g,j,none⟩ = false:=s.own.row.2.frozenAt j
theorem MQ.pown (s:MQ w y B hi g n c l i p d):POwn y B p d:=s.own.own (p,d) (List.mem_set s.lt _)
theorem MQ.new (s:MQ w y B hi g n c l i p d) (hb:Below y.heap.size y y'):MQ w y' B hi g n c l i p d :=
 ⟨s.own.below hb,s.blw.new hb s.hB,s.lt,s.hB,s.hgh⟩
theorem MQ.others (s:MQ w y B hi g n c l i p d) (z:Pk×Pd) (j:Nat) (hj:j≠i) (hz:l[j]? = some z):POwn y B z.1 z.2∧∀k,p.has k→¬z.1.has k:=by
 have hjl:j<l.length:=(List.getElem?_eq_some_iff.1 hz).1;have hz':l[j]'hjl=z:=(List.getElem?_eq_some_iff.1 hz).2;have hj':j<(l.set i (p,d)).length:=by simpa using hjl
 have hi':i<(l.set i (p,d)).length:=by simpa using s.lt
 have e1:(l.set i (p,d))[j]'hj'=z:=by rw[List.getElem_set,if_neg (fun e=>hj e.symm),hz']
 have e2:(l.set i (p,d))[i]'hi'=(p,d):=by rw[List.getElem_set,if_pos rfl]
 refine⟨s.own.own z (by rw[←e1];exact List.getElem_mem _),fun k h1 h2=>?_⟩;have hd:=List.pairwise_iff_getElem.1 s.own.dis
 rcases Nat.lt_or_gt_of_ne hj with h | h
 ·have:=hd j i hj' hi' h;rw[e1,e2] at this;exact this k h2 h1
 ·have:=hd i j hi' hj' h;rw[e1,e2] at this;exact this k h1 h2
theorem MQ.turn (s:MQ w y B hi g n c l i p d) (hrow:POwnR y' B (some ⟨g,0,none⟩) n c (pks (l.set i (p',d')))) (hp:POwn y' B p' d') (hz:∀z j,j≠i→l[j]? = some z→POwn y' B z.1 z.2) (hh:∀k,p'.has k ↔ p.has k) (hb:Span B hi w y'):MQ w y' B hi g n c l i p' d':=by
 refine⟨⟨hrow,fun x hx=>?_,pw_set s.own.dis (fun z h k h1 h2=>h k h1 ((hh k).1 h2)) (fun z h k h1 h2=>h k ((hh k).1 h1) h2)⟩,hb,s.lt,s.hB,s.hgh.1,fun k hk=>s.hgh.2 k ((hh k).1 hk)⟩;obtain⟨j,hj,e⟩:=List.mem_iff_getElem.1 hx;have hjl:j<l.length:=by simpa using hj
 by_cases hji:j=i
 ·subst hji;rw[List.getElem_set,if_pos rfl] at e;rw[←e];exact hp
 ·rw[List.getElem_set,if_neg (fun e=>hji e.symm)] at e;exact hz x j hji (by rw[List.getElem?_eq_getElem hjl,e])
theorem MQ.store (s:MQ w y B hi g n c l i p d) (j:Nat) (v:Value) (p':Pk) (hj:j<25) (hc:p.cells.setIfInBounds j v=p'.cells) (hh:p'.bod=p.bod∧p'.wb=p.wb∧p'.pa=p.pa∧p'.wan=p.wan∧p'.nam=p.nam∧p'.cds=p.cds):MQ w (y.setCell ⟨g,i*25+j,none⟩ v) B hi g n c l i p' d:=by
 obtain⟨h1,hg⟩:=s.own.row.2.stored (i*25+j) v;obtain⟨q1,q2,q3,q4,q5,q6⟩:=hh;have hlt:=s.lt;obtain⟨cur,hcur⟩:=qhl s.own.row.2;have hkeep:∀(x:Pk) (dx:Pd),POwn y B x dx→POwn (y.setCell ⟨g,i*25+j,none⟩ v) B x dx:=fun x dx h=>h.grown hg (fun k e=>by cases e;exact h.neR hcur)
 have hp:=hkeep p d s.pown;refine s.turn ⟨?_,?_⟩ ?_ (fun z j hj hz=>hkeep _ _ (s.others z j hj hz).1) (fun k=>by unfold Pk.has;rw[q1,q2,q3,q4,q5,q6]) (s.blw.row hg s.hB fun k e=>by cases e;exact⟨(s.own.row.lt rfl).1,s.hgh.1⟩)
 ·have:=s.own.row.1;rw[qcx] at this ⊢
  simpa using this
 ·have e:pvals (pks (l.set i (p',d)))=(pvals (pks (l.set i (p,d)))).set (i*25+j) v:=by
   have e1:pks (l.set i (p',d))=(pks (l.set i (p,d))).set i p':=by rw[qlc,qlc,List.set_set]
   rw[e1];exact pvals_set _ i j v p' (by rw[qcx];simpa using hlt) hj (by rw[s.at];exact hc)
  rw[e];exact h1
 ·obtain⟨a1,a2,a3,a4,a5,a6,a7⟩:=hp;exact⟨by rw[q1];exact a1,by rw[q2];exact a2,by rw[q3];exact a3,by rw[q4];exact a4,by rw[q5];exact a5,by rw[q6];exact a6,by rw[q1,q2,q3,q4,q5,q6];exact a7⟩
theorem MQ.lst (s:MQ w y B hi g n c l i p d) {r:Option Nat} (hg:y.grownBy y' r) (hr:∀k,r=some k→p.has k) (hp:POwn y' B p d'):MQ w y' B hi g n c l i p d':=by
 obtain⟨cur,hcur⟩:=qhl s.own.row.2;have hne:∀k,r=some k→k≠g:=fun k e e2=>s.pown.neR hcur (by rw[←e2];exact hr k e)
 have hrow:=s.own.row.grown hg (fun a e he=>by cases e;exact hne _ he.symm rfl);refine s.turn ?_ hp (fun z j hj hz=>?_) (fun k=>Iff.rfl) (s.blw.row hg s.hB fun k e=>⟨(s.pown.lt (hr k e)).1,s.hgh.2 k (hr k e)⟩)
 ·rw[qlc] at hrow ⊢;exact hrow
 ·obtain⟨h1,h2⟩:=s.others z j hj hz;exact h1.grown hg (fun k e=>h2 k (hr k e))
end
