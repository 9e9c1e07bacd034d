/- Lemmas. -/
import Derived.Deep.MidRow
import Derived.Test.YtobgmpaalnpdcaaGreatDoorV44
import Derived.Test.YtobgmpaalnpdcaaGreatDoorV39
import Derived.Test.YtobgmpaalnpdcaaGreatDoorV01
set_option linter.unusedVariables false
set_option linter.unusedSimpArgs false
set_option maxRecDepth 100000
set_option maxHeartbeats 20000000
namespace Go.Proofs.YtobgmpaalnpdcaaGreatDoor
open Go.RowKit

theorem infoPa:(Tryz.prog.info? 28).map (fun i=>(i.zero,i.size,i.bytes))=some (some (.agg Pk.zero.cells),25,320):=by kernel_rfl
def pvals (ps:List Pk):List Value:=ps.flatMap fun p=>p.cells.toList
theorem qek (p:Pk):p.cells.toList.length=25:=by rw[Array.length_toList];exact Pk.csize p
theorem qmi (ps:List Pk):(pvals ps).length=ps.length*25:=by
 induction ps with
 |nil=>rfl
 |cons p r ih=>
  have e:pvals (p :: r)=p.cells.toList++pvals r:=rfl;rw[e,List.length_append,qek,ih,List.length_cons];omega
theorem pvals_app (a b:List Pk):pvals a++pvals b=pvals (a++b):=by simp[pvals]
theorem pvals_one1 (a:List Pk):∀u∈pvals a,u.oneCell'=true:=by
 intro u hu;simp only[pvals,List.mem_flatMap] at hu;obtain⟨p,_,hp⟩:=hu;unfold Pk.cells at hp;simp only[List.mem_cons,List.not_mem_nil,or_false] at hp
 rcases hp with h | h | h | h | h | h | h | h | h | h | h | h | h | h | h | h | h | h | h | h | h | h | h | h | h<;>(rw[h];rfl)
theorem pvals_at (ps:List Pk) (i j:Nat) (h:i<ps.length) (hj:j<25):(pvals ps)[i*25+j]? = (ps.getD i Pk.zero).cells[j]?:=by
 induction ps generalizing i with
 |nil=>simp at h
 |cons p r ih=>
  have e:pvals (p :: r)=p.cells.toList++pvals r:=rfl;rw[e];cases i with
  |zero=>
   rw[List.getElem?_append_left (by rw[qek];omega)];simp
  |succ i=>
   rw[List.getElem?_append_right (by rw[qek];omega),qek,show (i+1)*25+j-25=i*25+j from by omega,ih i (by simpa using h)];rfl
def POwnR (w:World) (B:Nat) (ao:Option Addr) (n cap:Nat) (ps:List Pk):Prop:=ps.length=n∧w.ownsRow B 28 25 (.slice ao n cap) n (pvals ps)
theorem prow_open {w:World} {B:Nat} {v:Value} {n:Nat} {zs:List Pk} (hl:zs.length=n) (h:w.ownsRow B 28 25 v n (pvals zs)):∃ao cap,v=.slice ao n cap∧POwnR w B ao n cap zs:=by
 rcases h.2 with ⟨rfl,rfl⟩ | ⟨g,c,cur,rfl,_⟩
 ·exact⟨none,0,rfl,hl,h⟩
 ·exact⟨_,_,rfl,hl,h⟩
theorem POwnR.below {w w':World} {B:Nat} {ao:Option Addr} {n cap:Nat} {ps:List Pk} (h:POwnR w B ao n cap ps) (hb:Below w.heap.size w w'):POwnR w' B ao n cap ps:=by
 refine⟨h.1,h.2.1,?_⟩
 rcases h.2.2 with hn | ⟨g,c,cur,e,hB,hg,rest⟩
 ·exact .inl hn
 ·exact .inr ⟨g,c,cur,e,hB,(hb.block g (Array.getElem?_eq_some_iff.1 hg).1).trans hg,rest⟩
theorem POwnR.nil (w:World) (B:Nat):POwnR w B none 0 0 []:=⟨rfl,World.ownsRow_nil _ _ _ _⟩
theorem w_papp {ops:Array Oper} {rest:List Oper} {o:Oper} {a:Act} {Q:Exit→Act→World→Prop} (w:World) (hgd:o.guard=none) (s x:Operand)
  (ho:o.op=.call { callee:=.builtin .append,args:=#[s,x],argTypes:=#[44,44] })
  (B:Nat) (ao:Option Addr) (n cap:Nat) (zs:List Pk) (hs:a.eval s=.slice ao n cap) (hown:POwnR w B ao n cap zs)
  (ad:Nat) (u:Pk) (hx:a.eval x=.slice (some ⟨ad,0,none⟩) 1 1) (hc:Blk w ad u) (hb:n<10737418240) (hB:B≤w.heap.size)
  (h:∀ao' cap' w',POwnR w' B ao' (n+1) cap' (zs++[u])→w.grownBy w' (Value.slice ao n cap).ownBlock→wpList Tryz.prog ops Q rest (a.put o.dst (.slice ao' (n+1) cap')) w') :
  wpList Tryz.prog ops Q (o :: rest) a w:=by
 obtain⟨i0,hi,hz0,hz1,hz2⟩:=info_parts infoPa;have hlen:(zs++[u]).length=n+1:=by rw[List.length_append,hown.1];rfl
 refine wpList_append_own w hgd s x 44 ho B 28 i0 (.agg Pk.zero.cells) 25 320 Tryz.underlying44 hi hz0 hz1 hz2 rfl (by decide) (.slice ao n cap) n (pvals zs) hs hown.2 ⟨ad,0,none⟩ 1 1 (pvals [u]) hx (qmi [u]) ?_ (pvals_one1 [u]) (by unfold maxLen;omega) (by omega) hB ?_
 ·intro j v hv;have hj:j<25:=by
   have:=(List.getElem?_eq_some_iff.1 hv).1;rw[qmi] at this
   simpa using this
  have e:=pvals_at [u] 0 j (by simp) hj;rw[Nat.zero_mul,Nat.zero_add] at e;rw[e] at hv;rw[Addr.add_lit,Nat.zero_add,qcl hc]
  simpa using hv
 ·intro v' w' hv hg _;rw[pvals_app] at hv;obtain⟨ao',cap',rfl,hown'⟩:=prow_open hlen hv;exact h ao' cap' w' hown' hg

abbrev PL:=List (Pk×Pd)
def pks (l:PL):List Pk:=l.map Prod.fst
def pvs (l:PL):List Pv:=l.map fun x=>pv x.1 x.2
def pk (l:PL) (i:Nat):Pk:=(l.getD i (Pk.zero,dnil)).1
def pd (l:PL) (i:Nat):Pd:=(l.getD i (Pk.zero,dnil)).2
theorem pk_mem {l:PL} {i:Nat} (h:i<l.length):(pk l i,pd l i)∈l:=by
 have e:(pk l i,pd l i)=l[i]'h:=by simp[pk,pd,List.getD_eq_getElem?_getD,List.getElem?_eq_getElem h]
 rw[e];exact List.getElem_mem h
theorem qls (l:PL):(pks l).length=l.length:=by simp[pks]
theorem pvs_length (l:PL):(pvs l).length=l.length:=by simp[pvs]
theorem pks_app (a b:PL):pks (a++b)=pks a++pks b:=by simp[pks]
theorem qud (a b:PL):pvs (a++b)=pvs a++pvs b:=by simp[pvs]
theorem pks_at (l:PL) (i:Nat):(pks l).getD i Pk.zero=pk l i:=by
 simp only[pks,pk,List.getD_eq_getElem?_getD,List.getElem?_map];cases l[i]?<;>rfl
theorem pvs_at (l:PL) (i:Nat) (h:i<l.length):(pvs l)[i]? = some (pv (pk l i) (pd l i)):=by
 simp[pvs,pk,pd,List.getD_eq_getElem?_getD,List.getElem?_eq_getElem h]
theorem pvs_take (l:PL) (i:Nat) (h:i<l.length):pvs (l.take (i+1))=pvs (l.take i)++[pv (pk l i) (pd l i)]:=by
 rw[List.take_succ_eq_append_getElem h,qud];simp[pvs,pk,pd,List.getD_eq_getElem?_getD,List.getElem?_eq_getElem h]
theorem range_below {w w':World} {b o:Nat} {cs:List Value} (h:w.rangeAt b o cs) (hb:Below w.heap.size w w'):w'.rangeAt b o cs:=fun j v hv=>
 (hb.cell (p:=⟨b,o+j,none⟩) (World.block_lt_of_cell? w _ (h j v hv))).trans (h j v hv)
def QRd (w:World) (ao:Option Addr) (n cap:Nat) (l:PL):Prop :=
 (l.length=n∧∀i,i<n→∃b off,ao=some ⟨b,off,none⟩∧w.rangeAt b (off+i*25) (pk l i).cells.toList)∧(∀x∈l,PRd w x.1 x.2)∧n≤cap∧cap≤maxLen∧(ao=none→cap=0)
theorem QRd.below {w w':World} {ao:Option Addr} {n cap:Nat} {l:PL} (h:QRd w ao n cap l) (hb:Below w.heap.size w w'):QRd w' ao n cap l:=by
 refine⟨⟨h.1.1,fun i hi=>?_⟩,fun x hx=>(h.2.1 x hx).below hb,h.2.2⟩;obtain⟨b,off,e,hr⟩:=h.1.2 i hi;exact⟨b,off,e,range_below hr hb⟩
theorem POwnR.rd {w:World} {B:Nat} {ao:Option Addr} {n cap:Nat} {l:PL} (h:POwnR w B ao n cap (pks l)) (hp:∀x∈l,PRd w x.1 x.2):QRd w ao n cap l:=by
 obtain⟨hl,h1,h2⟩:=h;rw[qls] at hl
 rcases h2 with ⟨e,_⟩ | ⟨g,c,cur,e,hb,hg,hc,hm,hs,ht⟩
 ·simp only[Value.slice.injEq] at e;obtain⟨rfl,rfl,rfl⟩:=e;exact⟨⟨hl,fun i hi=>by omega⟩,hp,Nat.le_refl _,Nat.zero_le _,fun _=>rfl⟩
 ·simp only[Value.slice.injEq] at e;obtain⟨rfl,_,rfl⟩:=e;refine⟨⟨hl,fun i hi=>⟨g,0,rfl,fun j v hv=>?_⟩⟩,hp,hc,hm,fun h=>by simp at h⟩;have own:w.ownsRow B 28 25 (.slice (some ⟨g,0,none⟩) n cap) n (pvals (pks l)):=⟨h1,.inr ⟨g,cap,cur,rfl,hb,hg,hc,hm,hs,ht⟩⟩;have hj:j<25:=by
   have:=(List.getElem?_eq_some_iff.1 hv).1
   rwa [qek] at this
  rw[Nat.zero_add,own.cellAt (i*25+j) (by omega),pvals_at _ i j (by rw[qls];omega) hj,pks_at];rw[←hv];simp
structure QOwn (w:World) (B:Nat) (ao:Option Addr) (n cap:Nat) (l:PL):Prop where
 row:POwnR w B ao n cap (pks l)
 own:∀x∈l,POwn w B x.1 x.2
 dis:l.Pairwise fun x y=>∀k,x.1.has k→¬y.1.has k
theorem QOwn.rd {w:World} {B:Nat} {ao:Option Addr} {n cap:Nat} {l:PL} (h:QOwn w B ao n cap l):QRd w ao n cap l:=h.row.rd fun x hx=>(h.own x hx).rd
theorem QOwn.len {w:World} {B:Nat} {ao:Option Addr} {n cap:Nat} {l:PL} (h:QOwn w B ao n cap l):l.length=n:=by
 rw[←h.row.1,qls]
theorem QOwn.nil (w:World) (B:Nat):QOwn w B none 0 0 []:=⟨POwnR.nil w B,fun x h=>(by cases h),List.Pairwise.nil⟩
theorem QOwn.below {w w':World} {B:Nat} {ao:Option Addr} {n cap:Nat} {l:PL} (h:QOwn w B ao n cap l) (hb:Below w.heap.size w w'):QOwn w' B ao n cap l :=
 ⟨h.row.below hb,fun x hx=>(h.own x hx).below hb,h.dis⟩
theorem QOwn.mono {w:World} {B B':Nat} {ao:Option Addr} {n cap:Nat} {l:PL} (h:QOwn w B ao n cap l) (hB:B'≤B):QOwn w B' ao n cap l :=
 ⟨⟨h.row.1,qaq h.row.2 hB⟩,fun x hx=>(h.own x hx).low hB,h.dis⟩
theorem POwnR.lt {w:World} {B:Nat} {ao:Option Addr} {n cap:Nat} {ps:List Pk} (h:POwnR w B ao n cap ps) {a:Addr} (e:ao=some a):B≤a.block∧a.block<w.heap.size:=by
 subst e;exact h.2.lt _ rfl
theorem POwnR.grown {w w':World} {B:Nat} {ao:Option Addr} {n cap:Nat} {ps:List Pk} {row:Option Nat} (h:POwnR w B ao n cap ps) (hg:w.grownBy w' row) (hne:∀a,ao=some a→some a.block≠row):POwnR w' B ao n cap ps:=by
 refine⟨h.1,h.2.kept hg ?_⟩;cases ao with
 |none=>exact .inl rfl
 |some a=>exact .inr (hne a rfl)
theorem QOwn.cur {w w':World} {B g:Nat} {ao:Option Addr} {n cap:Nat} {l:PL} (h:QOwn w B ao n cap l) (hB:g<B) (hg:w.grownBy w' (some g)):QOwn w' B ao n cap l :=
 ⟨h.row.grown hg (fun a e he=>by cases he;have:=(h.row.lt e).1;omega),fun x hx=>(h.own x hx).grown hg (fun k e hk=>by cases e;have:=((h.own x hx).lt hk).1;omega),h.dis⟩
theorem POwn.neR {w:World} {B:Nat} {p:Pk} {d:Pd} {b:Nat} {cs:Array Value} (h:POwn w B p d) (hb:w.heap[b]? = some (.cells cs 28)):¬p.has b:=by
 rintro ⟨a,ha,hab⟩;simp only[List.mem_cons,List.not_mem_nil,or_false] at ha
 rcases ha with ha | ha | ha | ha | ha | ha
 ·have hh:=h.bod.2;rw[←ha] at hh;obtain⟨cur,hc⟩:=qbl hh;exact ty_ne hc hb (by decide) hab
 ·have hh:=h.wb.2;rw[←ha] at hh;obtain⟨cur,hc⟩:=qbl hh;exact ty_ne hc hb (by decide) hab
 ·have hh:=h.pa.2;rw[←ha] at hh;obtain⟨cur,hc⟩:=qbl hh;exact ty_ne hc hb (by decide) hab
 ·have hh:=h.wan.2;rw[←ha] at hh;obtain⟨cur,hc⟩:=qbl hh;exact ty_ne hc hb (by decide) hab
 ·have hh:=h.nam.2;rw[←ha] at hh;obtain⟨cur,hc⟩:=qbl hh;exact ty_ne hc hb (by decide) hab
 ·have hh:=h.cds.2;rw[←ha] at hh;obtain⟨cur,hc⟩:=qbl hh;exact ty_ne hc hb (by decide) hab
theorem POwn.rowed {w w':World} {B B2:Nat} {p:Pk} {d:Pd} {ao:Option Addr} {n cap:Nat} {ps:List Pk} (h:POwn w B p d) (hR:POwnR w B2 ao n cap ps) (hg:w.grownBy w' (Value.slice ao n cap).ownBlock):POwn w' B p d:=by
 refine h.grown hg fun k e=>?_
 cases ao with
 |none=>simp[Value.ownBlock] at e
 |some a=>
  obtain rfl:a.block=k:=by simpa[Value.ownBlock] using e
  obtain⟨cur,hc⟩:=qbl hR.2;exact h.neR hc
theorem w_qapp {ops:Array Oper} {rest:List Oper} {o:Oper} {a:Act} {Q:Exit→Act→World→Prop} (w:World) (hgd:o.guard=none) (s x:Operand)
  (ho:o.op=.call { callee:=.builtin .append,args:=#[s,x],argTypes:=#[44,44] })
  (B:Nat) (ao:Option Addr) (n cap:Nat) (l:PL) (hs:a.eval s=.slice ao n cap) (hown:QOwn w B ao n cap l)
  (ad:Nat) (u:Pk) (du:Pd) (hx:a.eval x=.slice (some ⟨ad,0,none⟩) 1 1) (hc:Blk w ad u) (hu:POwn w B u du) (hsep:∀x∈l,∀k,x.1.has k→¬u.has k) (hb:n<10737418240) (hB:B≤w.heap.size)
  (h:∀ao' cap' w',QOwn w' B ao' (n+1) cap' (l++[(u,du)])→w.grownBy w' (Value.slice ao n cap).ownBlock→wpList Tryz.prog ops Q rest (a.put o.dst (.slice ao' (n+1) cap')) w') :
  wpList Tryz.prog ops Q (o :: rest) a w:=by
 refine w_papp w hgd s x ho B ao n cap (pks l) hs hown.row ad u hx hc hb hB ?_;intro ao' cap' w' hr hg;refine h ao' cap' w' ⟨?_,?_,?_⟩ hg
 ·rw[pks_app];exact hr
 ·intro y hy;rw[List.mem_append] at hy
  rcases hy with hy | hy
  ·exact (hown.own y hy).rowed hown.row hg
  ·obtain rfl:y=(u,du):=by simpa using hy
   exact hu.rowed hown.row hg
 ·rw[List.pairwise_append];refine⟨hown.dis,List.pairwise_singleton _ _,fun x hx y hy=>?_⟩;obtain rfl:y=(u,du):=by simpa using hy
  exact hsep x hx
theorem qbelow_grow {w w1 w2:World} {B:Nat} {ao:Option Addr} {n cap:Nat} {ps:List Pk} (hb:Below B w w1) (hB:B≤w1.heap.size) (ho:POwnR w1 B ao n cap ps) (hg:w1.grownBy w2 (Value.slice ao n cap).ownBlock):Below B w w2 :=
 hb.grown hg hB (fun k e=>by
  cases ao with
  |none=>simp[Value.ownBlock] at e
  |some a=>
   obtain rfl:a.block=k:=by simpa[Value.ownBlock] using e
   exact (ho.lt rfl).1)
theorem mkp1 (p:Pk) (u:World):(Instr.buildSlice 44 1 #[(0,.agg p.cells)]).run Tryz.prog u=.ok (.slice (some ⟨u.heap.size,0,none⟩) 1 1) (u.alloc (.cells p.cells 28)):=by kernel_rfl
theorem qown_lit0 (w:World):QOwn (w.alloc (.cells #[] 28)) w.heap.size (some ⟨w.heap.size,0,none⟩) 0 0 [] :=
 ⟨⟨rfl,World.ownsRow_made w #[] 0 (Nat.le_refl _) (Nat.zero_le _) (by simp)⟩,fun x h=>(by cases h),List.Pairwise.nil⟩
theorem load_mid {ops:Array Oper} {rest:List Oper} {o:Oper} {a:Act} {w:World} {Q:Exit→Act→World→Prop} {b i:Nat} {p:Pk} (hB:w.rangeAt b i p.cells.toList) (hw:Region.wanted o (yielded ops a.tmps)=true) (x:Operand) (ho:o.op=.load 28 x)
  (hx:a.eval x=.pointer (some ⟨b,i,none⟩))
  (h:wpList Tryz.prog ops Q rest (a.put o.dst (.agg p.cells)) w):wpList Tryz.prog ops Q (o :: rest) a w:=by
 refine qcf hw (w':=w) (v:=.agg p.cells) ?_ h;have e:=run_loadVar_mid (P:=Tryz.prog) w b i 28 p.cells.toList _ hB Tryz.underlying28 rfl (infoP.trans (by rw[qek]));rw[Array.toArray_toList] at e;simp only[execOp,ho,hx,Instr.loadAt,Instr.sureAddr,Sem.run_bind,Sem.run_pure,Result.andThen_ok,e]
theorem st_loadM {o:Oper} {a:Act} {w:World} {K:Act→World→Prop} {Q:Exit→Act→World→Prop} {b i:Nat} {p:Pk} (hB:w.rangeAt b i p.cells.toList) (x:Operand) (ho:o.op=.load 28 x)
  (hx:a.eval x=.pointer (some ⟨b,i,none⟩)) (h:K (a.put o.dst (.agg p.cells)) w):Oper.wp Tryz.prog o a w K Q:=by
 have e:=run_loadVar_mid (P:=Tryz.prog) w b i 28 p.cells.toList _ hB Tryz.underlying28 rfl (infoP.trans (by rw[qek]));rw[Array.toArray_toList] at e;exact qab (w':=w) (v:=.agg p.cells) (by simp only[execOp,ho,hx,Instr.loadAt,Instr.sureAddr,Sem.run_bind,Sem.run_pure,Result.andThen_ok,e]) h
theorem bs_pk {ops:Array Oper} {rest:List Oper} {o:Oper} {a:Act} {w:World} {Q:Exit→Act→World→Prop} {p:Pk} (hw:Region.wanted o (yielded ops a.tmps)=true) (x:Operand) (ho:o.op=.buildSlice 44 1 #[(0,x)]) (hx:a.eval x=.agg p.cells)
  (h:wpList Tryz.prog ops Q rest (a.put o.dst (.slice (some ⟨w.heap.size,0,none⟩) 1 1)) (w.alloc (.cells p.cells 28))):wpList Tryz.prog ops Q (o :: rest) a w:=by
 have e:((#[(0,x)]:Array (Nat×Operand)).map fun (i,x)=>(i,a.eval x)) = #[(0,.agg p.cells)]:=by simp[hx]
 refine qcf hw (w':=w.alloc (.cells p.cells 28)) (v:=.slice (some ⟨w.heap.size,0,none⟩) 1 1) ?_ h;simp only[execOp,ho,e,Sem.run_bind,mkp1,Result.andThen_ok,Sem.run_pure]
theorem idx_p (b off n c k:Nat) (h:k<n) (u:World):(Instr.indexAt 44 (.slice (some ⟨b,off,none⟩) n c) (.int .i64 (k:Int))).run Tryz.prog u=.ok (.pointer (some ⟨b,off+k*25,none⟩)) u:=by
 have h1:(k:Int)<n:=by omega
 have h2:(sizeOf (Tryz.prog.elem 44)).run Tryz.prog u=.ok 25 u:=by kernel_rfl
 simp[Instr.indexAt,Instr.index,go_sem,Tryz.underlying44,h1,h2,h,Addr.add]

def Many (w w':World) (v:Value) (l:List UInt8):Prop:=∃a c q,v=.slice a (List.length q) c∧QOwn w' w.heap.size a q.length c q∧pvs q=(many l).1∧∀x∈q,Pgd 1048576 x.1 x.2
theorem qsl {l:List UInt8} {t nn:Nat} {v:Pv} {q:List Pv} (hg:getP (l.drop t)=(v,(nn:Int),0)) (h:many l=(q++(many (l.drop t)).1,t+(many (l.drop t)).2.1,(many (l.drop t)).2.2)) :
  many l=((q++[v])++(many (l.drop (t+nn))).1,(t+nn)+(many (l.drop (t+nn))).2.1,(many (l.drop (t+nn))).2.2):=by
 have h0:(getP (l.drop t)).2.2=0:=by rw[hg]
 have hm:=qki h0;rw[hg] at hm;simp only[Int.toNat_natCast,List.drop_drop] at hm;rw[h,hm];simp only[List.append_assoc,List.singleton_append,Prod.mk.injEq,and_true,true_and];omega
theorem qsm {l:List UInt8} {t:Nat} {v:Pv} {nn cc:Int} {q:List Pv} (ht:t<l.length) (hg:getP (l.drop t)=(v,nn,cc)) (hc:cc≠0) (h:many l=(q++(many (l.drop t)).1,t+(many (l.drop t)).2.1,(many (l.drop t)).2.2)):many l=(q,t,cc):=by
 have h0:(getP (l.drop t)).2.2≠0:=by rw[hg];exact hc
 have hm:=qqw (by rw[List.length_drop];omega) h0;rw[hg] at hm;rw[h,hm];simp
theorem qsk {l:List UInt8} {t:Nat} {q:List Pv} (ht:l.length≤t) (h:many l=(q++(many (l.drop t)).1,t+(many (l.drop t)).2.1,(many (l.drop t)).2.2)):many l=(q,t,0):=by
 rw[List.drop_of_length_le ht,many_nil] at h
 simpa using h
theorem many_i (ao:Option Addr) (n cap:Nat) (l:List UInt8) (w:World) (hr:RdIn w ao n cap l) (hn:n≤1048576) (hT:ErrTy w) :
  Calls Tryz.prog 91 #[.slice ao n cap] w fun e w'=>∃v,e=.returned (.tuple #[v,.int .i64 ((many l).2.1:Nat),.int .i64 (many l).2.2])∧Many w w' v l∧Below w.heap.size w w':=by
 have hTl:1<w.heap.size:=World.block_lt_of_cell? _ _ hT;have HT:Hid (∀u,Below w.heap.size w u→ErrTy u):=fun u hu=>hT.below hu hTl
 clear hTl hT;have HR:Hid (∀u,Below w.heap.size w u→RdIn u ao n cap l):=fun u hu=>hr.below hu
 have HL:Hid (l.length=n):=hr.1.1;clear hr;go_enter Tryz.func91,Tryz.ntmps91;go_wp2
 go_loopw [5,6] (fun v i wr=>∃(t:Nat) (a:Option Addr) (c:Nat) (q:PL),i=.int .i64 t∧v=.slice a (List.length q) c∧t≤n∧q.length≤t∧QOwn wr w.heap.size a q.length c q∧Hid (many l=(pvs q++(many (l.drop t)).1,t+(many (l.drop t)).2.1,(many (l.drop t)).2.2))∧(∀x∈q,Pgd 1048576 x.1 x.2)∧Below w.heap.size w wr) (fun _ i _=>n-(intOf i).toNat)
 case atStart=>exact⟨0,_,_,[],rfl,rfl,Nat.zero_le _,Nat.le_refl _,qown_lit0 w,(by show many l=_;simp[pvs]),fun x h=>(by cases h),bel_new _ _⟩
 case round=>
  obtain⟨t,a,c,q,rfl,rfl,ht,hqt,hQ,HM,hG,hb⟩:=hrel;have HG:Hid (∀x∈q,Pgd 1048576 x.1 x.2):=hG;clear hG
  by_cases hlt:t<n
  ·have hlt':(t:Int)<n:=by omega
   obtain⟨ax,cx,hsl,hrx⟩:=qfj (HR.out _ hb) t ht;obtain⟨v,nn,cc,hg⟩ : ∃v nn cc,getP (l.drop t)=(v,nn,cc):=⟨_,_,_,rfl⟩;have HGP:Hid (getP (l.drop t)=(v,nn,cc)):=hg;clear hg;have hsz:=hb.size;go_wp2_with fail
   refine (get_i _ _ _ _ _ hrx (by omega) (HT.out _ hb)).mono ?_;intro e u2 hh;unfold Got at hh;rw[HGP.out] at hh;obtain⟨p,d,rfl,ow,gd,hpv,b2⟩:=hh;have HV:Hid (pv p d=v):=hpv;have HS:Hid (∀x∈q,∀k,x.1.has k→¬p.has k):=fun x hx k h1 h2=>by
    have h3:=((hQ.own x hx).lt h1).2;have h4:=(ow.lt h2).1;omega
   have hQ2:=hQ.below b2;replace hb:=bel hb b2;have A:Blk (u2.alloc (.cells p.cells 28)) u2.heap.size p:=heap_alloc_new _ _;have b3:=bel_new u2 (.cells p.cells 28);have hQ3:=hQ2.below b3;have ow3:=(ow.below b3).low hsz;replace hb:=bel hb b3;clear hsl hrx hpv hQ hQ2 b2 b3 ow hsz
   by_cases hcc:cc=0
   ·subst hcc;obtain⟨k,rfl,hk⟩ : ∃k:Nat,nn=k∧t+k≤n∧2≤k:=by
     have h0:(getP (l.drop t)).2.2=0:=by rw[HGP.out]
     obtain⟨k1,k2,k3,k4,k5⟩:=getP_pos h0;rw[HGP.out] at k1 k2 k5;simp only at k1 k2 k5;rw[List.length_drop,HL.out] at k2;exact⟨_,k5,by omega,by omega⟩
    have HM2:=qsl HGP.out HM.out;rw[←HV.out] at HM2;have HM3:Hid (many l=(pvs (q++[(p,d)])++(many (l.drop (t+k))).1,(t+k)+(many (l.drop (t+k))).2.1,(many (l.drop (t+k))).2.2)):=by
     show many l=_;rw[qud];exact HM2
    have HG3:Hid (∀x∈q++[(p,d)],Pgd 1048576 x.1 x.2):=fun x hx=>by
     rw[List.mem_append] at hx
     rcases hx with hx | hx
     ·exact HG.out x hx
     ·obtain rfl:x=(p,d):=by simpa using hx
      exact gd
    have b4:=bel_new (u2.alloc (.cells p.cells 28)) (.cells p.cells 28);have hb4:=bel hb b4;have hQ4:=hQ3.below b4;have ow4:=ow3.below b4;have hsz4:=hb4.size;have hq:=hQ4.row.1;clear HM HM2 HG HGP HV gd b4 hQ3 ow3 hb;go_wp2_with (first | refine var_pk (p:=p) rfl rfl ?_ | refine load_pk A rfl _ rfl rfl ?_ | refine bs_pk (p:=p) rfl _ rfl rfl ?_ | (at_builtin;refine w_qapp _ rfl _ _ rfl w.heap.size _ _ _ q rfl hQ4 _ p d rfl (heap_alloc_new _ _) ow4 HS.out (by omega) hsz4 ?_) | fail)
    intro a5 c5 w5 hQ5 hg5;have hb5:=qbelow_grow hb4 hsz4 hQ4.row hg5;clear hg5 hQ4 ow4 hb4 HS A;go_wp2;go_roundw
    case rel=>exact⟨t+k,_,_,q++[(p,d)],by go_num,by rw[List.length_append];rfl,by omega,by rw[List.length_append];simp;omega,by rw[List.length_append];exact hQ5,HM3,HG3.out,hb5⟩
    case measure=>simp[intOf];omega
   ·have hcc':(cc != 0)=true:=by simpa using hcc
    have HM2:=qsm (by rw[HL.out];exact hlt) HGP.out hcc HM.out;have HM3:Hid (many l=(pvs q,t,cc)):=HM2;clear HM HM2 HGP HV gd ow3 A HS hcc;go_wp2_with (first | refine var_pk (p:=p) rfl rfl ?_ | fail)
    go_ret3;exact⟨.slice a (List.length q) c,by simp only[HM3.out];rfl,⟨a,c,q,rfl,hQ3,by rw[HM3.out],HG.out⟩,hb⟩
  ·have hlt':¬(t:Int)<n:=by omega
   have HM3:Hid (many l=(pvs q,t,0)):=qsk (by rw[HL.out];omega) HM.out;clear HM;go_wp2;go_ret3;exact⟨.slice a (List.length q) c,by simp only[HM3.out];rfl,⟨a,c,q,rfl,hQ,by rw[HM3.out],HG.out⟩,hb⟩
theorem all_s (ao:Option Addr) (n cap:Nat) (l:List UInt8) (w:World) (hr:RdIn w ao n cap l) (hn:n≤1048576) :
  Calls Tryz.prog 33 #[.slice ao n cap] w fun e w'=>∃v,e=.returned (.tuple #[v,.int .i64 (many l).2.2])∧Many w w' v l∧Below w.heap.size w w':=by
 have HR:Hid (∀u,Below w.heap.size w u→RdIn u ao n cap l):=fun u hu=>hr.below hu
 have HL:Hid (l.length=n):=hr.1.1;clear hr;go_enter Tryz.func33,Tryz.ntmps33;go_wp2
 go_loopw [4,5] (fun v i wr=>∃(t:Nat) (a:Option Addr) (c:Nat) (q:PL),i=.int .i64 t∧v=.slice a (List.length q) c∧t≤n∧q.length≤t∧QOwn wr w.heap.size a q.length c q∧Hid (many l=(pvs q++(many (l.drop t)).1,t+(many (l.drop t)).2.1,(many (l.drop t)).2.2))∧(∀x∈q,Pgd 1048576 x.1 x.2)∧Below w.heap.size w wr) (fun _ i _=>n-(intOf i).toNat)
 case atStart=>exact⟨0,_,_,[],rfl,rfl,Nat.zero_le _,Nat.le_refl _,qown_lit0 w,(by show many l=_;simp[pvs]),fun x h=>(by cases h),bel_new _ _⟩
 case round=>
  obtain⟨t,a,c,q,rfl,rfl,ht,hqt,hQ,HM,hG,hb⟩:=hrel;have HG:Hid (∀x∈q,Pgd 1048576 x.1 x.2):=hG;clear hG
  by_cases hlt:t<n
  ·have hlt':(t:Int)<n:=by omega
   obtain⟨ax,cx,hsl,hrx⟩:=qfj (HR.out _ hb) t ht;obtain⟨v,nn,cc,hg⟩ : ∃v nn cc,getP (l.drop t)=(v,nn,cc):=⟨_,_,_,rfl⟩;have HGP:Hid (getP (l.drop t)=(v,nn,cc)):=hg;clear hg;have hsz:=hb.size;go_wp2_with fail
   refine (get_s _ _ _ _ _ hrx (by omega)).mono ?_;intro e u2 hh;unfold Got at hh;rw[HGP.out] at hh;obtain⟨p,d,rfl,ow,gd,hpv,b2⟩:=hh;have HV:Hid (pv p d=v):=hpv;have HS:Hid (∀x∈q,∀k,x.1.has k→¬p.has k):=fun x hx k h1 h2=>by
    have h3:=((hQ.own x hx).lt h1).2;have h4:=(ow.lt h2).1;omega
   have hQ2:=hQ.below b2;replace hb:=bel hb b2;have A:Blk (u2.alloc (.cells p.cells 28)) u2.heap.size p:=heap_alloc_new _ _;have b3:=bel_new u2 (.cells p.cells 28);have hQ3:=hQ2.below b3;have ow3:=(ow.below b3).low hsz;replace hb:=bel hb b3;clear hsl hrx hpv hQ hQ2 b2 b3 ow hsz
   by_cases hcc:cc=0
   ·subst hcc;obtain⟨k,rfl,hk⟩ : ∃k:Nat,nn=k∧t+k≤n∧2≤k:=by
     have h0:(getP (l.drop t)).2.2=0:=by rw[HGP.out]
     obtain⟨k1,k2,k3,k4,k5⟩:=getP_pos h0;rw[HGP.out] at k1 k2 k5;simp only at k1 k2 k5;rw[List.length_drop,HL.out] at k2;exact⟨_,k5,by omega,by omega⟩
    have HM2:=qsl HGP.out HM.out;rw[←HV.out] at HM2;have HM3:Hid (many l=(pvs (q++[(p,d)])++(many (l.drop (t+k))).1,(t+k)+(many (l.drop (t+k))).2.1,(many (l.drop (t+k))).2.2)):=by
     show many l=_;rw[qud];exact HM2
    have HG3:Hid (∀x∈q++[(p,d)],Pgd 1048576 x.1 x.2):=fun x hx=>by
     rw[List.mem_append] at hx
     rcases hx with hx | hx
     ·exact HG.out x hx
     ·obtain rfl:x=(p,d):=by simpa using hx
      exact gd
    have b4:=bel_new (u2.alloc (.cells p.cells 28)) (.cells p.cells 28);have hb4:=bel hb b4;have hQ4:=hQ3.below b4;have ow4:=ow3.below b4;have hsz4:=hb4.size;have hq:=hQ4.row.1;clear HM HM2 HG HGP HV gd b4 hQ3 ow3 hb;go_wp2_with (first | refine var_pk (p:=p) rfl rfl ?_ | refine load_pk A rfl _ rfl rfl ?_ | refine bs_pk (p:=p) rfl _ rfl rfl ?_ | (at_builtin;refine w_qapp _ rfl _ _ rfl w.heap.size _ _ _ q rfl hQ4 _ p d rfl (heap_alloc_new _ _) ow4 HS.out (by omega) hsz4 ?_) | fail)
    intro a5 c5 w5 hQ5 hg5;have hb5:=qbelow_grow hb4 hsz4 hQ4.row hg5;clear hg5 hQ4 ow4 hb4 HS A;go_wp2;go_roundw
    case rel=>exact⟨t+k,_,_,q++[(p,d)],by go_num,by rw[List.length_append];rfl,by omega,by rw[List.length_append];simp;omega,by rw[List.length_append];exact hQ5,HM3,HG3.out,hb5⟩
    case measure=>simp[intOf];omega
   ·have hcc':(cc != 0)=true:=by simpa using hcc
    have HM2:=qsm (by rw[HL.out];exact hlt) HGP.out hcc HM.out;have HM3:Hid (many l=(pvs q,t,cc)):=HM2;clear HM HM2 HGP HV gd ow3 A HS hcc;go_wp2_with (first | refine var_pk (p:=p) rfl rfl ?_ | fail)
    go_ret2;exact⟨.slice a (List.length q) c,by simp only[HM3.out];rfl,⟨a,c,q,rfl,hQ3,by rw[HM3.out],HG.out⟩,hb⟩
  ·have hlt':¬(t:Int)<n:=by omega
   have HM3:Hid (many l=(pvs q,t,0)):=qsk (by rw[HL.out];omega) HM.out;clear HM;go_wp2;go_ret2;exact⟨.slice a (List.length q) c,by simp only[HM3.out];rfl,⟨a,c,q,rfl,hQ,by rw[HM3.out],HG.out⟩,hb⟩
theorem all_i (ao:Option Addr) (n cap:Nat) (l:List UInt8) (w:World) (hr:RdIn w ao n cap l) (hn:n≤1048576) (hT:ErrTy w) :
  Calls Tryz.prog 31 #[.slice ao n cap] w fun e w'=>∃v,e=.returned (.tuple #[v,.int .i64 (many l).2.2])∧Many w w' v l∧Below w.heap.size w w':=by
 go_enter Tryz.func31,Tryz.ntmps31;go_wp2_with fail
 refine (many_i ao n cap l _ hr hn hT).mono ?_;rintro e w1 ⟨v,rfl,hM,hb⟩;go_wp2;go_ret2;exact⟨v,rfl,hM,hb⟩
theorem bytes_le (v:Pv):v.bytes.length≤345:=by
 cases h:v.ok with
 |false=>rw[bytes_no h];simp
 |true=>
  have h340:=qkt h;have hlen:=qgl h;have hle:=qlk (v.rest.length:Int);have hh:v.hd=1+(lenB v.rest.length).length:=rfl;omega
theorem allB_step (l:PL) (i:Nat) (h:i<l.length):allB (pvs (l.take (i+1)))=allB (pvs (l.take i))++(pv (pk l i) (pd l i)).bytes:=by
 rw[pvs_take l i h];simp[allB]
theorem write_i (ao:Option Addr) (n cap:Nat) (l:PL) (w:World) (hr:QRd w ao n cap l) (hn:n≤1048576) (hs:∀x∈l,Psz x.1 x.2∧Plen x.1 1048576) :
  Calls Tryz.prog 30 #[.slice ao n cap] w fun e w'=>∃a m c,e=.returned (.slice a m c)∧Own w' w.heap.size a m c (allB (pvs l))∧m≤n*345∧Below w.heap.size w w':=by
 have HR:Hid (∀u,Below w.heap.size w u→QRd u ao n cap l):=fun u hu=>hr.below hu
 have HL:Hid (l.length=n):=hr.1.1;clear hr;go_enter Tryz.func30,Tryz.ntmps30;go_wp2
 go_loopw [3,9] (fun v i wr=>∃(t:Nat) (a:Option Addr) (m c:Nat),i=.int .i64 t∧v=.slice a m c∧t≤n∧m≤t*345∧Own wr w.heap.size a m c (allB (pvs (l.take t)))∧Below w.heap.size w wr) (fun _ i _=>n-(intOf i).toNat)
 case atStart=>exact⟨0,_,0,_,rfl,rfl,Nat.zero_le _,Nat.le_refl _,own_lit0 w,bel_new _ _⟩
 case round=>
  obtain⟨t,a,m,c,rfl,rfl,ht,hm,hO,hb⟩:=hrel
  by_cases hlt:t<n
  ·have hlt':(t:Int)<n:=by omega
   have hkl:t<l.length:=by rw[HL.out];exact hlt
   obtain⟨b0,off,rfl,hrg⟩:=(HR.out _ hb).1.2 t hlt;have hP:=(HR.out _ hb).2.1 _ (pk_mem hkl);obtain⟨hsz,hln⟩:=hs _ (pk_mem hkl);have HST:=allB_step l t hkl;have hbl:=bytes_le (pv (pk l t) (pd l t));simp only at hP hsz hln;generalize pk l t=p at hrg hP hsz hln HST hbl;generalize pd l t=d at hP hsz HST hbl;have HS:Hid (allB (pvs (l.take (t+1)))=allB (pvs (l.take t))++(pv p d).bytes):=HST;clear HST;have hix:=idx_p b0 off n cap t hlt;have A:Blk (wr.alloc (.cells p.cells 28)) wr.heap.size p:=heap_alloc_new _ _;have b1:=bel_new wr (.cells p.cells 28);replace hP:=hP.below b1;replace hO:=hO.below b1;replace hb:=bel hb b1;clear b1;have HKL:Hid (t<l.length):=hkl;clear hkl;go_wp2_with (first | refine var_pk (p:=p) rfl rfl ?_ | refine load_mid hrg rfl _ rfl rfl ?_ | refine load_pk A rfl _ rfl rfl ?_ | fail)
   refine (put_iPutPacket p d _ hP hsz hln).mono ?_;rintro e u2 ⟨a2,n2,c2,rfl,hO2,b2⟩;have hl2:=hO2.1;have hR2:=hO2.rd;replace hO:=hO.below b2;replace hb:=bel hb b2;have hsb:=hb.size;clear b2 hO2 A hrg hP hix;go_wp2_with (at_builtin;refine w_app _ rfl _ _ rfl w.heap.size _ _ _ _ rfl hO _ _ _ (pv p d).bytes rfl hR2 (by omega) hsb ?_)
   intro a3 c3 w3 hO3 hg3;have hb3:=below_grow hb hsb hO hg3;rw[←HS.out] at hO3;clear hg3 hO hb hR2;go_wp2;go_roundw
   case rel=>exact⟨t+1,a3,m+n2,c3,by go_num,rfl,by omega,by omega,hO3,hb3⟩
   case measure=>simp[intOf];omega
  ·have hlt':¬(t:Int)<n:=by omega
   obtain rfl:t=n:=by omega
   rw[List.take_of_length_le (by rw[HL.out];omega)] at hO;go_wp2;go_ret;exact⟨a,m,c,rfl,hO,hm,hb⟩
theorem cf_isamep (xs:Array Value) (u:World):(callFunc 18 xs).run Tryz.prog u=.ok (.enter 18 xs) u:=by kernel_rfl
theorem same_lsamePackets (ao a2:Option Addr) (n cap cap2:Nat) (l m:PL) (w:World) (hr:QRd w ao n cap l) (hr2:QRd w a2 n cap2 m) (he:pvs l=pvs m) (hn:n≤1048576) :
  Calls Tryz.prog 34 #[.slice ao n cap,.slice a2 n cap2] w fun e w'=>e=.returned (.bool true)∧Below w.heap.size w w':=by
 have HR:Hid (∀u,Below w.heap.size w u→QRd u ao n cap l):=fun u hu=>hr.below hu
 have HR2:Hid (∀u,Below w.heap.size w u→QRd u a2 n cap2 m):=fun u hu=>hr2.below hu
 have HL:Hid (l.length=n):=hr.1.1;have HL2:Hid (m.length=n):=hr2.1.1;have HE:Hid (pvs l=pvs m):=he;clear hr hr2 he;go_enter Tryz.func34,Tryz.ntmps34;go_wp2
 go_loopw [5] (fun i wr=>∃t:Nat,i=.int .i64 t∧t≤n∧Below w.heap.size w wr) (fun i _=>n-(intOf i).toNat)
 case atStart=>exact⟨0,rfl,Nat.zero_le _,Below.refl _ _⟩
 case round=>
  obtain⟨t,rfl,ht,hb⟩:=hrel
  by_cases hlt:t<n
  ·have hlt':(t:Int)<n:=by omega
   have hkl:t<l.length:=by rw[HL.out];exact hlt
   have hkm:t<m.length:=by rw[HL2.out];exact hlt
   obtain⟨b0,off,rfl,hrg⟩:=(HR.out _ hb).1.2 t hlt;obtain⟨b1,off1,rfl,hrg1⟩:=(HR2.out _ hb).1.2 t hlt;have hP:=(HR.out _ hb).2.1 _ (pk_mem hkl);have hQ:=(HR2.out _ hb).2.1 _ (pk_mem hkm);have hpq:pv (pk l t) (pd l t)=pv (pk m t) (pd m t):=by
    have h1:=pvs_at l t hkl;rw[HE.out,pvs_at m t hkm] at h1;exact (Option.some.inj h1).symm
   simp only at hP hQ;generalize pk l t=p at hrg hP hpq;generalize pd l t=d at hP hpq;generalize pk m t=p1 at hrg1 hQ hpq;generalize pd m t=d1 at hQ hpq;have HPQ:Hid (decide (pv p d=pv p1 d1)=true):=decide_eq_true hpq;have HG:Hid (wr.rangeAt b0 (off+t*25) p.cells.toList∧wr.rangeAt b1 (off1+t*25) p1.cells.toList∧PRd wr p d∧PRd wr p1 d1):=⟨hrg,hrg1,hP,hQ⟩;clear hpq hkl hkm hrg hrg1 hP hQ
   go_upto_region 6 with fail
   refine region_facts_g (by kernel_rfl) rfl (fun i u x=>match i with
    |0=>u=.slice (some ⟨b0,off,none⟩) n cap
    |1=>u=.int .i64 (t:Int)
    |2=>u=.pointer (some ⟨b0,off+t*25,none⟩)
    |3=>u=.agg p.cells
    |4=>u=.slice (some ⟨b1,off1,none⟩) n cap2
    |5=>u=.int .i64 (t:Int)
    |6=>u=.pointer (some ⟨b1,off1+t*25,none⟩)
    |7=>u=.agg p1.cells
    |8=>u=.bool true
    |9=>u=.bool (!true)
    |_=>True) ?_ ?_ ?_
   ·intro i u x x' hx h
    match i,h with
    |0,h=>exact h
    |1,h=>exact h
    |2,h=>exact h
    |3,h=>exact h
    |4,h=>exact h
    |5,h=>exact h
    |6,h=>exact h
    |7,h=>exact h
    |8,h=>exact h
    |9,h=>exact h
    |(_+10),h=>trivial
   ·intro i o a u hi hk hbu hdep
    match i,hi with
    |0,hi=>
     cases hi;exact g_run (wanted_none rfl _) (z_move _ rfl (eval_at ((hk.at 0 rfl).trans rfl)) ⟨_,rfl,Below.refl _ _,rfl⟩)
    |1,hi=>
     cases hi;exact g_run (wanted_none rfl _) (z_move _ rfl (eval_at ((hk.at 5 rfl).trans rfl)) ⟨_,rfl,Below.refl _ _,rfl⟩)
    |2,hi=>
     cases hi;obtain⟨z0,hz0,rfl⟩:=hdep 0 _ _ rfl rfl rfl;obtain⟨z1,hz1,rfl⟩:=hdep 1 _ _ rfl rfl rfl;exact g_run (wanted_none rfl _) (z_ix 44 _ _ rfl (eval_at hz0) (eval_at hz1) (idx_p b0 off n cap t hlt) ⟨_,rfl,Below.refl _ _,rfl⟩)
    |3,hi=>
     cases hi;obtain⟨z2,hz2,rfl⟩:=hdep 2 _ _ rfl rfl rfl;exact g_run (wanted_none rfl _) (st_loadM (range_below HG.out.1 hbu) _ rfl (eval_at hz2) ⟨_,rfl,Below.refl _ _,rfl⟩)
    |4,hi=>
     cases hi;exact g_run (wanted_none rfl _) (z_move _ rfl (eval_at ((hk.at 1 rfl).trans rfl)) ⟨_,rfl,Below.refl _ _,rfl⟩)
    |5,hi=>
     cases hi;exact g_run (wanted_none rfl _) (z_move _ rfl (eval_at ((hk.at 5 rfl).trans rfl)) ⟨_,rfl,Below.refl _ _,rfl⟩)
    |6,hi=>
     cases hi;obtain⟨z4,hz4,rfl⟩:=hdep 4 _ _ rfl rfl rfl;obtain⟨z5,hz5,rfl⟩:=hdep 5 _ _ rfl rfl rfl;exact g_run (wanted_none rfl _) (z_ix 44 _ _ rfl (eval_at hz4) (eval_at hz5) (idx_p b1 off1 n cap2 t hlt) ⟨_,rfl,Below.refl _ _,rfl⟩)
    |7,hi=>
     cases hi;obtain⟨z6,hz6,rfl⟩:=hdep 6 _ _ rfl rfl rfl;exact g_run (wanted_none rfl _) (st_loadM (range_below HG.out.2.1 hbu) _ rfl (eval_at hz6) ⟨_,rfl,Below.refl _ _,rfl⟩)
    |8,hi=>
     cases hi;obtain⟨z3,hz3,rfl⟩:=hdep 3 _ _ rfl rfl rfl;obtain⟨z7,hz7,rfl⟩:=hdep 7 _ _ rfl rfl rfl;refine g_run (wanted_none rfl _) (st_call (exec_call2 _ _ _ _ _ _ _ _ cf_isamep (eval_at hz3) (eval_at hz7) (fun _=>rfl) _ _ _ _ _ _) ?_);refine (same_iSamePacket p p1 d d1 u (HG.out.2.2.1.below hbu) (HG.out.2.2.2.below hbu)).mono ?_;rintro e u' ⟨he,hb'⟩;rw[HPQ.out] at he;exact⟨_,he,_,rfl,hb',rfl⟩
    |9,hi=>
     cases hi;obtain⟨z8,hz8,rfl⟩:=hdep 8 _ _ rfl rfl rfl;exact g_run (wanted_none rfl _) (z_not _ _ rfl (eval_at hz8) ⟨_,rfl,Below.refl _ _,rfl⟩)
    |(_+10),hi=>cases hi
   intro vs y3 b3 hG a3 h3;have g9:vs 9=.bool (!true):=hG 9 (by decide);replace hb:=bel hb b3;clear hG HG HPQ;replace h3:puts _ 1 _ (Fq27)=a3:=h3;replace h3:puts _ 2 _ (Fq27)=a3:=h3;replace h3:puts _ 3 _ (Fq27)=a3:=h3;replace h3:puts _ 4 _ (Fq27)=a3:=h3;replace h3:puts _ 5 _ (Fq27)=a3:=h3;replace h3:puts _ 6 _ (Fq27)=a3:=h3;replace h3:puts _ 7 _ (Fq27)=a3:=h3;replace h3:puts _ 8 _ (Fq27)=a3:=h3;replace h3:puts _ 9 _ (Fq27)=a3:=h3;replace h3:Fq27=_:=h3;unfold Fq27 at h3;subst h3;simp only[g9];clear g9;go_wp2;go_roundw
   case rel=>exact⟨t+1,by go_num,by omega,hb⟩
   case measure=>simp[intOf];omega
  ·have hlt':¬(t:Int)<n:=by omega
   go_wp2;go_ret;exact⟨rfl,hb⟩
