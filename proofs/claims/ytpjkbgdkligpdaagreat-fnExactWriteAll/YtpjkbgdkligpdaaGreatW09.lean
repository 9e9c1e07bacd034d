/- Lemmas. -/
import Derived.RegionTactic
import Derived.Test.YtpjkbgdkligpdaaGreatW08
set_option linter.unusedVariables false
set_option linter.unusedSimpArgs false
set_option maxRecDepth 100000
set_option maxHeartbeats 20000000
namespace Go.Proofs.YtpjkbgdkligpdaaGreat
open Go.RowKit

section
variable {P : Program} {ops : Array Oper} {Q : Exit → Act → World → Prop}

def unl (n:Nat) (listed:Array Bool):Nat:=((List.range n).filter fun i=>!listed.getD i true).length
theorem unl_zero {n:Nat} {listed:Array Bool} (h:unl n listed=0):∀i,i<n→listed.getD i true=true:=by
 intro i hi;have h0:=List.eq_nil_of_length_eq_zero h;rw[List.filter_eq_nil_iff] at h0
 simpa using h0 i (List.mem_range.2 hi)
theorem qjf {α:Type} (p q:α→Bool) (l:List α) (h:∀x,x∈l→q x=true→p x=true) (y:α) (hy:y∈l) (hp:p y=true) (hq:q y=false):(l.filter q).length<(l.filter p).length:=by
 have hle:∀m:List α,(∀x,x∈m→q x=true→p x=true)→(m.filter q).length≤(m.filter p).length:=by
  intro m
  induction m with
  |nil=>intro _;simp
  |cons x m ih=>
   intro hh;have:=ih (fun z hz=>hh z (List.mem_cons_of_mem _ hz));simp only[List.filter_cons];have hx:=hh x List.mem_cons_self;cases e1:q x<;>cases e2:p x<;>simp_all<;>omega
 induction l with
 |nil=>simp at hy
 |cons x l ih=>
  have h':=fun z hz=>h z (List.mem_cons_of_mem _ hz)
  rcases List.mem_cons.1 hy with rfl | hm
  ·simp only[List.filter_cons,hp,hq,if_true,Bool.false_eq_true,if_false,List.length_cons];have:=hle l h';omega
  ·have:=ih h' hm;have hx:=h x List.mem_cons_self;simp only[List.filter_cons];cases e1:q x<;>cases e2:p x<;>simp_all<;>omega
theorem unl_set {n i:Nat} {listed:Array Bool} (hs:listed.size=n) (hi:i<n) (hl:listed.getD i true=false):unl n (listed.setIfInBounds i true)<unl n listed:=by
 refine qjf _ _ _ (fun x hx hq=>?_) i (List.mem_range.2 hi) (by simp[hl]) (by simp[hs,hi]);have hxn:=List.mem_range.1 hx
 by_cases e:i=x
 ·subst e;simp[hs,hi] at hq
 ·simp only[Array.getD_eq_getD_getElem?,Array.getElem?_setIfInBounds,e,if_false] at hq ⊢;exact hq

theorem qpk (hlt:∀(i:Nat) (o:Oper),ops[i]? = some o→∀e∈o.after,e.on<i) (I:Act→World→Prop) (F:Nat→Act→World→Prop)
  (step:∀(i:Nat) (o:Oper) (a:Act) (w:World),ops[i]? = some o→I a w→(∀e∈o.after,Region.binds .any e=true→F e.on a w) →
   wpOp P ops Q i (fun a' w'=>I a' w'∧F i a' w'∧∀j,j≠i→F j a w→F j a' w') a w)
  (fin:∀(a:Act) (w:World),I a w→(∀i,i<ops.size→F i a w)→Q .normal a w) :
  ∀(fuel:Nat) (listed:Array Bool) (a:Act) (w:World),listed.size=ops.size→unl ops.size listed≤fuel→I a w→(∀i,i<ops.size→listed.getD i true=true→F i a w)→wpAny P .any ops Q fuel listed a w:=by
 intro fuel
 induction fuel with
 |zero=>
  intro listed a w hs hu hI hF;have hall:=unl_zero (Nat.le_zero.1 hu);refine⟨?_,fin a w hI fun i hi=>hF i hi (hall i hi)⟩;unfold Region.ready;rw[List.filter_eq_nil_iff];intro i hi;rw[hall i (List.mem_range.1 hi)];simp
 |succ fuel ih=>
  intro listed a w hs hu hI hF;have hdep:∀i,i∈Region.ready .any ops listed→i<ops.size∧listed.getD i true=false∧∀o,ops[i]? = some o→∀e∈o.after,Region.binds .any e=true→listed.getD e.on true=true:=by
   intro i hi;unfold Region.ready at hi;rw[List.mem_filter] at hi;obtain⟨h1,h2⟩:=hi;have hi':=List.mem_range.1 h1;rw[Bool.and_eq_true] at h2;refine⟨hi',by simpa using h2.1,fun o ho e he hb=>?_⟩;have h3:=h2.2;rw[ho] at h3;simp only[Option.map_some,Option.getD_some,Array.all_eq_true_iff_forall_mem] at h3;have h4:=h3 e he;rw[hb] at h4;have hlo:e.on<listed.size:=by have:=hlt i o ho e he;omega
   simp only[Bool.not_true,Bool.false_or] at h4
   simpa[Array.getD_eq_getD_getElem?,Array.getElem?_eq_getElem hlo] using h4
  refine⟨fun h0=>fin a w hI fun i hi=>?_,fun i hi=>?_⟩
  ·-- nothing is ready: all are listed
   have hall:∀k,k<ops.size→listed.getD k true=true:=by
    intro k
    induction k using Nat.strongRecOn with
    |_ k ihk=>
     intro hk;cases hl:listed.getD k true with
     |true=>rfl
     |false=>
      exfalso
      have hmem:k∈Region.ready .any ops listed:=by
       unfold Region.ready;rw[List.mem_filter];refine⟨List.mem_range.2 hk,?_⟩;rw[hl,Array.getElem?_eq_getElem hk];simp only[Bool.not_false,Bool.true_and,Option.map_some,Option.getD_some,Array.all_eq_true_iff_forall_mem];intro e he;have hek:=hlt k _ (Array.getElem?_eq_getElem hk) e he;have hl2:=ihk e.on hek (by omega);have hlo:e.on<listed.size:=by omega
       simp only[Array.getD_eq_getD_getElem?,Array.getElem?_eq_getElem hlo,Option.getD_some] at hl2 ⊢;simp[hl2]
      rw[h0] at hmem;cases hmem
   exact hF i hi (hall i hi)
  ·obtain⟨hi1,hi2,hi3⟩:=hdep i hi;have ho:=Array.getElem?_eq_getElem hi1;refine wpOp_mono (fun a' w' hh=>?_) (step i _ a w ho hI fun e he hb=>hF e.on (by have:=hlt i _ ho e he;omega) (hi3 _ ho e he hb));obtain⟨hI',hFi,hst⟩:=hh;refine ih _ a' w' (by simpa using hs) ?_ hI' fun j hj hl=>?_
   ·have:=unl_set hs hi1 hi2;omega
   ·by_cases e:j=i
    ·subst e;exact hFi
    ·refine hst j e (hF j hj ?_);simp only[Array.getD_eq_getD_getElem?,Array.getElem?_setIfInBounds,fun h=>e (Eq.symm h),if_false] at hl ⊢;rw[if_neg (fun h=>e h.symm)] at hl;exact hl

def puts (vs:Nat→Value):Nat→List Oper→Act→Act
 |_,[],a=>a
 |i,o :: os,a=>puts vs (i+1) os (a.put o.dst (vs i))
theorem qer (a:Act) (d:Option Tmp) (v:Value):(a.put d v).tmps.size=a.tmps.size:=by
 cases d with
 |none=>rfl
 |some d=>exact qdb d v
theorem qio (a:Act) (d:Option Tmp) (v:Value):(a.put d v).defers=a.defers:=by
 cases d<;>rfl
theorem qfv (a:Act) (d:Option Tmp) (v:Value) (s:Nat) (h:d≠some s):(a.put d v).tmps[s]? = a.tmps[s]?:=by
 cases d with
 |none=>rfl
 |some d=>exact put_ne v (fun e=>h (by rw[e]))
theorem qld (vs:Nat→Value) (l:List Oper):∀i a,(puts vs i l a).defers=a.defers:=by
 induction l with
 |nil=>intro i a;rfl
 |cons o l ih=>intro i a;rw[puts,ih,qio]
theorem puts_not (vs:Nat→Value) (l:List Oper) (s:Nat):∀i a,(∀o∈l,o.dst≠some s)→(puts vs i l a).tmps[s]? = a.tmps[s]?:=by
 induction l with
 |nil=>intro i a _;rfl
 |cons o l ih=>intro i a h;rw[puts,ih _ _ (fun x hx=>h x (List.mem_cons_of_mem _ hx)),qfv _ _ _ _ (h o List.mem_cons_self)]
theorem puts_at (vs:Nat→Value) (s:Nat) (l:List Oper):∀i j a o,(l.map (fun o=>o.dst)).Nodup→l[j]? = some o→o.dst=some s→s<a.tmps.size→(puts vs i l a).tmps[s]? = some (vs (i+j)):=by
 induction l with
 |nil=>intro i j a o _ h;simp at h
 |cons x l ih=>
  intro i j a o hnd hj hd hs;simp only[List.map_cons,List.nodup_cons] at hnd;cases j with
  |zero=>
   simp only[List.getElem?_cons_zero,Option.some.injEq] at hj;subst hj;rw[puts,puts_not vs l s _ _ (fun y hy e=>hnd.1 (by rw[hd,←e];exact List.mem_map.2 ⟨y,hy,rfl⟩)),hd];exact qde _ hs
  |succ j=>
   simp only[List.getElem?_cons_succ] at hj;rw[puts,ih (i+1) j _ o hnd.2 hj hd (by rw[qer];exact hs)]
   congr 2
   omega
structure KeepD (ops:Array Oper) (a a':Act):Prop where
 size:a'.tmps.size=a.tmps.size
 defers:a'.defers=a.defers
 slot:∀s,(∀o∈ops.toList,o.dst≠some s)→a'.tmps[s]? = a.tmps[s]?
theorem KeepD.at {ops:Array Oper} {a a':Act} (h:KeepD ops a a') (s:Nat) (hs:(ops.toList.all fun o=>!(o.dst==some s))=true):a'.tmps[s]? = a.tmps[s]? :=
 h.slot s fun o ho=>by
  have:=List.all_eq_true.1 hs o ho
  simpa using this
theorem puts_is {ops:Array Oper} {a a':Act} (h:KeepD ops a a') (hnd:(ops.toList.map (fun o=>o.dst)).Nodup) (hsm:∀o∈ops.toList,∃d,o.dst=some d∧d<a.tmps.size)
  (vs:Nat→Value) (hv:∀(i:Nat) (o:Oper) (d:Nat),ops[i]? = some o→o.dst=some d→a'.tmps[d]? = some (vs i)):a'=puts vs 0 ops.toList a:=by
 have e1:a'.tmps=(puts vs 0 ops.toList a).tmps:=by
  apply Array.ext_getElem?
  intro s
  by_cases hs:∃o∈ops.toList,o.dst=some s
  ·obtain⟨o,ho,hd⟩:=hs;obtain⟨j,hj⟩:=List.mem_iff_getElem?.1 ho;obtain⟨d,hd',hlt⟩:=hsm o ho;obtain rfl:d=s:=Option.some.inj (hd'.symm.trans hd);rw[puts_at vs d ops.toList 0 j a o hnd hj hd hlt,hv j o d (by simpa using hj) hd,Nat.zero_add]
  ·rw[h.slot s (fun o ho e=>hs ⟨o,ho,e⟩),puts_not vs _ _ _ _ (fun o ho e=>hs ⟨o,ho,e⟩)]
 have e2:a'.defers=(puts vs 0 ops.toList a).defers:=by rw[qld,h.defers]
 obtain⟨t,dd⟩:=a';generalize hp:puts vs 0 ops.toList a=p at *;obtain⟨t',dd'⟩:=p;simp only at e1 e2;rw[e1,e2]

end

section
variable {P : Program} {ops : Array Oper} {Q : Exit → Act → World → Prop}
def qmm (n:Nat) (l:List Oper):Bool :=
 (l.all fun o=>match o.dst with | some d=>decide (d<n) | none=>false)&&decide ((l.map (fun o=>o.dst)).Nodup)&&((List.range l.length).all fun i=>match l[i]? with | some o=>o.after.toList.all (fun e=>decide (e.on<i)) | none=>true)

theorem qar {id:Nat} {l:List Oper} {a0:Act} {w0:World} (hm:P.follows .mixedOrders=true) (hshape:qmm a0.tmps.size l=true)
  (G:Nat→Value→World→Prop) (stable:∀(i:Nat) (v:Value) (w w':World),Below w.heap.size w w'→G i v w→G i v w')
  (step:∀(i:Nat) (o:Oper) (a:Act) (w:World),l[i]? = some o→KeepD l.toArray a0 a→Below w0.heap.size w0 w→(∀j oj d,(o.after.toList.any fun e=>e.on==j&&Region.binds .any e)=true→l[j]? = some oj→oj.dst=some d→∃v,a.tmps[d]? = some v∧G j v w) →
   if Region.wanted o (yielded l.toArray a.tmps)=true then Oper.wp P o a w (fun a' w'=>∃v,a'=a.put o.dst v∧Below w.heap.size w w'∧G i v w') Q else G i undef w)
  (fin:∀(vs:Nat→Value) (w:World),Below w0.heap.size w0 w→(∀i,i<l.length→G i (vs i) w)→∀a,puts vs 0 l a0=a→Q .normal a w) :
  (Code.region id l.toArray true).wp P Q a0 w0:=by
 simp only[qmm,Bool.and_eq_true,decide_eq_true_eq,List.all_eq_true] at hshape;obtain⟨⟨h1,hnd⟩,h3⟩:=hshape;have hd:∀o∈l,∃d,o.dst=some d∧d<a0.tmps.size:=by
  intro o ho;have:=h1 o ho;cases e:o.dst with
  |none=>simp[e] at this
  |some d=>exact⟨d,rfl,by simpa[e] using this⟩
 have h4:∀(i:Nat) (o:Oper),l[i]? = some o→(∀e∈o.after,e.on<i):=by
  intro i o ho;have hi:i<l.length:=(List.getElem?_eq_some_iff.1 ho).1;have:=h3 i (List.mem_range.2 hi);rw[ho] at this;simp only[List.all_eq_true,decide_eq_true_eq] at this;exact fun e he=>this e (Array.mem_toList_iff.2 he)
 refine wp_region_any hm ?_;refine qpk (fun i o ho=>h4 i o (by simpa using ho)) (fun a w=>KeepD l.toArray a0 a∧Below w0.heap.size w0 w) (fun i a w=>∀o d,l[i]? = some o→o.dst=some d→∃v,a.tmps[d]? = some v∧G i v w) ?_ ?_ _ _ _ _ ?_ ?_ ?_ ?_
 ·intro i o a w hi hI hdeps;have hi':l[i]? = some o:=by simpa using hi
  obtain⟨hk,hb⟩:=hI;obtain⟨d,hdd,hds⟩:=hd o (List.mem_of_getElem? hi');refine wpOp_step hi fun K' hK'=>?_
  have fin1:∀(a':Act) (w':World),(∃v,a'=a.put o.dst v∧Below w.heap.size w w'∧G i v w')→K' a' w':=by
   intro a' w' hh;refine hK' a' w' ?_;obtain⟨v,rfl,hb',hG⟩:=hh;refine⟨⟨⟨by rw[qer,hk.size],by rw[qio,hk.defers],fun s hs=>?_⟩,hb.trans (hb'.mono hb.size)⟩,?_,?_⟩
   ·rw[qfv _ _ _ _ (hs o (by simpa using List.mem_of_getElem? hi')),hk.slot s hs]
   ·intro o2 d2 ho2 hd2;obtain rfl:o2=o:=Option.some.inj (ho2.symm.trans hi');refine⟨v,?_,hG⟩;rw[hd2];exact qde v (by rw[hk.size];obtain rfl:d=d2:=Option.some.inj (hdd.symm.trans hd2);exact hds)
   ·intro j hj hF o2 d2 ho2 hd2;obtain⟨u,hu,hg⟩:=hF o2 d2 ho2 hd2;refine⟨u,?_,stable j u w w' hb' hg⟩;rw[qfv _ _ _ _ ?_]
    ·exact hu
    ·intro e;refine hj ?_;have hi1:i<l.length:=(List.getElem?_eq_some_iff.1 hi').1;have hj1:j<l.length:=(List.getElem?_eq_some_iff.1 ho2).1;have q1:(l.map (fun o=>o.dst))[i]? = some (some d2):=by rw[List.getElem?_map,hi',Option.map_some,e]
     have q2:(l.map (fun o=>o.dst))[j]? = some (some d2):=by rw[List.getElem?_map,ho2,Option.map_some,hd2]
     exact (List.getElem?_inj (by simpa using hj1) hnd).1 (q2.trans q1.symm)
  have st:=step i o a w hi' hk hb (by
   intro j oj dj hj hoj hdj;rw[List.any_eq_true] at hj;obtain⟨e,he,hej⟩:=hj;rw[Bool.and_eq_true] at hej;obtain rfl:e.on=j:=by simpa using hej.1
   exact hdeps e (Array.mem_toList_iff.1 he) hej.2 oj dj hoj hdj)
  split at st
  ·rename_i hw
   rw[if_pos hw];exact Oper.wp_mono fin1 st
  ·rename_i hw
   rw[if_neg hw];exact fin1 _ _ ⟨undef,rfl,Below.refl _ _,st⟩
 ·intro a w hI hF;obtain⟨hk,hb⟩:=hI;have hvs:∀i:Nat,∃v,∀o d,l[i]? = some o→o.dst=some d→a.tmps[d]? = some v∧G i v w:=by
   intro i
   by_cases hi:i<l.length
   ·obtain⟨d,hdd,_⟩:=hd l[i] (List.getElem_mem hi);obtain⟨v,hv,hg⟩:=hF i (by simpa using hi) _ d (List.getElem?_eq_getElem hi) hdd;refine⟨v,fun o d' ho hd'=>?_⟩;obtain rfl:l[i]=o:=Option.some.inj ((List.getElem?_eq_getElem hi).symm.trans ho);obtain rfl:d=d':=Option.some.inj (hdd.symm.trans hd');exact⟨hv,hg⟩
   ·refine⟨undef,fun o d ho _=>?_⟩;rw[List.getElem?_eq_none (by omega)] at ho;cases ho
  have hch:=fun i=>Classical.choose_spec (hvs i)
  have e:=puts_is (ops:=l.toArray) (a:=a0) (a':=a) hk (by simpa using hnd) (by simpa using hd) (fun i=>Classical.choose (hvs i)) (fun i o d ho hdd=>(hch i o d (by simpa using ho) hdd).1);rw[e];refine fin _ w hb (fun i hi=>?_) _ rfl;obtain⟨d,hdd,_⟩:=hd l[i] (List.getElem_mem hi);exact (hch i _ d (List.getElem?_eq_getElem hi) hdd).2
 ·simp
 ·have:unl l.toArray.size (Array.replicate l.toArray.size false)≤(List.range l.toArray.size).length:=List.length_filter_le _ _
  simpa using this
 ·exact⟨⟨rfl,rfl,fun _ _=>rfl⟩,⟨rfl,rfl,rfl,Nat.le_refl _,fun _ _=>rfl⟩⟩
 ·intro i hi hl;have hi':i<(Array.replicate l.toArray.size false).size:=by simpa using hi
  rw[Array.getD_eq_getD_getElem?,Array.getElem?_eq_getElem hi'] at hl;simp at hl
theorem g_run {o:Oper} {y:Nat→Option Bool} {A B:Prop} (hw:Region.wanted o y=true) (h:A):if Region.wanted o y=true then A else B:=by rw[if_pos hw];exact h
theorem qdl {o:Oper} {y:Nat→Option Bool} {A B:Prop} (hw:Region.wanted o y=false) (h:B):if Region.wanted o y=true then A else B:=by rw[if_neg (by rw[hw];decide)];exact h
theorem qej {vs:Nat→Value} {l:List Oper} {a0 a3:Act} (h3:puts vs 0 l a0=a3) (hsh:qmm a0.tmps.size l=true) (j:Nat) {o:Oper} {s:Nat} (hj:l[j]? = some o) (hd:o.dst=some s):a3.tmps[s]? = some (vs j):=by
 simp only[qmm,Bool.and_eq_true,decide_eq_true_eq,List.all_eq_true] at hsh;obtain⟨⟨h1,hnd⟩,_⟩:=hsh;have:=h1 o (List.mem_of_getElem? hj);rw[hd] at this;rw[←h3,puts_at vs s l 0 j a0 o hnd hj hd (of_decide_eq_true this),Nat.zero_add]
theorem qgh {vs:Nat→Value} {l:List Oper} {a0 a3:Act} (h3:puts vs 0 l a0=a3):a3.defers=a0.defers:=by rw[←h3,qld]
end

section
variable {P : Program} {ops : Array Oper} {Q : Exit → Act → World → Prop}

theorem qmd (hlt:∀(i:Nat) (o:Oper),ops[i]? = some o→∀e∈o.after,e.on<i) {listed:Array Bool} (hs:listed.size=ops.size) (h0:Region.ready .any ops listed = []):∀k,k<ops.size→listed.getD k true=true:=by
 intro k
 induction k using Nat.strongRecOn with
 |_ k ihk=>
  intro hk;cases hl:listed.getD k true with
  |true=>rfl
  |false=>
   exfalso
   have hmem:k∈Region.ready .any ops listed:=by
    unfold Region.ready;rw[List.mem_filter];refine⟨List.mem_range.2 hk,?_⟩;rw[hl,Array.getElem?_eq_getElem hk];simp only[Bool.not_false,Bool.true_and,Option.map_some,Option.getD_some,Array.all_eq_true_iff_forall_mem];intro e he;have hek:=hlt k _ (Array.getElem?_eq_getElem hk) e he;have hl2:=ihk e.on hek (by omega);have hlo:e.on<listed.size:=by omega
    simp only[Array.getD_eq_getD_getElem?,Array.getElem?_eq_getElem hlo,Option.getD_some] at hl2 ⊢;simp[hl2]
   rw[h0] at hmem;cases hmem
theorem qml (hlt:∀(i:Nat) (o:Oper),ops[i]? = some o→∀e∈o.after,e.on<i) {listed:Array Bool} (hs:listed.size=ops.size) {i:Nat} (hi:i∈Region.ready .any ops listed):i<ops.size∧listed.getD i true=false∧∀o,ops[i]? = some o→∀e∈o.after,Region.binds .any e=true→listed.getD e.on true=true:=by
 unfold Region.ready at hi;rw[List.mem_filter] at hi;obtain⟨h1,h2⟩:=hi;have hi':=List.mem_range.1 h1;rw[Bool.and_eq_true] at h2;refine⟨hi',by simpa using h2.1,fun o ho e he hb=>?_⟩;have h3:=h2.2;rw[ho] at h3;simp only[Option.map_some,Option.getD_some,Array.all_eq_true_iff_forall_mem] at h3;have h4:=h3 e he;rw[hb] at h4;have hlo:e.on<listed.size:=by have:=hlt i o ho e he;omega
 simp only[Bool.not_true,Bool.false_or] at h4
 simpa[Array.getD_eq_getD_getElem?,Array.getElem?_eq_getElem hlo] using h4
theorem qcf {listed:Array Bool} {i j:Nat} (h:j≠i):(listed.setIfInBounds i true).getD j true=listed.getD j true:=by
 simp only[Array.getD_eq_getD_getElem?,Array.getElem?_setIfInBounds];rw[if_neg (fun e=>h e.symm)]
theorem qkg {listed:Array Bool} {i:Nat} : (listed.setIfInBounds i true).getD i true=true:=by
 simp only[Array.getD_eq_getD_getElem?,Array.getElem?_setIfInBounds,if_true]
 split<;>rfl

theorem wpAny_tail {N:Nat} (hlt:∀(i:Nat) (o:Oper),ops[i]? = some o→∀e∈o.after,e.on<i)
  (hch:∀(k:Nat) (o:Oper),N<k→ops[k]? = some o→∃e∈o.after,Region.binds .any e=true∧e.on+1=k) :
  ∀(m k fuel:Nat) (listed:Array Bool) (a:Act) (w:World),k+m=ops.size→N≤k→listed.size=ops.size→m≤fuel→(∀i,i<k→listed.getD i true=true)→(∀i,k≤i→i<ops.size→listed.getD i true=false) →
   wpList P ops Q (ops.toList.drop k) a w→wpAny P .any ops Q fuel listed a w:=by
 intro m
 induction m with
 |zero=>
  intro k fuel listed a w hk hN hs hf h1 h2 h;rw[List.drop_of_length_le (by simp;omega)] at h;have hr:Region.ready .any ops listed = []:=by
   unfold Region.ready;rw[List.filter_eq_nil_iff];intro i hi;rw[h1 i (by have:=List.mem_range.1 hi;omega)];simp
  cases fuel with
  |zero=>exact⟨hr,h⟩
  |succ fuel=>exact⟨fun _=>h,fun i hi=>by rw[hr] at hi;cases hi⟩
 |succ m ih=>
  intro k fuel listed a w hk hN hs hf h1 h2 h;obtain⟨fuel,rfl⟩ : ∃f,fuel=f+1:=⟨fuel-1,by omega⟩;have hks:k<ops.size:=by omega
  refine⟨fun h0=>?_,fun i hi=>?_⟩
  ·have:=qmd hlt hs h0 k hks;rw[h2 k (Nat.le_refl _) hks] at this;cases this
  ·obtain⟨hi1,hi2,hi3⟩:=qml hlt hs hi;have hik:i=k:=by
    rcases Nat.lt_trichotomy i k with c | c | c
    ·rw[h1 i c] at hi2;cases hi2
    ·exact c
    ·exfalso
     have ho:=Array.getElem?_eq_getElem hi1;obtain⟨e,he,hb,hon⟩:=hch i _ (by omega) ho;have:=hi3 _ ho e he hb;rw[h2 e.on (by omega) (by omega)] at this;cases this
   subst hik;have hd:ops.toList.drop i=ops[i] :: ops.toList.drop (i+1):=by
    rw[List.drop_eq_getElem_cons (by simpa using hks)];simp
   rw[hd] at h;have ho:=Array.getElem?_eq_getElem hks;have key:∀a' w',wpList P ops Q (ops.toList.drop (i+1)) a' w'→wpAny P .any ops Q fuel (listed.setIfInBounds i true) a' w':=by
    intro a' w' h';refine ih (i+1) fuel _ a' w' (by omega) (by omega) (by simpa using hs) (by omega) (fun j hj=>?_) (fun j hj hjs=>?_) h'
    ·by_cases e:j=i
     ·rw[e];exact qkg
     ·rw[qcf e];exact h1 j (by omega)
    ·rw[qcf (by omega)];exact h2 j (by omega) hjs
   unfold wpOp;rw[ho];simp only;unfold wpList at h
   split
   ·rename_i hw
    rw[if_pos hw] at h;exact h.imp (Oper.wp_mono key) id
   ·rename_i hw
    rw[if_neg hw] at h;exact key _ _ h

def reach (ops:Array Oper):Nat→Nat→Nat→Bool
 |0,_,_=>false
 |f+1,j,i=>match ops[j]? with | none=>false | some o=>o.after.toList.any fun e=>Region.binds .any e&&(e.on==i || reach ops f e.on i)
theorem qoc {listed:Array Bool} (hc:∀j o,ops[j]? = some o→listed.getD j true=true→∀e∈o.after,Region.binds .any e=true→listed.getD e.on true=true) :
  ∀f j i,reach ops f j i=true→listed.getD j true=true→listed.getD i true=true:=by
 intro f
 induction f with
 |zero=>intro j i h;simp[reach] at h
 |succ f ih=>
  intro j i h hj;unfold reach at h;cases ho:ops[j]? with
  |none=>simp[ho] at h
  |some o=>
   simp only[ho,List.any_eq_true,Bool.and_eq_true,Bool.or_eq_true,beq_iff_eq] at h;obtain⟨e,he,hb,h⟩:=h;have h1:=hc j o ho hj e (Array.mem_toList_iff.1 he) hb
   rcases h with rfl | h
   ·exact h1
   ·exact ih _ _ h h1
theorem reach_dep {listed:Array Bool} (hc:∀j o,ops[j]? = some o→listed.getD j true=true→∀e∈o.after,Region.binds .any e=true→listed.getD e.on true=true) {f j i:Nat} (h:reach ops f j i=true) (hj:∀o,ops[j]? = some o→∀e∈o.after,Region.binds .any e=true→listed.getD e.on true=true):listed.getD i true=true:=by
 cases f with
 |zero=>simp[reach] at h
 |succ f=>
  unfold reach at h;cases ho:ops[j]? with
  |none=>simp[ho] at h
  |some o=>
   simp only[ho,List.any_eq_true,Bool.and_eq_true,Bool.or_eq_true,beq_iff_eq] at h;obtain⟨e,he,hb,h⟩:=h;have h1:=hj o ho e (Array.mem_toList_iff.1 he) hb
   rcases h with rfl | h
   ·exact h1
   ·exact qoc hc f _ _ h h1

theorem qpl (N:Nat) (hNs:N<ops.size) (hlt:∀(i:Nat) (o:Oper),ops[i]? = some o→∀e∈o.after,e.on<i)
  (hch:∀(k:Nat) (o:Oper),N<k→ops[k]? = some o→∃e∈o.after,Region.binds .any e=true∧e.on+1=k)
  (hre:∀i,i<N→reach ops ops.size N i=true)
  (I:Act→World→Prop) (F:Nat→Act→World→Prop)
  (step:∀(i:Nat) (o:Oper) (a:Act) (w:World),i<N→ops[i]? = some o→I a w→(∀e∈o.after,Region.binds .any e=true→F e.on a w) →
   wpOp P ops Q i (fun a' w'=>I a' w'∧F i a' w'∧∀j,j≠i→F j a w→F j a' w') a w)
  (fin:∀(a:Act) (w:World),I a w→(∀i,i<N→F i a w)→wpList P ops Q (ops.toList.drop N) a w) :
  ∀(fuel:Nat) (listed:Array Bool) (a:Act) (w:World),listed.size=ops.size→unl ops.size listed≤fuel→ops.size-N≤fuel →
   (∀i,N≤i→i<ops.size→listed.getD i true=false)→(∀j o,ops[j]? = some o→listed.getD j true=true→∀e∈o.after,Region.binds .any e=true→listed.getD e.on true=true) →
   I a w→(∀i,i<N→listed.getD i true=true→F i a w)→wpAny P .any ops Q fuel listed a w:=by
 intro fuel
 induction fuel with
 |zero=>intro listed a w hs hu hf;omega
 |succ fuel ih=>
  intro listed a w hs hu hf h2 hc hI hF
  by_cases hall:∀i,i<N→listed.getD i true=true
  ·exact wpAny_tail hlt hch (ops.size-N) N (fuel+1) listed a w (by omega) (Nat.le_refl _) hs hf hall h2 (fin a w hI fun i hi=>hF i hi (hall i hi))
  refine⟨fun h0=>?_,fun i hi=>?_⟩
  ·have:=qmd hlt hs h0 N hNs;rw[h2 N (Nat.le_refl _) hNs] at this;cases this
  ·obtain⟨hi1,hi2,hi3⟩:=qml hlt hs hi;have ho:=Array.getElem?_eq_getElem hi1;have hiN:i<N:=by
    rcases Nat.lt_trichotomy i N with c | c | c
    ·exact c
    ·exfalso
     subst c;exact hall fun j hj=>reach_dep hc (hre j hj) hi3
    ·exfalso
     obtain⟨e,he,hb,hon⟩:=hch i _ c ho;have:=hi3 _ ho e he hb;rw[h2 e.on (by omega) (by omega)] at this;cases this
   refine wpOp_mono (fun a' w' hh=>?_) (step i _ a w hiN ho hI fun e he hb=>hF e.on (by have:=hlt i _ ho e he;omega) (hi3 _ ho e he hb));obtain⟨hI',hFi,hst⟩:=hh;have hul:=unl_set hs hi1 hi2;refine ih _ a' w' (by simpa using hs) (by omega) ?_ (fun j hj hjs=>?_) ?_ hI' fun j hj hl=>?_
   ·-- the rest is still to come
    have hsub:ops.size-N≤unl ops.size (listed.setIfInBounds i true):=by
     have e1:List.range ops.size=List.range N++List.range' N (ops.size-N):=by
      have:=List.range'_append (s:=0) (m:=N) (n:=ops.size-N) (step:=1);rw[Nat.one_mul,Nat.zero_add,show N+(ops.size-N)=ops.size by omega] at this;rw[List.range_eq_range',List.range_eq_range'];exact this.symm
     have e2:((List.range' N (ops.size-N)).filter fun i'=>!(listed.setIfInBounds i true).getD i' true)=List.range' N (ops.size-N):=by
      rw[List.filter_eq_self];intro x hx;rw[List.mem_range'_1] at hx;rw[qcf (by omega),h2 x (by omega) (by omega)];rfl
     unfold unl;rw[e1,List.filter_append,e2,List.length_append,List.length_range'];omega
    omega
   ·rw[qcf (by omega)];exact h2 j hj hjs
   ·intro j o hoj hl e he hb
    by_cases ej:j=i
    ·subst ej;have:=hi3 o hoj e he hb;have hne:e.on≠j:=by have:=hlt j o hoj e he;omega
     rw[qcf hne];exact this
    ·rw[qcf ej] at hl;have:=hc j o hoj hl e he hb
     by_cases ee:e.on=i
     ·rw[ee];exact qkg
     ·rw[qcf ee];exact this
   ·by_cases e:j=i
    ·subst e;exact hFi
    ·rw[qcf e] at hl;exact hst j e (hF j hj hl)

def shapeS (n:Nat) (l t:List Oper):Bool :=
 qmm n l&&(decide (0<t.length)&&(((List.range (l++t).length).all fun i=>match (l++t)[i]? with | some o=>o.after.toList.all (fun e=>decide (e.on<i)) | none=>true) &&
  (((List.range (l++t).length).all fun k=>decide (k≤l.length) || (match (l++t)[k]? with | some o=>o.after.toList.any (fun e=>Region.binds .any e&&decide (e.on+1=k)) | none=>true)) &&
  (List.range l.length).all fun i=>reach (l++t).toArray (l++t).length l.length i)))

theorem qod {id:Nat} {l t:List Oper} {a0:Act} {w0:World} (hm:P.follows .mixedOrders=true) (hshape:shapeS a0.tmps.size l t=true)
  (G:Nat→Value→World→Prop) (stable:∀(i:Nat) (v:Value) (w w':World),Below w.heap.size w w'→G i v w→G i v w')
  (step:∀(i:Nat) (o:Oper) (a:Act) (w:World),l[i]? = some o→KeepD l.toArray a0 a→Below w0.heap.size w0 w→(∀j oj d,(o.after.toList.any fun e=>e.on==j&&Region.binds .any e)=true→l[j]? = some oj→oj.dst=some d→∃v,a.tmps[d]? = some v∧G j v w) →
   if Region.wanted o (yielded (l++t).toArray a.tmps)=true then Oper.wp P o a w (fun a' w'=>∃v,a'=a.put o.dst v∧Below w.heap.size w w'∧G i v w') Q else G i undef w)
  (fin:∀(vs:Nat→Value) (w:World),Below w0.heap.size w0 w→(∀i,i<l.length→G i (vs i) w)→∀a,puts vs 0 l a0=a→wpList P (l++t).toArray Q t a w) :
  (Code.region id (l++t).toArray true).wp P Q a0 w0:=by
 simp only[shapeS,Bool.and_eq_true,decide_eq_true_eq,List.all_eq_true,Bool.or_eq_true] at hshape;obtain⟨hsg,ht,h5,h6,h7⟩:=hshape;simp only[qmm,Bool.and_eq_true,decide_eq_true_eq,List.all_eq_true] at hsg;obtain⟨⟨h1,hnd⟩,h3⟩:=hsg;have hd:∀o∈l,∃d,o.dst=some d∧d<a0.tmps.size:=by
  intro o ho;have:=h1 o ho;cases e:o.dst with
  |none=>simp[e] at this
  |some d=>exact⟨d,rfl,by simpa[e] using this⟩
 have hlt:∀(i:Nat) (o:Oper),(l++t).toArray[i]? = some o→∀e∈o.after,e.on<i:=by
  intro i o ho;have ho':(l++t)[i]? = some o:=by simpa using ho
  have hi:i<(l++t).length:=(List.getElem?_eq_some_iff.1 ho').1;have:=h5 i (List.mem_range.2 hi);rw[ho'] at this;simp only[List.all_eq_true,decide_eq_true_eq] at this;exact fun e he=>this e (Array.mem_toList_iff.2 he)
 have hat:∀i o,i<l.length→(l++t).toArray[i]? = some o→l[i]? = some o:=by
  intro i o hi ho;have ho':(l++t)[i]? = some o:=by simpa using ho
  rwa [List.getElem?_append_left hi] at ho'
 have hsz:(l++t).toArray.size=l.length+t.length:=by simp
 refine wp_region_any hm ?_;refine qpl (ops:=(l++t).toArray) l.length (by omega) hlt ?_ ?_ (fun a w=>KeepD l.toArray a0 a∧Below w0.heap.size w0 w) (fun i a w=>∀o d,l[i]? = some o→o.dst=some d→∃v,a.tmps[d]? = some v∧G i v w) ?_ ?_ _ _ _ _ ?_ ?_ ?_ ?_ ?_ ?_ ?_
 ·intro k o hk ho;have ho':(l++t)[k]? = some o:=by simpa using ho
  have hi:k<(l++t).length:=(List.getElem?_eq_some_iff.1 ho').1;have:=h6 k (List.mem_range.2 hi);rw[ho'] at this
  rcases this with c | c
  ·omega
  ·simp only[List.any_eq_true,Bool.and_eq_true,decide_eq_true_eq] at c;obtain⟨e,he,hb,hon⟩:=c;exact⟨e,Array.mem_toList_iff.1 he,hb,hon⟩
 ·intro i hi;have:=h7 i (List.mem_range.2 hi)
  simpa using this
 ·intro i o a w hil hi hI hdeps;have hi':l[i]? = some o:=hat i o hil hi;obtain⟨hk,hb⟩:=hI;obtain⟨d,hdd,hds⟩:=hd o (List.mem_of_getElem? hi');refine wpOp_step hi fun K' hK'=>?_
  have fin1:∀(a':Act) (w':World),(∃v,a'=a.put o.dst v∧Below w.heap.size w w'∧G i v w')→K' a' w':=by
   intro a' w' hh;refine hK' a' w' ?_;obtain⟨v,rfl,hb',hG⟩:=hh;refine⟨⟨⟨by rw[qer,hk.size],by rw[qio,hk.defers],fun s hs=>?_⟩,hb.trans (hb'.mono hb.size)⟩,?_,?_⟩
   ·rw[qfv _ _ _ _ (hs o (by simpa using List.mem_of_getElem? hi')),hk.slot s hs]
   ·intro o2 d2 ho2 hd2;obtain rfl:o2=o:=Option.some.inj (ho2.symm.trans hi');refine⟨v,?_,hG⟩;rw[hd2];exact qde v (by rw[hk.size];obtain rfl:d=d2:=Option.some.inj (hdd.symm.trans hd2);exact hds)
   ·intro j hj hF o2 d2 ho2 hd2;obtain⟨u,hu,hg⟩:=hF o2 d2 ho2 hd2;refine⟨u,?_,stable j u w w' hb' hg⟩;rw[qfv _ _ _ _ ?_]
    ·exact hu
    ·intro e;refine hj ?_;have hi1:i<l.length:=(List.getElem?_eq_some_iff.1 hi').1;have hj1:j<l.length:=(List.getElem?_eq_some_iff.1 ho2).1;have q1:(l.map (fun o=>o.dst))[i]? = some (some d2):=by rw[List.getElem?_map,hi',Option.map_some,e]
     have q2:(l.map (fun o=>o.dst))[j]? = some (some d2):=by rw[List.getElem?_map,ho2,Option.map_some,hd2]
     exact (List.getElem?_inj (by simpa using hj1) hnd).1 (q2.trans q1.symm)
  have st:=step i o a w hi' hk hb (by
   intro j oj dj hj hoj hdj;rw[List.any_eq_true] at hj;obtain⟨e,he,hej⟩:=hj;rw[Bool.and_eq_true] at hej;obtain rfl:e.on=j:=by simpa using hej.1
   exact hdeps e (Array.mem_toList_iff.1 he) hej.2 oj dj hoj hdj)
  split at st
  ·rename_i hw
   rw[if_pos hw];exact Oper.wp_mono fin1 st
  ·rename_i hw
   rw[if_neg hw];exact fin1 _ _ ⟨undef,rfl,Below.refl _ _,st⟩
 ·intro a w hI hF;obtain⟨hk,hb⟩:=hI;have hvs:∀i:Nat,∃v,∀o d,l[i]? = some o→o.dst=some d→a.tmps[d]? = some v∧G i v w:=by
   intro i
   by_cases hi:i<l.length
   ·obtain⟨d,hdd,_⟩:=hd l[i] (List.getElem_mem hi);obtain⟨v,hv,hg⟩:=hF i hi _ d (List.getElem?_eq_getElem hi) hdd;refine⟨v,fun o d' ho hd'=>?_⟩;obtain rfl:l[i]=o:=Option.some.inj ((List.getElem?_eq_getElem hi).symm.trans ho);obtain rfl:d=d':=Option.some.inj (hdd.symm.trans hd');exact⟨hv,hg⟩
   ·refine⟨undef,fun o d ho _=>?_⟩;rw[List.getElem?_eq_none (by omega)] at ho;cases ho
  have hch:=fun i=>Classical.choose_spec (hvs i)
  have e:=puts_is (ops:=l.toArray) (a:=a0) (a':=a) hk (by simpa using hnd) (by simpa using hd) (fun i=>Classical.choose (hvs i)) (fun i o d ho hdd=>(hch i o d (by simpa using ho) hdd).1);rw[e];have:=fin _ w hb (fun i hi=>by
   obtain⟨d,hdd,_⟩:=hd l[i] (List.getElem_mem hi);exact (hch i _ d (List.getElem?_eq_getElem hi) hdd).2) _ rfl
  simpa using this
 ·simp
 ·have:unl (l++t).toArray.size (Array.replicate (l++t).toArray.size false)≤(List.range (l++t).toArray.size).length:=List.length_filter_le _ _
  simpa using this
 ·omega
 ·intro i _ hi;have hi':i<(Array.replicate (l++t).toArray.size false).size:=by simpa using hi
  rw[Array.getD_eq_getD_getElem?,Array.getElem?_eq_getElem hi'];simp
 ·intro j o ho hl;have hj:j<(l++t).toArray.size:=(Array.getElem?_eq_some_iff.1 ho).1;have hj':j<(Array.replicate (l++t).toArray.size false).size:=by simpa using hj
  rw[Array.getD_eq_getD_getElem?,Array.getElem?_eq_getElem hj'] at hl;simp at hl
 ·exact⟨⟨rfl,rfl,fun _ _=>rfl⟩,⟨rfl,rfl,rfl,Nat.le_refl _,fun _ _=>rfl⟩⟩
 ·intro i hi hl;have hi':i<(Array.replicate (l++t).toArray.size false).size:=by simp;omega
  rw[Array.getD_eq_getD_getElem?,Array.getElem?_eq_getElem hi'] at hl;simp at hl
theorem qcb (n:Nat) {id:Nat} {ll:List Oper} {a0:Act} {w0:World} (hm:P.follows .mixedOrders=true) (hshape:shapeS a0.tmps.size (ll.take n) (ll.drop n)=true)
  (G:Nat→Value→World→Prop) (stable:∀(i:Nat) (v:Value) (w w':World),Below w.heap.size w w'→G i v w→G i v w')
  (step:∀(i:Nat) (o:Oper) (a:Act) (w:World),(ll.take n)[i]? = some o→KeepD (ll.take n).toArray a0 a→Below w0.heap.size w0 w→(∀j oj d,(o.after.toList.any fun e=>e.on==j&&Region.binds .any e)=true→(ll.take n)[j]? = some oj→oj.dst=some d→∃v,a.tmps[d]? = some v∧G j v w) →
   if Region.wanted o (yielded ll.toArray a.tmps)=true then Oper.wp P o a w (fun a' w'=>∃v,a'=a.put o.dst v∧Below w.heap.size w w'∧G i v w') Q else G i undef w)
  (fin:∀(vs:Nat→Value) (w:World),Below w0.heap.size w0 w→(∀i,i<(ll.take n).length→G i (vs i) w)→∀a,puts vs 0 (ll.take n) a0=a→wpList P ll.toArray Q (ll.drop n) a w) :
  (Code.region id ll.toArray true).wp P Q a0 w0:=by
 have e:ll.take n++ll.drop n=ll:=List.take_append_drop n ll;have:=qod (id:=id) (l:=ll.take n) (t:=ll.drop n) (a0:=a0) (w0:=w0) (Q:=Q) hm hshape G stable (by rw[e];exact step) (by rw[e];exact fin)
 rwa [e] at this
end
