/- Lemmas. -/
import Derived.RegionTactic
import Derived.Test.YtpjkbgdkligpdaaGreatDoorY03
set_option linter.all false
set_option maxRecDepth 100000
set_option maxHeartbeats 20000000
namespace Go.Proofs.YtpjkbgdkligpdaaGreatDoor
open Go.RowKit

section
variable {P : Program} {ops : Array Oper} {Q : Exit → Act → World → Prop}

def unl (n:Nat) (listed:Array Bool):Nat:=((List.range n).filter fun i=>!listed.getD i true).length
theorem unl_zero {n:Nat} {listed:Array Bool} (h:unl n listed=0):∀i,i<n→listed.getD i true=true:=by
 intro i hi;have h0:=List.eq_nil_of_length_eq_zero h;rw[List.filter_eq_nil_iff] at h0
 simpa using h0 i (List.mem_range.2 hi)
theorem qnn {α:Type} (p q:α→Bool) (l:List α) (h:∀x,x∈l→q x=true→p x=true) (y:α) (hy:y∈l) (hp:p y=true) (hq:q y=false):(l.filter q).length<(l.filter p).length:=by
 have hle:∀m:List α,(∀x,x∈m→q x=true→p x=true)→(m.filter q).length≤(m.filter p).length:=by
  intro m
  induction m with
  |nil=>intro _;simp
  |cons x m ih=>
   intro hh;have:=ih (fun z hz=>hh z (List.mem_cons_of_mem _ hz));simp only[List.filter_cons];have hx:=hh x List.mem_cons_self;cases e1:q x<;>cases e2:p x<;>simp_all<;>omega
 induction l with
 |nil=>simp at hy
 |cons x l ih=>
  have h':=fun z hz=>h z (List.mem_cons_of_mem _ hz)
  rcases List.mem_cons.1 hy with rfl | hm
  ·simp only[List.filter_cons,hp,hq,if_true,Bool.false_eq_true,if_false,List.length_cons];have:=hle l h';omega
  ·have:=ih h' hm;have hx:=h x List.mem_cons_self;simp only[List.filter_cons];cases e1:q x<;>cases e2:p x<;>simp_all<;>omega
theorem qsm {n i:Nat} {listed:Array Bool} (hs:listed.size=n) (hi:i<n) (hl:listed.getD i true=false):unl n (listed.setIfInBounds i true)<unl n listed:=by
 refine qnn _ _ _ (fun x hx hq=>?_) i (List.mem_range.2 hi) (by simp[hl]) (by simp[hs,hi]);have hxn:=List.mem_range.1 hx
 by_cases e:i=x
 ·subst e;simp[hs,hi] at hq
 ·simp only[Array.getD_eq_getD_getElem?,Array.getElem?_setIfInBounds,e,if_false] at hq ⊢;exact hq

theorem qvu (hlt:∀(i:Nat) (o:Oper),ops[i]? = some o→∀e∈o.after,e.on<i) (I:Act→World→Prop) (F:Nat→Act→World→Prop)
  (step:∀(i:Nat) (o:Oper) (a:Act) (w:World),ops[i]? = some o→I a w→(∀e∈o.after,Region.binds .any e=true→F e.on a w) →
   wpOp P ops Q i (fun a' w'=>I a' w'∧F i a' w'∧∀j,j≠i→F j a w→F j a' w') a w)
  (fin:∀(a:Act) (w:World),I a w→(∀i,i<ops.size→F i a w)→Q .normal a w) :
  ∀(fuel:Nat) (listed:Array Bool) (a:Act) (w:World),listed.size=ops.size→unl ops.size listed≤fuel→I a w→(∀i,i<ops.size→listed.getD i true=true→F i a w)→wpAny P .any ops Q fuel listed a w:=by
 intro fuel
 induction fuel with
 |zero=>
  intro listed a w hs hu hI hF;have hall:=unl_zero (Nat.le_zero.1 hu);refine⟨?_,fin a w hI fun i hi=>hF i hi (hall i hi)⟩;unfold Region.ready;rw[List.filter_eq_nil_iff];intro i hi;rw[hall i (List.mem_range.1 hi)];simp
 |succ fuel ih=>
  intro listed a w hs hu hI hF;have hdep:∀i,i∈Region.ready .any ops listed→i<ops.size∧listed.getD i true=false∧∀o,ops[i]? = some o→∀e∈o.after,Region.binds .any e=true→listed.getD e.on true=true:=by
   intro i hi;unfold Region.ready at hi;rw[List.mem_filter] at hi;obtain⟨h1,h2⟩:=hi;have hi':=List.mem_range.1 h1;rw[Bool.and_eq_true] at h2;refine⟨hi',by simpa using h2.1,fun o ho e he hb=>?_⟩;have h3:=h2.2;rw[ho] at h3;simp only[Option.map_some,Option.getD_some,Array.all_eq_true_iff_forall_mem] at h3;have h4:=h3 e he;rw[hb] at h4;have hlo:e.on<listed.size:=by have:=hlt i o ho e he;omega
   simp only[Bool.not_true,Bool.false_or] at h4
   simpa[Array.getD_eq_getD_getElem?,Array.getElem?_eq_getElem hlo] using h4
  refine⟨fun h0=>fin a w hI fun i hi=>?_,fun i hi=>?_⟩
  ·-- nothing is ready: all are listed
   have hall:∀k,k<ops.size→listed.getD k true=true:=by
    intro k
    induction k using Nat.strongRecOn with
    |_ k ihk=>
     intro hk;cases hl:listed.getD k true with
     |true=>rfl
     |false=>
      exfalso
      have hmem:k∈Region.ready .any ops listed:=by
       unfold Region.ready;rw[List.mem_filter];refine⟨List.mem_range.2 hk,?_⟩;rw[hl,Array.getElem?_eq_getElem hk];simp only[Bool.not_false,Bool.true_and,Option.map_some,Option.getD_some,Array.all_eq_true_iff_forall_mem];intro e he;have hek:=hlt k _ (Array.getElem?_eq_getElem hk) e he;have hl2:=ihk e.on hek (by omega);have hlo:e.on<listed.size:=by omega
       simp only[Array.getD_eq_getD_getElem?,Array.getElem?_eq_getElem hlo,Option.getD_some] at hl2 ⊢;simp[hl2]
      rw[h0] at hmem;cases hmem
   exact hF i hi (hall i hi)
  ·obtain⟨hi1,hi2,hi3⟩:=hdep i hi;have ho:=Array.getElem?_eq_getElem hi1;refine wpOp_mono (fun a' w' hh=>?_) (step i _ a w ho hI fun e he hb=>hF e.on (by have:=hlt i _ ho e he;omega) (hi3 _ ho e he hb));obtain⟨hI',hFi,hst⟩:=hh;refine ih _ a' w' (by simpa using hs) ?_ hI' fun j hj hl=>?_
   ·have:=qsm hs hi1 hi2;omega
   ·by_cases e:j=i
    ·subst e;exact hFi
    ·refine hst j e (hF j hj ?_);simp only[Array.getD_eq_getD_getElem?,Array.getElem?_setIfInBounds,fun h=>e (Eq.symm h),if_false] at hl ⊢;rw[if_neg (fun h=>e h.symm)] at hl;exact hl

def puts (vs:Nat→Value):Nat→List Oper→Act→Act
 |_,[],a=>a
 |i,o :: os,a=>puts vs (i+1) os (a.put o.dst (vs i))
theorem qdp (a:Act) (d:Option Tmp) (v:Value):(a.put d v).tmps.size=a.tmps.size:=by
 cases d with
 |none=>rfl
 |some d=>exact qfi d v
theorem qhu (a:Act) (d:Option Tmp) (v:Value):(a.put d v).defers=a.defers:=by
 cases d<;>rfl
theorem qdt (a:Act) (d:Option Tmp) (v:Value) (s:Nat) (h:d≠some s):(a.put d v).tmps[s]? = a.tmps[s]?:=by
 cases d with
 |none=>rfl
 |some d=>exact put_ne v (fun e=>h (by rw[e]))
theorem qkw (vs:Nat→Value) (l:List Oper):∀i a,(puts vs i l a).defers=a.defers:=by
 induction l with
 |nil=>intro i a;rfl
 |cons o l ih=>intro i a;rw[puts,ih,qhu]
theorem qod (vs:Nat→Value) (l:List Oper) (s:Nat):∀i a,(∀o∈l,o.dst≠some s)→(puts vs i l a).tmps[s]? = a.tmps[s]?:=by
 induction l with
 |nil=>intro i a _;rfl
 |cons o l ih=>intro i a h;rw[puts,ih _ _ (fun x hx=>h x (List.mem_cons_of_mem _ hx)),qdt _ _ _ _ (h o List.mem_cons_self)]
theorem puts_at (vs:Nat→Value) (s:Nat) (l:List Oper):∀i j a o,(l.map (fun o=>o.dst)).Nodup→l[j]? = some o→o.dst=some s→s<a.tmps.size→(puts vs i l a).tmps[s]? = some (vs (i+j)):=by
 induction l with
 |nil=>intro i j a o _ h;simp at h
 |cons x l ih=>
  intro i j a o hnd hj hd hs;simp only[List.map_cons,List.nodup_cons] at hnd;cases j with
  |zero=>
   simp only[List.getElem?_cons_zero,Option.some.injEq] at hj;subst hj;rw[puts,qod vs l s _ _ (fun y hy e=>hnd.1 (by rw[hd,←e];exact List.mem_map.2 ⟨y,hy,rfl⟩)),hd];exact qee _ hs
  |succ j=>
   simp only[List.getElem?_cons_succ] at hj;rw[puts,ih (i+1) j _ o hnd.2 hj hd (by rw[qdp];exact hs)]
   congr 2
   omega
structure KeepD (ops:Array Oper) (a a':Act):Prop where
 size:a'.tmps.size=a.tmps.size
 defers:a'.defers=a.defers
 slot:∀s,(∀o∈ops.toList,o.dst≠some s)→a'.tmps[s]? = a.tmps[s]?
theorem KeepD.at {ops:Array Oper} {a a':Act} (h:KeepD ops a a') (s:Nat) (hs:(ops.toList.all fun o=>!(o.dst==some s))=true):a'.tmps[s]? = a.tmps[s]? :=
 h.slot s fun o ho=>by
  have:=List.all_eq_true.1 hs o ho
  simpa using this
theorem qevv {ops:Array Oper} {a0 a:Act} (hk:KeepD ops a0 a) (s:Nat) {v:Value} (h1:(ops.toList.all fun o=>!(o.dst==some s))=true) (h2:a0.tmps[s]?=some v):a.eval (.tmp s)=v:=qab ((hk.at s h1).trans h2)
theorem qhdd {l:List Oper} {o:Oper} {D:Nat→Nat→Prop} (h:∀(j:Nat) (oj:Oper) (d:Nat),(o.after.toList.any fun e=>e.on==j&&Region.binds .any e)=true→l[j]?=some oj→oj.dst=some d→D j d) (j:Nat) {d:Nat} (h1:(if (o.after.toList.any fun e=>e.on==j&&Region.binds .any e)=true then (l[j]?).bind Oper.dst else none)=some d):D j d:=by
 split at h1
 ·rename_i hc;obtain ⟨oj,e1,e2⟩:=Option.bind_eq_some_iff.1 h1;exact h j oj d hc e1 e2
 ·cases h1
theorem qvi {ops:Array Oper} {a a':Act} (h:KeepD ops a a') (hnd:(ops.toList.map (fun o=>o.dst)).Nodup) (hsm:∀o∈ops.toList,∃d,o.dst=some d∧d<a.tmps.size)
  (vs:Nat→Value) (hv:∀(i:Nat) (o:Oper) (d:Nat),ops[i]? = some o→o.dst=some d→a'.tmps[d]? = some (vs i)):a'=puts vs 0 ops.toList a:=by
 have e1:a'.tmps=(puts vs 0 ops.toList a).tmps:=by
  apply Array.ext_getElem?
  intro s
  by_cases hs:∃o∈ops.toList,o.dst=some s
  ·obtain⟨o,ho,hd⟩:=hs;obtain⟨j,hj⟩:=List.mem_iff_getElem?.1 ho;obtain⟨d,hd',hlt⟩:=hsm o ho;obtain rfl:d=s:=Option.some.inj (hd'.symm.trans hd);rw[puts_at vs d ops.toList 0 j a o hnd hj hd hlt,hv j o d (by simpa using hj) hd,Nat.zero_add]
  ·rw[h.slot s (fun o ho e=>hs ⟨o,ho,e⟩),qod vs _ _ _ _ (fun o ho e=>hs ⟨o,ho,e⟩)]
 have e2:a'.defers=(puts vs 0 ops.toList a).defers:=by rw[qkw,h.defers]
 obtain⟨t,dd⟩:=a';generalize hp:puts vs 0 ops.toList a=p at *;obtain⟨t',dd'⟩:=p;simp only at e1 e2;rw[e1,e2]

end

section
variable {P : Program} {ops : Array Oper} {Q : Exit → Act → World → Prop}
def qqi (n:Nat) (l:List Oper):Bool :=
 (l.all fun o=>match o.dst with | some d=>decide (d<n) | none=>false)&&decide ((l.map (fun o=>o.dst)).Nodup)&&((List.range l.length).all fun i=>match l[i]? with | some o=>o.after.toList.all (fun e=>decide (e.on<i)) | none=>true)

theorem qaw {id:Nat} {l:List Oper} {a0:Act} {w0:World} (hm:P.follows .mixedOrders=true) (hshape:qqi a0.tmps.size l=true)
  (G:Nat→Value→World→Prop) (stable:∀(i:Nat) (v:Value) (w w':World),Below w.heap.size w w'→G i v w→G i v w')
  (step:∀(i:Nat) (o:Oper) (a:Act) (w:World),l[i]? = some o→KeepD l.toArray a0 a→Below w0.heap.size w0 w→(∀j oj d,(o.after.toList.any fun e=>e.on==j&&Region.binds .any e)=true→l[j]? = some oj→oj.dst=some d→∃v,a.tmps[d]? = some v∧G j v w) →
   if Region.wanted o (yielded l.toArray a.tmps)=true then Oper.wp P o a w (fun a' w'=>∃v,a'=a.put o.dst v∧Below w.heap.size w w'∧G i v w') Q else G i undef w)
  (fin:∀(vs:Nat→Value) (w:World),Below w0.heap.size w0 w→(∀i,i<l.length→G i (vs i) w)→∀a,puts vs 0 l a0=a→Q .normal a w) :
  (Code.region id l.toArray true).wp P Q a0 w0:=by
 simp only[qqi,Bool.and_eq_true,decide_eq_true_eq,List.all_eq_true] at hshape;obtain⟨⟨h1,hnd⟩,h3⟩:=hshape;have hd:∀o∈l,∃d,o.dst=some d∧d<a0.tmps.size:=by
  intro o ho;have:=h1 o ho;cases e:o.dst with
  |none=>simp[e] at this
  |some d=>exact⟨d,rfl,by simpa[e] using this⟩
 have h4:∀(i:Nat) (o:Oper),l[i]? = some o→(∀e∈o.after,e.on<i):=by
  intro i o ho;have hi:i<l.length:=(List.getElem?_eq_some_iff.1 ho).1;have:=h3 i (List.mem_range.2 hi);rw[ho] at this;simp only[List.all_eq_true,decide_eq_true_eq] at this;exact fun e he=>this e (Array.mem_toList_iff.2 he)
 refine wp_region_any hm ?_;refine qvu (fun i o ho=>h4 i o (by simpa using ho)) (fun a w=>KeepD l.toArray a0 a∧Below w0.heap.size w0 w) (fun i a w=>∀o d,l[i]? = some o→o.dst=some d→∃v,a.tmps[d]? = some v∧G i v w) ?_ ?_ _ _ _ _ ?_ ?_ ?_ ?_
 ·intro i o a w hi hI hdeps;have hi':l[i]? = some o:=by simpa using hi
  obtain⟨hk,hb⟩:=hI;obtain⟨d,hdd,hds⟩:=hd o (List.mem_of_getElem? hi');refine wpOp_step hi fun K' hK'=>?_
  have fin1:∀(a':Act) (w':World),(∃v,a'=a.put o.dst v∧Below w.heap.size w w'∧G i v w')→K' a' w':=by
   intro a' w' hh;refine hK' a' w' ?_;obtain⟨v,rfl,hb',hG⟩:=hh;refine⟨⟨⟨by rw[qdp,hk.size],by rw[qhu,hk.defers],fun s hs=>?_⟩,hb.trans (hb'.mono hb.size)⟩,?_,?_⟩
   ·rw[qdt _ _ _ _ (hs o (by simpa using List.mem_of_getElem? hi')),hk.slot s hs]
   ·intro o2 d2 ho2 hd2;obtain rfl:o2=o:=Option.some.inj (ho2.symm.trans hi');refine⟨v,?_,hG⟩;rw[hd2];exact qee v (by rw[hk.size];obtain rfl:d=d2:=Option.some.inj (hdd.symm.trans hd2);exact hds)
   ·intro j hj hF o2 d2 ho2 hd2;obtain⟨u,hu,hg⟩:=hF o2 d2 ho2 hd2;refine⟨u,?_,stable j u w w' hb' hg⟩;rw[qdt _ _ _ _ ?_]
    ·exact hu
    ·intro e;refine hj ?_;have hi1:i<l.length:=(List.getElem?_eq_some_iff.1 hi').1;have hj1:j<l.length:=(List.getElem?_eq_some_iff.1 ho2).1;have q1:(l.map (fun o=>o.dst))[i]? = some (some d2):=by rw[List.getElem?_map,hi',Option.map_some,e]
     have q2:(l.map (fun o=>o.dst))[j]? = some (some d2):=by rw[List.getElem?_map,ho2,Option.map_some,hd2]
     exact (List.getElem?_inj (by simpa using hj1) hnd).1 (q2.trans q1.symm)
  have st:=step i o a w hi' hk hb (by
   intro j oj dj hj hoj hdj;rw[List.any_eq_true] at hj;obtain⟨e,he,hej⟩:=hj;rw[Bool.and_eq_true] at hej;obtain rfl:e.on=j:=by simpa using hej.1
   exact hdeps e (Array.mem_toList_iff.1 he) hej.2 oj dj hoj hdj)
  split at st
  ·rename_i hw
   rw[if_pos hw];exact Oper.wp_mono fin1 st
  ·rename_i hw
   rw[if_neg hw];exact fin1 _ _ ⟨undef,rfl,Below.refl _ _,st⟩
 ·intro a w hI hF;obtain⟨hk,hb⟩:=hI;have hvs:∀i:Nat,∃v,∀o d,l[i]? = some o→o.dst=some d→a.tmps[d]? = some v∧G i v w:=by
   intro i
   by_cases hi:i<l.length
   ·obtain⟨d,hdd,_⟩:=hd l[i] (List.getElem_mem hi);obtain⟨v,hv,hg⟩:=hF i (by simpa using hi) _ d (List.getElem?_eq_getElem hi) hdd;refine⟨v,fun o d' ho hd'=>?_⟩;obtain rfl:l[i]=o:=Option.some.inj ((List.getElem?_eq_getElem hi).symm.trans ho);obtain rfl:d=d':=Option.some.inj (hdd.symm.trans hd');exact⟨hv,hg⟩
   ·refine⟨undef,fun o d ho _=>?_⟩;rw[List.getElem?_eq_none (by omega)] at ho;cases ho
  have hch:=fun i=>Classical.choose_spec (hvs i)
  have e:=qvi (ops:=l.toArray) (a:=a0) (a':=a) hk (by simpa using hnd) (by simpa using hd) (fun i=>Classical.choose (hvs i)) (fun i o d ho hdd=>(hch i o d (by simpa using ho) hdd).1);rw[e];refine fin _ w hb (fun i hi=>?_) _ rfl;obtain⟨d,hdd,_⟩:=hd l[i] (List.getElem_mem hi);exact (hch i _ d (List.getElem?_eq_getElem hi) hdd).2
 ·simp
 ·have:unl l.toArray.size (Array.replicate l.toArray.size false)≤(List.range l.toArray.size).length:=List.length_filter_le _ _
  simpa using this
 ·exact⟨⟨rfl,rfl,fun _ _=>rfl⟩,⟨rfl,rfl,rfl,Nat.le_refl _,fun _ _=>rfl⟩⟩
 ·intro i hi hl;have hi':i<(Array.replicate l.toArray.size false).size:=by simpa using hi
  rw[Array.getD_eq_getD_getElem?,Array.getElem?_eq_getElem hi'] at hl;simp at hl
theorem g_run {o:Oper} {y:Nat→Option Bool} {A B:Prop} (hw:Region.wanted o y=true) (h:A):if Region.wanted o y=true then A else B:=by rw[if_pos hw];exact h
theorem qggo {o:Oper} {y:Nat→Option Bool} {A B:Prop} (hg:o.guard=none) (h:A):if Region.wanted o y=true then A else B:=g_run (qaa hg y) h
theorem qdh {o:Oper} {y:Nat→Option Bool} {A B:Prop} (hw:Region.wanted o y=false) (h:B):if Region.wanted o y=true then A else B:=by rw[if_neg (by rw[hw];decide)];exact h
theorem qgl {vs:Nat→Value} {l:List Oper} {a0 a3:Act} (h3:puts vs 0 l a0=a3) (hsh:qqi a0.tmps.size l=true) (j:Nat) {o:Oper} {s:Nat} (hj:l[j]? = some o) (hd:o.dst=some s):a3.tmps[s]? = some (vs j):=by
 simp only[qqi,Bool.and_eq_true,decide_eq_true_eq,List.all_eq_true] at hsh;obtain⟨⟨h1,hnd⟩,_⟩:=hsh;have:=h1 o (List.mem_of_getElem? hj);rw[hd] at this;rw[←h3,puts_at vs s l 0 j a0 o hnd hj hd (of_decide_eq_true this),Nat.zero_add]
theorem qim {vs:Nat→Value} {l:List Oper} {a0 a3:Act} (h3:puts vs 0 l a0=a3):a3.defers=a0.defers:=by rw[←h3,qkw]
end

section
variable {P : Program} {ops : Array Oper} {Q : Exit → Act → World → Prop}

theorem qma (hlt:∀(i:Nat) (o:Oper),ops[i]? = some o→∀e∈o.after,e.on<i) {listed:Array Bool} (hs:listed.size=ops.size) (h0:Region.ready .any ops listed = []):∀k,k<ops.size→listed.getD k true=true:=by
 intro k
 induction k using Nat.strongRecOn with
 |_ k ihk=>
  intro hk;cases hl:listed.getD k true with
  |true=>rfl
  |false=>
   exfalso
   have hmem:k∈Region.ready .any ops listed:=by
    unfold Region.ready;rw[List.mem_filter];refine⟨List.mem_range.2 hk,?_⟩;rw[hl,Array.getElem?_eq_getElem hk];simp only[Bool.not_false,Bool.true_and,Option.map_some,Option.getD_some,Array.all_eq_true_iff_forall_mem];intro e he;have hek:=hlt k _ (Array.getElem?_eq_getElem hk) e he;have hl2:=ihk e.on hek (by omega);have hlo:e.on<listed.size:=by omega
    simp only[Array.getD_eq_getD_getElem?,Array.getElem?_eq_getElem hlo,Option.getD_some] at hl2 ⊢;simp[hl2]
   rw[h0] at hmem;cases hmem
theorem qmr (hlt:∀(i:Nat) (o:Oper),ops[i]? = some o→∀e∈o.after,e.on<i) {listed:Array Bool} (hs:listed.size=ops.size) {i:Nat} (hi:i∈Region.ready .any ops listed):i<ops.size∧listed.getD i true=false∧∀o,ops[i]? = some o→∀e∈o.after,Region.binds .any e=true→listed.getD e.on true=true:=by
 unfold Region.ready at hi;rw[List.mem_filter] at hi;obtain⟨h1,h2⟩:=hi;have hi':=List.mem_range.1 h1;rw[Bool.and_eq_true] at h2;refine⟨hi',by simpa using h2.1,fun o ho e he hb=>?_⟩;have h3:=h2.2;rw[ho] at h3;simp only[Option.map_some,Option.getD_some,Array.all_eq_true_iff_forall_mem] at h3;have h4:=h3 e he;rw[hb] at h4;have hlo:e.on<listed.size:=by have:=hlt i o ho e he;omega
 simp only[Bool.not_true,Bool.false_or] at h4
 simpa[Array.getD_eq_getD_getElem?,Array.getElem?_eq_getElem hlo] using h4
theorem qbp {listed:Array Bool} {i j:Nat} (h:j≠i):(listed.setIfInBounds i true).getD j true=listed.getD j true:=by
 simp only[Array.getD_eq_getD_getElem?,Array.getElem?_setIfInBounds];rw[if_neg (fun e=>h e.symm)]
theorem qih {listed:Array Bool} {i:Nat} : (listed.setIfInBounds i true).getD i true=true:=by
 simp only[Array.getD_eq_getD_getElem?,Array.getElem?_setIfInBounds,if_true]
 split<;>rfl

theorem qrm {N:Nat} (hlt:∀(i:Nat) (o:Oper),ops[i]? = some o→∀e∈o.after,e.on<i)
  (hch:∀(k:Nat) (o:Oper),N<k→ops[k]? = some o→∃e∈o.after,Region.binds .any e=true∧e.on+1=k) :
  ∀(m k fuel:Nat) (listed:Array Bool) (a:Act) (w:World),k+m=ops.size→N≤k→listed.size=ops.size→m≤fuel→(∀i,i<k→listed.getD i true=true)→(∀i,k≤i→i<ops.size→listed.getD i true=false) →
   wpList P ops Q (ops.toList.drop k) a w→wpAny P .any ops Q fuel listed a w:=by
 intro m
 induction m with
 |zero=>
  intro k fuel listed a w hk hN hs hf h1 h2 h;rw[List.drop_of_length_le (by simp;omega)] at h;have hr:Region.ready .any ops listed = []:=by
   unfold Region.ready;rw[List.filter_eq_nil_iff];intro i hi;rw[h1 i (by have:=List.mem_range.1 hi;omega)];simp
  cases fuel with
  |zero=>exact⟨hr,h⟩
  |succ fuel=>exact⟨fun _=>h,fun i hi=>by rw[hr] at hi;cases hi⟩
 |succ m ih=>
  intro k fuel listed a w hk hN hs hf h1 h2 h;obtain⟨fuel,rfl⟩ : ∃f,fuel=f+1:=⟨fuel-1,by omega⟩;have hks:k<ops.size:=by omega
  refine⟨fun h0=>?_,fun i hi=>?_⟩
  ·have:=qma hlt hs h0 k hks;rw[h2 k (Nat.le_refl _) hks] at this;cases this
  ·obtain⟨hi1,hi2,hi3⟩:=qmr hlt hs hi;have hik:i=k:=by
    rcases Nat.lt_trichotomy i k with c | c | c
    ·rw[h1 i c] at hi2;cases hi2
    ·exact c
    ·exfalso
     have ho:=Array.getElem?_eq_getElem hi1;obtain⟨e,he,hb,hon⟩:=hch i _ (by omega) ho;have:=hi3 _ ho e he hb;rw[h2 e.on (by omega) (by omega)] at this;cases this
   subst hik;have hd:ops.toList.drop i=ops[i] :: ops.toList.drop (i+1):=by
    rw[List.drop_eq_getElem_cons (by simpa using hks)];simp
   rw[hd] at h;have ho:=Array.getElem?_eq_getElem hks;have key:∀a' w',wpList P ops Q (ops.toList.drop (i+1)) a' w'→wpAny P .any ops Q fuel (listed.setIfInBounds i true) a' w':=by
    intro a' w' h';refine ih (i+1) fuel _ a' w' (by omega) (by omega) (by simpa using hs) (by omega) (fun j hj=>?_) (fun j hj hjs=>?_) h'
    ·by_cases e:j=i
     ·rw[e];exact qih
     ·rw[qbp e];exact h1 j (by omega)
    ·rw[qbp (by omega)];exact h2 j (by omega) hjs
   unfold wpOp;rw[ho];simp only;unfold wpList at h
   split
   ·rename_i hw
    rw[if_pos hw] at h;exact h.imp (Oper.wp_mono key) id
   ·rename_i hw
    rw[if_neg hw] at h;exact key _ _ h

def reach (ops:Array Oper):Nat→Nat→Nat→Bool
 |0,_,_=>false
 |f+1,j,i=>match ops[j]? with | none=>false | some o=>o.after.toList.any fun e=>Region.binds .any e&&(e.on==i || reach ops f e.on i)
theorem qnk {listed:Array Bool} (hc:∀j o,ops[j]? = some o→listed.getD j true=true→∀e∈o.after,Region.binds .any e=true→listed.getD e.on true=true) :
  ∀f j i,reach ops f j i=true→listed.getD j true=true→listed.getD i true=true:=by
 intro f
 induction f with
 |zero=>intro j i h;simp[reach] at h
 |succ f ih=>
  intro j i h hj;unfold reach at h;cases ho:ops[j]? with
  |none=>simp[ho] at h
  |some o=>
   simp only[ho,List.any_eq_true,Bool.and_eq_true,Bool.or_eq_true,beq_iff_eq] at h;obtain⟨e,he,hb,h⟩:=h;have h1:=hc j o ho hj e (Array.mem_toList_iff.1 he) hb
   rcases h with rfl | h
   ·exact h1
   ·exact ih _ _ h h1
theorem qpz {listed:Array Bool} (hc:∀j o,ops[j]? = some o→listed.getD j true=true→∀e∈o.after,Region.binds .any e=true→listed.getD e.on true=true) {f j i:Nat} (h:reach ops f j i=true) (hj:∀o,ops[j]? = some o→∀e∈o.after,Region.binds .any e=true→listed.getD e.on true=true):listed.getD i true=true:=by
 cases f with
 |zero=>simp[reach] at h
 |succ f=>
  unfold reach at h;cases ho:ops[j]? with
  |none=>simp[ho] at h
  |some o=>
   simp only[ho,List.any_eq_true,Bool.and_eq_true,Bool.or_eq_true,beq_iff_eq] at h;obtain⟨e,he,hb,h⟩:=h;have h1:=hj o ho e (Array.mem_toList_iff.1 he) hb
   rcases h with rfl | h
   ·exact h1
   ·exact qnk hc f _ _ h h1

theorem qvv (N:Nat) (hNs:N<ops.size) (hlt:∀(i:Nat) (o:Oper),ops[i]? = some o→∀e∈o.after,e.on<i)
  (hch:∀(k:Nat) (o:Oper),N<k→ops[k]? = some o→∃e∈o.after,Region.binds .any e=true∧e.on+1=k)
  (hre:∀i,i<N→reach ops ops.size N i=true)
  (I:Act→World→Prop) (F:Nat→Act→World→Prop)
  (step:∀(i:Nat) (o:Oper) (a:Act) (w:World),i<N→ops[i]? = some o→I a w→(∀e∈o.after,Region.binds .any e=true→F e.on a w) →
   wpOp P ops Q i (fun a' w'=>I a' w'∧F i a' w'∧∀j,j≠i→F j a w→F j a' w') a w)
  (fin:∀(a:Act) (w:World),I a w→(∀i,i<N→F i a w)→wpList P ops Q (ops.toList.drop N) a w) :
  ∀(fuel:Nat) (listed:Array Bool) (a:Act) (w:World),listed.size=ops.size→unl ops.size listed≤fuel→ops.size-N≤fuel →
   (∀i,N≤i→i<ops.size→listed.getD i true=false)→(∀j o,ops[j]? = some o→listed.getD j true=true→∀e∈o.after,Region.binds .any e=true→listed.getD e.on true=true) →
   I a w→(∀i,i<N→listed.getD i true=true→F i a w)→wpAny P .any ops Q fuel listed a w:=by
 intro fuel
 induction fuel with
 |zero=>intro listed a w hs hu hf;omega
 |succ fuel ih=>
  intro listed a w hs hu hf h2 hc hI hF
  by_cases hall:∀i,i<N→listed.getD i true=true
  ·exact qrm hlt hch (ops.size-N) N (fuel+1) listed a w (by omega) (Nat.le_refl _) hs hf hall h2 (fin a w hI fun i hi=>hF i hi (hall i hi))
  refine⟨fun h0=>?_,fun i hi=>?_⟩
  ·have:=qma hlt hs h0 N hNs;rw[h2 N (Nat.le_refl _) hNs] at this;cases this
  ·obtain⟨hi1,hi2,hi3⟩:=qmr hlt hs hi;have ho:=Array.getElem?_eq_getElem hi1;have hiN:i<N:=by
    rcases Nat.lt_trichotomy i N with c | c | c
    ·exact c
    ·exfalso
     subst c;exact hall fun j hj=>qpz hc (hre j hj) hi3
    ·exfalso
     obtain⟨e,he,hb,hon⟩:=hch i _ c ho;have:=hi3 _ ho e he hb;rw[h2 e.on (by omega) (by omega)] at this;cases this
   refine wpOp_mono (fun a' w' hh=>?_) (step i _ a w hiN ho hI fun e he hb=>hF e.on (by have:=hlt i _ ho e he;omega) (hi3 _ ho e he hb));obtain⟨hI',hFi,hst⟩:=hh;have hul:=qsm hs hi1 hi2;refine ih _ a' w' (by simpa using hs) (by omega) ?_ (fun j hj hjs=>?_) ?_ hI' fun j hj hl=>?_
   ·-- the rest is still to come
    have hsub:ops.size-N≤unl ops.size (listed.setIfInBounds i true):=by
     have e1:List.range ops.size=List.range N++List.range' N (ops.size-N):=by
      have:=List.range'_append (s:=0) (m:=N) (n:=ops.size-N) (step:=1);rw[Nat.one_mul,Nat.zero_add,show N+(ops.size-N)=ops.size by omega] at this;rw[List.range_eq_range',List.range_eq_range'];exact this.symm
     have e2:((List.range' N (ops.size-N)).filter fun i'=>!(listed.setIfInBounds i true).getD i' true)=List.range' N (ops.size-N):=by
      rw[List.filter_eq_self];intro x hx;rw[List.mem_range'_1] at hx;rw[qbp (by omega),h2 x (by omega) (by omega)];rfl
     unfold unl;rw[e1,List.filter_append,e2,List.length_append,List.length_range'];omega
    omega
   ·rw[qbp (by omega)];exact h2 j hj hjs
   ·intro j o hoj hl e he hb
    by_cases ej:j=i
    ·subst ej;have:=hi3 o hoj e he hb;have hne:e.on≠j:=by have:=hlt j o hoj e he;omega
     rw[qbp hne];exact this
    ·rw[qbp ej] at hl;have:=hc j o hoj hl e he hb
     by_cases ee:e.on=i
     ·rw[ee];exact qih
     ·rw[qbp ee];exact this
   ·by_cases e:j=i
    ·subst e;exact hFi
    ·rw[qbp e] at hl;exact hst j e (hF j hj hl)

def qqj (n:Nat) (l t:List Oper):Bool :=
 qqi n l&&(decide (0<t.length)&&(((List.range (l++t).length).all fun i=>match (l++t)[i]? with | some o=>o.after.toList.all (fun e=>decide (e.on<i)) | none=>true) &&
  (((List.range (l++t).length).all fun k=>decide (k≤l.length) || (match (l++t)[k]? with | some o=>o.after.toList.any (fun e=>Region.binds .any e&&decide (e.on+1=k)) | none=>true)) &&
  (List.range l.length).all fun i=>reach (l++t).toArray (l++t).length l.length i)))

theorem qtv {id:Nat} {l t:List Oper} {a0:Act} {w0:World} (hm:P.follows .mixedOrders=true) (hshape:qqj a0.tmps.size l t=true)
  (G:Nat→Value→World→Prop) (stable:∀(i:Nat) (v:Value) (w w':World),Below w.heap.size w w'→G i v w→G i v w')
  (step:∀(i:Nat) (o:Oper) (a:Act) (w:World),l[i]? = some o→KeepD l.toArray a0 a→Below w0.heap.size w0 w→(∀j oj d,(o.after.toList.any fun e=>e.on==j&&Region.binds .any e)=true→l[j]? = some oj→oj.dst=some d→∃v,a.tmps[d]? = some v∧G j v w) →
   if Region.wanted o (yielded (l++t).toArray a.tmps)=true then Oper.wp P o a w (fun a' w'=>∃v,a'=a.put o.dst v∧Below w.heap.size w w'∧G i v w') Q else G i undef w)
  (fin:∀(vs:Nat→Value) (w:World),Below w0.heap.size w0 w→(∀i,i<l.length→G i (vs i) w)→∀a,puts vs 0 l a0=a→wpList P (l++t).toArray Q t a w) :
  (Code.region id (l++t).toArray true).wp P Q a0 w0:=by
 simp only[qqj,Bool.and_eq_true,decide_eq_true_eq,List.all_eq_true,Bool.or_eq_true] at hshape;obtain⟨hsg,ht,h5,h6,h7⟩:=hshape;simp only[qqi,Bool.and_eq_true,decide_eq_true_eq,List.all_eq_true] at hsg;obtain⟨⟨h1,hnd⟩,h3⟩:=hsg;have hd:∀o∈l,∃d,o.dst=some d∧d<a0.tmps.size:=by
  intro o ho;have:=h1 o ho;cases e:o.dst with
  |none=>simp[e] at this
  |some d=>exact⟨d,rfl,by simpa[e] using this⟩
 have hlt:∀(i:Nat) (o:Oper),(l++t).toArray[i]? = some o→∀e∈o.after,e.on<i:=by
  intro i o ho;have ho':(l++t)[i]? = some o:=by simpa using ho
  have hi:i<(l++t).length:=(List.getElem?_eq_some_iff.1 ho').1;have:=h5 i (List.mem_range.2 hi);rw[ho'] at this;simp only[List.all_eq_true,decide_eq_true_eq] at this;exact fun e he=>this e (Array.mem_toList_iff.2 he)
 have hat:∀i o,i<l.length→(l++t).toArray[i]? = some o→l[i]? = some o:=by
  intro i o hi ho;have ho':(l++t)[i]? = some o:=by simpa using ho
  rwa [List.getElem?_append_left hi] at ho'
 have hsz:(l++t).toArray.size=l.length+t.length:=by simp
 refine wp_region_any hm ?_;refine qvv (ops:=(l++t).toArray) l.length (by omega) hlt ?_ ?_ (fun a w=>KeepD l.toArray a0 a∧Below w0.heap.size w0 w) (fun i a w=>∀o d,l[i]? = some o→o.dst=some d→∃v,a.tmps[d]? = some v∧G i v w) ?_ ?_ _ _ _ _ ?_ ?_ ?_ ?_ ?_ ?_ ?_
 ·intro k o hk ho;have ho':(l++t)[k]? = some o:=by simpa using ho
  have hi:k<(l++t).length:=(List.getElem?_eq_some_iff.1 ho').1;have:=h6 k (List.mem_range.2 hi);rw[ho'] at this
  rcases this with c | c
  ·omega
  ·simp only[List.any_eq_true,Bool.and_eq_true,decide_eq_true_eq] at c;obtain⟨e,he,hb,hon⟩:=c;exact⟨e,Array.mem_toList_iff.1 he,hb,hon⟩
 ·intro i hi;have:=h7 i (List.mem_range.2 hi)
  simpa using this
 ·intro i o a w hil hi hI hdeps;have hi':l[i]? = some o:=hat i o hil hi;obtain⟨hk,hb⟩:=hI;obtain⟨d,hdd,hds⟩:=hd o (List.mem_of_getElem? hi');refine wpOp_step hi fun K' hK'=>?_
  have fin1:∀(a':Act) (w':World),(∃v,a'=a.put o.dst v∧Below w.heap.size w w'∧G i v w')→K' a' w':=by
   intro a' w' hh;refine hK' a' w' ?_;obtain⟨v,rfl,hb',hG⟩:=hh;refine⟨⟨⟨by rw[qdp,hk.size],by rw[qhu,hk.defers],fun s hs=>?_⟩,hb.trans (hb'.mono hb.size)⟩,?_,?_⟩
   ·rw[qdt _ _ _ _ (hs o (by simpa using List.mem_of_getElem? hi')),hk.slot s hs]
   ·intro o2 d2 ho2 hd2;obtain rfl:o2=o:=Option.some.inj (ho2.symm.trans hi');refine⟨v,?_,hG⟩;rw[hd2];exact qee v (by rw[hk.size];obtain rfl:d=d2:=Option.some.inj (hdd.symm.trans hd2);exact hds)
   ·intro j hj hF o2 d2 ho2 hd2;obtain⟨u,hu,hg⟩:=hF o2 d2 ho2 hd2;refine⟨u,?_,stable j u w w' hb' hg⟩;rw[qdt _ _ _ _ ?_]
    ·exact hu
    ·intro e;refine hj ?_;have hi1:i<l.length:=(List.getElem?_eq_some_iff.1 hi').1;have hj1:j<l.length:=(List.getElem?_eq_some_iff.1 ho2).1;have q1:(l.map (fun o=>o.dst))[i]? = some (some d2):=by rw[List.getElem?_map,hi',Option.map_some,e]
     have q2:(l.map (fun o=>o.dst))[j]? = some (some d2):=by rw[List.getElem?_map,ho2,Option.map_some,hd2]
     exact (List.getElem?_inj (by simpa using hj1) hnd).1 (q2.trans q1.symm)
  have st:=step i o a w hi' hk hb (by
   intro j oj dj hj hoj hdj;rw[List.any_eq_true] at hj;obtain⟨e,he,hej⟩:=hj;rw[Bool.and_eq_true] at hej;obtain rfl:e.on=j:=by simpa using hej.1
   exact hdeps e (Array.mem_toList_iff.1 he) hej.2 oj dj hoj hdj)
  split at st
  ·rename_i hw
   rw[if_pos hw];exact Oper.wp_mono fin1 st
  ·rename_i hw
   rw[if_neg hw];exact fin1 _ _ ⟨undef,rfl,Below.refl _ _,st⟩
 ·intro a w hI hF;obtain⟨hk,hb⟩:=hI;have hvs:∀i:Nat,∃v,∀o d,l[i]? = some o→o.dst=some d→a.tmps[d]? = some v∧G i v w:=by
   intro i
   by_cases hi:i<l.length
   ·obtain⟨d,hdd,_⟩:=hd l[i] (List.getElem_mem hi);obtain⟨v,hv,hg⟩:=hF i hi _ d (List.getElem?_eq_getElem hi) hdd;refine⟨v,fun o d' ho hd'=>?_⟩;obtain rfl:l[i]=o:=Option.some.inj ((List.getElem?_eq_getElem hi).symm.trans ho);obtain rfl:d=d':=Option.some.inj (hdd.symm.trans hd');exact⟨hv,hg⟩
   ·refine⟨undef,fun o d ho _=>?_⟩;rw[List.getElem?_eq_none (by omega)] at ho;cases ho
  have hch:=fun i=>Classical.choose_spec (hvs i)
  have e:=qvi (ops:=l.toArray) (a:=a0) (a':=a) hk (by simpa using hnd) (by simpa using hd) (fun i=>Classical.choose (hvs i)) (fun i o d ho hdd=>(hch i o d (by simpa using ho) hdd).1);rw[e];have:=fin _ w hb (fun i hi=>by
   obtain⟨d,hdd,_⟩:=hd l[i] (List.getElem_mem hi);exact (hch i _ d (List.getElem?_eq_getElem hi) hdd).2) _ rfl
  simpa using this
 ·simp
 ·have:unl (l++t).toArray.size (Array.replicate (l++t).toArray.size false)≤(List.range (l++t).toArray.size).length:=List.length_filter_le _ _
  simpa using this
 ·omega
 ·intro i _ hi;have hi':i<(Array.replicate (l++t).toArray.size false).size:=by simpa using hi
  rw[Array.getD_eq_getD_getElem?,Array.getElem?_eq_getElem hi'];simp
 ·intro j o ho hl;have hj:j<(l++t).toArray.size:=(Array.getElem?_eq_some_iff.1 ho).1;have hj':j<(Array.replicate (l++t).toArray.size false).size:=by simpa using hj
  rw[Array.getD_eq_getD_getElem?,Array.getElem?_eq_getElem hj'] at hl;simp at hl
 ·exact⟨⟨rfl,rfl,fun _ _=>rfl⟩,⟨rfl,rfl,rfl,Nat.le_refl _,fun _ _=>rfl⟩⟩
 ·intro i hi hl;have hi':i<(Array.replicate (l++t).toArray.size false).size:=by simp;omega
  rw[Array.getD_eq_getD_getElem?,Array.getElem?_eq_getElem hi'] at hl;simp at hl
theorem qcw (n:Nat) {id:Nat} {ll:List Oper} {a0:Act} {w0:World} (hm:P.follows .mixedOrders=true) (hshape:qqj a0.tmps.size (ll.take n) (ll.drop n)=true)
  (G:Nat→Value→World→Prop) (stable:∀(i:Nat) (v:Value) (w w':World),Below w.heap.size w w'→G i v w→G i v w')
  (step:∀(i:Nat) (o:Oper) (a:Act) (w:World),(ll.take n)[i]? = some o→KeepD (ll.take n).toArray a0 a→Below w0.heap.size w0 w→(∀j oj d,(o.after.toList.any fun e=>e.on==j&&Region.binds .any e)=true→(ll.take n)[j]? = some oj→oj.dst=some d→∃v,a.tmps[d]? = some v∧G j v w) →
   if Region.wanted o (yielded ll.toArray a.tmps)=true then Oper.wp P o a w (fun a' w'=>∃v,a'=a.put o.dst v∧Below w.heap.size w w'∧G i v w') Q else G i undef w)
  (fin:∀(vs:Nat→Value) (w:World),Below w0.heap.size w0 w→(∀i,i<(ll.take n).length→G i (vs i) w)→∀a,puts vs 0 (ll.take n) a0=a→wpList P ll.toArray Q (ll.drop n) a w) :
  (Code.region id ll.toArray true).wp P Q a0 w0:=by
 have e:ll.take n++ll.drop n=ll:=List.take_append_drop n ll;have:=qtv (id:=id) (l:=ll.take n) (t:=ll.drop n) (a0:=a0) (w0:=w0) (Q:=Q) hm hshape G stable (by rw[e];exact step) (by rw[e];exact fin)
 rwa [e] at this
end

def moreB (n:Nat):UInt8:=UInt8.ofNat (n%128+128)
theorem qht (n:Nat):(moreB n).toNat=n%128+128:=by
 simp[moreB];omega
def lenF:Nat→Nat→List UInt8
 |0,n=>[UInt8.ofNat n]
 |f+1,n=>if n<128 then [UInt8.ofNat n] else moreB n :: lenF f (n / 128)

def lenB (n:Int):List UInt8:=if 0≤n∧n≤268435455 then lenF 3 n.toNat else []

theorem qeb (f n:Nat) (h:n<128):lenF f n = [UInt8.ofNat n]:=by
 cases f with
 |zero=>rfl
 |succ f=>simp[lenF,h]
theorem qhq (f n:Nat) (h:¬n<128):lenF (f+1) n=moreB n :: lenF f (n / 128):=by simp[lenF,h]
theorem lenF_len (f n:Nat):1≤(lenF f n).length∧(lenF f n).length≤f+1:=by
 induction f generalizing n with
 |zero=>simp[lenF]
 |succ f ih=>
  by_cases h:n<128
  ·rw[qeb _ _ h];simp
  ·rw[qhq _ _ h];have:=ih (n / 128);simp;omega
theorem qvc {n:Int} (h:n<0∨268435455<n):lenB n = []:=by
 unfold lenB;rw[if_neg (by omega)]
theorem qlf {k:Nat} (h:k≤268435455):lenB (k:Int)=lenF 3 k:=by
 unfold lenB;rw[if_pos (by omega)];simp
theorem qmi (n:Int):(lenB n).length≤4:=by
 unfold lenB
 split
 ·exact (lenF_len 3 _).2
 ·simp

theorem or128 (x:Nat):bits .or .u8 ((x:Int)%256) 128=((x%128+128:Nat):Int):=by
 have h:∀y:Fin 256,bits .or .u8 (y.val:Int) 128=((y.val%128+128:Nat):Int):=by decide +kernel
 have:=h ⟨x%256,Nat.mod_lt _ (by omega)⟩;simp only at this;rw[show ((x%256:Nat):Int)=(x:Int)%256 from by omega] at this;rw[this];omega
theorem not128 (x:Nat) (hx:x<256):bits .andNot .u8 (x:Int) 128=((x%128:Nat):Int):=by
 have h:∀y:Fin 256,bits .andNot .u8 (y.val:Int) 128=((y.val%128:Nat):Int):=by decide +kernel
 exact h ⟨x,hx⟩
theorem qmz (x:Nat) (hx:x<256):bits .and .u8 (x:Int) 128=if x<128 then 0 else 128:=by
 have h:∀y:Fin 256,bits .and .u8 (y.val:Int) 128=if y.val<128 then 0 else 128:=by decide +kernel
 exact h ⟨x,hx⟩
theorem and127 (x:Nat) (hx:x<256):bits .and .i64 (x:Int) 127=((x%128:Nat):Int):=by
 have h:∀y:Fin 256,bits .and .i64 (y.val:Int) 127=((y.val%128:Nat):Int):=by decide +kernel
 exact h ⟨x,hx⟩

theorem qvl (w:World) (k:Nat) (V:Int) (hV:V=((k%256:Nat):Int)):RdIn (w.alloc (.cells #[.int .u8 V] 5)) (some ⟨w.heap.size,0,none⟩) 1 1 [UInt8.ofNat k]:=by
 subst hV;refine⟨⟨rfl,fun i hi=>⟨_,_,rfl,?_⟩⟩,Nat.le_refl _,by unfold maxLen;omega,fun h=>by simp at h⟩;obtain rfl:i=0:=by omega
 have e:((bt [UInt8.ofNat k] 0:Nat):Int)=((k%256:Nat):Int):=by
  show (((UInt8.ofNat k).toNat:Nat):Int)=_;simp
 rw[e];simp

theorem rd_more (w:World) (k:Nat) (V:Int) (hV:V=((k%128+128:Nat):Int)):RdIn (w.alloc (.cells #[.int .u8 V] 5)) (some ⟨w.heap.size,0,none⟩) 1 1 [moreB k] :=
 qvl w (k%128+128) V (by omega)

theorem qse (w:World) (B:Nat):Own w B none 0 0 []:=⟨rfl,rfl,.inl ⟨rfl,rfl⟩⟩

theorem qrx (N:Nat) (x:Int) (w:World) (hN:(lenB x).length=N) :
  Calls Tryz.prog 115 #[.int .i64 x] w fun e w'=>∃ao cap,e=.returned (.slice ao N cap)∧Own w' w.heap.size ao N cap (lenB x)∧Below w.heap.size w w':=by
 by_cases h0:x<0
 ·have HL:Hid (lenB x = []):=qvc (.inl h0);rw[HL.out] at hN;subst hN;go_enter Tryz.func115,Tryz.ntmps115;go_wp2;go_ret;exact⟨none,0,rfl,by rw[HL.out];exact qse _ _,Below.refl _ _⟩
 by_cases h1:268435455<x
 ·have HL:Hid (lenB x = []):=qvc (.inr h1);rw[HL.out] at hN;subst hN;go_enter Tryz.func115,Tryz.ntmps115;go_wp2;go_ret;exact⟨none,0,rfl,by rw[HL.out];exact qse _ _,Below.refl _ _⟩
 obtain⟨k,rfl⟩:=Int.eq_ofNat_of_zero_le (show 0≤x by omega);have hk:k≤268435455:=by omega
 have HB:Hid (lenB (k:Int)=lenF 3 k):=qlf hk;have HN:Hid ((lenF 3 k).length=N):=by rw[←HB.out];exact hN
 clear hN;go_enter Tryz.func115,Tryz.ntmps115;go_wp2
 go_loopw [0,3] (fun n v wr=>∃(m f j:Nat) (a:Option Addr) (c:Nat) (acc:List UInt8),n=.int .i64 m∧v=.slice a j c∧j+f=3∧m<128 ^ (f+1)∧acc++lenF f m=lenF 3 k∧Own wr w.heap.size a j c acc∧Below w.heap.size w wr) (fun n _ _=>(intOf n).toNat)
 case atStart=>exact⟨k,3,0,none,0,[],rfl,rfl,rfl,by omega,rfl,qse _ _,Below.refl _ _⟩
 case round=>
  obtain⟨m,f,j,a,c,acc,rfl,rfl,hj,hm,hacc,ho,hb⟩:=hrel;have HA:Hid (acc++lenF f m=lenF 3 k):=hacc;have HM:Hid (m<128 ^ (f+1)):=hm;have hm4:m<268435456:=Nat.lt_of_lt_of_le hm (Nat.pow_le_pow_right (show 0<128 by omega) (show f+1≤4 by omega));clear hacc hm
  by_cases hlt:m<128
  ·have h':¬(128:Int)≤m:=by omega
   have HF:Hid (lenF f m = [UInt8.ofNat m]):=qeb f m hlt;go_wp2_with (at_builtin;refine w_app _ rfl _ _ rfl w.heap.size _ _ _ acc rfl (ho.alloc _) _ _ _ [UInt8.ofNat m] rfl (qvl wr m _ (by omega)) (by omega) (by have:=hb.size;simp;omega) ?_)
   intro a2 c2 w2 ho2 hg2;have hb2:=qba (hb.alloc hb.size _) (by have:=hb.size;simp;omega) (ho.alloc _) hg2;rw[←HF.out,HA.out] at ho2;obtain rfl:j+1=N:=ho2.1.symm.trans HN.out;go_wp2;go_ret;exact⟨a2,c2,rfl,by rw[HB.out];exact ho2,hb2⟩
  ·have h':(128:Int)≤m:=by omega
   have hor:=or128 m;cases f with
   |zero=>have:=HM.out;omega
   |succ f=>
    have HF:Hid (lenF (f+1) m=moreB m :: lenF f (m / 128)):=qhq f m hlt;have HD:Hid (m / 128<128 ^ (f+1)):=Nat.div_lt_of_lt_mul (by have:=HM.out;rw[Nat.pow_succ] at this;omega);go_wp2_with (at_builtin;refine w_app _ rfl _ _ rfl w.heap.size _ _ _ acc rfl (ho.alloc _) _ _ _ [moreB m] rfl (rd_more wr m _ (by omega)) (by omega) (by have:=hb.size;simp;omega) ?_)
    intro a2 c2 w2 ho2 hg2;have hb2:=qba (hb.alloc hb.size _) (by have:=hb.size;simp;omega) (ho.alloc _) hg2;clear hg2 ho hb;go_wp2;go_roundw
    case rel=>
     refine⟨m / 128,f,j+1,a2,c2,_,by go_num,rfl,by omega,HD.out,?_,ho2,hb2⟩;rw[←HA.out,HF.out,List.append_assoc];rfl
    case measure=>simp[intOf];omega

theorem qbx (ao:Option Addr) (n cap:Nat) (l:List UInt8) (ax:Option Addr) (m c:Nat) (x:List UInt8) (w:World) (hr:RdIn w ao n cap l) (hx:RdIn w ax m c x) (hn:n≤1099511627000) (hm:m≤1099511627000) :
  Calls Tryz.prog 66 #[.slice ao n cap,.slice ax m c] w fun e w'=>∃ao' cap',e=.returned (.slice ao' (n+m) cap')∧Own w' w.heap.size ao' (n+m) cap' (l++x)∧Below w.heap.size w w':=by
 go_enter Tryz.func66,Tryz.ntmps66;go_wp2_with fail
 refine (qbs _ _ _ m l _ hr (by omega) (by omega)).mono ?_;rintro e w1 ⟨a1,c1,rfl,ho1,hb1⟩;go_wp2_with (at_builtin;refine w_app _ rfl _ _ rfl w.heap.size _ _ _ l rfl ho1 _ _ _ x rfl (hx.below hb1) (by omega) hb1.size ?_)
 intro a2 c2 w2 ho2 hg2;go_wp2;go_ret;exact⟨a2,c2,rfl,ho2,qba hb1 hb1.size ho1 hg2⟩

theorem qvh (N:Nat) (ao:Option Addr) (n cap:Nat) (x:Int) (l:List UInt8) (w:World) (hN:(lenB x).length=N) (hr:RdIn w ao n cap l) (hn:n≤1099511627000) :
  Calls Tryz.prog 64 #[.slice ao n cap,.int .i64 x] w fun e w'=>∃ao' cap',e=.returned (.slice ao' (n+N) cap')∧Own w' w.heap.size ao' (n+N) cap' (l++lenB x)∧Below w.heap.size w w':=by
 have hle:=qmi x;rw[hN] at hle;go_enter Tryz.func64,Tryz.ntmps64;go_wp2_with fail
 refine (qrx N x _ hN).mono ?_;rintro e w1 ⟨a1,c1,rfl,ho1,hb1⟩;go_wp2_with fail
 refine (qbx _ _ _ l _ _ _ (lenB x) _ (hr.below hb1) ho1.rd hn (by omega)).mono ?_;rintro e w2 ⟨a2,c2,rfl,ho2,hb2⟩;go_wp2;go_ret;exact⟨a2,c2,rfl,ho2.mono hb1.size,qcv hb1 hb2⟩

theorem qpw (N:Nat) (ao:Option Addr) (n cap:Nat) (x:Int) (l:List UInt8) (w:World) (hN:(lenB x).length=N) (hr:RdIn w ao n cap l) (hn:n≤1099511627000) :
  Calls Tryz.prog 134 #[.slice ao n cap,.int .i64 x] w fun e w'=>∃ao' cap',e=.returned (.slice ao' (n+N) cap')∧Own w' w.heap.size ao' (n+N) cap' (l++lenB x)∧Below w.heap.size w w':=by
 by_cases hin:0≤x∧x≤268435455
 ·obtain⟨k,rfl⟩:=Int.eq_ofNat_of_zero_le hin.1;have hk:k≤268435455:=by omega
  have HB:Hid (lenB (k:Int)=lenF 3 k):=qlf hk;have HN:Hid ((lenF 3 k).length=N):=by rw[←HB.out];exact hN
  have hI:decide ((0:Int)≤(k:Int)∧(k:Int)≤268435455)=true:=decide_eq_true ⟨by omega,by omega⟩;have HL:Hid (l.length=n):=hr.1.1;clear hN hin;go_enter Tryz.func134,Tryz.ntmps134;go_wp2_with (at_builtin;refine w_app _ rfl _ _ rfl w.heap.size _ 0 _ [] rfl (qbm w) _ _ _ l rfl (hr.alloc _) (by omega) (by simp) ?_)
  intro a1 c1 w1 ho1 hg1;have hb1:Below w.heap.size w w1:=qba ((Below.refl _ _).alloc (Nat.le_refl _) _) (by simp) (qbm w) hg1;clear hg1;go_wp2_with fail
  refine (qax _ _ _ true _ hI).mono ?_;rintro e w2 ⟨rfl,rfl⟩;go_wp2
  go_loopw [1,5] (fun q v wr=>∃(m f j:Nat) (a:Option Addr) (c:Nat) (acc:List UInt8),q=.int .i64 m∧v=.slice a (n+j) c∧j+f=3∧m<128 ^ (f+1)∧acc++lenF f m=lenF 3 k∧Own wr w.heap.size a (n+j) c (l++acc)∧Below w.heap.size w wr) (fun q _ _=>(intOf q).toNat)
  case atStart=>exact⟨k,3,0,a1,c1,[],rfl,by simp,rfl,by omega,rfl,by simpa using ho1,hb1⟩
  case round=>
   obtain⟨m,f,j,a,c,acc,rfl,rfl,hj,hm,hacc,ho,hb⟩:=hrel;have HA:Hid (acc++lenF f m=lenF 3 k):=hacc;have HM:Hid (m<128 ^ (f+1)):=hm;have hm4:m<268435456:=Nat.lt_of_lt_of_le hm (Nat.pow_le_pow_right (show 0<128 by omega) (show f+1≤4 by omega));clear hacc hm
   by_cases hlt:m<128
   ·have h':¬(127:Int)<m:=by omega
    have HF:Hid (lenF f m = [UInt8.ofNat m]):=qeb f m hlt;go_wp2_with (at_builtin;refine w_app _ rfl _ _ rfl w.heap.size _ _ _ (l++acc) rfl (ho.alloc _) _ _ _ [UInt8.ofNat m] rfl (qvl wr m _ (by omega)) (by omega) (by have:=hb.size;simp;omega) ?_)
    intro a2 c2 w2 ho2 hg2;have hb2:=qba (hb.alloc hb.size _) (by have:=hb.size;simp;omega) (ho.alloc _) hg2;rw[←HF.out,HA.out] at ho2;obtain rfl:j+1=N:=by
     have h1:=ho2.1;have h2:=HN.out;have h3:=HL.out;rw[List.length_append] at h1;omega
    go_wp2;go_ret;exact⟨a2,c2,rfl,by rw[HB.out];exact ho2,hb2⟩
   ·have h':(127:Int)<m:=by omega
    cases f with
    |zero=>have:=HM.out;omega
    |succ f=>
     have HF:Hid (lenF (f+1) m=moreB m :: lenF f (m / 128)):=qhq f m hlt;have HD:Hid (m / 128<128 ^ (f+1)):=Nat.div_lt_of_lt_mul (by have:=HM.out;rw[Nat.pow_succ] at this;omega);go_wp2_with (at_builtin;refine w_app _ rfl _ _ rfl w.heap.size _ _ _ (l++acc) rfl (ho.alloc _) _ _ _ [moreB m] rfl (rd_more wr m _ (by omega)) (by omega) (by have:=hb.size;simp;omega) ?_)
     intro a2 c2 w2 ho2 hg2;have hb2:=qba (hb.alloc hb.size _) (by have:=hb.size;simp;omega) (ho.alloc _) hg2;clear hg2 ho hb;go_wp2;go_roundw
     case rel=>
      refine⟨m / 128,f,j+1,a2,c2,_,by go_num,rfl,by omega,HD.out,?_,ho2,hb2⟩;rw[←HA.out,HF.out,List.append_assoc];rfl
     case measure=>simp[intOf];omega
 ·have HB:Hid (lenB x = []):=qvc (by omega);rw[HB.out] at hN;subst hN;have hI:decide ((0:Int)≤x∧x≤268435455)=false:=decide_eq_false hin;go_enter Tryz.func134,Tryz.ntmps134;go_wp2_with (at_builtin;refine w_app _ rfl _ _ rfl w.heap.size _ 0 _ [] rfl (qbm w) _ _ _ l rfl (hr.alloc _) (by omega) (by simp) ?_)
  intro a1 c1 w1 ho1 hg1;have hb1:Below w.heap.size w w1:=qba ((Below.refl _ _).alloc (Nat.le_refl _) _) (by simp) (qbm w) hg1;clear hg1;go_wp2_with fail
  refine (qax _ _ _ false _ hI).mono ?_;rintro e w2 ⟨rfl,rfl⟩;go_wp2;go_ret;exact⟨a1,c1,by simp,by rw[HB.out];simpa using ho1,hb1⟩


theorem qbu (P:Program) (u:World) (ρ:Operand→Value) (v:Value) (x:Operand) (f:FuncId) (hf:∀(xs:Array Value) (u:World),(callFunc f xs).run P u=.ok (.enter f xs) u) (hx:ρ x=v) (hr:∀g,ρ (.func g)=.func (.func g) #[] #[]) (d:Option Tmp) (t:TypeId) (p:String) (e:Array Edge) (g:Option (Nat×Bool)) (ts:Array TypeId) :
  (execOp ρ ⟨d,.call { callee:=.value (.func f),args:=#[x],argTypes:=ts },t,p,e,g⟩).run P u=.ok (.enter f #[v]) u:=by
 simp[execOp,hx,hr,resolve,invoke,go_sem,hf]
theorem qak (P:Program) (u:World) (ρ:Operand→Value) (v v':Value) (x y:Operand) (f:FuncId) (hf:∀(xs:Array Value) (u:World),(callFunc f xs).run P u=.ok (.enter f xs) u) (hx:ρ x=v) (hy:ρ y=v') (hr:∀g,ρ (.func g)=.func (.func g) #[] #[]) (d:Option Tmp) (t:TypeId) (p:String) (e:Array Edge) (g:Option (Nat×Bool)) (ts:Array TypeId) :
  (execOp ρ ⟨d,.call { callee:=.value (.func f),args:=#[x,y],argTypes:=ts },t,p,e,g⟩).run P u=.ok (.enter f #[v,v']) u:=by
 simp[execOp,hx,hy,hr,resolve,invoke,go_sem,hf]
section
variable {P : Program} {o : Oper} {a : Act} {w : World} {K : Act → World → Prop} {Q : Exit → Act → World → Prop}
theorem qae {v:Value} {w':World} (hx:(execOp a.eval o).run P w=.ok (.value v) w') (h:K (a.put o.dst v) w'):Oper.wp P o a w K Q:=by
 unfold Oper.wp;rw[hx];exact h
theorem qal {f:FuncId} {args:Array Value} (hx:(execOp a.eval o).run P w=.ok (.enter f args) w) (h:Calls P f args w fun e w'=>∃v,e=.returned v∧K (a.put o.dst v) w'):Oper.wp P o a w K Q:=by
 unfold Oper.wp;rw[hx];refine Calls.mono h ?_;rintro e w' ⟨v,rfl,hh⟩;exact hh
end

theorem Blk.next {w w':World} {b:Nat} {p:Pk} (h:Blk w b p) (hb:Below w.heap.size w w'):Blk w' b p:=h.below hb h.lt
theorem qbg {o:Oper} {a:Act} {w:World} {K:Act→World→Prop} {Q:Exit→Act→World→Prop} {g:Nat} {p:Pk} (hB:Blk w g p) (x:Operand) (ho:o.op=.load 28 x)
  (hx:a.eval x=.pointer (some ⟨g,0,none⟩)) (h:K (a.put o.dst (.agg p.cells)) w):Oper.wp Tryz.prog o a w K Q :=
 wp_load_row 28 x ho g hx 28 p.cells (0,0) _ hB Tryz.underlying28 rfl (infoP.trans (by rw[Pk.csize])) h
def Pk.zero:Pk:=⟨0,false,0,false,0,ByteArray.empty,⟨none,0,0⟩,ByteArray.empty,0,false,0,false,ByteArray.empty,⟨none,0,0⟩,0,false,false,ByteArray.empty,false,⟨none,0,0⟩,0,false,⟨none,0,0⟩,⟨none,0,0⟩,⟨none,0,0⟩⟩
theorem qoi (w:World):(Instr.alloc 28 true (.tuple #[])).run Tryz.prog w=.ok (.pointer (some ⟨w.heap.size,0,none⟩)) (w.alloc (.cells Pk.zero.cells 28)):=by kernel_rfl
theorem setRow_new (w:World) (cs ds:Array Value) (t:TypeId):(w.alloc (.cells cs t)).setRow w.heap.size ds=w.alloc (.cells ds t):=by
 unfold World.setRow World.alloc
 congr 1
 apply Array.ext_getElem?
 intro i;simp only[Array.getElem?_modify,Array.getElem?_push]
 by_cases h:w.heap.size=i
 ·subst h;simp
 ·have h':¬i=w.heap.size:=fun e=>h e.symm
  simp[h,h']
theorem Pk.ones (p:Pk):p.cells.all (fun v=>v.oneCell')=true:=by
 simp[Pk.cells,Value.oneCell']
theorem qaz {ops:Array Oper} {rest:List Oper} {a:Act} {w:World} {Q:Exit→Act→World→Prop} {p:Pk} {d:Nat} {y:Operand} {t1 t2:TypeId} {p1 p2:String} {e1 e2:Array Edge}
  (hd:decide (d<a.tmps.size)=true) (hy:(a.put (some d) (.pointer (some ⟨w.heap.size,0,none⟩))).eval y=.agg p.cells)
  (h:wpList Tryz.prog ops Q rest (a.put (some d) (.pointer (some ⟨w.heap.size,0,none⟩))) (w.alloc (.cells p.cells 28))) :
  wpList Tryz.prog ops Q (⟨some d,.alloc 28,t1,p1,e1,none⟩ :: ⟨none,.store 28 (.tmp d) y,t2,p2,e2,none⟩ :: rest) a w:=by
 refine qcr (w':=w.alloc (.cells Pk.zero.cells 28)) (v:=.pointer (some ⟨w.heap.size,0,none⟩)) (qaa rfl _) ?_ ?_
 ·simp only[execOp,Sem.run_bind,qoi,Result.andThen_ok,Sem.run_pure]
 refine wpList_store_row rfl 28 (.tmp d) y rfl w.heap.size p.cells (qab (qee _ (of_decide_eq_true hd))) hy 28 Pk.zero.cells (heap_alloc_new _ _) (infoP.trans (by rw[Pk.csize])) rfl p.ones ?_;rw[setRow_new];exact h
theorem qam {fn:Func} {R:Ending→World→Prop} {a:Act} {w:World} {g:Nat} {p:Pk} {t:Tmp} (hr:fn.results = #[.cell t 28]) (hp:a.tmps.getD t undef=.pointer (some ⟨g,0,none⟩)) (hB:Blk w g p) (hd:a.defers = [])
  (h:R (.returned (.agg p.cells)) w):bodyPost Tryz.prog fn R .ret a w :=
 bodyPost_ret (results_cell_row hr a.tmps w g 28 p.cells (0,0) _ hp hB Tryz.underlying28 rfl (infoP.trans (by rw[Pk.csize]))) hd h
theorem bel {w w1 w2:World} (h1:Below w.heap.size w w1) (h2:Below w1.heap.size w1 w2):Below w.heap.size w w2:=h1.trans (h2.mono h1.size)
theorem qac (w:World) (o:Obj):Below w.heap.size w (w.alloc o):=(Below.refl _ _).alloc (Nat.le_refl _) o

theorem ld_cell {P:Program} {w:World} {τ:TypeId} {d:TypeDesc} (hu:P.underlying τ=some d) (hd:(match d with | .struct _ | .array _ _=>true | _=>false)=false) {X:Addr} {v:Value} (h:w.cell? X=some v) :
  (Instr.loadAt τ (.pointer (some X))).run P w=.ok v w:=by
 have hagg:(isAgg τ).run P w=.ok false w:=by
  unfold isAgg;rw[Sem.run_bind,run_underlying hu w];cases d<;>simp_all
 simp[Instr.loadAt,Instr.sureAddr,loadVar,Sem.run_bind,hagg,h]
section
variable {P : Program} {o : Oper} {a : Act} {w : World} {K : Act → World → Prop} {Q : Exit → Act → World → Prop}
theorem qbd {v:Value} (x:Operand) (ho:o.op=.move x) (hx:a.eval x=v) (h:K (a.put o.dst v) w):Oper.wp P o a w K Q :=
 qae (w':=w) (v:=v) (by simp only[execOp,ho,hx,Sem.run_pure]) h
theorem z_fld {X Y:Addr} (T:TypeId) (x:Operand) (i:Nat) (ho:o.op=.fieldAddr T x i) (hx:a.eval x=.pointer (some X)) (hf:∀u:World,(Instr.fieldAt T (.pointer (some X)) i).run P u=.ok (.pointer (some Y)) u) (h:K (a.put o.dst (.pointer (some Y))) w):Oper.wp P o a w K Q :=
 qae (w':=w) (by simp only[execOp,ho,hx,Sem.run_bind,hf,Result.andThen_ok,Sem.run_pure]) h
theorem z_load {X:Addr} {v:Value} {d:TypeDesc} (τ:TypeId) (x:Operand) (ho:o.op=.load τ x) (hx:a.eval x=.pointer (some X)) (hu:P.underlying τ=some d) (hd:(match d with | .struct _ | .array _ _=>true | _=>false)=false) (hc:w.cell? X=some v) (h:K (a.put o.dst v) w):Oper.wp P o a w K Q:=by
 have hl:=ld_cell (P:=P) (w:=w) hu hd hc;exact qae (w':=w) (v:=v) (by simp only[execOp,ho,hx,Sem.run_bind,hl,Result.andThen_ok,Sem.run_pure]) h
theorem z_bin {v v' r:Value} (b:BinOp) (T T':TypeId) (x y:Operand) (ho:o.op=.binOp b T x y T') (hx:a.eval x=v) (hy:a.eval y=v') (hr:(do eqGuard b T x y v v';binOp b T v v':Sem Value).run P w=.ok r w) (h:K (a.put o.dst r) w):Oper.wp P o a w K Q :=
 qae (w':=w) (v:=r) (by simp only[execOp,ho,hx,hy];rw[Sem.run_bind,hr];rfl) h
theorem qgp {v r:Value} (s t:TypeId) (x:Operand) (ho:o.op=.convert s t x) (hx:a.eval x=v) (hr:(convert s t v).run P w=.ok r w) (h:K (a.put o.dst r) w):Oper.wp P o a w K Q :=
 qae (w':=w) (v:=r) (by simp only[execOp,ho,hx,Sem.run_bind,hr,Result.andThen_ok,Sem.run_pure]) h
theorem z_not {b:Bool} (T:TypeId) (x:Operand) (ho:o.op=.unOp .not T x) (hx:a.eval x=.bool b) (h:K (a.put o.dst (.bool (!b))) w):Oper.wp P o a w K Q :=
 qae (w':=w) (v:=.bool (!b)) (by simp[execOp,ho,hx,Op.unary]) h
theorem z_mk {parts:Array (Nat×Operand)} {vs:Array (Nat×Value)} {r:Value} {w':World} (t:TypeId) (n:Nat) (ho:o.op=.buildSlice t n parts) (hx:(parts.map fun (i,x)=>(i,a.eval x))=vs) (hr:(Instr.buildSlice t n vs).run P w=.ok r w') (h:K (a.put o.dst r) w'):Oper.wp P o a w K Q :=
 qae (w':=w') (v:=r) (by simp only[execOp,ho,hx,Sem.run_bind,hr,Result.andThen_ok,Sem.run_pure]) h
end

theorem mkb2 (x y:Int) (u:World):(Instr.buildSlice 22 2 #[(0,.int .u8 x),(1,.int .u8 y)]).run Tryz.prog u=.ok (.slice (some ⟨u.heap.size,0,none⟩) 2 2) (u.alloc (.cells #[.int .u8 x,.int .u8 y] 5)):=by
 kernel_rfl
theorem mkb1 (x:Int) (u:World):(Instr.buildSlice 22 1 #[(0,.int .u8 x)]).run Tryz.prog u=.ok (.slice (some ⟨u.heap.size,0,none⟩) 1 1) (u.alloc (.cells #[.int .u8 x] 5)):=by
 kernel_rfl
theorem cvb (x:Int) (u:World):(convert 3 5 (.int .i64 x)).run Tryz.prog u=.ok (.int .u8 (x%256)) u:=by
 simp[convert,go_sem,Conv.intToInt,IntKind.wrap_u8]
theorem addi (x y:Int) (u:World) (a b:Operand) (h:IntKind.i64.wrap (x+y)=x+y):(do eqGuard .add 3 a b (.int .i64 x) (.int .i64 y);binOp .add 3 (.int .i64 x) (.int .i64 y):Sem Value).run Tryz.prog u=.ok (.int .i64 (x+y)) u:=by
 simp[eqGuard,binOp,go_sem,h]
theorem muli (x y:Int) (u:World) (a b:Operand) (h:IntKind.i64.wrap (x*y)=x*y):(do eqGuard .mul 3 a b (.int .i64 x) (.int .i64 y);binOp .mul 3 (.int .i64 x) (.int .i64 y):Sem Value).run Tryz.prog u=.ok (.int .i64 (x*y)) u:=by
 simp[eqGuard,binOp,go_sem,h]

theorem WOwn.grown {w w':World} {B:Nat} {ao:Option Addr} {n cap:Nat} {l:List (ByteArray×Int)} {row:Option Nat} (h:WOwn w B ao n cap l) (hg:w.grownBy w' row) (hne:∀a,ao=some a→some a.block≠row):WOwn w' B ao n cap l:=by
 refine⟨h.1,h.2.kept hg ?_⟩;cases ao with
 |none=>exact .inl rfl
 |some a=>exact .inr (hne a rfl)
theorem WOwn.block {w:World} {B:Nat} {ao:Option Addr} {n cap:Nat} {l:List (ByteArray×Int)} (h:WOwn w B ao n cap l) {a:Addr} (e:ao=some a):B≤a.block∧a.block<w.heap.size:=by
 subst e;exact h.2.lt _ rfl
theorem WOwn.head {w:World} {B:Nat} {ao:Option Addr} {n cap:Nat} {l:List (ByteArray×Int)} (h:WOwn w B ao n cap l) (hn:0<n):∃g,ao=some ⟨g,0,none⟩:=by
 rcases h.2.2 with ⟨e,h0⟩ | ⟨g,c,cur,e,_⟩
 ·omega
 ·simp only[Value.slice.injEq] at e;exact⟨g,e.1⟩
def Pk.has (p:Pk) (k:Nat):Prop:=∃a:Addr,some a∈[p.bod.a,p.wb.a,p.pa.a,p.wan.a,p.nam.a,p.cds.a]∧a.block=k
structure Touch (F:Nat→Prop) (w w':World):Prop where
 os:w'.os=w.os
 tape:w'.tape=w.tape
 output:w'.output=w.output
 size:w.heap.size≤w'.heap.size
 block:∀k,k<w.heap.size→¬F k→w'.heap[k]? = w.heap[k]?
theorem Touch.refl (F:Nat→Prop) (w:World):Touch F w w:=⟨rfl,rfl,rfl,Nat.le_refl _,fun _ _ _=>rfl⟩
theorem Touch.trans {F:Nat→Prop} {w w1 w2:World} (h:Touch F w w1) (g:Touch F w1 w2):Touch F w w2 :=
 ⟨g.os.trans h.os,g.tape.trans h.tape,g.output.trans h.output,Nat.le_trans h.size g.size,fun k hk hn=>(g.block k (Nat.lt_of_lt_of_le hk h.size) hn).trans (h.block k hk hn)⟩
theorem Touch.below {F:Nat→Prop} {w w':World} {B:Nat} (h:Touch F w w') (hB:B≤w.heap.size) (hF:∀k,F k→B≤k):Below B w w' :=
 ⟨h.os,h.tape,h.output,h.size,fun k hk=>h.block k (by omega) (fun hf=>by have:=hF k hf;omega)⟩
theorem POwn.lt {w:World} {B:Nat} {p:Pk} {d:Pd} (h:POwn w B p d) {k:Nat} (hk:p.has k):B≤k∧k<w.heap.size:=by
 obtain⟨a,ha,rfl⟩:=hk;simp only[List.mem_cons,List.not_mem_nil,or_false] at ha
 rcases ha with ha | ha | ha | ha | ha | ha
 ·exact h.bod.block ha.symm
 ·exact h.wb.block ha.symm
 ·exact h.pa.block ha.symm
 ·exact h.wan.block ha.symm
 ·exact h.nam.block ha.symm
 ·exact h.cds.block ha.symm
theorem POwn.below {w w':World} {B:Nat} {p:Pk} {d:Pd} (h:POwn w B p d) (hb:Below w.heap.size w w'):POwn w' B p d :=
 ⟨h.bod.below hb,h.wb.below hb,h.pa.below hb,h.wan.below hb,h.nam.below hb,h.cds.below hb,h.dis⟩
theorem Dis.symm {x y:Option Addr} (h:Dis x y):Dis y x:=fun a b ha hb e=>h b a hb ha e.symm

section
variable {P : Program} {ops : Array Oper} {Q : Exit → Act → World → Prop}
theorem qug (N:Nat) (hNs:N<ops.size) (hlt:∀(i:Nat) (o:Oper),ops[i]? = some o→∀e∈o.after,e.on<i)
  (hch:∀(k:Nat) (o:Oper),N<k→ops[k]? = some o→∃e∈o.after,Region.binds .any e=true∧e.on+1=k)
  (hre:∀i,i<N→reach ops ops.size N i=true)
  (I:Act→World→Prop) (F:Nat→Act→World→Prop) (H:Nat→World→Prop)
  (step:∀(i:Nat) (o:Oper) (a:Act) (w:World),i<N→ops[i]? = some o→I a w→H i w→(∀e∈o.after,Region.binds .any e=true→F e.on a w) →
   wpOp P ops Q i (fun a' w'=>I a' w'∧F i a' w'∧(∀j,j≠i→reach ops ops.size j i=false→F j a w→F j a' w')∧∀k,k≠i→reach ops ops.size i k=false→H k w→H k w') a w)
  (fin:∀(a:Act) (w:World),I a w→(∀i,i<N→F i a w)→H N w→wpList P ops Q (ops.toList.drop N) a w) :
  ∀(fuel:Nat) (listed:Array Bool) (a:Act) (w:World),listed.size=ops.size→unl ops.size listed≤fuel→ops.size-N≤fuel →
   (∀i,N≤i→i<ops.size→listed.getD i true=false)→(∀j o,ops[j]? = some o→listed.getD j true=true→∀e∈o.after,Region.binds .any e=true→listed.getD e.on true=true) →
   I a w→(∀i,i<N→listed.getD i true=true→F i a w)→(∀k,k≤N→listed.getD k true=false→H k w)→wpAny P .any ops Q fuel listed a w:=by
 intro fuel
 induction fuel with
 |zero=>intro listed a w hs hu hf;omega
 |succ fuel ih=>
  intro listed a w hs hu hf h2 hc hI hF hH
  by_cases hall:∀i,i<N→listed.getD i true=true
  ·exact qrm hlt hch (ops.size-N) N (fuel+1) listed a w (by omega) (Nat.le_refl _) hs hf hall h2 (fin a w hI (fun i hi=>hF i hi (hall i hi)) (hH N (Nat.le_refl _) (h2 N (Nat.le_refl _) hNs)))
  refine⟨fun h0=>?_,fun i hi=>?_⟩
  ·have:=qma hlt hs h0 N hNs;rw[h2 N (Nat.le_refl _) hNs] at this;cases this
  ·obtain⟨hi1,hi2,hi3⟩:=qmr hlt hs hi;have ho:=Array.getElem?_eq_getElem hi1;have hiN:i<N:=by
    rcases Nat.lt_trichotomy i N with c | c | c
    ·exact c
    ·exfalso
     subst c;exact hall fun j hj=>qpz hc (hre j hj) hi3
    ·exfalso
     obtain⟨e,he,hb,hon⟩:=hch i _ c ho;have:=hi3 _ ho e he hb;rw[h2 e.on (by omega) (by omega)] at this;cases this
   refine wpOp_mono (fun a' w' hh=>?_) (step i _ a w hiN ho hI (hH i (Nat.le_of_lt hiN) hi2) fun e he hb=>hF e.on (by have:=hlt i _ ho e he;omega) (hi3 _ ho e he hb));obtain⟨hI',hFi,hst,hsh⟩:=hh;have hul:=qsm hs hi1 hi2;refine ih _ a' w' (by simpa using hs) (by omega) ?_ (fun j hj hjs=>?_) ?_ hI' (fun j hj hl=>?_) (fun k hk hl=>?_)
   ·-- the rest is still to come
    have hsub:ops.size-N≤unl ops.size (listed.setIfInBounds i true):=by
     have e1:List.range ops.size=List.range N++List.range' N (ops.size-N):=by
      have:=List.range'_append (s:=0) (m:=N) (n:=ops.size-N) (step:=1);rw[Nat.one_mul,Nat.zero_add,show N+(ops.size-N)=ops.size by omega] at this;rw[List.range_eq_range',List.range_eq_range'];exact this.symm
     have e2:((List.range' N (ops.size-N)).filter fun i'=>!(listed.setIfInBounds i true).getD i' true)=List.range' N (ops.size-N):=by
      rw[List.filter_eq_self];intro x hx;rw[List.mem_range'_1] at hx;rw[qbp (by omega),h2 x (by omega) (by omega)];rfl
     unfold unl;rw[e1,List.filter_append,e2,List.length_append,List.length_range'];omega
    omega
   ·rw[qbp (by omega)];exact h2 j hj hjs
   ·intro j o hoj hl e he hb
    by_cases ej:j=i
    ·subst ej;have:=hi3 o hoj e he hb;have hne:e.on≠j:=by have:=hlt j o hoj e he;omega
     rw[qbp hne];exact this
    ·rw[qbp ej] at hl;have:=hc j o hoj hl e he hb
     by_cases ee:e.on=i
     ·rw[ee];exact qih
     ·rw[qbp ee];exact this
   ·by_cases e:j=i
    ·subst e;exact hFi
    ·rw[qbp e] at hl;refine hst j e ?_ (hF j hj hl);cases hr:reach ops ops.size j i with
     |false=>rfl
     |true=>
      have:=qnk hc _ j i hr hl;rw[hi2] at this;cases this
   ·have e:k≠i:=by
     rintro rfl;rw[qih] at hl;cases hl
    rw[qbp e] at hl;refine hsh k e ?_ (hH k hk hl);cases hr:reach ops ops.size i k with
    |false=>rfl
    |true=>
     have:=qpz hc hr hi3;rw[hl] at this;cases this

theorem qsi {id:Nat} {l t:List Oper} {a0:Act} {w0:World} (hm:P.follows .mixedOrders=true) (hshape:qqj a0.tmps.size l t=true)
  (R:Nat→World→World→Prop) (G:Nat→Value→World→Prop) (H:Nat→World→Prop)
  (sG:∀(i j:Nat) (v:Value) (w w':World),i<l.length→j<l.length→reach (l++t).toArray (l++t).length j i=false→j≠i→R i w w'→G j v w→G j v w')
  (sH:∀(i k:Nat) (w w':World),i<l.length→k≤l.length→reach (l++t).toArray (l++t).length i k=false→k≠i→R i w w'→H k w→H k w')
  (init:∀k,H k w0.drew)
  (step:∀(i:Nat) (o:Oper) (a:Act) (w:World),l[i]? = some o→KeepD l.toArray a0 a→H i w→(∀j oj d,(o.after.toList.any fun e=>e.on==j&&Region.binds .any e)=true→l[j]? = some oj→oj.dst=some d→∃v,a.tmps[d]? = some v∧G j v w) →
   if Region.wanted o (yielded (l++t).toArray a.tmps)=true then Oper.wp P o a w (fun a' w'=>∃v,a'=a.put o.dst v∧R i w w'∧G i v w') Q else R i w w∧G i undef w)
  (fin:∀(vs:Nat→Value) (w:World),H l.length w→(∀i,i<l.length→G i (vs i) w)→∀a,puts vs 0 l a0=a→wpList P (l++t).toArray Q t a w) :
  (Code.region id (l++t).toArray true).wp P Q a0 w0:=by
 simp only[qqj,Bool.and_eq_true,decide_eq_true_eq,List.all_eq_true,Bool.or_eq_true] at hshape;obtain⟨hsg,ht,h5,h6,h7⟩:=hshape;simp only[qqi,Bool.and_eq_true,decide_eq_true_eq,List.all_eq_true] at hsg;obtain⟨⟨h1,hnd⟩,h3⟩:=hsg;have hd:∀o∈l,∃d,o.dst=some d∧d<a0.tmps.size:=by
  intro o ho;have:=h1 o ho;cases e:o.dst with
  |none=>simp[e] at this
  |some d=>exact⟨d,rfl,by simpa[e] using this⟩
 have hlt:∀(i:Nat) (o:Oper),(l++t).toArray[i]? = some o→∀e∈o.after,e.on<i:=by
  intro i o ho;have ho':(l++t)[i]? = some o:=by simpa using ho
  have hi:i<(l++t).length:=(List.getElem?_eq_some_iff.1 ho').1;have:=h5 i (List.mem_range.2 hi);rw[ho'] at this;simp only[List.all_eq_true,decide_eq_true_eq] at this;exact fun e he=>this e (Array.mem_toList_iff.2 he)
 have hat:∀i o,i<l.length→(l++t).toArray[i]? = some o→l[i]? = some o:=by
  intro i o hi ho;have ho':(l++t)[i]? = some o:=by simpa using ho
  rwa [List.getElem?_append_left hi] at ho'
 have hsz:(l++t).toArray.size=l.length+t.length:=by simp
 refine wp_region_any hm ?_;refine qug (ops:=(l++t).toArray) l.length (by omega) hlt ?_ ?_ (fun a w=>KeepD l.toArray a0 a) (fun i a w=>∀o d,l[i]? = some o→o.dst=some d→∃v,a.tmps[d]? = some v∧G i v w) (fun k w=>k≤l.length→H k w) ?_ ?_ _ _ _ _ ?_ ?_ ?_ ?_ ?_ ?_ ?_ ?_
 ·intro k o hk ho;have ho':(l++t)[k]? = some o:=by simpa using ho
  have hi:k<(l++t).length:=(List.getElem?_eq_some_iff.1 ho').1;have:=h6 k (List.mem_range.2 hi);rw[ho'] at this
  rcases this with c | c
  ·omega
  ·simp only[List.any_eq_true,Bool.and_eq_true,decide_eq_true_eq] at c;obtain⟨e,he,hb,hon⟩:=c;exact⟨e,Array.mem_toList_iff.1 he,hb,hon⟩
 ·intro i hi;have:=h7 i (List.mem_range.2 hi)
  simpa using this
 ·intro i o a w hil hi hk hHi hdeps;have hi':l[i]? = some o:=hat i o hil hi;obtain⟨d,hdd,hds⟩:=hd o (List.mem_of_getElem? hi');refine wpOp_step hi fun K' hK'=>?_
  have fin1:∀(a':Act) (w':World),(∃v,a'=a.put o.dst v∧R i w w'∧G i v w')→K' a' w':=by
   intro a' w' hh;refine hK' a' w' ?_;obtain⟨v,rfl,hb',hG⟩:=hh;refine⟨⟨by rw[qdp,hk.size],by rw[qhu,hk.defers],fun s hs=>?_⟩,?_,?_,?_⟩
   ·rw[qdt _ _ _ _ (hs o (by simpa using List.mem_of_getElem? hi')),hk.slot s hs]
   ·intro o2 d2 ho2 hd2;obtain rfl:o2=o:=Option.some.inj (ho2.symm.trans hi');refine⟨v,?_,hG⟩;rw[hd2];exact qee v (by rw[hk.size];obtain rfl:d=d2:=Option.some.inj (hdd.symm.trans hd2);exact hds)
   ·intro j hj hrj hF o2 d2 ho2 hd2;obtain⟨u,hu,hg⟩:=hF o2 d2 ho2 hd2;have hjl:j<l.length:=(List.getElem?_eq_some_iff.1 ho2).1;refine⟨u,?_,sG i j u w w' hil hjl (by simpa using hrj) hj hb' hg⟩;rw[qdt _ _ _ _ ?_]
    ·exact hu
    ·intro e;refine hj ?_;have hi1:i<l.length:=(List.getElem?_eq_some_iff.1 hi').1;have hj1:j<l.length:=(List.getElem?_eq_some_iff.1 ho2).1;have q1:(l.map (fun o=>o.dst))[i]? = some (some d2):=by rw[List.getElem?_map,hi',Option.map_some,e]
     have q2:(l.map (fun o=>o.dst))[j]? = some (some d2):=by rw[List.getElem?_map,ho2,Option.map_some,hd2]
     exact (List.getElem?_inj (by simpa using hj1) hnd).1 (q2.trans q1.symm)
   ·intro k hki hrk hHk hkl;exact sH i k w w' hil hkl (by simpa using hrk) hki hb' (hHk hkl)
  have st:=step i o a w hi' hk (hHi (Nat.le_of_lt hil)) (by
   intro j oj dj hj hoj hdj;rw[List.any_eq_true] at hj;obtain⟨e,he,hej⟩:=hj;rw[Bool.and_eq_true] at hej;obtain rfl:e.on=j:=by simpa using hej.1
   exact hdeps e (Array.mem_toList_iff.1 he) hej.2 oj dj hoj hdj)
  split at st
  ·rename_i hw
   rw[if_pos hw];exact Oper.wp_mono fin1 st
  ·rename_i hw
   rw[if_neg hw];exact fin1 _ _ ⟨undef,rfl,st.1,st.2⟩
 ·intro a w hk hF hHN;have hvs:∀i:Nat,∃v,∀o d,l[i]? = some o→o.dst=some d→a.tmps[d]? = some v∧G i v w:=by
   intro i
   by_cases hi:i<l.length
   ·obtain⟨d,hdd,_⟩:=hd l[i] (List.getElem_mem hi);obtain⟨v,hv,hg⟩:=hF i hi _ d (List.getElem?_eq_getElem hi) hdd;refine⟨v,fun o d' ho hd'=>?_⟩;obtain rfl:l[i]=o:=Option.some.inj ((List.getElem?_eq_getElem hi).symm.trans ho);obtain rfl:d=d':=Option.some.inj (hdd.symm.trans hd');exact⟨hv,hg⟩
   ·refine⟨undef,fun o d ho _=>?_⟩;rw[List.getElem?_eq_none (by omega)] at ho;cases ho
  have hch:=fun i=>Classical.choose_spec (hvs i)
  have e:=qvi (ops:=l.toArray) (a:=a0) (a':=a) hk (by simpa using hnd) (by simpa using hd) (fun i=>Classical.choose (hvs i)) (fun i o d ho hdd=>(hch i o d (by simpa using ho) hdd).1);rw[e];have:=fin _ w (hHN (Nat.le_refl _)) (fun i hi=>by
   obtain⟨d,hdd,_⟩:=hd l[i] (List.getElem_mem hi);exact (hch i _ d (List.getElem?_eq_getElem hi) hdd).2) _ rfl
  simpa using this
 ·simp
 ·have:unl (l++t).toArray.size (Array.replicate (l++t).toArray.size false)≤(List.range (l++t).toArray.size).length:=List.length_filter_le _ _
  simpa using this
 ·omega
 ·intro i _ hi;have hi':i<(Array.replicate (l++t).toArray.size false).size:=by simpa using hi
  rw[Array.getD_eq_getD_getElem?,Array.getElem?_eq_getElem hi'];simp
 ·intro j o ho hl;have hj:j<(l++t).toArray.size:=(Array.getElem?_eq_some_iff.1 ho).1;have hj':j<(Array.replicate (l++t).toArray.size false).size:=by simpa using hj
  rw[Array.getD_eq_getD_getElem?,Array.getElem?_eq_getElem hj'] at hl;simp at hl
 ·exact⟨rfl,rfl,fun _ _=>rfl⟩
 ·intro i hi hl;have hi':i<(Array.replicate (l++t).toArray.size false).size:=by simp;omega
  rw[Array.getD_eq_getD_getElem?,Array.getElem?_eq_getElem hi'] at hl;simp at hl
 ·intro k _ _ _;exact init k
theorem qda (n:Nat) {id:Nat} {ll:List Oper} {a0:Act} {w0:World} (hm:P.follows .mixedOrders=true) (hshape:qqj a0.tmps.size (ll.take n) (ll.drop n)=true)
  (R:Nat→World→World→Prop) (G:Nat→Value→World→Prop) (H:Nat→World→Prop)
  (sG:∀(i j:Nat) (v:Value) (w w':World),i<n→j<n→reach ll.toArray ll.length j i=false→j≠i→R i w w'→G j v w→G j v w')
  (sH:∀(i k:Nat) (w w':World),i<n→k≤n→reach ll.toArray ll.length i k=false→k≠i→R i w w'→H k w→H k w')
  (init:∀k,H k w0.drew)
  (step:∀(i:Nat) (o:Oper) (a:Act) (w:World),(ll.take n)[i]? = some o→KeepD (ll.take n).toArray a0 a→H i w→(∀j oj d,(o.after.toList.any fun e=>e.on==j&&Region.binds .any e)=true→(ll.take n)[j]? = some oj→oj.dst=some d→∃v,a.tmps[d]? = some v∧G j v w) →
   if Region.wanted o (yielded ll.toArray a.tmps)=true then Oper.wp P o a w (fun a' w'=>∃v,a'=a.put o.dst v∧R i w w'∧G i v w') Q else R i w w∧G i undef w)
  (fin:∀(vs:Nat→Value) (w:World),H n w→(∀i,i<n→G i (vs i) w)→∀a,puts vs 0 (ll.take n) a0=a→wpList P ll.toArray Q (ll.drop n) a w) :
  (Code.region id ll.toArray true).wp P Q a0 w0:=by
 have e:ll.take n++ll.drop n=ll:=List.take_append_drop n ll
 by_cases hn:n≤ll.length
 ·have hl:(ll.take n).length=n:=by simp[hn]
  have:=qsi (id:=id) (l:=ll.take n) (t:=ll.drop n) (a0:=a0) (w0:=w0) (Q:=Q) hm hshape R G H (by rw[e,hl];exact sG) (by rw[e,hl];exact sH) init (by rw[e];exact step) (by rw[e,hl];exact fin)
  rwa [e] at this
 ·simp only[qqj,Bool.and_eq_true,decide_eq_true_eq] at hshape;have h:=hshape.2.1;simp at h;omega
end
