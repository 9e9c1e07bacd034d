/- Lemmas. -/
import Derived.Test.YtpjkbgdkligpdaaGreatDoorX07
set_option linter.unusedVariables false
set_option linter.unusedSimpArgs false
set_option maxRecDepth 100000
set_option maxHeartbeats 20000000
namespace Go.Proofs.YtpjkbgdkligpdaaGreatDoor
open Go.RowKit

section
variable {P : Program} {ops : Array Oper} {Q : Exit → Act → World → Prop}
theorem qtc (hlt:∀(i:Nat) (o:Oper),ops[i]? = some o→∀e∈o.after,Region.binds .any e=true→e.on<i) (I:Act→World→Prop) (F:Nat→Act→World→Prop)
  (step:∀(i:Nat) (o:Oper) (a:Act) (w:World),ops[i]? = some o→I a w→(∀e∈o.after,Region.binds .any e=true→F e.on a w) →
   wpOp P ops Q i (fun a' w'=>I a' w'∧F i a' w'∧∀j,j≠i→(∀oj,ops[j]? = some oj→∀e∈oj.after,Region.binds .any e=true→e.on≠i)→F j a w→F j a' w') a w)
  (fin:∀(a:Act) (w:World),I a w→(∀i,i<ops.size→F i a w)→Q .normal a w) :
  ∀(fuel:Nat) (listed:Array Bool) (a:Act) (w:World),listed.size=ops.size→unl ops.size listed≤fuel→I a w→(∀i,i<ops.size→listed.getD i true=true→F i a w) →
   (∀(j:Nat) (o:Oper),ops[j]? = some o→listed.getD j true=true→∀e∈o.after,Region.binds .any e=true→listed.getD e.on true=true)→wpAny P .any ops Q fuel listed a w:=by
 intro fuel
 induction fuel with
 |zero=>
  intro listed a w hs hu hI hF hC;have hall:=unl_zero (Nat.le_zero.1 hu);refine⟨?_,fin a w hI fun i hi=>hF i hi (hall i hi)⟩;unfold Region.ready;rw[List.filter_eq_nil_iff];intro i hi;rw[hall i (List.mem_range.1 hi)];simp
 |succ fuel ih=>
  intro listed a w hs hu hI hF hC;have hdep:∀i,i∈Region.ready .any ops listed→i<ops.size∧listed.getD i true=false∧∀o,ops[i]? = some o→∀e∈o.after,Region.binds .any e=true→listed.getD e.on true=true:=by
   intro i hi;unfold Region.ready at hi;rw[List.mem_filter] at hi;obtain⟨h1,h2⟩:=hi;have hi':=List.mem_range.1 h1;rw[Bool.and_eq_true] at h2;refine⟨hi',by simpa using h2.1,fun o ho e he hb=>?_⟩;have h3:=h2.2;rw[ho] at h3;simp only[Option.map_some,Option.getD_some,Array.all_eq_true_iff_forall_mem] at h3;have h4:=h3 e he;rw[hb] at h4;have hlo:e.on<listed.size:=by have:=hlt i o ho e he hb;omega
   simp only[Bool.not_true,Bool.false_or] at h4
   simpa[Array.getD_eq_getD_getElem?,Array.getElem?_eq_getElem hlo] using h4
  refine⟨fun h0=>fin a w hI fun i hi=>?_,fun i hi=>?_⟩
  ·have hall:∀k,k<ops.size→listed.getD k true=true:=by
    intro k
    induction k using Nat.strongRecOn with
    |_ k ihk=>
     intro hk;cases hl:listed.getD k true with
     |true=>rfl
     |false=>
      exfalso
      have hmem:k∈Region.ready .any ops listed:=by
       unfold Region.ready;rw[List.mem_filter];refine⟨List.mem_range.2 hk,?_⟩;rw[hl,Array.getElem?_eq_getElem hk];simp only[Bool.not_false,Bool.true_and,Option.map_some,Option.getD_some,Array.all_eq_true_iff_forall_mem];intro e he;cases hb:Region.binds .any e with
       |false=>simp
       |true=>
        have hek:=hlt k _ (Array.getElem?_eq_getElem hk) e he hb;have hl2:=ihk e.on hek (by omega);have hlo:e.on<listed.size:=by omega
        simp only[Array.getD_eq_getD_getElem?,Array.getElem?_eq_getElem hlo,Option.getD_some] at hl2 ⊢;simp[hl2]
      rw[h0] at hmem;cases hmem
   exact hF i hi (hall i hi)
  ·obtain⟨hi1,hi2,hi3⟩:=hdep i hi;have ho:=Array.getElem?_eq_getElem hi1;refine wpOp_mono (fun a' w' hh=>?_) (step i _ a w ho hI fun e he hb=>hF e.on (by have:=hlt i _ ho e he hb;omega) (hi3 _ ho e he hb));obtain⟨hI',hFi,hst⟩:=hh;have hget:∀j,j≠i→(listed.setIfInBounds i true).getD j true=listed.getD j true:=by
    intro j e;simp only[Array.getD_eq_getD_getElem?,Array.getElem?_setIfInBounds];rw[if_neg (fun h=>e h.symm)]
   have hgi:(listed.setIfInBounds i true).getD i true=true:=by
    simp[Array.getD_eq_getD_getElem?,Array.getElem?_setIfInBounds,hs,hi1]
   refine ih _ a' w' (by simpa using hs) ?_ hI' (fun j hj hl=>?_) (fun j oj hj hl e he hb=>?_)
   ·have:=qrk hs hi1 hi2;omega
   ·by_cases e:j=i
    ·subst e;exact hFi
    ·rw[hget j e] at hl;refine hst j e (fun oj hoj e2 he2 hb2 e3=>?_) (hF j hj hl);have:=hC j oj hoj hl e2 he2 hb2;rw[e3,hi2] at this;cases this
   ·by_cases ee:e.on=i
    ·rw[ee];exact hgi
    ·rw[hget e.on ee]
     by_cases ej:j=i
     ·subst ej;exact hi3 oj hj e he hb
     ·rw[hget j ej] at hl;exact hC j oj hj hl e he hb
def shapeB (n:Nat) (l:List Oper):Bool :=
 (l.all fun o=>match o.dst with | some d=>decide (d<n) | none=>true)&&decide ((l.filterMap (fun o=>o.dst)).Nodup)&&((List.range l.length).all fun i=>match l[i]? with | some o=>o.guard.isNone&&o.after.toList.all (fun e=>!Region.binds .any e || decide (e.on<i)) | none=>true)
theorem nodup_two {l:List Oper} (h:(l.filterMap (fun o=>o.dst)).Nodup):∀(i j:Nat) (o o':Oper) (d:Nat),l[i]? = some o→l[j]? = some o'→o.dst=some d→o'.dst=some d→i=j:=by
 induction l with
 |nil=>intro i j o o' d hi;simp at hi
 |cons x l ih=>
  intro i j o o' d hi hj ho ho';have key:∀(k:Nat) (q:Oper),x.dst=some d→l[k]? = some q→q.dst=some d→False:=by
   intro k q hx hk hq;rw[List.filterMap_cons,hx,List.nodup_cons] at h;exact h.1 (List.mem_filterMap.2 ⟨q,List.mem_of_getElem? hk,hq⟩)
  have h':(l.filterMap (fun o=>o.dst)).Nodup:=by
   rw[List.filterMap_cons] at h
   split at h
   ·exact h
   ·exact (List.nodup_cons.1 h).2
  cases i with
  |zero=>
   cases j with
   |zero=>rfl
   |succ j=>
    simp only[List.getElem?_cons_zero,Option.some.injEq,List.getElem?_cons_succ] at hi hj;subst hi;exact absurd (key j o' ho hj ho') id
  |succ i=>
   cases j with
   |zero=>
    simp only[List.getElem?_cons_zero,Option.some.injEq,List.getElem?_cons_succ] at hi hj;subst hj;exact absurd (key i o ho' hi ho) id
   |succ j=>
    simp only[List.getElem?_cons_succ] at hi hj;rw[ih h' i j o o' d hi hj ho ho']
theorem puts_atB (vs:Nat→Value) (s:Nat) (l:List Oper):∀i j a o,(l.filterMap (fun o=>o.dst)).Nodup→l[j]? = some o→o.dst=some s→s<a.tmps.size→(puts vs i l a).tmps[s]? = some (vs (i+j)):=by
 induction l with
 |nil=>intro i j a o _ h;simp at h
 |cons x l ih=>
  intro i j a o hnd hj hd hs;have h':(l.filterMap (fun o=>o.dst)).Nodup:=by
   have h:=hnd;rw[List.filterMap_cons] at h
   split at h
   ·exact h
   ·exact (List.nodup_cons.1 h).2
  cases j with
  |zero=>
   simp only[List.getElem?_cons_zero,Option.some.injEq] at hj;subst hj;rw[puts,qmy vs l s _ _ (fun y hy e=>?_),hd]
   ·exact qdx _ hs
   ·rw[List.filterMap_cons,hd,List.nodup_cons] at hnd;exact hnd.1 (List.mem_filterMap.2 ⟨y,hy,e⟩)
  |succ j=>
   simp only[List.getElem?_cons_succ] at hj;rw[puts,ih (i+1) j _ o h' hj hd (by rw[qdi];exact hs)]
   congr 2
   omega
theorem qbn {id:Nat} {l:List Oper} {a0:Act} {w0:World} (hm:P.follows .mixedOrders=true) (hshape:shapeB a0.tmps.size l=true)
  (J:World→Prop) (hJ:J w0.drew) (R:Nat→World→World→Prop) (G:Nat→Value→World→Prop) (S:Nat→Act→World→Prop)
  (sR:∀i w w',R i w w'→J w→J w')
  (sG:∀(i j:Nat) (v:Value) (w w':World),j≠i→R i w w'→G j v w→G j v w')
  (sS:∀(i j:Nat) (o oj:Oper) (a:Act) (v:Value) (w w':World),l[i]? = some o→l[j]? = some oj→j≠i→(∀e∈oj.after,Region.binds .any e=true→e.on≠i)→R i w w'→S j a w→S j (a.put o.dst v) w')
  (step:∀(i:Nat) (o:Oper) (a:Act) (w:World),l[i]? = some o→KeepD l.toArray a0 a→J w→(∀j oj,(o.after.toList.any fun e=>e.on==j&&Region.binds .any e)=true→l[j]? = some oj→∃v,(∀d,oj.dst=some d→a.tmps[d]? = some v)∧G j v w∧S j a w) →
   Oper.wp P o a w (fun a' w'=>∃v,a'=a.put o.dst v∧R i w w'∧G i v w'∧S i a' w') Q)
  (fin:∀(vs:Nat→Value) (w:World),J w→(∀i,i<l.length→G i (vs i) w)→∀a,puts vs 0 l a0=a→(∀i,i<l.length→S i a w)→Q .normal a w) :
  (Code.region id l.toArray true).wp P Q a0 w0:=by
 simp only[shapeB,Bool.and_eq_true,decide_eq_true_eq,List.all_eq_true] at hshape;obtain⟨⟨h1,hnd⟩,h3⟩:=hshape;have hd:∀o∈l,∀d,o.dst=some d→d<a0.tmps.size:=by
  intro o ho d e;have:=h1 o ho
  simpa[e] using this
 have h4:∀(i:Nat) (o:Oper),l[i]? = some o→(∀e∈o.after,Region.binds .any e=true→e.on<i)∧o.guard=none:=by
  intro i o ho;have hi:i<l.length:=(List.getElem?_eq_some_iff.1 ho).1;have:=h3 i (List.mem_range.2 hi);rw[ho] at this;simp only[Bool.and_eq_true,List.all_eq_true,decide_eq_true_eq,Option.isNone_iff_eq_none,Bool.or_eq_true,Bool.not_eq_true'] at this;exact⟨fun e he hb=>by
   rcases this.2 e (Array.mem_toList_iff.2 he) with h | h
   ·rw[hb] at h;cases h
   ·exact h,this.1⟩
 refine wp_region_any hm ?_;refine qtc (fun i o ho=>(h4 i o (by simpa using ho)).1) (fun a w=>KeepD l.toArray a0 a∧J w) (fun i a w=>∀o,l[i]? = some o→∃v,(∀d,o.dst=some d→a.tmps[d]? = some v)∧G i v w∧S i a w) ?_ ?_ _ _ _ _ ?_ ?_ ?_ ?_ ?_
 ·intro i o a w hi hI hdeps;have hi':l[i]? = some o:=by simpa using hi
  obtain⟨hk,hb⟩:=hI;refine wpOp_step hi fun K' hK'=>?_
  rw[qab (h4 i o hi').2,if_pos rfl];refine Oper.wp_mono (fun a' w' hh=>hK' a' w' ?_) (step i o a w hi' hk hb ?_)
  ·obtain⟨v,rfl,hr,hG,hS⟩:=hh;refine⟨⟨⟨by rw[qdi,hk.size],by rw[qhf,hk.defers],fun s hs=>?_⟩,sR i w w' hr hb⟩,?_,?_⟩
   ·rw[qdn _ _ _ _ (hs o (by simpa using List.mem_of_getElem? hi')),hk.slot s hs]
   ·intro o2 ho2;obtain rfl:o2=o:=Option.some.inj (ho2.symm.trans hi');refine⟨v,fun d hd'=>?_,hG,hS⟩;rw[hd'];exact qdx v (by rw[hk.size];exact hd o2 (List.mem_of_getElem? ho2) d hd')
   ·intro j hj hdj hF oj hoj;obtain⟨u,hu,hg,hs⟩:=hF oj hoj;refine⟨u,fun d hd'=>?_,sG i j u w w' hj hr hg,sS i j o oj a v w w' hi' hoj hj (fun e he hb2=>hdj oj (by simpa using hoj) e he hb2) hr hs⟩;rw[qdn _ _ _ _ ?_]
    ·exact hu d hd'
    ·intro e;exact hj (nodup_two hnd j i oj o d hoj hi' hd' e)
  ·intro j oj hj hoj;rw[List.any_eq_true] at hj;obtain⟨e,he,hej⟩:=hj;rw[Bool.and_eq_true] at hej;obtain rfl:e.on=j:=by simpa using hej.1
   exact hdeps e (Array.mem_toList_iff.1 he) hej.2 oj hoj
 ·intro a w hI hF;obtain⟨hk,hb⟩:=hI;have hvs:∀i:Nat,∃v,∀o,l[i]? = some o→(∀d,o.dst=some d→a.tmps[d]? = some v)∧G i v w∧S i a w:=by
   intro i
   by_cases hi:i<l.length
   ·obtain⟨v,hv,hg,hs⟩:=hF i (by simpa using hi) _ (List.getElem?_eq_getElem hi);refine⟨v,fun o ho=>?_⟩;obtain rfl:l[i]=o:=Option.some.inj ((List.getElem?_eq_getElem hi).symm.trans ho);exact⟨hv,hg,hs⟩
   ·refine⟨undef,fun o ho=>?_⟩;rw[List.getElem?_eq_none (by omega)] at ho;cases ho
  have hch:=fun i=>Classical.choose_spec (hvs i)
  have e:a=puts (fun i=>Classical.choose (hvs i)) 0 l a0:=by
   have e1:a.tmps=(puts (fun i=>Classical.choose (hvs i)) 0 l a0).tmps:=by
    apply Array.ext_getElem?
    intro s
    by_cases hs:∃o∈l,o.dst=some s
    ·obtain⟨o,ho,hd'⟩:=hs;obtain⟨j,hj⟩:=List.mem_iff_getElem?.1 ho;rw[puts_atB _ s l 0 j a0 o hnd hj hd' (hd o ho s hd'),(hch j o hj).1 s hd',Nat.zero_add]
    ·rw[hk.slot s (fun o ho e=>hs ⟨o,by simpa using ho,e⟩),qmy _ _ _ _ _ (fun o ho e=>hs ⟨o,ho,e⟩)]
   have e2:a.defers=(puts (fun i=>Classical.choose (hvs i)) 0 l a0).defers:=by rw[qjz,hk.defers]
   obtain⟨t,dd⟩:=a;generalize puts (fun i=>Classical.choose (hvs i)) 0 l a0=p at *;obtain⟨t',dd'⟩:=p;simp only at e1 e2;rw[e1,e2]
  exact fin _ w hb (fun i hi=>((hch i _ (List.getElem?_eq_getElem hi)).2).1) a e.symm (fun i hi=>((hch i _ (List.getElem?_eq_getElem hi)).2).2)
 ·simp
 ·have:unl l.toArray.size (Array.replicate l.toArray.size false)≤(List.range l.toArray.size).length:=List.length_filter_le _ _
  simpa using this
 ·exact⟨⟨rfl,rfl,fun _ _=>rfl⟩,hJ⟩
 ·intro i hi hl;have hi':i<(Array.replicate l.toArray.size false).size:=by simpa using hi
  rw[Array.getD_eq_getD_getElem?,Array.getElem?_eq_getElem hi'] at hl;simp at hl
 ·intro j o ho hl;have hj:j<l.length:=by
   have:=(Array.getElem?_eq_some_iff.1 ho).1
   simpa using this
  have hi':j<(Array.replicate l.toArray.size false).size:=by simpa using hj
  rw[Array.getD_eq_getD_getElem?,Array.getElem?_eq_getElem hi'] at hl;simp at hl
theorem qdj {id:Nat} {l:List Oper} {a0:Act} {w0:World} (hm:P.follows .mixedOrders=true) (hshape:shapeB a0.tmps.size l=true)
  (R:Nat→World→World→Prop) (G:Nat→Value→World→Prop) (S:Nat→Act→World→Prop)
  (sR:∀i w w',R i w w'→Below w0.heap.size w0 w→Below w0.heap.size w0 w')
  (sG:∀(i j:Nat) (v:Value) (w w':World),j≠i→R i w w'→G j v w→G j v w')
  (sS:∀(i j:Nat) (o oj:Oper) (a:Act) (v:Value) (w w':World),l[i]? = some o→l[j]? = some oj→j≠i→(∀e∈oj.after,Region.binds .any e=true→e.on≠i)→R i w w'→S j a w→S j (a.put o.dst v) w')
  (step:∀(i:Nat) (o:Oper) (a:Act) (w:World),l[i]? = some o→KeepD l.toArray a0 a→Below w0.heap.size w0 w→(∀j oj,(o.after.toList.any fun e=>e.on==j&&Region.binds .any e)=true→l[j]? = some oj→∃v,(∀d,oj.dst=some d→a.tmps[d]? = some v)∧G j v w∧S j a w) →
   Oper.wp P o a w (fun a' w'=>∃v,a'=a.put o.dst v∧R i w w'∧G i v w'∧S i a' w') Q)
  (fin:∀(vs:Nat→Value) (w:World),Below w0.heap.size w0 w→(∀i,i<l.length→G i (vs i) w)→∀a,puts vs 0 l a0=a→(∀i,i<l.length→S i a w)→Q .normal a w) :
  (Code.region id l.toArray true).wp P Q a0 w0 :=
 qbn hm hshape (fun w=>Below w0.heap.size w0 w) ⟨rfl,rfl,rfl,Nat.le_refl _,fun _ _=>rfl⟩ R G S sR sG sS step fin
end
