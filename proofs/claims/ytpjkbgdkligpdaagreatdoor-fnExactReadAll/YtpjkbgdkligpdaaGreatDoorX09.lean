/- Lemmas. -/
import Derived.Test.YtpjkbgdkligpdaaGreatDoorX07
set_option linter.unusedVariables false
set_option linter.unusedSimpArgs false
set_option maxRecDepth 100000
set_option maxHeartbeats 20000000
namespace Go.Proofs.YtpjkbgdkligpdaaGreatDoor
open Go.RowKit

section
variable {P : Program} {ops : Array Oper} {Q : Exit → Act → World → Prop}
theorem qtd (N:Nat) (hNs:N<ops.size) (hlt:∀(i:Nat) (o:Oper),ops[i]? = some o→∀e∈o.after,e.on<i)
  (hch:∀(k:Nat) (o:Oper),N<k→ops[k]? = some o→∃e∈o.after,Region.binds .any e=true∧e.on+1=k)
  (hre:∀i,i<N→reach ops ops.size N i=true)
  (I:Act→World→Prop) (F:Nat→Act→World→Prop) (H:Nat→World→Prop)
  (step:∀(i:Nat) (o:Oper) (a:Act) (w:World),i<N→ops[i]? = some o→I a w→H i w→(∀e∈o.after,Region.binds .any e=true→F e.on a w) →
   wpOp P ops Q i (fun a' w'=>I a' w'∧F i a' w'∧(∀j,j≠i→reach ops ops.size j i=false→F j a w→F j a' w')∧∀k,k≠i→reach ops ops.size i k=false→H k w→H k w') a w)
  (fin:∀(a:Act) (w:World),I a w→(∀i,i<N→F i a w)→H N w→wpList P ops Q (ops.toList.drop N) a w) :
  ∀(fuel:Nat) (listed:Array Bool) (a:Act) (w:World),listed.size=ops.size→unl ops.size listed≤fuel→ops.size-N≤fuel →
   (∀i,N≤i→i<ops.size→listed.getD i true=false)→(∀j o,ops[j]? = some o→listed.getD j true=true→∀e∈o.after,Region.binds .any e=true→listed.getD e.on true=true) →
   I a w→(∀i,i<N→listed.getD i true=true→F i a w)→(∀k,k≤N→listed.getD k true=false→H k w)→wpAny P .any ops Q fuel listed a w:=by
 intro fuel
 induction fuel with
 |zero=>intro listed a w hs hu hf;omega
 |succ fuel ih=>
  intro listed a w hs hu hf h2 hc hI hF hH
  by_cases hall:∀i,i<N→listed.getD i true=true
  ·exact qqg hlt hch (ops.size-N) N (fuel+1) listed a w (by omega) (Nat.le_refl _) hs hf hall h2 (fin a w hI (fun i hi=>hF i hi (hall i hi)) (hH N (Nat.le_refl _) (h2 N (Nat.le_refl _) hNs)))
  refine⟨fun h0=>?_,fun i hi=>?_⟩
  ·have:=qkx hlt hs h0 N hNs;rw[h2 N (Nat.le_refl _) hNs] at this;cases this
  ·obtain⟨hi1,hi2,hi3⟩:=qln hlt hs hi;have ho:=Array.getElem?_eq_getElem hi1;have hiN:i<N:=by
    rcases Nat.lt_trichotomy i N with c | c | c
    ·exact c
    ·exfalso
     subst c;exact hall fun j hj=>qop hc (hre j hj) hi3
    ·exfalso
     obtain⟨e,he,hb,hon⟩:=hch i _ c ho;have:=hi3 _ ho e he hb;rw[h2 e.on (by omega) (by omega)] at this;cases this
   refine wpOp_mono (fun a' w' hh=>?_) (step i _ a w hiN ho hI (hH i (Nat.le_of_lt hiN) hi2) fun e he hb=>hF e.on (by have:=hlt i _ ho e he;omega) (hi3 _ ho e he hb));obtain⟨hI',hFi,hst,hsh⟩:=hh;have hul:=qrk hs hi1 hi2;refine ih _ a' w' (by simpa using hs) (by omega) ?_ (fun j hj hjs=>?_) ?_ hI' (fun j hj hl=>?_) (fun k hk hl=>?_)
   ·-- the rest is still to come
    have hsub:ops.size-N≤unl ops.size (listed.setIfInBounds i true):=by
     have e1:List.range ops.size=List.range N++List.range' N (ops.size-N):=by
      have:=List.range'_append (s:=0) (m:=N) (n:=ops.size-N) (step:=1);rw[Nat.one_mul,Nat.zero_add,show N+(ops.size-N)=ops.size by omega] at this;rw[List.range_eq_range',List.range_eq_range'];exact this.symm
     have e2:((List.range' N (ops.size-N)).filter fun i'=>!(listed.setIfInBounds i true).getD i' true)=List.range' N (ops.size-N):=by
      rw[List.filter_eq_self];intro x hx;rw[List.mem_range'_1] at hx;rw[qbl (by omega),h2 x (by omega) (by omega)];rfl
     unfold unl;rw[e1,List.filter_append,e2,List.length_append,List.length_range'];omega
    omega
   ·rw[qbl (by omega)];exact h2 j hj hjs
   ·intro j o hoj hl e he hb
    by_cases ej:j=i
    ·subst ej;have:=hi3 o hoj e he hb;have hne:e.on≠j:=by have:=hlt j o hoj e he;omega
     rw[qbl hne];exact this
    ·rw[qbl ej] at hl;have:=hc j o hoj hl e he hb
     by_cases ee:e.on=i
     ·rw[ee];exact qhq
     ·rw[qbl ee];exact this
   ·by_cases e:j=i
    ·subst e;exact hFi
    ·rw[qbl e] at hl;refine hst j e ?_ (hF j hj hl);cases hr:reach ops ops.size j i with
     |false=>rfl
     |true=>
      have:=qme hc _ j i hr hl;rw[hi2] at this;cases this
   ·have e:k≠i:=by
     rintro rfl;rw[qhq] at hl;cases hl
    rw[qbl e] at hl;refine hsh k e ?_ (hH k hk hl);cases hr:reach ops ops.size i k with
    |false=>rfl
    |true=>
     have:=qop hc hr hi3;rw[hl] at this;cases this

theorem qrg {id:Nat} {l t:List Oper} {a0:Act} {w0:World} (hm:P.follows .mixedOrders=true) (hshape:qpb a0.tmps.size l t=true)
  (R:Nat→World→World→Prop) (G:Nat→Value→World→Prop) (H:Nat→World→Prop)
  (sG:∀(i j:Nat) (v:Value) (w w':World),i<l.length→j<l.length→reach (l++t).toArray (l++t).length j i=false→j≠i→R i w w'→G j v w→G j v w')
  (sH:∀(i k:Nat) (w w':World),i<l.length→k≤l.length→reach (l++t).toArray (l++t).length i k=false→k≠i→R i w w'→H k w→H k w')
  (init:∀k,H k w0.drew)
  (step:∀(i:Nat) (o:Oper) (a:Act) (w:World),l[i]? = some o→KeepD l.toArray a0 a→H i w→(∀j oj d,(o.after.toList.any fun e=>e.on==j&&Region.binds .any e)=true→l[j]? = some oj→oj.dst=some d→∃v,a.tmps[d]? = some v∧G j v w) →
   if Region.wanted o (yielded (l++t).toArray a.tmps)=true then Oper.wp P o a w (fun a' w'=>∃v,a'=a.put o.dst v∧R i w w'∧G i v w') Q else R i w w∧G i undef w)
  (fin:∀(vs:Nat→Value) (w:World),H l.length w→(∀i,i<l.length→G i (vs i) w)→∀a,puts vs 0 l a0=a→wpList P (l++t).toArray Q t a w) :
  (Code.region id (l++t).toArray true).wp P Q a0 w0:=by
 simp only[qpb,Bool.and_eq_true,decide_eq_true_eq,List.all_eq_true,Bool.or_eq_true] at hshape;obtain⟨hsg,ht,h5,h6,h7⟩:=hshape;simp only[qpa,Bool.and_eq_true,decide_eq_true_eq,List.all_eq_true] at hsg;obtain⟨⟨h1,hnd⟩,h3⟩:=hsg;have hd:∀o∈l,∃d,o.dst=some d∧d<a0.tmps.size:=by
  intro o ho;have:=h1 o ho;cases e:o.dst with
  |none=>simp[e] at this
  |some d=>exact⟨d,rfl,by simpa[e] using this⟩
 have hlt:∀(i:Nat) (o:Oper),(l++t).toArray[i]? = some o→∀e∈o.after,e.on<i:=by
  intro i o ho;have ho':(l++t)[i]? = some o:=by simpa using ho
  have hi:i<(l++t).length:=(List.getElem?_eq_some_iff.1 ho').1;have:=h5 i (List.mem_range.2 hi);rw[ho'] at this;simp only[List.all_eq_true,decide_eq_true_eq] at this;exact fun e he=>this e (Array.mem_toList_iff.2 he)
 have hat:∀i o,i<l.length→(l++t).toArray[i]? = some o→l[i]? = some o:=by
  intro i o hi ho;have ho':(l++t)[i]? = some o:=by simpa using ho
  rwa [List.getElem?_append_left hi] at ho'
 have hsz:(l++t).toArray.size=l.length+t.length:=by simp
 refine wp_region_any hm ?_;refine qtd (ops:=(l++t).toArray) l.length (by omega) hlt ?_ ?_ (fun a w=>KeepD l.toArray a0 a) (fun i a w=>∀o d,l[i]? = some o→o.dst=some d→∃v,a.tmps[d]? = some v∧G i v w) (fun k w=>k≤l.length→H k w) ?_ ?_ _ _ _ _ ?_ ?_ ?_ ?_ ?_ ?_ ?_ ?_
 ·intro k o hk ho;have ho':(l++t)[k]? = some o:=by simpa using ho
  have hi:k<(l++t).length:=(List.getElem?_eq_some_iff.1 ho').1;have:=h6 k (List.mem_range.2 hi);rw[ho'] at this
  rcases this with c | c
  ·omega
  ·simp only[List.any_eq_true,Bool.and_eq_true,decide_eq_true_eq] at c;obtain⟨e,he,hb,hon⟩:=c;exact⟨e,Array.mem_toList_iff.1 he,hb,hon⟩
 ·intro i hi;have:=h7 i (List.mem_range.2 hi)
  simpa using this
 ·intro i o a w hil hi hk hHi hdeps;have hi':l[i]? = some o:=hat i o hil hi;obtain⟨d,hdd,hds⟩:=hd o (List.mem_of_getElem? hi');refine wpOp_step hi fun K' hK'=>?_
  have fin1:∀(a':Act) (w':World),(∃v,a'=a.put o.dst v∧R i w w'∧G i v w')→K' a' w':=by
   intro a' w' hh;refine hK' a' w' ?_;obtain⟨v,rfl,hb',hG⟩:=hh;refine⟨⟨by rw[qdi,hk.size],by rw[qhf,hk.defers],fun s hs=>?_⟩,?_,?_,?_⟩
   ·rw[qdn _ _ _ _ (hs o (by simpa using List.mem_of_getElem? hi')),hk.slot s hs]
   ·intro o2 d2 ho2 hd2;obtain rfl:o2=o:=Option.some.inj (ho2.symm.trans hi');refine⟨v,?_,hG⟩;rw[hd2];exact qdx v (by rw[hk.size];obtain rfl:d=d2:=Option.some.inj (hdd.symm.trans hd2);exact hds)
   ·intro j hj hrj hF o2 d2 ho2 hd2;obtain⟨u,hu,hg⟩:=hF o2 d2 ho2 hd2;have hjl:j<l.length:=(List.getElem?_eq_some_iff.1 ho2).1;refine⟨u,?_,sG i j u w w' hil hjl (by simpa using hrj) hj hb' hg⟩;rw[qdn _ _ _ _ ?_]
    ·exact hu
    ·intro e;refine hj ?_;have hi1:i<l.length:=(List.getElem?_eq_some_iff.1 hi').1;have hj1:j<l.length:=(List.getElem?_eq_some_iff.1 ho2).1;have q1:(l.map (fun o=>o.dst))[i]? = some (some d2):=by rw[List.getElem?_map,hi',Option.map_some,e]
     have q2:(l.map (fun o=>o.dst))[j]? = some (some d2):=by rw[List.getElem?_map,ho2,Option.map_some,hd2]
     exact (List.getElem?_inj (by simpa using hj1) hnd).1 (q2.trans q1.symm)
   ·intro k hki hrk hHk hkl;exact sH i k w w' hil hkl (by simpa using hrk) hki hb' (hHk hkl)
  have st:=step i o a w hi' hk (hHi (Nat.le_of_lt hil)) (by
   intro j oj dj hj hoj hdj;rw[List.any_eq_true] at hj;obtain⟨e,he,hej⟩:=hj;rw[Bool.and_eq_true] at hej;obtain rfl:e.on=j:=by simpa using hej.1
   exact hdeps e (Array.mem_toList_iff.1 he) hej.2 oj dj hoj hdj)
  split at st
  ·rename_i hw
   rw[if_pos hw];exact Oper.wp_mono fin1 st
  ·rename_i hw
   rw[if_neg hw];exact fin1 _ _ ⟨undef,rfl,st.1,st.2⟩
 ·intro a w hk hF hHN;have hvs:∀i:Nat,∃v,∀o d,l[i]? = some o→o.dst=some d→a.tmps[d]? = some v∧G i v w:=by
   intro i
   by_cases hi:i<l.length
   ·obtain⟨d,hdd,_⟩:=hd l[i] (List.getElem_mem hi);obtain⟨v,hv,hg⟩:=hF i hi _ d (List.getElem?_eq_getElem hi) hdd;refine⟨v,fun o d' ho hd'=>?_⟩;obtain rfl:l[i]=o:=Option.some.inj ((List.getElem?_eq_getElem hi).symm.trans ho);obtain rfl:d=d':=Option.some.inj (hdd.symm.trans hd');exact⟨hv,hg⟩
   ·refine⟨undef,fun o d ho _=>?_⟩;rw[List.getElem?_eq_none (by omega)] at ho;cases ho
  have hch:=fun i=>Classical.choose_spec (hvs i)
  have e:=qud (ops:=l.toArray) (a:=a0) (a':=a) hk (by simpa using hnd) (by simpa using hd) (fun i=>Classical.choose (hvs i)) (fun i o d ho hdd=>(hch i o d (by simpa using ho) hdd).1);rw[e];have:=fin _ w (hHN (Nat.le_refl _)) (fun i hi=>by
   obtain⟨d,hdd,_⟩:=hd l[i] (List.getElem_mem hi);exact (hch i _ d (List.getElem?_eq_getElem hi) hdd).2) _ rfl
  simpa using this
 ·simp
 ·have:unl (l++t).toArray.size (Array.replicate (l++t).toArray.size false)≤(List.range (l++t).toArray.size).length:=List.length_filter_le _ _
  simpa using this
 ·omega
 ·intro i _ hi;have hi':i<(Array.replicate (l++t).toArray.size false).size:=by simpa using hi
  rw[Array.getD_eq_getD_getElem?,Array.getElem?_eq_getElem hi'];simp
 ·intro j o ho hl;have hj:j<(l++t).toArray.size:=(Array.getElem?_eq_some_iff.1 ho).1;have hj':j<(Array.replicate (l++t).toArray.size false).size:=by simpa using hj
  rw[Array.getD_eq_getD_getElem?,Array.getElem?_eq_getElem hj'] at hl;simp at hl
 ·exact⟨rfl,rfl,fun _ _=>rfl⟩
 ·intro i hi hl;have hi':i<(Array.replicate (l++t).toArray.size false).size:=by simp;omega
  rw[Array.getD_eq_getD_getElem?,Array.getElem?_eq_getElem hi'] at hl;simp at hl
 ·intro k _ _ _;exact init k
theorem qoq (n:Nat) {id:Nat} {ll:List Oper} {a0:Act} {w0:World} (hm:P.follows .mixedOrders=true) (hshape:qpb a0.tmps.size (ll.take n) (ll.drop n)=true)
  (R:Nat→World→World→Prop) (G:Nat→Value→World→Prop) (H:Nat→World→Prop)
  (sG:∀(i j:Nat) (v:Value) (w w':World),i<n→j<n→reach ll.toArray ll.length j i=false→j≠i→R i w w'→G j v w→G j v w')
  (sH:∀(i k:Nat) (w w':World),i<n→k≤n→reach ll.toArray ll.length i k=false→k≠i→R i w w'→H k w→H k w')
  (init:∀k,H k w0.drew)
  (step:∀(i:Nat) (o:Oper) (a:Act) (w:World),(ll.take n)[i]? = some o→KeepD (ll.take n).toArray a0 a→H i w→(∀j oj d,(o.after.toList.any fun e=>e.on==j&&Region.binds .any e)=true→(ll.take n)[j]? = some oj→oj.dst=some d→∃v,a.tmps[d]? = some v∧G j v w) →
   if Region.wanted o (yielded ll.toArray a.tmps)=true then Oper.wp P o a w (fun a' w'=>∃v,a'=a.put o.dst v∧R i w w'∧G i v w') Q else R i w w∧G i undef w)
  (fin:∀(vs:Nat→Value) (w:World),H n w→(∀i,i<n→G i (vs i) w)→∀a,puts vs 0 (ll.take n) a0=a→wpList P ll.toArray Q (ll.drop n) a w) :
  (Code.region id ll.toArray true).wp P Q a0 w0:=by
 have e:ll.take n++ll.drop n=ll:=List.take_append_drop n ll
 by_cases hn:n≤ll.length
 ·have hl:(ll.take n).length=n:=by simp[hn]
  have:=qrg (id:=id) (l:=ll.take n) (t:=ll.drop n) (a0:=a0) (w0:=w0) (Q:=Q) hm hshape R G H (by rw[e,hl];exact sG) (by rw[e,hl];exact sH) init (by rw[e];exact step) (by rw[e,hl];exact fin)
  rwa [e] at this
 ·simp only[qpb,Bool.and_eq_true,decide_eq_true_eq] at hshape;have h:=hshape.2.1;simp at h;omega
end

def zv (P:Program) (t:TypeId):Value:=((P.info? t).bind (fun i=>i.zero)).getD undef
theorem zero_run (P:Program) (t:TypeId) (h:((P.info? t).bind (fun i=>i.zero)).isSome=true) (w:World):(zeroValue t).run P w=.ok (zv P t) w:=by
 unfold zv;cases hi:P.info? t with
 |none=>simp[hi] at h
 |some i=>
  cases hz:i.zero with
  |none=>simp[hi,hz] at h
  |some z=>simp[zeroValue,typeInfo,hi,hz,Sem.run_bind]
theorem ta_no {P:Program} {T U X:TypeId} {fs:Array Field} (hne:T≠U) (hu:P.underlying U=some (.struct fs)) (hz:((P.info? U).bind (fun i=>i.zero)).isSome=true) (v:Value) (w:World) :
  (Instr.typeAssert (.iface T v) X U true).run P w=.ok (.tuple #[zv P U,.bool false]) w:=by
 simp[Instr.typeAssert,Sem.run_bind,run_underlying hu,hne,zero_run P U hz]
theorem qel {P:Program} {U X:TypeId} {fs:Array Field} (hu:P.underlying U=some (.struct fs)) (v:Value) (w:World) :
  (Instr.typeAssert (.iface U v) X U true).run P w=.ok (.tuple #[v,.bool true]) w:=by
 simp[Instr.typeAssert,Sem.run_bind,run_underlying hu]
theorem qbf:((Tryz.prog.info? 124).bind (fun i=>i.zero)).isSome=true:=by kernel_rfl
theorem qbh:((Tryz.prog.info? 127).bind (fun i=>i.zero)).isSome=true:=by kernel_rfl
theorem qap:((Tryz.prog.info? 129).bind (fun i=>i.zero)).isSome=true:=by kernel_rfl
theorem qbu:((Tryz.prog.info? 134).bind (fun i=>i.zero)).isSome=true:=by kernel_rfl
theorem qbx:((Tryz.prog.info? 135).bind (fun i=>i.zero)).isSome=true:=by kernel_rfl
theorem qaw:((Tryz.prog.info? 136).bind (fun i=>i.zero)).isSome=true:=by kernel_rfl
theorem qck:((Tryz.prog.info? 137).bind (fun i=>i.zero)).isSome=true:=by kernel_rfl
theorem qas:((Tryz.prog.info? 139).bind (fun i=>i.zero)).isSome=true:=by kernel_rfl
theorem qec:((Tryz.prog.info? 141).bind (fun i=>i.zero)).isSome=true:=by kernel_rfl
theorem qar:((Tryz.prog.info? 143).bind (fun i=>i.zero)).isSome=true:=by kernel_rfl
theorem qft:((Tryz.prog.info? 144).bind (fun i=>i.zero)).isSome=true:=by kernel_rfl
theorem qjo:((Tryz.prog.info? 148).bind (fun i=>i.zero)).isSome=true:=by kernel_rfl
theorem qnq:((Tryz.prog.info? 149).bind (fun i=>i.zero)).isSome=true:=by kernel_rfl
theorem qig (v:Value) (w:World):Calls Tryz.prog 116 #[.iface 124 v] w fun e w'=>e=.returned (.int .i64 1)∧w'=w:=by
 have h0:=qel (X:=76) Tryz.underlying124;go_enter Tryz.func116,Tryz.ntmps116;go_wp2;go_ret;exact⟨rfl,rfl⟩
theorem qif (v:Value) (w:World):Calls Tryz.prog 116 #[.iface 127 v] w fun e w'=>e=.returned (.int .i64 2)∧w'=w:=by
 have h0:=ta_no (T:=127) (X:=76) (by decide) Tryz.underlying124 qbf;have h1:=qel (X:=76) Tryz.underlying127;go_enter Tryz.func116,Tryz.ntmps116;go_wp2;go_ret;exact⟨rfl,rfl⟩
theorem qfk (v:Value) (w:World):Calls Tryz.prog 116 #[.iface 129 v] w fun e w'=>e=.returned (.int .i64 3)∧w'=w:=by
 have h0:=ta_no (T:=129) (X:=76) (by decide) Tryz.underlying124 qbf;have h1:=ta_no (T:=129) (X:=76) (by decide) Tryz.underlying127 qbh;have h2:=qel (X:=76) Tryz.underlying129;go_enter Tryz.func116,Tryz.ntmps116;go_wp2;go_ret;exact⟨rfl,rfl⟩
theorem qiy (v:Value) (w:World):Calls Tryz.prog 116 #[.iface 134 v] w fun e w'=>e=.returned (.int .i64 4)∧w'=w:=by
 have h0:=ta_no (T:=134) (X:=76) (by decide) Tryz.underlying124 qbf;have h1:=ta_no (T:=134) (X:=76) (by decide) Tryz.underlying127 qbh;have h2:=ta_no (T:=134) (X:=76) (by decide) Tryz.underlying129 qap;have h3:=qel (X:=76) Tryz.underlying134;go_enter Tryz.func116,Tryz.ntmps116;go_wp2;go_ret;exact⟨rfl,rfl⟩
theorem qiz (v:Value) (w:World):Calls Tryz.prog 116 #[.iface 135 v] w fun e w'=>e=.returned (.int .i64 5)∧w'=w:=by
 have h0:=ta_no (T:=135) (X:=76) (by decide) Tryz.underlying124 qbf;have h1:=ta_no (T:=135) (X:=76) (by decide) Tryz.underlying127 qbh;have h2:=ta_no (T:=135) (X:=76) (by decide) Tryz.underlying129 qap;have h3:=ta_no (T:=135) (X:=76) (by decide) Tryz.underlying134 qbu;have h4:=qel (X:=76) Tryz.underlying135;go_enter Tryz.func116,Tryz.ntmps116;go_wp2;go_ret;exact⟨rfl,rfl⟩
theorem qja (v:Value) (w:World):Calls Tryz.prog 116 #[.iface 136 v] w fun e w'=>e=.returned (.int .i64 6)∧w'=w:=by
 have h0:=ta_no (T:=136) (X:=76) (by decide) Tryz.underlying124 qbf;have h1:=ta_no (T:=136) (X:=76) (by decide) Tryz.underlying127 qbh;have h2:=ta_no (T:=136) (X:=76) (by decide) Tryz.underlying129 qap;have h3:=ta_no (T:=136) (X:=76) (by decide) Tryz.underlying134 qbu;have h4:=ta_no (T:=136) (X:=76) (by decide) Tryz.underlying135 qbx;have h5:=qel (X:=76) Tryz.underlying136;go_enter Tryz.func116,Tryz.ntmps116;go_wp2;go_ret;exact⟨rfl,rfl⟩
theorem qii (v:Value) (w:World):Calls Tryz.prog 116 #[.iface 137 v] w fun e w'=>e=.returned (.int .i64 7)∧w'=w:=by
 have h0:=ta_no (T:=137) (X:=76) (by decide) Tryz.underlying124 qbf;have h1:=ta_no (T:=137) (X:=76) (by decide) Tryz.underlying127 qbh;have h2:=ta_no (T:=137) (X:=76) (by decide) Tryz.underlying129 qap;have h3:=ta_no (T:=137) (X:=76) (by decide) Tryz.underlying134 qbu;have h4:=ta_no (T:=137) (X:=76) (by decide) Tryz.underlying135 qbx;have h5:=ta_no (T:=137) (X:=76) (by decide) Tryz.underlying136 qaw;have h6:=qel (X:=76) Tryz.underlying137;go_enter Tryz.func116,Tryz.ntmps116;go_wp2;go_ret;exact⟨rfl,rfl⟩
theorem qgk (v:Value) (w:World):Calls Tryz.prog 116 #[.iface 139 v] w fun e w'=>e=.returned (.int .i64 8)∧w'=w:=by
 have h0:=ta_no (T:=139) (X:=76) (by decide) Tryz.underlying124 qbf;have h1:=ta_no (T:=139) (X:=76) (by decide) Tryz.underlying127 qbh;have h2:=ta_no (T:=139) (X:=76) (by decide) Tryz.underlying129 qap;have h3:=ta_no (T:=139) (X:=76) (by decide) Tryz.underlying134 qbu;have h4:=ta_no (T:=139) (X:=76) (by decide) Tryz.underlying135 qbx;have h5:=ta_no (T:=139) (X:=76) (by decide) Tryz.underlying136 qaw;have h6:=ta_no (T:=139) (X:=76) (by decide) Tryz.underlying137 qck;have h7:=qel (X:=76) Tryz.underlying139;go_enter Tryz.func116,Tryz.ntmps116;go_wp2;go_ret;exact⟨rfl,rfl⟩
theorem qjb (v:Value) (w:World):Calls Tryz.prog 116 #[.iface 141 v] w fun e w'=>e=.returned (.int .i64 9)∧w'=w:=by
 have h0:=ta_no (T:=141) (X:=76) (by decide) Tryz.underlying124 qbf;have h1:=ta_no (T:=141) (X:=76) (by decide) Tryz.underlying127 qbh;have h2:=ta_no (T:=141) (X:=76) (by decide) Tryz.underlying129 qap;have h3:=ta_no (T:=141) (X:=76) (by decide) Tryz.underlying134 qbu;have h4:=ta_no (T:=141) (X:=76) (by decide) Tryz.underlying135 qbx;have h5:=ta_no (T:=141) (X:=76) (by decide) Tryz.underlying136 qaw;have h6:=ta_no (T:=141) (X:=76) (by decide) Tryz.underlying137 qck;have h7:=ta_no (T:=141) (X:=76) (by decide) Tryz.underlying139 qas;have h8:=qel (X:=76) Tryz.underlying141;go_enter Tryz.func116,Tryz.ntmps116;go_wp2;go_ret;exact⟨rfl,rfl⟩
theorem qfn (v:Value) (w:World):Calls Tryz.prog 116 #[.iface 143 v] w fun e w'=>e=.returned (.int .i64 10)∧w'=w:=by
 have h0:=ta_no (T:=143) (X:=76) (by decide) Tryz.underlying124 qbf;have h1:=ta_no (T:=143) (X:=76) (by decide) Tryz.underlying127 qbh;have h2:=ta_no (T:=143) (X:=76) (by decide) Tryz.underlying129 qap;have h3:=ta_no (T:=143) (X:=76) (by decide) Tryz.underlying134 qbu;have h4:=ta_no (T:=143) (X:=76) (by decide) Tryz.underlying135 qbx;have h5:=ta_no (T:=143) (X:=76) (by decide) Tryz.underlying136 qaw;have h6:=ta_no (T:=143) (X:=76) (by decide) Tryz.underlying137 qck;have h7:=ta_no (T:=143) (X:=76) (by decide) Tryz.underlying139 qas;have h8:=ta_no (T:=143) (X:=76) (by decide) Tryz.underlying141 qec;have h9:=qel (X:=76) Tryz.underlying143;go_enter Tryz.func116,Tryz.ntmps116;go_wp2;go_ret;exact⟨rfl,rfl⟩
theorem qhi (v:Value) (w:World):Calls Tryz.prog 116 #[.iface 144 v] w fun e w'=>e=.returned (.int .i64 11)∧w'=w:=by
 have h0:=ta_no (T:=144) (X:=76) (by decide) Tryz.underlying124 qbf;have h1:=ta_no (T:=144) (X:=76) (by decide) Tryz.underlying127 qbh;have h2:=ta_no (T:=144) (X:=76) (by decide) Tryz.underlying129 qap;have h3:=ta_no (T:=144) (X:=76) (by decide) Tryz.underlying134 qbu;have h4:=ta_no (T:=144) (X:=76) (by decide) Tryz.underlying135 qbx;have h5:=ta_no (T:=144) (X:=76) (by decide) Tryz.underlying136 qaw;have h6:=ta_no (T:=144) (X:=76) (by decide) Tryz.underlying137 qck;have h7:=ta_no (T:=144) (X:=76) (by decide) Tryz.underlying139 qas;have h8:=ta_no (T:=144) (X:=76) (by decide) Tryz.underlying141 qec;have h9:=ta_no (T:=144) (X:=76) (by decide) Tryz.underlying143 qar;have h10:=qel (X:=76) Tryz.underlying144;go_enter Tryz.func116,Tryz.ntmps116;go_wp2;go_ret;exact⟨rfl,rfl⟩
theorem qih (v:Value) (w:World):Calls Tryz.prog 116 #[.iface 148 v] w fun e w'=>e=.returned (.int .i64 12)∧w'=w:=by
 have h0:=ta_no (T:=148) (X:=76) (by decide) Tryz.underlying124 qbf;have h1:=ta_no (T:=148) (X:=76) (by decide) Tryz.underlying127 qbh;have h2:=ta_no (T:=148) (X:=76) (by decide) Tryz.underlying129 qap;have h3:=ta_no (T:=148) (X:=76) (by decide) Tryz.underlying134 qbu;have h4:=ta_no (T:=148) (X:=76) (by decide) Tryz.underlying135 qbx;have h5:=ta_no (T:=148) (X:=76) (by decide) Tryz.underlying136 qaw;have h6:=ta_no (T:=148) (X:=76) (by decide) Tryz.underlying137 qck;have h7:=ta_no (T:=148) (X:=76) (by decide) Tryz.underlying139 qas;have h8:=ta_no (T:=148) (X:=76) (by decide) Tryz.underlying141 qec;have h9:=ta_no (T:=148) (X:=76) (by decide) Tryz.underlying143 qar;have h10:=ta_no (T:=148) (X:=76) (by decide) Tryz.underlying144 qft;have h11:=qel (X:=76) Tryz.underlying148;go_enter Tryz.func116,Tryz.ntmps116;go_wp2;go_ret;exact⟨rfl,rfl⟩
theorem qhh (v:Value) (w:World):Calls Tryz.prog 116 #[.iface 149 v] w fun e w'=>e=.returned (.int .i64 13)∧w'=w:=by
 have h0:=ta_no (T:=149) (X:=76) (by decide) Tryz.underlying124 qbf;have h1:=ta_no (T:=149) (X:=76) (by decide) Tryz.underlying127 qbh;have h2:=ta_no (T:=149) (X:=76) (by decide) Tryz.underlying129 qap;have h3:=ta_no (T:=149) (X:=76) (by decide) Tryz.underlying134 qbu;have h4:=ta_no (T:=149) (X:=76) (by decide) Tryz.underlying135 qbx;have h5:=ta_no (T:=149) (X:=76) (by decide) Tryz.underlying136 qaw;have h6:=ta_no (T:=149) (X:=76) (by decide) Tryz.underlying137 qck;have h7:=ta_no (T:=149) (X:=76) (by decide) Tryz.underlying139 qas;have h8:=ta_no (T:=149) (X:=76) (by decide) Tryz.underlying141 qec;have h9:=ta_no (T:=149) (X:=76) (by decide) Tryz.underlying143 qar;have h10:=ta_no (T:=149) (X:=76) (by decide) Tryz.underlying144 qft;have h11:=ta_no (T:=149) (X:=76) (by decide) Tryz.underlying148 qjo;have h12:=qel (X:=76) Tryz.underlying149;go_enter Tryz.func116,Tryz.ntmps116;go_wp2;go_ret;exact⟨rfl,rfl⟩
theorem qgc (v:Value) (w:World):Calls Tryz.prog 116 #[.iface 150 v] w fun e w'=>e=.returned (.int .i64 14)∧w'=w:=by
 have h0:=ta_no (T:=150) (X:=76) (by decide) Tryz.underlying124 qbf;have h1:=ta_no (T:=150) (X:=76) (by decide) Tryz.underlying127 qbh;have h2:=ta_no (T:=150) (X:=76) (by decide) Tryz.underlying129 qap;have h3:=ta_no (T:=150) (X:=76) (by decide) Tryz.underlying134 qbu;have h4:=ta_no (T:=150) (X:=76) (by decide) Tryz.underlying135 qbx;have h5:=ta_no (T:=150) (X:=76) (by decide) Tryz.underlying136 qaw;have h6:=ta_no (T:=150) (X:=76) (by decide) Tryz.underlying137 qck;have h7:=ta_no (T:=150) (X:=76) (by decide) Tryz.underlying139 qas;have h8:=ta_no (T:=150) (X:=76) (by decide) Tryz.underlying141 qec;have h9:=ta_no (T:=150) (X:=76) (by decide) Tryz.underlying143 qar;have h10:=ta_no (T:=150) (X:=76) (by decide) Tryz.underlying144 qft;have h11:=ta_no (T:=150) (X:=76) (by decide) Tryz.underlying148 qjo;have h12:=ta_no (T:=150) (X:=76) (by decide) Tryz.underlying149 qnq;have h13:=qel (X:=76) Tryz.underlying150;go_enter Tryz.func116,Tryz.ntmps116;go_wp2;go_ret;exact⟨rfl,rfl⟩
theorem qnz (v:Value) (w:World):Calls Tryz.prog 117 #[.iface 124 v] w fun e w'=>e=.returned (.int .i64 0)∧w'=w:=by
 have h0:=ta_no (T:=124) (X:=76) (by decide) Tryz.underlying129 qap;have h1:=ta_no (T:=124) (X:=76) (by decide) Tryz.underlying136 qaw;have h2:=ta_no (T:=124) (X:=76) (by decide) Tryz.underlying139 qas;have h3:=ta_no (T:=124) (X:=76) (by decide) Tryz.underlying143 qar;go_enter Tryz.func117,Tryz.ntmps117;go_wp2;go_ret;exact⟨rfl,rfl⟩
theorem qny (v:Value) (w:World):Calls Tryz.prog 117 #[.iface 127 v] w fun e w'=>e=.returned (.int .i64 0)∧w'=w:=by
 have h0:=ta_no (T:=127) (X:=76) (by decide) Tryz.underlying129 qap;have h1:=ta_no (T:=127) (X:=76) (by decide) Tryz.underlying136 qaw;have h2:=ta_no (T:=127) (X:=76) (by decide) Tryz.underlying139 qas;have h3:=ta_no (T:=127) (X:=76) (by decide) Tryz.underlying143 qar;go_enter Tryz.func117,Tryz.ntmps117;go_wp2;go_ret;exact⟨rfl,rfl⟩
theorem qpl (v:Value) (w:World):Calls Tryz.prog 117 #[.iface 134 v] w fun e w'=>e=.returned (.int .i64 0)∧w'=w:=by
 have h0:=ta_no (T:=134) (X:=76) (by decide) Tryz.underlying129 qap;have h1:=ta_no (T:=134) (X:=76) (by decide) Tryz.underlying136 qaw;have h2:=ta_no (T:=134) (X:=76) (by decide) Tryz.underlying139 qas;have h3:=ta_no (T:=134) (X:=76) (by decide) Tryz.underlying143 qar;go_enter Tryz.func117,Tryz.ntmps117;go_wp2;go_ret;exact⟨rfl,rfl⟩
theorem qpm (v:Value) (w:World):Calls Tryz.prog 117 #[.iface 135 v] w fun e w'=>e=.returned (.int .i64 0)∧w'=w:=by
 have h0:=ta_no (T:=135) (X:=76) (by decide) Tryz.underlying129 qap;have h1:=ta_no (T:=135) (X:=76) (by decide) Tryz.underlying136 qaw;have h2:=ta_no (T:=135) (X:=76) (by decide) Tryz.underlying139 qas;have h3:=ta_no (T:=135) (X:=76) (by decide) Tryz.underlying143 qar;go_enter Tryz.func117,Tryz.ntmps117;go_wp2;go_ret;exact⟨rfl,rfl⟩
theorem qpn (v:Value) (w:World):Calls Tryz.prog 117 #[.iface 136 v] w fun e w'=>e=.returned (.int .i64 2)∧w'=w:=by
 have h0:=ta_no (T:=136) (X:=76) (by decide) Tryz.underlying129 qap;have h1:=qel (X:=76) Tryz.underlying136;have h2:=ta_no (T:=136) (X:=76) (by decide) Tryz.underlying139 qas;have h3:=ta_no (T:=136) (X:=76) (by decide) Tryz.underlying143 qar;go_enter Tryz.func117,Tryz.ntmps117;go_wp2;go_ret;exact⟨rfl,rfl⟩
theorem qob (v:Value) (w:World):Calls Tryz.prog 117 #[.iface 137 v] w fun e w'=>e=.returned (.int .i64 0)∧w'=w:=by
 have h0:=ta_no (T:=137) (X:=76) (by decide) Tryz.underlying129 qap;have h1:=ta_no (T:=137) (X:=76) (by decide) Tryz.underlying136 qaw;have h2:=ta_no (T:=137) (X:=76) (by decide) Tryz.underlying139 qas;have h3:=ta_no (T:=137) (X:=76) (by decide) Tryz.underlying143 qar;go_enter Tryz.func117,Tryz.ntmps117;go_wp2;go_ret;exact⟨rfl,rfl⟩
theorem qlg (v:Value) (w:World):Calls Tryz.prog 117 #[.iface 139 v] w fun e w'=>e=.returned (.int .i64 2)∧w'=w:=by
 have h0:=ta_no (T:=139) (X:=76) (by decide) Tryz.underlying129 qap;have h1:=ta_no (T:=139) (X:=76) (by decide) Tryz.underlying136 qaw;have h2:=qel (X:=76) Tryz.underlying139;have h3:=ta_no (T:=139) (X:=76) (by decide) Tryz.underlying143 qar;go_enter Tryz.func117,Tryz.ntmps117;go_wp2;go_ret;exact⟨rfl,rfl⟩
theorem qpo (v:Value) (w:World):Calls Tryz.prog 117 #[.iface 141 v] w fun e w'=>e=.returned (.int .i64 0)∧w'=w:=by
 have h0:=ta_no (T:=141) (X:=76) (by decide) Tryz.underlying129 qap;have h1:=ta_no (T:=141) (X:=76) (by decide) Tryz.underlying136 qaw;have h2:=ta_no (T:=141) (X:=76) (by decide) Tryz.underlying139 qas;have h3:=ta_no (T:=141) (X:=76) (by decide) Tryz.underlying143 qar;go_enter Tryz.func117,Tryz.ntmps117;go_wp2;go_ret;exact⟨rfl,rfl⟩
theorem qju (v:Value) (w:World):Calls Tryz.prog 117 #[.iface 143 v] w fun e w'=>e=.returned (.int .i64 2)∧w'=w:=by
 have h0:=ta_no (T:=143) (X:=76) (by decide) Tryz.underlying129 qap;have h1:=ta_no (T:=143) (X:=76) (by decide) Tryz.underlying136 qaw;have h2:=ta_no (T:=143) (X:=76) (by decide) Tryz.underlying139 qas;have h3:=qel (X:=76) Tryz.underlying143;go_enter Tryz.func117,Tryz.ntmps117;go_wp2;go_ret;exact⟨rfl,rfl⟩
theorem qmp (v:Value) (w:World):Calls Tryz.prog 117 #[.iface 144 v] w fun e w'=>e=.returned (.int .i64 0)∧w'=w:=by
 have h0:=ta_no (T:=144) (X:=76) (by decide) Tryz.underlying129 qap;have h1:=ta_no (T:=144) (X:=76) (by decide) Tryz.underlying136 qaw;have h2:=ta_no (T:=144) (X:=76) (by decide) Tryz.underlying139 qas;have h3:=ta_no (T:=144) (X:=76) (by decide) Tryz.underlying143 qar;go_enter Tryz.func117,Tryz.ntmps117;go_wp2;go_ret;exact⟨rfl,rfl⟩
theorem qoa (v:Value) (w:World):Calls Tryz.prog 117 #[.iface 148 v] w fun e w'=>e=.returned (.int .i64 0)∧w'=w:=by
 have h0:=ta_no (T:=148) (X:=76) (by decide) Tryz.underlying129 qap;have h1:=ta_no (T:=148) (X:=76) (by decide) Tryz.underlying136 qaw;have h2:=ta_no (T:=148) (X:=76) (by decide) Tryz.underlying139 qas;have h3:=ta_no (T:=148) (X:=76) (by decide) Tryz.underlying143 qar;go_enter Tryz.func117,Tryz.ntmps117;go_wp2;go_ret;exact⟨rfl,rfl⟩
theorem qmo (v:Value) (w:World):Calls Tryz.prog 117 #[.iface 149 v] w fun e w'=>e=.returned (.int .i64 0)∧w'=w:=by
 have h0:=ta_no (T:=149) (X:=76) (by decide) Tryz.underlying129 qap;have h1:=ta_no (T:=149) (X:=76) (by decide) Tryz.underlying136 qaw;have h2:=ta_no (T:=149) (X:=76) (by decide) Tryz.underlying139 qas;have h3:=ta_no (T:=149) (X:=76) (by decide) Tryz.underlying143 qar;go_enter Tryz.func117,Tryz.ntmps117;go_wp2;go_ret;exact⟨rfl,rfl⟩
theorem qkh (v:Value) (w:World):Calls Tryz.prog 117 #[.iface 150 v] w fun e w'=>e=.returned (.int .i64 0)∧w'=w:=by
 have h0:=ta_no (T:=150) (X:=76) (by decide) Tryz.underlying129 qap;have h1:=ta_no (T:=150) (X:=76) (by decide) Tryz.underlying136 qaw;have h2:=ta_no (T:=150) (X:=76) (by decide) Tryz.underlying139 qas;have h3:=ta_no (T:=150) (X:=76) (by decide) Tryz.underlying143 qar;go_enter Tryz.func117,Tryz.ntmps117;go_wp2;go_ret;exact⟨rfl,rfl⟩
