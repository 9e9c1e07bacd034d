/- Lemmas. -/
import Derived.Shelf.Small.Utf8
import Derived.Shelf.Small.Strs
import Derived.Shelf.LaysM
import Derived.Shelf.Strconv.Clone
import Derived.Shelf.Strings.Search3
import Derived.Shelf.Strings.Count
import Derived.Shelf.Strings.Split
import Derived.Shelf.Strings.IndexAnyAll
import Derived.Test.YtobgmpaalnpdcaaGreatDoorProg
import Derived.Shelf.Strings.BuilderX
import Derived.Lib.Builder
import Derived.Lib.UnsafeStr
import Derived.Laws.Externs
import Derived.Lib.SplitLaws
import Derived.Laws.CopyOwn
import Derived.Test.YtobgmpaalnpdcaaGreatDoorV05
set_option linter.unusedVariables false
set_option linter.unusedSimpArgs false
set_option maxRecDepth 100000
set_option maxHeartbeats 20000000
namespace Go.Proofs.YtobgmpaalnpdcaaGreatDoor
open Go.RowKit

section
variable {P : Program} {ops : Array Oper} {Q : Exit → Act → World → Prop}
theorem qtc (N:Nat) (hNs:N<ops.size) (hlt:∀(i:Nat) (o:Oper),ops[i]? = some o→∀e∈o.after,e.on<i)
  (hch:∀(k:Nat) (o:Oper),N<k→ops[k]? = some o→∃e∈o.after,Region.binds .any e=true∧e.on+1=k)
  (hre:∀i,i<N→reach ops ops.size N i=true)
  (I:Act→World→Prop) (F:Nat→Act→World→Prop) (H:Nat→World→Prop)
  (step:∀(i:Nat) (o:Oper) (a:Act) (w:World),i<N→ops[i]? = some o→I a w→H i w→(∀e∈o.after,Region.binds .any e=true→F e.on a w) →
   wpOp P ops Q i (fun a' w'=>I a' w'∧F i a' w'∧(∀j,j≠i→reach ops ops.size j i=false→F j a w→F j a' w')∧∀k,k≠i→reach ops ops.size i k=false→H k w→H k w') a w)
  (fin:∀(a:Act) (w:World),I a w→(∀i,i<N→F i a w)→H N w→wpList P ops Q (ops.toList.drop N) a w) :
  ∀(fuel:Nat) (listed:Array Bool) (a:Act) (w:World),listed.size=ops.size→unl ops.size listed≤fuel→ops.size-N≤fuel →
   (∀i,N≤i→i<ops.size→listed.getD i true=false)→(∀j o,ops[j]? = some o→listed.getD j true=true→∀e∈o.after,Region.binds .any e=true→listed.getD e.on true=true) →
   I a w→(∀i,i<N→listed.getD i true=true→F i a w)→(∀k,k≤N→listed.getD k true=false→H k w)→wpAny P .any ops Q fuel listed a w:=by
 intro fuel
 induction fuel with
 |zero=>intro listed a w hs hu hf;omega
 |succ fuel ih=>
  intro listed a w hs hu hf h2 hc hI hF hH
  by_cases hall:∀i,i<N→listed.getD i true=true
  ·exact qqj hlt hch (ops.size-N) N (fuel+1) listed a w (by omega) (Nat.le_refl _) hs hf hall h2 (fin a w hI (fun i hi=>hF i hi (hall i hi)) (hH N (Nat.le_refl _) (h2 N (Nat.le_refl _) hNs)))
  refine⟨fun h0=>?_,fun i hi=>?_⟩
  ·have:=qlb hlt hs h0 N hNs;rw[h2 N (Nat.le_refl _) hNs] at this;cases this
  ·obtain⟨hi1,hi2,hi3⟩:=qlt hlt hs hi;have ho:=Array.getElem?_eq_getElem hi1;have hiN:i<N:=by
    rcases Nat.lt_trichotomy i N with c | c | c
    ·exact c
    ·exfalso
     subst c;exact hall fun j hj=>qot hc (hre j hj) hi3
    ·exfalso
     obtain⟨e,he,hb,hon⟩:=hch i _ c ho;have:=hi3 _ ho e he hb;rw[h2 e.on (by omega) (by omega)] at this;cases this
   refine wpOp_mono (fun a' w' hh=>?_) (step i _ a w hiN ho hI (hH i (Nat.le_of_lt hiN) hi2) fun e he hb=>hF e.on (by have:=hlt i _ ho e he;omega) (hi3 _ ho e he hb));obtain⟨hI',hFi,hst,hsh⟩:=hh;have hul:=qrj hs hi1 hi2;refine ih _ a' w' (by simpa using hs) (by omega) ?_ (fun j hj hjs=>?_) ?_ hI' (fun j hj hl=>?_) (fun k hk hl=>?_)
   ·-- the rest is still to come
    have hsub:ops.size-N≤unl ops.size (listed.setIfInBounds i true):=by
     have e1:List.range ops.size=List.range N++List.range' N (ops.size-N):=by
      have:=List.range'_append (s:=0) (m:=N) (n:=ops.size-N) (step:=1);rw[Nat.one_mul,Nat.zero_add,show N+(ops.size-N)=ops.size by omega] at this;rw[List.range_eq_range',List.range_eq_range'];exact this.symm
     have e2:((List.range' N (ops.size-N)).filter fun i'=>!(listed.setIfInBounds i true).getD i' true)=List.range' N (ops.size-N):=by
      rw[List.filter_eq_self];intro x hx;rw[List.mem_range'_1] at hx;rw[qbb (by omega),h2 x (by omega) (by omega)];rfl
     unfold unl;rw[e1,List.filter_append,e2,List.length_append,List.length_range'];omega
    omega
   ·rw[qbb (by omega)];exact h2 j hj hjs
   ·intro j o hoj hl e he hb
    by_cases ej:j=i
    ·subst ej;have:=hi3 o hoj e he hb;have hne:e.on≠j:=by have:=hlt j o hoj e he;omega
     rw[qbb hne];exact this
    ·rw[qbb ej] at hl;have:=hc j o hoj hl e he hb
     by_cases ee:e.on=i
     ·rw[ee];exact qhk
     ·rw[qbb ee];exact this
   ·by_cases e:j=i
    ·subst e;exact hFi
    ·rw[qbb e] at hl;refine hst j e ?_ (hF j hj hl);cases hr:reach ops ops.size j i with
     |false=>rfl
     |true=>
      have:=qmj hc _ j i hr hl;rw[hi2] at this;cases this
   ·have e:k≠i:=by
     rintro rfl;rw[qhk] at hl;cases hl
    rw[qbb e] at hl;refine hsh k e ?_ (hH k hk hl);cases hr:reach ops ops.size i k with
    |false=>rfl
    |true=>
     have:=qot hc hr hi3;rw[hl] at this;cases this

theorem qrf {id:Nat} {l t:List Oper} {a0:Act} {w0:World} (hm:P.follows .mixedOrders=true) (hshape:qpd a0.tmps.size l t=true)
  (R:Nat→World→World→Prop) (G:Nat→Value→World→Prop) (H:Nat→World→Prop)
  (sG:∀(i j:Nat) (v:Value) (w w':World),i<l.length→j<l.length→reach (l++t).toArray (l++t).length j i=false→j≠i→R i w w'→G j v w→G j v w')
  (sH:∀(i k:Nat) (w w':World),i<l.length→k≤l.length→reach (l++t).toArray (l++t).length i k=false→k≠i→R i w w'→H k w→H k w')
  (init:∀k,H k w0.drew)
  (step:∀(i:Nat) (o:Oper) (a:Act) (w:World),l[i]? = some o→KeepD l.toArray a0 a→H i w→(∀j oj d,(o.after.toList.any fun e=>e.on==j&&Region.binds .any e)=true→l[j]? = some oj→oj.dst=some d→∃v,a.tmps[d]? = some v∧G j v w) →
   if Region.wanted o (yielded (l++t).toArray a.tmps)=true then Oper.wp P o a w (fun a' w'=>∃v,a'=a.put o.dst v∧R i w w'∧G i v w') Q else R i w w∧G i undef w)
  (fin:∀(vs:Nat→Value) (w:World),H l.length w→(∀i,i<l.length→G i (vs i) w)→∀a,puts vs 0 l a0=a→wpList P (l++t).toArray Q t a w) :
  (Code.region id (l++t).toArray true).wp P Q a0 w0:=by
 simp only[qpd,Bool.and_eq_true,decide_eq_true_eq,List.all_eq_true,Bool.or_eq_true] at hshape;obtain⟨hsg,ht,h5,h6,h7⟩:=hshape;simp only[qpc,Bool.and_eq_true,decide_eq_true_eq,List.all_eq_true] at hsg;obtain⟨⟨h1,hnd⟩,h3⟩:=hsg;have hd:∀o∈l,∃d,o.dst=some d∧d<a0.tmps.size:=by
  intro o ho;have:=h1 o ho;cases e:o.dst with
  |none=>simp[e] at this
  |some d=>exact⟨d,rfl,by simpa[e] using this⟩
 have hlt:∀(i:Nat) (o:Oper),(l++t).toArray[i]? = some o→∀e∈o.after,e.on<i:=by
  intro i o ho;have ho':(l++t)[i]? = some o:=by simpa using ho
  have hi:i<(l++t).length:=(List.getElem?_eq_some_iff.1 ho').1;have:=h5 i (List.mem_range.2 hi);rw[ho'] at this;simp only[List.all_eq_true,decide_eq_true_eq] at this;exact fun e he=>this e (Array.mem_toList_iff.2 he)
 have hat:∀i o,i<l.length→(l++t).toArray[i]? = some o→l[i]? = some o:=by
  intro i o hi ho;have ho':(l++t)[i]? = some o:=by simpa using ho
  rwa [List.getElem?_append_left hi] at ho'
 have hsz:(l++t).toArray.size=l.length+t.length:=by simp
 refine wp_region_any hm ?_;refine qtc (ops:=(l++t).toArray) l.length (by omega) hlt ?_ ?_ (fun a w=>KeepD l.toArray a0 a) (fun i a w=>∀o d,l[i]? = some o→o.dst=some d→∃v,a.tmps[d]? = some v∧G i v w) (fun k w=>k≤l.length→H k w) ?_ ?_ _ _ _ _ ?_ ?_ ?_ ?_ ?_ ?_ ?_ ?_
 ·intro k o hk ho;have ho':(l++t)[k]? = some o:=by simpa using ho
  have hi:k<(l++t).length:=(List.getElem?_eq_some_iff.1 ho').1;have:=h6 k (List.mem_range.2 hi);rw[ho'] at this
  rcases this with c | c
  ·omega
  ·simp only[List.any_eq_true,Bool.and_eq_true,decide_eq_true_eq] at c;obtain⟨e,he,hb,hon⟩:=c;exact⟨e,Array.mem_toList_iff.1 he,hb,hon⟩
 ·intro i hi;have:=h7 i (List.mem_range.2 hi)
  simpa using this
 ·intro i o a w hil hi hk hHi hdeps;have hi':l[i]? = some o:=hat i o hil hi;obtain⟨d,hdd,hds⟩:=hd o (List.mem_of_getElem? hi');refine wpOp_step hi fun K' hK'=>?_
  have fin1:∀(a':Act) (w':World),(∃v,a'=a.put o.dst v∧R i w w'∧G i v w')→K' a' w':=by
   intro a' w' hh;refine hK' a' w' ?_;obtain⟨v,rfl,hb',hG⟩:=hh;refine⟨⟨by rw[qda,hk.size],by rw[qha,hk.defers],fun s hs=>?_⟩,?_,?_,?_⟩
   ·rw[qde _ _ _ _ (hs o (by simpa using List.mem_of_getElem? hi')),hk.slot s hs]
   ·intro o2 d2 ho2 hd2;obtain rfl:o2=o:=Option.some.inj (ho2.symm.trans hi');refine⟨v,?_,hG⟩;rw[hd2];exact qdn v (by rw[hk.size];obtain rfl:d=d2:=Option.some.inj (hdd.symm.trans hd2);exact hds)
   ·intro j hj hrj hF o2 d2 ho2 hd2;obtain⟨u,hu,hg⟩:=hF o2 d2 ho2 hd2;have hjl:j<l.length:=(List.getElem?_eq_some_iff.1 ho2).1;refine⟨u,?_,sG i j u w w' hil hjl (by simpa using hrj) hj hb' hg⟩;rw[qde _ _ _ _ ?_]
    ·exact hu
    ·intro e;refine hj ?_;have hi1:i<l.length:=(List.getElem?_eq_some_iff.1 hi').1;have hj1:j<l.length:=(List.getElem?_eq_some_iff.1 ho2).1;have q1:(l.map (fun o=>o.dst))[i]? = some (some d2):=by rw[List.getElem?_map,hi',Option.map_some,e]
     have q2:(l.map (fun o=>o.dst))[j]? = some (some d2):=by rw[List.getElem?_map,ho2,Option.map_some,hd2]
     exact (List.getElem?_inj (by simpa using hj1) hnd).1 (q2.trans q1.symm)
   ·intro k hki hrk hHk hkl;exact sH i k w w' hil hkl (by simpa using hrk) hki hb' (hHk hkl)
  have st:=step i o a w hi' hk (hHi (Nat.le_of_lt hil)) (by
   intro j oj dj hj hoj hdj;rw[List.any_eq_true] at hj;obtain⟨e,he,hej⟩:=hj;rw[Bool.and_eq_true] at hej;obtain rfl:e.on=j:=by simpa using hej.1
   exact hdeps e (Array.mem_toList_iff.1 he) hej.2 oj dj hoj hdj)
  split at st
  ·rename_i hw
   rw[if_pos hw];exact Oper.wp_mono fin1 st
  ·rename_i hw
   rw[if_neg hw];exact fin1 _ _ ⟨undef,rfl,st.1,st.2⟩
 ·intro a w hk hF hHN;have hvs:∀i:Nat,∃v,∀o d,l[i]? = some o→o.dst=some d→a.tmps[d]? = some v∧G i v w:=by
   intro i
   by_cases hi:i<l.length
   ·obtain⟨d,hdd,_⟩:=hd l[i] (List.getElem_mem hi);obtain⟨v,hv,hg⟩:=hF i hi _ d (List.getElem?_eq_getElem hi) hdd;refine⟨v,fun o d' ho hd'=>?_⟩;obtain rfl:l[i]=o:=Option.some.inj ((List.getElem?_eq_getElem hi).symm.trans ho);obtain rfl:d=d':=Option.some.inj (hdd.symm.trans hd');exact⟨hv,hg⟩
   ·refine⟨undef,fun o d ho _=>?_⟩;rw[List.getElem?_eq_none (by omega)] at ho;cases ho
  have hch:=fun i=>Classical.choose_spec (hvs i)
  have e:=quc (ops:=l.toArray) (a:=a0) (a':=a) hk (by simpa using hnd) (by simpa using hd) (fun i=>Classical.choose (hvs i)) (fun i o d ho hdd=>(hch i o d (by simpa using ho) hdd).1);rw[e];have:=fin _ w (hHN (Nat.le_refl _)) (fun i hi=>by
   obtain⟨d,hdd,_⟩:=hd l[i] (List.getElem_mem hi);exact (hch i _ d (List.getElem?_eq_getElem hi) hdd).2) _ rfl
  simpa using this
 ·simp
 ·have:unl (l++t).toArray.size (Array.replicate (l++t).toArray.size false)≤(List.range (l++t).toArray.size).length:=List.length_filter_le _ _
  simpa using this
 ·omega
 ·intro i _ hi;have hi':i<(Array.replicate (l++t).toArray.size false).size:=by simpa using hi
  rw[Array.getD_eq_getD_getElem?,Array.getElem?_eq_getElem hi'];simp
 ·intro j o ho hl;have hj:j<(l++t).toArray.size:=(Array.getElem?_eq_some_iff.1 ho).1;have hj':j<(Array.replicate (l++t).toArray.size false).size:=by simpa using hj
  rw[Array.getD_eq_getD_getElem?,Array.getElem?_eq_getElem hj'] at hl;simp at hl
 ·exact⟨rfl,rfl,fun _ _=>rfl⟩
 ·intro i hi hl;have hi':i<(Array.replicate (l++t).toArray.size false).size:=by simp;omega
  rw[Array.getD_eq_getD_getElem?,Array.getElem?_eq_getElem hi'] at hl;simp at hl
 ·intro k _ _ _;exact init k
theorem qcd (n:Nat) {id:Nat} {ll:List Oper} {a0:Act} {w0:World} (hm:P.follows .mixedOrders=true) (hshape:qpd a0.tmps.size (ll.take n) (ll.drop n)=true)
  (R:Nat→World→World→Prop) (G:Nat→Value→World→Prop) (H:Nat→World→Prop)
  (sG:∀(i j:Nat) (v:Value) (w w':World),i<n→j<n→reach ll.toArray ll.length j i=false→j≠i→R i w w'→G j v w→G j v w')
  (sH:∀(i k:Nat) (w w':World),i<n→k≤n→reach ll.toArray ll.length i k=false→k≠i→R i w w'→H k w→H k w')
  (init:∀k,H k w0.drew)
  (step:∀(i:Nat) (o:Oper) (a:Act) (w:World),(ll.take n)[i]? = some o→KeepD (ll.take n).toArray a0 a→H i w→(∀j oj d,(o.after.toList.any fun e=>e.on==j&&Region.binds .any e)=true→(ll.take n)[j]? = some oj→oj.dst=some d→∃v,a.tmps[d]? = some v∧G j v w) →
   if Region.wanted o (yielded ll.toArray a.tmps)=true then Oper.wp P o a w (fun a' w'=>∃v,a'=a.put o.dst v∧R i w w'∧G i v w') Q else R i w w∧G i undef w)
  (fin:∀(vs:Nat→Value) (w:World),H n w→(∀i,i<n→G i (vs i) w)→∀a,puts vs 0 (ll.take n) a0=a→wpList P ll.toArray Q (ll.drop n) a w) :
  (Code.region id ll.toArray true).wp P Q a0 w0:=by
 have e:ll.take n++ll.drop n=ll:=List.take_append_drop n ll
 by_cases hn:n≤ll.length
 ·have hl:(ll.take n).length=n:=by simp[hn]
  have:=qrf (id:=id) (l:=ll.take n) (t:=ll.drop n) (a0:=a0) (w0:=w0) (Q:=Q) hm hshape R G H (by rw[e,hl];exact sG) (by rw[e,hl];exact sH) init (by rw[e];exact step) (by rw[e,hl];exact fin)
  rwa [e] at this
 ·simp only[qpd,Bool.and_eq_true,decide_eq_true_eq] at hshape;have h:=hshape.2.1;simp at h;omega
end
end Go.Proofs.YtobgmpaalnpdcaaGreatDoor
namespace Go.Proofs
open Go.Shelf
def Tryz.lays119_ren:Go.Shelf.Ren:=⟨fun | 119=>213 | n=>n,fun | 21=>21 | 4=>4 | n=>n,fun | n=>n⟩
theorem Tryz.lays119:Go.Proofs.Lays.n119 Tryz.prog Tryz.lays119_ren:={
 mixed:=by kernel_rfl
 f119:=Tryz.func213.trans (congrArg some (by kernel_rfl))
 t4:=Tryz.underlying4
 a4:=Tryz.isAgg4
 z4:=Tryz.sizeOf4
 v4:=Tryz.zeroValue4
 t21:=Tryz.underlying21
 a21:=Tryz.isAgg21
 z21:=Tryz.sizeOf21
 v21:=Tryz.zeroValue21 }
def Tryz.lays137_ren:Go.Shelf.Ren:=⟨fun | 137=>212 | 217=>220 | 266=>223 | n=>n,fun | 9=>9 | 5=>5 | 3=>3 | n=>n,fun | n=>n⟩
theorem Tryz.lays137:Go.Proofs.Lays.n137 Tryz.prog Tryz.lays137_ren:={
 mixed:=by kernel_rfl
 f137:=Tryz.func212.trans (congrArg some (by kernel_rfl))
 f217:=Tryz.func220.trans (congrArg some (by kernel_rfl))
 f266:=Tryz.func223.trans (congrArg some (by kernel_rfl))
 t3:=Tryz.underlying3
 a3:=Tryz.isAgg3
 z3:=Tryz.sizeOf3
 v3:=Tryz.zeroValue3
 t5:=Tryz.underlying5
 a5:=Tryz.isAgg5
 z5:=Tryz.sizeOf5
 v5:=Tryz.zeroValue5
 t9:=Tryz.underlying9
 a9:=Tryz.isAgg9
 z9:=Tryz.sizeOf9
 v9:=Tryz.zeroValue9 }
def Tryz.laysM316_ren:Go.Shelf.Ren:=⟨fun | 316=>204 | n=>n,fun | 9=>9 | 3=>3 | 4=>4 | 37=>22 | 0=>0 | 127=>228 | 5=>5 | n=>n,fun | n=>n⟩
theorem Tryz.laysM316:Go.Proofs.LaysM.n316 Tryz.prog Tryz.laysM316_ren:={
 mixed:=by kernel_rfl
 f316:=Tryz.func204.trans (congrArg some (by kernel_rfl))
 t0:=Tryz.underlying0
 a0:=Tryz.isAgg0
 z0:=Tryz.sizeOf0
 v0:=Tryz.zeroValue0
 t3:=Tryz.underlying3
 a3:=Tryz.isAgg3
 z3:=Tryz.sizeOf3
 v3:=Tryz.zeroValue3
 t4:=Tryz.underlying4
 a4:=Tryz.isAgg4
 z4:=Tryz.sizeOf4
 v4:=Tryz.zeroValue4
 t9:=Tryz.underlying9
 a9:=Tryz.isAgg9
 z9:=Tryz.sizeOf9
 v9:=Tryz.zeroValue9
 t37:=Tryz.underlying22
 a37:=Tryz.isAgg22
 z37:=Tryz.sizeOf22
 v37:=Tryz.zeroValue22
 t127:=Tryz.underlying228
 a127:=Tryz.isAgg228
 z127:=Tryz.sizeOf228
 v127:=Tryz.zeroValue228
 t5:=Tryz.underlying5
 a5:=Tryz.isAgg5
 z5:=Tryz.sizeOf5
 v5:=Tryz.zeroValue5
 i0:=by kernel_rfl
 i3:=by kernel_rfl
 i4:=by kernel_rfl
 i5:=by kernel_rfl
 i9:=by kernel_rfl
 i37:=by kernel_rfl
 i127:=by kernel_rfl }
def Tryz.lays221_ren:Go.Shelf.Ren:=⟨fun | 221=>203 | 268=>209 | 138=>210 | 143=>211 | 195=>216 | 197=>217 | 218=>218 | 219=>219 | 260=>221 | 217=>220 | 225=>215 | 224=>214 | 267=>222 | 266=>223 | 314=>224 | n=>n,fun | 9=>9 | 3=>3 | 31=>25 | 4=>4 | 0=>0 | 105=>248 | 21=>21 | 5=>5 | 46=>153 | 119=>250 | 139=>253 | 138=>252 | 146=>254 | 51=>225 | n=>n,fun | 1=>2 | 3=>3 | 4=>4 | n=>n⟩
theorem Tryz.lays221:Go.Proofs.Lays.n221 Tryz.prog Tryz.lays221_ren:={
 mixed:=by kernel_rfl
 f138:=Tryz.func210.trans (congrArg some (by kernel_rfl))
 f143:=Tryz.func211.trans (congrArg some (by kernel_rfl))
 f195:=Tryz.func216.trans (congrArg some (by kernel_rfl))
 f197:=Tryz.func217.trans (congrArg some (by kernel_rfl))
 f217:=Tryz.func220.trans (congrArg some (by kernel_rfl))
 f218:=Tryz.func218.trans (congrArg some (by kernel_rfl))
 f219:=Tryz.func219.trans (congrArg some (by kernel_rfl))
 f221:=Tryz.func203.trans (congrArg some (by kernel_rfl))
 f224:=Tryz.func214.trans (congrArg some (by kernel_rfl))
 f225:=Tryz.func215.trans (congrArg some (by kernel_rfl))
 f260:=Tryz.func221.trans (congrArg some (by kernel_rfl))
 f266:=Tryz.func223.trans (congrArg some (by kernel_rfl))
 f267:=Tryz.func222.trans (congrArg some (by kernel_rfl))
 f268:=Tryz.func209.trans (congrArg some (by kernel_rfl))
 f314:=Tryz.func224.trans (congrArg some (by kernel_rfl))
 t0:=Tryz.underlying0
 a0:=Tryz.isAgg0
 z0:=Tryz.sizeOf0
 v0:=Tryz.zeroValue0
 t3:=Tryz.underlying3
 a3:=Tryz.isAgg3
 z3:=Tryz.sizeOf3
 v3:=Tryz.zeroValue3
 t4:=Tryz.underlying4
 a4:=Tryz.isAgg4
 z4:=Tryz.sizeOf4
 v4:=Tryz.zeroValue4
 t5:=Tryz.underlying5
 a5:=Tryz.isAgg5
 z5:=Tryz.sizeOf5
 v5:=Tryz.zeroValue5
 t9:=Tryz.underlying9
 a9:=Tryz.isAgg9
 z9:=Tryz.sizeOf9
 v9:=Tryz.zeroValue9
 t21:=Tryz.underlying21
 a21:=Tryz.isAgg21
 z21:=Tryz.sizeOf21
 v21:=Tryz.zeroValue21
 t31:=Tryz.underlying25
 a31:=Tryz.isAgg25
 z31:=Tryz.sizeOf25
 v31:=Tryz.zeroValue25
 t46:=Tryz.underlying153
 a46:=Tryz.isAgg153
 z46:=Tryz.sizeOf153
 v46:=Tryz.zeroValue153
 t51:=Tryz.underlying225
 a51:=Tryz.isAgg225
 z51:=Tryz.sizeOf225
 v51:=Tryz.zeroValue225
 t105:=Tryz.underlying248
 a105:=Tryz.isAgg248
 z105:=Tryz.sizeOf248
 v105:=Tryz.zeroValue248
 t119:=Tryz.underlying250
 a119:=Tryz.isAgg250
 z119:=Tryz.sizeOf250
 t138:=Tryz.underlying252
 a138:=Tryz.isAgg252
 z138:=Tryz.sizeOf252
 v138:=Tryz.zeroValue252
 t139:=Tryz.underlying253
 a139:=Tryz.isAgg253
 z139:=Tryz.sizeOf253
 v139:=Tryz.zeroValue253
 t146:=Tryz.underlying254
 a146:=Tryz.isAgg254
 z146:=Tryz.sizeOf254
 v146:=Tryz.zeroValue254
 g1:=by kernel_rfl
 g3:=by kernel_rfl
 g4:=by kernel_rfl }
def Tryz.lays152_ren:Go.Shelf.Ren:=⟨fun | 152=>205 | 137=>212 | 119=>213 | 224=>214 | 225=>215 | 217=>220 | 266=>223 | n=>n,fun | 9=>9 | 21=>21 | 3=>3 | 4=>4 | 5=>5 | 0=>0 | 46=>153 | n=>n,fun | n=>n⟩
theorem Tryz.lays152:Go.Proofs.Lays.n152 Tryz.prog Tryz.lays152_ren:={
 mixed:=by kernel_rfl
 f119:=Tryz.func213.trans (congrArg some (by kernel_rfl))
 f137:=Tryz.func212.trans (congrArg some (by kernel_rfl))
 f152:=Tryz.func205.trans (congrArg some (by kernel_rfl))
 f217:=Tryz.func220.trans (congrArg some (by kernel_rfl))
 f224:=Tryz.func214.trans (congrArg some (by kernel_rfl))
 f225:=Tryz.func215.trans (congrArg some (by kernel_rfl))
 f266:=Tryz.func223.trans (congrArg some (by kernel_rfl))
 t0:=Tryz.underlying0
 a0:=Tryz.isAgg0
 z0:=Tryz.sizeOf0
 v0:=Tryz.zeroValue0
 t3:=Tryz.underlying3
 a3:=Tryz.isAgg3
 z3:=Tryz.sizeOf3
 v3:=Tryz.zeroValue3
 t4:=Tryz.underlying4
 a4:=Tryz.isAgg4
 z4:=Tryz.sizeOf4
 v4:=Tryz.zeroValue4
 t5:=Tryz.underlying5
 a5:=Tryz.isAgg5
 z5:=Tryz.sizeOf5
 v5:=Tryz.zeroValue5
 t9:=Tryz.underlying9
 a9:=Tryz.isAgg9
 z9:=Tryz.sizeOf9
 v9:=Tryz.zeroValue9
 t21:=Tryz.underlying21
 a21:=Tryz.isAgg21
 z21:=Tryz.sizeOf21
 v21:=Tryz.zeroValue21
 t46:=Tryz.underlying153
 a46:=Tryz.isAgg153
 z46:=Tryz.sizeOf153
 v46:=Tryz.zeroValue153 }
def Tryz.lays226_ren:Go.Shelf.Ren:=⟨fun | 226=>206 | n=>n,fun | 3=>3 | 4=>4 | n=>n,fun | n=>n⟩
theorem Tryz.lays226:Go.Proofs.Lays.n226 Tryz.prog Tryz.lays226_ren:={
 mixed:=by kernel_rfl
 f226:=Tryz.func206.trans (congrArg some (by kernel_rfl))
 t3:=Tryz.underlying3
 a3:=Tryz.isAgg3
 z3:=Tryz.sizeOf3
 v3:=Tryz.zeroValue3
 t4:=Tryz.underlying4
 a4:=Tryz.isAgg4
 z4:=Tryz.sizeOf4
 v4:=Tryz.zeroValue4 }
def Tryz.lays153_ren:Go.Shelf.Ren:=⟨fun | 153=>202 | 152=>205 | 226=>206 | 227=>207 | 228=>208 | 137=>212 | 119=>213 | 224=>214 | 225=>215 | 217=>220 | 266=>223 | n=>n,fun | 9=>9 | 3=>3 | 4=>4 | 5=>5 | 21=>21 | 117=>240 | 116=>239 | 0=>0 | 46=>153 | 124=>247 | n=>n,fun | n=>n⟩
theorem Tryz.lays153:Go.Proofs.Lays.n153 Tryz.prog Tryz.lays153_ren:={
 mixed:=by kernel_rfl
 f119:=Tryz.func213.trans (congrArg some (by kernel_rfl))
 f137:=Tryz.func212.trans (congrArg some (by kernel_rfl))
 f152:=Tryz.func205.trans (congrArg some (by kernel_rfl))
 f153:=Tryz.func202.trans (congrArg some (by kernel_rfl))
 f217:=Tryz.func220.trans (congrArg some (by kernel_rfl))
 f224:=Tryz.func214.trans (congrArg some (by kernel_rfl))
 f225:=Tryz.func215.trans (congrArg some (by kernel_rfl))
 f226:=Tryz.func206.trans (congrArg some (by kernel_rfl))
 f227:=Tryz.func207.trans (congrArg some (by kernel_rfl))
 f228:=Tryz.func208.trans (congrArg some (by kernel_rfl))
 f266:=Tryz.func223.trans (congrArg some (by kernel_rfl))
 t0:=Tryz.underlying0
 a0:=Tryz.isAgg0
 z0:=Tryz.sizeOf0
 v0:=Tryz.zeroValue0
 t3:=Tryz.underlying3
 a3:=Tryz.isAgg3
 z3:=Tryz.sizeOf3
 v3:=Tryz.zeroValue3
 t4:=Tryz.underlying4
 a4:=Tryz.isAgg4
 z4:=Tryz.sizeOf4
 v4:=Tryz.zeroValue4
 t5:=Tryz.underlying5
 a5:=Tryz.isAgg5
 z5:=Tryz.sizeOf5
 v5:=Tryz.zeroValue5
 t9:=Tryz.underlying9
 a9:=Tryz.isAgg9
 z9:=Tryz.sizeOf9
 v9:=Tryz.zeroValue9
 t21:=Tryz.underlying21
 a21:=Tryz.isAgg21
 z21:=Tryz.sizeOf21
 v21:=Tryz.zeroValue21
 t46:=Tryz.underlying153
 a46:=Tryz.isAgg153
 z46:=Tryz.sizeOf153
 v46:=Tryz.zeroValue153
 t116:=Tryz.underlying239
 a116:=Tryz.isAgg239
 z116:=Tryz.sizeOf239
 t117:=Tryz.underlying240
 a117:=Tryz.isAgg240
 z117:=Tryz.sizeOf240
 v117:=Tryz.zeroValue240
 t124:=Tryz.underlying247
 a124:=Tryz.isAgg247
 z124:=Tryz.sizeOf247
 v124:=Tryz.zeroValue247 }
end Go.Proofs
namespace Go.Proofs.YtobgmpaalnpdcaaGreatDoor
open Go.RowKit

def lvs (l:List UInt8):List ByteArray:=(lvl l).map fun x=>⟨x.toArray⟩
theorem qqn (l:List UInt8):dats (lvs l)=lvl l:=by
 unfold dats lvs;rw[List.map_map];exact List.map_id'' (fun x=>rfl) _
theorem qdl (l:List UInt8):(lvs l).length=(lvl l).length:=by simp[lvs]
theorem lvs_of {ss:List ByteArray} {l:List UInt8} (h:dats ss=lvl l):ss=lvs l:=dats_inj (by rw[h,qqn])
theorem qdv:∀l:List UInt8,(lvl l).length≤l.length+1
 |[]=>Nat.le_refl _
 |c :: r=>by
  have:=qdv r
  by_cases h:c=47
  ·subst h;rw[qgy];simp;exact this
  ·rw[qgx h,pre_length _ (lvl_ne r),List.length_cons];omega

def LvInv (l:List UInt8) (done:List (List UInt8)) (f k:Nat):Prop :=
 f≤k∧done.length≤k∧((k≤l.length∧lvl l=done++pre ((l.drop f).take (k-f)) (lvl (l.drop k)))∨(k=l.length+1∧done=lvl l))

theorem LvInv.start (l:List UInt8):LvInv l [] 0 0:=⟨Nat.le_refl _,Nat.le_refl _,.inl ⟨Nat.zero_le _,by simp[pre_nil (lvl_ne l)]⟩⟩
theorem LvInv.skip {l:List UInt8} {done:List (List UInt8)} {f k:Nat} (h:LvInv l done f k) (hk:k<l.length) (hc:l.getD k 0≠47):LvInv l done f (k+1):=by
 obtain⟨hf,hd,h | ⟨h,_⟩⟩:=h
 ·refine⟨by omega,by omega,.inl ⟨hk,?_⟩⟩;have e:l.drop k=l.getD k 0 :: l.drop (k+1):=by
   rw[List.drop_eq_getElem_cons hk];simp[List.getD_eq_getElem?_getD,List.getElem?_eq_getElem hk]
  rw[h.2,e,qgx hc,pre_pre]
  congr 2
  have hlen:k-f<(l.drop f).length:=by rw[List.length_drop];omega
  rw[show k+1-f=k-f+1 by omega,List.take_succ_eq_append_getElem hlen,List.getElem_drop]
  congr 2
  simp only[List.getD_eq_getElem?_getD,show f+(k-f)=k by omega,List.getElem?_eq_getElem hk,Option.getD_some]
 ·omega
theorem LvInv.cut {l:List UInt8} {done:List (List UInt8)} {f k:Nat} (h:LvInv l done f k) (hk:k<l.length) (hc:l.getD k 0=47):LvInv l (done++[(l.drop f).take (k-f)]) (k+1) (k+1):=by
 obtain⟨hf,hd,h | ⟨h,_⟩⟩:=h
 ·refine⟨Nat.le_refl _,by simp;omega,.inl ⟨hk,?_⟩⟩;have e:l.drop k=l.getD k 0 :: l.drop (k+1):=by
   rw[List.drop_eq_getElem_cons hk];simp[List.getD_eq_getElem?_getD,List.getElem?_eq_getElem hk]
  rw[h.2,e,hc,qgy,Nat.sub_self,List.take_zero,pre_nil (lvl_ne _)];simp[pre]
 ·omega
theorem LvInv.last {l:List UInt8} {done:List (List UInt8)} {f k:Nat} (h:LvInv l done f k) (hk:k=l.length):LvInv l (done++[(l.drop f).take (k-f)]) (k+1) (k+1):=by
 obtain⟨hf,hd,h | ⟨h,_⟩⟩:=h
 ·refine⟨Nat.le_refl _,by simp;omega,.inr ⟨by omega,?_⟩⟩;rw[h.2,hk,List.drop_length,lvl_nil];simp[pre]
 ·omega

theorem sown_lit0 (w:World):SOwn (w.alloc (.cells #[] 9)) w.heap.size (some ⟨w.heap.size,0,none⟩) 0 0 [] :=
 ⟨rfl,rfl,.inr ⟨w.heap.size,0,#[],rfl,Nat.le_refl _,heap_alloc_new w _,Nat.le_refl _,Nat.zero_le _,rfl,rfl⟩⟩

theorem byte_at (s:ByteArray) (k:Nat) (h:k<s.size):s.data.toList.getD k 0=s[k]'h:=by
 simp[List.getD_eq_getElem?_getD,at_data s k h]
theorem byte_lit (x y:UInt8) (c:Int) (hc:c=(y.toNat:Int)):((x.toNat:Int)==c)=(y==x):=by
 subst hc;rw[Bool.eq_iff_iff,beq_iff_eq,beq_iff_eq];exact⟨fun e=>(UInt8.toNat_inj.1 (by omega)).symm,fun e=>by rw[e]⟩
theorem qrt (ss:List ByteArray) (u:ByteArray):dats (ss++[u])=dats ss++[u.data.toList]:=by simp[dats]

theorem new_cell (w:World) (v:Value) (t:TypeId):(w.alloc (.cells #[v] t)).cell? ⟨w.heap.size,0,none⟩ = some v:=by
 rw[World.cell?_alloc_at _ _ _ _ rfl];rfl
theorem qpb {w w1 w2:World} {B:Nat} {ao:Option Addr} {n cap:Nat} {ss:List ByteArray} (hb:Below B w w1) (hB:B≤w1.heap.size) (ho:SOwn w1 B ao n cap ss) (hg:w1.grownBy w2 (Value.slice ao n cap).ownBlock):Below B w w2 :=
 hb.grown hg hB (fun k hk=>(ho.2.lt k hk).1)

theorem qoa (s:ByteArray) (n:Nat) (w:World) (hs:s.size≤1048576) (hN:(lvl s.data.toList).length=n) :
  Calls Tryz.prog 120 #[.string s] w fun e w'=>∃ao cap,e=.returned (.slice ao n cap)∧SOwn w' w.heap.size ao n cap (lvs s.data.toList)∧Below w.heap.size w w':=by
 have HN:Hid ((lvl s.data.toList).length=n):=hN;have H1:Hid (s.size=s.data.toList.length):=rfl;clear hN;go_enter Tryz.func120,Tryz.ntmps120;go_wp2;have ho0:=sown_lit0 w;have hb0:Below w.heap.size w (w.alloc (.cells #[] 9)):=(Below.refl _ _).alloc (Nat.le_refl _) _
 go_loopw [3,4,5] (fun o q i wr=>∃(k f m cap:Nat) (ao:Option Addr) (ss:List ByteArray),i=.int .i64 k∧q=.int .i64 f∧o=.slice ao m cap∧k≤s.size+1∧LvInv s.data.toList (dats ss) f k∧SOwn wr w.heap.size ao m cap ss∧Below w.heap.size w wr) (fun _ _ i _=>s.size+1-(intOf i).toNat)
 case atStart=>exact⟨0,0,0,0,_,[],rfl,rfl,rfl,Nat.zero_le _,LvInv.start _,ho0,hb0⟩
 case round=>
  obtain⟨k,f,m,cap,ao,ss,rfl,rfl,rfl,hk,hI,ho,hb⟩:=hrel;clear ho0 hb0;have HI:Hid (LvInv s.data.toList (dats ss) f k):=hI;have hfk:f≤k:=hI.1;have hm:m≤k:=by have:=hI.2.1;rw[qtl,ho.1] at this;exact this
  clear hI
  by_cases hk1:k≤s.size
  ·have hk1':(k:Int)≤s.size:=by omega
   have hX:Hid ((s.extract f k).data.toList=(s.data.toList.drop f).take (k-f)):=Lib.extract_data s f k;have hfk':(f:Int)≤k:=by omega
   by_cases hkl:k<s.size
   ·have hke:((k:Int)==(s.size:Int))=false:=by simp;omega
    have hbt:=byte_at s k hkl
    by_cases hc:s[k]'hkl=47
    ·have hc':(((s[k]'hkl).toNat:Int)==47)=true:=by rw[hc];rfl
     have HI2:Hid (LvInv s.data.toList (dats (ss++[s.extract f k])) (k+1) (k+1)):=by
      unfold Hid;rw[qrt,hX.out];exact HI.out.cut (by rw[←H1.out];exact hkl) (hbt.trans hc)
     clear hbt hc;go_wp2_with (at_builtin;refine w_sapp _ rfl _ _ rfl w.heap.size ao m cap ss rfl (ho.below ((Below.refl _ _).alloc (Nat.le_refl _) _)) wr.heap.size (s.extract f k) rfl (new_cell _ _ _) (by omega) (by have:=hb.size;simp;omega) ?_)
     intro ao' cap' w' ho' hg';have hb':=qpb (hb.alloc hb.size _) (by have:=hb.size;simp;omega) (ho.below ((Below.refl _ _).alloc (Nat.le_refl _) _)) hg';clear hg' ho hb hX HI;go_wp2;go_roundw
     case rel=>exact⟨k+1,k+1,m+1,cap',ao',_,by go_num,by go_num,rfl,by omega,HI2.out,ho',hb'⟩
     case measure=>simp[intOf]<;>omega
    ·have hc':(((s[k]'hkl).toNat:Int)==47)=false:=by rw[byte_lit _ 47 47 rfl];exact beq_eq_false_iff_ne.2 (fun e=>hc e.symm)
     have HI2:Hid (LvInv s.data.toList (dats ss) f (k+1)):=HI.out.skip (by rw[←H1.out];exact hkl) (by rw[hbt];exact hc);clear hbt hc hX HI;go_wp2;go_roundw
     case rel=>exact⟨k+1,f,m,cap,ao,ss,by go_num,rfl,rfl,by omega,HI2.out,ho,hb⟩
     case measure=>simp[intOf]<;>omega
   ·obtain rfl:k=s.size:=by omega
    have hke:((s.size:Int)==(s.size:Int))=true:=by simp
    have HI2:Hid (LvInv s.data.toList (dats (ss++[s.extract f s.size])) (s.size+1) (s.size+1)):=by
     unfold Hid;rw[qrt,hX.out];exact HI.out.last H1.out
    go_wp2_with (at_builtin;refine w_sapp _ rfl _ _ rfl w.heap.size ao m cap ss rfl (ho.below ((Below.refl _ _).alloc (Nat.le_refl _) _)) wr.heap.size (s.extract f s.size) rfl (new_cell _ _ _) (by omega) (by have:=hb.size;simp;omega) ?_)
    intro ao' cap' w' ho' hg';have hb':=qpb (hb.alloc hb.size _) (by have:=hb.size;simp;omega) (ho.below ((Below.refl _ _).alloc (Nat.le_refl _) _)) hg';clear hg' ho hb hX HI;go_wp2;go_roundw
    case rel=>exact⟨s.size+1,s.size+1,m+1,cap',ao',_,by go_num,by go_num,rfl,by omega,HI2.out,ho',hb'⟩
    case measure=>simp[intOf]<;>omega
  ·have hk1':¬(k:Int)≤s.size:=by omega
   have hd:dats ss=lvl s.data.toList:=by
    obtain⟨_,_,h | h⟩:=HI.out
    ·have:=H1.out;omega
    ·exact h.2
   have hss:=lvs_of hd;subst hss;have hmn:m=n:=by rw[←HN.out,←ho.1,qdl]
   subst hmn;go_wp2;go_ret;exact⟨ao,cap,rfl,ho,hb⟩


theorem qjb (c:UInt8):∀l:List UInt8,Lib.index l [c]=Lib.indexByte l c
 |[]=>rfl
 |b :: l=>by
  rw[Lib.index,Lib.indexByte,qjb c l]
  by_cases h:b=c
  ·subst h;simp[List.isPrefixOf]
  ·have h1:(c==b)=false:=beq_eq_false_iff_ne.2 (fun e=>h e.symm);have h2:(b==c)=false:=beq_eq_false_iff_ne.2 h;simp[List.isPrefixOf,h1,h2]

theorem qsw:∀(f:Nat) (l:List UInt8),l.length≤f→Lib.splitK [47] 0 (Lib.count l [47]) l=lvl l
 |f,l,hf=>by
  by_cases hm:Lib.indexByte l 47 = -1
  ·rw[Lib.count_miss (by rw[qjb];exact hm),Lib.splitK];refine (qsi l fun c hc e=>?_).symm;obtain⟨k,hk,hk'⟩:=List.getElem_of_mem hc;exact Lib.indexByte_none hm k (by rw[List.getElem?_eq_getElem hk,hk',e])
  ·obtain⟨i,hi⟩ : ∃i:Nat,Lib.indexByte l 47=i:=⟨(Lib.indexByte l 47).toNat,by have:=Lib.indexByte_ge l 47;omega⟩;obtain⟨h1,h2⟩:=Lib.indexByte_some hi;obtain⟨hil,h1'⟩:=List.getElem?_eq_some_iff.1 h1;have hx:Lib.index l [47]=i:=by rw[qjb];exact hi
   have e:l=l.take i++47 :: l.drop (i+1):=by
    rw[←h1',List.getElem_cons_drop,List.take_append_drop]
   have hne:¬(Lib.index l [47]==-1)=true:=by rw[hx,beq_iff_eq];omega
   rw[Lib.count_hit (by simp) hx,Nat.add_comm,Lib.splitK,if_neg hne,hx];have hp:∀c∈l.take i,c≠47:=fun c hc e=>by
    obtain⟨k,hk,hk'⟩:=List.getElem_of_mem hc;have hk2:k<i:=by rw[List.length_take] at hk;omega
    refine h2 k hk2 ?_;rw[List.getElem_take] at hk';rw[List.getElem?_eq_getElem (by omega),hk',e]
   conv=>rhs;rw[e]
   rw[lvl_cut _ _ hp];cases f with
   |zero=>omega
   |succ f=>
    have:=qsw f (l.drop (i+1)) (by rw[List.length_drop];omega);simp only[Int.toNat_natCast,Nat.add_zero,List.length_cons,List.length_nil,Nat.zero_add];rw[this]

theorem qsx (s:ByteArray):Lib.splitB ⟨#[47]⟩ 0 (Lib.countB s ⟨#[47]⟩) s=lvs s.data.toList:=by
 apply lvs_of
 show (Lib.splitB ⟨#[47]⟩ 0 (Lib.countB s ⟨#[47]⟩) s).map (·.data.toList)=_;rw[Lib.splitB_data];exact qsw _ _ (Nat.le_refl _)
theorem count_lvl (s:ByteArray):Lib.countB s ⟨#[47]⟩+1=(lvl s.data.toList).length:=by
 rw[←qdl,←qsx,Lib.splitB_all ⟨#[47]⟩ (by decide) 0 _ s rfl]

theorem gen_split (s:ByteArray) (n:Nat) (w:World) (hs:s.size≤1048576) (hN:(lvl s.data.toList).length=n) :
  Calls Tryz.prog 203 #[.string s,.string ⟨#[47]⟩,.int .i64 0,.int .i64 (-1)] w fun e w'=>
   e=.returned (.slice (some ⟨w.heap.size,0,none⟩) n n)∧w'=w.alloc (.cells (svals (lvs s.data.toList)).toArray 9):=by
 have hcl:=count_lvl s;have hle:(lvl s.data.toList).length≤s.size+1:=qdv s.data.toList;have c:=Any.strings_genSplit_core Tryz.lays221 info9 s ⟨#[47]⟩ 0 (-1) n w (by omega) (by decide) (Nat.zero_le _)
  (fun x c hx=>(Any.strings_Index_one { Tryz.lays221 with } x 47 _).mono fun e w' ⟨he,hw⟩=>⟨by rw[he,←qjb],hw⟩)
  ((Any.strings_Count_one { Tryz.lays221 with } s 47 w).mono fun e w' ⟨he,hw⟩=>⟨by
   rw[he];show _=Ending.returned (Value.int .i64 ((Lib.count s.data.toList [47]:Nat):Int));rw[Lib.count_one];rfl,hw⟩)
  (by decide) (by decide) (by rw[if_pos (by decide)];omega)
 rw[show n-1=Lib.countB s ⟨#[47]⟩ by omega,qsx,qdl,hN] at c;have e2:Lib.cellsOf (lvs s.data.toList) n=(svals (lvs s.data.toList)).toArray:=by
  rw[←hN,←qdl];exact Lib.cellsOf_full _
 rw[e2] at c;exact c

theorem split_x (s:ByteArray) (n:Nat) (w:World) (hs:s.size≤1048576) (hN:(lvl s.data.toList).length=n) :
  Calls Tryz.prog 200 #[.string s,.string ⟨#[47]⟩] w fun e w'=>
   e=.returned (.slice (some ⟨w.heap.size,0,none⟩) n n)∧w'=w.alloc (.cells (svals (lvs s.data.toList)).toArray 9):=by
 go_enter Tryz.func200,Tryz.ntmps200;go_wp2_with fail
 refine (gen_split s n w hs hN).mono ?_;rintro e w' ⟨rfl,rfl⟩;go_wp2;go_ret;exact⟨rfl,rfl⟩

theorem clone_x (s:ByteArray) (w:World) (hs:s.size≤1048576) :
  Calls Tryz.prog 201 #[.string s] w fun e w'=>e=.returned (.string s)∧Below w.heap.size w w':=by
 go_enter Tryz.func201,Tryz.ntmps201;go_wp2_with fail
 refine (show Calls Tryz.prog 204 #[.string s] w fun e w'=>e=.returned (.string s)∧Below w.heap.size w w' from Any.stringslite_Clone Tryz.laysM316 s w (by omega)).mono ?_;rintro e w' ⟨rfl,hb⟩;go_wp2;go_ret;exact⟨rfl,hb⟩

theorem sown_made (w:World) (ss:List ByteArray) (n:Nat) (hn:ss.length=n) (hm:n≤maxLen):SOwn (w.alloc (.cells (svals ss).toArray 9)) w.heap.size (some ⟨w.heap.size,0,none⟩) n n ss :=
 ⟨hn,by simp[qgc,hn],.inr ⟨w.heap.size,n,(svals ss).toArray,rfl,Nat.le_refl _,heap_alloc_new w _,Nat.le_refl _,hm,by simp[qgc,hn],by simp[qgc,hn];exact List.take_of_length_le (by rw[qgc,hn];exact Nat.le_refl _)⟩⟩

theorem st_set (ss:List ByteArray) (k:Nat):ss.set k (st ss k)=ss:=by
 by_cases h:k<ss.length
 ·have e:st ss k=ss[k]'h:=by simp[st,List.getD_eq_getElem?_getD,List.getElem?_eq_getElem h]
  rw[e,List.set_getElem_self]
 ·rw[List.set_eq_of_length_le (by omega)]

theorem qog (l:List UInt8) (k:Nat) (h:k<(lvs l).length):(st (lvs l) k).size≤l.length:=by
 have hx:(st (lvs l) k).data.toList∈lvl l:=by
  rw[←qqn l];exact List.mem_map_of_mem (qsy h)
 have:∀(l x:List UInt8),x∈lvl l→x.length≤l.length:=by
  intro l
  induction l with
  |nil=>intro x hx;simp[lvl] at hx;subst hx;simp
  |cons c r ih=>
   intro x hx
   by_cases hc:c=47
   ·subst hc;rw[qgy] at hx
    rcases List.mem_cons.1 hx with rfl | hx
    ·simp
    ·have:=ih x hx;simp;omega
   ·rw[qgx hc] at hx;cases hl:lvl r with
    |nil=>exact absurd hl (lvl_ne r)
    |cons a t=>
     rw[hl] at hx;simp only[pre,List.mem_cons] at hx
     rcases hx with rfl | hx
     ·have:=ih a (by rw[hl];simp);simp;omega
     ·have:=ih x (by rw[hl];simp[hx]);simp;omega
 exact this l _ hx

theorem qnz (s:ByteArray) (n:Nat) (w:World) (hs:s.size≤1048576) (hN:(lvl s.data.toList).length=n) :
  Calls Tryz.prog 198 #[.string s] w fun e w'=>e=.returned (.slice (some ⟨w.heap.size,0,none⟩) n n)∧SOwn w' w.heap.size (some ⟨w.heap.size,0,none⟩) n n (lvs s.data.toList)∧Below w.heap.size w w':=by
 have hle:n≤s.size+1:=by rw[←hN];exact qdv s.data.toList
 have HV:Hid ((lvs s.data.toList).length=n):=by unfold Hid;rw[qdl];exact hN
 have HS:Hid (∀k,k<n→(st (lvs s.data.toList) k).size≤1048576):=fun k hk=>by
  have:=qog s.data.toList k (by rw[HV.out];exact hk);have e1:s.size=s.data.toList.length:=rfl;omega
 have ho0:=sown_made w (lvs s.data.toList) n HV.out (by unfold maxLen;omega);have hb0:Below w.heap.size w (w.alloc (.cells (svals (lvs s.data.toList)).toArray 9)):=(Below.refl _ _).alloc (Nat.le_refl _) _;have c:=split_x s n w hs hN;generalize (w.alloc (.cells (svals (lvs s.data.toList)).toArray 9))=w0 at *;clear hN;generalize lvs s.data.toList=ss at *;go_enter Tryz.func198,Tryz.ntmps198;go_wp2_with fail
 refine c.mono ?_;rintro e w1 ⟨rfl,hw⟩;subst hw;go_wp2
 go_loopw [10] (fun i wr=>∃k:Nat,i=.int .i64 k∧k≤n∧SOwn wr w.heap.size (some ⟨w.heap.size,0,none⟩) n n ss∧Below w.heap.size w wr) (fun i _=>n-(intOf i).toNat)
 case atStart=>exact⟨0,rfl,Nat.zero_le _,ho0,hb0⟩
 case round=>
  obtain⟨k,rfl,hk,ho,hb⟩:=hrel;clear ho0 hb0
  by_cases hlt:k<n
  ·have hlt':(k:Int)<n:=by omega
   have hz:=ho.cell k hlt;go_wp2_with fail
   refine (clone_x (st ss k) wr (HS.out k hlt)).mono ?_;rintro e w2 ⟨rfl,hb2⟩;have ho2:=ho.below hb2;have hb3:=hb.trans (hb2.mono hb.size);clear hb hb2 ho hz;have hz2:=ho2.cell k hlt;have hf:=ho2.frozen k;have HO:=ho2.store k (st ss k);rw[st_set] at HO;have HO':Hid (SOwn (w2.setCell ⟨w.heap.size,k,none⟩ (.string (st ss k))) w.heap.size (some ⟨w.heap.size,0,none⟩) n n ss):=HO;clear HO ho2;go_wp2;go_roundw
   case rel=>exact⟨k+1,by go_num,by omega,HO'.out,hb3.setCell (Nat.le_refl _) _⟩
   case measure=>simp[intOf]<;>omega
  ·have hlt':¬(k:Int)<n:=by omega
   go_wp2;go_ret;exact⟨rfl,ho,hb⟩


theorem qnr {w w':World} {row:Option Nat} (h:Below w.heap.size w w'):w.grownBy w' row:=⟨h.os,h.tape,h.output,h.size,fun q hq _=>h.block q hq⟩
theorem qaq {w:World} {B B':Nat} {t:TypeId} {k:Nat} {v:Value} {n:Nat} {l:List Value} (h:w.ownsRow B t k v n l) (hB:B'≤B):w.ownsRow B' t k v n l:=by
 refine⟨h.1,?_⟩
 rcases h.2 with hn | ⟨b,c,cur,e,hb,rest⟩
 ·exact .inl hn
 ·exact .inr ⟨b,c,cur,e,by omega,rest⟩
def Dis (x y:Option Addr):Prop:=∀a b,x=some a→y=some b→a.block≠b.block
structure POwn (w:World) (B:Nat) (p:Pk) (d:Pd):Prop where
 bod:Own w B p.bod.a p.bod.n p.bod.c d.bod
 wb:Own w B p.wb.a p.wb.n p.wb.c d.wb
 pa:Own w B p.pa.a p.pa.n p.pa.c d.pa
 wan:WOwn w B p.wan.a p.wan.n p.wan.c d.wan
 nam:SOwn w B p.nam.a p.nam.n p.nam.c d.nam
 cds:IOwn w B p.cds.a p.cds.n p.cds.c d.cds
 dis:List.Pairwise Dis [p.bod.a,p.wb.a,p.pa.a,p.wan.a,p.nam.a,p.cds.a]
theorem POwn.rd {w:World} {B:Nat} {p:Pk} {d:Pd} (h:POwn w B p d):PRd w p d:=⟨h.bod.rd,h.wb.rd,h.pa.rd,h.wan.rd,h.nam.rd,h.cds.rd⟩
