/- Lemmas. -/
import Derived.Test.YtobgmpaalnpdcaaGreatDoorV28
set_option linter.unusedVariables false
set_option linter.unusedSimpArgs false
set_option maxRecDepth 100000
set_option maxHeartbeats 20000000
namespace Go.Proofs.YtobgmpaalnpdcaaGreatDoor
open Go.RowKit

theorem hd_two {v:Pv} (h:v.ok=true):2≤v.hd:=by
 have h340:=qkt h;have hlf:lenB v.rest.length=lenF 3 v.rest.length:=qkf (by omega);have:1≤(lenF 3 v.rest.length).length:=by
  rcases qgv v.rest.length (by omega) with ⟨_,e⟩ | ⟨_,_,e⟩ | ⟨_,_,e⟩ | ⟨_,e⟩<;>rw[e]<;>simp
 unfold Pv.hd;rw[hlf];omega

theorem draw_sDrawPutPacket (ao:Option Addr) (n cap:Nat) (l:List UInt8) (w:World) (hr:RdIn w ao n cap l) (hn:n≤1048576) :
  Calls Tryz.prog 14 #[.slice ao n cap] w fun e w'=>∃p d,e=.returned (.agg (Pk.cells p))∧POwn w' w.heap.size p d∧Pgd 256 p d∧Below w.heap.size w w':=by
 have A:Blk (w.alloc (.cells Pk.zero.cells 28)) w.heap.size Pk.zero:=heap_alloc_new _ _;have hr0:=hr.below (bel_new w (.cells Pk.zero.cells 28));have hb:=bel_new w (.cells Pk.zero.cells 28);go_enter Tryz.func14,Tryz.ntmps14;go_wp2_with (first | refine al_pk ?_ | fail)
 refine (qjc ao n cap l _ hr0 hn).mono ?_;rintro e w0 ⟨rfl,hc0,hb0⟩;replace A:=A.next hb0;replace hb:=bel hb hb0;have hz0:=hc0.lt;simp only[World.size_alloc] at hc0 hz0 ⊢;go_wp2_with fail
 refine (qqa _ ao n cap l w0 hc0 hn).mono ?_;rintro e w1 ⟨p,d,rfl,hp,hd,hc1,hg1⟩;replace A:Blk w1 w.heap.size Pk.zero:=(hg1.block _ A.lt (fun e=>by simp at e)).trans A;have hb1:Below w.heap.size w w1:=hb.grown hg1 hb.size (fun k e=>by cases e;omega);have hne:¬p.has w.heap.size:=fun hk=>by have:=(hp.lt hk).1;omega
 go_wp2_with (first | (refine qac (q:=p) (old:=Pk.zero) A rfl rfl ?_;intro w9 B9 g9) | fail)
 exact qaf rfl rfl B9 rfl ⟨p,d,rfl,(hp.grown g9 (fun k e=>by cases e;exact hne)).mono (by omega),hd,hb1.grown g9 hb1.size (fun k e=>by cases e;exact Nat.le_refl _)⟩


def xV {α:Type} (d:α) (o:Option (α×Nat)):α:=match o with
 |some (x,_)=>x
 |none=>d
def xK {α:Type} (o:Option (α×Nat)):Nat:=match o with
 |some (_,k)=>k
 |none=>0
def rInt (o:Option (Int×Nat)):Value:=.tuple #[.int .i64 (xV 0 o),.int .i64 (xK o:Nat),.bool o.isSome]
def rTxt (o:Option (ByteArray×Nat)):Value:=.tuple #[.string (xV ByteArray.empty o),.int .i64 (xK o:Nat),.bool o.isSome]
def rWan (o:Option ((ByteArray×Int)×Nat)):Value:=.tuple #[.agg #[.string (xV (ByteArray.empty,0) o).1,.int .i64 (xV (ByteArray.empty,0) o).2],.int .i64 (xK o:Nat),.bool o.isSome]
theorem qts (ao:Option Addr) (n cap p:Nat) (l:List UInt8) (w:World) (hr:RdIn w ao n cap l) (hn:n≤1048576) :
  Calls Tryz.prog 154 #[.slice ao n cap,.int .i64 p] w fun e w'=>e=.returned (rInt (gW l p))∧Below w.heap.size w w':=by
 have hl:=hr.1.1;unfold gW
 by_cases h:p+2≤n
 ·rw[if_pos (by omega)];exact qdr ao n cap p l w hr h (by omega)
 ·rw[if_neg (by omega)];exact qhv ao n cap p w (by omega) (.inr (by omega))
theorem qhm (ao:Option Addr) (n cap p:Nat) (l:List UInt8) (w:World) (hr:RdIn w ao n cap l) (hn:n≤1048576) :
  Calls Tryz.prog 159 #[.slice ao n cap,.int .i64 p] w fun e w'=>e=.returned (rTxt (gT l p))∧Below w.heap.size w w':=by
 have h:=qrv ao n cap p l w hr (by omega);have e:ansT l (p:Int)=.returned (rTxt (gT l p)):=by
  unfold ansT gT;cases getT l (p:Int) with
  |none=>rfl
  |some x=>rfl
 rw[e] at h;exact h
theorem qjs (ao:Option Addr) (n cap p:Nat) (l:List UInt8) (w:World) (hr:RdIn w ao n cap l) (hn:n≤1048576) :
  Calls Tryz.prog 152 #[.slice ao n cap,.int .i64 p] w fun e w'=>e=.returned (rInt (gB l p))∧Below w.heap.size w w':=by
 have hl:=hr.1.1;unfold gB
 by_cases h:p<n
 ·rw[if_pos (by omega)];obtain⟨b,off,rfl,hc⟩:=hr.1.at (show 0<n by omega);have c0:=hc p h;have q0:=bt_lt l p;have h1:¬(n:Int)≤p:=by omega
  clear hl hr hc;go_enter Tryz.func152,Tryz.ntmps152;go_wp2;go_ret3;exact⟨by simp[rInt,xV,xK],Below.refl _ _⟩
 ·rw[if_neg (by omega)];have h1:(n:Int)≤p:=by omega
  clear hl hr;go_enter Tryz.func152,Tryz.ntmps152;go_wp2;go_ret3;exact⟨by simp[rInt,xV,xK],Below.refl _ _⟩
theorem qtt (ao:Option Addr) (n cap p:Nat) (l:List UInt8) (w:World) (hr:RdIn w ao n cap l) (hn:n≤1048576) (hp:p≤n) :
  Calls Tryz.prog 169 #[.slice ao n cap,.int .i64 p] w fun e w'=>∃a c,e=.returned (.tuple #[.slice a (n-p) c,.int .i64 n,.bool true])∧Own w' w.heap.size a (n-p) c (l.drop p)∧Below w.heap.size w w':=by
 obtain⟨ax,cx,hsl,hx⟩:=qfj hr p hp;obtain⟨m,hm⟩ : ∃m,n-p=m:=⟨_,rfl⟩;rw[hm] at hsl hx ⊢;have hm':m≤1048576:=by omega
 clear hm;go_enter Tryz.func169,Tryz.ntmps169;go_wp2_with fail
 refine (qbk _ _ _ 0 _ _ hx (by omega) (by omega)).mono ?_;rintro e w1 ⟨a1,c1,rfl,ho1,hb1⟩;go_wp2;go_ret3;exact⟨a1,c1,by simp,ho1,hb1⟩
theorem qry (ao:Option Addr) (n cap p:Nat) (l:List UInt8) (w:World) (hr:RdIn w ao n cap l) (hn:n≤1048576) :
  Calls Tryz.prog 168 #[.slice ao n cap,.int .i64 p] w fun e w'=>∃a c,e=.returned (.tuple #[.slice a (xV [] (gL l p)).length c,.int .i64 (xK (gL l p):Nat),.bool (gL l p).isSome])∧Own w' w.heap.size a (xV [] (gL l p)).length c (xV [] (gL l p))∧Below w.heap.size w w':=by
 cases h:getL l (p:Int) with
 |none=>
  have hg:gL l p=none:=h;rw[hg];refine (qmo ao n cap p l w hr (by omega) h).mono ?_;rintro e w' ⟨rfl,hb⟩;exact⟨none,0,rfl,⟨rfl,World.ownsRow_nil _ _ _ _⟩,hb⟩
 |some xk=>
  obtain⟨x,k⟩:=xk;have hg:gL l p=some (x,k):=h;rw[hg];exact qlf ao n cap p l x k w hr (by omega) h
theorem qrz (ao:Option Addr) (n cap p:Nat) (l:List UInt8) (w:World) (hr:RdIn w ao n cap l) (hn:n≤1048576) (hp:p≤n) :
  Calls Tryz.prog 169 #[.slice ao n cap,.int .i64 p] w fun e w'=>∃a c,e=.returned (.tuple #[.slice a (xV [] (gR l p)).length c,.int .i64 (xK (gR l p):Nat),.bool (gR l p).isSome])∧Own w' w.heap.size a (xV [] (gR l p)).length c (xV [] (gR l p))∧Below w.heap.size w w':=by
 have hl:=hr.1.1;have e1:(xV [] (gR l p)).length=n-p:=by show (l.drop p).length=_;rw[List.length_drop,hl]
 have e2:xK (gR l p)=n:=hl;rw[e1,e2];exact qtt ao n cap p l w hr hn hp
theorem qtu (ao:Option Addr) (n cap p:Nat) (l:List UInt8) (w:World) (hr:RdIn w ao n cap l) (hn:n≤1048576) :
  Calls Tryz.prog 156 #[.slice ao n cap,.int .i64 p] w fun e w'=>e=.returned (rWan (gN l p))∧Below w.heap.size w w':=by
 have hA:Row (w.alloc (.cells #[.string ByteArray.empty,.int .i64 0] 88)) w.heap.size #[.string ByteArray.empty,.int .i64 0] 88:=Row.new _ _ _;have hr0:=hr.below (bel_new w (.cells #[.string ByteArray.empty,.int .i64 0] 88));cases h1:gT l p with
 |none=>
  have hN:Hid (gN l p=none):=by unfold Hid gN;rw[h1]
  go_enter Tryz.func156,Tryz.ntmps156;go_wp2_with fail
  refine (qhm ao n cap p l _ hr0 hn).mono ?_;rintro e w1 ⟨rfl,hb⟩;rw[h1];have B1:=hA.next hb;simp only[rTxt,xV,xK,Option.isSome_none];clear h1 hr hr0;have c0:=B1.cell 0 rfl;have c1:=B1.cell 1 rfl;have z0:=Lib.frozen_of_heap B1 0;have z1:=Lib.frozen_of_heap B1 1;go_wp2;have D2:Row ((w1.setCell ⟨w.heap.size,0,none⟩ (.string ⟨#[]⟩)).setCell ⟨w.heap.size,1,none⟩ (.int .i64 0)) w.heap.size #[.string ⟨#[]⟩,.int .i64 0] 88:=qae (qae B1 0 _) 1 _;have d0:=D2.cell 0 rfl;have d1:=D2.cell 1 rfl;refine bodyPost_ret (v:=rWan none) ?_ rfl ⟨by rw[hN.out],?_⟩
  ·simp[results,Tryz.results156,go_sem,d0,d1,rWan,xV,xK];rfl
  ·exact (((bel_new w _).trans (hb.mono (by simp))).setCell (Nat.le_refl _) _).setCell (Nat.le_refl _) _
 |some sk=>
  obtain⟨s,q⟩:=sk;cases h2:gB l q with
  |none=>
   have hN:Hid (gN l p=none):=by unfold Hid gN;rw[h1];simp only[h2]
   go_enter Tryz.func156,Tryz.ntmps156;go_wp2_with fail
   refine (qhm ao n cap p l _ hr0 hn).mono ?_;rintro e w1 ⟨rfl,hb1⟩;rw[h1];simp only[rTxt,xV,xK,Option.isSome_some];have hr1:=hr0.below hb1;go_wp2_with fail
   refine (qjs ao n cap q l _ hr1 hn).mono ?_;rintro e w2 ⟨rfl,hb2⟩;rw[h2];simp only[rInt,xV,xK,Option.isSome_none];have hb:=bel hb1 hb2;have B1:=hA.next hb;clear h1 h2 hr hr0 hr1 hb1 hb2;have c0:=B1.cell 0 rfl;have c1:=B1.cell 1 rfl;have z0:=Lib.frozen_of_heap B1 0;have z1:=Lib.frozen_of_heap B1 1;go_wp2;have D2:Row ((w2.setCell ⟨w.heap.size,0,none⟩ (.string ⟨#[]⟩)).setCell ⟨w.heap.size,1,none⟩ (.int .i64 0)) w.heap.size #[.string ⟨#[]⟩,.int .i64 0] 88:=qae (qae B1 0 _) 1 _;have d0:=D2.cell 0 rfl;have d1:=D2.cell 1 rfl;refine bodyPost_ret (v:=rWan none) ?_ rfl ⟨by rw[hN.out],?_⟩
   ·simp[results,Tryz.results156,go_sem,d0,d1,rWan,xV,xK];rfl
   ·exact (((bel_new w _).trans (hb.mono (by simp))).setCell (Nat.le_refl _) _).setCell (Nat.le_refl _) _
  |some xr=>
   obtain⟨x,r⟩:=xr;have hN:Hid (gN l p=some ((s,x),r)):=by unfold Hid gN;rw[h1];simp only[h2]
   go_enter Tryz.func156,Tryz.ntmps156;go_wp2_with fail
   refine (qhm ao n cap p l _ hr0 hn).mono ?_;rintro e w1 ⟨rfl,hb1⟩;rw[h1];simp only[rTxt,xV,xK,Option.isSome_some];have hr1:=hr0.below hb1;go_wp2_with fail
   refine (qjs ao n cap q l _ hr1 hn).mono ?_;rintro e w2 ⟨rfl,hb2⟩;rw[h2];simp only[rInt,xV,xK,Option.isSome_some];have hb:=bel hb1 hb2;have B1:=hA.next hb;clear h1 h2 hr hr0 hr1 hb1 hb2;have c0:=B1.cell 0 rfl;have c1:=B1.cell 1 rfl;have z0:=Lib.frozen_of_heap B1 0;have z1:=Lib.frozen_of_heap B1 1;go_wp2;have D2:Row ((w2.setCell ⟨w.heap.size,0,none⟩ (.string s)).setCell ⟨w.heap.size,1,none⟩ (.int .i64 x)) w.heap.size #[.string s,.int .i64 x] 88:=qae (qae B1 0 _) 1 _;have d0:=D2.cell 0 rfl;have d1:=D2.cell 1 rfl;refine bodyPost_ret (v:=rWan (some ((s,x),r))) ?_ rfl ⟨by rw[hN.out],?_⟩
   ·simp[results,Tryz.results156,go_sem,d0,d1,rWan,xV,xK]
   ·exact (((bel_new w _).trans (hb.mono (by simp))).setCell (Nat.le_refl _) _).setCell (Nat.le_refl _) _

section
variable {P : Program} {ops : Array Oper} {Q : Exit → Act → World → Prop}
theorem qtb (hlt:∀(i:Nat) (o:Oper),ops[i]? = some o→∀e∈o.after,Region.binds .any e=true→e.on<i) (I:Act→World→Prop) (F:Nat→Act→World→Prop)
  (step:∀(i:Nat) (o:Oper) (a:Act) (w:World),ops[i]? = some o→I a w→(∀e∈o.after,Region.binds .any e=true→F e.on a w) →
   wpOp P ops Q i (fun a' w'=>I a' w'∧F i a' w'∧∀j,j≠i→(∀oj,ops[j]? = some oj→∀e∈oj.after,Region.binds .any e=true→e.on≠i)→F j a w→F j a' w') a w)
  (fin:∀(a:Act) (w:World),I a w→(∀i,i<ops.size→F i a w)→Q .normal a w) :
  ∀(fuel:Nat) (listed:Array Bool) (a:Act) (w:World),listed.size=ops.size→unl ops.size listed≤fuel→I a w→(∀i,i<ops.size→listed.getD i true=true→F i a w) →
   (∀(j:Nat) (o:Oper),ops[j]? = some o→listed.getD j true=true→∀e∈o.after,Region.binds .any e=true→listed.getD e.on true=true)→wpAny P .any ops Q fuel listed a w:=by
 intro fuel
 induction fuel with
 |zero=>
  intro listed a w hs hu hI hF hC;have hall:=unl_zero (Nat.le_zero.1 hu);refine⟨?_,fin a w hI fun i hi=>hF i hi (hall i hi)⟩;unfold Region.ready;rw[List.filter_eq_nil_iff];intro i hi;rw[hall i (List.mem_range.1 hi)];simp
 |succ fuel ih=>
  intro listed a w hs hu hI hF hC;have hdep:∀i,i∈Region.ready .any ops listed→i<ops.size∧listed.getD i true=false∧∀o,ops[i]? = some o→∀e∈o.after,Region.binds .any e=true→listed.getD e.on true=true:=by
   intro i hi;unfold Region.ready at hi;rw[List.mem_filter] at hi;obtain⟨h1,h2⟩:=hi;have hi':=List.mem_range.1 h1;rw[Bool.and_eq_true] at h2;refine⟨hi',by simpa using h2.1,fun o ho e he hb=>?_⟩;have h3:=h2.2;rw[ho] at h3;simp only[Option.map_some,Option.getD_some,Array.all_eq_true_iff_forall_mem] at h3;have h4:=h3 e he;rw[hb] at h4;have hlo:e.on<listed.size:=by have:=hlt i o ho e he hb;omega
   simp only[Bool.not_true,Bool.false_or] at h4
   simpa[Array.getD_eq_getD_getElem?,Array.getElem?_eq_getElem hlo] using h4
  refine⟨fun h0=>fin a w hI fun i hi=>?_,fun i hi=>?_⟩
  ·have hall:∀k,k<ops.size→listed.getD k true=true:=by
    intro k
    induction k using Nat.strongRecOn with
    |_ k ihk=>
     intro hk;cases hl:listed.getD k true with
     |true=>rfl
     |false=>
      exfalso
      have hmem:k∈Region.ready .any ops listed:=by
       unfold Region.ready;rw[List.mem_filter];refine⟨List.mem_range.2 hk,?_⟩;rw[hl,Array.getElem?_eq_getElem hk];simp only[Bool.not_false,Bool.true_and,Option.map_some,Option.getD_some,Array.all_eq_true_iff_forall_mem];intro e he;cases hb:Region.binds .any e with
       |false=>simp
       |true=>
        have hek:=hlt k _ (Array.getElem?_eq_getElem hk) e he hb;have hl2:=ihk e.on hek (by omega);have hlo:e.on<listed.size:=by omega
        simp only[Array.getD_eq_getD_getElem?,Array.getElem?_eq_getElem hlo,Option.getD_some] at hl2 ⊢;simp[hl2]
      rw[h0] at hmem;cases hmem
   exact hF i hi (hall i hi)
  ·obtain⟨hi1,hi2,hi3⟩:=hdep i hi;have ho:=Array.getElem?_eq_getElem hi1;refine wpOp_mono (fun a' w' hh=>?_) (step i _ a w ho hI fun e he hb=>hF e.on (by have:=hlt i _ ho e he hb;omega) (hi3 _ ho e he hb));obtain⟨hI',hFi,hst⟩:=hh;have hget:∀j,j≠i→(listed.setIfInBounds i true).getD j true=listed.getD j true:=by
    intro j e;simp only[Array.getD_eq_getD_getElem?,Array.getElem?_setIfInBounds];rw[if_neg (fun h=>e h.symm)]
   have hgi:(listed.setIfInBounds i true).getD i true=true:=by
    simp[Array.getD_eq_getD_getElem?,Array.getElem?_setIfInBounds,hs,hi1]
   refine ih _ a' w' (by simpa using hs) ?_ hI' (fun j hj hl=>?_) (fun j oj hj hl e he hb=>?_)
   ·have:=qrj hs hi1 hi2;omega
   ·by_cases e:j=i
    ·subst e;exact hFi
    ·rw[hget j e] at hl;refine hst j e (fun oj hoj e2 he2 hb2 e3=>?_) (hF j hj hl);have:=hC j oj hoj hl e2 he2 hb2;rw[e3,hi2] at this;cases this
   ·by_cases ee:e.on=i
    ·rw[ee];exact hgi
    ·rw[hget e.on ee]
     by_cases ej:j=i
     ·subst ej;exact hi3 oj hj e he hb
     ·rw[hget j ej] at hl;exact hC j oj hj hl e he hb
def shapeB (n:Nat) (l:List Oper):Bool :=
 (l.all fun o=>match o.dst with | some d=>decide (d<n) | none=>true)&&decide ((l.filterMap (fun o=>o.dst)).Nodup)&&((List.range l.length).all fun i=>match l[i]? with | some o=>o.guard.isNone&&o.after.toList.all (fun e=>!Region.binds .any e || decide (e.on<i)) | none=>true)
theorem nodup_two {l:List Oper} (h:(l.filterMap (fun o=>o.dst)).Nodup):∀(i j:Nat) (o o':Oper) (d:Nat),l[i]? = some o→l[j]? = some o'→o.dst=some d→o'.dst=some d→i=j:=by
 induction l with
 |nil=>intro i j o o' d hi;simp at hi
 |cons x l ih=>
  intro i j o o' d hi hj ho ho';have key:∀(k:Nat) (q:Oper),x.dst=some d→l[k]? = some q→q.dst=some d→False:=by
   intro k q hx hk hq;rw[List.filterMap_cons,hx,List.nodup_cons] at h;exact h.1 (List.mem_filterMap.2 ⟨q,List.mem_of_getElem? hk,hq⟩)
  have h':(l.filterMap (fun o=>o.dst)).Nodup:=by
   rw[List.filterMap_cons] at h
   split at h
   ·exact h
   ·exact (List.nodup_cons.1 h).2
  cases i with
  |zero=>
   cases j with
   |zero=>rfl
   |succ j=>
    simp only[List.getElem?_cons_zero,Option.some.injEq,List.getElem?_cons_succ] at hi hj;subst hi;exact absurd (key j o' ho hj ho') id
  |succ i=>
   cases j with
   |zero=>
    simp only[List.getElem?_cons_zero,Option.some.injEq,List.getElem?_cons_succ] at hi hj;subst hj;exact absurd (key i o ho' hi ho) id
   |succ j=>
    simp only[List.getElem?_cons_succ] at hi hj;rw[ih h' i j o o' d hi hj ho ho']
theorem puts_atB (vs:Nat→Value) (s:Nat) (l:List Oper):∀i j a o,(l.filterMap (fun o=>o.dst)).Nodup→l[j]? = some o→o.dst=some s→s<a.tmps.size→(puts vs i l a).tmps[s]? = some (vs (i+j)):=by
 induction l with
 |nil=>intro i j a o _ h;simp at h
 |cons x l ih=>
  intro i j a o hnd hj hd hs;have h':(l.filterMap (fun o=>o.dst)).Nodup:=by
   have h:=hnd;rw[List.filterMap_cons] at h
   split at h
   ·exact h
   ·exact (List.nodup_cons.1 h).2
  cases j with
  |zero=>
   simp only[List.getElem?_cons_zero,Option.some.injEq] at hj;subst hj;rw[puts,qna vs l s _ _ (fun y hy e=>?_),hd]
   ·exact qdn _ hs
   ·rw[List.filterMap_cons,hd,List.nodup_cons] at hnd;exact hnd.1 (List.mem_filterMap.2 ⟨y,hy,e⟩)
  |succ j=>
   simp only[List.getElem?_cons_succ] at hj;rw[puts,ih (i+1) j _ o h' hj hd (by rw[qda];exact hs)]
   congr 2
   omega
theorem qbc {id:Nat} {l:List Oper} {a0:Act} {w0:World} (hm:P.follows .mixedOrders=true) (hshape:shapeB a0.tmps.size l=true)
  (J:World→Prop) (hJ:J w0.drew) (R:Nat→World→World→Prop) (G:Nat→Value→World→Prop) (S:Nat→Act→World→Prop)
  (sR:∀i w w',R i w w'→J w→J w')
  (sG:∀(i j:Nat) (v:Value) (w w':World),j≠i→R i w w'→G j v w→G j v w')
  (sS:∀(i j:Nat) (o oj:Oper) (a:Act) (v:Value) (w w':World),l[i]? = some o→l[j]? = some oj→j≠i→(∀e∈oj.after,Region.binds .any e=true→e.on≠i)→R i w w'→S j a w→S j (a.put o.dst v) w')
  (step:∀(i:Nat) (o:Oper) (a:Act) (w:World),l[i]? = some o→KeepD l.toArray a0 a→J w→(∀j oj,(o.after.toList.any fun e=>e.on==j&&Region.binds .any e)=true→l[j]? = some oj→∃v,(∀d,oj.dst=some d→a.tmps[d]? = some v)∧G j v w∧S j a w) →
   Oper.wp P o a w (fun a' w'=>∃v,a'=a.put o.dst v∧R i w w'∧G i v w'∧S i a' w') Q)
  (fin:∀(vs:Nat→Value) (w:World),J w→(∀i,i<l.length→G i (vs i) w)→∀a,puts vs 0 l a0=a→(∀i,i<l.length→S i a w)→Q .normal a w) :
  (Code.region id l.toArray true).wp P Q a0 w0:=by
 simp only[shapeB,Bool.and_eq_true,decide_eq_true_eq,List.all_eq_true] at hshape;obtain⟨⟨h1,hnd⟩,h3⟩:=hshape;have hd:∀o∈l,∀d,o.dst=some d→d<a0.tmps.size:=by
  intro o ho d e;have:=h1 o ho
  simpa[e] using this
 have h4:∀(i:Nat) (o:Oper),l[i]? = some o→(∀e∈o.after,Region.binds .any e=true→e.on<i)∧o.guard=none:=by
  intro i o ho;have hi:i<l.length:=(List.getElem?_eq_some_iff.1 ho).1;have:=h3 i (List.mem_range.2 hi);rw[ho] at this;simp only[Bool.and_eq_true,List.all_eq_true,decide_eq_true_eq,Option.isNone_iff_eq_none,Bool.or_eq_true,Bool.not_eq_true'] at this;exact⟨fun e he hb=>by
   rcases this.2 e (Array.mem_toList_iff.2 he) with h | h
   ·rw[hb] at h;cases h
   ·exact h,this.1⟩
 refine wp_region_any hm ?_;refine qtb (fun i o ho=>(h4 i o (by simpa using ho)).1) (fun a w=>KeepD l.toArray a0 a∧J w) (fun i a w=>∀o,l[i]? = some o→∃v,(∀d,o.dst=some d→a.tmps[d]? = some v)∧G i v w∧S i a w) ?_ ?_ _ _ _ _ ?_ ?_ ?_ ?_ ?_
 ·intro i o a w hi hI hdeps;have hi':l[i]? = some o:=by simpa using hi
  obtain⟨hk,hb⟩:=hI;refine wpOp_step hi fun K' hK'=>?_
  rw[wanted_none (h4 i o hi').2,if_pos rfl];refine Oper.wp_mono (fun a' w' hh=>hK' a' w' ?_) (step i o a w hi' hk hb ?_)
  ·obtain⟨v,rfl,hr,hG,hS⟩:=hh;refine⟨⟨⟨by rw[qda,hk.size],by rw[qha,hk.defers],fun s hs=>?_⟩,sR i w w' hr hb⟩,?_,?_⟩
   ·rw[qde _ _ _ _ (hs o (by simpa using List.mem_of_getElem? hi')),hk.slot s hs]
   ·intro o2 ho2;obtain rfl:o2=o:=Option.some.inj (ho2.symm.trans hi');refine⟨v,fun d hd'=>?_,hG,hS⟩;rw[hd'];exact qdn v (by rw[hk.size];exact hd o2 (List.mem_of_getElem? ho2) d hd')
   ·intro j hj hdj hF oj hoj;obtain⟨u,hu,hg,hs⟩:=hF oj hoj;refine⟨u,fun d hd'=>?_,sG i j u w w' hj hr hg,sS i j o oj a v w w' hi' hoj hj (fun e he hb2=>hdj oj (by simpa using hoj) e he hb2) hr hs⟩;rw[qde _ _ _ _ ?_]
    ·exact hu d hd'
    ·intro e;exact hj (nodup_two hnd j i oj o d hoj hi' hd' e)
  ·intro j oj hj hoj;rw[List.any_eq_true] at hj;obtain⟨e,he,hej⟩:=hj;rw[Bool.and_eq_true] at hej;obtain rfl:e.on=j:=by simpa using hej.1
   exact hdeps e (Array.mem_toList_iff.1 he) hej.2 oj hoj
 ·intro a w hI hF;obtain⟨hk,hb⟩:=hI;have hvs:∀i:Nat,∃v,∀o,l[i]? = some o→(∀d,o.dst=some d→a.tmps[d]? = some v)∧G i v w∧S i a w:=by
   intro i
   by_cases hi:i<l.length
   ·obtain⟨v,hv,hg,hs⟩:=hF i (by simpa using hi) _ (List.getElem?_eq_getElem hi);refine⟨v,fun o ho=>?_⟩;obtain rfl:l[i]=o:=Option.some.inj ((List.getElem?_eq_getElem hi).symm.trans ho);exact⟨hv,hg,hs⟩
   ·refine⟨undef,fun o ho=>?_⟩;rw[List.getElem?_eq_none (by omega)] at ho;cases ho
  have hch:=fun i=>Classical.choose_spec (hvs i)
  have e:a=puts (fun i=>Classical.choose (hvs i)) 0 l a0:=by
   have e1:a.tmps=(puts (fun i=>Classical.choose (hvs i)) 0 l a0).tmps:=by
    apply Array.ext_getElem?
    intro s
    by_cases hs:∃o∈l,o.dst=some s
    ·obtain⟨o,ho,hd'⟩:=hs;obtain⟨j,hj⟩:=List.mem_iff_getElem?.1 ho;rw[puts_atB _ s l 0 j a0 o hnd hj hd' (hd o ho s hd'),(hch j o hj).1 s hd',Nat.zero_add]
    ·rw[hk.slot s (fun o ho e=>hs ⟨o,by simpa using ho,e⟩),qna _ _ _ _ _ (fun o ho e=>hs ⟨o,ho,e⟩)]
   have e2:a.defers=(puts (fun i=>Classical.choose (hvs i)) 0 l a0).defers:=by rw[qjz,hk.defers]
   obtain⟨t,dd⟩:=a;generalize puts (fun i=>Classical.choose (hvs i)) 0 l a0=p at *;obtain⟨t',dd'⟩:=p;simp only at e1 e2;rw[e1,e2]
  exact fin _ w hb (fun i hi=>((hch i _ (List.getElem?_eq_getElem hi)).2).1) a e.symm (fun i hi=>((hch i _ (List.getElem?_eq_getElem hi)).2).2)
 ·simp
 ·have:unl l.toArray.size (Array.replicate l.toArray.size false)≤(List.range l.toArray.size).length:=List.length_filter_le _ _
  simpa using this
 ·exact⟨⟨rfl,rfl,fun _ _=>rfl⟩,hJ⟩
 ·intro i hi hl;have hi':i<(Array.replicate l.toArray.size false).size:=by simpa using hi
  rw[Array.getD_eq_getD_getElem?,Array.getElem?_eq_getElem hi'] at hl;simp at hl
 ·intro j o ho hl;have hj:j<l.length:=by
   have:=(Array.getElem?_eq_some_iff.1 ho).1
   simpa using this
  have hi':j<(Array.replicate l.toArray.size false).size:=by simpa using hj
  rw[Array.getD_eq_getD_getElem?,Array.getElem?_eq_getElem hi'] at hl;simp at hl
theorem qdb {id:Nat} {l:List Oper} {a0:Act} {w0:World} (hm:P.follows .mixedOrders=true) (hshape:shapeB a0.tmps.size l=true)
  (R:Nat→World→World→Prop) (G:Nat→Value→World→Prop) (S:Nat→Act→World→Prop)
  (sR:∀i w w',R i w w'→Below w0.heap.size w0 w→Below w0.heap.size w0 w')
  (sG:∀(i j:Nat) (v:Value) (w w':World),j≠i→R i w w'→G j v w→G j v w')
  (sS:∀(i j:Nat) (o oj:Oper) (a:Act) (v:Value) (w w':World),l[i]? = some o→l[j]? = some oj→j≠i→(∀e∈oj.after,Region.binds .any e=true→e.on≠i)→R i w w'→S j a w→S j (a.put o.dst v) w')
  (step:∀(i:Nat) (o:Oper) (a:Act) (w:World),l[i]? = some o→KeepD l.toArray a0 a→Below w0.heap.size w0 w→(∀j oj,(o.after.toList.any fun e=>e.on==j&&Region.binds .any e)=true→l[j]? = some oj→∃v,(∀d,oj.dst=some d→a.tmps[d]? = some v)∧G j v w∧S j a w) →
   Oper.wp P o a w (fun a' w'=>∃v,a'=a.put o.dst v∧R i w w'∧G i v w'∧S i a' w') Q)
  (fin:∀(vs:Nat→Value) (w:World),Below w0.heap.size w0 w→(∀i,i<l.length→G i (vs i) w)→∀a,puts vs 0 l a0=a→(∀i,i<l.length→S i a w)→Q .normal a w) :
  (Code.region id l.toArray true).wp P Q a0 w0 :=
 qbc hm hshape (fun w=>Below w0.heap.size w0 w) ⟨rfl,rfl,rfl,Nat.le_refl _,fun _ _=>rfl⟩ R G S sR sG sS step fin
end
