/- Lemmas. -/
import Derived.Test.YtpgkbkbhhmfgnaaDoorK14
set_option linter.unusedVariables false
set_option linter.unusedSimpArgs false
set_option maxRecDepth 100000
set_option maxHeartbeats 20000000
namespace Go.Proofs.YtpgkbkbhhmfgnaaDoor
open Go.RowKit

theorem kd_set (l:KtL) (i:Nat) (x:Kt×List UInt8) (h:i<l.length):kf (l.set i x) i=x.1∧kd (l.set i x) i=x.2:=by
 have:(l.set i x)[i]? = some x:=by rw[List.getElem?_set];simp[h]
 exact⟨by simp[kf,List.getD_eq_getElem?_getD,this],by simp[kd,List.getD_eq_getElem?_getD,this]⟩
theorem pw_seti {l:KtL} {i:Nat} {y:Kt×List UInt8} {R:Kt×List UInt8→Kt×List UInt8→Prop} (h:l.Pairwise R) (h1:∀z,R z (kf l i,kd l i)→R z y) (h2:∀z,R (kf l i,kd l i) z→R y z):(l.set i y).Pairwise R:=by
 rw[List.pairwise_iff_getElem] at h ⊢;intro a b ha hb hab;have ha':a<l.length:=by simpa using ha
 have hb':b<l.length:=by simpa using hb
 have:=h a b ha' hb' hab;simp only[List.getElem_set];have ei:∀(j:Nat) (hj:j<l.length),i=j→l[j]=(kf l i,kd l i):=fun j hj e=>by
  subst e;simp[kf,kd,List.getD_eq_getElem?_getD,List.getElem?_eq_getElem hj]
 split
 ·rename_i e
  split
  ·omega
  ·rw[ei a ha' e] at this;exact h2 _ this
 ·split
  ·rename_i e
   rw[ei b hb' e] at this;exact h1 _ this
  ·exact this
theorem KOwn.sto {w:World} {B g n cap:Nat} {l:KtL} (h:KOwn w B (some ⟨g,0,none⟩) n cap l) (i:Nat) (hi:i<n) (j:Nat) (hj:j<3) (v:Value) (p:Kt) (hc:(kf l i).cells.setIfInBounds j v=p.cells) (ha:p.a=(kf l i).a∧p.n=(kf l i).n∧p.c=(kf l i).c) :
  KOwn (w.setCell ⟨g,i*3+j,none⟩ v) B (some ⟨g,0,none⟩) n cap (l.set i (p,kd l i))∧w.grownBy (w.setCell ⟨g,i*3+j,none⟩ v) (some g):=by
 have hl:l.length=n:=h.len;obtain⟨s,hg⟩:=h.row.store ktOk i j v p hi hj (by rw[kts_at];exact hc);obtain⟨cur,hcur⟩:=h.row.block;have keep:∀ {a:Option Addr} {m c:Nat} {z:List UInt8},Own w B a m c z→Own (w.setCell ⟨g,i*3+j,none⟩ v) B a m c z:=fun {a m c z} ho=>Own.grown ho hg fun q e=>k_neR ho hcur q e
 refine⟨⟨?_,?_,?_⟩,hg⟩
 ·rw[qhf];exact s
 ·intro x hx
  rcases List.mem_or_eq_of_mem_set hx with hx | rfl
  ·exact keep (h.own x hx)
  ·have:=keep (h.own _ (kf_mem (l:=l) (i:=i) (by omega)));rw[←ha.1,←ha.2.1,←ha.2.2] at this;exact this
 ·have e:∀k,p.has k ↔ (kf l i).has k:=fun k=>by unfold Kt.has;rw[ha.1]
  exact pw_seti h.dis (fun z hz k h1 h2=>hz k h1 ((e k).1 h2)) (fun z hz k h1 h2=>hz k ((e k).1 h1) h2)
theorem KOwn.bod {w w':World} {B n cap:Nat} {ao:Option Addr} {l:KtL} (h:KOwn w B ao n cap l) (i:Nat) (hi:i<n) (d:List UInt8) (ho:Own w' B (kf l i).a (kf l i).n (kf l i).c d) (hg:w.grownBy w' (Value.slice (kf l i).a (kf l i).n (kf l i).c).ownBlock):KOwn w' B ao n cap (l.set i (kf l i,d)):=by
 have hl:l.length=n:=h.len;have hmem:=kf_mem (l:=l) (i:=i) (by omega);have hrow:∀k,(Value.slice (kf l i).a (kf l i).n (kf l i).c).ownBlock=some k→(kf l i).has k:=fun k e=>by
  cases ha:(kf l i).a with
  |none=>rw[ha] at e;simp[Value.ownBlock] at e
  |some a=>rw[ha] at e;exact⟨a,ha,by simpa[Value.ownBlock] using e⟩
 have e1:kts (l.set i (kf l i,d))=kts l:=by
  rw[qhf];apply List.ext_getElem?
  intro j;rw[List.getElem?_set]
  split
  ·rename_i e
   subst e;simp[kts,kf,List.getD_eq_getElem?_getD,List.getElem?_eq_getElem (show i<l.length by omega)];omega
  ·rfl
 refine⟨?_,?_,?_⟩
 ·rw[e1];refine h.row.grown hg fun a e=>?_
  subst e;obtain⟨cur,hcur⟩:=h.row.block;intro e;obtain⟨q,hq,hq2⟩:=hrow _ e.symm;exact k_neR (h.own _ hmem) hcur q hq (by rw[hq2])
 ·intro x hx;obtain⟨j,hj,e⟩:=List.mem_iff_getElem.1 hx;have hj':j<l.length:=by simpa using hj
  rw[List.getElem_set] at e
  split at e
  ·subst e;exact ho
  ·rename_i hne
   subst e;refine (h.own _ (List.getElem_mem hj')).grown hg fun q hq e=>?_
   obtain hh:=hrow _ e.symm;have hd:=List.pairwise_iff_getElem.1 h.dis;have ei:l[i]'(by omega)=(kf l i,kd l i):=by simp[kf,kd,List.getD_eq_getElem?_getD,List.getElem?_eq_getElem (show i<l.length by omega)]
   rcases Nat.lt_or_gt_of_ne hne with hlt | hlt
   ·have:=hd i j (by omega) hj' hlt;rw[ei] at this;exact this q.block hh ⟨q,hq,rfl⟩
   ·have:=hd j i hj' (by omega) hlt;rw[ei] at this;exact this q.block ⟨q,hq,rfl⟩ hh
 ·exact pw_seti h.dis (fun z hz k h1 h2=>hz k h1 h2) (fun z hz k h1 h2=>hz k h1 h2)
structure Span (lo hi:Nat) (w w':World):Prop where
 os:w'.os=w.os
 tape:w'.tape=w.tape
 output:w'.output=w.output
 size:w.heap.size≤w'.heap.size
 low:∀k,k<lo→w'.heap[k]? = w.heap[k]?
 high:∀k,hi≤k→k<w.heap.size→w'.heap[k]? = w.heap[k]?
theorem Span.refl (lo hi:Nat) (w:World):Span lo hi w w:=⟨rfl,rfl,rfl,Nat.le_refl _,fun _ _=>rfl,fun _ _ _=>rfl⟩
theorem Span.new {lo hi:Nat} {w w1 w2:World} (h:Span lo hi w w1) (hb:Below w1.heap.size w1 w2) (hlo:lo≤w.heap.size):Span lo hi w w2 :=
 ⟨hb.os.trans h.os,hb.tape.trans h.tape,hb.output.trans h.output,Nat.le_trans h.size hb.size,fun k hk=>(hb.block k (by have:=h.size;omega)).trans (h.low k hk),fun k h1 h2=>(hb.block k (by have:=h.size;omega)).trans (h.high k h1 h2)⟩
theorem Span.row {lo hi:Nat} {w w1 w2:World} {r:Option Nat} (h:Span lo hi w w1) (hg:w1.grownBy w2 r) (hlo:lo≤w.heap.size) (hr:∀k,r=some k→lo≤k∧k<hi):Span lo hi w w2 :=
 ⟨hg.os.trans h.os,hg.tape.trans h.tape,hg.output.trans h.output,Nat.le_trans h.size hg.size,
  fun k hk=>(hg.block k (by have:=h.size;omega) (fun e=>by have:=(hr k e.symm).1;omega)).trans (h.low k hk),
  fun k h1 h2=>(hg.block k (by have:=h.size;omega) (fun e=>by have:=(hr k e.symm).2;omega)).trans (h.high k h1 h2)⟩
theorem Span.below {lo hi:Nat} {w w':World} (h:Span lo hi w w'):Below lo w w':=⟨h.os,h.tape,h.output,h.size,h.low⟩
theorem qgm {lo hi:Nat} {w w':World} {B:Nat} {t:TypeId} {k:Nat} {v:Value} {n:Nat} {l:List Value} (s:Span lo hi w w') (h:w.ownsRow B t k v n l) (hB:hi≤B):w'.ownsRow B t k v n l:=by
 refine⟨h.1,?_⟩
 rcases h.2 with hn | ⟨g,c,cur,e,hb,hg,rest⟩
 ·exact .inl hn
 ·exact .inr ⟨g,c,cur,e,hb,(s.high g (by omega) (Array.getElem?_eq_some_iff.1 hg).1).trans hg,rest⟩
theorem KOwn.span {lo hi:Nat} {w w':World} {B:Nat} {ao:Option Addr} {n cap:Nat} {l:KtL} (h:KOwn w B ao n cap l) (s:Span lo hi w w') (hB:hi≤B):KOwn w' B ao n cap l :=
 ⟨⟨h.row.1,qgm s h.row.2 hB⟩,fun x hx=>⟨(h.own x hx).1,qgm s (h.own x hx).2 hB⟩,h.dis⟩
def kmk:Nat→KtL→KtL
 |_,[]=>[]
 |c,x :: r=>(⟨mtx c,x.1.a,x.1.n,x.1.c,((c+1+x.1.n:Nat):Int)⟩,marks (c+1) x.1.n) :: kmk (c+x.1.n+2) r
def kcnt (l:KtL):Nat:=(l.map fun x=>x.1.n+2).sum
theorem qge (x:Kt×List UInt8) (r:KtL):kcnt (x :: r)=x.1.n+2+kcnt r:=by simp[kcnt]
theorem kcnt_app (a b:KtL):kcnt (a++b)=kcnt a+kcnt b:=by simp only[kcnt,List.map_append,List.sum_append]
theorem qbu (c:Nat) (l:KtL):(kmk c l).length=l.length:=by
 induction l generalizing c with
 |nil=>rfl
 |cons x r ih=>simp[kmk,ih]
theorem kmk_app (c:Nat) (a b:KtL):kmk c (a++b)=kmk c a++kmk (c+kcnt a) b:=by
 induction a generalizing c with
 |nil=>simp[kmk,kcnt]
 |cons x r ih=>
  show (_ :: kmk (c+x.1.n+2) (r++b))=_ :: (kmk (c+x.1.n+2) r++kmk (c+kcnt (x :: r)) b);rw[ih,qge,show c+x.1.n+2+kcnt r=c+(x.1.n+2+kcnt r) from by omega]
theorem qcs (l:KtL) (i:Nat) (h:i<l.length):kcnt (l.take (i+1))=kcnt (l.take i)+((kf l i).n+2):=by
 have e:kf l i=(l[i]'h).1:=by simp[kf,List.getD_eq_getElem?_getD,List.getElem?_eq_getElem h]
 rw[List.take_succ_eq_append_getElem h,e,kcnt_app];simp only[kcnt,List.map_cons,List.map_nil,List.sum_cons,List.sum_nil,Nat.add_zero]
theorem kcnt_le (l:KtL) (i:Nat):kcnt (l.take i)≤kcnt l:=by
 have e:l=l.take i++l.drop i:=(List.take_append_drop i l).symm;have:kcnt l=kcnt (l.take i)+kcnt (l.drop i):=by
  conv=>lhs;rw[e]
  exact kcnt_app _ _
 omega
def kst (c:Nat) (l:KtL) (i:Nat):KtL:=kmk c (l.take i)++l.drop i
theorem kst_len (c:Nat) (l:KtL) (i:Nat):(kst c l i).length=l.length:=by
 simp[kst,qbu];omega
theorem kst_at (c:Nat) (l:KtL) (i:Nat) (h:i<l.length):(kst c l i)[i]? = some (kf l i,kd l i):=by
 unfold kst;have hl:(kmk c (l.take i)).length=i:=by rw[qbu];simp;omega
 rw[List.getElem?_append_right (by omega),hl,Nat.sub_self,List.getElem?_drop,Nat.add_zero];simp[kf,kd,List.getD_eq_getElem?_getD,List.getElem?_eq_getElem h]
theorem kst_kf (c:Nat) (l:KtL) (i:Nat) (h:i<l.length):kf (kst c l i) i=kf l i∧kd (kst c l i) i=kd l i:=by
 have e:=kst_at c l i h;constructor
 ·conv=>lhs;unfold kf
  rw[List.getD_eq_getElem?_getD,e];rfl
 ·conv=>lhs;unfold kd
  rw[List.getD_eq_getElem?_getD,e];rfl
theorem kst_step (c:Nat) (l:KtL) (i:Nat) (h:i<l.length):(kst c l i).set i (⟨mtx (c+kcnt (l.take i)),(kf l i).a,(kf l i).n,(kf l i).c,((c+kcnt (l.take i)+1+(kf l i).n:Nat):Int)⟩,marks (c+kcnt (l.take i)+1) (kf l i).n)=kst c l (i+1):=by
 have hl:(kmk c (l.take i)).length=i:=by rw[qbu];simp;omega
 have e:kf l i=(l[i]'h).1:=by simp[kf,List.getD_eq_getElem?_getD,List.getElem?_eq_getElem h]
 unfold kst;rw[List.take_succ_eq_append_getElem h,kmk_app,List.set_append_right _ _ (by omega),hl,Nat.sub_self,List.drop_eq_getElem_cons h,List.set_cons_zero,List.append_assoc,e];rfl
def KHi (hi:Nat) (ao:Option Addr) (l:KtL):Prop:=(∀a,ao=some a→a.block<hi)∧∀x∈l,∀k,x.1.has k→k<hi
theorem KOwn.hi {w:World} {B:Nat} {ao:Option Addr} {n cap:Nat} {l:KtL} (h:KOwn w B ao n cap l):KHi w.heap.size ao l :=
 ⟨fun a e=>by subst e;exact h.row.lt.2,fun x hx k hk=>(k_has (h.own x hx) hk).2⟩
theorem KOwn.head {w:World} {B:Nat} {ao:Option Addr} {n cap:Nat} {l:KtL} (h:KOwn w B ao n cap l) (hn:0<n):∃g,ao=some ⟨g,0,none⟩:=by
 rcases h.row.2.2 with ⟨e,rfl⟩ | ⟨g,c,cur,e,_⟩
 ·omega
 ·simp only[Value.slice.injEq] at e;exact⟨g,e.1⟩
theorem mark_lmarkKeptS (B hi:Nat) (ao:Option Addr) (n cap k:Nat) (l:KtL) (w:World) (ho:KOwn w B ao n cap l) (hB:B≤w.heap.size) (hh:KHi hi ao l) (hn:n≤1048576) (hk0:0<k) (hk:k+kcnt l≤100000000000) :
  Calls Tryd.prog 16 #[.slice ao n cap,.int .i64 k] w fun e w'=>e=.returned (.int .i64 ((k+kcnt l:Nat):Int))∧KOwn w' B ao n cap (kmk k l)∧Span B hi w w':=by
 have HL:Hid (l.length=n):=ho.len;have HH:Hid (KHi hi ao l):=hh;have HHD:Hid (0<n→∃g,ao=some ⟨g,0,none⟩):=ho.head;have HLO:Hid ((∀a,ao=some a→B≤a.block)∧∀x∈l,∀k,x.1.has k→B≤k):=⟨fun a e=>by subst e;exact ho.row.lt.1,fun x hx k hk=>(k_has (ho.own x hx) hk).1⟩;have HK:Hid (∀i,k+kcnt (l.take i)≤100000000000):=fun i=>by have:=kcnt_le l i;omega
 have HO0:Hid (KOwn w B ao n cap (kst k l 0)):=by show KOwn w B ao n cap (kst k l 0);simpa[kst,kmk] using ho
 clear ho hh;go_enter Tryd.func16,Tryd.ntmps16;go_wp2
 go_loopw [1,5] (fun q i wr=>∃j c:Nat,i=.int .i64 j∧q=.int .i64 (c:Int)∧j≤n∧Hid (c=k+kcnt (l.take j))∧Hid (KOwn wr B ao n cap (kst k l j))∧Hid (Span B hi w wr)) (fun _ i _=>n-(intOf i).toNat)
 case atStart=>exact⟨0,k,rfl,rfl,Nat.zero_le _,by show k=_;simp[kcnt],HO0,Span.refl _ _ _⟩
 case round=>
  obtain⟨j,c,rfl,rfl,hj,hc,ho,hsp⟩:=hrel;clear HO0
  by_cases hlt:j<n
  ·obtain⟨g,e⟩:=HHD.out (by omega);subst e;have HKL:Hid (j<l.length):=by show j<l.length;rw[HL.out];exact hlt
   have hcb:c≤100000000000:=by have:=HK.out j;have:=hc.out;omega
   have hc0:0<c:=by have:=hc.out;omega
   have hlt':(j:Int)<n:=by omega
   obtain⟨s1,s2⟩:=kst_kf k l j HKL.out;have hnb:(kf l j).n≤100000000000:=by
    have h1:=HK.out (j+1);rw[qcs l j HKL.out] at h1;omega
   go_wp2_with fail
   refine (qck c wr hc0 (by omega)).mono ?_;rintro e w1 ⟨rfl,hb1⟩;have ho1:=ho.out.below hb1;have hsp1:=hsp.out.new hb1 hB;obtain⟨b,off,e0,hc1,hd1,hq1,hR1⟩:=ho1.rd.get j hlt;simp only[Option.some.injEq,Addr.mk.injEq,and_true] at e0;obtain⟨rfl,rfl⟩:=e0;rw[Nat.zero_add] at hc1 hd1 hq1;rw[s1] at hc1 hd1 hq1;have hf0:=ho1.row.froz (j*3);obtain⟨p1,g1⟩:=ho1.sto j hlt 0 (by decide) (.string (mtx c)) ⟨mtx c,(kf l j).a,(kf l j).n,(kf l j).c,(kf l j).q⟩ (by rw[s1];rfl) (by rw[s1];exact⟨rfl,rfl,rfl⟩);have g1':w1.grownBy (w1.setCell ⟨g,j*3,none⟩ (.string (mtx c))) (some g):=g1;have P1:Hid (KOwn (w1.setCell ⟨g,j*3,none⟩ (.string (mtx c))) B (some ⟨g,0,none⟩) n cap ((kst k l j).set j (⟨mtx c,(kf l j).a,(kf l j).n,(kf l j).c,(kf l j).q⟩,kd l j))):=by rw[s2] at p1;exact p1
   have S1:Hid (Span B hi w (w1.setCell ⟨g,j*3,none⟩ (.string (mtx c)))):=hsp1.row g1' hB fun k e=>by cases e;exact⟨HLO.out.1 _ rfl,HH.out.1 _ rfl⟩
   obtain⟨z,hz⟩ : ∃z,z=w1.setCell ⟨g,j*3,none⟩ (.string (mtx c)):=⟨_,rfl⟩;clear p1 g1 g1' ho1 hsp1 ho hsp hb1 hR1;have hjl:j<(kst k l j).length:=by rw[kst_len];exact HKL.out
   obtain⟨t1,t2⟩:=kd_set (kst k l j) j (⟨mtx c,(kf l j).a,(kf l j).n,(kf l j).c,(kf l j).q⟩,kd l j) hjl;go_wp2_with fail
   rw[←hz] at P1 S1 ⊢;have hbo:=P1.out.own _ (kf_mem (l:=(kst k l j).set j (⟨mtx c,(kf l j).a,(kf l j).n,(kf l j).c,(kf l j).q⟩,kd l j)) (i:=j) (by simpa using hjl));rw[t1,t2] at hbo;refine (qdj B (kf l j).a (kf l j).n (kf l j).c (c+1) _ (kd l j) z (by first | rfl | omega) hbo (by omega) (by omega)).mono ?_;rintro e w2 ⟨rfl,hbo2,hg2⟩;have P2:Hid (KOwn w2 B (some ⟨g,0,none⟩) n cap ((kst k l j).set j (⟨mtx c,(kf l j).a,(kf l j).n,(kf l j).c,(kf l j).q⟩,marks (c+1) (kf l j).n))):=by
    have h:=P1.out.bod j hlt (marks (c+1) (kf l j).n) (by rw[t1];exact hbo2) (by rw[t1];exact hg2);rw[t1,List.set_set] at h;exact h
   have S2:Hid (Span B hi w w2):=S1.out.row hg2 hB fun k e=>by
    cases ha:(kf l j).a with
    |none=>rw[ha] at e;simp[Value.ownBlock] at e
    |some a=>
     rw[ha] at e;have hk':(kf l j).has k:=⟨a,ha,by simpa[Value.ownBlock] using e⟩;exact⟨HLO.out.2 _ (kf_mem HKL.out) k hk',HH.out.2 _ (kf_mem HKL.out) k hk'⟩
   clear hbo hbo2 hg2 P1 S1 hz hc1 hd1 hq1 t1 t2;obtain⟨t1,t2⟩:=kd_set (kst k l j) j (⟨mtx c,(kf l j).a,(kf l j).n,(kf l j).c,(kf l j).q⟩,marks (c+1) (kf l j).n) hjl;obtain⟨b,off,e0,hc1,hd1,hq1,hR1⟩:=P2.out.rd.get j hlt;simp only[Option.some.injEq,Addr.mk.injEq,and_true] at e0;obtain⟨rfl,rfl⟩:=e0;rw[Nat.zero_add] at hc1 hd1 hq1;rw[t1] at hc1 hd1 hq1;have hf2:=P2.out.row.froz (j*3+2);obtain⟨p3,g3⟩:=P2.out.sto j hlt 2 (by decide) (.int .i64 ((c+1+(kf l j).n:Nat):Int)) ⟨mtx c,(kf l j).a,(kf l j).n,(kf l j).c,((c+1+(kf l j).n:Nat):Int)⟩ (by rw[t1];rfl) (by rw[t1];exact⟨rfl,rfl,rfl⟩);have P3:Hid (KOwn (w2.setCell ⟨g,j*3+2,none⟩ (.int .i64 ((c+1+(kf l j).n:Nat):Int))) B (some ⟨g,0,none⟩) n cap (kst k l (j+1))):=by
    rw[t2,List.set_set] at p3;have h:=kst_step k l j HKL.out;rw[←hc.out] at h;rw[h] at p3;exact p3
   have S3:Hid (Span B hi w (w2.setCell ⟨g,j*3+2,none⟩ (.int .i64 ((c+1+(kf l j).n:Nat):Int)))):=S2.out.row g3 hB fun k e=>by cases e;exact⟨HLO.out.1 _ rfl,HH.out.1 _ rfl⟩
   have HC:Hid (c+1+(kf l j).n+1=k+kcnt (l.take (j+1))):=by
    show _=_;rw[qcs l j HKL.out,hc.out];omega
   clear p3 g3 P2 S2 hR1 t1 t2 s1 s2;go_wp2;go_roundw
   case rel=>exact⟨j+1,c+1+(kf l j).n+1,by go_num,by go_num,by omega,HC,P3,S3⟩
   case measure=>simp[intOf]<;>omega
  ·have hlt':¬(j:Int)<n:=by omega
   obtain rfl:j=n:=by omega
   have HC:Hid (c=k+kcnt l):=by
    have h:=hc.out;rw[List.take_of_length_le (by rw[HL.out];exact Nat.le_refl _)] at h;exact h
   have HO:Hid (KOwn wr B ao j cap (kmk k l)):=by
    have h:=ho.out;unfold kst at h;rw[List.take_of_length_le (by rw[HL.out];exact Nat.le_refl _),List.drop_of_length_le (by rw[HL.out];exact Nat.le_refl _),List.append_nil] at h;exact h
   clear hc ho;go_wp2;go_ret;exact⟨by rw[HC.out];simp,HO.out,hsp.out⟩

theorem qdi (ao:Option Addr) (n cap k:Nat) (q:Int) (w:World) (hq:q=(k:Int)) (hr:RdIn w ao n cap (marks k n)) (hn:n≤1099511627776) (hk:k≤1099511627776) :
  Calls Tryd.prog 40 #[.slice ao n cap,.int .i64 q] w fun e w'=>e=.returned (.int .i64 ((k+n:Nat):Int))∧w'=w:=by
 subst hq;exact qea ao n cap k w hr hn hk
theorem kmk_at (k:Nat) (l:KtL) (i:Nat) (h:i<l.length):(kmk k l)[i]? = some (⟨mtx (k+kcnt (l.take i)),(kf l i).a,(kf l i).n,(kf l i).c,((k+kcnt (l.take i)+1+(kf l i).n:Nat):Int)⟩,marks (k+kcnt (l.take i)+1) (kf l i).n):=by
 have e:kf l i=(l[i]'h).1:=by simp[kf,List.getD_eq_getElem?_getD,List.getElem?_eq_getElem h]
 have hl:(kmk k (l.take i)).length=i:=by rw[qbu];simp;omega
 have e2:kmk k l=kmk k (l.take i)++kmk (k+kcnt (l.take i)) (l.drop i):=by rw[←kmk_app,List.take_append_drop]
 rw[e2,List.getElem?_append_right (by omega),hl,Nat.sub_self,List.drop_eq_getElem_cons h,e];rfl
theorem kmk_kf (k:Nat) (l:KtL) (i:Nat) (h:i<l.length):kf (kmk k l) i = ⟨mtx (k+kcnt (l.take i)),(kf l i).a,(kf l i).n,(kf l i).c,((k+kcnt (l.take i)+1+(kf l i).n:Nat):Int)⟩∧kd (kmk k l) i=marks (k+kcnt (l.take i)+1) (kf l i).n:=by
 have e:=kmk_at k l i h;constructor
 ·conv=>lhs;unfold kf
  rw[List.getD_eq_getElem?_getD,e];rfl
 ·conv=>lhs;unfold kd
  rw[List.getD_eq_getElem?_getD,e];rfl
theorem held_lheldKeptS (ao:Option Addr) (n cap k:Nat) (l:KtL) (w:World) (hr:KRd w ao n cap (kmk k l)) (hn:n≤1048576) (hk0:0<k) (hk:k+kcnt l≤100000000000) :
  Calls Tryd.prog 18 #[.slice ao n cap,.int .i64 k] w fun e w'=>e=.returned (.int .i64 ((k+kcnt l:Nat):Int))∧Below w.heap.size w w':=by
 have HL:Hid (l.length=n):=by have:=hr.len;rwa [qbu] at this
 have HR:Hid (KRd w ao n cap (kmk k l)):=hr;have HK:Hid (∀i,k+kcnt (l.take i)≤100000000000):=fun i=>by have:=kcnt_le l i;omega
 clear hr;go_enter Tryd.func18,Tryd.ntmps18;go_wp2
 go_loopw [1,5] (fun q i wr=>∃j c:Nat,i=.int .i64 j∧q=.int .i64 (c:Int)∧j≤n∧Hid (c=k+kcnt (l.take j))∧Below w.heap.size w wr) (fun _ i _=>n-(intOf i).toNat)
 case atStart=>exact⟨0,k,rfl,rfl,Nat.zero_le _,by show k=_;simp[kcnt],Below.refl _ _⟩
 case round=>
  obtain⟨j,c,rfl,rfl,hj,hcc,hb⟩:=hrel
  by_cases hlt:j<n
  ·have HKL:Hid (j<l.length):=by show j<l.length;rw[HL.out];exact hlt
   have hcb:c≤100000000000:=by have:=HK.out j;have:=hcc.out;omega
   have hc0:0<c:=by have:=hcc.out;omega
   have hlt':(j:Int)<n:=by omega
   have hnb:(kf l j).n≤100000000000:=by
    have h1:=HK.out (j+1);rw[qcs l j HKL.out] at h1;omega
   obtain⟨b,off,e,hc,hd,hq,hR⟩:=HR.out.get j hlt;subst e;obtain⟨t1,t2⟩:=kmk_kf k l j HKL.out;rw[t1] at hc hd hq hR;rw[t2] at hR;simp only at hc hd hq hR;rw[←hcc.out] at hc hq hR;have hck:wr.cell? ⟨b,off+j*3,none⟩ = some (.string (mtx c)):=(hb.cell (World.block_lt_of_cell? w _ hc)).trans hc;have hdk:wr.cell? ⟨b,off+j*3+1,none⟩ = some (.slice (kf l j).a (kf l j).n (kf l j).c):=(hb.cell (World.block_lt_of_cell? w _ hd)).trans hd;have hqk:wr.cell? ⟨b,off+j*3+2,none⟩ = some (.int .i64 ((c+1+(kf l j).n:Nat):Int)):=(hb.cell (World.block_lt_of_cell? w _ hq)).trans hq;have HRD:Hid (RdIn wr (kf l j).a (kf l j).n (kf l j).c (marks (c+1) (kf l j).n)):=hR.below hb;have hbn:=qel (mtx c);have HC:Hid (c+1+(kf l j).n+1=k+kcnt (l.take (j+1))):=by
    show _=_;rw[qcs l j HKL.out,hcc.out];omega
   clear hc hd hq hR t1 t2;go_wp2
   go_region_with (go_at_call 39;refine (qck c _ hc0 (by omega)).mono ?_;rintro e w1 ⟨rfl,hb1⟩;have hck1:=(hb1.cell (World.block_lt_of_cell? _ _ hck)).trans hck;have hdk1:=(hb1.cell (World.block_lt_of_cell? _ _ hdk)).trans hdk;have hqk1:=(hb1.cell (World.block_lt_of_cell? _ _ hqk)).trans hqk)
   all_goals
    go_wp2_with fail
    refine (qdi (kf l j).a (kf l j).n (kf l j).c (c+1) _ _ (by first | rfl | omega) ((HRD.out.below (below_drewN (Below.refl _ _) 1)).below hb1) (by omega) (by omega)).mono ?_;rintro e w2 ⟨rfl,rfl⟩;have hcneg:¬((c+1+(kf l j).n:Nat):Int)<0:=by omega
    go_wp2;go_roundw
    case rel=>exact⟨j+1,c+1+(kf l j).n+1,by go_num,by go_num,by omega,HC,(below_drewN hb 1).trans (hb1.mono hb.size)⟩
    case measure=>simp[intOf]<;>omega
  ·have hlt':¬(j:Int)<n:=by omega
   obtain rfl:j=n:=by omega
   have HC:Hid (c=k+kcnt l):=by
    have h:=hcc.out;rw[List.take_of_length_le (by rw[HL.out];exact Nat.le_refl _)] at h;exact h
   clear hcc;go_wp2;go_ret;exact⟨by rw[HC.out];simp,hb⟩
theorem for_sKeptFor (ao:Option Addr) (n cap:Nat) (l:KtL) (f:ByteArray) (w:World) (hr:KRd w ao n cap l) (hn:n≤1048576) (hs:∀x∈l,x.1.t.size≤1048576∧x.1.n≤1048576) (hf:f.size≤1048576) :
  Calls Tryd.prog 19 #[.slice ao n cap,.string f] w fun e w'=>∃a' m' c',∃ds:KtL,e=.returned (.slice a' m' c')∧kvs ds=forK f (kvs l)∧KOwn w' w.heap.size a' m' c' ds∧Below w.heap.size w w':=by
 have HL:Hid (l.length=n):=hr.len;have HR:Hid (KRd w ao n cap l):=hr;have HS:Hid (∀x∈l,x.1.t.size≤1048576∧x.1.n≤1048576):=hs;clear hr hs;go_enter Tryd.func19,Tryd.ntmps19;go_wp2
 go_loopw [5,6] (fun v i wr=>∃k m:Nat,∃a2 c2,∃es:KtL,i=.int .i64 k∧v=.slice a2 m c2∧k≤n∧Hid (m≤k)∧Hid (kvs es=forK f (kvs (l.take k)))∧Hid (ktK.Own wr w.heap.size a2 m c2 (kts es))∧Hid (∀x∈es,RdIn w x.1.a x.1.n x.1.c x.2∧x.1.n≤1048576)∧Below w.heap.size w wr) (fun _ i _=>n-(intOf i).toNat)
 case atStart=>exact⟨0,0,_,_,[],rfl,rfl,Nat.zero_le _,Nat.le_refl _,rfl,(qec w).row,fun x hx=>(by cases hx),(Below.refl _ _).alloc (Nat.le_refl _) _⟩
 case round=>
  obtain⟨k,m,ao2,cap2,es,rfl,rfl,hk,hmk,hv,ho,hrd,hb⟩:=hrel
  by_cases hlt:k<n
  ·obtain⟨b,off,e,hc,hd,hq,hR⟩:=HR.out.get k hlt;obtain⟨b',off',e',hrng⟩:=HR.out.rng k hlt;subst e;simp only[Option.some.injEq,Addr.mk.injEq,and_true] at e';obtain⟨rfl,rfl⟩:=e';have hck:wr.cell? ⟨b,off+k*3,none⟩ = some (.string (kf l k).t):=(hb.cell (World.block_lt_of_cell? w _ hc)).trans hc;have hlt':(k:Int)<n:=by omega
   have HKL:Hid (k<l.length):=by show k<l.length;rw[HL.out];exact hlt
   have HRD:Hid (RdIn w (kf l k).a (kf l k).n (kf l k).c (kd l k)):=hR;have HRNG:Hid (w.rangeAt b (off+k*3) (ktK.cells (kf l k)).toList):=hrng;have HBD:Hid ((kf l k).n≤1048576):=(HS.out _ (kf_mem HKL.out)).2;have htk:(kf l k).t.size≤1048576:=(HS.out _ (kf_mem HKL.out)).1;clear hc hd hq hR hrng;go_wp2_with fail
   obtain⟨v,hvv⟩ : ∃v,qbf f.data.toList (kf l k).t.data.toList=v:=⟨_,rfl⟩;have HMV:Hid (qbf f.data.toList (kf l k).t.data.toList=v):=hvv;clear hvv;refine (mat_sMatch f (kf l k).t _ hf htk).mono ?_;rintro e w2 ⟨he,hw2⟩;rw[HMV.out] at he;obtain rfl:=he;have hb2:=hb.trans (hw2.mono hb.size);have HO2:Hid (ktK.Own w2 w.heap.size ao2 m cap2 (kts es)):=ho.out.below hw2;clear hw2 hck hb ho;have hstep:=qgb f l k HKL.out;rw[HMV.out] at hstep;have HSTEP:Hid (forK f (kvs (l.take (k+1)))=forK f (kvs (l.take k))++(if v=true then [kv (kf l k,kd l k)] else [])):=hstep;clear hstep;cases v
   ·have HV4:Hid (kvs es=forK f (kvs (l.take (k+1)))):=by show _=_;rw[HSTEP.out,hv.out];simp
    go_wp2;go_roundw
    case rel=>exact⟨k+1,m,ao2,cap2,es,by go_num,rfl,by omega,by show _≤_;have:=hmk.out;omega,HV4,HO2,hrd,hb2⟩
    case measure=>simp[intOf]<;>omega
   ·have hrg:=qau HRNG.out hb2;obtain⟨b3,off3,e3,hc3,hd3,hq3,_⟩:=(HR.out.below hb2).get k hlt;simp only[Option.some.injEq,Addr.mk.injEq,and_true] at e3;obtain⟨rfl,rfl⟩:=e3;have ho4:=HO2.out.below (qfi w2 (.cells #[.string (kf l k).t,.slice (kf l k).a (kf l k).n (kf l k).c,.int .i64 (kf l k).q] 57));have hh4:=heap_alloc_new w2 (.cells #[.string (kf l k).t,.slice (kf l k).a (kf l k).n (kf l k).c,.int .i64 (kf l k).q] 57);have hb4:Below w.heap.size w (w2.alloc (.cells #[.string (kf l k).t,.slice (kf l k).a (kf l k).n (kf l k).c,.int .i64 (kf l k).q] 57)):=hb2.alloc hb2.size _;clear hrg;go_wp2_with (at_builtin;refine g_app ktOk _ rfl _ _ rfl w.heap.size _ _ _ (kts es) rfl ho4 ⟨w2.heap.size,0,none⟩ (kf l k) rfl (fun j v hv=>by rw[Addr.add_lit,Nat.zero_add,qal hh4];exact hv) (by have:=hmk.out;unfold maxLen;omega) (by show (m+1)*48≤_;have:=hmk.out;omega) hb4.size ?_)
    intro a5 c5 y5 ho5 hg5;have HB5:Hid (Below w.heap.size w y5):=qcm hb4 hb4.size ho4 hg5;have HO5:Hid (ktK.Own y5 w.heap.size a5 (m+1) c5 (kts (es++[(kf l k,kd l k)]))):=by
     show ktK.Own _ _ _ _ _ _;rw[kts_app];exact ho5
    have HV5:Hid (kvs (es++[(kf l k,kd l k)])=forK f (kvs (l.take (k+1)))):=by
     show kvs _=_;rw[qed,hv.out,HSTEP.out];rfl
    have HR5:Hid (∀x∈es++[(kf l k,kd l k)],RdIn w x.1.a x.1.n x.1.c x.2∧x.1.n≤1048576):=fun x hx=>by
     rw[List.mem_append] at hx
     rcases hx with hx | hx
     ·exact hrd.out x hx
     ·obtain rfl:x=(kf l k,kd l k):=by simpa using hx
      exact⟨HRD.out,HBD.out⟩
    clear ho5 hg5 ho4 hb4 hh4 hc3 hd3 hq3;go_wp2;go_roundw
    case rel=>exact⟨k+1,m+1,a5,c5,_,by go_num,rfl,by omega,by show _≤_;have:=hmk.out;omega,HV5,HO5,HR5,HB5.out⟩
    case measure=>simp[intOf]<;>omega
  ·have hlt':¬(k:Int)<n:=by omega
   obtain rfl:k=n:=by omega
   have HV:Hid (kvs es=forK f (kvs l)):=by
    have e:=hv.out;rw[List.take_of_length_le (by rw[HL.out];exact Nat.le_refl _)] at e;exact e
   have hm:=hmk.out;have hrd2:KRd wr ao2 m cap2 es:=⟨ho.out.rd ktOk,fun x hx=>(hrd.out x hx).1.below hb⟩;have hbs:=hrd.out;have hln:=hrd2.len;go_wp2_with fail
   refine (qfu ao2 m cap2 es wr hrd2 (by omega) (fun i hi=>(hbs _ (kf_mem (by omega))).2)).mono ?_;rintro e w3 ⟨a',c',ds,rfl,hv3,ho3,hb3⟩;have HO3:Hid (KOwn w3 w.heap.size a' m c' ds):=ho3.mono hb.size;have HB3:Hid (Below w.heap.size w w3):=hb.trans (hb3.mono hb.size);have HV3:Hid (kvs ds=forK f (kvs l)):=hv3.trans HV.out;clear hrd2 hbs hln hv3 ho3 hb3 hv ho hrd hb hmk hm;go_wp2;go_ret;exact⟨_,m,_,ds,rfl,HV3.out,HO3.out,HB3.out⟩
def vcnt (vs:List Kv):Nat:=(vs.map fun v=>v.b.length+2).sum
theorem kcnt_vcnt {l:KtL} (h:∀x∈l,x.2.length=x.1.n):kcnt l=vcnt (kvs l):=by
 induction l with
 |nil=>rfl
 |cons x r ih=>
  have e:vcnt (kvs (x :: r))=(x.2.length+2)+vcnt (kvs r):=rfl;rw[qge,e,ih fun y hy=>h y (List.mem_cons_of_mem _ hy),h x List.mem_cons_self]
theorem vcnt_filter (f:ByteArray) (vs:List Kv):vcnt (forK f vs)≤vcnt vs:=by
 induction vs with
 |nil=>exact Nat.le_refl _
 |cons v r ih=>
  have e:vcnt (v :: r)=(v.b.length+2)+vcnt r:=rfl;unfold forK at ih ⊢;rw[List.filter_cons]
  split
  ·have e2:vcnt (v :: r.filter fun v=>qbf f.data.toList v.t.data.toList)=(v.b.length+2)+vcnt (r.filter fun v=>qbf f.data.toList v.t.data.toList):=rfl;rw[e,e2];omega
  ·rw[e];omega
theorem vcnt_tot {l:KtL} (h:∀x∈l,x.2.length=x.1.n):vcnt (kvs l)≤ktot l+2*l.length:=by
 induction l with
 |nil=>exact Nat.zero_le _
 |cons x r ih=>
  have e:vcnt (kvs (x :: r))=(x.2.length+2)+vcnt (kvs r):=rfl;have e2:ktot (x :: r)=(x.1.t.size+x.1.n)+ktot r:=rfl;have:=ih fun y hy=>h y (List.mem_cons_of_mem _ hy)
  have:=h x List.mem_cons_self;rw[e,e2,List.length_cons];omega
theorem KOwn.cnt {w:World} {B:Nat} {ao:Option Addr} {n cap:Nat} {l:KtL} (h:KOwn w B ao n cap l):kcnt l=vcnt (kvs l):=kcnt_vcnt fun x hx=>(h.own x hx).1
theorem kd_le {ds:KtL} {vs:List Kv} (h:kvs ds=vs) (hv:∀v∈vs,v.b.length≤1048576) (i:Nat) (hi:i<ds.length):(kd ds i).length≤1099511627776:=by
 have h1:=kvs_at ds i hi;rw[h] at h1;have:=hv _ (List.mem_of_getElem? h1);simp only[kv] at this;omega
