/- Lemmas. -/
import Derived.Shelf.Strings.Builder1
import Derived.Shelf.Small.Utf8
import Derived.Shelf.Small.Strs
import Derived.Shelf.LaysM
import Derived.Shelf.Strconv.Clone
import Derived.Shelf.Strings.Search3
import Derived.Shelf.Strings.Count
import Derived.Shelf.Strings.Split
import Derived.Shelf.Strings.IndexAnyAll
import Derived.Test.YtpgkbkbhhmfgnaaDoorProg
import Derived.Test.YtpgkbkbhhmfgnaaDoorK04
set_option linter.unusedVariables false
set_option linter.unusedSimpArgs false
set_option maxRecDepth 100000
set_option maxHeartbeats 20000000
namespace Go.Proofs.YtpgkbkbhhmfgnaaDoor
open Go.RowKit

structure Kt where
 t:ByteArray
 a:Option Addr
 n:Nat
 c:Nat
 q:Int
def Kt.cells (k:Kt):Array Value:=#[.string k.t,.slice k.a k.n k.c,.int .i64 k.q]
def Kt.zero:Kt:=⟨ByteArray.empty,none,0,0,0⟩
def Kt.has (x:Kt) (k:Nat):Prop:=∃a:Addr,x.a=some a∧a.block=k
def ktK:GK Kt:=⟨57,25,3,48,Kt.cells,Kt.zero⟩
theorem ktOk:GKok ktK where
 size:=fun _=>rfl
 one:=fun x u hu=>by
  have h:u∈[Value.string x.t,.slice x.a x.n x.c,.int .i64 x.q]:=hu;simp only[List.mem_cons,List.not_mem_nil,or_false] at h
  rcases h with h | h | h<;>(rw[h];rfl)
 pos:=by decide
 und:=Tryd.underlying25
 info:=by kernel_rfl
 row:=⟨_,Tryd.underlying57,rfl⟩
structure Kv where
 t:ByteArray
 b:List UInt8
 q:Int
abbrev KtL:=List (Kt×List UInt8)
def kv (x:Kt×List UInt8):Kv:=⟨x.1.t,x.2,x.1.q⟩
def kvs (l:KtL):List Kv:=l.map kv
def kts (l:KtL):List Kt:=l.map Prod.fst
def kf (l:KtL) (i:Nat):Kt:=(l.getD i (Kt.zero,[])).1
def kd (l:KtL) (i:Nat):List UInt8:=(l.getD i (Kt.zero,[])).2
theorem kf_mem {l:KtL} {i:Nat} (h:i<l.length):(kf l i,kd l i)∈l:=by
 have e:(kf l i,kd l i)=l[i]'h:=by simp[kf,kd,List.getD_eq_getElem?_getD,List.getElem?_eq_getElem h]
 rw[e];exact List.getElem_mem h
theorem kts_length (l:KtL):(kts l).length=l.length:=by simp[kts]
theorem kvs_length (l:KtL):(kvs l).length=l.length:=by simp[kvs]
theorem kts_app (a b:KtL):kts (a++b)=kts a++kts b:=by simp[kts]
theorem qed (a b:KtL):kvs (a++b)=kvs a++kvs b:=by simp[kvs]
theorem qhf (l:KtL) (i:Nat) (x:Kt×List UInt8):kts (l.set i x)=(kts l).set i x.1:=by simp[kts,List.map_set]
theorem kts_at (l:KtL) (i:Nat):ktK.at (kts l) i=kf l i:=by
 simp only[GK.at,kts,kf,List.getD_eq_getElem?_getD,List.getElem?_map];cases l[i]?<;>rfl
theorem kvs_at (l:KtL) (i:Nat) (h:i<l.length):(kvs l)[i]? = some (kv (kf l i,kd l i)):=by
 simp[kvs,kf,kd,List.getD_eq_getElem?_getD,List.getElem?_eq_getElem h]
theorem qfn (l:KtL) (i:Nat) (h:i<l.length):kvs (l.take (i+1))=kvs (l.take i)++[kv (kf l i,kd l i)]:=by
 rw[List.take_succ_eq_append_getElem h,qed];simp[kvs,kf,kd,List.getD_eq_getElem?_getD,List.getElem?_eq_getElem h]
theorem kvs_same {l l':KtL} (h:kvs l=kvs l') (i:Nat) (hi:i<l.length):(kf l i).t=(kf l' i).t∧kd l i=kd l' i∧(kf l i).q=(kf l' i).q:=by
 have hl:l.length=l'.length:=by rw[←kvs_length l,←kvs_length l',h]
 have h1:=kvs_at l i hi;have h2:=kvs_at l' i (by omega);rw[h,h2] at h1;simp only[Option.some.injEq,kv,Kv.mk.injEq] at h1;exact⟨h1.1.symm,h1.2.1.symm,h1.2.2.symm⟩
def KRd (w:World) (ao:Option Addr) (n cap:Nat) (l:KtL):Prop:=ktK.Rd w ao n cap (kts l)∧∀x∈l,RdIn w x.1.a x.1.n x.1.c x.2
theorem KRd.len {w:World} {ao:Option Addr} {n cap:Nat} {l:KtL} (h:KRd w ao n cap l):l.length=n:=by
 have:=h.1.1.1
 rwa [kts_length] at this
theorem KRd.below {w w':World} {ao:Option Addr} {n cap:Nat} {l:KtL} (h:KRd w ao n cap l) (hb:Below w.heap.size w w'):KRd w' ao n cap l:=⟨h.1.below hb,fun x hx=>(h.2 x hx).below hb⟩
theorem KRd.cap {w:World} {ao:Option Addr} {n cap:Nat} {l:KtL} (h:KRd w ao n cap l):n≤maxLen:=Nat.le_trans h.1.2.1 h.1.2.2.1
theorem KRd.get {w:World} {ao:Option Addr} {n cap:Nat} {l:KtL} (h:KRd w ao n cap l) (i:Nat) (hi:i<n):∃b off,ao=some ⟨b,off,none⟩∧w.cell? ⟨b,off+i*3,none⟩ = some (.string (kf l i).t)∧w.cell? ⟨b,off+i*3+1,none⟩ = some (.slice (kf l i).a (kf l i).n (kf l i).c)∧w.cell? ⟨b,off+i*3+2,none⟩ = some (.int .i64 (kf l i).q)∧RdIn w (kf l i).a (kf l i).n (kf l i).c (kd l i):=by
 obtain⟨b,off,e,_,hc⟩:=h.1.cell ktOk i hi;rw[kts_at] at hc;exact⟨b,off,e,hc 0 _ rfl,hc 1 _ rfl,hc 2 _ rfl,h.2 _ (kf_mem (by rw[h.len];exact hi))⟩
theorem KRd.rng {w:World} {ao:Option Addr} {n cap:Nat} {l:KtL} (h:KRd w ao n cap l) (i:Nat) (hi:i<n):∃b off,ao=some ⟨b,off,none⟩∧w.rangeAt b (off+i*3) (ktK.cells (kf l i)).toList:=by
 obtain⟨b,off,e,hr,_⟩:=h.1.cell ktOk i hi;rw[kts_at] at hr;exact⟨b,off,e,hr⟩
structure KOwn (w:World) (B:Nat) (ao:Option Addr) (n cap:Nat) (l:KtL):Prop where
 row:ktK.Own w B ao n cap (kts l)
 own:∀x∈l,Own w B x.1.a x.1.n x.1.c x.2
 dis:l.Pairwise fun x y=>∀k,x.1.has k→¬y.1.has k
theorem KOwn.rd {w:World} {B:Nat} {ao:Option Addr} {n cap:Nat} {l:KtL} (h:KOwn w B ao n cap l):KRd w ao n cap l:=⟨h.row.rd ktOk,fun x hx=>(h.own x hx).rd⟩
theorem KOwn.len {w:World} {B:Nat} {ao:Option Addr} {n cap:Nat} {l:KtL} (h:KOwn w B ao n cap l):l.length=n:=h.rd.len
theorem KOwn.nil (w:World) (B:Nat):KOwn w B none 0 0 []:=⟨GK.Own.nil _ w B,fun x h=>(by cases h),List.Pairwise.nil⟩
theorem KOwn.below {w w':World} {B:Nat} {ao:Option Addr} {n cap:Nat} {l:KtL} (h:KOwn w B ao n cap l) (hb:Below w.heap.size w w'):KOwn w' B ao n cap l :=
 ⟨h.row.below hb,fun x hx=>(h.own x hx).below hb,h.dis⟩
theorem KOwn.mono {w:World} {B B':Nat} {ao:Option Addr} {n cap:Nat} {l:KtL} (h:KOwn w B ao n cap l) (hB:B'≤B):KOwn w B' ao n cap l :=
 ⟨h.row.mono hB,fun x hx=>(h.own x hx).mono hB,h.dis⟩
theorem k_neR {w:World} {B:Nat} {a:Option Addr} {n c:Nat} {d:List UInt8} {b:Nat} {cs:Array Value} (h:Own w B a n c d) (hb:w.heap[b]? = some (.cells cs 57)):∀q,a=some q→some q.block≠some b:=by
 rintro q rfl e;obtain⟨cur,hc⟩:=g_ty h.2;exact g_tyne hc hb (by decide) (Option.some.inj e)
theorem k_has {w:World} {B:Nat} {x:Kt} {d:List UInt8} (h:Own w B x.a x.n x.c d) {k:Nat} (hk:x.has k):B≤k∧k<w.heap.size:=by
 obtain⟨a,e,rfl⟩:=hk;exact h.block e
theorem k_rowed {w w':World} {B B2:Nat} {x:Option Addr} {m c:Nat} {d:List UInt8} {ao:Option Addr} {n cap:Nat} {ps:List Kt} (h:Own w B x m c d) (hR:ktK.Own w B2 ao n cap ps) (hg:w.grownBy w' (Value.slice ao n cap).ownBlock):Own w' B x m c d:=by
 refine h.grown hg fun q e=>?_
 cases ao with
 |none=>simp[Value.ownBlock]
 |some a=>
  obtain⟨cur,hc⟩:=hR.block;exact k_neR h hc q e
theorem KOwn.put {w:World} {B g n cap:Nat} {l:KtL} (h:KOwn w B (some ⟨g,0,none⟩) n cap l) (i:Nat) (hi:i<n) (u:Kt) (d:List UInt8) (hu:Own w B u.a u.n u.c d) (hs:∀x∈l,∀k,x.1.has k→¬u.has k) :
  KOwn (((w.setCell ⟨g,i*3,none⟩ (.string u.t)).setCell ⟨g,i*3+1,none⟩ (.slice u.a u.n u.c)).setCell ⟨g,i*3+2,none⟩ (.int .i64 u.q)) B (some ⟨g,0,none⟩) n cap (l.set i (u,d)) ∧
  w.grownBy (((w.setCell ⟨g,i*3,none⟩ (.string u.t)).setCell ⟨g,i*3+1,none⟩ (.slice u.a u.n u.c)).setCell ⟨g,i*3+2,none⟩ (.int .i64 u.q)) (some g):=by
 have hl:(kts l).length=n:=h.row.1;obtain⟨p,hp⟩ : ∃p,ktK.at (kts l) i=p:=⟨_,rfl⟩;obtain⟨s1,g1⟩:=h.row.store ktOk i 0 (.string u.t) { p with t:=u.t } hi (by decide) (by rw[hp];rfl);have e1:ktK.at ((kts l).set i { p with t:=u.t }) i = { p with t:=u.t }:=by simp[GK.at,List.getD_eq_getElem?_getD,List.getElem?_set,hl,hi]
 obtain⟨s2,g2⟩:=s1.store ktOk i 1 (.slice u.a u.n u.c) { u with q:=p.q } hi (by decide) (by rw[e1];rfl);rw[List.set_set] at s2;have e2:ktK.at ((kts l).set i { u with q:=p.q }) i = { u with q:=p.q }:=by simp[GK.at,List.getD_eq_getElem?_getD,List.getElem?_set,hl,hi]
 obtain⟨s3,g3⟩:=s2.store ktOk i 2 (.int .i64 u.q) u hi (by decide) (by rw[e2];rfl);rw[List.set_set] at s3;have gg:=(g1.trans g2).trans g3;obtain⟨cur,hcur⟩:=h.row.block;have keep:∀ {a:Option Addr} {m c:Nat} {z:List UInt8},Own w B a m c z→Own _ B a m c z:=fun {a m c z} ho=>Own.grown ho gg fun q e=>k_neR ho hcur q e
 refine⟨⟨?_,?_,?_⟩,gg⟩
 ·rw[qhf];exact s3
 ·intro x hx
  rcases List.mem_or_eq_of_mem_set hx with hx | rfl
  ·exact keep (h.own x hx)
  ·exact keep hu
 ·rw[List.pairwise_iff_getElem];intro a b ha hb hab;have ha':a<l.length:=by simpa using ha
  have hb':b<l.length:=by simpa using hb
  simp only[List.getElem_set];have hd:=List.pairwise_iff_getElem.1 h.dis
  split
  ·split
   ·omega
   ·intro k h1 h2;exact hs _ (List.getElem_mem hb') k h2 h1
  ·split
   ·intro k h1 h2;exact hs _ (List.getElem_mem ha') k h1 h2
   ·exact hd a b ha' hb' hab
theorem k_app {ops:Array Oper} {rest:List Oper} {o:Oper} {a:Act} {Q:Exit→Act→World→Prop} (w:World) (hgd:o.guard=none) (s x:Operand)
  (ho:o.op=.call { callee:=.builtin .append,args:=#[s,x],argTypes:=#[25,25] })
  (B:Nat) (ao:Option Addr) (n cap:Nat) (l:KtL) (hs:a.eval s=.slice ao n cap) (hown:KOwn w B ao n cap l)
  (ad:Nat) (u:Kt) (du:List UInt8) (hx:a.eval x=.slice (some ⟨ad,0,none⟩) 1 1) (hc:w.heap[ad]? = some (.cells u.cells 57)) (hu:Own w B u.a u.n u.c du) (hsep:∀x∈l,∀k,x.1.has k→¬u.has k) (hb:n≤1099511627776) (hB:B≤w.heap.size)
  (h:∀ao' cap' w',KOwn w' B ao' (n+1) cap' (l++[(u,du)])→w.grownBy w' (Value.slice ao n cap).ownBlock→wpList Tryd.prog ops Q rest (a.put o.dst (.slice ao' (n+1) cap')) w') :
  wpList Tryd.prog ops Q (o :: rest) a w:=by
 have hbb:(n+1)*ktK.bytes≤140737488355328:=by
  show (n+1)*48≤_;omega
 refine g_app ktOk w hgd s x ho B ao n cap (kts l) hs hown.row ⟨ad,0,none⟩ u hx ?_ (by unfold maxLen;omega) hbb hB ?_
 ·intro j v hv;rw[Addr.add_lit,Nat.zero_add,qal hc];exact hv
 intro ao' cap' w' hr hg;refine h ao' cap' w' ⟨?_,?_,?_⟩ hg
 ·rw[kts_app];exact hr
 ·intro y hy;rw[List.mem_append] at hy
  rcases hy with hy | hy
  ·exact k_rowed (hown.own y hy) hown.row hg
  ·obtain rfl:y=(u,du):=by simpa using hy
   exact k_rowed hu hown.row hg
 ·rw[List.pairwise_append];refine⟨hown.dis,List.pairwise_singleton _ _,fun x hx y hy=>?_⟩;obtain rfl:y=(u,du):=by simpa using hy
  exact hsep x hx
theorem k_sep {w:World} {B:Nat} {ao:Option Addr} {n cap:Nat} {l:KtL} (h:KOwn w B ao n cap l) {w':World} {u:Kt} {d:List UInt8} {m c:Nat} (hu:Own w' w.heap.size u.a m c d):∀x∈l,∀k,x.1.has k→¬u.has k:=by
 intro x hx k h1 h2;have h3:=(k_has (h.own x hx) h1).2;obtain⟨a,e,rfl⟩:=h2;have h4:=(hu.block e).1;omega

theorem sz_lszKept (t:ByteArray) (a:Option Addr) (n c:Nat) (q:Int) (L:Nat) (w:World) (ht:t.size≤maxLen) (hn:n≤maxLen) (hL:L≤1048576) :
  Calls Tryd.prog 26 #[.agg #[.string t,.slice a n c,.int .i64 q],.int .i64 L] w fun e w'=>∃r:Int,e=.returned (.int .i64 r)∧Below w.heap.size w w'∧(r<0∨∃R:Nat,r=R∧R+t.size+n=L):=by
 have ht':=ht;unfold maxLen at ht'
 by_cases h:t.size≤L
 ·have h':¬(L:Int)-t.size<0:=by omega
  have e:(L:Int)-t.size=((L-t.size:Nat):Int):=by omega
  go_enter Tryd.func26,Tryd.ntmps26;go_wp2_with fail
  refine (qhl a n c (L-t.size) _ hn (by omega)).mono ?_;rintro e w2 ⟨r,rfl,rfl,hc⟩;have hb:=(Below.refl w.heap.size w).alloc (Nat.le_refl _) (.cells #[.string t,.slice a n c,.int .i64 q] 55)
  rcases hc with hc | ⟨R,rfl,hR⟩
  ·go_wp2;go_ret;exact⟨_,rfl,hb,.inl (by decide)⟩
  ·have hR0:¬(R:Int)<0:=by omega
   go_wp2;go_ret;exact⟨_,rfl,hb,.inr ⟨R,rfl,by omega⟩⟩
 ·have h':(L:Int)-t.size<0:=by omega
  go_enter Tryd.func26,Tryd.ntmps26;go_wp2;go_ret;exact⟨_,rfl,(Below.refl _ _).alloc (Nat.le_refl _) _,.inl (by decide)⟩
def ktot (l:KtL):Nat:=(l.map fun x=>x.1.t.size+x.1.n).sum
theorem ktot_take (l:KtL) (k:Nat) (h:k<l.length):ktot (l.take (k+1))=ktot (l.take k)+((kf l k).t.size+(kf l k).n):=by
 have e:kf l k=(l[k]'h).1:=by simp[kf,List.getD_eq_getElem?_getD,List.getElem?_eq_getElem h]
 rw[List.take_succ_eq_append_getElem h,e];simp only[ktot,List.map_append,List.map_cons,List.map_nil,List.sum_append,List.sum_cons,List.sum_nil,Nat.add_zero]
theorem sz_lszKeptS (ao:Option Addr) (n cap L:Nat) (l:KtL) (w:World) (hr:KRd w ao n cap l) (hs:∀x∈l,x.1.t.size≤maxLen) (hL:L≤1048576) :
  Calls Tryd.prog 7 #[.slice ao n cap,.int .i64 L] w fun e w'=>∃r:Int,e=.returned (.int .i64 r)∧Below w.heap.size w w'∧(r<0∨∃R:Nat,r=R∧R+n+ktot l=L):=by
 have HL:Hid (l.length=n):=hr.len;have HS:Hid (∀k,k<n→(kf l k).t.size≤maxLen):=fun k hk=>hs _ (kf_mem (by rw[HL.out];exact hk))
 have hcap:=hr.cap;unfold maxLen at hcap;clear hs
 by_cases hbig:L<n
 ·have h':(L:Int)-n<0:=by omega
  go_enter Tryd.func7,Tryd.ntmps7;go_wp2;go_ret;exact⟨_,rfl,Below.refl _ _,.inl (by decide)⟩
 ·have h':¬(L:Int)-n<0:=by omega
  go_enter Tryd.func7,Tryd.ntmps7;go_wp2
  go_loopw [1,5] (fun q i wr=>∃k M:Nat,i=.int .i64 k∧q=.int .i64 M∧k≤n∧Hid (M+n+ktot (l.take k)=L)∧Below w.heap.size w wr) (fun _ i _=>n-(intOf i).toNat)
  case atStart=>exact⟨0,L-n,rfl,by go_num,Nat.zero_le _,by show _+_+ktot (l.take 0)=_;simp[ktot];omega,Below.refl _ _⟩
  case round=>
   obtain⟨k,M,rfl,rfl,hk,hT,hb⟩:=hrel
   by_cases hlt:k<n
   ·obtain⟨b,off,e,hc,hd,hq,hR⟩:=hr.get k hlt;subst e;have hck:wr.cell? ⟨b,off+k*3,none⟩ = some (.string (kf l k).t):=(hb.cell (World.block_lt_of_cell? w _ hc)).trans hc;have hdk:wr.cell? ⟨b,off+k*3+1,none⟩ = some (.slice (kf l k).a (kf l k).n (kf l k).c):=(hb.cell (World.block_lt_of_cell? w _ hd)).trans hd;have hqk:wr.cell? ⟨b,off+k*3+2,none⟩ = some (.int .i64 (kf l k).q):=(hb.cell (World.block_lt_of_cell? w _ hq)).trans hq;have hlt':(k:Int)<n:=by omega
    have HT:Hid (ktot (l.take (k+1))=ktot (l.take k)+((kf l k).t.size+(kf l k).n)):=ktot_take l k (by rw[HL.out];exact hlt);have hsz:=HS.out k hlt;have hnm:(kf l k).n≤maxLen:=Nat.le_trans hR.2.1 hR.2.2.1;have hM:M≤1048576:=by have:=hT.out;omega
    clear hc hd hq hR;go_wp2_with fail
    refine (sz_lszKept (kf l k).t (kf l k).a (kf l k).n (kf l k).c (kf l k).q M wr hsz hnm hM).mono ?_;rintro e w2 ⟨r,rfl,hb2,hcase⟩;have hb3:=hb.trans (hb2.mono hb.size)
    rcases hcase with hneg | ⟨R,rfl,hR⟩
    ·go_wp2;go_ret;exact⟨_,rfl,hb3,.inl (by decide)⟩
    ·have hneg:¬(R:Int)<0:=by omega
     have HR:Hid (R+n+ktot (l.take (k+1))=L):=by show R+n+_=L;rw[HT.out];have:=hT.out;omega
     clear hR;go_wp2;go_roundw
     case rel=>exact⟨k+1,R,by go_num,rfl,by omega,HR,hb3⟩
     case measure=>simp[intOf]<;>omega
   ·have hlt':¬(k:Int)<n:=by omega
    obtain rfl:k=n:=by omega
    go_wp2;go_ret;refine⟨_,rfl,hb,.inr ⟨M,rfl,?_⟩⟩;have:=hT.out;rw[List.take_of_length_le (by rw[HL.out];exact Nat.le_refl _)] at this;exact this
theorem k_alloc3 (w:World) (a b c:Obj) :
  (((w.alloc a).alloc b).alloc c).heap[w.heap.size]? = some a∧(((w.alloc a).alloc b).alloc c).heap[w.heap.size+1]? = some b∧(((w.alloc a).alloc b).alloc c).heap[w.heap.size+1+1]? = some c:=by
 refine⟨?_,?_,?_⟩
 ·exact (Below.heap_alloc _ _ _ (by simp;omega)).trans ((Below.heap_alloc _ _ _ (by simp)).trans (heap_alloc_new w a))
 ·have e:=heap_alloc_new (w.alloc a) b;rw[show (w.alloc a).heap.size=w.heap.size+1 from by simp] at e;exact (Below.heap_alloc _ _ _ (by simp)).trans e
 ·have e:=heap_alloc_new ((w.alloc a).alloc b) c;rw[show ((w.alloc a).alloc b).heap.size=w.heap.size+1+1 from by simp] at e;exact e
theorem qbd {w w':World} (hb:Below w.heap.size w w') {g:Nat} {o:Obj} (h:w.heap[g]? = some o):w'.heap[g]? = some o:=(hb.block g (Array.getElem?_eq_some_iff.1 h).1).trans h
theorem qhd {w:World} {g:Nat} {cs:Array Value} {t:TypeId} {fz:Nat×Nat} (h:w.heap[g]? = some (.cells cs t fz)) (j:Nat) (u:Value) :
  (w.setCell ⟨g,j,none⟩ u).heap[g]? = some (.cells (cs.setIfInBounds j u) t fz):=by
 simp[World.setCell,Array.getElem?_modify,h]
theorem k_ret {fn:Func} {R:Ending→World→Prop} {ac:Act} {w:World} {p:Tmp} {g:Nat} {x:Kt} (hr:fn.results = #[.cell p 57]) (hp:ac.tmps.getD p undef=.pointer (some ⟨g,0,none⟩)) (hB:w.heap[g]? = some (.cells x.cells 57)) (hd:ac.defers = []) (h:R (.returned (.agg x.cells)) w):bodyPost Tryd.prog fn R .ret ac w :=
 bodyPost_ret (results_cell_row hr ac.tmps w g 57 x.cells (0,0) _ hp hB Tryd.underlying57 rfl (show (Tryd.prog.info? 57).map (fun x=>x.size)=some 3 by kernel_rfl)) hd h
theorem k_seto {w:World} {g b j:Nat} {o:Obj} {v:Value} (h:w.heap[g]? = some o) (hne:g≠b):(w.setCell ⟨b,j,none⟩ v).heap[g]? = some o:=(Below.heap_setCell _ _ _ g (fun e=>hne e)).trans h
theorem k_set3 {w:World} {g:Nat} {cs:Array Value} {t:TypeId} {x y z:Value} (h:w.heap[g]? = some (.cells cs t)):(((w.setCell ⟨g,0,none⟩ x).setCell ⟨g,1,none⟩ y).setCell ⟨g,2,none⟩ z).heap[g]? = some (.cells (((cs.setIfInBounds 0 x).setIfInBounds 1 y).setIfInBounds 2 z) t):=qhd (qhd (qhd h 0 x) 1 y) 2 z
theorem to_ltoKept (t:ByteArray) (a:Option Addr) (n c:Nat) (q:Int) (d:List UInt8) (w:World) (hr:RdIn w a n c d) (hn:n≤1099511627776) :
  Calls Tryd.prog 29 #[.agg #[.string t,.slice a n c,.int .i64 q]] w fun e w'=>∃g,e=.returned (.agg #[.string t,.slice (some ⟨g,0,none⟩) n n,.int .i64 q])∧Own w' w.heap.size (some ⟨g,0,none⟩) n n d∧Below w.heap.size w w':=by
 have hb0:Below w.heap.size w (((w.alloc (.cells #[.string t,.slice a n c,.int .i64 q] 55)).alloc (.cells #[.string ByteArray.empty,.slice none 0 0,.int .i64 0] 57)).alloc (.cells #[.string t,.slice none 0 0,.int .i64 0] 57)):=(((Below.refl _ _).alloc (Nat.le_refl _) _).alloc (by simp) _).alloc (by simp;omega) _;have r1:=hr.below hb0;have HB0:Hid (Below w.heap.size w (((w.alloc (.cells #[.string t,.slice a n c,.int .i64 q] 55)).alloc (.cells #[.string ByteArray.empty,.slice none 0 0,.int .i64 0] 57)).alloc (.cells #[.string t,.slice none 0 0,.int .i64 0] 57))):=hb0;clear hr hb0;go_enter Tryd.func29,Tryd.ntmps29;go_wp2_with fail
 refine (qhm a n c d _ r1 hn).mono ?_;rintro e y ⟨rfl,ho,hb⟩;obtain⟨A0,Z0,O0⟩:=k_alloc3 w (.cells #[.string t,.slice a n c,.int .i64 q] 55) (.cells #[.string ByteArray.empty,.slice none 0 0,.int .i64 0] 57) (.cells #[.string t,.slice none 0 0,.int .i64 0] 57);replace A0:=qbd hb A0;replace Z0:=qbd hb Z0;replace O0:=qbd hb O0;have HB:Hid (Below w.heap.size w y):=HB0.out.trans (hb.mono HB0.out.size);have e3:(((w.alloc (.cells #[.string t,.slice a n c,.int .i64 q] 55)).alloc (.cells #[.string ByteArray.empty,.slice none 0 0,.int .i64 0] 57)).alloc (.cells #[.string t,.slice none 0 0,.int .i64 0] 57)).heap.size=w.heap.size+1+1+1:=by simp
 rw[e3] at ho ⊢;have HO:Hid (Own y (w.heap.size+1+1+1) (some ⟨w.heap.size+1+1+1,0,none⟩) n n d):=ho;clear ho hb HB0 r1 e3;have a2:y.cell? ⟨w.heap.size,2,none⟩ = some (.int .i64 q):=qal A0 2;have b0:y.cell? ⟨w.heap.size+1+1,0,none⟩ = some (.string t):=qal O0 0;have b1:y.cell? ⟨w.heap.size+1+1,1,none⟩ = some (.slice none 0 0):=qal O0 1;have b2:y.cell? ⟨w.heap.size+1+1,2,none⟩ = some (.int .i64 0):=qal O0 2;have f1:y.frozen? ⟨w.heap.size+1+1,1,none⟩ = false:=Lib.frozen_of_heap O0 1;have f2:y.frozen? ⟨w.heap.size+1+1,2,none⟩ = false:=Lib.frozen_of_heap O0 2;have z0:y.cell? ⟨w.heap.size+1,0,none⟩ = some (.string ByteArray.empty):=qal Z0 0;have z1:y.cell? ⟨w.heap.size+1,1,none⟩ = some (.slice none 0 0):=qal Z0 1;have z2:y.cell? ⟨w.heap.size+1,2,none⟩ = some (.int .i64 0):=qal Z0 2;have g0:y.frozen? ⟨w.heap.size+1,0,none⟩ = false:=Lib.frozen_of_heap Z0 0;have g1:y.frozen? ⟨w.heap.size+1,1,none⟩ = false:=Lib.frozen_of_heap Z0 1;have g2:y.frozen? ⟨w.heap.size+1,2,none⟩ = false:=Lib.frozen_of_heap Z0 2;have ne1:w.heap.size≠w.heap.size+1+1:=by omega
 have ne2:w.heap.size+1≠w.heap.size+1+1:=by omega
 have HZ:Hid (y.heap[w.heap.size+1]? = some (.cells #[.string ByteArray.empty,.slice none 0 0,.int .i64 0] 57)):=Z0;clear A0 Z0 O0;go_wp2;refine k_ret (x:=⟨t,some ⟨w.heap.size+1+1+1,0,none⟩,n,n,q⟩) rfl rfl (k_set3 (k_seto (k_seto HZ.out (by omega)) (by omega))) rfl ⟨_,rfl,?_,?_⟩
 ·have h0:(w.heap.size+1+1+1)<y.heap.size:=(HO.out.block rfl).2;have o1:=HO.out.grown (qde y (w.heap.size+1+1) 1 (.slice (some ⟨w.heap.size+1+1+1,0,none⟩) n n)) (fun a e=>by cases e;simp<;>omega);have o2:=o1.grown (qde _ (w.heap.size+1+1) 2 (.int .i64 q)) (fun a e=>by cases e;simp<;>omega);have o3:=o2.grown (qde _ (w.heap.size+1) 0 (.string t)) (fun a e=>by cases e;simp<;>omega);have o4:=o3.grown (qde _ (w.heap.size+1) 1 (.slice (some ⟨w.heap.size+1+1+1,0,none⟩) n n)) (fun a e=>by cases e;simp<;>omega);have o5:=o4.grown (qde _ (w.heap.size+1) 2 (.int .i64 q)) (fun a e=>by cases e;simp<;>omega);exact o5.mono (by omega)
 ·exact ((((HB.out.setCell (by show _≤w.heap.size+1+1;omega) _).setCell (by show _≤w.heap.size+1+1;omega) _).setCell (by show _≤w.heap.size+1;omega) _).setCell (by show _≤w.heap.size+1;omega) _).setCell (by show _≤w.heap.size+1;omega) _
theorem k_maken {ops:Array Oper} {rest:List Oper} {o:Oper} {a:Act} {Q:Exit→Act→World→Prop} (w:World) (hgd:o.guard=none) (l c:Operand) (hop:o.op=Op.makeSlice 25 l c)
  (C:Int) (n:Nat) (hl:a.eval l=.int .i64 C) (hc:a.eval c=.int .i64 C) (hC:C=(n:Int)) (hb:n≤1099511627776)
  (h:∀w',KOwn w' w.heap.size (some ⟨w.heap.size,0,none⟩) n n (List.replicate n (Kt.zero,[]))→Below w.heap.size w w'→wpList Tryd.prog ops Q rest (a.put o.dst (.slice (some ⟨w.heap.size,0,none⟩) n n)) w') :
  wpList Tryd.prog ops Q (o :: rest) a w:=by
 refine g_make ktOk w hgd l c hop C n hl hc hC (by unfold maxLen;omega) (by show 48*n≤_;omega) fun w' hr hb'=>h w' ⟨?_,?_,?_⟩ hb'
 ·have e:kts (List.replicate n (Kt.zero,[]))=List.replicate n Kt.zero:=by simp[kts]
  rw[e];exact hr
 ·intro x hx;obtain rfl:=(List.mem_replicate.1 hx).2;exact⟨rfl,World.ownsRow_nil _ _ _ _⟩
 ·refine List.pairwise_iff_getElem.2 fun i j hi hj _ k h1=>?_
  simp only[List.getElem_replicate] at h1;obtain⟨a,e,_⟩:=h1;exact absurd e (by simp[Kt.zero])
def KDone (w:World) (B g n:Nat) (l:KtL) (k:Nat):Prop:=∃ds:KtL,ds.length=k∧kvs ds=kvs (l.take k)∧(∀i,i<k→(kf ds i).n=(kf l i).n)∧KOwn w B (some ⟨g,0,none⟩) n n (ds++List.replicate (n-k) (Kt.zero,[]))
theorem KDone.below {w w':World} {B g n k:Nat} {l:KtL} (h:KDone w B g n l k) (hb:Below w.heap.size w w'):KDone w' B g n l k:=by
 obtain⟨ds,h1,h2,h4,h3⟩:=h;exact⟨ds,h1,h2,h4,h3.below hb⟩
theorem KDone.cells {w:World} {B g n k:Nat} {l:KtL} (h:KDone w B g n l k) (hk:k<n):w.cell? ⟨g,k*3,none⟩ = some (.string ByteArray.empty)∧w.cell? ⟨g,k*3+1,none⟩ = some (.slice none 0 0)∧w.cell? ⟨g,k*3+2,none⟩ = some (.int .i64 0)∧∀j,w.frozen? ⟨g,j,none⟩ = false:=by
 obtain⟨ds,h1,h2,h4,h3⟩:=h;obtain⟨b,off,e,c0,c1,c2,_⟩:=h3.rd.get k hk;simp only[Option.some.injEq,Addr.mk.injEq,and_true] at e;obtain⟨rfl,rfl⟩:=e;have e:kf (ds++List.replicate (n-k) (Kt.zero,[])) k=Kt.zero:=by
  have:(ds++List.replicate (n-k) (Kt.zero,([]:List UInt8)))[k]? = some (Kt.zero,[]):=by
   rw[List.getElem?_append_right (by omega),List.getElem?_replicate,if_pos (by omega)]
  simp[kf,List.getD_eq_getElem?_getD,this]
 rw[e] at c0 c1 c2;rw[Nat.zero_add] at c0 c1 c2;exact⟨c0,c1,c2,fun j=>h3.row.froz j⟩
theorem qhe (ds:KtL) (x:Kt×List UInt8) (i:Nat) (h:ds.length=i):kf (ds++[x]) i=x.1:=by
 have:(ds++[x])[i]? = some x:=by
  rw[List.getElem?_append_right (by omega),h,Nat.sub_self];rfl
 simp[kf,List.getD_eq_getElem?_getD,this]
theorem kf_app_lt (ds:KtL) (x:Kt×List UInt8) (i:Nat) (h:i<ds.length):kf (ds++[x]) i=kf ds i:=by
 simp[kf,List.getD_eq_getElem?_getD,List.getElem?_append_left h]
theorem KDone.step {w0 w:World} {B g n k:Nat} {l:KtL} (h:KDone w0 B g n l k) (hb:Below w0.heap.size w0 w) (hB:B≤w0.heap.size) (hk:k<n) (hl:l.length=n) (q:Nat) (hu:Own w w0.heap.size (some ⟨q,0,none⟩) (kf l k).n (kf l k).n (kd l k)) :
  KDone (((w.setCell ⟨g,k*3,none⟩ (.string (kf l k).t)).setCell ⟨g,k*3+1,none⟩ (.slice (some ⟨q,0,none⟩) (kf l k).n (kf l k).n)).setCell ⟨g,k*3+2,none⟩ (.int .i64 (kf l k).q)) B g n l (k+1) ∧
  w.grownBy (((w.setCell ⟨g,k*3,none⟩ (.string (kf l k).t)).setCell ⟨g,k*3+1,none⟩ (.slice (some ⟨q,0,none⟩) (kf l k).n (kf l k).n)).setCell ⟨g,k*3+2,none⟩ (.int .i64 (kf l k).q)) (some g):=by
 obtain⟨ds,h1,h2,h4,h3⟩:=h;obtain⟨p,hg⟩:=(h3.below hb).put k hk ⟨(kf l k).t,some ⟨q,0,none⟩,(kf l k).n,(kf l k).n,(kf l k).q⟩ (kd l k) (hu.mono hB) (k_sep h3 hu);refine⟨⟨ds++[(⟨(kf l k).t,some ⟨q,0,none⟩,(kf l k).n,(kf l k).n,(kf l k).q⟩,kd l k)],by simp[h1],?_,?_,?_⟩,hg⟩
 ·rw[qed,h2,qfn l k (by omega)];rfl
 ·intro i hi
  by_cases hik:i<k
  ·rw[←h4 i hik,kf_app_lt _ _ _ (by omega)]
  ·obtain rfl:i=k:=by omega
   rw[qhe _ _ _ h1]
 ·rw[List.set_append_right _ _ (by omega),h1,Nat.sub_self,show n-k=(n-(k+1))+1 from by omega,List.replicate_succ,List.set_cons_zero] at p;rw[List.append_assoc];exact p
theorem to_ltoKeptS (ao:Option Addr) (n cap:Nat) (l:KtL) (w:World) (hr:KRd w ao n cap l) (hn:n≤1099511627776) (hm:∀i,i<n→(kf l i).n≤1099511627776) :
  Calls Tryd.prog 9 #[.slice ao n cap] w fun e w'=>e=.returned (.slice (some ⟨w.heap.size,0,none⟩) n n)∧KDone w' w.heap.size w.heap.size n l n∧Below w.heap.size w w':=by
 have HL:Hid (l.length=n):=hr.len;have HR:Hid (KRd w ao n cap l):=hr;have HM:Hid (∀i,i<n→(kf l i).n≤1099511627776):=hm;clear hr hm;go_enter Tryd.func9,Tryd.ntmps9;go_wp2_with (at_make;refine k_maken _ rfl _ _ rfl _ n rfl rfl rfl (by omega) ?_)
 intro w1 hown hb1;have HS:Hid (KDone w1 w.heap.size w.heap.size n l 0):=⟨[],rfl,rfl,fun i hi=>by omega,by simpa using hown⟩;clear hown;go_wp2
 go_loopw [4] (fun i wr=>∃k:Nat,i=.int .i64 k∧k≤n∧Hid (KDone wr w.heap.size w.heap.size n l k)∧Below w.heap.size w wr) (fun i _=>n-(intOf i).toNat)
 case atStart=>exact⟨0,rfl,Nat.zero_le _,HS,hb1⟩
 case round=>
  obtain⟨k,rfl,hk,ho,hb⟩:=hrel;clear hb1 HS
  by_cases hlt:k<n
  ·obtain⟨b,off,e,hc,hd,hq,hR⟩:=HR.out.get k hlt;subst e;have hck:wr.cell? ⟨b,off+k*3,none⟩ = some (.string (kf l k).t):=(hb.cell (World.block_lt_of_cell? w _ hc)).trans hc;have hdk:wr.cell? ⟨b,off+k*3+1,none⟩ = some (.slice (kf l k).a (kf l k).n (kf l k).c):=(hb.cell (World.block_lt_of_cell? w _ hd)).trans hd;have hqk:wr.cell? ⟨b,off+k*3+2,none⟩ = some (.int .i64 (kf l k).q):=(hb.cell (World.block_lt_of_cell? w _ hq)).trans hq;have hlt':(k:Int)<n:=by omega
   have hRb:=hR.below hb;clear hc hd hq hR;go_wp2_with fail
   refine (to_ltoKept (kf l k).t (kf l k).a (kf l k).n (kf l k).c (kf l k).q (kd l k) wr hRb (HM.out k hlt)).mono ?_;rintro e w2 ⟨g,rfl,hu,hb2⟩;have ho2:=ho.out.below hb2;have hb3:=hb.trans (hb2.mono hb.size);obtain⟨c0,c1,c2,hf⟩:=ho2.cells hlt;have f0:=hf (k*3);have f1:=hf (k*3+1);have f2:=hf (k*3+2);obtain⟨HO,hg⟩:=ho.out.step hb2 hb.size hlt HL.out g hu;have HO':Hid (KDone (((w2.setCell ⟨w.heap.size,k*3,none⟩ (.string (kf l k).t)).setCell ⟨w.heap.size,k*3+1,none⟩ (.slice (some ⟨g,0,none⟩) (kf l k).n (kf l k).n)).setCell ⟨w.heap.size,k*3+2,none⟩ (.int .i64 (kf l k).q)) w.heap.size w.heap.size n l (k+1)):=HO;have HB:Hid (Below w.heap.size w (((w2.setCell ⟨w.heap.size,k*3,none⟩ (.string (kf l k).t)).setCell ⟨w.heap.size,k*3+1,none⟩ (.slice (some ⟨g,0,none⟩) (kf l k).n (kf l k).n)).setCell ⟨w.heap.size,k*3+2,none⟩ (.int .i64 (kf l k).q))):=hb3.grown hg hb3.size (fun j e=>by cases e;exact Nat.le_refl _);clear HO ho ho2 hb hb2 hb3 hg hu hf hRb;go_wp2;go_roundw
   case rel=>exact⟨k+1,by go_num,by omega,HO',HB.out⟩
   case measure=>simp[intOf]<;>omega
  ·have hlt':¬(k:Int)<n:=by omega
   obtain rfl:k=n:=by omega
   go_wp2;go_ret;exact⟨rfl,ho.out,hb⟩
end Go.Proofs.YtpgkbkbhhmfgnaaDoor
namespace Go.Proofs
open Go.Shelf
def Tryd.lays119_ren:Go.Shelf.Ren:=⟨fun | 119=>149 | n=>n,fun | 21=>21 | 4=>4 | n=>n,fun | n=>n⟩
theorem Tryd.lays119:Go.Proofs.Lays.n119 Tryd.prog Tryd.lays119_ren:={
 mixed:=by kernel_rfl
 f119:=Tryd.func149.trans (congrArg some (by kernel_rfl))
 t4:=Tryd.underlying4
 a4:=Tryd.isAgg4
 z4:=Tryd.sizeOf4
 v4:=Tryd.zeroValue4
 t21:=Tryd.underlying21
 a21:=Tryd.isAgg21
 z21:=Tryd.sizeOf21
 v21:=Tryd.zeroValue21 }
def Tryd.lays106_ren:Go.Shelf.Ren:=⟨fun | 106=>60 | 213=>89 | 265=>110 | n=>n,fun | 9=>9 | 3=>3 | n=>n,fun | n=>n⟩
theorem Tryd.lays106:Go.Proofs.Lays.n106 Tryd.prog Tryd.lays106_ren:={
 mixed:=by kernel_rfl
 f106:=Tryd.func60.trans (congrArg some (by kernel_rfl))
 f213:=Tryd.func89.trans (congrArg some (by kernel_rfl))
 f265:=Tryd.func110.trans (congrArg some (by kernel_rfl))
 t3:=Tryd.underlying3
 a3:=Tryd.isAgg3
 z3:=Tryd.sizeOf3
 v3:=Tryd.zeroValue3
 t9:=Tryd.underlying9
 a9:=Tryd.isAgg9
 z9:=Tryd.sizeOf9
 v9:=Tryd.zeroValue9 }
def Tryd.lays137_ren:Go.Shelf.Ren:=⟨fun | 137=>148 | 217=>152 | 266=>159 | n=>n,fun | 9=>9 | 5=>5 | 3=>3 | n=>n,fun | n=>n⟩
theorem Tryd.lays137:Go.Proofs.Lays.n137 Tryd.prog Tryd.lays137_ren:={
 mixed:=by kernel_rfl
 f137:=Tryd.func148.trans (congrArg some (by kernel_rfl))
 f217:=Tryd.func152.trans (congrArg some (by kernel_rfl))
 f266:=Tryd.func159.trans (congrArg some (by kernel_rfl))
 t3:=Tryd.underlying3
 a3:=Tryd.isAgg3
 z3:=Tryd.sizeOf3
 v3:=Tryd.zeroValue3
 t5:=Tryd.underlying5
 a5:=Tryd.isAgg5
 z5:=Tryd.sizeOf5
 v5:=Tryd.zeroValue5
 t9:=Tryd.underlying9
 a9:=Tryd.isAgg9
 z9:=Tryd.sizeOf9
 v9:=Tryd.zeroValue9 }
def Tryd.laysM316_ren:Go.Shelf.Ren:=⟨fun | 316=>102 | n=>n,fun | 9=>9 | 3=>3 | 4=>4 | 37=>29 | 0=>0 | 127=>130 | 5=>5 | n=>n,fun | n=>n⟩
theorem Tryd.laysM316:Go.Proofs.LaysM.n316 Tryd.prog Tryd.laysM316_ren:={
 mixed:=by kernel_rfl
 f316:=Tryd.func102.trans (congrArg some (by kernel_rfl))
 t0:=Tryd.underlying0
 a0:=Tryd.isAgg0
 z0:=Tryd.sizeOf0
 v0:=Tryd.zeroValue0
 t3:=Tryd.underlying3
 a3:=Tryd.isAgg3
 z3:=Tryd.sizeOf3
 v3:=Tryd.zeroValue3
 t4:=Tryd.underlying4
 a4:=Tryd.isAgg4
 z4:=Tryd.sizeOf4
 v4:=Tryd.zeroValue4
 t9:=Tryd.underlying9
 a9:=Tryd.isAgg9
 z9:=Tryd.sizeOf9
 v9:=Tryd.zeroValue9
 t37:=Tryd.underlying29
 a37:=Tryd.isAgg29
 z37:=Tryd.sizeOf29
 v37:=Tryd.zeroValue29
 t127:=Tryd.underlying130
 a127:=Tryd.isAgg130
 z127:=Tryd.sizeOf130
 v127:=Tryd.zeroValue130
 t5:=Tryd.underlying5
 a5:=Tryd.isAgg5
 z5:=Tryd.sizeOf5
 v5:=Tryd.zeroValue5
 i0:=by kernel_rfl
 i3:=by kernel_rfl
 i4:=by kernel_rfl
 i5:=by kernel_rfl
 i9:=by kernel_rfl
 i37:=by kernel_rfl
 i127:=by kernel_rfl }
def Tryd.lays221_ren:Go.Shelf.Ren:=⟨fun | 221=>133 | 268=>146 | 138=>147 | 143=>119 | 195=>156 | 197=>157 | 218=>158 | 219=>139 | 260=>161 | 217=>152 | 225=>151 | 224=>150 | 267=>153 | 266=>159 | 314=>160 | n=>n,fun | 9=>9 | 3=>3 | 31=>39 | 4=>4 | 0=>0 | 105=>175 | 21=>21 | 5=>5 | 46=>128 | 119=>179 | 139=>182 | 138=>181 | 146=>177 | 51=>146 | n=>n,fun | 1=>0 | 3=>1 | 4=>2 | n=>n⟩
theorem Tryd.lays221:Go.Proofs.Lays.n221 Tryd.prog Tryd.lays221_ren:={
 mixed:=by kernel_rfl
 f138:=Tryd.func147.trans (congrArg some (by kernel_rfl))
 f143:=Tryd.func119.trans (congrArg some (by kernel_rfl))
 f195:=Tryd.func156.trans (congrArg some (by kernel_rfl))
 f197:=Tryd.func157.trans (congrArg some (by kernel_rfl))
 f217:=Tryd.func152.trans (congrArg some (by kernel_rfl))
 f218:=Tryd.func158.trans (congrArg some (by kernel_rfl))
 f219:=Tryd.func139.trans (congrArg some (by kernel_rfl))
 f221:=Tryd.func133.trans (congrArg some (by kernel_rfl))
 f224:=Tryd.func150.trans (congrArg some (by kernel_rfl))
 f225:=Tryd.func151.trans (congrArg some (by kernel_rfl))
 f260:=Tryd.func161.trans (congrArg some (by kernel_rfl))
 f266:=Tryd.func159.trans (congrArg some (by kernel_rfl))
 f267:=Tryd.func153.trans (congrArg some (by kernel_rfl))
 f268:=Tryd.func146.trans (congrArg some (by kernel_rfl))
 f314:=Tryd.func160.trans (congrArg some (by kernel_rfl))
 t0:=Tryd.underlying0
 a0:=Tryd.isAgg0
 z0:=Tryd.sizeOf0
 v0:=Tryd.zeroValue0
 t3:=Tryd.underlying3
 a3:=Tryd.isAgg3
 z3:=Tryd.sizeOf3
 v3:=Tryd.zeroValue3
 t4:=Tryd.underlying4
 a4:=Tryd.isAgg4
 z4:=Tryd.sizeOf4
 v4:=Tryd.zeroValue4
 t5:=Tryd.underlying5
 a5:=Tryd.isAgg5
 z5:=Tryd.sizeOf5
 v5:=Tryd.zeroValue5
 t9:=Tryd.underlying9
 a9:=Tryd.isAgg9
 z9:=Tryd.sizeOf9
 v9:=Tryd.zeroValue9
 t21:=Tryd.underlying21
 a21:=Tryd.isAgg21
 z21:=Tryd.sizeOf21
 v21:=Tryd.zeroValue21
 t31:=Tryd.underlying39
 a31:=Tryd.isAgg39
 z31:=Tryd.sizeOf39
 v31:=Tryd.zeroValue39
 t46:=Tryd.underlying128
 a46:=Tryd.isAgg128
 z46:=Tryd.sizeOf128
 v46:=Tryd.zeroValue128
 t51:=Tryd.underlying146
 a51:=Tryd.isAgg146
 z51:=Tryd.sizeOf146
 v51:=Tryd.zeroValue146
 t105:=Tryd.underlying175
 a105:=Tryd.isAgg175
 z105:=Tryd.sizeOf175
 v105:=Tryd.zeroValue175
 t119:=Tryd.underlying179
 a119:=Tryd.isAgg179
 z119:=Tryd.sizeOf179
 t138:=Tryd.underlying181
 a138:=Tryd.isAgg181
 z138:=Tryd.sizeOf181
 v138:=Tryd.zeroValue181
 t139:=Tryd.underlying182
 a139:=Tryd.isAgg182
 z139:=Tryd.sizeOf182
 v139:=Tryd.zeroValue182
 t146:=Tryd.underlying177
 a146:=Tryd.isAgg177
 z146:=Tryd.sizeOf177
 v146:=Tryd.zeroValue177
 g1:=by kernel_rfl
 g3:=by kernel_rfl
 g4:=by kernel_rfl }
def Tryd.lays152_ren:Go.Shelf.Ren:=⟨fun | 152=>134 | 137=>148 | 119=>149 | 224=>150 | 225=>151 | 217=>152 | 266=>159 | n=>n,fun | 9=>9 | 21=>21 | 3=>3 | 4=>4 | 5=>5 | 0=>0 | 46=>128 | n=>n,fun | n=>n⟩
theorem Tryd.lays152:Go.Proofs.Lays.n152 Tryd.prog Tryd.lays152_ren:={
 mixed:=by kernel_rfl
 f119:=Tryd.func149.trans (congrArg some (by kernel_rfl))
 f137:=Tryd.func148.trans (congrArg some (by kernel_rfl))
 f152:=Tryd.func134.trans (congrArg some (by kernel_rfl))
 f217:=Tryd.func152.trans (congrArg some (by kernel_rfl))
 f224:=Tryd.func150.trans (congrArg some (by kernel_rfl))
 f225:=Tryd.func151.trans (congrArg some (by kernel_rfl))
 f266:=Tryd.func159.trans (congrArg some (by kernel_rfl))
 t0:=Tryd.underlying0
 a0:=Tryd.isAgg0
 z0:=Tryd.sizeOf0
 v0:=Tryd.zeroValue0
 t3:=Tryd.underlying3
 a3:=Tryd.isAgg3
 z3:=Tryd.sizeOf3
 v3:=Tryd.zeroValue3
 t4:=Tryd.underlying4
 a4:=Tryd.isAgg4
 z4:=Tryd.sizeOf4
 v4:=Tryd.zeroValue4
 t5:=Tryd.underlying5
 a5:=Tryd.isAgg5
 z5:=Tryd.sizeOf5
 v5:=Tryd.zeroValue5
 t9:=Tryd.underlying9
 a9:=Tryd.isAgg9
 z9:=Tryd.sizeOf9
 v9:=Tryd.zeroValue9
 t21:=Tryd.underlying21
 a21:=Tryd.isAgg21
 z21:=Tryd.sizeOf21
 v21:=Tryd.zeroValue21
 t46:=Tryd.underlying128
 a46:=Tryd.isAgg128
 z46:=Tryd.sizeOf128
 v46:=Tryd.zeroValue128 }
def Tryd.lays226_ren:Go.Shelf.Ren:=⟨fun | 226=>135 | n=>n,fun | 3=>3 | 4=>4 | n=>n,fun | n=>n⟩
theorem Tryd.lays226:Go.Proofs.Lays.n226 Tryd.prog Tryd.lays226_ren:={
 mixed:=by kernel_rfl
 f226:=Tryd.func135.trans (congrArg some (by kernel_rfl))
 t3:=Tryd.underlying3
 a3:=Tryd.isAgg3
 z3:=Tryd.sizeOf3
 v3:=Tryd.zeroValue3
 t4:=Tryd.underlying4
 a4:=Tryd.isAgg4
 z4:=Tryd.sizeOf4
 v4:=Tryd.zeroValue4 }
def Tryd.lays153_ren:Go.Shelf.Ren:=⟨fun | 153=>116 | 152=>134 | 226=>135 | 227=>136 | 228=>137 | 137=>148 | 119=>149 | 224=>150 | 225=>151 | 217=>152 | 266=>159 | n=>n,fun | 9=>9 | 3=>3 | 4=>4 | 5=>5 | 21=>21 | 117=>153 | 116=>152 | 0=>0 | 46=>128 | 124=>169 | n=>n,fun | n=>n⟩
theorem Tryd.lays153:Go.Proofs.Lays.n153 Tryd.prog Tryd.lays153_ren:={
 mixed:=by kernel_rfl
 f119:=Tryd.func149.trans (congrArg some (by kernel_rfl))
 f137:=Tryd.func148.trans (congrArg some (by kernel_rfl))
 f152:=Tryd.func134.trans (congrArg some (by kernel_rfl))
 f153:=Tryd.func116.trans (congrArg some (by kernel_rfl))
 f217:=Tryd.func152.trans (congrArg some (by kernel_rfl))
 f224:=Tryd.func150.trans (congrArg some (by kernel_rfl))
 f225:=Tryd.func151.trans (congrArg some (by kernel_rfl))
 f226:=Tryd.func135.trans (congrArg some (by kernel_rfl))
 f227:=Tryd.func136.trans (congrArg some (by kernel_rfl))
 f228:=Tryd.func137.trans (congrArg some (by kernel_rfl))
 f266:=Tryd.func159.trans (congrArg some (by kernel_rfl))
 t0:=Tryd.underlying0
 a0:=Tryd.isAgg0
 z0:=Tryd.sizeOf0
 v0:=Tryd.zeroValue0
 t3:=Tryd.underlying3
 a3:=Tryd.isAgg3
 z3:=Tryd.sizeOf3
 v3:=Tryd.zeroValue3
 t4:=Tryd.underlying4
 a4:=Tryd.isAgg4
 z4:=Tryd.sizeOf4
 v4:=Tryd.zeroValue4
 t5:=Tryd.underlying5
 a5:=Tryd.isAgg5
 z5:=Tryd.sizeOf5
 v5:=Tryd.zeroValue5
 t9:=Tryd.underlying9
 a9:=Tryd.isAgg9
 z9:=Tryd.sizeOf9
 v9:=Tryd.zeroValue9
 t21:=Tryd.underlying21
 a21:=Tryd.isAgg21
 z21:=Tryd.sizeOf21
 v21:=Tryd.zeroValue21
 t46:=Tryd.underlying128
 a46:=Tryd.isAgg128
 z46:=Tryd.sizeOf128
 v46:=Tryd.zeroValue128
 t116:=Tryd.underlying152
 a116:=Tryd.isAgg152
 z116:=Tryd.sizeOf152
 t117:=Tryd.underlying153
 a117:=Tryd.isAgg153
 z117:=Tryd.sizeOf153
 v117:=Tryd.zeroValue153
 t124:=Tryd.underlying169
 a124:=Tryd.isAgg169
 z124:=Tryd.sizeOf169
 v124:=Tryd.zeroValue169 }
end Go.Proofs
