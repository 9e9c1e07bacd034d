/- Lemmas. -/
import Derived.ProofKit
import Derived.OpenShut
import Derived.ShutString
import Derived.ChangeOld
import Derived.Below
import Derived.Deep.Strs
import Derived.Deep.SlicePairs
import Derived.Test.YtpjkbgdkligpdaaGreatW11
set_option linter.unusedVariables false
set_option linter.unusedSimpArgs false
set_option maxRecDepth 100000
set_option maxHeartbeats 20000000
namespace Go.Proofs.YtpjkbgdkligpdaaGreat
open Go.ChangeShapes Go.WideShapes Go.ChangeAt Go.RowKit
open Go.ChangeMaps (open_string shut_string)

theorem qaz {cs:List Value} {i:Nat} {v:Value} (h:(cs.drop i).take 1 = [v]):cs[i]? = some v:=by
 have:=congrArg (fun l=>l[0]?) h
 simpa[List.getElem?_take] using this
theorem IRd.of_ints {w:World} {x:Addr} {len cap:Nat} {zs:List Int} (hl:len≤cap) (hm:cap≤maxLen) (hz:len≤zs.length)
  (hcell:∀i,i<zs.length→w.cell? (x.add i)=some (.int .i64 (zs.getD i 0))):IRd w (some x) len cap (zs.take len):=by
 refine⟨⟨by simp;omega,fun i hi=>?_⟩,hl,hm,fun h=>by simp at h⟩;obtain⟨b,off,spot⟩:=x;have hc0:=hcell 0 (by omega);have hspot:spot=none:=by simpa[Addr.add] using World.cell?_spot hc0
 subst hspot;have hc:=hcell i (by omega);refine⟨b,off,rfl,?_⟩;rw[Addr.add_lit] at hc;rw[hc];simp[nt,List.getD_eq_getElem?_getD,List.getElem?_take,hi]
def strVOf:Value→ByteArray | .string s=>s | _=>ByteArray.empty
section
variable {H : Type} {enc : TypeId × Value → H} {W : World} {fuel : Nat} {cs : List Value} {x : DataW H × List MemPlace}
theorem qij (h:DataW.trod enc Tryz.prog W 0 (fun _=>true) true fuel 22 cs=some x):∃ao n cap l,cs = [.slice ao n cap]∧RdIn W ao n cap l:=by
 rcases open_ints Tryz.underlying22 Tryz.underlying5 (by kernel_rfl) h with ⟨hcs,_⟩ | ⟨y,l,c,zs,hcs,_,hl,hm,hz,_,hcell,hwz⟩
 ·exact⟨_,_,_,[],hcs,RdIn.nil _⟩
 ·obtain⟨r,hr⟩:=RdIn.of_ints hl hm (by simpa using hz) hcell hwz;exact⟨_,_,_,r,hcs,hr⟩
theorem open_nums (h:DataW.trod enc Tryz.prog W 0 (fun _=>true) true fuel 25 cs=some x):∃ao n cap l,cs = [.slice ao n cap]∧IRd W ao n cap l:=by
 rcases open_ints Tryz.underlying25 Tryz.underlying3 (by kernel_rfl) h with ⟨hcs,_⟩ | ⟨y,l,c,zs,hcs,_,hl,hm,hz,_,hcell,hwz⟩
 ·exact⟨_,_,_,[],hcs,IRd.nil _⟩
 ·exact⟨_,_,_,_,hcs,IRd.of_ints hl hm (by rw[hz];simpa using hl) hcell⟩
theorem open_texts (h:DataW.trod enc Tryz.prog W 0 (fun _=>true) true fuel 24 cs=some x):∃ao n cap l,cs = [.slice ao n cap]∧SRd W ao n cap l∧∀s∈l,s.size≤maxLen:=by
 rcases Go.Deep.open_strs Tryz.underlying24 Tryz.underlying9 (by kernel_rfl) h with ⟨hcs,_⟩ | ⟨y,l,c,m,Sx,hcs,_,hl,hm,hmm,_,hcell⟩
 ·exact⟨_,_,_,[],hcs,SRd.nil _,fun s hs=>by simp at hs⟩
 ·obtain⟨r,hr,hs⟩:=SRd.of_cells hl hm (by rw[hmm];split<;>omega) hcell;exact⟨_,_,_,r,hcs,hr,hs⟩
theorem open_wants (h:DataW.trod enc Tryz.prog W 0 (fun _=>true) true fuel 23 cs=some x):∃ao n cap l,cs = [.slice ao n cap]∧WRd W ao n cap l∧∀y∈l,y.1.size≤maxLen:=by
 rcases Go.Deep.open_slice_pairs Tryz.underlying23 Tryz.underlying73 (by kernel_rfl) rfl rfl (by kernel_rfl) (by kernel_rfl) h with ⟨hcs,_⟩ | ⟨a,len,cap,m,n,V0,V1,D0,D1,P0,P1,hcs,_,hl,hm,hmm,_,hc⟩
 ·exact⟨none,0,0,[],hcs,⟨⟨rfl,fun i hi=>by omega⟩,Nat.le_refl _,Nat.zero_le _,fun _=>rfl⟩,fun y hy=>by simp at hy⟩
 ·have hlm:len≤m:=by rw[hmm];simpa using hl
  have hv:∀i,i<m→V0 i=.string (strVOf (V0 i))∧V1 i=.int .i64 (intOf (V1 i))∧(strVOf (V0 i)).size≤maxLen:=by
   intro i hi;obtain⟨_,_,t0,t1⟩:=hc i hi;obtain⟨s,e0,_,hs⟩:=DataW.trod_string Tryz.underlying9 t0;obtain⟨q,e1,_,_⟩:=DataW.trod_int Tryz.underlying3 t1;simp only[List.cons.injEq,and_true] at e0 e1;rw[e0,e1];exact⟨rfl,rfl,hs⟩
  refine⟨some a,len,cap,(List.range len).map fun i=>(strVOf (V0 i),intOf (V1 i)),hcs,⟨⟨by simp,fun i hi=>?_⟩,hl,hm,fun h=>by simp at h⟩,fun y hy=>?_⟩
  ·obtain⟨b,off,spot⟩:=a;have hc0:=(hc 0 (by omega)).1;have hspot:spot=none:=by simpa[Addr.add] using World.cell?_spot hc0
   subst hspot;obtain⟨k0,k1,_,_⟩:=hc i (by omega);obtain⟨e0,e1,_⟩:=hv i (by omega);rw[Addr.add_lit] at k0 k1;refine⟨b,off,rfl,?_,?_⟩
   ·rw[k0,e0];simp[wf,List.getD_eq_getElem?_getD,List.getElem?_map,List.getElem?_range hi,strVOf]
   ·rw[Nat.add_assoc,k1,e1];simp[wq,List.getD_eq_getElem?_getD,List.getElem?_map,List.getElem?_range hi,intOf]
  ·simp only[List.mem_map,List.mem_range] at hy;obtain⟨i,hi,rfl⟩:=hy;exact (hv i (by omega)).2.2
theorem qoa {ca:Array Value} {fuel:Nat} {z:DataW H×List MemPlace} (h25:ca.size=25) (hf:DataW.trod enc Tryz.prog W 0 (fun _=>true) true fuel 27 ca.toList=some z) :
  ∃(p:Pk) (dd:Pd),ca=p.cells∧PRd W p dd∧Pok p dd:=by
 obtain⟨xs,n,_,_,_,hlen,hfs⟩:=DataW.trod_struct Tryz.underlying27 hf;have hxs:xs.length=25:=hlen;have hx:∀i,i<25→∃y,xs[i]? = some y:=fun i hi=>⟨_,List.getElem?_eq_getElem (by omega)⟩
 clear hf hlen;obtain⟨y0,hy0⟩:=hx 0 (by decide);have q0:DataW.trod enc Tryz.prog W 0 (fun _=>true) true n 3 ((ca.toList.drop 0).take 1)=some y0:=(hfs 0 _ rfl).trans hy0;obtain⟨f0,g0,_,_⟩:=DataW.trod_int Tryz.underlying3 q0;replace g0:=qaz g0;clear q0 hy0;obtain⟨y1,hy1⟩:=hx 1 (by decide);have q1:DataW.trod enc Tryz.prog W 0 (fun _=>true) true n 4 ((ca.toList.drop 1).take 1)=some y1:=(hfs 1 _ rfl).trans hy1;obtain⟨f1,g1,_⟩:=DataW.trod_bool Tryz.underlying4 q1;replace g1:=qaz g1;clear q1 hy1;obtain⟨y2,hy2⟩:=hx 2 (by decide);have q2:DataW.trod enc Tryz.prog W 0 (fun _=>true) true n 3 ((ca.toList.drop 2).take 1)=some y2:=(hfs 2 _ rfl).trans hy2;obtain⟨f2,g2,_,_⟩:=DataW.trod_int Tryz.underlying3 q2;replace g2:=qaz g2;clear q2 hy2;obtain⟨y3,hy3⟩:=hx 3 (by decide);have q3:DataW.trod enc Tryz.prog W 0 (fun _=>true) true n 4 ((ca.toList.drop 3).take 1)=some y3:=(hfs 3 _ rfl).trans hy3;obtain⟨f3,g3,_⟩:=DataW.trod_bool Tryz.underlying4 q3;replace g3:=qaz g3;clear q3 hy3;obtain⟨y4,hy4⟩:=hx 4 (by decide);have q4:DataW.trod enc Tryz.prog W 0 (fun _=>true) true n 3 ((ca.toList.drop 4).take 1)=some y4:=(hfs 4 _ rfl).trans hy4;obtain⟨f4,g4,_,_⟩:=DataW.trod_int Tryz.underlying3 q4;replace g4:=qaz g4;clear q4 hy4;obtain⟨y5,hy5⟩:=hx 5 (by decide);have q5:DataW.trod enc Tryz.prog W 0 (fun _=>true) true n 9 ((ca.toList.drop 5).take 1)=some y5:=(hfs 5 _ rfl).trans hy5;obtain⟨f5,g5,_,z5⟩:=DataW.trod_string Tryz.underlying9 q5;replace g5:=qaz g5;clear q5 hy5;obtain⟨y6,hy6⟩:=hx 6 (by decide)
 have q6:DataW.trod enc Tryz.prog W 0 (fun _=>true) true n 22 ((ca.toList.drop 6).take 1)=some y6:=(hfs 6 _ rfl).trans hy6;obtain⟨A6,N6,C6,L6,g6,r6⟩:=qij q6;replace g6:=qaz g6;clear q6 hy6;obtain⟨y7,hy7⟩:=hx 7 (by decide);have q7:DataW.trod enc Tryz.prog W 0 (fun _=>true) true n 9 ((ca.toList.drop 7).take 1)=some y7:=(hfs 7 _ rfl).trans hy7;obtain⟨f7,g7,_,z7⟩:=DataW.trod_string Tryz.underlying9 q7;replace g7:=qaz g7;clear q7 hy7;obtain⟨y8,hy8⟩:=hx 8 (by decide);have q8:DataW.trod enc Tryz.prog W 0 (fun _=>true) true n 3 ((ca.toList.drop 8).take 1)=some y8:=(hfs 8 _ rfl).trans hy8;obtain⟨f8,g8,_,_⟩:=DataW.trod_int Tryz.underlying3 q8;replace g8:=qaz g8;clear q8 hy8;obtain⟨y9,hy9⟩:=hx 9 (by decide);have q9:DataW.trod enc Tryz.prog W 0 (fun _=>true) true n 4 ((ca.toList.drop 9).take 1)=some y9:=(hfs 9 _ rfl).trans hy9;obtain⟨f9,g9,_⟩:=DataW.trod_bool Tryz.underlying4 q9;replace g9:=qaz g9;clear q9 hy9;obtain⟨y10,hy10⟩:=hx 10 (by decide);have q10:DataW.trod enc Tryz.prog W 0 (fun _=>true) true n 3 ((ca.toList.drop 10).take 1)=some y10:=(hfs 10 _ rfl).trans hy10;obtain⟨f10,g10,_,_⟩:=DataW.trod_int Tryz.underlying3 q10;replace g10:=qaz g10;clear q10 hy10;obtain⟨y11,hy11⟩:=hx 11 (by decide);have q11:DataW.trod enc Tryz.prog W 0 (fun _=>true) true n 4 ((ca.toList.drop 11).take 1)=some y11:=(hfs 11 _ rfl).trans hy11;obtain⟨f11,g11,_⟩:=DataW.trod_bool Tryz.underlying4 q11;replace g11:=qaz g11;clear q11 hy11;obtain⟨y12,hy12⟩:=hx 12 (by decide)
 have q12:DataW.trod enc Tryz.prog W 0 (fun _=>true) true n 9 ((ca.toList.drop 12).take 1)=some y12:=(hfs 12 _ rfl).trans hy12;obtain⟨f12,g12,_,z12⟩:=DataW.trod_string Tryz.underlying9 q12;replace g12:=qaz g12;clear q12 hy12;obtain⟨y13,hy13⟩:=hx 13 (by decide);have q13:DataW.trod enc Tryz.prog W 0 (fun _=>true) true n 22 ((ca.toList.drop 13).take 1)=some y13:=(hfs 13 _ rfl).trans hy13;obtain⟨A13,N13,C13,L13,g13,r13⟩:=qij q13;replace g13:=qaz g13;clear q13 hy13;obtain⟨y14,hy14⟩:=hx 14 (by decide);have q14:DataW.trod enc Tryz.prog W 0 (fun _=>true) true n 3 ((ca.toList.drop 14).take 1)=some y14:=(hfs 14 _ rfl).trans hy14;obtain⟨f14,g14,_,_⟩:=DataW.trod_int Tryz.underlying3 q14;replace g14:=qaz g14;clear q14 hy14;obtain⟨y15,hy15⟩:=hx 15 (by decide);have q15:DataW.trod enc Tryz.prog W 0 (fun _=>true) true n 4 ((ca.toList.drop 15).take 1)=some y15:=(hfs 15 _ rfl).trans hy15;obtain⟨f15,g15,_⟩:=DataW.trod_bool Tryz.underlying4 q15;replace g15:=qaz g15;clear q15 hy15;obtain⟨y16,hy16⟩:=hx 16 (by decide);have q16:DataW.trod enc Tryz.prog W 0 (fun _=>true) true n 4 ((ca.toList.drop 16).take 1)=some y16:=(hfs 16 _ rfl).trans hy16;obtain⟨f16,g16,_⟩:=DataW.trod_bool Tryz.underlying4 q16;replace g16:=qaz g16;clear q16 hy16;obtain⟨y17,hy17⟩:=hx 17 (by decide);have q17:DataW.trod enc Tryz.prog W 0 (fun _=>true) true n 9 ((ca.toList.drop 17).take 1)=some y17:=(hfs 17 _ rfl).trans hy17;obtain⟨f17,g17,_,z17⟩:=DataW.trod_string Tryz.underlying9 q17;replace g17:=qaz g17;clear q17 hy17
 obtain⟨y18,hy18⟩:=hx 18 (by decide);have q18:DataW.trod enc Tryz.prog W 0 (fun _=>true) true n 4 ((ca.toList.drop 18).take 1)=some y18:=(hfs 18 _ rfl).trans hy18;obtain⟨f18,g18,_⟩:=DataW.trod_bool Tryz.underlying4 q18;replace g18:=qaz g18;clear q18 hy18;obtain⟨y19,hy19⟩:=hx 19 (by decide);have q19:DataW.trod enc Tryz.prog W 0 (fun _=>true) true n 22 ((ca.toList.drop 19).take 1)=some y19:=(hfs 19 _ rfl).trans hy19;obtain⟨A19,N19,C19,L19,g19,r19⟩:=qij q19;replace g19:=qaz g19;clear q19 hy19;obtain⟨y20,hy20⟩:=hx 20 (by decide);have q20:DataW.trod enc Tryz.prog W 0 (fun _=>true) true n 3 ((ca.toList.drop 20).take 1)=some y20:=(hfs 20 _ rfl).trans hy20;obtain⟨f20,g20,_,_⟩:=DataW.trod_int Tryz.underlying3 q20;replace g20:=qaz g20;clear q20 hy20;obtain⟨y21,hy21⟩:=hx 21 (by decide);have q21:DataW.trod enc Tryz.prog W 0 (fun _=>true) true n 4 ((ca.toList.drop 21).take 1)=some y21:=(hfs 21 _ rfl).trans hy21;obtain⟨f21,g21,_⟩:=DataW.trod_bool Tryz.underlying4 q21;replace g21:=qaz g21;clear q21 hy21;obtain⟨y22,hy22⟩:=hx 22 (by decide);have q22:DataW.trod enc Tryz.prog W 0 (fun _=>true) true n 23 ((ca.toList.drop 22).take 1)=some y22:=(hfs 22 _ rfl).trans hy22;obtain⟨A22,N22,C22,L22,g22,r22,z22⟩:=open_wants q22;replace g22:=qaz g22;clear q22 hy22;obtain⟨y23,hy23⟩:=hx 23 (by decide);have q23:DataW.trod enc Tryz.prog W 0 (fun _=>true) true n 24 ((ca.toList.drop 23).take 1)=some y23:=(hfs 23 _ rfl).trans hy23;obtain⟨A23,N23,C23,L23,g23,r23,z23⟩:=open_texts q23;replace g23:=qaz g23
 clear q23 hy23;obtain⟨y24,hy24⟩:=hx 24 (by decide);have q24:DataW.trod enc Tryz.prog W 0 (fun _=>true) true n 25 ((ca.toList.drop 24).take 1)=some y24:=(hfs 24 _ rfl).trans hy24;obtain⟨A24,N24,C24,L24,g24,r24⟩:=open_nums q24;replace g24:=qaz g24;clear q24 hy24;clear hfs hx;refine⟨⟨f0,f1,f2,f3,f4,f5,⟨A6,N6,C6⟩,f7,f8,f9,f10,f11,f12,⟨A13,N13,C13⟩,f14,f15,f16,f17,f18,⟨A19,N19,C19⟩,f20,f21,⟨A22,N22,C22⟩,⟨A23,N23,C23⟩,⟨A24,N24,C24⟩⟩,⟨L6,L13,L19,L22,L23,L24⟩,?_,⟨r6,r13,r19,r22,r23,r24⟩,⟨z5,z7,z12,z17,z22,z23⟩⟩;apply Array.ext_getElem?
 intro i;simp only[Array.getElem?_toList] at *
 by_cases hi:i<25
 ·have:i=0∨i=1∨i=2∨i=3∨i=4∨i=5∨i=6∨i=7∨i=8∨i=9∨i=10∨i=11∨i=12∨i=13∨i=14∨i=15∨i=16∨i=17∨i=18∨i=19∨i=20∨i=21∨i=22∨i=23∨i=24:=by omega
  rcases this with rfl | rfl | rfl | rfl | rfl | rfl | rfl | rfl | rfl | rfl | rfl | rfl | rfl | rfl | rfl | rfl | rfl | rfl | rfl | rfl | rfl | rfl | rfl | rfl | rfl
  ·exact g0
  ·exact g1
  ·exact g2
  ·exact g3
  ·exact g4
  ·exact g5
  ·exact g6
  ·exact g7
  ·exact g8
  ·exact g9
  ·exact g10
  ·exact g11
  ·exact g12
  ·exact g13
  ·exact g14
  ·exact g15
  ·exact g16
  ·exact g17
  ·exact g18
  ·exact g19
  ·exact g20
  ·exact g21
  ·exact g22
  ·exact g23
  ·exact g24
 ·rw[Array.getElem?_eq_none (by omega),Array.getElem?_eq_none (by rw[Pk.csize];omega)]
end
open Go.RowKit

def setAt:List Value→Nat→List Value→List Value
 |xs,_,[]=>xs
 |xs,o,v :: r=>setAt (xs.set o v) (o+1) r
theorem setAt_mid (A M C vs:List Value) (h:M.length=vs.length):setAt (A++(M++C)) A.length vs=A++(vs++C):=by
 induction vs generalizing A M with
 |nil=>
  obtain rfl:M = []:=List.eq_nil_of_length_eq_zero h;rfl
 |cons v r ih=>
  match M,h with
  |m :: M',h=>
   have h':M'.length=r.length:=by simpa using h
   show setAt ((A++(m :: (M'++C))).set A.length v) (A.length+1) r=_;rw[List.set_append_right _ _ (Nat.le_refl _),Nat.sub_self,List.set_cons_zero];have e:=ih (A++[v]) M' h';rw[List.length_append,List.length_singleton] at e;rw[show A++v :: (M'++C)=A++[v]++(M'++C) from by simp,e];simp
theorem qhm {B:Nat} {e:TypeId} {s g n cap:Nat} : ∀(vs:List Value) (o:Nat) (w:World) (xs:List Value),w.ownsRow B e s (.slice (some ⟨g,0,none⟩) n cap) n xs→(w.setCells g o vs).ownsRow B e s (.slice (some ⟨g,0,none⟩) n cap) n (setAt xs o vs)∧w.grownBy (w.setCells g o vs) (some g)
 |[],o,w,xs,h=>⟨h,World.grownBy.refl _ _⟩
 |v :: r,o,w,xs,h=>by
  obtain⟨h1,g1⟩:=h.stored o v;obtain⟨h2,g2⟩:=qhm r (o+1) _ _ h1;exact⟨h2,g1.trans g2⟩
section
variable {α : Type} {K : GK α}
theorem GKok.vals_put (H:GKok K) (ps:List α) (i:Nat) (p:α) (h:i<ps.length):setAt (K.vals ps) (i*K.sz) (K.cells p).toList=K.vals (ps.set i p):=by
 have e1:ps=ps.take i++([ps[i]'h]++ps.drop (i+1)):=by
  rw[List.singleton_append,←List.drop_eq_getElem_cons h,List.take_append_drop]
 have e2:ps.set i p=ps.take i++([p]++ps.drop (i+1)):=by
  conv=>lhs;rw[e1]
  rw[List.set_append_right _ _ (by simp;omega)];simp[Nat.min_eq_left (Nat.le_of_lt h)];rw[List.drop_eq_getElem_cons h,List.set_cons_zero]
 have l1:(K.vals (ps.take i)).length=i*K.sz:=by rw[H.vals_length];simp[Nat.min_eq_left (Nat.le_of_lt h)]
 have v1:∀x,K.vals [x]=(K.cells x).toList:=fun x=>by simp[GK.vals]
 rw[e2]
 conv=>lhs;rw[e1]
 rw[←K.vals_app,←K.vals_app,←K.vals_app,←K.vals_app,v1,v1,←l1];exact setAt_mid _ _ _ _ (by rw[H.len,H.len])
theorem GK.Own.put (H:GKok K) {w:World} {B g n cap:Nat} {ps:List α} (h:K.Own w B (some ⟨g,0,none⟩) n cap ps) (i:Nat) (p:α) (hi:i<n) :
  K.Own (w.setCells g (i*K.sz) (K.cells p).toList) B (some ⟨g,0,none⟩) n cap (ps.set i p)∧w.grownBy (w.setCells g (i*K.sz) (K.cells p).toList) (some g):=by
 obtain⟨h1,hg⟩:=qhm (K.cells p).toList (i*K.sz) w _ h.2;rw[H.vals_put ps i p (by rw[h.1];exact hi)] at h1;exact⟨⟨by simpa using h.1,h1⟩,hg⟩
theorem GK.Own.there (H:GKok K) {w:World} {B g n cap:Nat} {ps:List α} (h:K.Own w B (some ⟨g,0,none⟩) n cap ps) (i:Nat) (hi:i<n):w.there g (i*K.sz) K.sz:=by
 intro j hj;refine⟨?_,h.froz _⟩;have hlt:i*K.sz+j<n*K.sz:=by
  have:(i+1)*K.sz≤n*K.sz:=Nat.mul_le_mul_right _ hi;rw[Nat.succ_mul] at this;omega
 rw[h.2.cellAt (i*K.sz+j) hlt,H.vals_at _ i j (by rw[h.1];exact hi) hj];have:j<(K.cells (K.at ps i)).size:=by rw[H.size];exact hj
 rw[Array.getElem?_eq_getElem this];rfl
theorem g_put (H:GKok K) {ops:Array Oper} {rest:List Oper} {o:Oper} {a:Act} {w:World} {Q:Exit→Act→World→Prop} (hgd:o.guard=none) (x y:Operand) (ho:o.op=.store K.ty x y)
  {B g n cap:Nat} {ps:List α} (hown:K.Own w B (some ⟨g,0,none⟩) n cap ps) (i:Nat) (hi:i<n) (p:α) (hx:a.eval x=.pointer (some ⟨g,i*K.sz,none⟩)) (hy:a.eval y=.agg (K.cells p))
  (h:∀w',K.Own w' B (some ⟨g,0,none⟩) n cap (ps.set i p)→w.grownBy w' (some g)→wpList Tryz.prog ops Q rest (a.put o.dst undef) w'):wpList Tryz.prog ops Q (o :: rest) a w:=by
 obtain⟨i0,hi0,hz0,hz1,hz2⟩:=info_parts H.info;obtain⟨h1,hg⟩:=hown.put H i p hi;refine wpList_store_mid hgd K.ty x y ho g (i*K.sz) (K.cells p) hx hy (by rw[H.size];exact hown.there H i hi) (by rw[hi0,H.size];simp[hz1]) ?_ (h _ h1 hg);have:=all_oneCell_toArray (H.one p)
 rwa [Array.toArray_toList] at this
end
theorem zg_idx {P:Program} {T e:TypeId} {sz:Nat} (hT:P.underlying T=some (.slice e)) (hE:P.elem T=e) (hs:∀u:World,(sizeOf e).run P u=.ok sz u) (b off n c k:Nat) (h:k<n) (u:World):(Instr.indexAt T (.slice (some ⟨b,off,none⟩) n c) (.int .i64 (k:Int))).run P u=.ok (.pointer (some ⟨b,off+k*sz,none⟩)) u:=by
 have h1:(k:Int)<n:=by omega
 have h2:(sizeOf (P.elem T)).run P u=.ok sz u:=by rw[hE];exact hs u
 have hu:=run_underlying hT;have e:(if k*sz=0 then (⟨b,off,none⟩ : Addr) else ⟨b,off+k*sz,none⟩) = ⟨b,off+k*sz,none⟩:=by split<;>simp_all
 have h3:=hs u;simp[Instr.indexAt,Instr.index,go_sem,hT,hu,h1,h2,h3,h,Addr.add]
open Go.ChangeMaps (open_string shut_string)

def pkK:GK Pk:=⟨32,42,25,320,Pk.cells,Pk.zero⟩
def pkL:GK Pk:=⟨27,39,25,320,Pk.cells,Pk.zero⟩
theorem pkOk:GKok pkK where
 size:=Pk.csize
 one:=fun x u hu=>by
  have h:u∈x.cells.toList:=hu;exact qmj [x] u (by simpa[pvals] using h)
 pos:=by decide
 und:=Tryz.underlying42
 info:=infoPa
 row:=⟨_,Tryz.underlying32,rfl⟩
theorem plOk:GKok pkL where
 size:=Pk.csize
 one:=fun x u hu=>by
  have h:u∈x.cells.toList:=hu;exact qmj [x] u (by simpa[pvals] using h)
 pos:=by decide
 und:=Tryz.underlying39
 info:=by kernel_rfl
 row:=⟨_,Tryz.underlying27,rfl⟩
theorem ix_lp (b off n c k:Nat) (h:k<n) (u:World):(Instr.indexAt 39 (.slice (some ⟨b,off,none⟩) n c) (.int .i64 (k:Int))).run Tryz.prog u=.ok (.pointer (some ⟨b,off+k*25,none⟩)) u :=
 zg_idx Tryz.underlying39 (by kernel_rfl) (fun _=>by kernel_rfl) b off n c k h u
section
variable {H : Type} {enc : TypeId × Value → H} {W : World} {fuel : Nat} {cs : List Value} {x : DataW H × List MemPlace}
theorem open_packets (h:DataW.trod enc Tryz.prog W 0 (fun _=>true) true fuel 39 cs=some x):∃ao n cap,∃l:PL,cs = [.slice ao n cap]∧QRd W ao n cap l∧∀y∈l,Pok y.1 y.2:=by
 have ce:Tryz.prog.cellsOf 27=25:=by kernel_rfl
 rcases Go.Deep.open_slice Tryz.underlying39 h with ⟨hcs,_⟩ | ⟨a,len,cap,m,n,D,Pl,hcs,_,hl,hm,hmm,_,hx⟩
 ·exact⟨none,0,0,[],hcs,⟨⟨rfl,fun i hi=>by omega⟩,fun y hy=>(by cases hy),Nat.le_refl _,Nat.zero_le _,fun _=>rfl⟩,fun y hy=>(by cases hy)⟩
 ·have hlm:len≤m:=by rw[hmm];simpa using hl
  have each:∀i,i<m→∃q:Pk×Pd,(∀j v,q.1.cells[j]? = some v→W.cell? ((a.add (i*25)).add j)=some v)∧PRd W q.1 q.2∧Pok q.1 q.2:=by
   intro i hi;obtain⟨cs',h1,h2⟩:=hx i hi;rw[ce] at h1;obtain⟨_,hlen,hcell⟩:=World.cells?_some h1;obtain⟨p,dd,e,hr,hk⟩:=qoa (ca:=cs'.toArray) (by simpa using hlen) (by simpa using h2);refine⟨(p,dd),fun j v hj=>?_,hr,hk⟩;have hj25:j<25:=by
    have:=(Array.getElem?_eq_some_iff.1 hj).1
    rwa [Pk.csize] at this
   rw[hcell j hj25,←hj];have:=congrArg (fun c=>c[j]?) e
   simpa using this
  haveI:Inhabited (Pk×Pd):=⟨(Pk.zero,dnil)⟩
  obtain⟨q,hq⟩:=Go.Deep.choose_lt each;have hat:∀i,i<len→pk ((List.range len).map q) i=(q i).1:=fun i hi=>by
   simp[pk,List.getD_eq_getElem?_getD,List.getElem?_map,List.getElem?_range hi]
  refine⟨some a,len,cap,(List.range len).map q,hcs,⟨⟨by simp,fun i hi=>?_⟩,fun y hy=>?_,hl,hm,fun h=>by simp at h⟩,fun y hy=>?_⟩
  ·obtain⟨b,off,spot⟩:=a;have hspot:spot=none:=by
    have hc0:=(hq 0 (by omega)).1 0 _ (Array.getElem?_eq_getElem (by rw[Pk.csize];decide));have:=World.cell?_spot hc0
    simpa[Addr.add] using this
   subst hspot;refine⟨b,off,rfl,fun j v hj=>?_⟩;rw[hat i hi] at hj;have:=(hq i (by omega)).1 j v (by rw[←Array.getElem?_toList];exact hj);rw[Addr.add_lit,Addr.add_lit] at this;exact this
  ·simp only[List.mem_map,List.mem_range] at hy;obtain⟨i,hi,rfl⟩:=hy;exact (hq i (by omega)).2.1
  ·simp only[List.mem_map,List.mem_range] at hy;obtain⟨i,hi,rfl⟩:=hy;exact (hq i (by omega)).2.2
end
def psz (x:Pk×Pd):Nat:=x.1.top.size+x.1.bod.n+x.1.cli.size+x.1.wt.size+x.1.wb.n+x.1.us.size+x.1.pa.n+(x.1.wan.n+wtot x.2.wan)+(x.1.nam.n+tot x.2.nam)+x.1.cds.n
def qtot (l:PL):Nat:=(l.map psz).sum
theorem qob (l:PL) (k:Nat) (h:k<l.length):qtot (l.take (k+1))=qtot (l.take k)+psz (pk l k,pd l k):=by
 have e:(pk l k,pd l k)=l[k]'h:=by simp[pk,pd,List.getD_eq_getElem?_getD,List.getElem?_eq_getElem h]
 rw[List.take_succ_eq_append_getElem h,e];simp only[qtot,List.map_append,List.map_cons,List.map_nil,List.sum_append,List.sum_cons,List.sum_nil,Nat.add_zero]
theorem qtot_mem {l:PL} {x:Pk×Pd} (h:x∈l):psz x≤qtot l:=by
 induction l with
 |nil=>cases h
 |cons a r ih=>
  have e:qtot (a :: r)=psz a+qtot r:=rfl
  rcases List.mem_cons.1 h with rfl | h
  ·omega
  ·have:=ih h;omega
theorem psz_len (x:Pk×Pd) (L:Nat) (h:psz x≤L):Plen x.1 L:=by
 have hm:Psm x.1 x.2 L:=h;exact hm.len
theorem sz_lszPacketS (ao:Option Addr) (n cap L:Nat) (l:PL) (w:World) (hr:QRd w ao n cap l) (hs:∀x∈l,Pok x.1 x.2) (hL:L≤1048576) :
  Calls Tryz.prog 14 #[.slice ao n cap,.int .i64 L] w fun e w'=>∃r:Int,e=.returned (.int .i64 r)∧Below w.heap.size w w'∧(r<0∨∃R:Nat,r=R∧R+n+qtot l≤L):=by
 have HL:Hid (l.length=n):=hr.1.1;have HR:Hid (∀u,Below w.heap.size w u→QRd u ao n cap l):=fun u hu=>hr.below hu
 have HS:Hid (∀x∈l,Pok x.1 x.2):=hs;have hcap:n≤maxLen:=Nat.le_trans hr.2.2.1 hr.2.2.2.1;unfold maxLen at hcap;clear hs hr
 by_cases hbig:L<n
 ·have h':(L:Int)-n<0:=by omega
  go_enter Tryz.func14,Tryz.ntmps14;go_wp2;go_ret;exact⟨_,rfl,Below.refl _ _,.inl (by decide)⟩
 ·have h':¬(L:Int)-n<0:=by omega
  go_enter Tryz.func14,Tryz.ntmps14;go_wp2
  go_loopw [1,5] (fun q i wr=>∃k M:Nat,i=.int .i64 k∧q=.int .i64 M∧k≤n∧Hid (M+n+qtot (l.take k)≤L)∧Below w.heap.size w wr) (fun _ i _=>n-(intOf i).toNat)
  case atStart=>exact⟨0,L-n,rfl,by go_num,Nat.zero_le _,by show _+_+qtot (l.take 0)≤_;simp[qtot];omega,Below.refl _ _⟩
  case round=>
   obtain⟨k,M,rfl,rfl,hk,hT,hb⟩:=hrel
   by_cases hlt:k<n
   ·have hlt':(k:Int)<n:=by omega
    have hkl:k<l.length:=by rw[HL.out];exact hlt
    obtain⟨b0,off,rfl,hrg⟩:=(HR.out _ hb).1.2 k hlt;have hP:=(HR.out _ hb).2.1 _ (qez hkl);have hK:=HS.out _ (qez hkl);have HT:Hid (qtot (l.take (k+1))=qtot (l.take k)+psz (pk l k,pd l k)):=qob l k hkl;have hM:M≤1048576:=by have:=hT.out;omega
    simp only at hP hK;generalize pk l k=p at hrg hP hK HT;generalize pd l k=d at hP hK HT;have hix:=ix_lp b0 off n cap k hlt;have HKL:Hid (k<l.length):=hkl;clear hkl;go_wp2_with (first | refine g_load plOk hrg rfl _ rfl rfl ?_ | fail)
    refine (qoi p d M wr hM hP hK).mono ?_;rintro e w2 ⟨r,rfl,hb2,hcase⟩;have hb3:=hb.trans (hb2.mono hb.size);clear hb hb2 hrg hix hP
    rcases hcase with hneg | ⟨R,rfl,hRM,hR⟩
    ·go_wp2;go_ret;exact⟨_,rfl,hb3,.inl (by decide)⟩
    ·have hneg:¬(R:Int)<0:=by omega
     have HR2:Hid (R+n+qtot (l.take (k+1))≤L):=by
      show R+n+_≤L;have h1:psz (p,d)≤M-R:=hR;have:=hT.out;rw[HT.out];omega
     clear hR hT;go_wp2;go_roundw
     case rel=>exact⟨k+1,R,by go_num,rfl,by omega,HR2,hb3⟩
     case measure=>simp[intOf]<;>omega
   ·have hlt':¬(k:Int)<n:=by omega
    obtain rfl:k=n:=by omega
    go_wp2;go_ret;refine⟨_,rfl,hb,.inr ⟨M,rfl,?_⟩⟩;have:=hT.out;rw[List.take_of_length_le (by rw[HL.out];exact Nat.le_refl _)] at this;exact this
theorem q_zero (w:World) (B:Nat):POwn w B Pk.zero dnil:=by
 refine⟨⟨rfl,World.ownsRow_nil _ _ _ _⟩,⟨rfl,World.ownsRow_nil _ _ _ _⟩,⟨rfl,World.ownsRow_nil _ _ _ _⟩,⟨rfl,World.ownsRow_nil _ _ _ _⟩,⟨rfl,World.ownsRow_nil _ _ _ _⟩,⟨rfl,World.ownsRow_nil _ _ _ _⟩,?_⟩;have hn:∀y:Option Addr,Dis none y:=fun y a b ha=>by cases ha
 exact List.pairwise_iff_getElem.2 fun i j hi hj _=>by
  have:∀i (hi:i < [Pk.zero.bod.a,Pk.zero.wb.a,Pk.zero.pa.a,Pk.zero.wan.a,Pk.zero.nam.a,Pk.zero.cds.a].length),[Pk.zero.bod.a,Pk.zero.wb.a,Pk.zero.pa.a,Pk.zero.wan.a,Pk.zero.nam.a,Pk.zero.cds.a][i]=none:=fun i hi=>by
   have h6:i<6:=hi
   rcases i with _ | _ | _ | _ | _ | _ | i<;>first | rfl | omega
  rw[this i hi];exact hn _
theorem QOwn.put {w w':World} {B g n cap:Nat} {l:PL} (h:QOwn w B (some ⟨g,0,none⟩) n cap l) (i:Nat) (u:Pk) (du:Pd) (hr:pkK.Own w' B (some ⟨g,0,none⟩) n cap ((pks l).set i u)) (hg:w.grownBy w' (some g)) (hu:POwn w B u du) (hs:∀x∈l,∀k,x.1.has k→¬u.has k):QOwn w' B (some ⟨g,0,none⟩) n cap (l.set i (u,du)):=by
 refine⟨?_,?_,?_⟩
 ·rw[qlc];exact hr
 ·intro x hx
  rcases List.mem_or_eq_of_mem_set hx with hx | rfl
  ·exact (h.own x hx).rowed h.row hg
  ·exact hu.rowed h.row hg
 ·rw[List.pairwise_iff_getElem];intro a b ha hb hab;have ha':a<l.length:=by simpa using ha
  have hb':b<l.length:=by simpa using hb
  simp only[List.getElem_set];have hd:=List.pairwise_iff_getElem.1 h.dis
  split
  ·split
   ·omega
   ·intro k h1 h2;exact hs _ (List.getElem_mem hb') k h2 h1
  ·split
   ·intro k h1 h2;exact hs _ (List.getElem_mem ha') k h1 h2
   ·exact hd a b ha' hb' hab
def QDone (w:World) (B g n:Nat) (l:PL) (k:Nat):Prop:=∃ds:PL,ds.length=k∧(∀i,i<k→∃x:Re,pk ds i=(pk l i).re x∧pd ds i=pd l i)∧QOwn w B (some ⟨g,0,none⟩) n n (ds++List.replicate (n-k) (Pk.zero,dnil))
theorem QDone.below {w w':World} {B g n k:Nat} {l:PL} (h:QDone w B g n l k) (hb:Below w.heap.size w w'):QDone w' B g n l k:=by
 obtain⟨ds,h1,h2,h3⟩:=h;exact⟨ds,h1,h2,h3.below hb⟩
theorem qoy (ds:PL) (x:Pk×Pd) (i:Nat) (h:ds.length=i):pk (ds++[x]) i=x.1∧pd (ds++[x]) i=x.2:=by
 have:(ds++[x])[i]? = some x:=by
  rw[List.getElem?_append_right (by omega),h,Nat.sub_self];rfl
 exact⟨by simp[pk,List.getD_eq_getElem?_getD,this],by simp[pd,List.getD_eq_getElem?_getD,this]⟩
theorem pk_app_lt (ds:PL) (x:Pk×Pd) (i:Nat) (h:i<ds.length):pk (ds++[x]) i=pk ds i∧pd (ds++[x]) i=pd ds i:=by
 exact⟨by simp[pk,List.getD_eq_getElem?_getD,List.getElem?_append_left h],by simp[pd,List.getD_eq_getElem?_getD,List.getElem?_append_left h]⟩
theorem q_sep {w w':World} {B:Nat} {ao:Option Addr} {n cap:Nat} {l:PL} (h:QOwn w B ao n cap l) {u:Pk} {d:Pd} (hu:POwn w' w.heap.size u d):∀x∈l,∀k,x.1.has k→¬u.has k:=fun x hx k h1 h2=>by
 have:=((h.own x hx).lt h1).2;have:=(hu.lt h2).1;omega
theorem QDone.step {w0 w w':World} {B g n k:Nat} {l ds:PL} (h1:ds.length=k) (h2:∀i,i<k→∃x:Re,pk ds i=(pk l i).re x∧pd ds i=pd l i) (h3:QOwn w0 B (some ⟨g,0,none⟩) n n (ds++List.replicate (n-k) (Pk.zero,dnil))) (h4:QOwn w B (some ⟨g,0,none⟩) n n (ds++List.replicate (n-k) (Pk.zero,dnil))) (hB:B≤w0.heap.size) (hk:k<n) (x:Re) (hu:POwn w w0.heap.size ((pk l k).re x) (pd l k)) (hw:pkK.Own w' B (some ⟨g,0,none⟩) n n ((pks (ds++List.replicate (n-k) (Pk.zero,dnil))).set k ((pk l k).re x))) (hg:w.grownBy w' (some g)):QDone w' B g n l (k+1):=by
 have p:=h4.put k ((pk l k).re x) (pd l k) hw hg (hu.low hB) (q_sep h3 hu);refine⟨ds++[((pk l k).re x,pd l k)],by simp[h1],?_,?_⟩
 ·intro i hi
  by_cases hik:i<k
  ·obtain⟨e1,e2⟩:=pk_app_lt ds ((pk l k).re x,pd l k) i (by omega);rw[e1,e2];exact h2 i hik
  ·obtain rfl:i=k:=by omega
   obtain⟨e1,e2⟩:=qoy ds ((pk l i).re x,pd l i) i h1;rw[e1,e2];exact⟨x,rfl,rfl⟩
 ·rw[List.set_append_right _ _ (by omega),h1,Nat.sub_self,show n-k=(n-(k+1))+1 from by omega,List.replicate_succ,List.set_cons_zero] at p;rw[List.append_assoc];exact p
theorem q_maken {ops:Array Oper} {rest:List Oper} {o:Oper} {a:Act} {Q:Exit→Act→World→Prop} (w:World) (hgd:o.guard=none) (l c:Operand) (hop:o.op=Op.makeSlice 42 l c)
  (C:Int) (n:Nat) (hl:a.eval l=.int .i64 C) (hc:a.eval c=.int .i64 C) (hC:C=(n:Int)) (hb:n≤1048576)
  (h:∀w',QOwn w' w.heap.size (some ⟨w.heap.size,0,none⟩) n n (List.replicate n (Pk.zero,dnil))→Below w.heap.size w w'→wpList Tryz.prog ops Q rest (a.put o.dst (.slice (some ⟨w.heap.size,0,none⟩) n n)) w') :
  wpList Tryz.prog ops Q (o :: rest) a w:=by
 refine g_make pkOk w hgd l c hop C n hl hc hC (by unfold maxLen;omega) (by show 320*n≤_;omega) fun w' hr hb'=>h w' ⟨?_,?_,?_⟩ hb'
 ·have e:pks (List.replicate n (Pk.zero,dnil))=List.replicate n Pk.zero:=by simp[pks]
  rw[e];exact hr
 ·intro x hx;obtain rfl:=(List.mem_replicate.1 hx).2;exact q_zero w' _
 ·refine List.pairwise_iff_getElem.2 fun i j hi hj _ k h1=>?_
  simp only[List.getElem_replicate] at h1;obtain⟨a,e,_⟩:=h1;simp[Pk.zero] at e
theorem to_ltoPacketS (ao:Option Addr) (n cap:Nat) (l:PL) (w:World) (hr:QRd w ao n cap l) (hn:n≤1048576) (hm:∀x∈l,Plen x.1 1048576) :
  Calls Tryz.prog 16 #[.slice ao n cap] w fun e w'=>e=.returned (.slice (some ⟨w.heap.size,0,none⟩) n n)∧QDone w' w.heap.size w.heap.size n l n∧Below w.heap.size w w':=by
 have HL:Hid (l.length=n):=hr.1.1;have HR:Hid (∀u,Below w.heap.size w u→QRd u ao n cap l):=fun u hu=>hr.below hu
 have HM:Hid (∀x∈l,Plen x.1 1048576):=hm;clear hr hm;go_enter Tryz.func16,Tryz.ntmps16;go_wp2_with (at_make;refine q_maken _ rfl _ _ rfl _ n rfl rfl rfl (by omega) ?_)
 intro w1 hown hb1;have HS:Hid (QDone w1 w.heap.size w.heap.size n l 0):=⟨[],rfl,fun i hi=>by omega,by simpa using hown⟩;clear hown;go_wp2
 go_loopw [4] (fun i wr=>∃k:Nat,i=.int .i64 k∧k≤n∧Hid (QDone wr w.heap.size w.heap.size n l k)∧Below w.heap.size w wr) (fun i _=>n-(intOf i).toNat)
 case atStart=>exact⟨0,rfl,Nat.zero_le _,HS,hb1⟩
 case round=>
  obtain⟨k,rfl,hk,ho,hb⟩:=hrel;clear hb1 HS
  by_cases hlt:k<n
  ·have hlt':(k:Int)<n:=by omega
   have hkl:k<l.length:=by rw[HL.out];exact hlt
   obtain⟨b0,off,rfl,hrg⟩:=(HR.out _ hb).1.2 k hlt;have hP:=(HR.out _ hb).2.1 _ (qez hkl);have hN:=HM.out _ (qez hkl);simp only at hP hN;have hN2:Plen (pk l k) 1099511627776:=by unfold Plen at hN ⊢;omega
   have hix:=ix_lp b0 off n cap k hlt;have hix2:=idx_p w.heap.size 0 n n k hlt;simp only[Nat.zero_add] at hix2;have HKL:Hid (k<l.length):=hkl;clear hkl hN;go_wp2_with (first | refine g_load plOk hrg rfl _ rfl rfl ?_ | fail)
   refine (qnl (pk l k) (pd l k) wr hP hN2).mono ?_;rintro e w2 ⟨x,rfl,hu,hb2⟩;obtain⟨ds,d1,d2,d3⟩:=ho.out;have d4:=d3.below hb2;have hrow:pkK.Own w2 w.heap.size (some ⟨w.heap.size,0,none⟩) n n (pks (ds++List.replicate (n-k) (Pk.zero,dnil))):=d4.row;have hb3:=hb.trans (hb2.mono hb.size);have HST:Hid (∀w',pkK.Own w' w.heap.size (some ⟨w.heap.size,0,none⟩) n n ((pks (ds++List.replicate (n-k) (Pk.zero,dnil))).set k ((pk l k).re x))→w2.grownBy w' (some w.heap.size)→QDone w' w.heap.size w.heap.size n l (k+1)):=fun w' hw hg=>QDone.step d1 d2 d3 d4 hb.size hlt x hu hw hg
   have HB3:Hid (Below w.heap.size w w2):=hb3;clear hP hN2 hrg hb hb2 hu d1 d2 d3 d4 ho hb3 hix;go_wp2_with (first | (refine g_put pkOk rfl _ _ rfl hrow k hlt ((pk l k).re x) rfl rfl ?_;intro w3 h3 hg3) | fail)
   have HO:Hid (QDone w3 w.heap.size w.heap.size n l (k+1)):=HST.out w3 h3 hg3;have HB:Hid (Below w.heap.size w w3):=HB3.out.grown hg3 HB3.out.size (fun j e=>by cases e;exact Nat.le_refl _);clear h3 hg3 hrow HST HB3 hix2;go_wp2;go_roundw
   case rel=>exact⟨k+1,by go_num,by omega,HO,HB.out⟩
   case measure=>simp[intOf]<;>omega
  ·have hlt':¬(k:Int)<n:=by omega
   obtain rfl:k=n:=by omega
   go_wp2;go_ret;exact⟨rfl,ho.out,hb⟩
theorem QDone.get {w:World} {B g n:Nat} {l:PL} (h:QDone w B g n l n) (hl:l.length=n):∃ds:PL,pvs ds=pvs l∧QOwn w B (some ⟨g,0,none⟩) n n ds∧ds.length=n∧∀i,i<n→∃x:Re,pk ds i=(pk l i).re x∧pd ds i=pd l i:=by
 obtain⟨ds,h1,h2,h3⟩:=h;rw[Nat.sub_self] at h3;refine⟨ds,?_,by simpa using h3,h1,h2⟩;apply List.ext_getElem?
 intro i
 by_cases hi:i<n
 ·obtain⟨x,e1,e2⟩:=h2 i hi;rw[pvs_at ds i (by omega),pvs_at l i (by omega),e1,e2];rfl
 ·rw[List.getElem?_eq_none (by rw[qmk];omega),List.getElem?_eq_none (by rw[qmk];omega)]
