/- Lemmas. -/
import Derived.OneCell
import Derived.Deep.RegionHeld3
import Derived.Test.YtpgkbkbhhmfgnaaDoorK07
set_option linter.unusedVariables false
set_option linter.unusedSimpArgs false
set_option maxRecDepth 100000
set_option maxHeartbeats 20000000
namespace Go.Proofs.YtpgkbkbhhmfgnaaDoor
open Go.RowKit

theorem Own.cur {w w':World} {g B:Nat} {a:Option Addr} {m c:Nat} {x:List UInt8} (h:Own w B a m c x) (hB:g<B) (hg:w.grownBy w' (some g)):Own w' B a m c x :=
 h.grown hg (fun d e he=>by have:=h.block e;simp at he;omega)


theorem Own.cut {w:World} {B:Nat} {a:Option Addr} {n c:Nat} {x:List UInt8} (h:Own w B a n c x) (k:Nat) (hk:k≤n):Own w B a k c (x.take k):=by
 obtain⟨hl,h1,h2⟩:=h;refine⟨by simp;omega,by rw[qbk];simp;omega,?_⟩
 rcases h2 with ⟨e,h0⟩ | ⟨g,c',cur,e,hB,hg,hc,hm,hs,ht⟩
 ·simp only[Value.slice.injEq] at e;obtain⟨rfl,_,rfl⟩:=e;obtain rfl:k=0:=by omega
  exact .inl ⟨rfl,rfl⟩
 ·simp only[Value.slice.injEq] at e;obtain⟨rfl,_,rfl⟩:=e;refine .inr ⟨g,c,cur,rfl,hB,hg,by omega,hm,hs,?_⟩;have e2:bvals (x.take k)=(bvals x).take k:=by simp[bvals,List.map_take]
  rw[e2,←ht,List.take_take]
  congr 1
  omega

theorem Own.drew {w:World} {B:Nat} {a:Option Addr} {n c:Nat} {x:List UInt8} (h:Own w B a n c x):Own w.drew B a n c x:=h

theorem RdIn.cur {w w':World} {g:Nat} {a:Option Addr} {m c:Nat} {x:List UInt8} (h:RdIn w a m c x) (hne:∀d,a=some d→g<d.block) (hg:w.grownBy w' (some g)):RdIn w' a m c x :=
 h.grown hg (fun d e he=>by have:=hne d e;simp at he;omega)


theorem qdo {ss:List ByteArray} {k n:Nat} (hl:ss.length=n) (h:k<n):(dats ss).getD k []=(st ss k).data.toList:=dats_at ss k (by omega)

theorem loose_at (s:ByteArray) (h:0<s.size):qao s.data.toList=((((s[0]'h).toNat:Int)==43) || (((s[0]'h).toNat:Int)==35)):=by
 rw[qdn _ 43 43 rfl,qdn _ 35 35 rfl];have hl:s.data.toList[0]? = some (s[0]'h):=qfh s 0 h;generalize s[0]'h=x at hl;generalize s.data.toList=l at hl
 match l,hl with
 |y :: r,hl=>
  simp at hl;subst hl;simp only[qao];rw[Bool.eq_iff_iff];simp only[Bool.or_eq_true,beq_iff_eq];exact⟨fun e=>e.elim (fun a=>.inl a.symm) (fun a=>.inr a.symm),fun e=>e.elim (fun a=>.inl a.symm) (fun a=>.inr a.symm)⟩

theorem qep (s:ByteArray) (w:World) :
  Calls Tryd.prog 68 #[.string s] w fun e w'=>e=.returned (.bool (qao s.data.toList))∧w'=w:=by
 by_cases h0:s.data.toList = []
 ·have HL:Hid (qao s.data.toList=false):=by unfold Hid;rw[h0];rfl
  have e0:=qcj h0;clear h0;go_enter Tryd.func68,Tryd.ntmps68;go_wp2;go_ret;exact⟨qaf HL.out.symm,rfl⟩
 ·have h:0<s.size:=by
   have e1:s.size=s.data.toList.length:=rfl;have:=List.length_pos_iff.2 h0;omega
  have HL:Hid (qao s.data.toList=_):=loose_at s h;have h':(0:Int)<(s.size:Int):=by omega
  have e0:=qcv h0;clear h0;cases hp:(((s[0]'h).toNat:Int)==43) with
  |true=>
   have HM:Hid (qao s.data.toList=true):=by unfold Hid;rw[HL.out,hp];rfl
   go_enter Tryd.func68,Tryd.ntmps68;go_wp2;go_ret;exact⟨qaf HM.out.symm,rfl⟩
  |false=>
   have HM:Hid (qao s.data.toList=(((s[0]'h).toNat:Int)==35)):=by unfold Hid;rw[HL.out,hp];rfl
   go_enter Tryd.func68,Tryd.ntmps68;go_wp2;go_ret;exact⟨qaf HM.out.symm,rfl⟩

theorem qdd (ao a1:Option Addr) (n cap m cap1:Nat) (fs gs:List ByteArray) (w:World) (hr:SRd w ao n cap fs) (h1:SRd w a1 m cap1 gs) (hn:n≤1048577) (hm:m≤1048577) :
  Calls Tryd.prog 70 #[.slice ao n cap,.slice a1 m cap1] w fun e w'=>e=.returned (.bool (fits (dats fs) (dats gs)))∧Below w.heap.size w w':=by
 have HF:Hid (fs.length=n):=hr.1.1;have HG:Hid (gs.length=m):=h1.1.1;go_enter Tryd.func70,Tryd.ntmps70;go_wp2
 go_loopw [5] (fun i wr=>∃k:Nat,i=.int .i64 k∧k≤n∧k≤m∧fits (dats fs) (dats gs)=fits ((dats fs).drop k) ((dats gs).drop k)∧Below w.heap.size w wr) (fun i _=>n-(intOf i).toNat)
 case atStart=>exact⟨0,rfl,Nat.zero_le _,Nat.zero_le _,rfl,Below.refl _ _⟩
 case round=>
  obtain⟨k,rfl,hk,hkm0,hfit,hb⟩:=hrel;have HK:Hid (fits (dats fs) (dats gs)=fits ((dats fs).drop k) ((dats gs).drop k)):=hfit;clear hfit
  by_cases hlt:k<n
  ·obtain⟨b,off,e,hc⟩:=hr.1.2 k hlt;subst e;have hck:wr.cell? ⟨b,off+k,none⟩ = some (.string (st fs k)):=(hb.cell (World.block_lt_of_cell? w _ hc)).trans hc;have hlt':(k:Int)<n:=by omega
   have hlf:k<(dats fs).length:=by rw[qap,HF.out];exact hlt
   have hx:=qdo HF.out hlt;generalize st fs k=x at hck hx;clear hc
   by_cases h35:x.data.toList = [35]
   ·have F:Hid (fits (dats fs) (dats gs)=true):=by unfold Hid;rw[HK.out];exact fits_all _ _ k hlf (hx.trans h35)
    have e1:=qbn h35;clear h35 hx hlf;go_wp2;go_ret;exact⟨qaf F.out.symm,hb⟩
   ·have e1:=qbg h35;have k0:(0:Int)≤k:=by omega
    by_cases hkm:m≤k
    ·have F:Hid (fits (dats fs) (dats gs)=false):=by unfold Hid;rw[HK.out];exact fits_short _ _ k hlf (by rw[hx];exact h35) (by rw[qap,HG.out];exact hkm)
     have hge:decide ((m:Int)≤(k:Int))=true:=decide_eq_true (by omega);have hge':(m:Int)≤(k:Int):=by omega
     clear h35 hx hlf;go_wp2
     go_quiet (fail)
     go_wp2;go_ret;exact⟨qaf F.out.symm,below_drewN hb _⟩
    ·have hge:decide ((m:Int)≤(k:Int))=false:=decide_eq_false (by omega);have hkm':(k:Int)<m:=by omega
     obtain⟨b1,off1,e2,hc1⟩:=h1.1.2 k (by omega);subst e2;have hck1:wr.cell? ⟨b1,off1+k,none⟩ = some (.string (st gs k)):=(hb.cell (World.block_lt_of_cell? w _ hc1)).trans hc1;have hy:=qdo HG.out (show k<m by omega);generalize st gs k=y at hck1 hy;have hstep:=fits_step (dats fs) (dats gs) k hlf (by rw[hx];exact h35) (by rw[qap,HG.out];omega);rw[hx,hy] at hstep;have HS:Hid (fits ((dats fs).drop k) ((dats gs).drop k)=(fit1 x.data.toList y.data.toList&&fits ((dats fs).drop (k+1)) ((dats gs).drop (k+1)))):=hstep;clear hstep hc1 hx hy hlf;have bad:fit1 x.data.toList y.data.toList=false→Hid (fits (dats fs) (dats gs)=false):=fun h=>by unfold Hid;rw[HK.out,HS.out,h];rfl
     have good:fit1 x.data.toList y.data.toList=true→Hid (fits (dats fs) (dats gs)=fits ((dats fs).drop (k+1)) ((dats gs).drop (k+1))):=fun h=>by unfold Hid;rw[HK.out,HS.out,h];rfl
     by_cases h43:x.data.toList = [43]
     ·have e3:=qbn h43
      by_cases hy35:y.data.toList = [35]
      ·have F:=bad (by unfold fit1;rw[if_pos h43];simp[hy35]);have e4:=qbn hy35;clear bad good h35 h43 hy35;go_wp2
       go_quiet (fail)
       go_wp2;go_ret;exact⟨qaf F.out.symm,below_drewN hb _⟩
      ·have G:=good (by unfold fit1;rw[if_pos h43];simp[hy35]);have e4:=qbg hy35;clear bad good h35 h43 hy35;go_wp2
       go_quiet (fail)
       go_wp2;go_roundw
       case rel=>exact⟨k+1,by go_num,by omega,by omega,G.out,below_drewN hb _⟩
       case measure=>simp[intOf]<;>omega
     ·have e3:=qbg h43
      by_cases hxy:x.data.toList=y.data.toList
      ·have G:=good (by unfold fit1;rw[if_neg h43];simp[hxy]);have e4:(x.toList==y.toList)=true:=by rw[ByteArray.toList_eq,ByteArray.toList_eq,hxy];simp
       clear bad good h35 h43 hxy;go_wp2
       go_quiet (fail)
       go_wp2;go_roundw
       case rel=>exact⟨k+1,by go_num,by omega,by omega,G.out,below_drewN hb _⟩
       case measure=>simp[intOf]<;>omega
      ·have F:=bad (by unfold fit1;rw[if_neg h43];simp[hxy]);have e4:(x.toList==y.toList)=false:=by rw[ByteArray.toList_eq,ByteArray.toList_eq];exact beq_eq_false_iff_ne.2 hxy
       clear bad good h35 h43 hxy;go_wp2
       go_quiet (fail)
       go_wp2;go_ret;exact⟨qaf F.out.symm,below_drewN hb _⟩
  ·have hlt':¬(k:Int)<n:=by omega
   obtain rfl:k=n:=by omega
   have hend:=fits_end (dats fs) (dats gs) k (by rw[qap,HF.out];exact Nat.le_refl _);rw[qap,HG.out] at hend;have HE:Hid (fits (dats fs) (dats gs)=decide (m≤k)):=by unfold Hid;rw[HK.out,hend]
   clear hend;have HE2:Hid (fits (dats fs) (dats gs)=((k:Int)==(m:Int))):=by
    unfold Hid;rw[HE.out,Bool.eq_iff_iff,beq_iff_eq,decide_eq_true_eq];constructor<;>intro _<;>omega
   go_wp2;go_ret;exact⟨qaf HE2.out.symm,hb⟩

theorem qgd (s:ByteArray) (w:World) :
  Calls Tryd.prog 69 #[.string s] w fun e w'=>e=.returned (.bool (hidB s.data.toList))∧w'=w:=by
 rw[←qeb];exact qhc s w

theorem qgc (s:ByteArray) (w:World) :
  Calls Tryd.prog 98 #[.string s] w fun e w'=>e=.returned (.bool (hidB s.data.toList))∧w'=w:=by
 rw[←qeb];exact qhb s w

theorem mat_sMatch (f t:ByteArray) (w:World) (hf:f.size≤1048576) (ht:t.size≤1048576) :
  Calls Tryd.prog 41 #[.string f,.string t] w fun e w'=>e=.returned (.bool (qbf f.data.toList t.data.toList))∧Below w.heap.size w w':=by
 have HM:Hid (qbf f.data.toList t.data.toList=(filOk f.data.toList&&(topOk t.data.toList&&(!(qao f.data.toList&&hidB t.data.toList)&&fits (lvl f.data.toList) (lvl t.data.toList))))):=rfl;have cF:=fun w=>qfl f w hf
 have cT:=fun w=>qce t w ht
 have cL:=fun w=>qep f w
 have cH:=fun w=>qgd t w
 cases h1:filOk f.data.toList with
 |false=>
  have F:Hid (qbf f.data.toList t.data.toList=false):=by unfold Hid;rw[HM.out,h1];rfl
  rw[h1] at cF;clear h1;go_enter Tryd.func41,Tryd.ntmps41;go_wp2_with fail
  refine (cF w).mono ?_;rintro e w1 ⟨rfl,hb1⟩;go_wp2;go_ret;exact⟨qaf F.out.symm,hb1⟩
 |true=>
  rw[h1] at cF;cases h2:topOk t.data.toList with
  |false=>
   have F:Hid (qbf f.data.toList t.data.toList=false):=by unfold Hid;rw[HM.out,h1,h2];rfl
   rw[h2] at cT;clear h1 h2;go_enter Tryd.func41,Tryd.ntmps41;go_wp2_with fail
   refine (cF w).mono ?_;rintro e w1 ⟨rfl,hb1⟩;go_wp2_with fail
   refine (cT w1).mono ?_;rintro e w2 ⟨rfl,hb2⟩;go_wp2;go_ret;exact⟨qaf F.out.symm,bel2 hb1 hb2⟩
  |true=>
   rw[h2] at cT;cases h3:(qao f.data.toList&&hidB t.data.toList) with
   |true=>
    have F:Hid (qbf f.data.toList t.data.toList=false):=by unfold Hid;rw[HM.out,h1,h2,h3];rfl
    rw[Bool.and_eq_true] at h3;rw[h3.1] at cL;rw[h3.2] at cH;clear h1 h2 h3;go_enter Tryd.func41,Tryd.ntmps41;go_wp2_with fail
    refine (cF w).mono ?_;rintro e w1 ⟨rfl,hb1⟩;go_wp2_with fail
    refine (cT w1).mono ?_;rintro e w2 ⟨rfl,hb2⟩;go_wp2_with fail
    refine (cL w2).mono ?_;rintro e w3 ⟨rfl,hw3⟩;rw[hw3];go_wp2_with fail
    refine (cH w2).mono ?_;rintro e w4 ⟨rfl,hw4⟩;rw[hw4];go_wp2;go_ret;exact⟨qaf F.out.symm,bel2 hb1 hb2⟩
   |false=>
    have F:Hid (qbf f.data.toList t.data.toList=fits (lvl f.data.toList) (lvl t.data.toList)):=by unfold Hid;rw[HM.out,h1,h2,h3];rfl
    obtain⟨n,hN⟩ : ∃n,(lvl f.data.toList).length=n:=⟨_,rfl⟩;obtain⟨m,hM⟩ : ∃m,(lvl t.data.toList).length=m:=⟨_,rfl⟩;have hn:n≤f.size+1:=by rw[←hN];exact qan _
    have hm:m≤t.size+1:=by rw[←hM];exact qan _
    have HN:Hid ((lvl f.data.toList).length=n):=hN;have HMM:Hid ((lvl t.data.toList).length=m):=hM;have HFF:Hid (fits (dats (lvs f.data.toList)) (dats (lvs t.data.toList))=fits (lvl f.data.toList) (lvl t.data.toList)):=by unfold Hid;rw[qaz,qaz]
    clear h1 h2 hN hM;cases h4:qao f.data.toList with
    |false=>
     rw[h4] at cL;clear h3 h4;go_enter Tryd.func41,Tryd.ntmps41;go_wp2_with fail
     refine (cF w).mono ?_;rintro e w1 ⟨rfl,hb1⟩;go_wp2_with fail
     refine (cT w1).mono ?_;rintro e w2 ⟨rfl,hb2⟩;go_wp2_with fail
     refine (cL w2).mono ?_;rintro e w3 ⟨rfl,hw3⟩;rw[hw3];go_wp2_with fail
     refine (qbh f n w2 hf HN.out).mono ?_;rintro e w5 ⟨ao,cap,rfl,ho5,hb5⟩;go_wp2_with fail
     refine (qbh t m w5 ht HMM.out).mono ?_;rintro e w6 ⟨a1,cap1,rfl,ho6,hb6⟩;go_wp2_with fail
     refine (qdd ao a1 n cap m cap1 _ _ w6 (ho5.below hb6).rd ho6.rd (by omega) (by omega)).mono ?_;rintro e w7 ⟨he,hb7⟩;rw[HFF.out,←F.out] at he;subst he;go_wp2;go_ret;exact⟨rfl,bel2 hb1 (bel2 hb2 (bel2 hb5 (bel2 hb6 hb7)))⟩
    |true=>
     rw[h4,Bool.true_and] at h3;rw[h4] at cL;rw[h3] at cH;clear h3 h4;go_enter Tryd.func41,Tryd.ntmps41;go_wp2_with fail
     refine (cF w).mono ?_;rintro e w1 ⟨rfl,hb1⟩;go_wp2_with fail
     refine (cT w1).mono ?_;rintro e w2 ⟨rfl,hb2⟩;go_wp2_with fail
     refine (cL w2).mono ?_;rintro e w3 ⟨rfl,hw3⟩;rw[hw3];go_wp2_with fail
     refine (cH w2).mono ?_;rintro e w4 ⟨rfl,hw4⟩;rw[hw4];go_wp2_with fail
     refine (qbh f n w2 hf HN.out).mono ?_;rintro e w5 ⟨ao,cap,rfl,ho5,hb5⟩;go_wp2_with fail
     refine (qbh t m w5 ht HMM.out).mono ?_;rintro e w6 ⟨a1,cap1,rfl,ho6,hb6⟩;go_wp2_with fail
     refine (qdd ao a1 n cap m cap1 _ _ w6 (ho5.below hb6).rd ho6.rd (by omega) (by omega)).mono ?_;rintro e w7 ⟨he,hb7⟩;rw[HFF.out,←F.out] at he;subst he;go_wp2;go_ret;exact⟨rfl,bel2 hb1 (bel2 hb2 (bel2 hb5 (bel2 hb6 hb7)))⟩


theorem SOwn.alloc {w:World} {B:Nat} {ao:Option Addr} {n cap:Nat} {ss:List ByteArray} (h:SOwn w B ao n cap ss) (o:Obj):SOwn (w.alloc o) B ao n cap ss:=h.below ((Below.refl _ _).alloc (Nat.le_refl _) _)
theorem SOwn.cur {w w':World} {g B:Nat} {a:Option Addr} {m c:Nat} {x:List ByteArray} (h:SOwn w B a m c x) (hB:g<B) (hg:w.grownBy w' (some g)):SOwn w' B a m c x :=
 h.grown hg (fun d e he=>by have:=h.block e;simp at he;omega)

def eqF:List (List UInt8)→List (List UInt8)→Bool
 |[],[]=>true
 |x :: f,y :: g=>fit1 x y&&eqF f g
 |_,_=>false
theorem eqF_len:∀f g:List (List UInt8),f.length≠g.length→eqF f g=false
 |[],[],h=>absurd rfl h
 |[],y :: g,_=>rfl
 |x :: f,[],_=>rfl
 |x :: f,y :: g,h=>by
  rw[eqF,eqF_len f g (fun e=>h (by simp[e])),Bool.and_false]
theorem eqF_step (f g:List (List UInt8)) (k:Nat) (hk:k<f.length) (hg:k<g.length):eqF (f.drop k) (g.drop k)=(fit1 (f.getD k []) (g.getD k [])&&eqF (f.drop (k+1)) (g.drop (k+1))):=by
 have e:f.drop k=f.getD k [] :: f.drop (k+1):=by
  rw[List.drop_eq_getElem_cons hk];simp[List.getD_eq_getElem?_getD,List.getElem?_eq_getElem hk]
 have e2:g.drop k=g.getD k [] :: g.drop (k+1):=by
  rw[List.drop_eq_getElem_cons hg];simp[List.getD_eq_getElem?_getD,List.getElem?_eq_getElem hg]
 rw[e,e2,eqF]
theorem eqF_end (f g:List (List UInt8)) (k:Nat) (hf:f.length≤k) (hg:g.length≤k):eqF (f.drop k) (g.drop k)=true:=by
 rw[List.drop_eq_nil_of_le hf,List.drop_eq_nil_of_le hg];rfl

theorem fits_eqF:∀f g:List (List UInt8),(∀x∈f,x≠[35])→fits f g=eqF f g
 |[],[],_=>rfl
 |[],y :: g,_=>rfl
 |x :: f,[],h=>by rw[qcz (h x (by simp))];rfl
 |x :: f,y :: g,h=>by rw[qdy (h x (by simp)),fits_eqF f g (fun z hz=>h z (by simp[hz])),eqF]
theorem qfx:∀f g:List (List UInt8),(∀x∈f,x≠[35])→fits (f++[[35]]) g=(decide (f.length≤g.length)&&eqF f (g.take f.length))
 |[],g,_=>by
  rw[List.nil_append,qfz rfl];simp[eqF]
 |x :: f,[],h=>by rw[List.cons_append,qcz (h x (by simp))];rfl
 |x :: f,y :: g,h=>by
  rw[List.cons_append,qdy (h x (by simp)),qfx f g (fun z hz=>h z (by simp[hz])),List.length_cons,List.length_cons,List.take_succ_cons,eqF];simp only[Nat.add_le_add_iff_right];cases fit1 x y<;>cases decide (f.length≤g.length)<;>simp

theorem qgi:∀(ls:List (List UInt8)) (k:Nat),qam ls=true→k+1<ls.length→ls.getD k []≠[35]
 |[],_,_,h=>by simp at h
 |x :: r,0,hm,h=>by
  rw[qcn,Bool.and_eq_true] at hm;intro e;have ex:x = [35]:=e;have hr:r.isEmpty=false:=by
   cases r with
   |nil=>simp at h
   |cons a t=>rfl
  have:=hm.1;rw[hr,ex] at this;simp[may] at this
 |x :: r,k+1,hm,h=>by
  rw[qcn,Bool.and_eq_true] at hm;have:=qgi r k hm.2 (by simpa using h)
  simpa using this
theorem qff {ls:List (List UInt8)} {n:Nat} (hm:qam ls=true) (hn:ls.length=n+1):∀x∈ls.take n,x≠[35]:=by
 intro x hx;obtain⟨k,hk,e⟩:=List.mem_iff_getElem.1 hx;rw[List.length_take] at hk;have:=qgi ls k hm (by omega);rw[List.getElem_take] at e;rw[←e]
 simpa[List.getD_eq_getElem?_getD,List.getElem?_eq_getElem (show k<ls.length by omega)] using this
theorem qfe {ls:List (List UInt8)} {n:Nat} (hn:ls.length=n+1):ls=ls.take n++[ls.getD n []]:=by
 have h:n<ls.length:=by omega
 have e:=List.take_append_drop n ls;rw[List.drop_eq_getElem_cons h,List.drop_eq_nil_of_le (by omega)] at e;rw[show ls.getD n []=ls[n] by simp[List.getD_eq_getElem?_getD,List.getElem?_eq_getElem h]];exact e.symm
theorem qga {ls:List (List UInt8)} {n:Nat} (g:List (List UInt8)) (hm:qam ls=true) (hn:ls.length=n+1) (h:ls.getD n [] = [35]):fits ls g=(decide (n≤g.length)&&eqF (ls.take n) (g.take n)):=by
 have e:=qfe hn;rw[h] at e;have hl:(ls.take n).length=n:=by rw[List.length_take];omega
 have:=qfx (ls.take n) g (qff hm hn);rw[hl,←e] at this;exact this
theorem qfy {ls:List (List UInt8)} {n:Nat} (g:List (List UInt8)) (hm:qam ls=true) (hn:ls.length=n+1) (h:ls.getD n []≠[35]):fits ls g=eqF ls g:=by
 refine fits_eqF _ _ fun x hx=>?_
 rw[qfe hn] at hx
 rcases List.mem_append.1 hx with hx | hx
 ·exact qff hm hn x hx
 ·simp at hx;rw[hx]
  simpa using h
theorem fit1_or (x y:List UInt8):fit1 x y=(decide (x=y) || (decide (x = [43])&&decide (y≠[35]))):=by
 unfold fit1
 by_cases h:x = [43]
 ·subst h
  by_cases h2:y = [35]
  ·subst h2;rfl
  ·simp[h2]
 ·simp[h]

