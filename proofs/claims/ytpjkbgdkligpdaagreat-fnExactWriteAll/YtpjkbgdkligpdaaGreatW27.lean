/- Lemmas. -/
import Derived.OneCell
import Derived.Deep.RegionHeld3
import Derived.Test.YtpjkbgdkligpdaaGreatW20
set_option linter.unusedVariables false
set_option linter.unusedSimpArgs false
set_option maxRecDepth 100000
set_option maxHeartbeats 20000000
namespace Go.Proofs.YtpjkbgdkligpdaaGreat
open Go.RowKit

theorem Own.cur {w w':World} {g B:Nat} {a:Option Addr} {m c:Nat} {x:List UInt8} (h:Own w B a m c x) (hB:g<B) (hg:w.grownBy w' (some g)):Own w' B a m c x :=
 h.grown hg (fun d e he=>by have:=h.block e;simp at he;omega)


theorem Own.cut {w:World} {B:Nat} {a:Option Addr} {n c:Nat} {x:List UInt8} (h:Own w B a n c x) (k:Nat) (hk:k≤n):Own w B a k c (x.take k):=by
 obtain⟨hl,h1,h2⟩:=h;refine⟨by simp;omega,by rw[qfj];simp;omega,?_⟩
 rcases h2 with ⟨e,h0⟩ | ⟨g,c',cur,e,hB,hg,hc,hm,hs,ht⟩
 ·simp only[Value.slice.injEq] at e;obtain⟨rfl,_,rfl⟩:=e;obtain rfl:k=0:=by omega
  exact .inl ⟨rfl,rfl⟩
 ·simp only[Value.slice.injEq] at e;obtain⟨rfl,_,rfl⟩:=e;refine .inr ⟨g,c,cur,rfl,hB,hg,by omega,hm,hs,?_⟩;have e2:bvals (x.take k)=(bvals x).take k:=by simp[bvals,List.map_take]
  rw[e2,←ht,List.take_take]
  congr 1
  omega

theorem Own.drew {w:World} {B:Nat} {a:Option Addr} {n c:Nat} {x:List UInt8} (h:Own w B a n c x):Own w.drew B a n c x:=h

theorem RdIn.cur {w w':World} {g:Nat} {a:Option Addr} {m c:Nat} {x:List UInt8} (h:RdIn w a m c x) (hne:∀d,a=some d→g<d.block) (hg:w.grownBy w' (some g)):RdIn w' a m c x :=
 h.grown hg (fun d e he=>by have:=hne d e;simp at he;omega)




theorem RdIn.cut {w:World} {a:Option Addr} {n c:Nat} {x:List UInt8} (h:RdIn w a n c x) (k:Nat) (hk:k≤n):RdIn w a k c (x.take k):=by
 obtain⟨⟨hl,hc⟩,hcap,hmax,hnil⟩:=h;refine⟨⟨by simp;omega,fun i hi=>?_⟩,by omega,hmax,hnil⟩;obtain⟨b,off,e,hcell⟩:=hc i (by omega);exact⟨b,off,e,by rw[hcell,bt_take _ _ _ hi]⟩
theorem RdIn.drewN {w:World} {a:Option Addr} {n c:Nat} {x:List UInt8} (h:RdIn w a n c x) (q:Nat):RdIn (w.drewN q) a n c x:=h.below (below_drewN (Below.refl _ _) q)


def rd {α:Type} (g:List UInt8→Nat→Option (α×Nat)) (d:α) (l:List UInt8) (s:Nat×Bool):α×Nat×Bool:=match g l s.1 with
 |some (x,k)=>(x,k,s.2)
 |none=>(d,l.length,true)
theorem wf_txt {s:ByteArray} (h:tpc s=true):txt s=true:=by
 unfold tpc topOk levOk at h;simp only[Bool.and_eq_true] at h;exact h.1.2.1
theorem txt_no:txt ByteArray.empty=true:=by decide +kernel
theorem con_parts {v:Pv} (h:v.ok=true) (ht:v.ty=1):∃(lev:Int) (cli:ByteArray) (cln:Bool) (kee:Int) (hw:Bool) (wt:ByteArray) (wb:List UInt8) (wq:Int) (wr hu:Bool) (us:ByteArray) (hp:Bool) (pa:List UInt8),
  v = { Pv.zero with ty:=1,lev:=lev,cli:=cli,cln:=cln,kee:=kee,hw:=hw,wt:=wt,wb:=wb,wq:=wq,wr:=wr,hu:=hu,us:=us,hp:=hp,pa:=pa }∧v.rest=conB lev cli cln kee hw wt wb wq wr hu us hp pa ∧
  (hw=false→wt=ByteArray.empty∧wb = [])∧(hw=true→txt wt=true)∧wb.length≤40∧(0≤wq∧wq≤2)∧(0≤lev∧lev≤255)∧txt cli=true∧(0≤kee∧kee≤65535)∧(hu=false→us=ByteArray.empty)∧txt us=true∧(hp=false→pa = [])∧pa.length≤60:=by
 have hr:=rest1 h ht;have e:=qft h;rw[qfs v ht] at e;have hb:=qnz h;unfold Pv.body at hb;rw[if_pos ht] at hb;simp only[Bool.and_eq_true,Bool.or_eq_true,decide_eq_true_eq,qdn,Bool.not_eq_true'] at hb;obtain⟨hw,h2,h3,h4,h5,h6⟩:=hb;refine⟨_,_,_,_,_,_,_,_,_,_,_,_,_,e,hr,?_,?_,?_,?_,h2,h3,h4,?_,?_,?_,?_⟩
 ·intro hh;simp[hh]
 ·intro hh;rw[if_pos hh]
  rcases hw with hw | hw
  ·rw[hh] at hw;cases hw
  ·exact wf_txt hw.1
 ·split
  ·rename_i hh
   rcases hw with hw | hw
   ·rw[hh] at hw;cases hw
   ·exact hw.2.1
  ·simp
 ·split
  ·rename_i hh
   rcases hw with hw | hw
   ·rw[hh] at hw;cases hw
   ·exact hw.2.2
  ·omega
 ·intro hh;simp[hh]
 ·split
  ·exact h5
  ·exact txt_no
 ·intro hh;rw[hh];rfl
 ·split
  ·exact h6
  ·simp

def Pv.fst (v:Pv):Nat:=(byte (16*v.ty+v.low)).toNat
theorem all_le {α:Type} (f:α→List UInt8) (k:Nat) (h:∀x,(f x).length≤k) (l:List α) (n:Nat) (hn:(l.length:Int)≤n):(l.flatMap f).length≤k*n:=by
 have h1:=qot f k h l;have h2:k*l.length≤k*n:=Nat.mul_le_mul_left _ (by omega);omega
theorem rest_340 {v:Pv} (h:v.ok=true):v.rest.length≤340:=by
 have ht:=ok_ty h;have hb:=qnz h;have h14:v.ty=1∨v.ty=2∨v.ty=3∨v.ty=8∨v.ty=9∨v.ty=10∨(v.ty=4∨v.ty=5∨v.ty=6∨v.ty=7∨v.ty=11)∨(v.ty=12∨v.ty=13∨v.ty=14):=by omega
 unfold Pv.body at hb
 rcases h14 with h1 | h1 | h1 | h1 | h1 | h1 | h1 | h1
 ·obtain⟨lev,cli,cln,kee,hw,wt,wb,wq,wr,hu,us,hp,pa,ev,er,w1,w2,w3,w4,hlev,hcli,hkee,u1,u2,p1,p2⟩:=con_parts h h1;rw[er];unfold conB;have a1:=pT_le cli;have a0:(pT mqtt).length=6:=by decide +kernel
  have a2:=if_le hw (pT wt++pB wb) 104 (by
   have:=pT_le wt;have hB:(pB wb).length≤42:=by unfold pB;split<;>simp[qba];omega
   simp;omega)
  have a3:=if_le hu (pT us) 62 (pT_le us);have a4:=if_le hp (pB pa) 62 (pB_le pa);simp only[List.length_append,List.length_cons,List.length_nil,qba];omega
 ·rw[rest2 h h1];simp
 ·rw[if_neg (by omega),if_neg (by omega),if_pos h1] at hb;simp only[Bool.and_eq_true,decide_eq_true_eq] at hb;rw[rest3 h h1];have:=pubB_le v.qos (if 0<v.qos then v.id else 0) v.top v.bod;omega
 ·rw[if_neg (by omega),if_neg (by omega),if_neg (by omega),if_neg (by omega),if_pos h1] at hb;simp only[Bool.and_eq_true,qdn] at hb;rw[rest8 h h1,List.length_append,qba];have:=all_le (fun x:ByteArray×Int=>pT x.1++[byte x.2]) 63 (fun x=>by have:=pT_le x.1;simp;omega) v.wan 4 hb.2.2.2;unfold wanB;omega
 ·rw[if_neg (by omega),if_neg (by omega),if_neg (by omega),if_neg (by omega),if_neg (by omega),if_pos h1] at hb;simp only[Bool.and_eq_true,qdn] at hb;rw[rest9 h h1,List.length_append,qba,cdsB_le];omega
 ·rw[if_neg (by omega),if_neg (by omega),if_neg (by omega),if_neg (by omega),if_neg (by omega),if_neg (by omega),if_pos h1] at hb;simp only[Bool.and_eq_true,qdn] at hb;rw[rest10 h h1,List.length_append,qba];have:=all_le pT 62 pT_le v.nam 4 hb.2.2.2;unfold namB;omega
 ·rw[restI h v.ty rfl h1,qba];omega
 ·rw[restN h v.ty rfl h1];simp
def Pv.hd (v:Pv):Nat:=1+(lenB v.rest.length).length
theorem bytes_len {v:Pv} (h:v.ok=true):v.bytes.length=v.hd+v.rest.length:=by
 rw[qbs h];unfold Pv.hd;simp;omega
