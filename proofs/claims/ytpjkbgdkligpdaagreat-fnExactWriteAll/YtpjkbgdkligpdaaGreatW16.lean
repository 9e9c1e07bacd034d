/- Lemmas. -/
import Derived.Test.YtpjkbgdkligpdaaGreatW15
import Derived.Test.YtpjkbgdkligpdaaGreatW03
set_option linter.unusedVariables false
set_option linter.unusedSimpArgs false
set_option maxRecDepth 100000
set_option maxHeartbeats 20000000
namespace Go.Proofs.YtpjkbgdkligpdaaGreat
open Go.RowKit

theorem qnk {s:ByteArray} {l:List UInt8} (h:s.data.toList=l):(s.toList==l)=true:=by
 rw[ByteArray.toList_eq,h];simp
theorem qjy {s:ByteArray} {l:List UInt8} (h:s.data.toList≠l):(s.toList==l)=false:=by
 rw[ByteArray.toList_eq];exact beq_eq_false_iff_ne.2 h
theorem qir {s:ByteArray} (h:s.data.toList = []):s.toList.isEmpty=true:=by
 rw[ByteArray.toList_eq,h];rfl
theorem qlm {s:ByteArray} (h:s.data.toList≠[]):s.toList.isEmpty=false:=by
 rw[ByteArray.toList_eq];cases hl:s.data.toList with
 |nil=>exact absurd hl h
 |cons a r=>rfl

theorem qjr (s:ByteArray) (last:Bool) (w:World) (hs:s.size≤1048576) :
  Calls Tryz.prog 154 #[.string s,.bool last] w fun e w'=>e=.returned (.bool (may s.data.toList last))∧Below w.heap.size w w':=by
 by_cases h1:s.data.toList = [43]
 ·have e1:=qnk h1;have HM:Hid (may s.data.toList last=true):=by unfold Hid may;rw[if_pos h1]
  clear h1;go_enter Tryz.func154,Tryz.ntmps154;go_wp2;go_ret;exact⟨qac HM.out.symm,Below.refl _ _⟩
 ·have e1:=qjy h1
  by_cases h2:s.data.toList = [35]
  ·have e2:=qnk h2;have HM:Hid (may s.data.toList last=last):=by unfold Hid may;rw[if_neg h1,if_pos h2]
   clear h1 h2;go_enter Tryz.func154,Tryz.ntmps154;go_wp2;go_ret;exact⟨qac HM.out.symm,Below.refl _ _⟩
  ·have e2:=qjy h2;have HM:Hid (may s.data.toList last = !wildB s.data.toList):=by unfold Hid may;rw[if_neg h1,if_neg h2]
   clear h1 h2;go_enter Tryz.func154,Tryz.ntmps154;go_wp2_with fail
   refine (qhu s _ hs).mono ?_;rintro e w1 ⟨rfl,hb⟩;go_wp2;go_ret;exact⟨qac HM.out.symm,hb⟩

theorem qhh (s:ByteArray) (w:World) (hs:s.size≤1048576) :
  Calls Tryz.prog 95 #[.string s] w fun e w'=>e=.returned (.bool (levOk s.data.toList))∧Below w.heap.size w w':=by
 by_cases h0:s.data.toList = []
 ·have e0:=qir h0;have HM:Hid (levOk s.data.toList=false):=by unfold Hid levOk;simp[h0]
  clear h0;go_enter Tryz.func95,Tryz.ntmps95;go_wp2;go_ret;exact⟨qac HM.out.symm,Below.refl _ _⟩
 ·have e0:=qlm h0;cases hok:okT s.data.toList with
  |false=>
   have HM:Hid (levOk s.data.toList=false):=by unfold Hid levOk;simp[hok]
   have c:=qcn s w (by omega);rw[hok] at c;clear h0 hok;go_enter Tryz.func95,Tryz.ntmps95;go_wp2_with fail
   refine c.mono ?_;rintro e w1 ⟨rfl,hb⟩;go_wp2;go_ret;exact⟨qac HM.out.symm,hb⟩
  |true=>
   obtain⟨n,hN⟩ : ∃n,(lvl s.data.toList).length=n:=⟨_,rfl⟩;have HM:Hid (levOk s.data.toList=decide ((n:Int)≤6)):=by
    unfold Hid levOk;rw[hok,hN];simp only[ne_eq,h0,not_false_eq_true,decide_true,Bool.true_and]
    congr 1
    rw[eq_iff_iff];constructor<;>intro _<;>omega
   have HN:Hid ((lvl s.data.toList).length=n):=hN;have c:=qcn s w (by omega);rw[hok] at c;clear h0 hok hN;go_enter Tryz.func95,Tryz.ntmps95;go_wp2_with fail
   refine c.mono ?_;rintro e w1 ⟨rfl,hb⟩;go_wp2_with fail
   refine (qko s n w1 hs HN.out).mono ?_;rintro e w2 ⟨rfl,ho2,hb2⟩;go_wp2;go_ret;exact⟨qac HM.out.symm,bel2 hb hb2⟩

theorem qfx (s:ByteArray) (w:World) (hs:s.size≤1048576) :
  Calls Tryz.prog 93 #[.string s] w fun e w'=>e=.returned (.bool (topOk s.data.toList))∧Below w.heap.size w w':=by
 have c:=qhh s w hs;cases hl:levOk s.data.toList with
 |false=>
  have HM:Hid (topOk s.data.toList=false):=by unfold Hid topOk;rw[hl];rfl
  rw[hl] at c;clear hl;go_enter Tryz.func93,Tryz.ntmps93;go_wp2_with fail
  refine c.mono ?_;rintro e w1 ⟨rfl,hb⟩;go_wp2;go_ret;exact⟨qac HM.out.symm,hb⟩
 |true=>
  have HM:Hid (topOk s.data.toList = !wildB s.data.toList):=by unfold Hid topOk;rw[hl];rfl
  rw[hl] at c;clear hl;go_enter Tryz.func93,Tryz.ntmps93;go_wp2_with fail
  refine c.mono ?_;rintro e w1 ⟨rfl,hb⟩;go_wp2_with fail
  refine (qhu s _ hs).mono ?_;rintro e w2 ⟨rfl,hb2⟩;go_wp2;go_ret;exact⟨qac HM.out.symm,bel2 hb hb2⟩

theorem topOk_alt (l:List UInt8):topOk l=(okT l&&(decide (l≠[])&&(!has l 43&&(!has l 35&&decide ((lvl l).length≤6))))):=by
 unfold topOk levOk wildB;cases okT l<;>cases has l 43<;>cases has l 35<;>cases decide (l≠[])<;>cases decide ((lvl l).length≤6)<;>rfl

theorem qfy (s:ByteArray) (w:World) (hs:s.size≤1048576) :
  Calls Tryz.prog 50 #[.string s] w fun e w'=>e=.returned (.bool (topOk s.data.toList))∧Below w.heap.size w w':=by
 have HT:Hid (topOk s.data.toList=_):=topOk_alt s.data.toList;have c:=qco s w (by omega);have cp:=fun w=>qge s 43 43 rfl w hs
 have cn:=fun w=>qge s 35 35 rfl w hs
 cases hok:okT s.data.toList with
 |false=>
  have HM:Hid (topOk s.data.toList=false):=by unfold Hid;rw[HT.out,hok];rfl
  rw[hok] at c;clear hok;go_enter Tryz.func50,Tryz.ntmps50;go_wp2_with fail
  refine c.mono ?_;rintro e w1 ⟨rfl,hb⟩;go_wp2;go_ret;exact⟨qac HM.out.symm,hb⟩
 |true=>
  rw[hok] at c
  by_cases h0:s.data.toList = []
  ·have HM:Hid (topOk s.data.toList=false):=by unfold Hid;rw[HT.out,h0];simp
   have e0:=qir h0;clear hok h0;go_enter Tryz.func50,Tryz.ntmps50;go_wp2_with fail
   refine c.mono ?_;rintro e w1 ⟨rfl,hb⟩;go_wp2;go_ret;exact⟨qac HM.out.symm,hb⟩
  ·have e0:=qlm h0;cases hp:has s.data.toList 43 with
   |true=>
    have HM:Hid (topOk s.data.toList=false):=by unfold Hid;rw[HT.out,hp];simp
    rw[hp] at cp;clear hok h0 hp;go_enter Tryz.func50,Tryz.ntmps50;go_wp2_with fail
    refine c.mono ?_;rintro e w1 ⟨rfl,hb⟩;go_wp2_with fail
    refine (cp w1).mono ?_;rintro e w2 ⟨rfl,hw⟩;rw[hw];go_wp2;go_ret;exact⟨qac HM.out.symm,hb⟩
   |false=>
    rw[hp] at cp;cases hn:has s.data.toList 35 with
    |true=>
     have HM:Hid (topOk s.data.toList=false):=by unfold Hid;rw[HT.out,hn];simp
     rw[hn] at cn;clear hok h0 hp hn;go_enter Tryz.func50,Tryz.ntmps50;go_wp2_with fail
     refine c.mono ?_;rintro e w1 ⟨rfl,hb⟩;go_wp2_with fail
     refine (cp w1).mono ?_;rintro e w2 ⟨rfl,hw⟩;rw[hw];go_wp2_with fail
     refine (cn w1).mono ?_;rintro e w3 ⟨rfl,hw3⟩;rw[hw3];go_wp2;go_ret;exact⟨qac HM.out.symm,hb⟩
    |false=>
     rw[hn] at cn;obtain⟨n,hN⟩ : ∃n,(lvl s.data.toList).length=n:=⟨_,rfl⟩;have HM:Hid (topOk s.data.toList=decide ((n:Int)≤6)):=by
      unfold Hid;rw[HT.out,hok,hp,hn,hN];simp only[ne_eq,h0,not_false_eq_true,decide_true,Bool.true_and,Bool.not_false]
      congr 1
      rw[eq_iff_iff];constructor<;>intro _<;>omega
     have HN:Hid ((lvl s.data.toList).length=n):=hN;clear hok h0 hp hn hN;go_enter Tryz.func50,Tryz.ntmps50;go_wp2_with fail
     refine c.mono ?_;rintro e w1 ⟨rfl,hb⟩;go_wp2_with fail
     refine (cp w1).mono ?_;rintro e w2 ⟨rfl,hw⟩;rw[hw];go_wp2_with fail
     refine (cn w1).mono ?_;rintro e w3 ⟨rfl,hw3⟩;rw[hw3];go_wp2_with fail
     refine (qkp s n w1 hs HN.out).mono ?_;rintro e w4 ⟨ao,cap,rfl,ho4,hb4⟩;go_wp2;go_ret;exact⟨qac HM.out.symm,bel2 hb hb4⟩


theorem lvs_at (l:List UInt8) (k:Nat) (h:k<(lvl l).length):(st (lvs l) k).data.toList=(lvl l).getD k []:=by
 rw[←dats_at (lvs l) k (by rw[qcm];exact h),qmt]

theorem qhb (s:ByteArray) (w:World) (hs:s.size≤1048576) :
  Calls Tryz.prog 153 #[.string s] w fun e w'=>e=.returned (.bool (filOk s.data.toList))∧Below w.heap.size w w':=by
 have c:=qhh s w hs;cases hl:levOk s.data.toList with
 |false=>
  have HM:Hid (filOk s.data.toList=false):=by unfold Hid filOk;rw[hl];rfl
  rw[hl] at c;clear hl;go_enter Tryz.func153,Tryz.ntmps153;go_wp2_with fail
  refine c.mono ?_;rintro e w1 ⟨rfl,hb⟩;go_wp2;go_ret;exact⟨qac HM.out.symm,hb⟩
 |true=>
  have HM:Hid (filOk s.data.toList=qbi (lvl s.data.toList)):=by unfold Hid filOk;rw[hl];rfl
  rw[hl] at c;obtain⟨n,hN⟩ : ∃n,(lvl s.data.toList).length=n:=⟨_,rfl⟩;have hle:n≤s.size+1:=by rw[←hN];exact qcq s.data.toList
  have HN:Hid ((lvl s.data.toList).length=n):=hN;have HS:Hid (∀k,k<n→(st (lvs s.data.toList) k).size≤1048576):=fun k hk=>by
   have:=qkv s.data.toList k (by rw[qcm,hN];exact hk);have e1:s.size=s.data.toList.length:=rfl;omega
  have HX:Hid (∀k,k<n→(st (lvs s.data.toList) k).data.toList=(lvl s.data.toList).getD k []):=fun k hk=>lvs_at _ _ (by rw[hN];exact hk)
  have HD:Hid (∀k,k<n→qbi ((lvl s.data.toList).drop k)=(may ((lvl s.data.toList).getD k []) (decide (k+1=n))&&qbi ((lvl s.data.toList).drop (k+1)))):=fun k hk=>by
   have:=qkw (lvl s.data.toList) k (by rw[hN];exact hk);rw[hN] at this;exact this
  have HE:Hid (qbi ((lvl s.data.toList).drop n)=true):=qmg _ _ (by rw[hN];exact Nat.le_refl _);clear hl hN;go_enter Tryz.func153,Tryz.ntmps153;go_wp2_with fail
  refine c.mono ?_;rintro e w1 ⟨rfl,hb1⟩;go_wp2_with fail
  refine (qko s n w1 hs HN.out).mono ?_;rintro e w2 ⟨rfl,ho2,hb2⟩;have hr2:=ho2.rd;generalize lvs s.data.toList=ss at *;generalize lvl s.data.toList=ls at *;have hb12:=bel2 hb1 hb2;clear ho2 hb1 hb2 c;go_wp2
  go_loopw [13] (fun i wr=>∃k:Nat,i=.int .i64 k∧k≤n∧qbi ls=qbi (ls.drop k)∧Below w2.heap.size w2 wr) (fun i _=>n-(intOf i).toNat)
  case atStart=>exact⟨0,rfl,Nat.zero_le _,rfl,Below.refl _ _⟩
  case round=>
   obtain⟨k,rfl,hk,hm,hb⟩:=hrel;have HK:Hid (qbi ls=qbi (ls.drop k)):=hm;clear hm
   by_cases hlt:k<n
   ·obtain⟨b,off,e,hc⟩:=hr2.1.2 k hlt;have e:=e;simp only[Option.some.injEq,Addr.mk.injEq,and_true] at e;obtain⟨rfl,rfl⟩:=e;have hck:=(hb.cell (World.block_lt_of_cell? w2 _ hc)).trans hc;rw[Nat.zero_add] at hck;have hlt':(k:Int)<n:=by omega
    obtain⟨q,hq⟩ : ∃q,((k:Int)==(n:Int)-1)=q:=⟨_,rfl⟩;have hq2:q=decide (k+1=n):=by
     rw[←hq,Bool.eq_iff_iff,beq_iff_eq,decide_eq_true_eq];constructor<;>intro _<;>omega
    have HDK:=HD.out k hlt;rw[←hq2,←HX.out k hlt] at HDK;have HDK':Hid (qbi (ls.drop k)=(may (st ss k).data.toList q&&qbi (ls.drop (k+1)))):=HDK;have cm:=qjr (st ss k) q wr (HS.out k hlt);clear hc hq2 HDK;cases hmay:may (st ss k).data.toList q with
    |false=>
     rw[hmay] at cm;have HF:Hid (filOk s.data.toList=false):=by unfold Hid;rw[HM.out,HK.out,HDK'.out,hmay];rfl
     clear hmay;go_wp2_with fail
     refine cm.mono ?_;rintro e w3 ⟨rfl,hb3⟩;go_wp2;go_ret;exact⟨qac HF.out.symm,bel2 hb12 (bel2 hb hb3)⟩
    |true=>
     rw[hmay] at cm;have HF:Hid (qbi ls=qbi (ls.drop (k+1))):=by unfold Hid;rw[HK.out,HDK'.out,hmay];rfl
     clear hmay;go_wp2_with fail
     refine cm.mono ?_;rintro e w3 ⟨rfl,hb3⟩;go_wp2;go_roundw
     case rel=>exact⟨k+1,by go_num,by omega,HF.out,bel2 hb hb3⟩
     case measure=>simp[intOf]<;>omega
   ·have hlt':¬(k:Int)<n:=by omega
    obtain rfl:k=n:=by omega
    go_wp2;go_ret;exact⟨qac (by rw[HM.out,HK.out,HE.out]),bel2 hb12 hb⟩

theorem qhc (s:ByteArray) (w:World) (hs:s.size≤1048576) :
  Calls Tryz.prog 52 #[.string s] w fun e w'=>e=.returned (.bool (filOk s.data.toList))∧Below w.heap.size w w':=by
 obtain⟨n,hN⟩ : ∃n,(lvl s.data.toList).length=n:=⟨_,rfl⟩;have hle:n≤s.size+1:=by rw[←hN];exact qcq s.data.toList
 have HN:Hid ((lvl s.data.toList).length=n):=hN;have HM:Hid (filOk s.data.toList=((decide (s.data.toList≠[])&&(okT s.data.toList&&decide (n≤6)))&&qbi (lvl s.data.toList))):=by unfold Hid filOk levOk;rw[hN]
 have HS:Hid (∀k,k<n→(st (lvs s.data.toList) k).size≤1048576):=fun k hk=>by
  have:=qkv s.data.toList k (by rw[qcm,hN];exact hk);have e1:s.size=s.data.toList.length:=rfl;omega
 have HX:Hid (∀k,k<n→(st (lvs s.data.toList) k).data.toList=(lvl s.data.toList).getD k []):=fun k hk=>lvs_at _ _ (by rw[hN];exact hk)
 have HD:Hid (∀k,k<n→qbi ((lvl s.data.toList).drop k)=(may ((lvl s.data.toList).getD k []) (decide (k+1=n))&&qbi ((lvl s.data.toList).drop (k+1)))):=fun k hk=>by
  have:=qkw (lvl s.data.toList) k (by rw[hN];exact hk);rw[hN] at this;exact this
 have HE:Hid (qbi ((lvl s.data.toList).drop n)=true):=qmg _ _ (by rw[hN];exact Nat.le_refl _);clear hN;go_enter Tryz.func52,Tryz.ntmps52;go_wp2_with fail
 refine (qkp s n w hs HN.out).mono ?_;rintro e w2 ⟨ao,cap,rfl,ho2,hb12⟩;have hr2:=ho2.rd;generalize lvs s.data.toList=ss at *;generalize lvl s.data.toList=ls at *;clear ho2;go_wp2
 go_loop [4] (fun i=>∃k:Nat,i=.int .i64 k∧k≤n∧qbi ls=qbi (ls.drop k)) (fun i=>n-(intOf i).toNat)
 case atStart=>exact⟨0,rfl,Nat.zero_le _,rfl⟩
 case round=>
  obtain⟨k,rfl,hk,hm⟩:=hrel;have HK:Hid (qbi ls=qbi (ls.drop k)):=hm;clear hm
  by_cases hlt:k<n
  ·obtain⟨b,off,e,hc⟩:=hr2.1.2 k hlt;subst e;have hlt':(k:Int)<n:=by omega
   have HDK:=HD.out k hlt;rw[←HX.out k hlt] at HDK;have hsz:=HS.out k hlt;generalize st ss k=x at *;have cp:=fun w=>qge x 43 43 rfl w hsz
   have cn:=fun w=>qge x 35 35 rfl w hsz
   have hmay:=may_spec x.data.toList (decide (k+1=n));have HDK':Hid (qbi (ls.drop k)=(may x.data.toList (decide (k+1=n))&&qbi (ls.drop (k+1)))):=HDK;clear HDK;have bad:may x.data.toList (decide (k+1=n))=false→Hid (filOk s.data.toList=false):=fun h=>by
    unfold Hid;rw[HM.out,HK.out,HDK'.out,h];simp
   have good:may x.data.toList (decide (k+1=n))=true→Hid (qbi ls=qbi (ls.drop (k+1))):=fun h=>by
    unfold Hid;rw[HK.out,HDK'.out,h];rfl
   cases hp:has x.data.toList 43 with
   |true=>
    rw[hp] at cp hmay
    by_cases h1:x.data.toList = [43]
    ·have hn:has x.data.toList 35=false:=by rw[h1];rfl
     rw[hn] at cn hmay;have G:=good (by rw[hmay];simp[h1]);have e1:=qnk h1;clear bad good hmay h1 hn hp;go_wp2_with fail
     refine (cp w2).mono ?_;rintro e w3 ⟨rfl,hw⟩;rw[hw];go_wp2_with fail
     refine (cn w2).mono ?_;rintro e w4 ⟨rfl,hw4⟩;rw[hw4];go_wp2
     go_round
     case rel=>exact⟨k+1,by go_num,by omega,G.out⟩
     case measure=>simp[intOf]<;>omega
    ·have F:=bad (by rw[hmay];simp[h1]);have e1:=qjy h1;clear bad good hmay h1 hp;go_wp2_with fail
     refine (cp w2).mono ?_;rintro e w3 ⟨rfl,hw⟩;rw[hw];go_wp2;go_ret;exact⟨qac F.out.symm,hb12⟩
   |false=>
    rw[hp] at cp hmay;cases hn:has x.data.toList 35 with
    |false=>
     rw[hn] at cn hmay;have G:=good (by rw[hmay];rfl);clear bad good hmay hn hp;go_wp2_with fail
     refine (cp w2).mono ?_;rintro e w3 ⟨rfl,hw⟩;rw[hw];go_wp2_with fail
     refine (cn w2).mono ?_;rintro e w4 ⟨rfl,hw4⟩;rw[hw4];go_wp2
     go_round
     case rel=>exact⟨k+1,by go_num,by omega,G.out⟩
     case measure=>simp[intOf]<;>omega
    |true=>
     rw[hn] at cn hmay
     by_cases h1:x.data.toList = [35]
     ·have e1:=qnk h1
      by_cases hlast:k+1=n
      ·have G:=good (by rw[hmay];simp[h1,hlast]);have hl':¬(k:Int)<(n:Int)-1:=by omega
       clear bad good hmay hn hp h1;go_wp2_with fail
       refine (cp w2).mono ?_;rintro e w3 ⟨rfl,hw⟩;rw[hw];go_wp2_with fail
       refine (cn w2).mono ?_;rintro e w4 ⟨rfl,hw4⟩;rw[hw4];go_wp2
       go_round
       case rel=>exact⟨k+1,by go_num,by omega,G.out⟩
       case measure=>simp[intOf]<;>omega
      ·have F:=bad (by rw[hmay];simp[h1,hlast]);have hl':(k:Int)<(n:Int)-1:=by omega
       clear bad good hmay hn hp h1;go_wp2_with fail
       refine (cp w2).mono ?_;rintro e w3 ⟨rfl,hw⟩;rw[hw];go_wp2_with fail
       refine (cn w2).mono ?_;rintro e w4 ⟨rfl,hw4⟩;rw[hw4];go_wp2;go_ret;exact⟨qac F.out.symm,hb12⟩
     ·have F:=bad (by rw[hmay];simp[h1]);have e1:=qjy h1;clear bad good hmay hn hp h1;go_wp2_with fail
      refine (cp w2).mono ?_;rintro e w3 ⟨rfl,hw⟩;rw[hw];go_wp2_with fail
      refine (cn w2).mono ?_;rintro e w4 ⟨rfl,hw4⟩;rw[hw4];go_wp2;go_ret;exact⟨qac F.out.symm,hb12⟩
  ·have hlt':¬(k:Int)<n:=by omega
   obtain rfl:k=n:=by omega
   have c:=qco s w2 (by omega);have HA:Hid (qbi ls=true):=by unfold Hid;rw[HK.out,HE.out]
   have HM2:Hid (filOk s.data.toList=(decide (s.data.toList≠[])&&(okT s.data.toList&&decide (k≤6)))):=by unfold Hid;rw[HM.out,HA.out,Bool.and_true]
   cases hok:okT s.data.toList with
   |false=>
    have F:Hid (filOk s.data.toList=false):=by unfold Hid;rw[HM2.out,hok];simp
    rw[hok] at c;clear hok;go_wp2_with fail
    refine c.mono ?_;rintro e w3 ⟨rfl,hb3⟩;go_wp2;go_ret;exact⟨qac F.out.symm,bel2 hb12 hb3⟩
   |true=>
    rw[hok] at c
    by_cases h0:s.data.toList = []
    ·have F:Hid (filOk s.data.toList=false):=by unfold Hid;rw[HM2.out,h0];simp
     have e0:=qir h0;clear hok h0;go_wp2_with fail
     refine c.mono ?_;rintro e w3 ⟨rfl,hb3⟩;go_wp2;go_ret;exact⟨qac F.out.symm,bel2 hb12 hb3⟩
    ·have F:Hid (filOk s.data.toList=decide ((k:Int)≤6)):=by
      unfold Hid;rw[HM2.out,hok];simp only[ne_eq,h0,not_false_eq_true,decide_true,Bool.true_and]
      congr 1
      rw[eq_iff_iff];constructor<;>intro _<;>omega
     have e0:=qlm h0;clear hok h0;go_wp2_with fail
     refine c.mono ?_;rintro e w3 ⟨rfl,hb3⟩;go_wp2;go_ret;exact⟨qac F.out.symm,bel2 hb12 hb3⟩

