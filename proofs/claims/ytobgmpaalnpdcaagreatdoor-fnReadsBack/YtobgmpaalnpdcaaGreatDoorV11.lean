/- Lemmas. -/
import Derived.Test.YtobgmpaalnpdcaaGreatDoorV10
import Derived.Test.YtobgmpaalnpdcaaGreatDoorV09
set_option linter.unusedVariables false
set_option linter.unusedSimpArgs false
set_option maxRecDepth 100000
set_option maxHeartbeats 20000000
namespace Go.Proofs.YtobgmpaalnpdcaaGreatDoor
open Go.RowKit

theorem qri {s:ByteArray} {l:List UInt8} (h:s.data.toList=l):(s.toList==l)=true:=by
 rw[ByteArray.toList_eq,h];simp
theorem qnb {s:ByteArray} {l:List UInt8} (h:s.data.toList≠l):(s.toList==l)=false:=by
 rw[ByteArray.toList_eq];exact beq_eq_false_iff_ne.2 h
theorem qlw {s:ByteArray} (h:s.data.toList = []):s.toList.isEmpty=true:=by
 rw[ByteArray.toList_eq,h];rfl
theorem qpe {s:ByteArray} (h:s.data.toList≠[]):s.toList.isEmpty=false:=by
 rw[ByteArray.toList_eq];cases hl:s.data.toList with
 |nil=>exact absurd hl h
 |cons a r=>rfl

theorem qmw (s:ByteArray) (last:Bool) (w:World) (hs:s.size≤1048576) :
  Calls Tryz.prog 251 #[.string s,.bool last] w fun e w'=>e=.returned (.bool (may s.data.toList last))∧Below w.heap.size w w':=by
 by_cases h1:s.data.toList = [43]
 ·have e1:=qri h1;have HM:Hid (may s.data.toList last=true):=by unfold Hid may;rw[if_pos h1]
  clear h1;go_enter Tryz.func251,Tryz.ntmps251;go_wp2;go_ret;exact⟨qaa HM.out.symm,Below.refl _ _⟩
 ·have e1:=qnb h1
  by_cases h2:s.data.toList = [35]
  ·have e2:=qri h2;have HM:Hid (may s.data.toList last=last):=by unfold Hid may;rw[if_neg h1,if_pos h2]
   clear h1 h2;go_enter Tryz.func251,Tryz.ntmps251;go_wp2;go_ret;exact⟨qaa HM.out.symm,Below.refl _ _⟩
  ·have e2:=qnb h2;have HM:Hid (may s.data.toList last = !wildB s.data.toList):=by unfold Hid may;rw[if_neg h1,if_neg h2]
   clear h1 h2;go_enter Tryz.func251,Tryz.ntmps251;go_wp2_with fail
   refine (qky s _ hs).mono ?_;rintro e w1 ⟨rfl,hb⟩;go_wp2;go_ret;exact⟨qaa HM.out.symm,hb⟩

theorem qkg (s:ByteArray) (w:World) (hs:s.size≤1048576) :
  Calls Tryz.prog 196 #[.string s] w fun e w'=>e=.returned (.bool (levOk s.data.toList))∧Below w.heap.size w w':=by
 by_cases h0:s.data.toList = []
 ·have e0:=qlw h0;have HM:Hid (levOk s.data.toList=false):=by unfold Hid levOk;simp[h0]
  clear h0;go_enter Tryz.func196,Tryz.ntmps196;go_wp2;go_ret;exact⟨qaa HM.out.symm,Below.refl _ _⟩
 ·have e0:=qpe h0;cases hok:okT s.data.toList with
  |false=>
   have HM:Hid (levOk s.data.toList=false):=by unfold Hid levOk;simp[hok]
   have c:=qcp s w (by omega);rw[hok] at c;clear h0 hok;go_enter Tryz.func196,Tryz.ntmps196;go_wp2_with fail
   refine c.mono ?_;rintro e w1 ⟨rfl,hb⟩;go_wp2;go_ret;exact⟨qaa HM.out.symm,hb⟩
  |true=>
   obtain⟨n,hN⟩ : ∃n,(lvl s.data.toList).length=n:=⟨_,rfl⟩;have HM:Hid (levOk s.data.toList=decide ((n:Int)≤6)):=by
    unfold Hid levOk;rw[hok,hN];simp only[ne_eq,h0,not_false_eq_true,decide_true,Bool.true_and]
    congr 1
    rw[eq_iff_iff];constructor<;>intro _<;>omega
   have HN:Hid ((lvl s.data.toList).length=n):=hN;have c:=qcp s w (by omega);rw[hok] at c;clear h0 hok hN;go_enter Tryz.func196,Tryz.ntmps196;go_wp2_with fail
   refine c.mono ?_;rintro e w1 ⟨rfl,hb⟩;go_wp2_with fail
   refine (qnz s n w1 hs HN.out).mono ?_;rintro e w2 ⟨rfl,ho2,hb2⟩;go_wp2;go_ret;exact⟨qaa HM.out.symm,bel2 hb hb2⟩

theorem qis (s:ByteArray) (w:World) (hs:s.size≤1048576) :
  Calls Tryz.prog 195 #[.string s] w fun e w'=>e=.returned (.bool (topOk s.data.toList))∧Below w.heap.size w w':=by
 have c:=qkg s w hs;cases hl:levOk s.data.toList with
 |false=>
  have HM:Hid (topOk s.data.toList=false):=by unfold Hid topOk;rw[hl];rfl
  rw[hl] at c;clear hl;go_enter Tryz.func195,Tryz.ntmps195;go_wp2_with fail
  refine c.mono ?_;rintro e w1 ⟨rfl,hb⟩;go_wp2;go_ret;exact⟨qaa HM.out.symm,hb⟩
 |true=>
  have HM:Hid (topOk s.data.toList = !wildB s.data.toList):=by unfold Hid topOk;rw[hl];rfl
  rw[hl] at c;clear hl;go_enter Tryz.func195,Tryz.ntmps195;go_wp2_with fail
  refine c.mono ?_;rintro e w1 ⟨rfl,hb⟩;go_wp2_with fail
  refine (qky s _ hs).mono ?_;rintro e w2 ⟨rfl,hb2⟩;go_wp2;go_ret;exact⟨qaa HM.out.symm,bel2 hb hb2⟩

theorem topOk_alt (l:List UInt8):topOk l=(okT l&&(decide (l≠[])&&(!has l 43&&(!has l 35&&decide ((lvl l).length≤6))))):=by
 unfold topOk levOk wildB;cases okT l<;>cases has l 43<;>cases has l 35<;>cases decide (l≠[])<;>cases decide ((lvl l).length≤6)<;>rfl

theorem qit (s:ByteArray) (w:World) (hs:s.size≤1048576) :
  Calls Tryz.prog 71 #[.string s] w fun e w'=>e=.returned (.bool (topOk s.data.toList))∧Below w.heap.size w w':=by
 have HT:Hid (topOk s.data.toList=_):=topOk_alt s.data.toList;have c:=qcq s w (by omega);have cp:=fun w=>qja s 43 43 rfl w hs
 have cn:=fun w=>qja s 35 35 rfl w hs
 cases hok:okT s.data.toList with
 |false=>
  have HM:Hid (topOk s.data.toList=false):=by unfold Hid;rw[HT.out,hok];rfl
  rw[hok] at c;clear hok;go_enter Tryz.func71,Tryz.ntmps71;go_wp2_with fail
  refine c.mono ?_;rintro e w1 ⟨rfl,hb⟩;go_wp2;go_ret;exact⟨qaa HM.out.symm,hb⟩
 |true=>
  rw[hok] at c
  by_cases h0:s.data.toList = []
  ·have HM:Hid (topOk s.data.toList=false):=by unfold Hid;rw[HT.out,h0];simp
   have e0:=qlw h0;clear hok h0;go_enter Tryz.func71,Tryz.ntmps71;go_wp2_with fail
   refine c.mono ?_;rintro e w1 ⟨rfl,hb⟩;go_wp2;go_ret;exact⟨qaa HM.out.symm,hb⟩
  ·have e0:=qpe h0;cases hp:has s.data.toList 43 with
   |true=>
    have HM:Hid (topOk s.data.toList=false):=by unfold Hid;rw[HT.out,hp];simp
    rw[hp] at cp;clear hok h0 hp;go_enter Tryz.func71,Tryz.ntmps71;go_wp2_with fail
    refine c.mono ?_;rintro e w1 ⟨rfl,hb⟩;go_wp2_with fail
    refine (cp w1).mono ?_;rintro e w2 ⟨rfl,hw⟩;rw[hw];go_wp2;go_ret;exact⟨qaa HM.out.symm,hb⟩
   |false=>
    rw[hp] at cp;cases hn:has s.data.toList 35 with
    |true=>
     have HM:Hid (topOk s.data.toList=false):=by unfold Hid;rw[HT.out,hn];simp
     rw[hn] at cn;clear hok h0 hp hn;go_enter Tryz.func71,Tryz.ntmps71;go_wp2_with fail
     refine c.mono ?_;rintro e w1 ⟨rfl,hb⟩;go_wp2_with fail
     refine (cp w1).mono ?_;rintro e w2 ⟨rfl,hw⟩;rw[hw];go_wp2_with fail
     refine (cn w1).mono ?_;rintro e w3 ⟨rfl,hw3⟩;rw[hw3];go_wp2;go_ret;exact⟨qaa HM.out.symm,hb⟩
    |false=>
     rw[hn] at cn;obtain⟨n,hN⟩ : ∃n,(lvl s.data.toList).length=n:=⟨_,rfl⟩;have HM:Hid (topOk s.data.toList=decide ((n:Int)≤6)):=by
      unfold Hid;rw[HT.out,hok,hp,hn,hN];simp only[ne_eq,h0,not_false_eq_true,decide_true,Bool.true_and,Bool.not_false]
      congr 1
      rw[eq_iff_iff];constructor<;>intro _<;>omega
     have HN:Hid ((lvl s.data.toList).length=n):=hN;clear hok h0 hp hn hN;go_enter Tryz.func71,Tryz.ntmps71;go_wp2_with fail
     refine c.mono ?_;rintro e w1 ⟨rfl,hb⟩;go_wp2_with fail
     refine (cp w1).mono ?_;rintro e w2 ⟨rfl,hw⟩;rw[hw];go_wp2_with fail
     refine (cn w1).mono ?_;rintro e w3 ⟨rfl,hw3⟩;rw[hw3];go_wp2_with fail
     refine (qoa s n w1 hs HN.out).mono ?_;rintro e w4 ⟨ao,cap,rfl,ho4,hb4⟩;go_wp2;go_ret;exact⟨qaa HM.out.symm,bel2 hb hb4⟩


theorem lvs_at (l:List UInt8) (k:Nat) (h:k<(lvl l).length):(st (lvs l) k).data.toList=(lvl l).getD k []:=by
 rw[←dats_at (lvs l) k (by rw[qdl];exact h),qqn]

theorem qkb (s:ByteArray) (w:World) (hs:s.size≤1048576) :
  Calls Tryz.prog 250 #[.string s] w fun e w'=>e=.returned (.bool (filOk s.data.toList))∧Below w.heap.size w w':=by
 have c:=qkg s w hs;cases hl:levOk s.data.toList with
 |false=>
  have HM:Hid (filOk s.data.toList=false):=by unfold Hid filOk;rw[hl];rfl
  rw[hl] at c;clear hl;go_enter Tryz.func250,Tryz.ntmps250;go_wp2_with fail
  refine c.mono ?_;rintro e w1 ⟨rfl,hb⟩;go_wp2;go_ret;exact⟨qaa HM.out.symm,hb⟩
 |true=>
  have HM:Hid (filOk s.data.toList=qbm (lvl s.data.toList)):=by unfold Hid filOk;rw[hl];rfl
  rw[hl] at c;obtain⟨n,hN⟩ : ∃n,(lvl s.data.toList).length=n:=⟨_,rfl⟩;have hle:n≤s.size+1:=by rw[←hN];exact qdv s.data.toList
  have HN:Hid ((lvl s.data.toList).length=n):=hN;have HS:Hid (∀k,k<n→(st (lvs s.data.toList) k).size≤1048576):=fun k hk=>by
   have:=qog s.data.toList k (by rw[qdl,hN];exact hk);have e1:s.size=s.data.toList.length:=rfl;omega
  have HX:Hid (∀k,k<n→(st (lvs s.data.toList) k).data.toList=(lvl s.data.toList).getD k []):=fun k hk=>lvs_at _ _ (by rw[hN];exact hk)
  have HD:Hid (∀k,k<n→qbm ((lvl s.data.toList).drop k)=(may ((lvl s.data.toList).getD k []) (decide (k+1=n))&&qbm ((lvl s.data.toList).drop (k+1)))):=fun k hk=>by
   have:=qoh (lvl s.data.toList) k (by rw[hN];exact hk);rw[hN] at this;exact this
  have HE:Hid (qbm ((lvl s.data.toList).drop n)=true):=qqe _ _ (by rw[hN];exact Nat.le_refl _);clear hl hN;go_enter Tryz.func250,Tryz.ntmps250;go_wp2_with fail
  refine c.mono ?_;rintro e w1 ⟨rfl,hb1⟩;go_wp2_with fail
  refine (qnz s n w1 hs HN.out).mono ?_;rintro e w2 ⟨rfl,ho2,hb2⟩;have hr2:=ho2.rd;generalize lvs s.data.toList=ss at *;generalize lvl s.data.toList=ls at *;have hb12:=bel2 hb1 hb2;clear ho2 hb1 hb2 c;go_wp2
  go_loopw [13] (fun i wr=>∃k:Nat,i=.int .i64 k∧k≤n∧qbm ls=qbm (ls.drop k)∧Below w2.heap.size w2 wr) (fun i _=>n-(intOf i).toNat)
  case atStart=>exact⟨0,rfl,Nat.zero_le _,rfl,Below.refl _ _⟩
  case round=>
   obtain⟨k,rfl,hk,hm,hb⟩:=hrel;have HK:Hid (qbm ls=qbm (ls.drop k)):=hm;clear hm
   by_cases hlt:k<n
   ·obtain⟨b,off,e,hc⟩:=hr2.1.2 k hlt;have e:=e;simp only[Option.some.injEq,Addr.mk.injEq,and_true] at e;obtain⟨rfl,rfl⟩:=e;have hck:=(hb.cell (World.block_lt_of_cell? w2 _ hc)).trans hc;rw[Nat.zero_add] at hck;have hlt':(k:Int)<n:=by omega
    obtain⟨q,hq⟩ : ∃q,((k:Int)==(n:Int)-1)=q:=⟨_,rfl⟩;have hq2:q=decide (k+1=n):=by
     rw[←hq,Bool.eq_iff_iff,beq_iff_eq,decide_eq_true_eq];constructor<;>intro _<;>omega
    have HDK:=HD.out k hlt;rw[←hq2,←HX.out k hlt] at HDK;have HDK':Hid (qbm (ls.drop k)=(may (st ss k).data.toList q&&qbm (ls.drop (k+1)))):=HDK;have cm:=qmw (st ss k) q wr (HS.out k hlt);clear hc hq2 HDK;cases hmay:may (st ss k).data.toList q with
    |false=>
     rw[hmay] at cm;have HF:Hid (filOk s.data.toList=false):=by unfold Hid;rw[HM.out,HK.out,HDK'.out,hmay];rfl
     clear hmay;go_wp2_with fail
     refine cm.mono ?_;rintro e w3 ⟨rfl,hb3⟩;go_wp2;go_ret;exact⟨qaa HF.out.symm,bel2 hb12 (bel2 hb hb3)⟩
    |true=>
     rw[hmay] at cm;have HF:Hid (qbm ls=qbm (ls.drop (k+1))):=by unfold Hid;rw[HK.out,HDK'.out,hmay];rfl
     clear hmay;go_wp2_with fail
     refine cm.mono ?_;rintro e w3 ⟨rfl,hb3⟩;go_wp2;go_roundw
     case rel=>exact⟨k+1,by go_num,by omega,HF.out,bel2 hb hb3⟩
     case measure=>simp[intOf]<;>omega
   ·have hlt':¬(k:Int)<n:=by omega
    obtain rfl:k=n:=by omega
    go_wp2;go_ret;exact⟨qaa (by rw[HM.out,HK.out,HE.out]),bel2 hb12 hb⟩

theorem qkc (s:ByteArray) (w:World) (hs:s.size≤1048576) :
  Calls Tryz.prog 73 #[.string s] w fun e w'=>e=.returned (.bool (filOk s.data.toList))∧Below w.heap.size w w':=by
 obtain⟨n,hN⟩ : ∃n,(lvl s.data.toList).length=n:=⟨_,rfl⟩;have hle:n≤s.size+1:=by rw[←hN];exact qdv s.data.toList
 have HN:Hid ((lvl s.data.toList).length=n):=hN;have HM:Hid (filOk s.data.toList=((decide (s.data.toList≠[])&&(okT s.data.toList&&decide (n≤6)))&&qbm (lvl s.data.toList))):=by unfold Hid filOk levOk;rw[hN]
 have HS:Hid (∀k,k<n→(st (lvs s.data.toList) k).size≤1048576):=fun k hk=>by
  have:=qog s.data.toList k (by rw[qdl,hN];exact hk);have e1:s.size=s.data.toList.length:=rfl;omega
 have HX:Hid (∀k,k<n→(st (lvs s.data.toList) k).data.toList=(lvl s.data.toList).getD k []):=fun k hk=>lvs_at _ _ (by rw[hN];exact hk)
 have HD:Hid (∀k,k<n→qbm ((lvl s.data.toList).drop k)=(may ((lvl s.data.toList).getD k []) (decide (k+1=n))&&qbm ((lvl s.data.toList).drop (k+1)))):=fun k hk=>by
  have:=qoh (lvl s.data.toList) k (by rw[hN];exact hk);rw[hN] at this;exact this
 have HE:Hid (qbm ((lvl s.data.toList).drop n)=true):=qqe _ _ (by rw[hN];exact Nat.le_refl _);clear hN;go_enter Tryz.func73,Tryz.ntmps73;go_wp2_with fail
 refine (qoa s n w hs HN.out).mono ?_;rintro e w2 ⟨ao,cap,rfl,ho2,hb12⟩;have hr2:=ho2.rd;generalize lvs s.data.toList=ss at *;generalize lvl s.data.toList=ls at *;clear ho2;go_wp2
 go_loop [4] (fun i=>∃k:Nat,i=.int .i64 k∧k≤n∧qbm ls=qbm (ls.drop k)) (fun i=>n-(intOf i).toNat)
 case atStart=>exact⟨0,rfl,Nat.zero_le _,rfl⟩
 case round=>
  obtain⟨k,rfl,hk,hm⟩:=hrel;have HK:Hid (qbm ls=qbm (ls.drop k)):=hm;clear hm
  by_cases hlt:k<n
  ·obtain⟨b,off,e,hc⟩:=hr2.1.2 k hlt;subst e;have hlt':(k:Int)<n:=by omega
   have HDK:=HD.out k hlt;rw[←HX.out k hlt] at HDK;have hsz:=HS.out k hlt;generalize st ss k=x at *;have cp:=fun w=>qja x 43 43 rfl w hsz
   have cn:=fun w=>qja x 35 35 rfl w hsz
   have hmay:=may_spec x.data.toList (decide (k+1=n));have HDK':Hid (qbm (ls.drop k)=(may x.data.toList (decide (k+1=n))&&qbm (ls.drop (k+1)))):=HDK;clear HDK;have bad:may x.data.toList (decide (k+1=n))=false→Hid (filOk s.data.toList=false):=fun h=>by
    unfold Hid;rw[HM.out,HK.out,HDK'.out,h];simp
   have good:may x.data.toList (decide (k+1=n))=true→Hid (qbm ls=qbm (ls.drop (k+1))):=fun h=>by
    unfold Hid;rw[HK.out,HDK'.out,h];rfl
   cases hp:has x.data.toList 43 with
   |true=>
    rw[hp] at cp hmay
    by_cases h1:x.data.toList = [43]
    ·have hn:has x.data.toList 35=false:=by rw[h1];rfl
     rw[hn] at cn hmay;have G:=good (by rw[hmay];simp[h1]);have e1:=qri h1;clear bad good hmay h1 hn hp;go_wp2_with fail
     refine (cp w2).mono ?_;rintro e w3 ⟨rfl,hw⟩;rw[hw];go_wp2_with fail
     refine (cn w2).mono ?_;rintro e w4 ⟨rfl,hw4⟩;rw[hw4];go_wp2
     go_round
     case rel=>exact⟨k+1,by go_num,by omega,G.out⟩
     case measure=>simp[intOf]<;>omega
    ·have F:=bad (by rw[hmay];simp[h1]);have e1:=qnb h1;clear bad good hmay h1 hp;go_wp2_with fail
     refine (cp w2).mono ?_;rintro e w3 ⟨rfl,hw⟩;rw[hw];go_wp2;go_ret;exact⟨qaa F.out.symm,hb12⟩
   |false=>
    rw[hp] at cp hmay;cases hn:has x.data.toList 35 with
    |false=>
     rw[hn] at cn hmay;have G:=good (by rw[hmay];rfl);clear bad good hmay hn hp;go_wp2_with fail
     refine (cp w2).mono ?_;rintro e w3 ⟨rfl,hw⟩;rw[hw];go_wp2_with fail
     refine (cn w2).mono ?_;rintro e w4 ⟨rfl,hw4⟩;rw[hw4];go_wp2
     go_round
     case rel=>exact⟨k+1,by go_num,by omega,G.out⟩
     case measure=>simp[intOf]<;>omega
    |true=>
     rw[hn] at cn hmay
     by_cases h1:x.data.toList = [35]
     ·have e1:=qri h1
      by_cases hlast:k+1=n
      ·have G:=good (by rw[hmay];simp[h1,hlast]);have hl':¬(k:Int)<(n:Int)-1:=by omega
       clear bad good hmay hn hp h1;go_wp2_with fail
       refine (cp w2).mono ?_;rintro e w3 ⟨rfl,hw⟩;rw[hw];go_wp2_with fail
       refine (cn w2).mono ?_;rintro e w4 ⟨rfl,hw4⟩;rw[hw4];go_wp2
       go_round
       case rel=>exact⟨k+1,by go_num,by omega,G.out⟩
       case measure=>simp[intOf]<;>omega
      ·have F:=bad (by rw[hmay];simp[h1,hlast]);have hl':(k:Int)<(n:Int)-1:=by omega
       clear bad good hmay hn hp h1;go_wp2_with fail
       refine (cp w2).mono ?_;rintro e w3 ⟨rfl,hw⟩;rw[hw];go_wp2_with fail
       refine (cn w2).mono ?_;rintro e w4 ⟨rfl,hw4⟩;rw[hw4];go_wp2;go_ret;exact⟨qaa F.out.symm,hb12⟩
     ·have F:=bad (by rw[hmay];simp[h1]);have e1:=qnb h1;clear bad good hmay hn hp h1;go_wp2_with fail
      refine (cp w2).mono ?_;rintro e w3 ⟨rfl,hw⟩;rw[hw];go_wp2_with fail
      refine (cn w2).mono ?_;rintro e w4 ⟨rfl,hw4⟩;rw[hw4];go_wp2;go_ret;exact⟨qaa F.out.symm,hb12⟩
  ·have hlt':¬(k:Int)<n:=by omega
   obtain rfl:k=n:=by omega
   have c:=qcq s w2 (by omega);have HA:Hid (qbm ls=true):=by unfold Hid;rw[HK.out,HE.out]
   have HM2:Hid (filOk s.data.toList=(decide (s.data.toList≠[])&&(okT s.data.toList&&decide (k≤6)))):=by unfold Hid;rw[HM.out,HA.out,Bool.and_true]
   cases hok:okT s.data.toList with
   |false=>
    have F:Hid (filOk s.data.toList=false):=by unfold Hid;rw[HM2.out,hok];simp
    rw[hok] at c;clear hok;go_wp2_with fail
    refine c.mono ?_;rintro e w3 ⟨rfl,hb3⟩;go_wp2;go_ret;exact⟨qaa F.out.symm,bel2 hb12 hb3⟩
   |true=>
    rw[hok] at c
    by_cases h0:s.data.toList = []
    ·have F:Hid (filOk s.data.toList=false):=by unfold Hid;rw[HM2.out,h0];simp
     have e0:=qlw h0;clear hok h0;go_wp2_with fail
     refine c.mono ?_;rintro e w3 ⟨rfl,hb3⟩;go_wp2;go_ret;exact⟨qaa F.out.symm,bel2 hb12 hb3⟩
    ·have F:Hid (filOk s.data.toList=decide ((k:Int)≤6)):=by
      unfold Hid;rw[HM2.out,hok];simp only[ne_eq,h0,not_false_eq_true,decide_true,Bool.true_and]
      congr 1
      rw[eq_iff_iff];constructor<;>intro _<;>omega
     have e0:=qpe h0;clear hok h0;go_wp2_with fail
     refine c.mono ?_;rintro e w3 ⟨rfl,hb3⟩;go_wp2;go_ret;exact⟨qaa F.out.symm,bel2 hb12 hb3⟩


def qpf:List ByteArray:=[⟨#[97]⟩,⟨#[98]⟩,⟨#[97,47,98]⟩,⟨#[97,47,99]⟩,⟨#[97,47,98,47,99]⟩,⟨#[97,47,98,47,99,47,100]⟩,⟨#[36,115]⟩,⟨#[36,115,47,97]⟩,⟨#[47]⟩,⟨#[97,47]⟩,⟨#[47,97]⟩,⟨#[98,47,98]⟩,⟨#[195,169,47,97]⟩]
theorem qpg:∀s∈qpf,s.size≤61:=by decide +kernel
def qld:List ByteArray:=[⟨#[35]⟩,⟨#[43]⟩,⟨#[97,47,35]⟩,⟨#[97,47,43]⟩,⟨#[43,47,98]⟩,⟨#[43,47,43]⟩,⟨#[97,47,43,47,99]⟩,⟨#[97,47,98,47,35]⟩,⟨#[36,115,47,35]⟩,⟨#[36,115,47,43]⟩,⟨#[43,47,35]⟩,⟨#[47,43]⟩,⟨#[47,35]⟩,⟨#[97,47,43,47,35]⟩,⟨#[98,47,35]⟩,⟨#[43,47,98,47,43]⟩]
theorem qmc:∀s∈qld,s.size≤61:=by decide +kernel
def others:List ByteArray:=[⟨#[]⟩,⟨#[97,43]⟩,⟨#[97,47,98,43]⟩,⟨#[43,97]⟩,⟨#[35,47,97]⟩,⟨#[97,35]⟩,⟨#[97,47,35,47,98]⟩,⟨#[35,35]⟩,⟨#[43,43]⟩,⟨#[97,47,98,47,99,47,100,47,101,47,102]⟩,⟨#[97,47,98,47,99,47,100,47,101,47,102,47,103]⟩,⟨#[47,47,47,47,47]⟩,⟨#[47,47,47,47,47,47]⟩,⟨#[0]⟩,⟨#[255]⟩,⟨#[49,50,51,52,53,54,55,56,57,48,49,50,51,52,53,54,55,56,57,48,49,50,51,52,53,54,55,56,57,48,49,50,51,52,53,54,55,56,57,48,49,50,51,52,53,54,55,56,57,48,49,50,51,52,53,54,55,56,57,48,49]⟩]
theorem qtz:∀s∈others,s.size≤61:=by decide +kernel

theorem qml (g:Nat) (ao:Option Addr) (n cap:Nat) (l:List UInt8) (w:World) (hc:Cur w g ao n cap l) (hn:n≤1048576) :
  Calls Tryz.prog 144 #[.pointer (some ⟨g,0,none⟩)] w fun e w'=>∃s:ByteArray,s.size≤61∧e=.returned (.string s)∧Cur w' g ao n cap l∧w.grownBy w' (some g):=by
 have hlt:=hc.lt;go_enter Tryz.func144,Tryz.ntmps144;go_wp2_with fail
 refine (qem g ao n cap l w.heap.size 13 13 qpf _ (hc.alloc _) hn (by omega) (by omega) rfl (fun i hi=>qen w qpf 9 i hi) (by omega)).mono ?_;rintro e w1 ⟨s,hs,rfl,hc1,hg1⟩;have hz:=qpg s hs;clear hs;go_wp2;go_ret;exact⟨s,hz,rfl,hc1,qad (World.grownBy_alloc _ _ _) hg1⟩

theorem qqo (g:Nat) (ao:Option Addr) (n cap:Nat) (l:List UInt8) (w:World) (hc:Cur w g ao n cap l) (hn:n≤1048576) :
  Calls Tryz.prog 145 #[.pointer (some ⟨g,0,none⟩)] w fun e w'=>∃s:ByteArray,s.size≤61∧e=.returned (.string s)∧Cur w' g ao n cap l∧w.grownBy w' (some g):=by
 go_enter Tryz.func145,Tryz.ntmps145;go_wp2_with fail
 refine (qax g ao n cap l 3 _ hc hn (by omega) (by omega)).mono ?_;rintro e w1 ⟨b,rfl,hc1,hg1⟩;cases b with
 |true=>
  go_wp2_with fail
  refine (qml g ao n cap l _ hc1 hn).mono ?_;rintro e w2 ⟨s,hz,rfl,hc2,hg2⟩;go_wp2;go_ret;exact⟨s,hz,rfl,hc2,qad hg1 hg2⟩
 |false=>
  have hlt:=hc1.lt;go_wp2_with fail
  refine (qem g ao n cap l w1.heap.size 16 16 qld _ (hc1.alloc _) hn (by omega) (by omega) rfl (fun i hi=>qen w1 qld 9 i hi) (by omega)).mono ?_;rintro e w2 ⟨s,hs,rfl,hc2,hg2⟩;have hz:=qmc s hs;clear hs;go_wp2;go_ret;exact⟨s,hz,rfl,hc2,qad hg1 (qad (World.grownBy_alloc _ _ _) hg2)⟩

theorem qgk (g:Nat) (ao:Option Addr) (n cap:Nat) (l:List UInt8) (w:World) (hc:Cur w g ao n cap l) (hn:n≤1048576) :
  Calls Tryz.prog 110 #[.pointer (some ⟨g,0,none⟩)] w fun e w'=>∃s:ByteArray,s.size≤61∧e=.returned (.string s)∧Cur w' g ao n cap l∧w.grownBy w' (some g):=by
 go_enter Tryz.func110,Tryz.ntmps110;go_wp2_with fail
 refine (qag g ao n cap l 3 _ hc hn (by omega) (by omega)).mono ?_;rintro e w1 ⟨x,hx0,hx1,rfl,hc1,hg1⟩
 rcases (show x=0∨x=1∨x=2 by omega) with rfl | rfl | rfl
 ·go_wp2_with fail
  refine (qml g ao n cap l _ hc1 hn).mono ?_;rintro e w2 ⟨s,hz,rfl,hc2,hg2⟩;go_wp2;go_ret;exact⟨s,hz,rfl,hc2,qad hg1 hg2⟩
 ·go_wp2_with fail
  refine (qqo g ao n cap l _ hc1 hn).mono ?_;rintro e w2 ⟨s,hz,rfl,hc2,hg2⟩;go_wp2;go_ret;exact⟨s,hz,rfl,hc2,qad hg1 hg2⟩
 ·have hlt:=hc1.lt;go_wp2_with fail
  refine (qem g ao n cap l w1.heap.size 16 16 others _ (hc1.alloc _) hn (by omega) (by omega) rfl (fun i hi=>qen w1 others 9 i hi) (by omega)).mono ?_;rintro e w2 ⟨s,hs,rfl,hc2,hg2⟩;have hz:=qtz s hs;clear hs;go_wp2;go_ret;exact⟨s,hz,rfl,hc2,qad hg1 (qad (World.grownBy_alloc _ _ _) hg2)⟩

