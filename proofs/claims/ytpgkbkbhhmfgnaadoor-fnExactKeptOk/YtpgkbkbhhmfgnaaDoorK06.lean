/- Lemmas. -/
import Derived.Shelf.Strings.BuilderX
import Derived.Lib.Builder
import Derived.Lib.UnsafeStr
import Derived.Laws.Externs
import Derived.Lib.SplitLaws
import Derived.Lib.OthersKept
import Derived.Lib.IndexAny
import Derived.Deep.Quiet
import Derived.WalkMore
import Derived.Test.YtpgkbkbhhmfgnaaDoorK05
set_option linter.unusedVariables false
set_option linter.unusedSimpArgs false
set_option maxRecDepth 100000
set_option maxHeartbeats 20000000
namespace Go.Proofs.YtpgkbkbhhmfgnaaDoor
open Go.RowKit

def lvs (l:List UInt8):List ByteArray:=(lvl l).map fun x=>⟨x.toArray⟩
theorem qaz (l:List UInt8):dats (lvs l)=lvl l:=by
 unfold dats lvs;rw[List.map_map];exact List.map_id'' (fun x=>rfl) _
theorem qba (l:List UInt8):(lvs l).length=(lvl l).length:=by simp[lvs]
theorem lvs_of {ss:List ByteArray} {l:List UInt8} (h:dats ss=lvl l):ss=lvs l:=dats_inj (by rw[h,qaz])
theorem qan:∀l:List UInt8,(lvl l).length≤l.length+1
 |[]=>Nat.le_refl _
 |c :: r=>by
  have:=qan r
  by_cases h:c=47
  ·subst h;rw[qbw];simp;exact this
  ·rw[qbv h,pre_length _ (qgg r),List.length_cons];omega

def LvInv (l:List UInt8) (done:List (List UInt8)) (f k:Nat):Prop :=
 f≤k∧done.length≤k∧((k≤l.length∧lvl l=done++pre ((l.drop f).take (k-f)) (lvl (l.drop k)))∨(k=l.length+1∧done=lvl l))

theorem LvInv.start (l:List UInt8):LvInv l [] 0 0:=⟨Nat.le_refl _,Nat.le_refl _,.inl ⟨Nat.zero_le _,by simp[pre_nil (qgg l)]⟩⟩
theorem LvInv.skip {l:List UInt8} {done:List (List UInt8)} {f k:Nat} (h:LvInv l done f k) (hk:k<l.length) (hc:l.getD k 0≠47):LvInv l done f (k+1):=by
 obtain⟨hf,hd,h | ⟨h,_⟩⟩:=h
 ·refine⟨by omega,by omega,.inl ⟨hk,?_⟩⟩;have e:l.drop k=l.getD k 0 :: l.drop (k+1):=by
   rw[List.drop_eq_getElem_cons hk];simp[List.getD_eq_getElem?_getD,List.getElem?_eq_getElem hk]
  rw[h.2,e,qbv hc,pre_pre]
  congr 2
  have hlen:k-f<(l.drop f).length:=by rw[List.length_drop];omega
  rw[show k+1-f=k-f+1 by omega,List.take_succ_eq_append_getElem hlen,List.getElem_drop]
  congr 2
  simp only[List.getD_eq_getElem?_getD,show f+(k-f)=k by omega,List.getElem?_eq_getElem hk,Option.getD_some]
 ·omega
theorem LvInv.cut {l:List UInt8} {done:List (List UInt8)} {f k:Nat} (h:LvInv l done f k) (hk:k<l.length) (hc:l.getD k 0=47):LvInv l (done++[(l.drop f).take (k-f)]) (k+1) (k+1):=by
 obtain⟨hf,hd,h | ⟨h,_⟩⟩:=h
 ·refine⟨Nat.le_refl _,by simp;omega,.inl ⟨hk,?_⟩⟩;have e:l.drop k=l.getD k 0 :: l.drop (k+1):=by
   rw[List.drop_eq_getElem_cons hk];simp[List.getD_eq_getElem?_getD,List.getElem?_eq_getElem hk]
  rw[h.2,e,hc,qbw,Nat.sub_self,List.take_zero,pre_nil (qgg _)];simp[pre]
 ·omega
theorem LvInv.last {l:List UInt8} {done:List (List UInt8)} {f k:Nat} (h:LvInv l done f k) (hk:k=l.length):LvInv l (done++[(l.drop f).take (k-f)]) (k+1) (k+1):=by
 obtain⟨hf,hd,h | ⟨h,_⟩⟩:=h
 ·refine⟨Nat.le_refl _,by simp;omega,.inr ⟨by omega,?_⟩⟩;rw[h.2,hk,List.drop_length,lvl_nil];simp[pre]
 ·omega

theorem sown_lit0 (w:World):SOwn (w.alloc (.cells #[] 9)) w.heap.size (some ⟨w.heap.size,0,none⟩) 0 0 [] :=
 ⟨rfl,rfl,.inr ⟨w.heap.size,0,#[],rfl,Nat.le_refl _,heap_alloc_new w _,Nat.le_refl _,Nat.zero_le _,rfl,rfl⟩⟩

theorem byte_at (s:ByteArray) (k:Nat) (h:k<s.size):s.data.toList.getD k 0=s[k]'h:=by
 simp[List.getD_eq_getElem?_getD,qfh s k h]
theorem qdn (x y:UInt8) (c:Int) (hc:c=(y.toNat:Int)):((x.toNat:Int)==c)=(y==x):=by
 subst hc;rw[Bool.eq_iff_iff,beq_iff_eq,beq_iff_eq];exact⟨fun e=>(UInt8.toNat_inj.1 (by omega)).symm,fun e=>by rw[e]⟩
theorem qfv (ss:List ByteArray) (u:ByteArray):dats (ss++[u])=dats ss++[u.data.toList]:=by simp[dats]

theorem qdq (w:World) (v:Value) (t:TypeId):(w.alloc (.cells #[v] t)).cell? ⟨w.heap.size,0,none⟩ = some v:=by
 rw[World.cell?_alloc_at _ _ _ _ rfl];rfl
theorem qek {w w1 w2:World} {B:Nat} {ao:Option Addr} {n cap:Nat} {ss:List ByteArray} (hb:Below B w w1) (hB:B≤w1.heap.size) (ho:SOwn w1 B ao n cap ss) (hg:w1.grownBy w2 (Value.slice ao n cap).ownBlock):Below B w w2 :=
 hb.grown hg hB (fun k hk=>(ho.2.lt k hk).1)

theorem qbh (s:ByteArray) (n:Nat) (w:World) (hs:s.size≤1048576) (hN:(lvl s.data.toList).length=n) :
  Calls Tryd.prog 59 #[.string s] w fun e w'=>∃ao cap,e=.returned (.slice ao n cap)∧SOwn w' w.heap.size ao n cap (lvs s.data.toList)∧Below w.heap.size w w':=by
 have HN:Hid ((lvl s.data.toList).length=n):=hN;have H1:Hid (s.size=s.data.toList.length):=rfl;clear hN;go_enter Tryd.func59,Tryd.ntmps59;go_wp2;have ho0:=sown_lit0 w;have hb0:Below w.heap.size w (w.alloc (.cells #[] 9)):=(Below.refl _ _).alloc (Nat.le_refl _) _
 go_loopw [3,4,5] (fun o q i wr=>∃(k f m cap:Nat) (ao:Option Addr) (ss:List ByteArray),i=.int .i64 k∧q=.int .i64 f∧o=.slice ao m cap∧k≤s.size+1∧LvInv s.data.toList (dats ss) f k∧SOwn wr w.heap.size ao m cap ss∧Below w.heap.size w wr) (fun _ _ i _=>s.size+1-(intOf i).toNat)
 case atStart=>exact⟨0,0,0,0,_,[],rfl,rfl,rfl,Nat.zero_le _,LvInv.start _,ho0,hb0⟩
 case round=>
  obtain⟨k,f,m,cap,ao,ss,rfl,rfl,rfl,hk,hI,ho,hb⟩:=hrel;clear ho0 hb0;have HI:Hid (LvInv s.data.toList (dats ss) f k):=hI;have hfk:f≤k:=hI.1;have hm:m≤k:=by have:=hI.2.1;rw[qap,ho.1] at this;exact this
  clear hI
  by_cases hk1:k≤s.size
  ·have hk1':(k:Int)≤s.size:=by omega
   have hX:Hid ((s.extract f k).data.toList=(s.data.toList.drop f).take (k-f)):=Lib.extract_data s f k;have hfk':(f:Int)≤k:=by omega
   by_cases hkl:k<s.size
   ·have hke:((k:Int)==(s.size:Int))=false:=by simp;omega
    have hbt:=byte_at s k hkl
    by_cases hc:s[k]'hkl=47
    ·have hc':(((s[k]'hkl).toNat:Int)==47)=true:=by rw[hc];rfl
     have HI2:Hid (LvInv s.data.toList (dats (ss++[s.extract f k])) (k+1) (k+1)):=by
      unfold Hid;rw[qfv,hX.out];exact HI.out.cut (by rw[←H1.out];exact hkl) (hbt.trans hc)
     clear hbt hc;go_wp2_with (at_builtin;refine w_sapp _ rfl _ _ rfl w.heap.size ao m cap ss rfl (ho.below ((Below.refl _ _).alloc (Nat.le_refl _) _)) wr.heap.size (s.extract f k) rfl (qdq _ _ _) (by omega) (by have:=hb.size;simp;omega) ?_)
     intro ao' cap' w' ho' hg';have hb':=qek (hb.alloc hb.size _) (by have:=hb.size;simp;omega) (ho.below ((Below.refl _ _).alloc (Nat.le_refl _) _)) hg';clear hg' ho hb hX HI;go_wp2;go_roundw
     case rel=>exact⟨k+1,k+1,m+1,cap',ao',_,by go_num,by go_num,rfl,by omega,HI2.out,ho',hb'⟩
     case measure=>simp[intOf]<;>omega
    ·have hc':(((s[k]'hkl).toNat:Int)==47)=false:=by rw[qdn _ 47 47 rfl];exact beq_eq_false_iff_ne.2 (fun e=>hc e.symm)
     have HI2:Hid (LvInv s.data.toList (dats ss) f (k+1)):=HI.out.skip (by rw[←H1.out];exact hkl) (by rw[hbt];exact hc);clear hbt hc hX HI;go_wp2;go_roundw
     case rel=>exact⟨k+1,f,m,cap,ao,ss,by go_num,rfl,rfl,by omega,HI2.out,ho,hb⟩
     case measure=>simp[intOf]<;>omega
   ·obtain rfl:k=s.size:=by omega
    have hke:((s.size:Int)==(s.size:Int))=true:=by simp
    have HI2:Hid (LvInv s.data.toList (dats (ss++[s.extract f s.size])) (s.size+1) (s.size+1)):=by
     unfold Hid;rw[qfv,hX.out];exact HI.out.last H1.out
    go_wp2_with (at_builtin;refine w_sapp _ rfl _ _ rfl w.heap.size ao m cap ss rfl (ho.below ((Below.refl _ _).alloc (Nat.le_refl _) _)) wr.heap.size (s.extract f s.size) rfl (qdq _ _ _) (by omega) (by have:=hb.size;simp;omega) ?_)
    intro ao' cap' w' ho' hg';have hb':=qek (hb.alloc hb.size _) (by have:=hb.size;simp;omega) (ho.below ((Below.refl _ _).alloc (Nat.le_refl _) _)) hg';clear hg' ho hb hX HI;go_wp2;go_roundw
    case rel=>exact⟨s.size+1,s.size+1,m+1,cap',ao',_,by go_num,by go_num,rfl,by omega,HI2.out,ho',hb'⟩
    case measure=>simp[intOf]<;>omega
  ·have hk1':¬(k:Int)≤s.size:=by omega
   have hd:dats ss=lvl s.data.toList:=by
    obtain⟨_,_,h | h⟩:=HI.out
    ·have:=H1.out;omega
    ·exact h.2
   have hss:=lvs_of hd;subst hss;have hmn:m=n:=by rw[←HN.out,←ho.1,qba]
   subst hmn;go_wp2;go_ret;exact⟨ao,cap,rfl,ho,hb⟩


theorem qci (c:UInt8):∀l:List UInt8,Lib.index l [c]=Lib.indexByte l c
 |[]=>rfl
 |b :: l=>by
  rw[Lib.index,Lib.indexByte,qci c l]
  by_cases h:b=c
  ·subst h;simp[List.isPrefixOf]
  ·have h1:(c==b)=false:=beq_eq_false_iff_ne.2 (fun e=>h e.symm);have h2:(b==c)=false:=beq_eq_false_iff_ne.2 h;simp[List.isPrefixOf,h1,h2]

theorem qgn:∀(f:Nat) (l:List UInt8),l.length≤f→Lib.splitK [47] 0 (Lib.count l [47]) l=lvl l
 |f,l,hf=>by
  by_cases hm:Lib.indexByte l 47 = -1
  ·rw[Lib.count_miss (by rw[qci];exact hm),Lib.splitK];refine (qgh l fun c hc e=>?_).symm;obtain⟨k,hk,hk'⟩:=List.getElem_of_mem hc;exact Lib.indexByte_none hm k (by rw[List.getElem?_eq_getElem hk,hk',e])
  ·obtain⟨i,hi⟩ : ∃i:Nat,Lib.indexByte l 47=i:=⟨(Lib.indexByte l 47).toNat,by have:=Lib.indexByte_ge l 47;omega⟩;obtain⟨h1,h2⟩:=Lib.indexByte_some hi;obtain⟨hil,h1'⟩:=List.getElem?_eq_some_iff.1 h1;have hx:Lib.index l [47]=i:=by rw[qci];exact hi
   have e:l=l.take i++47 :: l.drop (i+1):=by
    rw[←h1',List.getElem_cons_drop,List.take_append_drop]
   have hne:¬(Lib.index l [47]==-1)=true:=by rw[hx,beq_iff_eq];omega
   rw[Lib.count_hit (by simp) hx,Nat.add_comm,Lib.splitK,if_neg hne,hx];have hp:∀c∈l.take i,c≠47:=fun c hc e=>by
    obtain⟨k,hk,hk'⟩:=List.getElem_of_mem hc;have hk2:k<i:=by rw[List.length_take] at hk;omega
    refine h2 k hk2 ?_;rw[List.getElem_take] at hk';rw[List.getElem?_eq_getElem (by omega),hk',e]
   conv=>rhs;rw[e]
   rw[lvl_cut _ _ hp];cases f with
   |zero=>omega
   |succ f=>
    have:=qgn f (l.drop (i+1)) (by rw[List.length_drop];omega);simp only[Int.toNat_natCast,Nat.add_zero,List.length_cons,List.length_nil,Nat.zero_add];rw[this]

theorem qgo (s:ByteArray):Lib.splitB ⟨#[47]⟩ 0 (Lib.countB s ⟨#[47]⟩) s=lvs s.data.toList:=by
 apply lvs_of
 show (Lib.splitB ⟨#[47]⟩ 0 (Lib.countB s ⟨#[47]⟩) s).map (·.data.toList)=_;rw[Lib.splitB_data];exact qgn _ _ (Nat.le_refl _)
theorem count_lvl (s:ByteArray):Lib.countB s ⟨#[47]⟩+1=(lvl s.data.toList).length:=by
 rw[←qba,←qgo,Lib.splitB_all ⟨#[47]⟩ (by decide) 0 _ s rfl]

theorem gen_split (s:ByteArray) (n:Nat) (w:World) (hs:s.size≤1048576) (hN:(lvl s.data.toList).length=n) :
  Calls Tryd.prog 133 #[.string s,.string ⟨#[47]⟩,.int .i64 0,.int .i64 (-1)] w fun e w'=>
   e=.returned (.slice (some ⟨w.heap.size,0,none⟩) n n)∧w'=w.alloc (.cells (svals (lvs s.data.toList)).toArray 9):=by
 have hcl:=count_lvl s;have hle:(lvl s.data.toList).length≤s.size+1:=qan s.data.toList;have c:=Any.strings_genSplit_core Tryd.lays221 info9 s ⟨#[47]⟩ 0 (-1) n w (by omega) (by decide) (Nat.zero_le _)
  (fun x c hx=>(Any.strings_Index_one { Tryd.lays221 with } x 47 _).mono fun e w' ⟨he,hw⟩=>⟨by rw[he,←qci],hw⟩)
  ((Any.strings_Count_one { Tryd.lays221 with } s 47 w).mono fun e w' ⟨he,hw⟩=>⟨by
   rw[he];show _=Ending.returned (Value.int .i64 ((Lib.count s.data.toList [47]:Nat):Int));rw[Lib.count_one];rfl,hw⟩)
  (by decide) (by decide) (by rw[if_pos (by decide)];omega)
 rw[show n-1=Lib.countB s ⟨#[47]⟩ by omega,qgo,qba,hN] at c;have e2:Lib.cellsOf (lvs s.data.toList) n=(svals (lvs s.data.toList)).toArray:=by
  rw[←hN,←qba];exact Lib.cellsOf_full _
 rw[e2] at c;exact c

theorem split_x (s:ByteArray) (n:Nat) (w:World) (hs:s.size≤1048576) (hN:(lvl s.data.toList).length=n) :
  Calls Tryd.prog 115 #[.string s,.string ⟨#[47]⟩] w fun e w'=>
   e=.returned (.slice (some ⟨w.heap.size,0,none⟩) n n)∧w'=w.alloc (.cells (svals (lvs s.data.toList)).toArray 9):=by
 go_enter Tryd.func115,Tryd.ntmps115;go_wp2_with fail
 refine (gen_split s n w hs hN).mono ?_;rintro e w' ⟨rfl,rfl⟩;go_wp2;go_ret;exact⟨rfl,rfl⟩

theorem clone_x (s:ByteArray) (w:World) (hs:s.size≤1048576) :
  Calls Tryd.prog 73 #[.string s] w fun e w'=>e=.returned (.string s)∧Below w.heap.size w w':=by
 go_enter Tryd.func73,Tryd.ntmps73;go_wp2_with fail
 refine (show Calls Tryd.prog 102 #[.string s] w fun e w'=>e=.returned (.string s)∧Below w.heap.size w w' from Any.stringslite_Clone Tryd.laysM316 s w (by omega)).mono ?_;rintro e w' ⟨rfl,hb⟩;go_wp2;go_ret;exact⟨rfl,hb⟩

theorem sown_made (w:World) (ss:List ByteArray) (n:Nat) (hn:ss.length=n) (hm:n≤maxLen):SOwn (w.alloc (.cells (svals ss).toArray 9)) w.heap.size (some ⟨w.heap.size,0,none⟩) n n ss :=
 ⟨hn,by simp[qbp,hn],.inr ⟨w.heap.size,n,(svals ss).toArray,rfl,Nat.le_refl _,heap_alloc_new w _,Nat.le_refl _,hm,by simp[qbp,hn],by simp[qbp,hn];exact List.take_of_length_le (by rw[qbp,hn];exact Nat.le_refl _)⟩⟩

theorem st_set (ss:List ByteArray) (k:Nat):ss.set k (st ss k)=ss:=by
 by_cases h:k<ss.length
 ·have e:st ss k=ss[k]'h:=by simp[st,List.getD_eq_getElem?_getD,List.getElem?_eq_getElem h]
  rw[e,List.set_getElem_self]
 ·rw[List.set_eq_of_length_le (by omega)]

theorem qee (l:List UInt8) (k:Nat) (h:k<(lvs l).length):(st (lvs l) k).size≤l.length:=by
 have hx:(st (lvs l) k).data.toList∈lvl l:=by
  rw[←qaz l];exact List.mem_map_of_mem (st_mem h)
 have:∀(l x:List UInt8),x∈lvl l→x.length≤l.length:=by
  intro l
  induction l with
  |nil=>intro x hx;simp[lvl] at hx;subst hx;simp
  |cons c r ih=>
   intro x hx
   by_cases hc:c=47
   ·subst hc;rw[qbw] at hx
    rcases List.mem_cons.1 hx with rfl | hx
    ·simp
    ·have:=ih x hx;simp;omega
   ·rw[qbv hc] at hx;cases hl:lvl r with
    |nil=>exact absurd hl (qgg r)
    |cons a t=>
     rw[hl] at hx;simp only[pre,List.mem_cons] at hx
     rcases hx with rfl | hx
     ·have:=ih a (by rw[hl];simp);simp;omega
     ·have:=ih x (by rw[hl];simp[hx]);simp;omega
 exact this l _ hx

theorem qbl (s:ByteArray) (n:Nat) (w:World) (hs:s.size≤1048576) (hN:(lvl s.data.toList).length=n) :
  Calls Tryd.prog 95 #[.string s] w fun e w'=>e=.returned (.slice (some ⟨w.heap.size,0,none⟩) n n)∧SOwn w' w.heap.size (some ⟨w.heap.size,0,none⟩) n n (lvs s.data.toList)∧Below w.heap.size w w':=by
 have hle:n≤s.size+1:=by rw[←hN];exact qan s.data.toList
 have HV:Hid ((lvs s.data.toList).length=n):=by unfold Hid;rw[qba];exact hN
 have HS:Hid (∀k,k<n→(st (lvs s.data.toList) k).size≤1048576):=fun k hk=>by
  have:=qee s.data.toList k (by rw[HV.out];exact hk);have e1:s.size=s.data.toList.length:=rfl;omega
 have ho0:=sown_made w (lvs s.data.toList) n HV.out (by unfold maxLen;omega);have hb0:Below w.heap.size w (w.alloc (.cells (svals (lvs s.data.toList)).toArray 9)):=(Below.refl _ _).alloc (Nat.le_refl _) _;have c:=split_x s n w hs hN;generalize (w.alloc (.cells (svals (lvs s.data.toList)).toArray 9))=w0 at *;clear hN;generalize lvs s.data.toList=ss at *;go_enter Tryd.func95,Tryd.ntmps95;go_wp2_with fail
 refine c.mono ?_;rintro e w1 ⟨rfl,hw⟩;subst hw;go_wp2
 go_loopw [10] (fun i wr=>∃k:Nat,i=.int .i64 k∧k≤n∧SOwn wr w.heap.size (some ⟨w.heap.size,0,none⟩) n n ss∧Below w.heap.size w wr) (fun i _=>n-(intOf i).toNat)
 case atStart=>exact⟨0,rfl,Nat.zero_le _,ho0,hb0⟩
 case round=>
  obtain⟨k,rfl,hk,ho,hb⟩:=hrel;clear ho0 hb0
  by_cases hlt:k<n
  ·have hlt':(k:Int)<n:=by omega
   have hz:=ho.cell k hlt;go_wp2_with fail
   refine (clone_x (st ss k) wr (HS.out k hlt)).mono ?_;rintro e w2 ⟨rfl,hb2⟩;have ho2:=ho.below hb2;have hb3:=hb.trans (hb2.mono hb.size);clear hb hb2 ho hz;have hz2:=ho2.cell k hlt;have hf:=ho2.frozen k;have HO:=ho2.store k (st ss k);rw[st_set] at HO;have HO':Hid (SOwn (w2.setCell ⟨w.heap.size,k,none⟩ (.string (st ss k))) w.heap.size (some ⟨w.heap.size,0,none⟩) n n ss):=HO;clear HO ho2;go_wp2;go_roundw
   case rel=>exact⟨k+1,by go_num,by omega,HO'.out,hb3.setCell (Nat.le_refl _) _⟩
   case measure=>simp[intOf]<;>omega
  ·have hlt':¬(k:Int)<n:=by omega
   go_wp2;go_ret;exact⟨rfl,ho,hb⟩


theorem v116:(Tryd.prog.info? 152).map (fun i=>(i.zero,i.size))=some (some (.agg (Array.replicate 256 (.bool false))),256):=by kernel_rfl

theorem ir_err (w:World) :
  Calls Tryd.prog 134 #[.string ⟨#[43,35]⟩,.int .i32 65533] w fun e w'=>e=.returned (.int .i64 (-1))∧Below w.heap.size w w':=by
 have hn0:∀ty,(Instr.next (.pointer (some ⟨w.heap.size,0,none⟩)) true ty).run Tryd.prog (w.iter ⟨#[43,35]⟩ 0)=.ok (.tuple #[.bool true,.int .i64 0,.int .i32 43]) (w.iter ⟨#[43,35]⟩ 1):=fun ty=>run_next_ascii w ⟨#[43,35]⟩ 0 ty (by decide) (by decide)
 have hn1:∀ty,(Instr.next (.pointer (some ⟨w.heap.size,0,none⟩)) true ty).run Tryd.prog (w.iter ⟨#[43,35]⟩ 1)=.ok (.tuple #[.bool true,.int .i64 1,.int .i32 35]) (w.iter ⟨#[43,35]⟩ 2):=fun ty=>run_next_ascii w ⟨#[43,35]⟩ 1 ty (by decide) (by decide)
 have hn2:∀ty,(Instr.next (.pointer (some ⟨w.heap.size,0,none⟩)) true ty).run Tryd.prog (w.iter ⟨#[43,35]⟩ 2)=_:=fun ty=>run_next_end w ⟨#[43,35]⟩ 2 ty (by decide)
 go_enter Tryd.func134,Tryd.ntmps134;go_wp2;refine wp_loop_rounds 3 ?_;rw[rounds_succ];go_wp2;rw[rounds_succ];go_wp2;rw[rounds_succ];go_wp2;go_ret;exact⟨rfl,qbt _ _ _⟩

theorem qfg {l:List UInt8} {r k:Nat} (h:runeL l=some (r,k)) (hk:2≤k):128≤r∧Lib.validRune (r:Int)=true∧∀i,i<k→128≤bt l i:=by
 unfold runeL at h
 split at h
 ·contradiction
 unfold rune4 at h;have q:Lib.validRune (r:Int)=decide ((0≤(r:Int)∧(r:Int)<0xD800)∨(0xDFFF<(r:Int)∧(r:Int)≤0x10FFFF)):=rfl;rw[q,decide_eq_true_eq]
 repeat' split at h
 all_goals first | (simp only[reduceCtorEq] at h) | (simp only[Option.some.injEq,Prod.mk.injEq] at h)
 ·omega
 ·refine⟨by omega,by omega,fun i hi=>?_⟩
  match i,hi with
  |0,_=>omega
  |1,_=>omega
  |i+2,hi=>omega
 ·refine⟨by omega,by omega,fun i hi=>?_⟩
  match i,hi with
  |0,_=>omega
  |1,_=>omega
  |2,_=>omega
  |i+3,hi=>omega
 ·refine⟨by omega,by omega,fun i hi=>?_⟩
  match i,hi with
  |0,_=>omega
  |1,_=>omega
  |2,_=>omega
  |3,_=>omega
  |i+4,hi=>omega

theorem ir_long (C:ByteArray) (hC:C.size=2) (r:Nat) (w:World) (h128:128≤r) (hne:r≠65533) (hv:Lib.validRune (r:Int)=true) (k:Nat) (hR:(Utf8.encode (r:Int)).size=k) (hk:3≤k) (hk4:k≤4) :
  Calls Tryd.prog 134 #[.string C,.int .i32 r] w fun e w'=>e=.returned (.int .i64 (-1))∧Below w.heap.size w w':=by
 have h1:¬(r:Int)<128:=by omega
 have h2:((r:Int)==65533)=false:=by simp;omega
 obtain⟨R,hRR⟩ : ∃R,Utf8.encode (r:Int)=R:=⟨_,rfl⟩;rw[hRR] at hR;have hv':Calls Tryd.prog 149 #[.int .i32 r] w fun e w'=>e=.returned (.bool true)∧w'=w:=by
  have:=Any.utf8_ValidRune Tryd.lays119 (r:Int) w;rw[hv] at this;exact this
 rcases (show k=3∨k=4 by omega) with rfl | rfl
 ·go_enter Tryd.func134,Tryd.ntmps134;go_wp2_with (go_at_call 149;refine hv'.mono ?_;rintro e w' ⟨rfl,rfl⟩)
  go_step3
  go_wp2
  go_loop [9] (fun i=>i=.int .i64 2) (fun _=>0)
  case atStart=>rfl
  case round=>
   subst hrel;go_wp2;go_ret;exact⟨rfl,Below.refl _ _⟩
 ·go_enter Tryd.func134,Tryd.ntmps134;go_wp2_with (go_at_call 149;refine hv'.mono ?_;rintro e w' ⟨rfl,rfl⟩)
  go_step3
  go_wp2
  go_loop [9] (fun i=>i=.int .i64 3) (fun _=>0)
  case atStart=>rfl
  case round=>
   subst hrel;go_wp2;go_ret;exact⟨rfl,Below.refl _ _⟩


theorem ir_two (C:ByteArray) (hC:C.size=2) (r:Nat) (w:World) (h128:128≤r) (hne:r≠65533) (hv:Lib.validRune (r:Int)=true) (R:ByteArray) (hRR:Utf8.encode (r:Int)=R) (hR:R.size=2) (hb:(((C[1]'(by omega)).toNat:Int) != ((R[1]'(by omega)).toNat:Int))=true) :
  Calls Tryd.prog 134 #[.string C,.int .i32 r] w fun e w'=>e=.returned (.int .i64 (-1))∧Below w.heap.size w w':=by
 have h1:¬(r:Int)<128:=by omega
 have h2:((r:Int)==65533)=false:=by simp;omega
 have hv':Calls Tryd.prog 149 #[.int .i32 r] w fun e w'=>e=.returned (.bool true)∧w'=w:=by
  have:=Any.utf8_ValidRune Tryd.lays119 (r:Int) w;rw[hv] at this;exact this
 have hib:∀(c:Int) (w:World),Calls Tryd.prog 148 #[.string ByteArray.empty,.int .u8 c] w fun e w'=>e=.returned (.int .i64 (-1))∧w'=w:=fun c w=>Any.strings_IndexByte Tryd.lays137 ByteArray.empty c w
 have hw2:IntKind.i64.wrap 2=2:=by decide
 have hz1:(1:Int)<(C.size:Int):=by omega
 have hz2:(1:Int)<(R.size:Int):=by omega
 go_enter Tryd.func134,Tryd.ntmps134;go_wp2_with (go_at_call 149;refine hv'.mono ?_;rintro e w' ⟨rfl,rfl⟩)
 go_step3
 go_wp2
 go_loop [9] (fun i=>i=.int .i64 1) (fun _=>0)
 case atStart=>rfl
 case round=>
  subst hrel;go_wp2
  go_step3
  go_wp2_with fail
  go_quiet (fail)
  go_wp2
  go_quiet (first | (go_at_call 148;exact (hib _ _).mono fun e w'' h=>⟨h.1,_,h.2⟩))
  go_wp2;rw[Exit.noGoto_ret];go_wp2;rw[Exit.noGoto_ret];go_wp2;go_ret;exact⟨rfl,below_drewN (Below.refl _ _) _⟩


theorem has_false (t:List UInt8) (c:UInt8) (h:∀i,i<t.length→t.getD i 0≠c):has t c=false:=by
 induction t with
 |nil=>rfl
 |cons a r ih=>
  rw[qcq,ih (fun i hi=>by have:=h (i+1) (by simp;omega);simpa using this)];have:=h 0 (by simp);simp at this;simp;exact fun e=>this e.symm

theorem drop_cons' (l:List UInt8) (k:Nat) (hk:k<l.length):l.drop k=l.getD k 0 :: l.drop (k+1):=by
 rw[List.drop_eq_getElem_cons hk];simp[List.getD_eq_getElem?_getD,List.getElem?_eq_getElem hk]
theorem qfm (l:List UInt8) (k:Nat) (c:UInt8) (hk:k<l.length):has (l.drop k) c=(c==l.getD k 0 || has (l.drop (k+1)) c):=by
 rw[drop_cons' l k hk,qcq]

theorem qem (l:List UInt8) (p k:Nat) (hk:p+k≤l.length) (h:∀i,i<k→bt (l.drop p) i≠43∧bt (l.drop p) i≠35):wildB (l.drop p)=wildB (l.drop (p+k)):=by
 have e:l.drop p=(l.drop p).take k++l.drop (p+k):=by
  rw[←List.drop_drop,List.take_append_drop]
 have hb:∀c:UInt8,(∀i,i<k→bt (l.drop p) i≠c.toNat)→has ((l.drop p).take k) c=false:=fun c hc=>has_false _ _ fun i hi e=>by
  have hi':i<k:=by rw[List.length_take] at hi;omega
  apply hc i hi'
  have e2:((l.drop p).take k).getD i 0=(l.drop p).getD i 0:=by
   simp only[List.getD_eq_getElem?_getD,List.getElem?_take,hi',if_true]
  unfold bt;rw[←e2,e]
 unfold wildB;rw[e,qew,qew,hb 43 (fun i hi=>(h i hi).1),hb 35 (fun i hi=>(h i hi).2)];simp

theorem any_wild:∀l:List UInt8,decide (0≤Lib.indexAny l [43,35])=wildB l
 |[]=>rfl
 |b :: l=>by
  have ih:=any_wild l;have hge:=Lib.indexAny_ge [43,35] l;rw[Lib.indexAny];unfold wildB at ih ⊢;rw[qcq,qcq]
  by_cases h1:b=43
  ·subst h1;simp
  ·by_cases h2:b=35
   ·subst h2;simp
   ·have hc:([43,35]:List UInt8).contains b=false:=by simp[h1,h2]
    have e1:((43:UInt8)==b)=false:=beq_eq_false_iff_ne.2 (fun e=>h1 e.symm);have e2:((35:UInt8)==b)=false:=beq_eq_false_iff_ne.2 (fun e=>h2 e.symm);rw[hc,e1,e2,Bool.false_or,Bool.false_or,←ih];simp only[Bool.false_eq_true,if_false]
    by_cases hm:Lib.indexAny l [43,35] = -1
    ·rw[hm];rfl
    ·have hm':(Lib.indexAny l [43,35]==-1)=false:=beq_eq_false_iff_ne.2 hm;rw[hm'];simp only[Bool.false_eq_true,if_false]
     congr 1
     rw[eq_iff_iff];constructor<;>intro _<;>omega

theorem any_loose:∀l:List UInt8,(Lib.indexAny l [43,35]==(0:Int))=qao l
 |[]=>rfl
 |b :: l=>by
  have hge:=Lib.indexAny_ge [43,35] l;rw[Lib.indexAny]
  by_cases h1:b=43
  ·subst h1;simp[qao]
  ·by_cases h2:b=35
   ·subst h2;simp[qao]
   ·have hc:([43,35]:List UInt8).contains b=false:=by simp[h1,h2]
    have e1:qao (b :: l)=false:=by simp[qao,h1,h2]
    rw[hc,e1];simp only[Bool.false_eq_true,if_false]
    by_cases hm:Lib.indexAny l [43,35] = -1
    ·rw[hm];rfl
    ·have hm':(Lib.indexAny l [43,35]==-1)=false:=beq_eq_false_iff_ne.2 hm;rw[hm'];simp only[Bool.false_eq_true,if_false];exact beq_eq_false_iff_ne.2 (by omega)
theorem qfo {l:List UInt8} (h:bt l 0≠43∧bt l 0≠35):qao l=false:=by
 cases l with
 |nil=>rfl
 |cons c r=>
  have h1:c≠43:=fun e=>h.1 (by rw[e];rfl)
  have h2:c≠35:=fun e=>h.2 (by rw[e];rfl)
  simp[qao,h1,h2]
theorem loose_yes {l:List UInt8} (hl:l.length≠0) (h:bt l 0=43∨bt l 0=35):qao l=true:=by
 cases l with
 |nil=>exact absurd rfl hl
 |cons c r=>
  have hc:c=43∨c=35:=by
   rcases h with h | h
   ·exact .inl (UInt8.toNat_inj.1 h)
   ·exact .inr (UInt8.toNat_inj.1 h)
  rcases hc with rfl | rfl<;>rfl

theorem qch (s:ByteArray) (x:UInt8) (c:Int) (hc:c=(x.toNat:Int)) (w:World) (hs:s.size≤1048576) :
  Calls Tryd.prog 58 #[.string s,.int .u8 c] w fun e w'=>e=.returned (.bool (has s.data.toList x))∧w'=w:=by
 have H1:Hid (s.size=s.data.toList.length):=rfl;go_enter Tryd.func58,Tryd.ntmps58;go_wp2
 go_loop [5] (fun i=>∃k:Nat,i=.int .i64 k∧k≤s.size∧has s.data.toList x=has (s.data.toList.drop k) x) (fun i=>s.size-(intOf i).toNat)
 case atStart=>exact⟨0,rfl,Nat.zero_le _,rfl⟩
 case round=>
  obtain⟨k,rfl,hk,hh⟩:=hrel;have HH:Hid (has s.data.toList x=has (s.data.toList.drop k) x):=hh;clear hh
  by_cases hlt:k<s.size
  ·have hlt':(k:Int)<s.size:=by omega
   have hbt:=byte_at s k hlt;have hd:has (s.data.toList.drop k) x=(x==s[k]'hlt || has (s.data.toList.drop (k+1)) x):=by
    rw[qfm _ _ _ (by rw[←H1.out];exact hlt),hbt]
   have HD:Hid (has (s.data.toList.drop k) x=(x==s[k]'hlt || has (s.data.toList.drop (k+1)) x)):=hd;have hcmp:=qdn (s[k]'hlt) x c hc;clear hd hbt
   by_cases he:x=s[k]'hlt
   ·have HE:Hid ((x==s[k]'hlt)=true):=beq_iff_eq.2 he;rw[HE.out] at hcmp;clear he;go_wp2;go_ret;exact⟨qaf (by rw[HH.out,HD.out,HE.out,Bool.true_or]),rfl⟩
   ·have HE:Hid ((x==s[k]'hlt)=false):=beq_eq_false_iff_ne.2 he;rw[HE.out] at hcmp;clear he;go_wp2
    go_round
    case rel=>exact⟨k+1,by go_num,by omega,by rw[HH.out,HD.out,HE.out,Bool.false_or]⟩
    case measure=>simp[intOf]<;>omega
  ·have hlt':¬(k:Int)<s.size:=by omega
   go_wp2;go_ret;refine⟨qaf ?_,rfl⟩;rw[HH.out,List.drop_eq_nil_of_le (by rw[←H1.out];omega)];rfl

theorem ir_wide {l:List UInt8} {r k:Nat} (h:runeL l=some (r,k)) (hk:2≤k) (w:World) :
  Calls Tryd.prog 134 #[.string ⟨#[43,35]⟩,.int .i32 r] w fun e w'=>e=.returned (.int .i64 (-1))∧Below w.heap.size w w':=by
 have hw:=qbi h;obtain⟨h128,hv,hbs⟩:=qfg h hk
 by_cases he:r=65533
 ·have hr:(r:Int)=65533:=by omega
  rw[hr];exact ir_err w
 have hen:=qdw h;have hsz:(Utf8.encode (r:Int)).size=k:=by
  have e1:∀b:ByteArray,b.size=b.data.toList.length:=fun _=>rfl
  rw[e1,hen,List.length_take];omega
 by_cases h2:k=2
 ·subst h2;refine ir_two ⟨#[43,35]⟩ rfl r w h128 he hv _ rfl hsz ?_;have h1:=hbs 1 (by omega);have e1:(Utf8.encode (r:Int))[1]'(by omega)=l.getD 1 0:=by
   have q:=qfh (Utf8.encode (r:Int)) 1 (by omega);rw[hen,take2 l hw.2.1] at q
   simpa using q.symm
  rw[e1];show ((35:Int) != ((bt l 1:Nat):Int))=true;simp only[bne_iff_ne,ne_eq];omega
 ·exact ir_long ⟨#[43,35]⟩ rfl r w h128 he hv k hsz (by omega) hw.2.2.1

theorem plus_has (x:UInt8):decide (0≤Lib.indexByte [43,35] x)=(x==43 || x==35):=by
 simp only[Lib.indexByte]
 by_cases h1:x=43
 ·subst h1;rfl
 ·by_cases h2:x=35
  ·subst h2;rfl
  ·have e1:((43:UInt8)==x)=false:=beq_eq_false_iff_ne.2 (fun e=>h1 e.symm);have e2:((35:UInt8)==x)=false:=beq_eq_false_iff_ne.2 (fun e=>h2 e.symm);have e3:(x==(43:UInt8))=false:=beq_eq_false_iff_ne.2 h1;have e4:(x==(35:UInt8))=false:=beq_eq_false_iff_ne.2 h2;simp[e1,e2,e3,e4]

theorem low_rune {l:List UInt8} {r:Nat} (h:runeL l=some (r,1)):r=bt l 0∧r<128:=by
 unfold runeL at h
 split at h
 ·contradiction
 unfold rune4 at h
 repeat' split at h
 all_goals first | (simp only[reduceCtorEq] at h) | (simp only[Option.some.injEq,Prod.mk.injEq] at h)
 all_goals omega

theorem no_rune {l:List UInt8} (hl:l.length≠0) (h:runeL l=none):128≤bt l 0:=by
 unfold runeL at h;rw[if_neg hl] at h;unfold rune4 at h
 repeat' split at h
 all_goals first | omega | (simp at h)

theorem any_short (s:ByteArray) (w:World) (h8:s.size≤8) :
  Calls Tryd.prog 116 #[.string s,.string ⟨#[43,35]⟩] w fun e w'=>∃q:Int,e=.returned (.int .i64 q)∧decide (0≤q)=wildB s.data.toList∧(q==0)=qao s.data.toList∧Below w.heap.size w w':=by
 have hemp:(⟨#[43,35]⟩ : ByteArray).toList.isEmpty=false:=by decide +kernel
 have h8z:decide ((8:Int)<(s.size:Int))=false:=decide_eq_false (by omega);have H1:Hid (s.size=s.data.toList.length):=rfl;have hsu:Calls Tryd.prog 135 #[.int .i64 (s.size:Int)] w fun e w'=>e=.returned (.bool false)∧w'=w:=by
  have:=Any.strings_shouldUseASCIISet Tryd.lays226 (s.size:Int) w;rw[h8z] at this;exact this
 go_enter Tryd.func116,Tryd.ntmps116;go_wp2_with (go_at_call 135;refine hsu.mono ?_;rintro e w' ⟨rfl,hw⟩;rw[hw])
 go_loopw [9,10] (fun _ _ wr=>∃pos:Nat,wr.heap[w.heap.size]? = some (.stringIter s pos)∧pos≤s.size∧wildB s.data.toList=wildB (s.data.toList.drop pos)∧(pos≠0→qao s.data.toList=false)∧Below w.heap.size w wr) (fun _ _ wr=>s.size-wr.iterPos w.heap.size)
 case atStart=>exact⟨0,World.iter_heap w s 0,Nat.zero_le _,rfl,fun h=>absurd rfl h,qbt _ _ _⟩
 case round=>
  obtain⟨pos,hit,hpos,hW,hlo,hb⟩:=hrel;have HLO:Hid (pos≠0→qao s.data.toList=false):=hlo;clear hlo;have HW:Hid (wildB s.data.toList=wildB (s.data.toList.drop pos)):=hW;have HIT:Hid (wr.heap[w.heap.size]? = some (.stringIter s pos)):=hit;clear hW hit
  by_cases hp:pos<s.size
  ·have hl:(s.data.toList.drop pos).length≠0:=by rw[List.length_drop,←H1.out];omega
   cases hr:runeL (s.data.toList.drop pos) with
   |none=>
    have hd:Utf8.decode s pos=(65533,1):=qdu hp hr;have hnx:∀ty,(Instr.next (.pointer (some ⟨w.heap.size,0,none⟩)) true ty).run Tryd.prog wr=.ok (.tuple #[.bool true,.int .i64 (pos:Nat),.int .i32 65533]) (wr.iterAt w.heap.size s (pos+1)):=fun ty=>by
     have:=Lib.run_next_any_at (P:=Tryd.prog) wr w.heap.size s pos ty HIT.out hp;rw[hd] at this;exact this
    have h0:=no_rune hl hr;have HLN:Hid (qao s.data.toList=false):=by
     by_cases hz:pos=0
     ·subst hz;exact qfo (by rw[List.drop_zero] at h0;omega)
     ·exact HLO.out hz
    have HF:Hid (wildB (s.data.toList.drop pos)=wildB (s.data.toList.drop (pos+1))):=qem _ _ _ (by rw[←H1.out];omega) (fun i hi=>by obtain rfl:i=0:=(by omega);omega);have HIT1:Hid ((wr.iterAt w.heap.size s (pos+1)).heap[w.heap.size]? = some (.stringIter s (pos+1))):=Lib.iterAt_heap wr w.heap.size s pos (pos+1) HIT.out;have hb1:=Lib.below_iterAt hb (k:=w.heap.size) (Nat.le_refl _) s (pos+1);clear hd hr hl h0 hb;generalize wr.iterAt w.heap.size s (pos+1)=W1 at *;go_wp2_with (go_at_call 134;refine (ir_err W1).mono ?_;rintro e w2 ⟨rfl,hb2⟩)
    go_roundw
    case rel=>
     refine⟨pos+1,?_,by omega,by rw[HW.out,HF.out],fun _=>HLN.out,hb1.trans (hb2.mono hb1.size)⟩;rw[hb2.block _ (Array.getElem?_eq_some_iff.1 HIT1.out).1];exact HIT1.out
    case measure=>
     have q:w2.heap[w.heap.size]? = some (.stringIter s (pos+1)):=by rw[hb2.block _ (Array.getElem?_eq_some_iff.1 HIT1.out).1];exact HIT1.out
     simp only[World.iterPos,q,HIT.out];omega
   |some rk=>
    obtain⟨r,k⟩:=rk;have hw:=qbi hr;rw[List.length_drop,←H1.out] at hw;have hd:Utf8.decode s pos=(r,k):=qdv hr;have hnx:∀ty,(Instr.next (.pointer (some ⟨w.heap.size,0,none⟩)) true ty).run Tryd.prog wr=.ok (.tuple #[.bool true,.int .i64 (pos:Nat),.int .i32 (r:Nat)]) (wr.iterAt w.heap.size s (pos+k)):=fun ty=>by
     have:=Lib.run_next_any_at (P:=Tryd.prog) wr w.heap.size s pos ty HIT.out hp;rw[hd] at this;exact this
    have HIT1:Hid ((wr.iterAt w.heap.size s (pos+k)).heap[w.heap.size]? = some (.stringIter s (pos+k))):=Lib.iterAt_heap wr w.heap.size s pos (pos+k) HIT.out;have hb1:=Lib.below_iterAt hb (k:=w.heap.size) (Nat.le_refl _) s (pos+k);clear hd hb;generalize wr.iterAt w.heap.size s (pos+k)=W1 at *
    by_cases hk2:2≤k
    ·have hbs:=(qfg hr hk2).2.2;have HLN:Hid (qao s.data.toList=false):=by
      by_cases hz:pos=0
      ·subst hz;exact qfo (by have:=hbs 0 (by omega);rw[List.drop_zero] at this;omega)
      ·exact HLO.out hz
     have HF:Hid (wildB (s.data.toList.drop pos)=wildB (s.data.toList.drop (pos+k))):=qem _ _ _ (by rw[←H1.out];omega) (fun i hi=>by have:=hbs i hi;omega);have c:=ir_wide hr hk2 W1;clear hr hl hbs;go_wp2_with (go_at_call 134;refine c.mono ?_;rintro e w2 ⟨rfl,hb2⟩)
     go_roundw
     case rel=>
      refine⟨pos+k,?_,by omega,by rw[HW.out,HF.out],fun _=>HLN.out,hb1.trans (hb2.mono hb1.size)⟩;rw[hb2.block _ (Array.getElem?_eq_some_iff.1 HIT1.out).1];exact HIT1.out
     case measure=>
      have q:w2.heap[w.heap.size]? = some (.stringIter s (pos+k)):=by rw[hb2.block _ (Array.getElem?_eq_some_iff.1 HIT1.out).1];exact HIT1.out
      simp only[World.iterPos,q,HIT.out];omega
    ·obtain rfl:k=1:=by omega
     obtain⟨hrb,hr128⟩:=low_rune hr;have hx:(r.toUInt8).toNat=r:=by simp;omega
     have hph:=plus_has r.toUInt8;have c:Calls Tryd.prog 134 #[.string ⟨#[43,35]⟩,.int .i32 r] W1 fun e w'=>e=.returned (.int .i64 (Lib.indexByte [43,35] r.toUInt8))∧w'=W1:=Any.strings_IndexRune_ascii Tryd.lays152 ⟨#[43,35]⟩ (r:Int) W1 (by omega) (by omega)
     obtain⟨q,hq⟩ : ∃q,Lib.indexByte [43,35] r.toUInt8=q:=⟨_,rfl⟩;rw[hq] at hph c;clear hr hq
     by_cases hwild:r=43∨r=35
     ·have hq0:0≤q:=by
       have:decide (0≤q)=true:=by rw[hph];rcases hwild with rfl | rfl<;>rfl
       simpa using this
      have HF:Hid (wildB (s.data.toList.drop pos)=true):=by
       have hlen:pos<s.data.toList.length:=by rw[←H1.out];exact hp
       unfold Hid wildB;rw[qfm _ _ 43 hlen,qfm _ _ 35 hlen];have e1:s.data.toList.getD pos 0=r.toUInt8:=by
        apply UInt8.toNat_inj.1
        rw[hx,hrb];simp[bt,List.getD_eq_getElem?_getD]
       rw[e1]
       rcases hwild with rfl | rfl
       ·simp
       ·simp
      have hq0':¬q<0:=by omega
      have HLY:Hid (((pos:Int)==0)=qao s.data.toList):=by
       unfold Hid
       by_cases hz:pos=0
       ·subst hz;rw[List.drop_zero] at hrb hl;rw[loose_yes hl (by rw[←hrb];exact hwild)];rfl
       ·rw[HLO.out hz];exact beq_eq_false_iff_ne.2 (by omega)
      clear hwild hph hx hrb hl;go_wp2_with (go_at_call 134;refine c.mono ?_;rintro e w2 ⟨rfl,hw2⟩;rw[hw2])
      go_ret;exact⟨_,rfl,by rw[HW.out,HF.out];simp,HLY.out,hb1⟩
     ·have hq0:q<0:=by
       have h43:r.toUInt8≠43:=fun e=>hwild (.inl (by have:=congrArg UInt8.toNat e;rw[hx] at this;exact this))
       have h35:r.toUInt8≠35:=fun e=>hwild (.inr (by have:=congrArg UInt8.toNat e;rw[hx] at this;exact this))
       have:decide (0≤q)=false:=by
        rw[hph,beq_eq_false_iff_ne.2 h43,beq_eq_false_iff_ne.2 h35];rfl
       have:=of_decide_eq_false this;omega
      have HF:Hid (wildB (s.data.toList.drop pos)=wildB (s.data.toList.drop (pos+1))):=qem _ _ _ (by rw[←H1.out];omega) (fun i hi=>by obtain rfl:i=0:=(by omega);omega);have HLN:Hid (qao s.data.toList=false):=by
       by_cases hz:pos=0
       ·subst hz;exact qfo (by rw[List.drop_zero] at hrb;omega)
       ·exact HLO.out hz
      clear hwild hph hx hrb hl;go_wp2_with (go_at_call 134;refine c.mono ?_;rintro e w2 ⟨rfl,hw2⟩;rw[hw2])
      go_roundw
      case rel=>exact⟨pos+1,HIT1.out,by omega,by rw[HW.out,HF.out],fun _=>HLN.out,hb1⟩
      case measure=>
       simp only[World.iterPos,HIT1.out,HIT.out];omega
  ·have hnx:∀ty,(Instr.next (.pointer (some ⟨w.heap.size,0,none⟩)) true ty).run Tryd.prog wr=_:=fun ty=>Lib.run_next_end_at wr w.heap.size s pos ty HIT.out hp
   go_wp2;go_ret;refine⟨_,rfl,?_,?_,hb⟩
   ·rw[HW.out,List.drop_eq_nil_of_le (by rw[←H1.out];omega)];rfl
   ·by_cases hz:pos=0
    ·have:s.data.toList = []:=List.eq_nil_of_length_eq_zero (by rw[←H1.out];omega);rw[this];rfl
    ·rw[HLO.out hz];rfl

theorem any_long (s:ByteArray) (w:World) (h8:8<s.size) (hs:s.size≤1048576) :
  Calls Tryd.prog 116 #[.string s,.string ⟨#[43,35]⟩] w fun e w'=>∃q:Int,e=.returned (.int .i64 q)∧decide (0≤q)=wildB s.data.toList∧(q==0)=qao s.data.toList∧Below w.heap.size w w':=by
 refine (Any.strings_IndexAny_long Tryd.lays153 (zero_of_info v116).1 (zero_of_info v116).2 s ⟨#[43,35]⟩ w (by decide) h8 (by omega) (by decide) ?_).mono fun e w' ⟨he,hw⟩=>⟨_,he,any_wild _,any_loose _,?_⟩
 ·intro j b hj
  match j,hj with
  |0,hj=>simp at hj;subst hj;decide
  |1,hj=>simp at hj;subst hj;decide
  |j+2,hj=>simp at hj
 ·rw[hw];exact ((Below.refl _ _).alloc (Nat.le_refl _) _).alloc (by simp) _

theorem any_all (s:ByteArray) (w:World) (hs:s.size≤1048576) :
  Calls Tryd.prog 116 #[.string s,.string ⟨#[43,35]⟩] w fun e w'=>∃q:Int,e=.returned (.int .i64 q)∧decide (0≤q)=wildB s.data.toList∧(q==0)=qao s.data.toList∧Below w.heap.size w w':=by
 by_cases h8:s.size≤8
 ·exact any_short s w h8
 ·exact any_long s w (by omega) hs

theorem qcw (s:ByteArray) (w:World) (hs:s.size≤1048576) :
  Calls Tryd.prog 91 #[.string s] w fun e w'=>e=.returned (.bool (wildB s.data.toList))∧Below w.heap.size w w':=by
 have c:=any_all s w hs;have c2:Calls Tryd.prog 111 #[.string s,.string ⟨#[43,35]⟩] w fun e w'=>e=.returned (.bool (wildB s.data.toList))∧Below w.heap.size w w':=by
  go_enter Tryd.func111,Tryd.ntmps111;go_wp2_with fail
  refine c.mono ?_;rintro e w1 ⟨q,rfl,hq,_,hb⟩;have HQ:Hid (decide (0≤q)=wildB s.data.toList):=hq;clear hq;go_wp2;go_ret;exact⟨qaf HQ.out,hb⟩
 go_enter Tryd.func91,Tryd.ntmps91;go_wp2_with fail
 refine c2.mono ?_;rintro e w1 ⟨rfl,hb⟩;go_wp2;go_ret;exact⟨rfl,hb⟩

