/- Lemmas. -/
import Derived.Shelf.Strings.BuilderX
import Derived.Lib.Builder
import Derived.Lib.UnsafeStr
import Derived.Laws.Externs
import Derived.Lib.SplitLaws
import Derived.Test.YtpjkbgdkligpdaaGreatDoorX01
set_option linter.unusedVariables false
set_option linter.unusedSimpArgs false
set_option maxRecDepth 100000
set_option maxHeartbeats 20000000
namespace Go.Proofs.YtpjkbgdkligpdaaGreatDoor
open Go.RowKit

def lvs (l:List UInt8):List ByteArray:=(lvl l).map fun x=>⟨x.toArray⟩
theorem qqn (l:List UInt8):dats (lvs l)=lvl l:=by
 unfold dats lvs;rw[List.map_map];exact List.map_id'' (fun x=>rfl) _
theorem qdu (l:List UInt8):(lvs l).length=(lvl l).length:=by simp[lvs]
theorem lvs_of {ss:List ByteArray} {l:List UInt8} (h:dats ss=lvl l):ss=lvs l:=dats_inj (by rw[h,qqn])
theorem qee:∀l:List UInt8,(lvl l).length≤l.length+1
 |[]=>Nat.le_refl _
 |c :: r=>by
  have:=qee r
  by_cases h:c=47
  ·subst h;rw[qhd];simp;exact this
  ·rw[qhc h,pre_length _ (lvl_ne r),List.length_cons];omega

def LvInv (l:List UInt8) (done:List (List UInt8)) (f k:Nat):Prop :=
 f≤k∧done.length≤k∧((k≤l.length∧lvl l=done++pre ((l.drop f).take (k-f)) (lvl (l.drop k)))∨(k=l.length+1∧done=lvl l))

theorem LvInv.start (l:List UInt8):LvInv l [] 0 0:=⟨Nat.le_refl _,Nat.le_refl _,.inl ⟨Nat.zero_le _,by simp[pre_nil (lvl_ne l)]⟩⟩
theorem LvInv.skip {l:List UInt8} {done:List (List UInt8)} {f k:Nat} (h:LvInv l done f k) (hk:k<l.length) (hc:l.getD k 0≠47):LvInv l done f (k+1):=by
 obtain⟨hf,hd,h | ⟨h,_⟩⟩:=h
 ·refine⟨by omega,by omega,.inl ⟨hk,?_⟩⟩;have e:l.drop k=l.getD k 0 :: l.drop (k+1):=by
   rw[List.drop_eq_getElem_cons hk];simp[List.getD_eq_getElem?_getD,List.getElem?_eq_getElem hk]
  rw[h.2,e,qhc hc,pre_pre]
  congr 2
  have hlen:k-f<(l.drop f).length:=by rw[List.length_drop];omega
  rw[show k+1-f=k-f+1 by omega,List.take_succ_eq_append_getElem hlen,List.getElem_drop]
  congr 2
  simp only[List.getD_eq_getElem?_getD,show f+(k-f)=k by omega,List.getElem?_eq_getElem hk,Option.getD_some]
 ·omega
theorem LvInv.cut {l:List UInt8} {done:List (List UInt8)} {f k:Nat} (h:LvInv l done f k) (hk:k<l.length) (hc:l.getD k 0=47):LvInv l (done++[(l.drop f).take (k-f)]) (k+1) (k+1):=by
 obtain⟨hf,hd,h | ⟨h,_⟩⟩:=h
 ·refine⟨Nat.le_refl _,by simp;omega,.inl ⟨hk,?_⟩⟩;have e:l.drop k=l.getD k 0 :: l.drop (k+1):=by
   rw[List.drop_eq_getElem_cons hk];simp[List.getD_eq_getElem?_getD,List.getElem?_eq_getElem hk]
  rw[h.2,e,hc,qhd,Nat.sub_self,List.take_zero,pre_nil (lvl_ne _)];simp[pre]
 ·omega
theorem LvInv.last {l:List UInt8} {done:List (List UInt8)} {f k:Nat} (h:LvInv l done f k) (hk:k=l.length):LvInv l (done++[(l.drop f).take (k-f)]) (k+1) (k+1):=by
 obtain⟨hf,hd,h | ⟨h,_⟩⟩:=h
 ·refine⟨Nat.le_refl _,by simp;omega,.inr ⟨by omega,?_⟩⟩;rw[h.2,hk,List.drop_length,lvl_nil];simp[pre]
 ·omega

theorem sown_lit0 (w:World):SOwn (w.alloc (.cells #[] 9)) w.heap.size (some ⟨w.heap.size,0,none⟩) 0 0 [] :=
 ⟨rfl,rfl,.inr ⟨w.heap.size,0,#[],rfl,Nat.le_refl _,heap_alloc_new w _,Nat.le_refl _,Nat.zero_le _,rfl,rfl⟩⟩

theorem byte_at (s:ByteArray) (k:Nat) (h:k<s.size):s.data.toList.getD k 0=s[k]'h:=by
 simp[List.getD_eq_getElem?_getD,at_data s k h]
theorem byte_lit (x y:UInt8) (c:Int) (hc:c=(y.toNat:Int)):((x.toNat:Int)==c)=(y==x):=by
 subst hc;rw[Bool.eq_iff_iff,beq_iff_eq,beq_iff_eq];exact⟨fun e=>(UInt8.toNat_inj.1 (by omega)).symm,fun e=>by rw[e]⟩
theorem qrs (ss:List ByteArray) (u:ByteArray):dats (ss++[u])=dats ss++[u.data.toList]:=by simp[dats]

theorem qqw (w:World) (v:Value) (t:TypeId):(w.alloc (.cells #[v] t)).cell? ⟨w.heap.size,0,none⟩ = some v:=by
 rw[World.cell?_alloc_at _ _ _ _ rfl];rfl
theorem qoz {w w1 w2:World} {B:Nat} {ao:Option Addr} {n cap:Nat} {ss:List ByteArray} (hb:Below B w w1) (hB:B≤w1.heap.size) (ho:SOwn w1 B ao n cap ss) (hg:w1.grownBy w2 (Value.slice ao n cap).ownBlock):Below B w w2 :=
 hb.grown hg hB (fun k hk=>(ho.2.lt k hk).1)

theorem qnx (s:ByteArray) (n:Nat) (w:World) (hs:s.size≤1048576) (hN:(lvl s.data.toList).length=n) :
  Calls Tryz.prog 120 #[.string s] w fun e w'=>∃ao cap,e=.returned (.slice ao n cap)∧SOwn w' w.heap.size ao n cap (lvs s.data.toList)∧Below w.heap.size w w':=by
 have HN:Hid ((lvl s.data.toList).length=n):=hN;have H1:Hid (s.size=s.data.toList.length):=rfl;clear hN;go_enter Tryz.func120,Tryz.ntmps120;go_wp2;have ho0:=sown_lit0 w;have hb0:Below w.heap.size w (w.alloc (.cells #[] 9)):=(Below.refl _ _).alloc (Nat.le_refl _) _
 go_loopw [3,4,5] (fun o q i wr=>∃(k f m cap:Nat) (ao:Option Addr) (ss:List ByteArray),i=.int .i64 k∧q=.int .i64 f∧o=.slice ao m cap∧k≤s.size+1∧LvInv s.data.toList (dats ss) f k∧SOwn wr w.heap.size ao m cap ss∧Below w.heap.size w wr) (fun _ _ i _=>s.size+1-(intOf i).toNat)
 case atStart=>exact⟨0,0,0,0,_,[],rfl,rfl,rfl,Nat.zero_le _,LvInv.start _,ho0,hb0⟩
 case round=>
  obtain⟨k,f,m,cap,ao,ss,rfl,rfl,rfl,hk,hI,ho,hb⟩:=hrel;clear ho0 hb0;have HI:Hid (LvInv s.data.toList (dats ss) f k):=hI;have hfk:f≤k:=hI.1;have hm:m≤k:=by have:=hI.2.1;rw[qtm,ho.1] at this;exact this
  clear hI
  by_cases hk1:k≤s.size
  ·have hk1':(k:Int)≤s.size:=by omega
   have hX:Hid ((s.extract f k).data.toList=(s.data.toList.drop f).take (k-f)):=Lib.extract_data s f k;have hfk':(f:Int)≤k:=by omega
   by_cases hkl:k<s.size
   ·have hke:((k:Int)==(s.size:Int))=false:=by simp;omega
    have hbt:=byte_at s k hkl
    by_cases hc:s[k]'hkl=47
    ·have hc':(((s[k]'hkl).toNat:Int)==47)=true:=by rw[hc];rfl
     have HI2:Hid (LvInv s.data.toList (dats (ss++[s.extract f k])) (k+1) (k+1)):=by
      unfold Hid;rw[qrs,hX.out];exact HI.out.cut (by rw[←H1.out];exact hkl) (hbt.trans hc)
     clear hbt hc;go_wp2_with (at_builtin;refine w_sapp _ rfl _ _ rfl w.heap.size ao m cap ss rfl (ho.below ((Below.refl _ _).alloc (Nat.le_refl _) _)) wr.heap.size (s.extract f k) rfl (qqw _ _ _) (by omega) (by have:=hb.size;simp;omega) ?_)
     intro ao' cap' w' ho' hg';have hb':=qoz (hb.alloc hb.size _) (by have:=hb.size;simp;omega) (ho.below ((Below.refl _ _).alloc (Nat.le_refl _) _)) hg';clear hg' ho hb hX HI;go_wp2;go_roundw
     case rel=>exact⟨k+1,k+1,m+1,cap',ao',_,by go_num,by go_num,rfl,by omega,HI2.out,ho',hb'⟩
     case measure=>simp[intOf]<;>omega
    ·have hc':(((s[k]'hkl).toNat:Int)==47)=false:=by rw[byte_lit _ 47 47 rfl];exact beq_eq_false_iff_ne.2 (fun e=>hc e.symm)
     have HI2:Hid (LvInv s.data.toList (dats ss) f (k+1)):=HI.out.skip (by rw[←H1.out];exact hkl) (by rw[hbt];exact hc);clear hbt hc hX HI;go_wp2;go_roundw
     case rel=>exact⟨k+1,f,m,cap,ao,ss,by go_num,rfl,rfl,by omega,HI2.out,ho,hb⟩
     case measure=>simp[intOf]<;>omega
   ·obtain rfl:k=s.size:=by omega
    have hke:((s.size:Int)==(s.size:Int))=true:=by simp
    have HI2:Hid (LvInv s.data.toList (dats (ss++[s.extract f s.size])) (s.size+1) (s.size+1)):=by
     unfold Hid;rw[qrs,hX.out];exact HI.out.last H1.out
    go_wp2_with (at_builtin;refine w_sapp _ rfl _ _ rfl w.heap.size ao m cap ss rfl (ho.below ((Below.refl _ _).alloc (Nat.le_refl _) _)) wr.heap.size (s.extract f s.size) rfl (qqw _ _ _) (by omega) (by have:=hb.size;simp;omega) ?_)
    intro ao' cap' w' ho' hg';have hb':=qoz (hb.alloc hb.size _) (by have:=hb.size;simp;omega) (ho.below ((Below.refl _ _).alloc (Nat.le_refl _) _)) hg';clear hg' ho hb hX HI;go_wp2;go_roundw
    case rel=>exact⟨s.size+1,s.size+1,m+1,cap',ao',_,by go_num,by go_num,rfl,by omega,HI2.out,ho',hb'⟩
    case measure=>simp[intOf]<;>omega
  ·have hk1':¬(k:Int)≤s.size:=by omega
   have hd:dats ss=lvl s.data.toList:=by
    obtain⟨_,_,h | h⟩:=HI.out
    ·have:=H1.out;omega
    ·exact h.2
   have hss:=lvs_of hd;subst hss;have hmn:m=n:=by rw[←HN.out,←ho.1,qdu]
   subst hmn;go_wp2;go_ret;exact⟨ao,cap,rfl,ho,hb⟩


theorem qjf (c:UInt8):∀l:List UInt8,Lib.index l [c]=Lib.indexByte l c
 |[]=>rfl
 |b :: l=>by
  rw[Lib.index,Lib.indexByte,qjf c l]
  by_cases h:b=c
  ·subst h;simp[List.isPrefixOf]
  ·have h1:(c==b)=false:=beq_eq_false_iff_ne.2 (fun e=>h e.symm);have h2:(b==c)=false:=beq_eq_false_iff_ne.2 h;simp[List.isPrefixOf,h1,h2]

theorem qsx:∀(f:Nat) (l:List UInt8),l.length≤f→Lib.splitK [47] 0 (Lib.count l [47]) l=lvl l
 |f,l,hf=>by
  by_cases hm:Lib.indexByte l 47 = -1
  ·rw[Lib.count_miss (by rw[qjf];exact hm),Lib.splitK];refine (qsk l fun c hc e=>?_).symm;obtain⟨k,hk,hk'⟩:=List.getElem_of_mem hc;exact Lib.indexByte_none hm k (by rw[List.getElem?_eq_getElem hk,hk',e])
  ·obtain⟨i,hi⟩ : ∃i:Nat,Lib.indexByte l 47=i:=⟨(Lib.indexByte l 47).toNat,by have:=Lib.indexByte_ge l 47;omega⟩;obtain⟨h1,h2⟩:=Lib.indexByte_some hi;obtain⟨hil,h1'⟩:=List.getElem?_eq_some_iff.1 h1;have hx:Lib.index l [47]=i:=by rw[qjf];exact hi
   have e:l=l.take i++47 :: l.drop (i+1):=by
    rw[←h1',List.getElem_cons_drop,List.take_append_drop]
   have hne:¬(Lib.index l [47]==-1)=true:=by rw[hx,beq_iff_eq];omega
   rw[Lib.count_hit (by simp) hx,Nat.add_comm,Lib.splitK,if_neg hne,hx];have hp:∀c∈l.take i,c≠47:=fun c hc e=>by
    obtain⟨k,hk,hk'⟩:=List.getElem_of_mem hc;have hk2:k<i:=by rw[List.length_take] at hk;omega
    refine h2 k hk2 ?_;rw[List.getElem_take] at hk';rw[List.getElem?_eq_getElem (by omega),hk',e]
   conv=>rhs;rw[e]
   rw[lvl_cut _ _ hp];cases f with
   |zero=>omega
   |succ f=>
    have:=qsx f (l.drop (i+1)) (by rw[List.length_drop];omega);simp only[Int.toNat_natCast,Nat.add_zero,List.length_cons,List.length_nil,Nat.zero_add];rw[this]

theorem qsy (s:ByteArray):Lib.splitB ⟨#[47]⟩ 0 (Lib.countB s ⟨#[47]⟩) s=lvs s.data.toList:=by
 apply lvs_of
 show (Lib.splitB ⟨#[47]⟩ 0 (Lib.countB s ⟨#[47]⟩) s).map (·.data.toList)=_;rw[Lib.splitB_data];exact qsx _ _ (Nat.le_refl _)
theorem count_lvl (s:ByteArray):Lib.countB s ⟨#[47]⟩+1=(lvl s.data.toList).length:=by
 rw[←qdu,←qsy,Lib.splitB_all ⟨#[47]⟩ (by decide) 0 _ s rfl]

theorem gen_split (s:ByteArray) (n:Nat) (w:World) (hs:s.size≤1048576) (hN:(lvl s.data.toList).length=n) :
  Calls Tryz.prog 203 #[.string s,.string ⟨#[47]⟩,.int .i64 0,.int .i64 (-1)] w fun e w'=>
   e=.returned (.slice (some ⟨w.heap.size,0,none⟩) n n)∧w'=w.alloc (.cells (svals (lvs s.data.toList)).toArray 9):=by
 have hcl:=count_lvl s;have hle:(lvl s.data.toList).length≤s.size+1:=qee s.data.toList;have c:=Any.strings_genSplit_core Tryz.lays221 info9 s ⟨#[47]⟩ 0 (-1) n w (by omega) (by decide) (Nat.zero_le _)
  (fun x c hx=>(Any.strings_Index_one { Tryz.lays221 with } x 47 _).mono fun e w' ⟨he,hw⟩=>⟨by rw[he,←qjf],hw⟩)
  ((Any.strings_Count_one { Tryz.lays221 with } s 47 w).mono fun e w' ⟨he,hw⟩=>⟨by
   rw[he];show _=Ending.returned (Value.int .i64 ((Lib.count s.data.toList [47]:Nat):Int));rw[Lib.count_one];rfl,hw⟩)
  (by decide) (by decide) (by rw[if_pos (by decide)];omega)
 rw[show n-1=Lib.countB s ⟨#[47]⟩ by omega,qsy,qdu,hN] at c;have e2:Lib.cellsOf (lvs s.data.toList) n=(svals (lvs s.data.toList)).toArray:=by
  rw[←hN,←qdu];exact Lib.cellsOf_full _
 rw[e2] at c;exact c

theorem split_x (s:ByteArray) (n:Nat) (w:World) (hs:s.size≤1048576) (hN:(lvl s.data.toList).length=n) :
  Calls Tryz.prog 200 #[.string s,.string ⟨#[47]⟩] w fun e w'=>
   e=.returned (.slice (some ⟨w.heap.size,0,none⟩) n n)∧w'=w.alloc (.cells (svals (lvs s.data.toList)).toArray 9):=by
 go_enter Tryz.func200,Tryz.ntmps200;go_wp2_with fail
 refine (gen_split s n w hs hN).mono ?_;rintro e w' ⟨rfl,rfl⟩;go_wp2;go_ret;exact⟨rfl,rfl⟩

theorem clone_x (s:ByteArray) (w:World) (hs:s.size≤1048576) :
  Calls Tryz.prog 201 #[.string s] w fun e w'=>e=.returned (.string s)∧Below w.heap.size w w':=by
 go_enter Tryz.func201,Tryz.ntmps201;go_wp2_with fail
 refine (show Calls Tryz.prog 204 #[.string s] w fun e w'=>e=.returned (.string s)∧Below w.heap.size w w' from Any.stringslite_Clone Tryz.laysM316 s w (by omega)).mono ?_;rintro e w' ⟨rfl,hb⟩;go_wp2;go_ret;exact⟨rfl,hb⟩

theorem sown_made (w:World) (ss:List ByteArray) (n:Nat) (hn:ss.length=n) (hm:n≤maxLen):SOwn (w.alloc (.cells (svals ss).toArray 9)) w.heap.size (some ⟨w.heap.size,0,none⟩) n n ss :=
 ⟨hn,by simp[qgj,hn],.inr ⟨w.heap.size,n,(svals ss).toArray,rfl,Nat.le_refl _,heap_alloc_new w _,Nat.le_refl _,hm,by simp[qgj,hn],by simp[qgj,hn];exact List.take_of_length_le (by rw[qgj,hn];exact Nat.le_refl _)⟩⟩

theorem st_set (ss:List ByteArray) (k:Nat):ss.set k (st ss k)=ss:=by
 by_cases h:k<ss.length
 ·have e:st ss k=ss[k]'h:=by simp[st,List.getD_eq_getElem?_getD,List.getElem?_eq_getElem h]
  rw[e,List.set_getElem_self]
 ·rw[List.set_eq_of_length_le (by omega)]

theorem qod (l:List UInt8) (k:Nat) (h:k<(lvs l).length):(st (lvs l) k).size≤l.length:=by
 have hx:(st (lvs l) k).data.toList∈lvl l:=by
  rw[←qqn l];exact List.mem_map_of_mem (qsz h)
 have:∀(l x:List UInt8),x∈lvl l→x.length≤l.length:=by
  intro l
  induction l with
  |nil=>intro x hx;simp[lvl] at hx;subst hx;simp
  |cons c r ih=>
   intro x hx
   by_cases hc:c=47
   ·subst hc;rw[qhd] at hx
    rcases List.mem_cons.1 hx with rfl | hx
    ·simp
    ·have:=ih x hx;simp;omega
   ·rw[qhc hc] at hx;cases hl:lvl r with
    |nil=>exact absurd hl (lvl_ne r)
    |cons a t=>
     rw[hl] at hx;simp only[pre,List.mem_cons] at hx
     rcases hx with rfl | hx
     ·have:=ih a (by rw[hl];simp);simp;omega
     ·have:=ih x (by rw[hl];simp[hx]);simp;omega
 exact this l _ hx

theorem qnw (s:ByteArray) (n:Nat) (w:World) (hs:s.size≤1048576) (hN:(lvl s.data.toList).length=n) :
  Calls Tryz.prog 198 #[.string s] w fun e w'=>e=.returned (.slice (some ⟨w.heap.size,0,none⟩) n n)∧SOwn w' w.heap.size (some ⟨w.heap.size,0,none⟩) n n (lvs s.data.toList)∧Below w.heap.size w w':=by
 have hle:n≤s.size+1:=by rw[←hN];exact qee s.data.toList
 have HV:Hid ((lvs s.data.toList).length=n):=by unfold Hid;rw[qdu];exact hN
 have HS:Hid (∀k,k<n→(st (lvs s.data.toList) k).size≤1048576):=fun k hk=>by
  have:=qod s.data.toList k (by rw[HV.out];exact hk);have e1:s.size=s.data.toList.length:=rfl;omega
 have ho0:=sown_made w (lvs s.data.toList) n HV.out (by unfold maxLen;omega);have hb0:Below w.heap.size w (w.alloc (.cells (svals (lvs s.data.toList)).toArray 9)):=(Below.refl _ _).alloc (Nat.le_refl _) _;have c:=split_x s n w hs hN;generalize (w.alloc (.cells (svals (lvs s.data.toList)).toArray 9))=w0 at *;clear hN;generalize lvs s.data.toList=ss at *;go_enter Tryz.func198,Tryz.ntmps198;go_wp2_with fail
 refine c.mono ?_;rintro e w1 ⟨rfl,hw⟩;subst hw;go_wp2
 go_loopw [10] (fun i wr=>∃k:Nat,i=.int .i64 k∧k≤n∧SOwn wr w.heap.size (some ⟨w.heap.size,0,none⟩) n n ss∧Below w.heap.size w wr) (fun i _=>n-(intOf i).toNat)
 case atStart=>exact⟨0,rfl,Nat.zero_le _,ho0,hb0⟩
 case round=>
  obtain⟨k,rfl,hk,ho,hb⟩:=hrel;clear ho0 hb0
  by_cases hlt:k<n
  ·have hlt':(k:Int)<n:=by omega
   have hz:=ho.cell k hlt;go_wp2_with fail
   refine (clone_x (st ss k) wr (HS.out k hlt)).mono ?_;rintro e w2 ⟨rfl,hb2⟩;have ho2:=ho.below hb2;have hb3:=hb.trans (hb2.mono hb.size);clear hb hb2 ho hz;have hz2:=ho2.cell k hlt;have hf:=ho2.frozen k;have HO:=ho2.store k (st ss k);rw[st_set] at HO;have HO':Hid (SOwn (w2.setCell ⟨w.heap.size,k,none⟩ (.string (st ss k))) w.heap.size (some ⟨w.heap.size,0,none⟩) n n ss):=HO;clear HO ho2;go_wp2;go_roundw
   case rel=>exact⟨k+1,by go_num,by omega,HO'.out,hb3.setCell (Nat.le_refl _) _⟩
   case measure=>simp[intOf]<;>omega
  ·have hlt':¬(k:Int)<n:=by omega
   go_wp2;go_ret;exact⟨rfl,ho,hb⟩


theorem qfb (n:Int):(BitVec.ofInt 64 n).toNat=(n%18446744073709551616).toNat:=by
 rw[BitVec.toNat_ofInt];rfl

theorem qna (m:Nat) (h:m<9223372036854775808):IntKind.i64.wrap (m:Int)=m:=by
 rw[IntKind.wrap_i64];omega

theorem mask7 (n:Int):bits .and .i64 n 7=n%8:=by
 show IntKind.i64.wrap (((BitVec.ofInt 64 n &&& BitVec.ofInt 64 7):BitVec 64).toNat:Int)=_;rw[BitVec.toNat_and,qfb,qfb,show ((7:Int)%18446744073709551616).toNat=2 ^ 3-1 from by decide,Nat.and_two_pow_sub_one_eq_mod];have h:=Nat.mod_lt (n%18446744073709551616).toNat (show 0<2 ^ 3 by decide);rw[show (2:Nat) ^ 3=8 from by decide] at *;rw[qna _ (by omega)];omega

theorem mask15 (n:Int):bits .and .i64 n 15=n%16:=by
 show IntKind.i64.wrap (((BitVec.ofInt 64 n &&& BitVec.ofInt 64 15):BitVec 64).toNat:Int)=_;rw[BitVec.toNat_and,qfb,qfb,show ((15:Int)%18446744073709551616).toNat=2 ^ 4-1 from by decide,Nat.and_two_pow_sub_one_eq_mod];have h:=Nat.mod_lt (n%18446744073709551616).toNat (show 0<2 ^ 4 by decide);rw[show (2:Nat) ^ 4=16 from by decide] at *;rw[qna _ (by omega)];omega

theorem mask31 (n:Int):bits .and .i64 n 31=n%32:=by
 show IntKind.i64.wrap (((BitVec.ofInt 64 n &&& BitVec.ofInt 64 31):BitVec 64).toNat:Int)=_;rw[BitVec.toNat_and,qfb,qfb,show ((31:Int)%18446744073709551616).toNat=2 ^ 5-1 from by decide,Nat.and_two_pow_sub_one_eq_mod];have h:=Nat.mod_lt (n%18446744073709551616).toNat (show 0<2 ^ 5 by decide);rw[show (2:Nat) ^ 5=32 from by decide] at *;rw[qna _ (by omega)];omega

theorem mask255 (n:Int):bits .and .i64 n 255=n%256:=by
 show IntKind.i64.wrap (((BitVec.ofInt 64 n &&& BitVec.ofInt 64 255):BitVec 64).toNat:Int)=_;rw[BitVec.toNat_and,qfb,qfb,show ((255:Int)%18446744073709551616).toNat=2 ^ 8-1 from by decide,Nat.and_two_pow_sub_one_eq_mod];have h:=Nat.mod_lt (n%18446744073709551616).toNat (show 0<2 ^ 8 by decide);rw[show (2:Nat) ^ 8=256 from by decide] at *;rw[qna _ (by omega)];omega

