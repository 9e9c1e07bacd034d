/- Lemmas. -/
import Derived.Shelf.Small.Utf8
import Derived.Shelf.Small.Strs
import Derived.Shelf.LaysM
import Derived.Shelf.Strconv.Clone
import Derived.Shelf.Strings.Search3
import Derived.Shelf.Strings.Count
import Derived.Shelf.Strings.Split
import Derived.Shelf.Strings.IndexAnyAll
import Derived.Test.YtpjkbgdkligpdaaGreatProg
import Derived.Shelf.Strings.BuilderX
import Derived.Lib.Builder
import Derived.Lib.UnsafeStr
import Derived.Laws.Externs
import Derived.Lib.SplitLaws
import Derived.Test.YtpjkbgdkligpdaaGreatW01
set_option linter.unusedVariables false
set_option linter.unusedSimpArgs false
set_option maxRecDepth 100000
set_option maxHeartbeats 20000000
namespace Go.Proofs
open Go.Shelf
def Tryz.lays119_ren:Go.Shelf.Ren:=⟨fun | 119=>116 | n=>n,fun | 21=>21 | 4=>4 | n=>n,fun | n=>n⟩
theorem Tryz.lays119:Go.Proofs.Lays.n119 Tryz.prog Tryz.lays119_ren:={
 mixed:=by kernel_rfl
 f119:=Tryz.func116.trans (congrArg some (by kernel_rfl))
 t4:=Tryz.underlying4
 a4:=Tryz.isAgg4
 z4:=Tryz.sizeOf4
 v4:=Tryz.zeroValue4
 t21:=Tryz.underlying21
 a21:=Tryz.isAgg21
 z21:=Tryz.sizeOf21
 v21:=Tryz.zeroValue21 }
def Tryz.lays137_ren:Go.Shelf.Ren:=⟨fun | 137=>115 | 217=>123 | 266=>126 | n=>n,fun | 9=>9 | 5=>5 | 3=>3 | n=>n,fun | n=>n⟩
theorem Tryz.lays137:Go.Proofs.Lays.n137 Tryz.prog Tryz.lays137_ren:={
 mixed:=by kernel_rfl
 f137:=Tryz.func115.trans (congrArg some (by kernel_rfl))
 f217:=Tryz.func123.trans (congrArg some (by kernel_rfl))
 f266:=Tryz.func126.trans (congrArg some (by kernel_rfl))
 t3:=Tryz.underlying3
 a3:=Tryz.isAgg3
 z3:=Tryz.sizeOf3
 v3:=Tryz.zeroValue3
 t5:=Tryz.underlying5
 a5:=Tryz.isAgg5
 z5:=Tryz.sizeOf5
 v5:=Tryz.zeroValue5
 t9:=Tryz.underlying9
 a9:=Tryz.isAgg9
 z9:=Tryz.sizeOf9
 v9:=Tryz.zeroValue9 }
def Tryz.laysM316_ren:Go.Shelf.Ren:=⟨fun | 316=>106 | n=>n,fun | 9=>9 | 3=>3 | 4=>4 | 37=>22 | 0=>0 | 127=>131 | 5=>5 | n=>n,fun | n=>n⟩
theorem Tryz.laysM316:Go.Proofs.LaysM.n316 Tryz.prog Tryz.laysM316_ren:={
 mixed:=by kernel_rfl
 f316:=Tryz.func106.trans (congrArg some (by kernel_rfl))
 t0:=Tryz.underlying0
 a0:=Tryz.isAgg0
 z0:=Tryz.sizeOf0
 v0:=Tryz.zeroValue0
 t3:=Tryz.underlying3
 a3:=Tryz.isAgg3
 z3:=Tryz.sizeOf3
 v3:=Tryz.zeroValue3
 t4:=Tryz.underlying4
 a4:=Tryz.isAgg4
 z4:=Tryz.sizeOf4
 v4:=Tryz.zeroValue4
 t9:=Tryz.underlying9
 a9:=Tryz.isAgg9
 z9:=Tryz.sizeOf9
 v9:=Tryz.zeroValue9
 t37:=Tryz.underlying22
 a37:=Tryz.isAgg22
 z37:=Tryz.sizeOf22
 v37:=Tryz.zeroValue22
 t127:=Tryz.underlying131
 a127:=Tryz.isAgg131
 z127:=Tryz.sizeOf131
 v127:=Tryz.zeroValue131
 t5:=Tryz.underlying5
 a5:=Tryz.isAgg5
 z5:=Tryz.sizeOf5
 v5:=Tryz.zeroValue5
 i0:=by kernel_rfl
 i3:=by kernel_rfl
 i4:=by kernel_rfl
 i5:=by kernel_rfl
 i9:=by kernel_rfl
 i37:=by kernel_rfl
 i127:=by kernel_rfl }
def Tryz.lays221_ren:Go.Shelf.Ren:=⟨fun | 221=>105 | 268=>112 | 138=>113 | 143=>114 | 195=>119 | 197=>120 | 218=>121 | 219=>122 | 260=>124 | 217=>123 | 225=>118 | 224=>117 | 267=>125 | 266=>126 | 314=>127 | n=>n,fun | 9=>9 | 3=>3 | 31=>24 | 4=>4 | 0=>0 | 105=>154 | 21=>21 | 5=>5 | 46=>77 | 119=>156 | 139=>159 | 138=>158 | 146=>160 | 51=>127 | n=>n,fun | 1=>0 | 3=>1 | 4=>2 | n=>n⟩
theorem Tryz.lays221:Go.Proofs.Lays.n221 Tryz.prog Tryz.lays221_ren:={
 mixed:=by kernel_rfl
 f138:=Tryz.func113.trans (congrArg some (by kernel_rfl))
 f143:=Tryz.func114.trans (congrArg some (by kernel_rfl))
 f195:=Tryz.func119.trans (congrArg some (by kernel_rfl))
 f197:=Tryz.func120.trans (congrArg some (by kernel_rfl))
 f217:=Tryz.func123.trans (congrArg some (by kernel_rfl))
 f218:=Tryz.func121.trans (congrArg some (by kernel_rfl))
 f219:=Tryz.func122.trans (congrArg some (by kernel_rfl))
 f221:=Tryz.func105.trans (congrArg some (by kernel_rfl))
 f224:=Tryz.func117.trans (congrArg some (by kernel_rfl))
 f225:=Tryz.func118.trans (congrArg some (by kernel_rfl))
 f260:=Tryz.func124.trans (congrArg some (by kernel_rfl))
 f266:=Tryz.func126.trans (congrArg some (by kernel_rfl))
 f267:=Tryz.func125.trans (congrArg some (by kernel_rfl))
 f268:=Tryz.func112.trans (congrArg some (by kernel_rfl))
 f314:=Tryz.func127.trans (congrArg some (by kernel_rfl))
 t0:=Tryz.underlying0
 a0:=Tryz.isAgg0
 z0:=Tryz.sizeOf0
 v0:=Tryz.zeroValue0
 t3:=Tryz.underlying3
 a3:=Tryz.isAgg3
 z3:=Tryz.sizeOf3
 v3:=Tryz.zeroValue3
 t4:=Tryz.underlying4
 a4:=Tryz.isAgg4
 z4:=Tryz.sizeOf4
 v4:=Tryz.zeroValue4
 t5:=Tryz.underlying5
 a5:=Tryz.isAgg5
 z5:=Tryz.sizeOf5
 v5:=Tryz.zeroValue5
 t9:=Tryz.underlying9
 a9:=Tryz.isAgg9
 z9:=Tryz.sizeOf9
 v9:=Tryz.zeroValue9
 t21:=Tryz.underlying21
 a21:=Tryz.isAgg21
 z21:=Tryz.sizeOf21
 v21:=Tryz.zeroValue21
 t31:=Tryz.underlying24
 a31:=Tryz.isAgg24
 z31:=Tryz.sizeOf24
 v31:=Tryz.zeroValue24
 t46:=Tryz.underlying77
 a46:=Tryz.isAgg77
 z46:=Tryz.sizeOf77
 v46:=Tryz.zeroValue77
 t51:=Tryz.underlying127
 a51:=Tryz.isAgg127
 z51:=Tryz.sizeOf127
 v51:=Tryz.zeroValue127
 t105:=Tryz.underlying154
 a105:=Tryz.isAgg154
 z105:=Tryz.sizeOf154
 v105:=Tryz.zeroValue154
 t119:=Tryz.underlying156
 a119:=Tryz.isAgg156
 z119:=Tryz.sizeOf156
 t138:=Tryz.underlying158
 a138:=Tryz.isAgg158
 z138:=Tryz.sizeOf158
 v138:=Tryz.zeroValue158
 t139:=Tryz.underlying159
 a139:=Tryz.isAgg159
 z139:=Tryz.sizeOf159
 v139:=Tryz.zeroValue159
 t146:=Tryz.underlying160
 a146:=Tryz.isAgg160
 z146:=Tryz.sizeOf160
 v146:=Tryz.zeroValue160
 g1:=by kernel_rfl
 g3:=by kernel_rfl
 g4:=by kernel_rfl }
def Tryz.lays152_ren:Go.Shelf.Ren:=⟨fun | 152=>107 | 137=>115 | 119=>116 | 224=>117 | 225=>118 | 217=>123 | 266=>126 | n=>n,fun | 9=>9 | 21=>21 | 3=>3 | 4=>4 | 5=>5 | 0=>0 | 46=>77 | n=>n,fun | n=>n⟩
theorem Tryz.lays152:Go.Proofs.Lays.n152 Tryz.prog Tryz.lays152_ren:={
 mixed:=by kernel_rfl
 f119:=Tryz.func116.trans (congrArg some (by kernel_rfl))
 f137:=Tryz.func115.trans (congrArg some (by kernel_rfl))
 f152:=Tryz.func107.trans (congrArg some (by kernel_rfl))
 f217:=Tryz.func123.trans (congrArg some (by kernel_rfl))
 f224:=Tryz.func117.trans (congrArg some (by kernel_rfl))
 f225:=Tryz.func118.trans (congrArg some (by kernel_rfl))
 f266:=Tryz.func126.trans (congrArg some (by kernel_rfl))
 t0:=Tryz.underlying0
 a0:=Tryz.isAgg0
 z0:=Tryz.sizeOf0
 v0:=Tryz.zeroValue0
 t3:=Tryz.underlying3
 a3:=Tryz.isAgg3
 z3:=Tryz.sizeOf3
 v3:=Tryz.zeroValue3
 t4:=Tryz.underlying4
 a4:=Tryz.isAgg4
 z4:=Tryz.sizeOf4
 v4:=Tryz.zeroValue4
 t5:=Tryz.underlying5
 a5:=Tryz.isAgg5
 z5:=Tryz.sizeOf5
 v5:=Tryz.zeroValue5
 t9:=Tryz.underlying9
 a9:=Tryz.isAgg9
 z9:=Tryz.sizeOf9
 v9:=Tryz.zeroValue9
 t21:=Tryz.underlying21
 a21:=Tryz.isAgg21
 z21:=Tryz.sizeOf21
 v21:=Tryz.zeroValue21
 t46:=Tryz.underlying77
 a46:=Tryz.isAgg77
 z46:=Tryz.sizeOf77
 v46:=Tryz.zeroValue77 }
def Tryz.lays226_ren:Go.Shelf.Ren:=⟨fun | 226=>108 | n=>n,fun | 3=>3 | 4=>4 | n=>n,fun | n=>n⟩
theorem Tryz.lays226:Go.Proofs.Lays.n226 Tryz.prog Tryz.lays226_ren:={
 mixed:=by kernel_rfl
 f226:=Tryz.func108.trans (congrArg some (by kernel_rfl))
 t3:=Tryz.underlying3
 a3:=Tryz.isAgg3
 z3:=Tryz.sizeOf3
 v3:=Tryz.zeroValue3
 t4:=Tryz.underlying4
 a4:=Tryz.isAgg4
 z4:=Tryz.sizeOf4
 v4:=Tryz.zeroValue4 }
def Tryz.lays153_ren:Go.Shelf.Ren:=⟨fun | 153=>103 | 152=>107 | 226=>108 | 227=>109 | 228=>110 | 137=>115 | 119=>116 | 224=>117 | 225=>118 | 217=>123 | 266=>126 | n=>n,fun | 9=>9 | 3=>3 | 4=>4 | 5=>5 | 21=>21 | 117=>146 | 116=>145 | 0=>0 | 46=>77 | 124=>153 | n=>n,fun | n=>n⟩
theorem Tryz.lays153:Go.Proofs.Lays.n153 Tryz.prog Tryz.lays153_ren:={
 mixed:=by kernel_rfl
 f119:=Tryz.func116.trans (congrArg some (by kernel_rfl))
 f137:=Tryz.func115.trans (congrArg some (by kernel_rfl))
 f152:=Tryz.func107.trans (congrArg some (by kernel_rfl))
 f153:=Tryz.func103.trans (congrArg some (by kernel_rfl))
 f217:=Tryz.func123.trans (congrArg some (by kernel_rfl))
 f224:=Tryz.func117.trans (congrArg some (by kernel_rfl))
 f225:=Tryz.func118.trans (congrArg some (by kernel_rfl))
 f226:=Tryz.func108.trans (congrArg some (by kernel_rfl))
 f227:=Tryz.func109.trans (congrArg some (by kernel_rfl))
 f228:=Tryz.func110.trans (congrArg some (by kernel_rfl))
 f266:=Tryz.func126.trans (congrArg some (by kernel_rfl))
 t0:=Tryz.underlying0
 a0:=Tryz.isAgg0
 z0:=Tryz.sizeOf0
 v0:=Tryz.zeroValue0
 t3:=Tryz.underlying3
 a3:=Tryz.isAgg3
 z3:=Tryz.sizeOf3
 v3:=Tryz.zeroValue3
 t4:=Tryz.underlying4
 a4:=Tryz.isAgg4
 z4:=Tryz.sizeOf4
 v4:=Tryz.zeroValue4
 t5:=Tryz.underlying5
 a5:=Tryz.isAgg5
 z5:=Tryz.sizeOf5
 v5:=Tryz.zeroValue5
 t9:=Tryz.underlying9
 a9:=Tryz.isAgg9
 z9:=Tryz.sizeOf9
 v9:=Tryz.zeroValue9
 t21:=Tryz.underlying21
 a21:=Tryz.isAgg21
 z21:=Tryz.sizeOf21
 v21:=Tryz.zeroValue21
 t46:=Tryz.underlying77
 a46:=Tryz.isAgg77
 z46:=Tryz.sizeOf77
 v46:=Tryz.zeroValue77
 t116:=Tryz.underlying145
 a116:=Tryz.isAgg145
 z116:=Tryz.sizeOf145
 t117:=Tryz.underlying146
 a117:=Tryz.isAgg146
 z117:=Tryz.sizeOf146
 v117:=Tryz.zeroValue146
 t124:=Tryz.underlying153
 a124:=Tryz.isAgg153
 z124:=Tryz.sizeOf153
 v124:=Tryz.zeroValue153 }
end Go.Proofs
namespace Go.Proofs.YtpjkbgdkligpdaaGreat
open Go.RowKit

def lvs (l:List UInt8):List ByteArray:=(lvl l).map fun x=>⟨x.toArray⟩
theorem qmt (l:List UInt8):dats (lvs l)=lvl l:=by
 unfold dats lvs;rw[List.map_map];exact List.map_id'' (fun x=>rfl) _
theorem qcm (l:List UInt8):(lvs l).length=(lvl l).length:=by simp[lvs]
theorem lvs_of {ss:List ByteArray} {l:List UInt8} (h:dats ss=lvl l):ss=lvs l:=dats_inj (by rw[h,qmt])
theorem qcq:∀l:List UInt8,(lvl l).length≤l.length+1
 |[]=>Nat.le_refl _
 |c :: r=>by
  have:=qcq r
  by_cases h:c=47
  ·subst h;rw[qeh];simp;exact this
  ·rw[qeg h,pre_length _ (lvl_ne r),List.length_cons];omega

def LvInv (l:List UInt8) (done:List (List UInt8)) (f k:Nat):Prop :=
 f≤k∧done.length≤k∧((k≤l.length∧lvl l=done++pre ((l.drop f).take (k-f)) (lvl (l.drop k)))∨(k=l.length+1∧done=lvl l))

theorem LvInv.start (l:List UInt8):LvInv l [] 0 0:=⟨Nat.le_refl _,Nat.le_refl _,.inl ⟨Nat.zero_le _,by simp[pre_nil (lvl_ne l)]⟩⟩
theorem LvInv.skip {l:List UInt8} {done:List (List UInt8)} {f k:Nat} (h:LvInv l done f k) (hk:k<l.length) (hc:l.getD k 0≠47):LvInv l done f (k+1):=by
 obtain⟨hf,hd,h | ⟨h,_⟩⟩:=h
 ·refine⟨by omega,by omega,.inl ⟨hk,?_⟩⟩;have e:l.drop k=l.getD k 0 :: l.drop (k+1):=by
   rw[List.drop_eq_getElem_cons hk];simp[List.getD_eq_getElem?_getD,List.getElem?_eq_getElem hk]
  rw[h.2,e,qeg hc,pre_pre]
  congr 2
  have hlen:k-f<(l.drop f).length:=by rw[List.length_drop];omega
  rw[show k+1-f=k-f+1 by omega,List.take_succ_eq_append_getElem hlen,List.getElem_drop]
  congr 2
  simp only[List.getD_eq_getElem?_getD,show f+(k-f)=k by omega,List.getElem?_eq_getElem hk,Option.getD_some]
 ·omega
theorem LvInv.cut {l:List UInt8} {done:List (List UInt8)} {f k:Nat} (h:LvInv l done f k) (hk:k<l.length) (hc:l.getD k 0=47):LvInv l (done++[(l.drop f).take (k-f)]) (k+1) (k+1):=by
 obtain⟨hf,hd,h | ⟨h,_⟩⟩:=h
 ·refine⟨Nat.le_refl _,by simp;omega,.inl ⟨hk,?_⟩⟩;have e:l.drop k=l.getD k 0 :: l.drop (k+1):=by
   rw[List.drop_eq_getElem_cons hk];simp[List.getD_eq_getElem?_getD,List.getElem?_eq_getElem hk]
  rw[h.2,e,hc,qeh,Nat.sub_self,List.take_zero,pre_nil (lvl_ne _)];simp[pre]
 ·omega
theorem LvInv.last {l:List UInt8} {done:List (List UInt8)} {f k:Nat} (h:LvInv l done f k) (hk:k=l.length):LvInv l (done++[(l.drop f).take (k-f)]) (k+1) (k+1):=by
 obtain⟨hf,hd,h | ⟨h,_⟩⟩:=h
 ·refine⟨Nat.le_refl _,by simp;omega,.inr ⟨by omega,?_⟩⟩;rw[h.2,hk,List.drop_length,lvl_nil];simp[pre]
 ·omega

theorem sown_lit0 (w:World):SOwn (w.alloc (.cells #[] 9)) w.heap.size (some ⟨w.heap.size,0,none⟩) 0 0 [] :=
 ⟨rfl,rfl,.inr ⟨w.heap.size,0,#[],rfl,Nat.le_refl _,heap_alloc_new w _,Nat.le_refl _,Nat.zero_le _,rfl,rfl⟩⟩

theorem byte_at (s:ByteArray) (k:Nat) (h:k<s.size):s.data.toList.getD k 0=s[k]'h:=by
 simp[List.getD_eq_getElem?_getD,at_data s k h]
theorem byte_lit (x y:UInt8) (c:Int) (hc:c=(y.toNat:Int)):((x.toNat:Int)==c)=(y==x):=by
 subst hc;rw[Bool.eq_iff_iff,beq_iff_eq,beq_iff_eq];exact⟨fun e=>(UInt8.toNat_inj.1 (by omega)).symm,fun e=>by rw[e]⟩
theorem qnr (ss:List ByteArray) (u:ByteArray):dats (ss++[u])=dats ss++[u.data.toList]:=by simp[dats]

theorem qnd (w:World) (v:Value) (t:TypeId):(w.alloc (.cells #[v] t)).cell? ⟨w.heap.size,0,none⟩ = some v:=by
 rw[World.cell?_alloc_at _ _ _ _ rfl];rfl
theorem qll {w w1 w2:World} {B:Nat} {ao:Option Addr} {n cap:Nat} {ss:List ByteArray} (hb:Below B w w1) (hB:B≤w1.heap.size) (ho:SOwn w1 B ao n cap ss) (hg:w1.grownBy w2 (Value.slice ao n cap).ownBlock):Below B w w2 :=
 hb.grown hg hB (fun k hk=>(ho.2.lt k hk).1)

theorem qkp (s:ByteArray) (n:Nat) (w:World) (hs:s.size≤1048576) (hN:(lvl s.data.toList).length=n) :
  Calls Tryz.prog 65 #[.string s] w fun e w'=>∃ao cap,e=.returned (.slice ao n cap)∧SOwn w' w.heap.size ao n cap (lvs s.data.toList)∧Below w.heap.size w w':=by
 have HN:Hid ((lvl s.data.toList).length=n):=hN;have H1:Hid (s.size=s.data.toList.length):=rfl;clear hN;go_enter Tryz.func65,Tryz.ntmps65;go_wp2;have ho0:=sown_lit0 w;have hb0:Below w.heap.size w (w.alloc (.cells #[] 9)):=(Below.refl _ _).alloc (Nat.le_refl _) _
 go_loopw [3,4,5] (fun o q i wr=>∃(k f m cap:Nat) (ao:Option Addr) (ss:List ByteArray),i=.int .i64 k∧q=.int .i64 f∧o=.slice ao m cap∧k≤s.size+1∧LvInv s.data.toList (dats ss) f k∧SOwn wr w.heap.size ao m cap ss∧Below w.heap.size w wr) (fun _ _ i _=>s.size+1-(intOf i).toNat)
 case atStart=>exact⟨0,0,0,0,_,[],rfl,rfl,rfl,Nat.zero_le _,LvInv.start _,ho0,hb0⟩
 case round=>
  obtain⟨k,f,m,cap,ao,ss,rfl,rfl,rfl,hk,hI,ho,hb⟩:=hrel;clear ho0 hb0;have HI:Hid (LvInv s.data.toList (dats ss) f k):=hI;have hfk:f≤k:=hI.1;have hm:m≤k:=by have:=hI.2.1;rw[qop,ho.1] at this;exact this
  clear hI
  by_cases hk1:k≤s.size
  ·have hk1':(k:Int)≤s.size:=by omega
   have hX:Hid ((s.extract f k).data.toList=(s.data.toList.drop f).take (k-f)):=Lib.extract_data s f k;have hfk':(f:Int)≤k:=by omega
   by_cases hkl:k<s.size
   ·have hke:((k:Int)==(s.size:Int))=false:=by simp;omega
    have hbt:=byte_at s k hkl
    by_cases hc:s[k]'hkl=47
    ·have hc':(((s[k]'hkl).toNat:Int)==47)=true:=by rw[hc];rfl
     have HI2:Hid (LvInv s.data.toList (dats (ss++[s.extract f k])) (k+1) (k+1)):=by
      unfold Hid;rw[qnr,hX.out];exact HI.out.cut (by rw[←H1.out];exact hkl) (hbt.trans hc)
     clear hbt hc;go_wp2_with (at_builtin;refine w_sapp _ rfl _ _ rfl w.heap.size ao m cap ss rfl (ho.below ((Below.refl _ _).alloc (Nat.le_refl _) _)) wr.heap.size (s.extract f k) rfl (qnd _ _ _) (by omega) (by have:=hb.size;simp;omega) ?_)
     intro ao' cap' w' ho' hg';have hb':=qll (hb.alloc hb.size _) (by have:=hb.size;simp;omega) (ho.below ((Below.refl _ _).alloc (Nat.le_refl _) _)) hg';clear hg' ho hb hX HI;go_wp2;go_roundw
     case rel=>exact⟨k+1,k+1,m+1,cap',ao',_,by go_num,by go_num,rfl,by omega,HI2.out,ho',hb'⟩
     case measure=>simp[intOf]<;>omega
    ·have hc':(((s[k]'hkl).toNat:Int)==47)=false:=by rw[byte_lit _ 47 47 rfl];exact beq_eq_false_iff_ne.2 (fun e=>hc e.symm)
     have HI2:Hid (LvInv s.data.toList (dats ss) f (k+1)):=HI.out.skip (by rw[←H1.out];exact hkl) (by rw[hbt];exact hc);clear hbt hc hX HI;go_wp2;go_roundw
     case rel=>exact⟨k+1,f,m,cap,ao,ss,by go_num,rfl,rfl,by omega,HI2.out,ho,hb⟩
     case measure=>simp[intOf]<;>omega
   ·obtain rfl:k=s.size:=by omega
    have hke:((s.size:Int)==(s.size:Int))=true:=by simp
    have HI2:Hid (LvInv s.data.toList (dats (ss++[s.extract f s.size])) (s.size+1) (s.size+1)):=by
     unfold Hid;rw[qnr,hX.out];exact HI.out.last H1.out
    go_wp2_with (at_builtin;refine w_sapp _ rfl _ _ rfl w.heap.size ao m cap ss rfl (ho.below ((Below.refl _ _).alloc (Nat.le_refl _) _)) wr.heap.size (s.extract f s.size) rfl (qnd _ _ _) (by omega) (by have:=hb.size;simp;omega) ?_)
    intro ao' cap' w' ho' hg';have hb':=qll (hb.alloc hb.size _) (by have:=hb.size;simp;omega) (ho.below ((Below.refl _ _).alloc (Nat.le_refl _) _)) hg';clear hg' ho hb hX HI;go_wp2;go_roundw
    case rel=>exact⟨s.size+1,s.size+1,m+1,cap',ao',_,by go_num,by go_num,rfl,by omega,HI2.out,ho',hb'⟩
    case measure=>simp[intOf]<;>omega
  ·have hk1':¬(k:Int)≤s.size:=by omega
   have hd:dats ss=lvl s.data.toList:=by
    obtain⟨_,_,h | h⟩:=HI.out
    ·have:=H1.out;omega
    ·exact h.2
   have hss:=lvs_of hd;subst hss;have hmn:m=n:=by rw[←HN.out,←ho.1,qcm]
   subst hmn;go_wp2;go_ret;exact⟨ao,cap,rfl,ho,hb⟩


theorem qgf (c:UInt8):∀l:List UInt8,Lib.index l [c]=Lib.indexByte l c
 |[]=>rfl
 |b :: l=>by
  rw[Lib.index,Lib.indexByte,qgf c l]
  by_cases h:b=c
  ·subst h;simp[List.isPrefixOf]
  ·have h1:(c==b)=false:=beq_eq_false_iff_ne.2 (fun e=>h e.symm);have h2:(b==c)=false:=beq_eq_false_iff_ne.2 h;simp[List.isPrefixOf,h1,h2]

theorem qog:∀(f:Nat) (l:List UInt8),l.length≤f→Lib.splitK [47] 0 (Lib.count l [47]) l=lvl l
 |f,l,hf=>by
  by_cases hm:Lib.indexByte l 47 = -1
  ·rw[Lib.count_miss (by rw[qgf];exact hm),Lib.splitK];refine (qnx l fun c hc e=>?_).symm;obtain⟨k,hk,hk'⟩:=List.getElem_of_mem hc;exact Lib.indexByte_none hm k (by rw[List.getElem?_eq_getElem hk,hk',e])
  ·obtain⟨i,hi⟩ : ∃i:Nat,Lib.indexByte l 47=i:=⟨(Lib.indexByte l 47).toNat,by have:=Lib.indexByte_ge l 47;omega⟩;obtain⟨h1,h2⟩:=Lib.indexByte_some hi;obtain⟨hil,h1'⟩:=List.getElem?_eq_some_iff.1 h1;have hx:Lib.index l [47]=i:=by rw[qgf];exact hi
   have e:l=l.take i++47 :: l.drop (i+1):=by
    rw[←h1',List.getElem_cons_drop,List.take_append_drop]
   have hne:¬(Lib.index l [47]==-1)=true:=by rw[hx,beq_iff_eq];omega
   rw[Lib.count_hit (by simp) hx,Nat.add_comm,Lib.splitK,if_neg hne,hx];have hp:∀c∈l.take i,c≠47:=fun c hc e=>by
    obtain⟨k,hk,hk'⟩:=List.getElem_of_mem hc;have hk2:k<i:=by rw[List.length_take] at hk;omega
    refine h2 k hk2 ?_;rw[List.getElem_take] at hk';rw[List.getElem?_eq_getElem (by omega),hk',e]
   conv=>rhs;rw[e]
   rw[lvl_cut _ _ hp];cases f with
   |zero=>omega
   |succ f=>
    have:=qog f (l.drop (i+1)) (by rw[List.length_drop];omega);simp only[Int.toNat_natCast,Nat.add_zero,List.length_cons,List.length_nil,Nat.zero_add];rw[this]

theorem qoh (s:ByteArray):Lib.splitB ⟨#[47]⟩ 0 (Lib.countB s ⟨#[47]⟩) s=lvs s.data.toList:=by
 apply lvs_of
 show (Lib.splitB ⟨#[47]⟩ 0 (Lib.countB s ⟨#[47]⟩) s).map (·.data.toList)=_;rw[Lib.splitB_data];exact qog _ _ (Nat.le_refl _)
theorem count_lvl (s:ByteArray):Lib.countB s ⟨#[47]⟩+1=(lvl s.data.toList).length:=by
 rw[←qcm,←qoh,Lib.splitB_all ⟨#[47]⟩ (by decide) 0 _ s rfl]

theorem gen_split (s:ByteArray) (n:Nat) (w:World) (hs:s.size≤1048576) (hN:(lvl s.data.toList).length=n) :
  Calls Tryz.prog 105 #[.string s,.string ⟨#[47]⟩,.int .i64 0,.int .i64 (-1)] w fun e w'=>
   e=.returned (.slice (some ⟨w.heap.size,0,none⟩) n n)∧w'=w.alloc (.cells (svals (lvs s.data.toList)).toArray 9):=by
 have hcl:=count_lvl s;have hle:(lvl s.data.toList).length≤s.size+1:=qcq s.data.toList;have c:=Any.strings_genSplit_core Tryz.lays221 info9 s ⟨#[47]⟩ 0 (-1) n w (by omega) (by decide) (Nat.zero_le _)
  (fun x c hx=>(Any.strings_Index_one { Tryz.lays221 with } x 47 _).mono fun e w' ⟨he,hw⟩=>⟨by rw[he,←qgf],hw⟩)
  ((Any.strings_Count_one { Tryz.lays221 with } s 47 w).mono fun e w' ⟨he,hw⟩=>⟨by
   rw[he];show _=Ending.returned (Value.int .i64 ((Lib.count s.data.toList [47]:Nat):Int));rw[Lib.count_one];rfl,hw⟩)
  (by decide) (by decide) (by rw[if_pos (by decide)];omega)
 rw[show n-1=Lib.countB s ⟨#[47]⟩ by omega,qoh,qcm,hN] at c;have e2:Lib.cellsOf (lvs s.data.toList) n=(svals (lvs s.data.toList)).toArray:=by
  rw[←hN,←qcm];exact Lib.cellsOf_full _
 rw[e2] at c;exact c

theorem split_x (s:ByteArray) (n:Nat) (w:World) (hs:s.size≤1048576) (hN:(lvl s.data.toList).length=n) :
  Calls Tryz.prog 101 #[.string s,.string ⟨#[47]⟩] w fun e w'=>
   e=.returned (.slice (some ⟨w.heap.size,0,none⟩) n n)∧w'=w.alloc (.cells (svals (lvs s.data.toList)).toArray 9):=by
 go_enter Tryz.func101,Tryz.ntmps101;go_wp2_with fail
 refine (gen_split s n w hs hN).mono ?_;rintro e w' ⟨rfl,rfl⟩;go_wp2;go_ret;exact⟨rfl,rfl⟩

theorem clone_x (s:ByteArray) (w:World) (hs:s.size≤1048576) :
  Calls Tryz.prog 102 #[.string s] w fun e w'=>e=.returned (.string s)∧Below w.heap.size w w':=by
 go_enter Tryz.func102,Tryz.ntmps102;go_wp2_with fail
 refine (show Calls Tryz.prog 106 #[.string s] w fun e w'=>e=.returned (.string s)∧Below w.heap.size w w' from Any.stringslite_Clone Tryz.laysM316 s w (by omega)).mono ?_;rintro e w' ⟨rfl,hb⟩;go_wp2;go_ret;exact⟨rfl,hb⟩

theorem sown_made (w:World) (ss:List ByteArray) (n:Nat) (hn:ss.length=n) (hm:n≤maxLen):SOwn (w.alloc (.cells (svals ss).toArray 9)) w.heap.size (some ⟨w.heap.size,0,none⟩) n n ss :=
 ⟨hn,by simp[qdu,hn],.inr ⟨w.heap.size,n,(svals ss).toArray,rfl,Nat.le_refl _,heap_alloc_new w _,Nat.le_refl _,hm,by simp[qdu,hn],by simp[qdu,hn];exact List.take_of_length_le (by rw[qdu,hn];exact Nat.le_refl _)⟩⟩

theorem st_set (ss:List ByteArray) (k:Nat):ss.set k (st ss k)=ss:=by
 by_cases h:k<ss.length
 ·have e:st ss k=ss[k]'h:=by simp[st,List.getD_eq_getElem?_getD,List.getElem?_eq_getElem h]
  rw[e,List.set_getElem_self]
 ·rw[List.set_eq_of_length_le (by omega)]

theorem qkv (l:List UInt8) (k:Nat) (h:k<(lvs l).length):(st (lvs l) k).size≤l.length:=by
 have hx:(st (lvs l) k).data.toList∈lvl l:=by
  rw[←qmt l];exact List.mem_map_of_mem (qmn h)
 have:∀(l x:List UInt8),x∈lvl l→x.length≤l.length:=by
  intro l
  induction l with
  |nil=>intro x hx;simp[lvl] at hx;subst hx;simp
  |cons c r ih=>
   intro x hx
   by_cases hc:c=47
   ·subst hc;rw[qeh] at hx
    rcases List.mem_cons.1 hx with rfl | hx
    ·simp
    ·have:=ih x hx;simp;omega
   ·rw[qeg hc] at hx;cases hl:lvl r with
    |nil=>exact absurd hl (lvl_ne r)
    |cons a t=>
     rw[hl] at hx;simp only[pre,List.mem_cons] at hx
     rcases hx with rfl | hx
     ·have:=ih a (by rw[hl];simp);simp;omega
     ·have:=ih x (by rw[hl];simp[hx]);simp;omega
 exact this l _ hx

theorem qko (s:ByteArray) (n:Nat) (w:World) (hs:s.size≤1048576) (hN:(lvl s.data.toList).length=n) :
  Calls Tryz.prog 98 #[.string s] w fun e w'=>e=.returned (.slice (some ⟨w.heap.size,0,none⟩) n n)∧SOwn w' w.heap.size (some ⟨w.heap.size,0,none⟩) n n (lvs s.data.toList)∧Below w.heap.size w w':=by
 have hle:n≤s.size+1:=by rw[←hN];exact qcq s.data.toList
 have HV:Hid ((lvs s.data.toList).length=n):=by unfold Hid;rw[qcm];exact hN
 have HS:Hid (∀k,k<n→(st (lvs s.data.toList) k).size≤1048576):=fun k hk=>by
  have:=qkv s.data.toList k (by rw[HV.out];exact hk);have e1:s.size=s.data.toList.length:=rfl;omega
 have ho0:=sown_made w (lvs s.data.toList) n HV.out (by unfold maxLen;omega);have hb0:Below w.heap.size w (w.alloc (.cells (svals (lvs s.data.toList)).toArray 9)):=(Below.refl _ _).alloc (Nat.le_refl _) _;have c:=split_x s n w hs hN;generalize (w.alloc (.cells (svals (lvs s.data.toList)).toArray 9))=w0 at *;clear hN;generalize lvs s.data.toList=ss at *;go_enter Tryz.func98,Tryz.ntmps98;go_wp2_with fail
 refine c.mono ?_;rintro e w1 ⟨rfl,hw⟩;subst hw;go_wp2
 go_loopw [10] (fun i wr=>∃k:Nat,i=.int .i64 k∧k≤n∧SOwn wr w.heap.size (some ⟨w.heap.size,0,none⟩) n n ss∧Below w.heap.size w wr) (fun i _=>n-(intOf i).toNat)
 case atStart=>exact⟨0,rfl,Nat.zero_le _,ho0,hb0⟩
 case round=>
  obtain⟨k,rfl,hk,ho,hb⟩:=hrel;clear ho0 hb0
  by_cases hlt:k<n
  ·have hlt':(k:Int)<n:=by omega
   have hz:=ho.cell k hlt;go_wp2_with fail
   refine (clone_x (st ss k) wr (HS.out k hlt)).mono ?_;rintro e w2 ⟨rfl,hb2⟩;have ho2:=ho.below hb2;have hb3:=hb.trans (hb2.mono hb.size);clear hb hb2 ho hz;have hz2:=ho2.cell k hlt;have hf:=ho2.frozen k;have HO:=ho2.store k (st ss k);rw[st_set] at HO;have HO':Hid (SOwn (w2.setCell ⟨w.heap.size,k,none⟩ (.string (st ss k))) w.heap.size (some ⟨w.heap.size,0,none⟩) n n ss):=HO;clear HO ho2;go_wp2;go_roundw
   case rel=>exact⟨k+1,by go_num,by omega,HO'.out,hb3.setCell (Nat.le_refl _) _⟩
   case measure=>simp[intOf]<;>omega
  ·have hlt':¬(k:Int)<n:=by omega
   go_wp2;go_ret;exact⟨rfl,ho,hb⟩


theorem qdd (n:Int):(BitVec.ofInt 64 n).toNat=(n%18446744073709551616).toNat:=by
 rw[BitVec.toNat_ofInt];rfl

theorem qjz (m:Nat) (h:m<9223372036854775808):IntKind.i64.wrap (m:Int)=m:=by
 rw[IntKind.wrap_i64];omega

theorem mask7 (n:Int):bits .and .i64 n 7=n%8:=by
 show IntKind.i64.wrap (((BitVec.ofInt 64 n &&& BitVec.ofInt 64 7):BitVec 64).toNat:Int)=_;rw[BitVec.toNat_and,qdd,qdd,show ((7:Int)%18446744073709551616).toNat=2 ^ 3-1 from by decide,Nat.and_two_pow_sub_one_eq_mod];have h:=Nat.mod_lt (n%18446744073709551616).toNat (show 0<2 ^ 3 by decide);rw[show (2:Nat) ^ 3=8 from by decide] at *;rw[qjz _ (by omega)];omega

theorem mask15 (n:Int):bits .and .i64 n 15=n%16:=by
 show IntKind.i64.wrap (((BitVec.ofInt 64 n &&& BitVec.ofInt 64 15):BitVec 64).toNat:Int)=_;rw[BitVec.toNat_and,qdd,qdd,show ((15:Int)%18446744073709551616).toNat=2 ^ 4-1 from by decide,Nat.and_two_pow_sub_one_eq_mod];have h:=Nat.mod_lt (n%18446744073709551616).toNat (show 0<2 ^ 4 by decide);rw[show (2:Nat) ^ 4=16 from by decide] at *;rw[qjz _ (by omega)];omega

theorem mask31 (n:Int):bits .and .i64 n 31=n%32:=by
 show IntKind.i64.wrap (((BitVec.ofInt 64 n &&& BitVec.ofInt 64 31):BitVec 64).toNat:Int)=_;rw[BitVec.toNat_and,qdd,qdd,show ((31:Int)%18446744073709551616).toNat=2 ^ 5-1 from by decide,Nat.and_two_pow_sub_one_eq_mod];have h:=Nat.mod_lt (n%18446744073709551616).toNat (show 0<2 ^ 5 by decide);rw[show (2:Nat) ^ 5=32 from by decide] at *;rw[qjz _ (by omega)];omega

theorem mask255 (n:Int):bits .and .i64 n 255=n%256:=by
 show IntKind.i64.wrap (((BitVec.ofInt 64 n &&& BitVec.ofInt 64 255):BitVec 64).toNat:Int)=_;rw[BitVec.toNat_and,qdd,qdd,show ((255:Int)%18446744073709551616).toNat=2 ^ 8-1 from by decide,Nat.and_two_pow_sub_one_eq_mod];have h:=Nat.mod_lt (n%18446744073709551616).toNat (show 0<2 ^ 8 by decide);rw[show (2:Nat) ^ 8=256 from by decide] at *;rw[qjz _ (by omega)];omega

