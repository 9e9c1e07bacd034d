/- Lemmas. -/
import Derived.Test.YtpjkbgdkligpdaaGreatW13
import Derived.Test.YtpjkbgdkligpdaaGreatW16
set_option linter.unusedVariables false
set_option linter.unusedSimpArgs false
set_option maxRecDepth 100000
set_option maxHeartbeats 20000000
namespace Go.Proofs.YtpjkbgdkligpdaaGreat
open Go.RowKit

theorem qeo {α:Type} (f:α→Bool) (l:List α) (d:α) (k:Nat) (hk:k<l.length) (h:(l.take k).all f=true) (e:f (l.getD k d)=true):(l.take (k+1)).all f=true:=by
 rw[List.take_succ_eq_append_getElem hk,List.all_append,h];simp only[List.getD_eq_getElem?_getD,List.getElem?_eq_getElem hk,Option.getD_some] at e;simp[e]
theorem qka {α:Type} (f:α→Bool) (l:List α) (d:α) (k:Nat) (hk:k<l.length) (e:f (l.getD k d)=false):l.all f=false:=by
 simp only[List.getD_eq_getElem?_getD,List.getElem?_eq_getElem hk,Option.getD_some] at e;cases h:l.all f with
 |false=>rfl
 |true=>rw[List.all_eq_true] at h;rw[h _ (List.getElem_mem hk)] at e;cases e
theorem qhv {α:Type} (f:α→Bool) (l:List α) (n:Nat) (hn:l.length=n) (h:(l.take n).all f=true):l.all f=true:=by
 rwa [List.take_of_length_le (by omega)] at h
def qbn (x:ByteArray×Int):Bool:=flt x.1&&inB x.2 0 2
def qbl (c:Int):Bool:=inB c 0 2 || decide (c=128)
theorem isByte_i (n:Int) (w:World):Calls Tryz.prog 135 #[.int .i64 n] w fun e w'=>e=.returned (.bool (inB n 0 255))∧w'=w:=by
 by_cases h1:0≤n
 ·by_cases h2:n≤255
  ·rw[qdx h1 h2];go_enter Tryz.func135,Tryz.ntmps135;go_wp2;go_ret;exact⟨qac (by simp[h2]),rfl⟩
  ·rw[qiy (by omega)];go_enter Tryz.func135,Tryz.ntmps135;go_wp2;go_ret;exact⟨qac (by simp[h2]),rfl⟩
 ·rw[qiz (by omega)];go_enter Tryz.func135,Tryz.ntmps135;go_wp2;go_ret;exact⟨rfl,rfl⟩
theorem isWord_i (n:Int) (w:World):Calls Tryz.prog 136 #[.int .i64 n] w fun e w'=>e=.returned (.bool (inB n 0 65535))∧w'=w:=by
 by_cases h1:0≤n
 ·by_cases h2:n≤65535
  ·rw[qdx h1 h2];go_enter Tryz.func136,Tryz.ntmps136;go_wp2;go_ret;exact⟨qac (by simp[h2]),rfl⟩
  ·rw[qiy (by omega)];go_enter Tryz.func136,Tryz.ntmps136;go_wp2;go_ret;exact⟨qac (by simp[h2]),rfl⟩
 ·rw[qiz (by omega)];go_enter Tryz.func136,Tryz.ntmps136;go_wp2;go_ret;exact⟨rfl,rfl⟩
theorem qmx (n:Int) (w:World):Calls Tryz.prog 94 #[.int .i64 n] w fun e w'=>e=.returned (.bool (inB n 0 2))∧w'=w:=by
 by_cases h1:0≤n
 ·by_cases h2:n≤2
  ·rw[qdx h1 h2];go_enter Tryz.func94,Tryz.ntmps94;go_wp2;go_ret;exact⟨qac (by simp[h2]),rfl⟩
  ·rw[qiy (by omega)];go_enter Tryz.func94,Tryz.ntmps94;go_wp2;go_ret;exact⟨qac (by simp[h2]),rfl⟩
 ·rw[qiz (by omega)];go_enter Tryz.func94,Tryz.ntmps94;go_wp2;go_ret;exact⟨rfl,rfl⟩
theorem qnv (n:Int) (w:World):Calls Tryz.prog 143 #[.int .i64 n] w fun e w'=>e=.returned (.bool (inB n 1 65535))∧w'=w:=by
 by_cases h1:1≤n
 ·by_cases h2:n≤65535
  ·rw[qdx h1 h2];go_enter Tryz.func143,Tryz.ntmps143;go_wp2;go_ret;exact⟨qac (by simp[h2]),rfl⟩
  ·rw[qiy (by omega)];go_enter Tryz.func143,Tryz.ntmps143;go_wp2;go_ret;exact⟨qac (by simp[h2]),rfl⟩
 ·rw[qiz (by omega)];go_enter Tryz.func143,Tryz.ntmps143;go_wp2;go_ret;exact⟨rfl,rfl⟩
theorem qnw (n:Int) (w:World):Calls Tryz.prog 159 #[.int .i64 n] w fun e w'=>e=.returned (.bool (qbl n))∧w'=w:=by
 unfold qbl;go_enter Tryz.func159,Tryz.ntmps159;go_wp2_with fail
 refine (qmx n _).mono ?_;rintro e w2 ⟨rfl,rfl⟩;cases hv:inB n 0 2
 ·have HV:Hid (inB n 0 2=false):=hv;clear hv;go_wp2;go_ret;exact⟨qac (by rw[HV.out,Bool.eq_iff_iff];simp),rfl⟩
 ·have HV:Hid (inB n 0 2=true):=hv;clear hv;go_wp2;go_ret;exact⟨qac (by rw[HV.out];simp),rfl⟩
theorem isWant_i (f:ByteArray) (q:Int) (w:World) (hs:f.size≤1048576):Calls Tryz.prog 151 #[.agg #[.string f,.int .i64 q]] w fun e w'=>e=.returned (.bool (qbn (f,q)))∧Below w.heap.size w w':=by
 unfold qbn flt;go_enter Tryz.func151,Tryz.ntmps151;go_wp2_with fail
 refine (qhb f _ hs).mono ?_;rintro e w2 ⟨rfl,hb⟩;have c1:w2.cell? ⟨w.heap.size,1,none⟩ = some (.int .i64 q):=(hb.cell (by simp)).trans (by simp);replace hb:=bel (qae _ _) hb;cases hv:filOk f.data.toList
 ·have HV:Hid (filOk f.data.toList=false):=hv;clear hv;go_wp2;go_ret;exact⟨qac (by rw[HV.out];simp),hb⟩
 ·have HV:Hid (filOk f.data.toList=true):=hv;clear hv;go_wp2_with fail
  refine (qmx q _).mono ?_;rintro e w3 ⟨rfl,rfl⟩;go_wp2;go_ret;exact⟨qac (by rw[HV.out];simp),hb⟩
theorem each_ints (ao:Option Addr) (n cap:Nat) (l:List Int) (w:World) (hr:IRd w ao n cap l) :
  Calls Tryz.prog 160 #[.slice ao n cap,.func (.func 159) #[] #[]] w fun e w'=>e=.returned (.bool (l.all qbl))∧Below w.heap.size w w':=by
 have HL:Hid (l.length=n):=hr.1.1;have hM:n≤maxLen:=Nat.le_trans hr.2.1 hr.2.2.1;unfold maxLen at hM;go_enter Tryz.func160,Tryz.ntmps160;go_wp2
 go_loopw [9] (fun i wr=>∃k:Nat,i=.int .i64 k∧k≤n∧Hid ((l.take k).all qbl=true)∧Below w.heap.size w wr) (fun i _=>n-(intOf i).toNat)
 case atStart=>exact⟨0,rfl,Nat.zero_le _,rfl,Below.refl _ _⟩
 case round=>
  obtain⟨k,rfl,hk,hT,hb⟩:=hrel
  by_cases hlt:k<n
  ·obtain⟨b,off,e,hc⟩:=hr.1.2 k hlt;subst e;have hck:wr.cell? ⟨b,off+k,none⟩ = some (.int .i64 (nt l k)):=(hb.cell (World.block_lt_of_cell? w _ hc)).trans hc;clear hc;have hlt':(k:Int)<n:=by omega
   have hkl:Hid (k<l.length):=by show k<l.length;rw[HL.out];exact hlt
   go_wp2_with fail
   refine (qnw _ _).mono ?_;rintro e w2 ⟨rfl,hw2⟩;have hb2:=hb;subst hw2;cases hv:qbl (nt l k)
   ·have HN:Hid (l.all qbl=false):=qka qbl l 0 k hkl.out hv;clear hv;go_wp2;go_ret;exact⟨qac HN.out.symm,hb2⟩
   ·have HS:Hid ((l.take (k+1)).all qbl=true):=qeo qbl l 0 k hkl.out hT.out hv;clear hv;go_wp2;go_roundw
    case rel=>exact⟨k+1,by go_num,by omega,HS,hb2⟩
    case measure=>simp[intOf];omega
  ·have hlt':¬(k:Int)<n:=by omega
   obtain rfl:k=n:=by omega
   go_wp2;go_ret;exact⟨qac (qhv qbl l _ HL.out hT.out).symm,hb⟩
theorem list_ints (ao:Option Addr) (n cap:Nat) (l:List Int) (w:World) (hr:IRd w ao n cap l) :
  Calls Tryz.prog 158 #[.slice ao n cap,.func (.func 159) #[] #[]] w fun e w'=>e=.returned (.bool (l.all qbl&&inB n 1 4))∧Below w.heap.size w w':=by
 by_cases h1:n<1
 ·obtain rfl:n=0:=by omega
  rw[qiz (by omega),Bool.and_false];go_enter Tryz.func158,Tryz.ntmps158;go_wp2;go_ret;exact⟨rfl,Below.refl _ _⟩
 by_cases h2:4<n
 ·have h1':(1:Int)≤(n:Int):=by omega
  have h1n:1≤n:=by omega
  have h1p:0<n:=by omega
  have h2':¬(n:Int)≤4:=by omega
  rw[qiy (by omega),Bool.and_false];go_enter Tryz.func158,Tryz.ntmps158;go_wp2;go_ret;exact⟨rfl,Below.refl _ _⟩
 have h1':(1:Int)≤(n:Int):=by omega
 have h1n:1≤n:=by omega
 have h1p:0<n:=by omega
 have h2':(n:Int)≤4:=by omega
 have e14:inB (n:Int) 1 4=true:=qdx (by omega) (by omega);rw[e14,Bool.and_true];clear e14;go_enter Tryz.func158,Tryz.ntmps158;go_wp2_with fail
 refine (each_ints ao n cap l _ hr).mono ?_;rintro e w2 ⟨rfl,hb⟩;go_wp2;go_ret;exact⟨rfl,hb⟩
theorem each_strs (ao:Option Addr) (n cap:Nat) (l:List ByteArray) (w:World) (hr:SRd w ao n cap l) (hs:∀s∈l,s.size≤1048576) :
  Calls Tryz.prog 165 #[.slice ao n cap,.func (.func 153) #[] #[]] w fun e w'=>e=.returned (.bool (l.all flt))∧Below w.heap.size w w':=by
 have HL:Hid (l.length=n):=hr.1.1;have hM:n≤maxLen:=Nat.le_trans hr.2.1 hr.2.2.1;unfold maxLen at hM;go_enter Tryz.func165,Tryz.ntmps165;go_wp2
 go_loopw [9] (fun i wr=>∃k:Nat,i=.int .i64 k∧k≤n∧Hid ((l.take k).all flt=true)∧Below w.heap.size w wr) (fun i _=>n-(intOf i).toNat)
 case atStart=>exact⟨0,rfl,Nat.zero_le _,rfl,Below.refl _ _⟩
 case round=>
  obtain⟨k,rfl,hk,hT,hb⟩:=hrel
  by_cases hlt:k<n
  ·obtain⟨b,off,e,hc⟩:=hr.1.2 k hlt;subst e;have hck:wr.cell? ⟨b,off+k,none⟩ = some (.string (st l k)):=(hb.cell (World.block_lt_of_cell? w _ hc)).trans hc;clear hc;have hlt':(k:Int)<n:=by omega
   have hkl:Hid (k<l.length):=by show k<l.length;rw[HL.out];exact hlt
   go_wp2_with fail
   refine (qhb (st l k) _ (hs _ (qmn hkl.out))).mono ?_;rintro e w2 ⟨he,hw2⟩;have hb2:=bel hb hw2;obtain rfl:e=.returned (.bool (flt (st l k))):=he;cases hv:flt (st l k)
   ·have HN:Hid (l.all flt=false):=qka flt l ByteArray.empty k hkl.out hv;clear hv;go_wp2;go_ret;exact⟨qac HN.out.symm,hb2⟩
   ·have HS:Hid ((l.take (k+1)).all flt=true):=qeo flt l ByteArray.empty k hkl.out hT.out hv;clear hv;go_wp2;go_roundw
    case rel=>exact⟨k+1,by go_num,by omega,HS,hb2⟩
    case measure=>simp[intOf];omega
  ·have hlt':¬(k:Int)<n:=by omega
   obtain rfl:k=n:=by omega
   go_wp2;go_ret;exact⟨qac (qhv flt l _ HL.out hT.out).symm,hb⟩
theorem list_strs (ao:Option Addr) (n cap:Nat) (l:List ByteArray) (w:World) (hr:SRd w ao n cap l) (hs:∀s∈l,s.size≤1048576) :
  Calls Tryz.prog 164 #[.slice ao n cap,.func (.func 153) #[] #[]] w fun e w'=>e=.returned (.bool (l.all flt&&inB n 1 4))∧Below w.heap.size w w':=by
 by_cases h1:n<1
 ·obtain rfl:n=0:=by omega
  rw[qiz (by omega),Bool.and_false];go_enter Tryz.func164,Tryz.ntmps164;go_wp2;go_ret;exact⟨rfl,Below.refl _ _⟩
 by_cases h2:4<n
 ·have h1':(1:Int)≤(n:Int):=by omega
  have h1n:1≤n:=by omega
  have h1p:0<n:=by omega
  have h2':¬(n:Int)≤4:=by omega
  rw[qiy (by omega),Bool.and_false];go_enter Tryz.func164,Tryz.ntmps164;go_wp2;go_ret;exact⟨rfl,Below.refl _ _⟩
 have h1':(1:Int)≤(n:Int):=by omega
 have h1n:1≤n:=by omega
 have h1p:0<n:=by omega
 have h2':(n:Int)≤4:=by omega
 have e14:inB (n:Int) 1 4=true:=qdx (by omega) (by omega);rw[e14,Bool.and_true];clear e14;go_enter Tryz.func164,Tryz.ntmps164;go_wp2_with fail
 refine (each_strs ao n cap l _ hr hs).mono ?_;rintro e w2 ⟨rfl,hb⟩;go_wp2;go_ret;exact⟨rfl,hb⟩
theorem wt_mem {l:List (ByteArray×Int)} {k:Nat} (h:k<l.length):(wf l k,wq l k)∈l:=by
 have e:(wf l k,wq l k)=l[k]'h:=by simp[wf,wq,List.getD_eq_getElem?_getD,List.getElem?_eq_getElem h]
 rw[e];exact List.getElem_mem h
theorem each_wants (ao:Option Addr) (n cap:Nat) (l:List (ByteArray×Int)) (w:World) (hr:WRd w ao n cap l) (hs:∀x∈l,x.1.size≤1048576) :
  Calls Tryz.prog 152 #[.slice ao n cap,.func (.func 151) #[] #[]] w fun e w'=>e=.returned (.bool (l.all qbn))∧Below w.heap.size w w':=by
 have HL:Hid (l.length=n):=hr.1.1;have hM:n≤maxLen:=Nat.le_trans hr.2.1 hr.2.2.1;unfold maxLen at hM;go_enter Tryz.func152,Tryz.ntmps152;go_wp2
 go_loopw [9] (fun i wr=>∃k:Nat,i=.int .i64 k∧k≤n∧Hid ((l.take k).all qbn=true)∧Below w.heap.size w wr) (fun i _=>n-(intOf i).toNat)
 case atStart=>exact⟨0,rfl,Nat.zero_le _,rfl,Below.refl _ _⟩
 case round=>
  obtain⟨k,rfl,hk,hT,hb⟩:=hrel
  by_cases hlt:k<n
  ·obtain⟨b,off,e,hc,hd⟩:=hr.1.2 k hlt;subst e;have hck:wr.cell? ⟨b,off+k*2,none⟩ = some (.string (wf l k)):=(hb.cell (World.block_lt_of_cell? w _ hc)).trans hc;have hdk:wr.cell? ⟨b,off+k*2+1,none⟩ = some (.int .i64 (wq l k)):=(hb.cell (World.block_lt_of_cell? w _ hd)).trans hd;clear hc hd;have hlt':(k:Int)<n:=by omega
   have hkl:Hid (k<l.length):=by show k<l.length;rw[HL.out];exact hlt
   go_wp2_with fail
   refine (isWant_i (wf l k) (wq l k) _ (hs _ (wt_mem hkl.out))).mono ?_;rintro e w2 ⟨rfl,hw2⟩;have hb2:=bel hb (bel (qae _ _) hw2);cases hv:qbn (wf l k,wq l k)
   ·have HN:Hid (l.all qbn=false):=qka qbn l (ByteArray.empty,0) k hkl.out hv;clear hv;go_wp2;go_ret;exact⟨qac HN.out.symm,hb2⟩
   ·have HS:Hid ((l.take (k+1)).all qbn=true):=qeo qbn l (ByteArray.empty,0) k hkl.out hT.out hv;clear hv;go_wp2;go_roundw
    case rel=>exact⟨k+1,by go_num,by omega,HS,hb2⟩
    case measure=>simp[intOf];omega
  ·have hlt':¬(k:Int)<n:=by omega
   obtain rfl:k=n:=by omega
   go_wp2;go_ret;exact⟨qac (qhv qbn l _ HL.out hT.out).symm,hb⟩
theorem list_wants (ao:Option Addr) (n cap:Nat) (l:List (ByteArray×Int)) (w:World) (hr:WRd w ao n cap l) (hs:∀x∈l,x.1.size≤1048576) :
  Calls Tryz.prog 150 #[.slice ao n cap,.func (.func 151) #[] #[]] w fun e w'=>e=.returned (.bool (l.all qbn&&inB n 1 4))∧Below w.heap.size w w':=by
 by_cases h1:n<1
 ·obtain rfl:n=0:=by omega
  rw[qiz (by omega),Bool.and_false];go_enter Tryz.func150,Tryz.ntmps150;go_wp2;go_ret;exact⟨rfl,Below.refl _ _⟩
 by_cases h2:4<n
 ·have h1':(1:Int)≤(n:Int):=by omega
  have h1n:1≤n:=by omega
  have h1p:0<n:=by omega
  have h2':¬(n:Int)≤4:=by omega
  rw[qiy (by omega),Bool.and_false];go_enter Tryz.func150,Tryz.ntmps150;go_wp2;go_ret;exact⟨rfl,Below.refl _ _⟩
 have h1':(1:Int)≤(n:Int):=by omega
 have h1n:1≤n:=by omega
 have h1p:0<n:=by omega
 have h2':(n:Int)≤4:=by omega
 have e14:inB (n:Int) 1 4=true:=qdx (by omega) (by omega);rw[e14,Bool.and_true];clear e14;go_enter Tryz.func150,Tryz.ntmps150;go_wp2_with fail
 refine (each_wants ao n cap l _ hr hs).mono ?_;rintro e w2 ⟨rfl,hb⟩;go_wp2;go_ret;exact⟨rfl,hb⟩

def qje (t:ByteArray) (n:Nat) (q:Int):Bool:=tpc t&&(decide ((n:Int)≤40)&&inB q 0 2)
def conOk (lev:Int) (cli:ByteArray) (kee:Int) (hw:Bool) (wt:ByteArray) (wb:Nat) (wq:Int) (us:ByteArray) (pa:Nat):Bool :=
 (!hw || qje wt wb wq)&&(inB lev 0 255&&(txt cli&&(inB kee 0 65535&&(txt us&&decide ((pa:Int)≤60)))))
def pubOk (qos id:Int) (top:ByteArray) (n:Nat):Bool:=inB qos 0 2&&((decide (qos=0) || inB id 1 65535)&&(tpc top&&decide ((n:Int)≤40)))
theorem beq_dec (a b:Int):(a==b)=decide (a=b):=by rw[Bool.eq_iff_iff];simp
theorem right_will (t:ByteArray) (b:Sl) (q:Int) (r:Bool) (w:World) (hs:t.size≤1048576) :
  Calls Tryz.prog 92 #[.agg #[.string t,.slice b.a b.n b.c,.int .i64 q,.bool r]] w fun e w'=>e=.returned (.bool (qje t b.n q))∧Below w.heap.size w w':=by
 unfold qje tpc;go_enter Tryz.func92,Tryz.ntmps92;go_wp2_with fail
 refine (qfx t _ hs).mono ?_;rintro e w2 ⟨rfl,hb⟩;have c1:w2.cell? ⟨w.heap.size,1,none⟩ = some (.slice b.a b.n b.c):=(hb.cell (by simp)).trans (by simp);have c2:w2.cell? ⟨w.heap.size,2,none⟩ = some (.int .i64 q):=(hb.cell (by simp)).trans (by simp);replace hb:=bel (qae _ _) hb;cases hv:topOk t.data.toList
 ·have V1:Hid (topOk t.data.toList=false):=hv;clear hv;go_wp2;go_ret;exact⟨qac (by rw[V1.out];simp),hb⟩
 have V1:Hid (topOk t.data.toList=true):=hv;clear hv
 by_cases h2:(b.n:Int)≤40
 ·have V2:Hid (decide ((b.n:Int)≤40)=true):=decide_eq_true h2;go_wp2_with fail
  refine (qmx q _).mono ?_;rintro e w3 ⟨rfl,rfl⟩;go_wp2;go_ret;exact⟨qac (by rw[V1.out];rw[V2.out];simp),hb⟩
 ·have V2:Hid (decide ((b.n:Int)≤40)=false):=decide_eq_false h2;go_wp2;go_ret;exact⟨qac (by rw[V1.out];rw[V2.out];simp),hb⟩
theorem right_con (lev:Int) (cli:ByteArray) (cln:Bool) (kee:Int) (hw:Bool) (wt:ByteArray) (wb:Sl) (wq:Int) (wr:Bool) (hu:Bool) (us:ByteArray) (hp:Bool) (pa:Sl) (w:World)
  (h1:cli.size≤1048576) (h2:us.size≤1048576) (h3:wt.size≤1048576) :
  Calls Tryz.prog 131 #[.agg (conC lev cli cln kee hw wt wb wq wr hu us hp pa)] w fun e w'=>e=.returned (.bool (conOk lev cli kee hw wt wb.n wq us pa.n))∧Below w.heap.size w w':=by
 unfold conC conOk txt;have hb:Below w.heap.size w (w.alloc (.cells #[.int .i64 lev,.string cli,.bool cln,.int .i64 kee,.bool hw,.string wt,.slice wb.a wb.n wb.c,.int .i64 wq,.bool wr,.bool hu,.string us,.bool hp,.slice pa.a pa.n pa.c] 84)):=qae _ _;have f0:(w.alloc (.cells #[.int .i64 lev,.string cli,.bool cln,.int .i64 kee,.bool hw,.string wt,.slice wb.a wb.n wb.c,.int .i64 wq,.bool wr,.bool hu,.string us,.bool hp,.slice pa.a pa.n pa.c] 84)).cell? ⟨w.heap.size,0,none⟩ = some (.int .i64 lev):=by simp
 have f1:(w.alloc (.cells #[.int .i64 lev,.string cli,.bool cln,.int .i64 kee,.bool hw,.string wt,.slice wb.a wb.n wb.c,.int .i64 wq,.bool wr,.bool hu,.string us,.bool hp,.slice pa.a pa.n pa.c] 84)).cell? ⟨w.heap.size,1,none⟩ = some (.string cli):=by simp
 have f3:(w.alloc (.cells #[.int .i64 lev,.string cli,.bool cln,.int .i64 kee,.bool hw,.string wt,.slice wb.a wb.n wb.c,.int .i64 wq,.bool wr,.bool hu,.string us,.bool hp,.slice pa.a pa.n pa.c] 84)).cell? ⟨w.heap.size,3,none⟩ = some (.int .i64 kee):=by simp
 have f10:(w.alloc (.cells #[.int .i64 lev,.string cli,.bool cln,.int .i64 kee,.bool hw,.string wt,.slice wb.a wb.n wb.c,.int .i64 wq,.bool wr,.bool hu,.string us,.bool hp,.slice pa.a pa.n pa.c] 84)).cell? ⟨w.heap.size,10,none⟩ = some (.string us):=by simp
 have f12:(w.alloc (.cells #[.int .i64 lev,.string cli,.bool cln,.int .i64 kee,.bool hw,.string wt,.slice wb.a wb.n wb.c,.int .i64 wq,.bool wr,.bool hu,.string us,.bool hp,.slice pa.a pa.n pa.c] 84)).cell? ⟨w.heap.size,12,none⟩ = some (.slice pa.a pa.n pa.c):=by simp
 cases hw
 ·have V0:Hid ((!false || qje wt wb.n wq)=true):=rfl;go_enter Tryz.func131,Tryz.ntmps131;go_wp2_with fail
  refine (isByte_i lev _).mono ?_;rintro e z1 ⟨rfl,hz1⟩;subst hz1;cases hv:inB lev 0 255
  ·have V1:Hid (inB lev 0 255=false):=hv;clear hv;go_wp2;go_ret;exact⟨qac (by rw[V0.out];rw[V1.out];simp),hb⟩
  have V1:Hid (inB lev 0 255=true):=hv;clear hv;go_wp2_with fail
  refine (qcn cli _ (by omega)).mono ?_;rintro e z2 ⟨rfl,hz2⟩;replace f3:z2.cell? ⟨w.heap.size,3,none⟩ = some (.int .i64 kee):=(hz2.cell (World.block_lt_of_cell? _ _ f3)).trans f3;replace f10:z2.cell? ⟨w.heap.size,10,none⟩ = some (.string us):=(hz2.cell (World.block_lt_of_cell? _ _ f10)).trans f10;replace f12:z2.cell? ⟨w.heap.size,12,none⟩ = some (.slice pa.a pa.n pa.c):=(hz2.cell (World.block_lt_of_cell? _ _ f12)).trans f12;replace hb:=bel hb hz2;clear hz2;cases hv:okT cli.data.toList
  ·have V2:Hid (okT cli.data.toList=false):=hv;clear hv;go_wp2;go_ret;exact⟨qac (by rw[V0.out];rw[V1.out];rw[V2.out];simp),hb⟩
  have V2:Hid (okT cli.data.toList=true):=hv;clear hv;go_wp2_with fail
  refine (isWord_i kee _).mono ?_;rintro e z3 ⟨rfl,hz3⟩;subst hz3;cases hv:inB kee 0 65535
  ·have V3:Hid (inB kee 0 65535=false):=hv;clear hv;go_wp2;go_ret;exact⟨qac (by rw[V0.out];rw[V1.out];rw[V2.out];rw[V3.out];simp),hb⟩
  have V3:Hid (inB kee 0 65535=true):=hv;clear hv;go_wp2_with fail
  refine (qcn us _ (by omega)).mono ?_;rintro e z4 ⟨rfl,hz4⟩;replace f12:z4.cell? ⟨w.heap.size,12,none⟩ = some (.slice pa.a pa.n pa.c):=(hz4.cell (World.block_lt_of_cell? _ _ f12)).trans f12;replace hb:=bel hb hz4;clear hz4;cases hv:okT us.data.toList
  ·have V4:Hid (okT us.data.toList=false):=hv;clear hv;go_wp2;go_ret;exact⟨qac (by rw[V0.out];rw[V1.out];rw[V2.out];rw[V3.out];rw[V4.out];simp),hb⟩
  have V4:Hid (okT us.data.toList=true):=hv;clear hv;go_wp2;go_ret;exact⟨qac (by rw[V0.out];rw[V1.out];rw[V2.out];rw[V3.out];rw[V4.out];simp),hb⟩
 ·go_enter Tryz.func131,Tryz.ntmps131;go_wp2_with fail
  refine (right_will wt wb wq wr _ h3).mono ?_;rintro e z0 ⟨rfl,hz0⟩;replace f0:z0.cell? ⟨w.heap.size,0,none⟩ = some (.int .i64 lev):=(hz0.cell (World.block_lt_of_cell? _ _ f0)).trans f0;replace f1:z0.cell? ⟨w.heap.size,1,none⟩ = some (.string cli):=(hz0.cell (World.block_lt_of_cell? _ _ f1)).trans f1;replace f3:z0.cell? ⟨w.heap.size,3,none⟩ = some (.int .i64 kee):=(hz0.cell (World.block_lt_of_cell? _ _ f3)).trans f3;replace f10:z0.cell? ⟨w.heap.size,10,none⟩ = some (.string us):=(hz0.cell (World.block_lt_of_cell? _ _ f10)).trans f10;replace f12:z0.cell? ⟨w.heap.size,12,none⟩ = some (.slice pa.a pa.n pa.c):=(hz0.cell (World.block_lt_of_cell? _ _ f12)).trans f12;replace hb:=bel hb hz0;clear hz0;cases hv:qje wt wb.n wq
  ·have V0:Hid ((!true || qje wt wb.n wq)=false):=by show _=_;rw[hv];rfl
   clear hv;go_wp2;go_ret;exact⟨qac (by rw[V0.out];simp),hb⟩
  have V0:Hid ((!true || qje wt wb.n wq)=true):=by show _=_;rw[hv];rfl
  clear hv;go_wp2_with fail
  refine (isByte_i lev _).mono ?_;rintro e z1 ⟨rfl,hz1⟩;subst hz1;cases hv:inB lev 0 255
  ·have V1:Hid (inB lev 0 255=false):=hv;clear hv;go_wp2;go_ret;exact⟨qac (by rw[V0.out];rw[V1.out];simp),hb⟩
  have V1:Hid (inB lev 0 255=true):=hv;clear hv;go_wp2_with fail
  refine (qcn cli _ (by omega)).mono ?_;rintro e z2 ⟨rfl,hz2⟩;replace f3:z2.cell? ⟨w.heap.size,3,none⟩ = some (.int .i64 kee):=(hz2.cell (World.block_lt_of_cell? _ _ f3)).trans f3;replace f10:z2.cell? ⟨w.heap.size,10,none⟩ = some (.string us):=(hz2.cell (World.block_lt_of_cell? _ _ f10)).trans f10;replace f12:z2.cell? ⟨w.heap.size,12,none⟩ = some (.slice pa.a pa.n pa.c):=(hz2.cell (World.block_lt_of_cell? _ _ f12)).trans f12;replace hb:=bel hb hz2;clear hz2;cases hv:okT cli.data.toList
  ·have V2:Hid (okT cli.data.toList=false):=hv;clear hv;go_wp2;go_ret;exact⟨qac (by rw[V0.out];rw[V1.out];rw[V2.out];simp),hb⟩
  have V2:Hid (okT cli.data.toList=true):=hv;clear hv;go_wp2_with fail
  refine (isWord_i kee _).mono ?_;rintro e z3 ⟨rfl,hz3⟩;subst hz3;cases hv:inB kee 0 65535
  ·have V3:Hid (inB kee 0 65535=false):=hv;clear hv;go_wp2;go_ret;exact⟨qac (by rw[V0.out];rw[V1.out];rw[V2.out];rw[V3.out];simp),hb⟩
  have V3:Hid (inB kee 0 65535=true):=hv;clear hv;go_wp2_with fail
  refine (qcn us _ (by omega)).mono ?_;rintro e z4 ⟨rfl,hz4⟩;replace f12:z4.cell? ⟨w.heap.size,12,none⟩ = some (.slice pa.a pa.n pa.c):=(hz4.cell (World.block_lt_of_cell? _ _ f12)).trans f12;replace hb:=bel hb hz4;clear hz4;cases hv:okT us.data.toList
  ·have V4:Hid (okT us.data.toList=false):=hv;clear hv;go_wp2;go_ret;exact⟨qac (by rw[V0.out];rw[V1.out];rw[V2.out];rw[V3.out];rw[V4.out];simp),hb⟩
  have V4:Hid (okT us.data.toList=true):=hv;clear hv;go_wp2;go_ret;exact⟨qac (by rw[V0.out];rw[V1.out];rw[V2.out];rw[V3.out];rw[V4.out];simp),hb⟩
theorem right_ack (cod:Int) (pre:Bool) (w:World) :
  Calls Tryz.prog 139 #[.agg #[.int .i64 cod,.bool pre]] w fun e w'=>e=.returned (.bool (inB cod 0 5))∧Below w.heap.size w w':=by
 by_cases h1:0≤cod
 ·by_cases h2:cod≤5
  ·rw[qdx h1 h2];go_enter Tryz.func139,Tryz.ntmps139;go_wp2;go_ret;exact⟨qac (by simp[h2]),qae _ _⟩
  ·rw[qiy (by omega)];go_enter Tryz.func139,Tryz.ntmps139;go_wp2;go_ret;exact⟨qac (by simp[h2]),qae _ _⟩
 ·rw[qiz (by omega)];go_enter Tryz.func139,Tryz.ntmps139;go_wp2;go_ret;exact⟨rfl,qae _ _⟩
theorem qhs (id:Int) (w:World) :
  Calls Tryz.prog 146 #[.agg #[.int .i64 id]] w fun e w'=>e=.returned (.bool (inB id 1 65535))∧Below w.heap.size w w':=by
 go_enter Tryz.func146,Tryz.ntmps146;go_wp2_with fail
 refine (qnv id _).mono ?_;rintro e z ⟨rfl,rfl⟩;go_wp2;go_ret;exact⟨rfl,qae _ _⟩
theorem qnj (w:World) :
  Calls Tryz.prog 168 #[.agg #[]] w fun e w'=>e=.returned (.bool true)∧Below w.heap.size w w':=by
 go_enter Tryz.func168,Tryz.ntmps168;go_wp2;go_ret;exact⟨rfl,by go_grown⟩
theorem right_pub (dup:Bool) (qos:Int) (ret:Bool) (id:Int) (top:ByteArray) (b:Sl) (w:World) (hs:top.size≤1048576) :
  Calls Tryz.prog 142 #[.agg (pubC dup qos ret id top b)] w fun e w'=>e=.returned (.bool (pubOk qos id top b.n))∧Below w.heap.size w w':=by
 unfold pubC pubOk tpc;have hb:Below w.heap.size w (w.alloc (.cells #[.bool dup,.int .i64 qos,.bool ret,.int .i64 id,.string top,.slice b.a b.n b.c] 89)):=qae _ _;have f5:(w.alloc (.cells #[.bool dup,.int .i64 qos,.bool ret,.int .i64 id,.string top,.slice b.a b.n b.c] 89)).cell? ⟨w.heap.size,5,none⟩ = some (.slice b.a b.n b.c):=by simp
 go_enter Tryz.func142,Tryz.ntmps142;go_wp2_with fail
 refine (qmx qos _).mono ?_;rintro e z1 ⟨rfl,rfl⟩;cases hv:inB qos 0 2
 ·have V1:Hid (inB qos 0 2=false):=hv;clear hv;go_wp2;go_ret;exact⟨qac (by rw[V1.out];simp),hb⟩
 have V1:Hid (inB qos 0 2=true):=hv;clear hv
 by_cases h0:qos=0
 ·have V2:Hid ((decide (qos=0) || inB id 1 65535)=true):=by show _=_;rw[decide_eq_true h0,Bool.true_or]
  subst h0;go_wp2_with fail
  refine (qfx top _ hs).mono ?_;rintro e z2 ⟨rfl,hz2⟩;replace f5:z2.cell? ⟨w.heap.size,5,none⟩ = some (.slice b.a b.n b.c):=(hz2.cell (World.block_lt_of_cell? _ _ f5)).trans f5;replace hb:=bel hb hz2;clear hz2;cases hv:topOk top.data.toList
  ·have V3:Hid (topOk top.data.toList=false):=hv;clear hv;go_wp2;go_ret;exact⟨qac (by rw[V1.out];rw[V3.out];simp),hb⟩
  have V3:Hid (topOk top.data.toList=true):=hv;clear hv;go_wp2;go_ret;exact⟨qac (by rw[V1.out];rw[V3.out];simp),hb⟩
 have q0:(qos==0)=false:=by simpa using h0
 go_wp2_with fail
 refine (qnv id _).mono ?_;rintro e z1 ⟨rfl,rfl⟩;cases hv:inB id 1 65535
 ·have V2:Hid ((decide (qos=0) || inB id 1 65535)=false):=by show _=_;rw[decide_eq_false h0,hv];rfl
  clear hv h0;go_wp2;go_ret;exact⟨qac (by rw[V1.out];rw[V2.out];simp),hb⟩
 have V2:Hid ((decide (qos=0) || inB id 1 65535)=true):=by show _=_;rw[hv,Bool.or_true]
 clear hv h0;go_wp2_with fail
 refine (qfx top _ hs).mono ?_;rintro e z2 ⟨rfl,hz2⟩;replace f5:z2.cell? ⟨w.heap.size,5,none⟩ = some (.slice b.a b.n b.c):=(hz2.cell (World.block_lt_of_cell? _ _ f5)).trans f5;replace hb:=bel hb hz2;clear hz2;cases hv:topOk top.data.toList
 ·have V3:Hid (topOk top.data.toList=false):=hv;clear hv;go_wp2;go_ret;exact⟨qac (by rw[V1.out];rw[V2.out];rw[V3.out];simp),hb⟩
 have V3:Hid (topOk top.data.toList=true):=hv;clear hv;go_wp2;go_ret;exact⟨qac (by rw[V1.out];rw[V2.out];rw[V3.out];simp),hb⟩
theorem qle (id:Int) (b:Sl) (l:List (ByteArray×Int)) (w:World) (hr:WRd w b.a b.n b.c l) (hs:∀x∈l,x.1.size≤1048576) :
  Calls Tryz.prog 149 #[.agg #[.int .i64 id,.slice b.a b.n b.c]] w fun e w'=>e=.returned (.bool (inB id 1 65535&&(l.all qbn&&inB b.n 1 4)))∧Below w.heap.size w w':=by
 go_enter Tryz.func149,Tryz.ntmps149;go_wp2_with fail
 refine (qnv id _).mono ?_;rintro e z1 ⟨rfl,rfl⟩;cases hv:inB id 1 65535
 ·have V1:Hid (inB id 1 65535=false):=hv;clear hv;go_wp2;go_ret;exact⟨qac (by rw[V1.out];simp),qae _ _⟩
 have V1:Hid (inB id 1 65535=true):=hv;clear hv;go_wp2_with fail
 refine (list_wants _ _ _ l _ (hr.below (qae _ _)) hs).mono ?_;rintro e z2 ⟨rfl,hz2⟩;go_wp2;go_ret;exact⟨qac (by rw[V1.out];simp),bel (qae _ _) hz2⟩
theorem qoe (id:Int) (b:Sl) (l:List Int) (w:World) (hr:IRd w b.a b.n b.c l) :
  Calls Tryz.prog 157 #[.agg #[.int .i64 id,.slice b.a b.n b.c]] w fun e w'=>e=.returned (.bool (inB id 1 65535&&(l.all qbl&&inB b.n 1 4)))∧Below w.heap.size w w':=by
 go_enter Tryz.func157,Tryz.ntmps157;go_wp2_with fail
 refine (qnv id _).mono ?_;rintro e z1 ⟨rfl,rfl⟩;cases hv:inB id 1 65535
 ·have V1:Hid (inB id 1 65535=false):=hv;clear hv;go_wp2;go_ret;exact⟨qac (by rw[V1.out];simp),qae _ _⟩
 have V1:Hid (inB id 1 65535=true):=hv;clear hv;go_wp2_with fail
 refine (list_ints _ _ _ l _ (hr.below (qae _ _))).mono ?_;rintro e z2 ⟨rfl,hz2⟩;go_wp2;go_ret;exact⟨qac (by rw[V1.out];simp),bel (qae _ _) hz2⟩
theorem qip (id:Int) (b:Sl) (l:List ByteArray) (w:World) (hr:SRd w b.a b.n b.c l) (hs:∀s∈l,s.size≤1048576) :
  Calls Tryz.prog 163 #[.agg #[.int .i64 id,.slice b.a b.n b.c]] w fun e w'=>e=.returned (.bool (inB id 1 65535&&(l.all flt&&inB b.n 1 4)))∧Below w.heap.size w w':=by
 go_enter Tryz.func163,Tryz.ntmps163;go_wp2_with fail
 refine (qnv id _).mono ?_;rintro e z1 ⟨rfl,rfl⟩;cases hv:inB id 1 65535
 ·have V1:Hid (inB id 1 65535=false):=hv;clear hv;go_wp2;go_ret;exact⟨qac (by rw[V1.out];simp),qae _ _⟩
 have V1:Hid (inB id 1 65535=true):=hv;clear hv;go_wp2_with fail
 refine (list_strs _ _ _ l _ (hr.below (qae _ _)) hs).mono ?_;rintro e z2 ⟨rfl,hz2⟩;go_wp2;go_ret;exact⟨qac (by rw[V1.out];simp),bel (qae _ _) hz2⟩
