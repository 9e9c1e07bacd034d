/- Lemmas. -/
import Derived.Lib.DecodeN
import Derived.Test.YtpgkbkbhhmfgnaaDoorRows
import Derived.WalkKit
import Derived.WalkSpells
import Derived.WalkLawsBesides
import Derived.Laws.RangeString
import Derived.Laws.RangeAny
import Derived.Lib.Strings
import Derived.Deep.QuietTactic
import Derived.BigQuiet
import Derived.Below
set_option linter.unusedVariables false
set_option linter.unusedSimpArgs false
set_option maxRecDepth 100000
set_option maxHeartbeats 20000000
namespace Go.Proofs.YtpgkbkbhhmfgnaaDoor
theorem qzff {P:Prop} (h:true=false):P:=by cases h
theorem qzq {a:Act} {d:Option Tmp} {v:Value} {w:World} {G:Value→Prop} (h:G v):∃v',a.put d v=a.put d v'∧RowKit.Below w.heap.size w w∧G v':=⟨_,rfl,RowKit.Below.refl _ _,h⟩

def rune4 (n b0 b1 b2 b3:Nat):Option (Nat×Nat) :=
 if b0<128 then some (b0,1)
 else if b0<192 then none
 else if b0<224 then
  (if 1<n∧(128≤b1∧b1≤191)∧128≤b0%32*64+b1%64 then some (b0%32*64+b1%64,2) else none)
 else if b0<240 then
  (if 2<n∧(128≤b1∧b1≤191)∧(128≤b2∧b2≤191)∧2048≤b0%16*4096+b1%64*64+b2%64∧¬(55296≤b0%16*4096+b1%64*64+b2%64∧b0%16*4096+b1%64*64+b2%64≤57343)
   then some (b0%16*4096+b1%64*64+b2%64,3) else none)
 else if b0<248 then
  (if 3<n∧(128≤b1∧b1≤191)∧(128≤b2∧b2≤191)∧(128≤b3∧b3≤191)∧65536≤b0%8*262144+b1%64*4096+b2%64*64+b3%64∧b0%8*262144+b1%64*4096+b2%64*64+b3%64≤1114111
   then some (b0%8*262144+b1%64*4096+b2%64*64+b3%64,4) else none)
 else none

def bt (l:List UInt8) (i:Nat):Nat:=(l.getD i 0).toNat

theorem bt_lt (l:List UInt8) (i:Nat):bt l i<256:=(l.getD i 0).toNat_lt

def runeL (l:List UInt8):Option (Nat×Nat):=if l.length=0 then none else rune4 l.length (bt l 0) (bt l 1) (bt l 2) (bt l 3)

theorem qcx (l:List UInt8) (p k:Nat):bt (l.drop p) k=bt l (p+k):=by
 simp[bt,List.getD_eq_getElem?_getD]

theorem qhi {n b0 b1 b2 b3 r k:Nat} (hn:0<n) (h:rune4 n b0 b1 b2 b3=some (r,k)):1≤k∧k≤n∧k≤4∧r≤1114111:=by
 unfold rune4 at h
 repeat' split at h
 all_goals first | contradiction | (simp only[Option.some.injEq,Prod.mk.injEq] at h;omega)

theorem qbi {l:List UInt8} {r k:Nat} (h:runeL l=some (r,k)):1≤k∧k≤l.length∧k≤4∧r≤1114111:=by
 unfold runeL at h
 split at h
 ·simp at h
 ·exact qhi (by omega) h

theorem qgl {n b0 b1 b2 b3 r k:Nat} (hn:0<n) (h0:b0<256) (h1:b1<256) (h2:b2<256) (h3:b3<256) (h:rune4 n b0 b1 b2 b3=some (r,k)):Lib.decodeN n b0 b1 b2 b3=(r,k):=by
 unfold rune4 at h;unfold Lib.decodeN
 repeat' split at h
 all_goals first | contradiction | (simp only[Option.some.injEq,Prod.mk.injEq] at h;obtain⟨rfl,rfl⟩:=h)
 all_goals (repeat' split)
 all_goals first | rfl | (exfalso;omega) | (apply Prod.ext<;>simp only<;>omega)

theorem rune4_none {n b0 b1 b2 b3:Nat} (hn:0<n) (h0:b0<256) (h1:b1<256) (h2:b2<256) (h3:b3<256) (h:rune4 n b0 b1 b2 b3=none):Lib.decodeN n b0 b1 b2 b3=(65533,1):=by
 unfold rune4 at h;unfold Lib.decodeN
 repeat' split at h
 all_goals first | contradiction | skip
 all_goals (repeat' split)
 all_goals first | rfl | (exfalso;omega)

theorem get_bt (s:ByteArray) (i:Nat):(s.get! i).toNat=bt s.data.toList i:=by
 simp only[bt,ByteArray.get!,List.getD_eq_getElem?_getD];rw[Array.getElem!_eq_getD,Array.getD_eq_getD_getElem?];simp;rfl

theorem qdv {s:ByteArray} {p r k:Nat} (h:runeL (s.data.toList.drop p)=some (r,k)):Utf8.decode s p=(r,k):=by
 rw[Lib.decode_at];simp only[get_bt];unfold runeL at h
 split at h
 ·simp at h
 ·rename_i hl
  simp only[qcx,List.length_drop,Nat.add_zero] at h hl;have e:s.size-p=s.data.toList.length-p:=rfl;rw[e];exact qgl (by omega) (bt_lt _ _) (bt_lt _ _) (bt_lt _ _) (bt_lt _ _) h

theorem qdu {s:ByteArray} {p:Nat} (hp:p<s.size) (h:runeL (s.data.toList.drop p)=none):Utf8.decode s p=(65533,1):=by
 rw[Lib.decode_at];simp only[get_bt];have e:s.size-p=s.data.toList.length-p:=rfl;have hl:0<s.data.toList.length-p:=by rw[←e];omega
 unfold runeL at h;rw[if_neg (by simp only[List.length_drop];omega)] at h;simp only[qcx,List.length_drop,Nat.add_zero] at h;rw[e];exact rune4_none hl (bt_lt _ _) (bt_lt _ _) (bt_lt _ _) (bt_lt _ _) h

theorem qbj (l:List UInt8) (i n:Nat) (h:n=bt l i):UInt8.ofNat n=l.getD i 0:=by
 subst h;simp[bt]

theorem take1:∀(l:List UInt8),1≤l.length→l.take 1 = [l.getD 0 0]
 |[],h=>by simp at h
 |[_],_=>rfl
 |_ :: _ :: _,_=>rfl
theorem take2:∀(l:List UInt8),2≤l.length→l.take 2 = [l.getD 0 0,l.getD 1 0]
 |[],h=>by simp at h
 |[_],h=>by simp at h
 |_ :: _ :: _,_=>rfl
theorem take3:∀(l:List UInt8),3≤l.length→l.take 3 = [l.getD 0 0,l.getD 1 0,l.getD 2 0]
 |[],h=>by simp at h
 |[_],h=>by simp at h
 |[_,_],h=>by simp at h
 |_ :: _ :: _ :: _,_=>rfl
theorem take4:∀(l:List UInt8),4≤l.length→l.take 4 = [l.getD 0 0,l.getD 1 0,l.getD 2 0,l.getD 3 0]
 |[],h=>by simp at h
 |[_],h=>by simp at h
 |[_,_],h=>by simp at h
 |[_,_,_],h=>by simp at h
 |_ :: _ :: _ :: _ :: _,_=>rfl

theorem qdw {l:List UInt8} {r k:Nat} (h:runeL l=some (r,k)):(Utf8.encode (r:Int)).data.toList=l.take k:=by
 have hw:=qbi h;have q0:=bt_lt l 0;have q1:=bt_lt l 1;have q2:=bt_lt l 2;have q3:=bt_lt l 3;unfold runeL at h
 split at h
 ·contradiction
 unfold rune4 at h;have hv:Utf8.valid (r:Int)=true:=by
  simp only[Utf8.valid,Bool.or_eq_true,Bool.and_eq_true,decide_eq_true_eq]
  repeat' split at h
  all_goals first | contradiction | (simp only[Option.some.injEq,Prod.mk.injEq] at h;omega)
 unfold Utf8.encode;simp only[hv,if_true,Int.toNat_natCast]
 repeat' split at h
 all_goals first | (simp only[Option.some.injEq,Prod.mk.injEq] at h;obtain⟨rfl,rfl⟩:=h) | (simp only[reduceCtorEq] at h)
 ·rw[if_pos (by omega),take1 l (by omega)];rw[qbj l 0 (bt l 0) rfl]
 ·rw[if_neg (by omega),if_pos (by omega),take2 l (by omega)];rw[qbj l 0 _ (by omega),qbj l 1 _ (by omega)]
 ·rw[if_neg (by omega),if_neg (by omega),if_pos (by omega),take3 l (by omega)];rw[qbj l 0 _ (by omega),qbj l 1 _ (by omega),qbj l 2 _ (by omega)]
 ·rw[if_neg (by omega),if_neg (by omega),if_neg (by omega),take4 l (by omega)];rw[qbj l 0 _ (by omega),qbj l 1 _ (by omega),qbj l 2 _ (by omega),qbj l 3 _ (by omega)]

theorem encode_err:(Utf8.encode (65533:Int)).data.toList = [239,191,189]:=by decide +kernel

def qbc (l p:List UInt8):Bool:=decide (p.length≤l.length)&&(l.take p.length==p)

theorem qhk {l:List UInt8} {r k:Nat} (h:runeL l=some (r,k)):qbc l (Utf8.encode (r:Int)).data.toList=true:=by
 have hw:=qbi h;rw[qdw h];simp only[qbc,List.length_take,Nat.min_eq_left hw.2.1,Bool.and_eq_true,decide_eq_true_eq,beq_self_eq_true,and_true];exact hw.2.1

theorem qhj {l:List UInt8} (hl:l.length≠0) (h:runeL l=none):qbc l (Utf8.encode (65533:Int)).data.toList=false:=by
 rw[encode_err];simp only[qbc,List.length_cons,List.length_nil]
 by_cases h3:3≤l.length
 ·rw[take3 l h3];simp only[Nat.zero_add,Nat.reduceAdd,h3,decide_true,Bool.true_and,beq_eq_false_iff_ne,ne_eq,List.cons.injEq,and_true];rintro ⟨e0,e1,e2⟩;have b0:bt l 0=239:=by simp only[bt,e0];rfl
  have b1:bt l 1=191:=by simp only[bt,e1];rfl
  have b2:bt l 2=189:=by simp only[bt,e2];rfl
  unfold runeL rune4 at h;rw[if_neg hl,b0,b1,b2] at h;rw[if_neg (by omega),if_neg (by omega),if_neg (by omega),if_pos (by omega),if_pos (by omega)] at h
  contradiction
 ·simp[h3]

def qas:Nat→List UInt8→Option Nat
 |0,l=>if l.length=0 then some 0 else none
 |f+1,l=>if l.length=0 then some 0 else
  match runeL l with
  |some (r,k)=>if r=0 then none else (qas f (l.drop k)).map (·+1)
  |none=>none

def qdc (l:List UInt8):Option Nat:=if 60<l.length then none else qas l.length l

def qbs (l:List UInt8):Int:=match qdc l with | some n=>n | none=>-1
def okT (l:List UInt8):Bool:=(qdc l).isSome

theorem qet (f:Nat) (l:List UInt8) (h:l.length=0):qas f l=some 0:=by
 cases f<;>simp[qas,h]

theorem qcg {f:Nat} {l:List UInt8} (hl:l.length≠0) (h:runeL l=none∨∃k,runeL l=some (0,k)):qas f l=none:=by
 cases f with
 |zero=>simp[qas,hl]
 |succ f=>
  rcases h with h | ⟨k,h⟩<;>simp[qas,hl,h]

theorem qdt {f:Nat} {l:List UInt8} {r k:Nat} (hl:l.length≠0) (h:runeL l=some (r,k)) (hr:r≠0):qas (f+1) l=(qas f (l.drop k)).map (·+1):=by
 simp[qas,hl,h,hr]

theorem okT_long {l:List UInt8} (h:60<l.length):okT l=false:=by simp[okT,qdc,h]
theorem okT_short {l:List UInt8} (h:¬60<l.length):okT l=(qas l.length l).isSome:=by simp[okT,qdc,h]
theorem qgw {l:List UInt8} (h:60<l.length):qbs l = -1:=by simp[qbs,qdc,h]
theorem countI_ge (l:List UInt8):decide (0≤qbs l)=okT l:=by
 unfold qbs okT;cases qdc l<;>simp
open Go.RowKit

theorem qaf {a b:Bool} (h:a=b):Ending.returned (.bool a)=.returned (.bool b):=by rw[h]
theorem qfq {k:IntKind} {a b:Int} (h:a=b):Ending.returned (.int k a)=.returned (.int k b):=by rw[h]

theorem qer (s p:ByteArray) (h:p.size≤s.size):((s.extract 0 p.size).toList==p.toList)=qbc s.data.toList p.data.toList:=by
 have e1:s.size=s.data.toList.length:=rfl;have e2:p.size=p.data.toList.length:=rfl;rw[ByteArray.toList_eq,ByteArray.toList_eq,Lib.extract_data];simp only[qbc,List.drop_zero,Nat.sub_zero];rw[e1,e2] at h;rw[e2,decide_eq_true h,Bool.true_and]

theorem qeo (s p:ByteArray) (w:World) :
  Calls Tryd.prog 138 #[.string s,.string p] w fun e w'=>e=.returned (.bool (qbc s.data.toList p.data.toList))∧w'=w:=by
 by_cases h:p.size≤s.size
 ·have h':(p.size:Int)≤(s.size:Int):=by omega
  go_enter Tryd.func138,Tryd.ntmps138;go_wp2;go_ret;exact⟨qaf (qer s p h),rfl⟩
 ·have h':(s.size:Int)<(p.size:Int):=by omega
  go_enter Tryd.func138,Tryd.ntmps138;go_wp2;go_ret;refine⟨qaf ?_,rfl⟩;have e1:s.size=s.data.toList.length:=rfl;have e2:p.size=p.data.toList.length:=rfl;rw[e1,e2] at h;rw[qbc,decide_eq_false h,Bool.false_and]

theorem qcr (s p:ByteArray) (w:World) :
  Calls Tryd.prog 117 #[.string s,.string p] w fun e w'=>e=.returned (.bool (qbc s.data.toList p.data.toList))∧w'=w:=by
 go_enter Tryd.func117,Tryd.ntmps117;go_wp2_with (go_at_call 138;refine (qeo _ _ _).mono ?_;rintro e w' ⟨rfl,rfl⟩)
 go_ret;exact⟨rfl,rfl⟩

theorem qen (s:ByteArray) (r:Int) (w:World) :
  Calls Tryd.prog 118 #[.string s,.int .i32 r] w fun e w'=>e=.returned (.bool (qbc s.data.toList (Utf8.encode r).data.toList))∧w'=w:=by
 go_enter Tryd.func118,Tryd.ntmps118;go_wp2_with (go_at_call 117;refine (qcr _ _ _).mono ?_;rintro e w' ⟨rfl,rfl⟩)
 go_ret;exact⟨rfl,rfl⟩

theorem qcc (s:ByteArray) (r:Int) (w:World) (b:Bool) (hb:qbc s.data.toList (Utf8.encode r).data.toList=b) :
  Calls Tryd.prog 118 #[.string s,.int .i32 r] w fun e w'=>e=.returned (.bool b)∧w'=w:=by
 subst hb;exact qen s r w

theorem qbt (w:World) (s:ByteArray) (p:Nat):Below w.heap.size w (w.iter s p):=(Below.refl _ _).alloc (Nat.le_refl _) _

theorem qfw (s:ByteArray) (p:Nat):(s.extract p s.size).data.toList=s.data.toList.drop p:=by
 rw[Lib.extract_data];apply List.take_of_length_le
 rw[List.length_drop];exact Nat.le_refl _

theorem qez (s:ByteArray) (w:World) (hs:s.size<9223372036854775807) :
  Calls Tryd.prog 103 #[.string s] w fun e w'=>e=.returned (.bool (okT s.data.toList))∧Below w.heap.size w w':=by
 have e1:s.size=s.data.toList.length:=rfl
 by_cases hlong:60<s.size
 ·have h':(60:Int)<(s.size:Int):=by omega
  have hk:Hid (okT s.data.toList=false):=okT_long (by omega);clear e1;go_enter Tryd.func103,Tryd.ntmps103;go_wp2;go_ret;exact⟨qaf hk.out.symm,Below.refl _ _⟩
 ·have h':(s.size:Int)≤60:=by omega
  have hk:Hid (okT s.data.toList=(qas s.data.toList.length s.data.toList).isSome):=okT_short (by omega);have H1:Hid (s.size=s.data.toList.length):=e1;clear e1;go_enter Tryd.func103,Tryd.ntmps103;go_wp2
  go_loopw [3] (fun _ w'=>∃(pos f:Nat),w'=w.iter s pos∧pos≤s.size∧s.size≤pos+f∧(qas s.data.toList.length s.data.toList).isSome=(qas f (s.data.toList.drop pos)).isSome) (fun _ w'=>s.size-w'.iterPos w.heap.size)
  case atStart=>exact⟨0,s.size,rfl,Nat.zero_le _,by omega,rfl⟩
  case round=>
   obtain⟨pos,f,rfl,hpos,hf,hc⟩:=hrel;have HC:Hid ((qas s.data.toList.length s.data.toList).isSome=(qas f (s.data.toList.drop pos)).isSome):=hc;clear hc
   by_cases hp:pos<s.size
   ·have hl:(s.data.toList.drop pos).length≠0:=by rw[List.length_drop,←H1.out];omega
    cases hr:runeL (s.data.toList.drop pos) with
    |none=>
     have hst:Hid (qbc (s.data.toList.drop pos) (Utf8.encode (65533:Int)).data.toList=false):=qhj hl hr;have hd:Utf8.decode s pos=(65533,1):=qdu hp hr;have hnx:∀ty,(Instr.next (.pointer (some ⟨w.heap.size,0,none⟩)) true ty).run Tryd.prog (w.iter s pos)=.ok (.tuple #[.bool true,.int .i64 (pos:Nat),.int .i32 65533]) (w.iter s (pos+1)):=fun ty=>by
      have:=run_next_any (P:=Tryd.prog) w s pos ty hp;rw[hd] at this;exact this
     have HF:Hid (qas f (s.data.toList.drop pos)=none):=qcg hl (.inl hr);clear hd hr hl;go_wp2_with (go_at_call 118;refine (qcc _ _ _ false (by rw[qfw];exact hst.out)).mono ?_;rintro e w' ⟨rfl,rfl⟩)
     go_ret;exact⟨qaf (by rw[hk.out,HC.out,HF.out];rfl),qbt _ _ _⟩
    |some rk=>
     obtain⟨r,k⟩:=rk;have hw:=qbi hr;rw[List.length_drop,←H1.out] at hw;have hst:Hid (qbc (s.data.toList.drop pos) (Utf8.encode (r:Int)).data.toList=true):=qhk hr;have hd:Utf8.decode s pos=(r,k):=qdv hr;have hnx:∀ty,(Instr.next (.pointer (some ⟨w.heap.size,0,none⟩)) true ty).run Tryd.prog (w.iter s pos)=.ok (.tuple #[.bool true,.int .i64 (pos:Nat),.int .i32 (r:Nat)]) (w.iter s (pos+k)):=fun ty=>by
      have:=run_next_any (P:=Tryd.prog) w s pos ty hp;rw[hd] at this;exact this
     by_cases hr0:r=0
     ·subst hr0;have HF:Hid (qas f (s.data.toList.drop pos)=none):=qcg hl (.inr ⟨k,hr⟩);clear hd hr hl hst hw;go_wp2_with fail
      go_ret;exact⟨qaf (by rw[hk.out,HC.out,HF.out];rfl),qbt _ _ _⟩
     ·have hz:((r:Int)==0)=false:=by simp;omega
      have HR:Hid (runeL (s.data.toList.drop pos)=some (r,k)):=hr;have HL:Hid ((s.data.toList.drop pos).length≠0):=hl;have H0:Hid (r≠0):=hr0;clear hd hr hl hr0;go_wp2_with (go_at_call 118;refine (qcc _ _ _ true (by rw[qfw];exact hst.out)).mono ?_;rintro e w' ⟨rfl,rfl⟩)
      go_roundw
      case rel=>
       cases f with
       |zero=>omega
       |succ f=>
        refine⟨pos+k,f,rfl,by omega,by omega,?_⟩;rw[HC.out,qdt HL.out HR.out H0.out,List.drop_drop];simp
      case measure=>
       simp;omega
   ·have hnx:∀ty,(Instr.next (.pointer (some ⟨w.heap.size,0,none⟩)) true ty).run Tryd.prog (w.iter s pos)=_:=fun ty=>run_next_end w s pos ty hp
    have HF:Hid (qas f (s.data.toList.drop pos)=some 0):=qet f _ (by rw[List.length_drop,←H1.out];omega);go_wp2;go_ret;exact⟨qaf (by rw[hk.out,HC.out,HF.out];rfl),qbt _ _ _⟩


theorem qbx (n:Int):(BitVec.ofInt 64 n).toNat=(n%18446744073709551616).toNat:=by
 rw[BitVec.toNat_ofInt];rfl

theorem qfs (m:Nat) (h:m<9223372036854775808):IntKind.i64.wrap (m:Int)=m:=by
 rw[IntKind.wrap_i64];omega

theorem mask7 (n:Int):bits .and .i64 n 7=n%8:=by
 show IntKind.i64.wrap (((BitVec.ofInt 64 n &&& BitVec.ofInt 64 7):BitVec 64).toNat:Int)=_;rw[BitVec.toNat_and,qbx,qbx,show ((7:Int)%18446744073709551616).toNat=2 ^ 3-1 from by decide,Nat.and_two_pow_sub_one_eq_mod];have h:=Nat.mod_lt (n%18446744073709551616).toNat (show 0<2 ^ 3 by decide);rw[show (2:Nat) ^ 3=8 from by decide] at *;rw[qfs _ (by omega)];omega

theorem mask15 (n:Int):bits .and .i64 n 15=n%16:=by
 show IntKind.i64.wrap (((BitVec.ofInt 64 n &&& BitVec.ofInt 64 15):BitVec 64).toNat:Int)=_;rw[BitVec.toNat_and,qbx,qbx,show ((15:Int)%18446744073709551616).toNat=2 ^ 4-1 from by decide,Nat.and_two_pow_sub_one_eq_mod];have h:=Nat.mod_lt (n%18446744073709551616).toNat (show 0<2 ^ 4 by decide);rw[show (2:Nat) ^ 4=16 from by decide] at *;rw[qfs _ (by omega)];omega

theorem mask31 (n:Int):bits .and .i64 n 31=n%32:=by
 show IntKind.i64.wrap (((BitVec.ofInt 64 n &&& BitVec.ofInt 64 31):BitVec 64).toNat:Int)=_;rw[BitVec.toNat_and,qbx,qbx,show ((31:Int)%18446744073709551616).toNat=2 ^ 5-1 from by decide,Nat.and_two_pow_sub_one_eq_mod];have h:=Nat.mod_lt (n%18446744073709551616).toNat (show 0<2 ^ 5 by decide);rw[show (2:Nat) ^ 5=32 from by decide] at *;rw[qfs _ (by omega)];omega

