/- Lemmas. -/
import Derived.Lib.DecodeN
import Derived.Test.YtpjkbgdkligpdaaGreatRows
import Derived.WalkKit
import Derived.WalkSpells
import Derived.WalkLawsBesides
import Derived.Laws.RangeString
import Derived.Laws.RangeAny
import Derived.Lib.Strings
import Derived.Deep.QuietTactic
import Derived.BigQuiet
import Derived.Lib.AppendStr
import Derived.Laws.AppendOwnNone
import Derived.Below
set_option linter.unusedVariables false
set_option linter.unusedSimpArgs false
set_option maxRecDepth 100000
set_option maxHeartbeats 20000000
namespace Go.Proofs.YtpjkbgdkligpdaaGreat
abbrev Fq120 {a0 b0 c0 d0 e0 f0 g0 h0 i0 j0 k0 l0 m0 n0 o0 p0 a1 b1 c1 d1 e1 f1 g1 h1 i1 j1 k1 l1 m1 n1 o1 p1 a2 b2 c2 d2 e2 f2 g2 h2 i2 j2 k2 l2 m2 n2 o2 p2 a3 b3 c3 d3 e3 f3 g3 h3 i3 j3 k3 l3 m3 n3 o3 p3 a4 b4 c4 d4 e4 f4 g4 h4 i4 j4 k4 l4 m4 n4 o4 p4 a5 b5 c5 d5 e5 f5 g5 h5 i5 j5 k5 l5 m5 n5 o5 p5 a6 b6 c6 d6 e6 f6 g6 h6 i6 j6 k6 l6 m6 n6 o6 p6 a7 b7 c7 d7 e7 f7 g7 h7:Value} : Act:=.mk #[a0,b0,c0,d0,e0,f0,g0,h0,i0,j0,k0,l0,m0,n0,o0,p0,a1,b1,c1,d1,e1,f1,g1,h1,i1,j1,k1,l1,m1,n1,o1,p1,a2,b2,c2,d2,e2,f2,g2,h2,i2,j2,k2,l2,m2,n2,o2,p2,a3,b3,c3,d3,e3,f3,g3,h3,i3,j3,k3,l3,m3,n3,o3,p3,a4,b4,c4,d4,e4,f4,g4,h4,i4,j4,k4,l4,m4,n4,o4,p4,a5,b5,c5,d5,e5,f5,g5,h5,i5,j5,k5,l5,m5,n5,o5,p5,a6,b6,c6,d6,e6,f6,g6,h6,i6,j6,k6,l6,m6,n6,o6,p6,a7,b7,c7,d7,e7,f7,g7,h7] []
abbrev Fq204 {a0 b0 c0 d0 e0 f0 g0 h0 i0 j0 k0 l0 m0 n0 o0 p0 a1 b1 c1 d1 e1 f1 g1 h1 i1 j1 k1 l1 m1 n1 o1 p1 a2 b2 c2 d2 e2 f2 g2 h2 i2 j2 k2 l2 m2 n2 o2 p2 a3 b3 c3 d3 e3 f3 g3 h3 i3 j3 k3 l3 m3 n3 o3 p3 a4 b4 c4 d4 e4 f4 g4 h4 i4 j4 k4 l4 m4 n4 o4 p4 a5 b5 c5 d5 e5 f5 g5 h5 i5 j5 k5 l5 m5 n5 o5 p5 a6 b6 c6 d6 e6 f6 g6 h6 i6 j6 k6 l6 m6 n6 o6 p6 a7 b7 c7 d7 e7 f7 g7 h7 i7 j7 k7 l7 m7 n7 o7 p7 a8 b8 c8 d8 e8 f8 g8 h8 i8 j8 k8 l8 m8 n8 o8 p8 a9 b9 c9 d9 e9 f9 g9 h9 i9 j9 k9 l9 m9 n9 o9 p9 a10 b10 c10 d10 e10 f10 g10 h10 i10 j10 k10 l10 m10 n10 o10 p10 a11 b11 c11 d11 e11 f11 g11 h11 i11 j11 k11 l11 m11 n11 o11 p11 a12 b12 c12 d12 e12 f12 g12 h12 i12 j12 k12 l12:Value} : Act:=.mk #[a0,b0,c0,d0,e0,f0,g0,h0,i0,j0,k0,l0,m0,n0,o0,p0,a1,b1,c1,d1,e1,f1,g1,h1,i1,j1,k1,l1,m1,n1,o1,p1,a2,b2,c2,d2,e2,f2,g2,h2,i2,j2,k2,l2,m2,n2,o2,p2,a3,b3,c3,d3,e3,f3,g3,h3,i3,j3,k3,l3,m3,n3,o3,p3,a4,b4,c4,d4,e4,f4,g4,h4,i4,j4,k4,l4,m4,n4,o4,p4,a5,b5,c5,d5,e5,f5,g5,h5,i5,j5,k5,l5,m5,n5,o5,p5,a6,b6,c6,d6,e6,f6,g6,h6,i6,j6,k6,l6,m6,n6,o6,p6,a7,b7,c7,d7,e7,f7,g7,h7,i7,j7,k7,l7,m7,n7,o7,p7,a8,b8,c8,d8,e8,f8,g8,h8,i8,j8,k8,l8,m8,n8,o8,p8,a9,b9,c9,d9,e9,f9,g9,h9,i9,j9,k9,l9,m9,n9,o9,p9,a10,b10,c10,d10,e10,f10,g10,h10,i10,j10,k10,l10,m10,n10,o10,p10,a11,b11,c11,d11,e11,f11,g11,h11,i11,j11,k11,l11,m11,n11,o11,p11,a12,b12,c12,d12,e12,f12,g12,h12,i12,j12,k12,l12] []
abbrev Fq27 {a0 b0 c0 d0 e0 f0 g0 h0 i0 j0 k0 l0 m0 n0 o0 p0 a1 b1 c1 d1 e1 f1 g1 h1 i1 j1 k1:Value} : Act:=.mk #[a0,b0,c0,d0,e0,f0,g0,h0,i0,j0,k0,l0,m0,n0,o0,p0,a1,b1,c1,d1,e1,f1,g1,h1,i1,j1,k1] []
abbrev Fq44 {a0 b0 c0 d0 e0 f0 g0 h0 i0 j0 k0 l0 m0 n0 o0 p0 a1 b1 c1 d1 e1 f1 g1 h1 i1 j1 k1 l1 m1 n1 o1 p1 a2 b2 c2 d2 e2 f2 g2 h2 i2 j2 k2 l2:Value} : Act:=.mk #[a0,b0,c0,d0,e0,f0,g0,h0,i0,j0,k0,l0,m0,n0,o0,p0,a1,b1,c1,d1,e1,f1,g1,h1,i1,j1,k1,l1,m1,n1,o1,p1,a2,b2,c2,d2,e2,f2,g2,h2,i2,j2,k2,l2] []
theorem qzff {P:Prop} (h:true=false):P:=by cases h
theorem qzq {a:Act} {d:Option Tmp} {v:Value} {w:World} {G:Value→World→Prop} (h:G v w):∃v',a.put d v=a.put d v'∧RowKit.Below w.heap.size w w∧G v' w:=⟨_,rfl,RowKit.Below.refl _ _,h⟩

def rune4 (n b0 b1 b2 b3:Nat):Option (Nat×Nat) :=
 if b0<128 then some (b0,1)
 else if b0<192 then none
 else if b0<224 then
  (if 1<n∧(128≤b1∧b1≤191)∧128≤b0%32*64+b1%64 then some (b0%32*64+b1%64,2) else none)
 else if b0<240 then
  (if 2<n∧(128≤b1∧b1≤191)∧(128≤b2∧b2≤191)∧2048≤b0%16*4096+b1%64*64+b2%64∧¬(55296≤b0%16*4096+b1%64*64+b2%64∧b0%16*4096+b1%64*64+b2%64≤57343)
   then some (b0%16*4096+b1%64*64+b2%64,3) else none)
 else if b0<248 then
  (if 3<n∧(128≤b1∧b1≤191)∧(128≤b2∧b2≤191)∧(128≤b3∧b3≤191)∧65536≤b0%8*262144+b1%64*4096+b2%64*64+b3%64∧b0%8*262144+b1%64*4096+b2%64*64+b3%64≤1114111
   then some (b0%8*262144+b1%64*4096+b2%64*64+b3%64,4) else none)
 else none

def bt (l:List UInt8) (i:Nat):Nat:=(l.getD i 0).toNat

theorem bt_lt (l:List UInt8) (i:Nat):bt l i<256:=(l.getD i 0).toNat_lt

def runeL (l:List UInt8):Option (Nat×Nat):=if l.length=0 then none else rune4 l.length (bt l 0) (bt l 1) (bt l 2) (bt l 3)

theorem qhw (l:List UInt8) (p k:Nat):bt (l.drop p) k=bt l (p+k):=by
 simp[bt,List.getD_eq_getElem?_getD]

theorem qpd {n b0 b1 b2 b3 r k:Nat} (hn:0<n) (h:rune4 n b0 b1 b2 b3=some (r,k)):1≤k∧k≤n∧k≤4∧r≤1114111:=by
 unfold rune4 at h
 repeat' split at h
 all_goals first | contradiction | (simp only[Option.some.injEq,Prod.mk.injEq] at h;omega)

theorem qcy {l:List UInt8} {r k:Nat} (h:runeL l=some (r,k)):1≤k∧k≤l.length∧k≤4∧r≤1114111:=by
 unfold runeL at h
 split at h
 ·simp at h
 ·exact qpd (by omega) h

theorem qof {n b0 b1 b2 b3 r k:Nat} (hn:0<n) (h0:b0<256) (h1:b1<256) (h2:b2<256) (h3:b3<256) (h:rune4 n b0 b1 b2 b3=some (r,k)):Lib.decodeN n b0 b1 b2 b3=(r,k):=by
 unfold rune4 at h;unfold Lib.decodeN
 repeat' split at h
 all_goals first | contradiction | (simp only[Option.some.injEq,Prod.mk.injEq] at h;obtain⟨rfl,rfl⟩:=h)
 all_goals (repeat' split)
 all_goals first | rfl | (exfalso;omega) | (apply Prod.ext<;>simp only<;>omega)

theorem rune4_none {n b0 b1 b2 b3:Nat} (hn:0<n) (h0:b0<256) (h1:b1<256) (h2:b2<256) (h3:b3<256) (h:rune4 n b0 b1 b2 b3=none):Lib.decodeN n b0 b1 b2 b3=(65533,1):=by
 unfold rune4 at h;unfold Lib.decodeN
 repeat' split at h
 all_goals first | contradiction | skip
 all_goals (repeat' split)
 all_goals first | rfl | (exfalso;omega)

theorem get_bt (s:ByteArray) (i:Nat):(s.get! i).toNat=bt s.data.toList i:=by
 simp only[bt,ByteArray.get!,List.getD_eq_getElem?_getD];rw[Array.getElem!_eq_getD,Array.getD_eq_getD_getElem?];simp;rfl

theorem qkd {s:ByteArray} {p r k:Nat} (h:runeL (s.data.toList.drop p)=some (r,k)):Utf8.decode s p=(r,k):=by
 rw[Lib.decode_at];simp only[get_bt];unfold runeL at h
 split at h
 ·simp at h
 ·rename_i hl
  simp only[qhw,List.length_drop,Nat.add_zero] at h hl;have e:s.size-p=s.data.toList.length-p:=rfl;rw[e];exact qof (by omega) (bt_lt _ _) (bt_lt _ _) (bt_lt _ _) (bt_lt _ _) h

theorem qkc {s:ByteArray} {p:Nat} (hp:p<s.size) (h:runeL (s.data.toList.drop p)=none):Utf8.decode s p=(65533,1):=by
 rw[Lib.decode_at];simp only[get_bt];have e:s.size-p=s.data.toList.length-p:=rfl;have hl:0<s.data.toList.length-p:=by rw[←e];omega
 unfold runeL at h;rw[if_neg (by simp only[List.length_drop];omega)] at h;simp only[qhw,List.length_drop,Nat.add_zero] at h;rw[e];exact rune4_none hl (bt_lt _ _) (bt_lt _ _) (bt_lt _ _) (bt_lt _ _) h

theorem qda (l:List UInt8) (i n:Nat) (h:n=bt l i):UInt8.ofNat n=l.getD i 0:=by
 subst h;simp[bt]

theorem take1:∀(l:List UInt8),1≤l.length→l.take 1 = [l.getD 0 0]
 |[],h=>by simp at h
 |[_],_=>rfl
 |_ :: _ :: _,_=>rfl
theorem take2:∀(l:List UInt8),2≤l.length→l.take 2 = [l.getD 0 0,l.getD 1 0]
 |[],h=>by simp at h
 |[_],h=>by simp at h
 |_ :: _ :: _,_=>rfl
theorem take3:∀(l:List UInt8),3≤l.length→l.take 3 = [l.getD 0 0,l.getD 1 0,l.getD 2 0]
 |[],h=>by simp at h
 |[_],h=>by simp at h
 |[_,_],h=>by simp at h
 |_ :: _ :: _ :: _,_=>rfl
theorem take4:∀(l:List UInt8),4≤l.length→l.take 4 = [l.getD 0 0,l.getD 1 0,l.getD 2 0,l.getD 3 0]
 |[],h=>by simp at h
 |[_],h=>by simp at h
 |[_,_],h=>by simp at h
 |[_,_,_],h=>by simp at h
 |_ :: _ :: _ :: _ :: _,_=>rfl

theorem qke {l:List UInt8} {r k:Nat} (h:runeL l=some (r,k)):(Utf8.encode (r:Int)).data.toList=l.take k:=by
 have hw:=qcy h;have q0:=bt_lt l 0;have q1:=bt_lt l 1;have q2:=bt_lt l 2;have q3:=bt_lt l 3;unfold runeL at h
 split at h
 ·contradiction
 unfold rune4 at h;have hv:Utf8.valid (r:Int)=true:=by
  simp only[Utf8.valid,Bool.or_eq_true,Bool.and_eq_true,decide_eq_true_eq]
  repeat' split at h
  all_goals first | contradiction | (simp only[Option.some.injEq,Prod.mk.injEq] at h;omega)
 unfold Utf8.encode;simp only[hv,if_true,Int.toNat_natCast]
 repeat' split at h
 all_goals first | (simp only[Option.some.injEq,Prod.mk.injEq] at h;obtain⟨rfl,rfl⟩:=h) | (simp only[reduceCtorEq] at h)
 ·rw[if_pos (by omega),take1 l (by omega)];rw[qda l 0 (bt l 0) rfl]
 ·rw[if_neg (by omega),if_pos (by omega),take2 l (by omega)];rw[qda l 0 _ (by omega),qda l 1 _ (by omega)]
 ·rw[if_neg (by omega),if_neg (by omega),if_pos (by omega),take3 l (by omega)];rw[qda l 0 _ (by omega),qda l 1 _ (by omega),qda l 2 _ (by omega)]
 ·rw[if_neg (by omega),if_neg (by omega),if_neg (by omega),take4 l (by omega)];rw[qda l 0 _ (by omega),qda l 1 _ (by omega),qda l 2 _ (by omega),qda l 3 _ (by omega)]

theorem encode_err:(Utf8.encode (65533:Int)).data.toList = [239,191,189]:=by decide +kernel

def qek (l p:List UInt8):Bool:=decide (p.length≤l.length)&&(l.take p.length==p)

theorem qpf {l:List UInt8} {r k:Nat} (h:runeL l=some (r,k)):qek l (Utf8.encode (r:Int)).data.toList=true:=by
 have hw:=qcy h;rw[qke h];simp only[qek,List.length_take,Nat.min_eq_left hw.2.1,Bool.and_eq_true,decide_eq_true_eq,beq_self_eq_true,and_true];exact hw.2.1

theorem qpe {l:List UInt8} (hl:l.length≠0) (h:runeL l=none):qek l (Utf8.encode (65533:Int)).data.toList=false:=by
 rw[encode_err];simp only[qek,List.length_cons,List.length_nil]
 by_cases h3:3≤l.length
 ·rw[take3 l h3];simp only[Nat.zero_add,Nat.reduceAdd,h3,decide_true,Bool.true_and,beq_eq_false_iff_ne,ne_eq,List.cons.injEq,and_true];rintro ⟨e0,e1,e2⟩;have b0:bt l 0=239:=by simp only[bt,e0];rfl
  have b1:bt l 1=191:=by simp only[bt,e1];rfl
  have b2:bt l 2=189:=by simp only[bt,e2];rfl
  unfold runeL rune4 at h;rw[if_neg hl,b0,b1,b2] at h;rw[if_neg (by omega),if_neg (by omega),if_neg (by omega),if_pos (by omega),if_pos (by omega)] at h
  contradiction
 ·simp[h3]

def qbm:Nat→List UInt8→Option Nat
 |0,l=>if l.length=0 then some 0 else none
 |f+1,l=>if l.length=0 then some 0 else
  match runeL l with
  |some (r,k)=>if r=0 then none else (qbm f (l.drop k)).map (·+1)
  |none=>none

def qiw (l:List UInt8):Option Nat:=if 60<l.length then none else qbm l.length l

def qeb (l:List UInt8):Int:=match qiw l with | some n=>n | none=>-1
def okT (l:List UInt8):Bool:=(qiw l).isSome

theorem qme (f:Nat) (l:List UInt8) (h:l.length=0):qbm f l=some 0:=by
 cases f<;>simp[qbm,h]

theorem qgd {f:Nat} {l:List UInt8} (hl:l.length≠0) (h:runeL l=none∨∃k,runeL l=some (0,k)):qbm f l=none:=by
 cases f with
 |zero=>simp[qbm,hl]
 |succ f=>
  rcases h with h | ⟨k,h⟩<;>simp[qbm,hl,h]

theorem qkb {f:Nat} {l:List UInt8} {r k:Nat} (hl:l.length≠0) (h:runeL l=some (r,k)) (hr:r≠0):qbm (f+1) l=(qbm f (l.drop k)).map (·+1):=by
 simp[qbm,hl,h,hr]

theorem okT_long {l:List UInt8} (h:60<l.length):okT l=false:=by simp[okT,qiw,h]
theorem okT_short {l:List UInt8} (h:¬60<l.length):okT l=(qbm l.length l).isSome:=by simp[okT,qiw,h]
theorem qom {l:List UInt8} (h:60<l.length):qeb l = -1:=by simp[qeb,qiw,h]
theorem countI_ge (l:List UInt8):decide (0≤qeb l)=okT l:=by
 unfold qeb okT;cases qiw l<;>simp
open Go.RowKit

theorem qac {a b:Bool} (h:a=b):Ending.returned (.bool a)=.returned (.bool b):=by rw[h]
theorem qni {k:IntKind} {a b:Int} (h:a=b):Ending.returned (.int k a)=.returned (.int k b):=by rw[h]

theorem qmb (s p:ByteArray) (h:p.size≤s.size):((s.extract 0 p.size).toList==p.toList)=qek s.data.toList p.data.toList:=by
 have e1:s.size=s.data.toList.length:=rfl;have e2:p.size=p.data.toList.length:=rfl;rw[ByteArray.toList_eq,ByteArray.toList_eq,Lib.extract_data];simp only[qek,List.drop_zero,Nat.sub_zero];rw[e1,e2] at h;rw[e2,decide_eq_true h,Bool.true_and]

theorem qlq (s p:ByteArray) (w:World) :
  Calls Tryz.prog 111 #[.string s,.string p] w fun e w'=>e=.returned (.bool (qek s.data.toList p.data.toList))∧w'=w:=by
 by_cases h:p.size≤s.size
 ·have h':(p.size:Int)≤(s.size:Int):=by omega
  go_enter Tryz.func111,Tryz.ntmps111;go_wp2;go_ret;exact⟨qac (qmb s p h),rfl⟩
 ·have h':(s.size:Int)<(p.size:Int):=by omega
  go_enter Tryz.func111,Tryz.ntmps111;go_wp2;go_ret;refine⟨qac ?_,rfl⟩;have e1:s.size=s.data.toList.length:=rfl;have e2:p.size=p.data.toList.length:=rfl;rw[e1,e2] at h;rw[qek,decide_eq_false h,Bool.false_and]

theorem qmw (s p:ByteArray) (w:World) :
  Calls Tryz.prog 104 #[.string s,.string p] w fun e w'=>e=.returned (.bool (qek s.data.toList p.data.toList))∧w'=w:=by
 go_enter Tryz.func104,Tryz.ntmps104;go_wp2_with (go_at_call 111;refine (qlq _ _ _).mono ?_;rintro e w' ⟨rfl,rfl⟩)
 go_ret;exact⟨rfl,rfl⟩

theorem qlp (s:ByteArray) (r:Int) (w:World) :
  Calls Tryz.prog 100 #[.string s,.int .i32 r] w fun e w'=>e=.returned (.bool (qek s.data.toList (Utf8.encode r).data.toList))∧w'=w:=by
 go_enter Tryz.func100,Tryz.ntmps100;go_wp2_with (go_at_call 104;refine (qmw _ _ _).mono ?_;rintro e w' ⟨rfl,rfl⟩)
 go_ret;exact⟨rfl,rfl⟩

theorem qfi (s:ByteArray) (r:Int) (w:World) (b:Bool) (hb:qek s.data.toList (Utf8.encode r).data.toList=b) :
  Calls Tryz.prog 100 #[.string s,.int .i32 r] w fun e w'=>e=.returned (.bool b)∧w'=w:=by
 subst hb;exact qlp s r w

theorem qed (w:World) (s:ByteArray) (p:Nat):Below w.heap.size w (w.iter s p):=(Below.refl _ _).alloc (Nat.le_refl _) _

theorem qns (s:ByteArray) (p:Nat):(s.extract p s.size).data.toList=s.data.toList.drop p:=by
 rw[Lib.extract_data];apply List.take_of_length_le
 rw[List.length_drop];exact Nat.le_refl _

theorem qcn (s:ByteArray) (w:World) (hs:s.size<9223372036854775807) :
  Calls Tryz.prog 97 #[.string s] w fun e w'=>e=.returned (.bool (okT s.data.toList))∧Below w.heap.size w w':=by
 have e1:s.size=s.data.toList.length:=rfl
 by_cases hlong:60<s.size
 ·have h':(60:Int)<(s.size:Int):=by omega
  have hk:Hid (okT s.data.toList=false):=okT_long (by omega);clear e1;go_enter Tryz.func97,Tryz.ntmps97;go_wp2;go_ret;exact⟨qac hk.out.symm,Below.refl _ _⟩
 ·have h':(s.size:Int)≤60:=by omega
  have hk:Hid (okT s.data.toList=(qbm s.data.toList.length s.data.toList).isSome):=okT_short (by omega);have H1:Hid (s.size=s.data.toList.length):=e1;clear e1;go_enter Tryz.func97,Tryz.ntmps97;go_wp2
  go_loopw [3] (fun _ w'=>∃(pos f:Nat),w'=w.iter s pos∧pos≤s.size∧s.size≤pos+f∧(qbm s.data.toList.length s.data.toList).isSome=(qbm f (s.data.toList.drop pos)).isSome) (fun _ w'=>s.size-w'.iterPos w.heap.size)
  case atStart=>exact⟨0,s.size,rfl,Nat.zero_le _,by omega,rfl⟩
  case round=>
   obtain⟨pos,f,rfl,hpos,hf,hc⟩:=hrel;have HC:Hid ((qbm s.data.toList.length s.data.toList).isSome=(qbm f (s.data.toList.drop pos)).isSome):=hc;clear hc
   by_cases hp:pos<s.size
   ·have hl:(s.data.toList.drop pos).length≠0:=by rw[List.length_drop,←H1.out];omega
    cases hr:runeL (s.data.toList.drop pos) with
    |none=>
     have hst:Hid (qek (s.data.toList.drop pos) (Utf8.encode (65533:Int)).data.toList=false):=qpe hl hr;have hd:Utf8.decode s pos=(65533,1):=qkc hp hr;have hnx:∀ty,(Instr.next (.pointer (some ⟨w.heap.size,0,none⟩)) true ty).run Tryz.prog (w.iter s pos)=.ok (.tuple #[.bool true,.int .i64 (pos:Nat),.int .i32 65533]) (w.iter s (pos+1)):=fun ty=>by
      have:=run_next_any (P:=Tryz.prog) w s pos ty hp;rw[hd] at this;exact this
     have HF:Hid (qbm f (s.data.toList.drop pos)=none):=qgd hl (.inl hr);clear hd hr hl;go_wp2_with (go_at_call 100;refine (qfi _ _ _ false (by rw[qns];exact hst.out)).mono ?_;rintro e w' ⟨rfl,rfl⟩)
     go_ret;exact⟨qac (by rw[hk.out,HC.out,HF.out];rfl),qed _ _ _⟩
    |some rk=>
     obtain⟨r,k⟩:=rk;have hw:=qcy hr;rw[List.length_drop,←H1.out] at hw;have hst:Hid (qek (s.data.toList.drop pos) (Utf8.encode (r:Int)).data.toList=true):=qpf hr;have hd:Utf8.decode s pos=(r,k):=qkd hr;have hnx:∀ty,(Instr.next (.pointer (some ⟨w.heap.size,0,none⟩)) true ty).run Tryz.prog (w.iter s pos)=.ok (.tuple #[.bool true,.int .i64 (pos:Nat),.int .i32 (r:Nat)]) (w.iter s (pos+k)):=fun ty=>by
      have:=run_next_any (P:=Tryz.prog) w s pos ty hp;rw[hd] at this;exact this
     by_cases hr0:r=0
     ·subst hr0;have HF:Hid (qbm f (s.data.toList.drop pos)=none):=qgd hl (.inr ⟨k,hr⟩);clear hd hr hl hst hw;go_wp2_with fail
      go_ret;exact⟨qac (by rw[hk.out,HC.out,HF.out];rfl),qed _ _ _⟩
     ·have hz:((r:Int)==0)=false:=by simp;omega
      have HR:Hid (runeL (s.data.toList.drop pos)=some (r,k)):=hr;have HL:Hid ((s.data.toList.drop pos).length≠0):=hl;have H0:Hid (r≠0):=hr0;clear hd hr hl hr0;go_wp2_with (go_at_call 100;refine (qfi _ _ _ true (by rw[qns];exact hst.out)).mono ?_;rintro e w' ⟨rfl,rfl⟩)
      go_roundw
      case rel=>
       cases f with
       |zero=>omega
       |succ f=>
        refine⟨pos+k,f,rfl,by omega,by omega,?_⟩;rw[HC.out,qkb HL.out HR.out H0.out,List.drop_drop];simp
      case measure=>
       simp;omega
   ·have hnx:∀ty,(Instr.next (.pointer (some ⟨w.heap.size,0,none⟩)) true ty).run Tryz.prog (w.iter s pos)=_:=fun ty=>run_next_end w s pos ty hp
    have HF:Hid (qbm f (s.data.toList.drop pos)=some 0):=qme f _ (by rw[List.length_drop,←H1.out];omega);go_wp2;go_ret;exact⟨qac (by rw[hk.out,HC.out,HF.out];rfl),qed _ _ _⟩


theorem at_data (s:ByteArray) (i:Nat) (h:i<s.size):s.data.toList[i]? = some (s[i]'h):=by
 have e1:s.size=s.data.toList.length:=rfl;rw[List.getElem?_eq_getElem (by omega)];rfl


def pre (p:List UInt8):List (List UInt8)→List (List UInt8)
 |[]=>[p]
 |h :: t=>(p++h) :: t

def lvl:List UInt8→List (List UInt8)
 |[]=>[[]]
 |c :: r=>if c=47 then [] :: lvl r else pre [c] (lvl r)

theorem pre_nil {ls:List (List UInt8)} (h:ls≠[]):pre [] ls=ls:=by
 cases ls with
 |nil=>exact absurd rfl h
 |cons a t=>rfl
theorem pre_pre (p q:List UInt8) (ls:List (List UInt8)):pre p (pre q ls)=pre (p++q) ls:=by cases ls<;>simp[pre]
theorem pre_ne (p:List UInt8) (ls:List (List UInt8)):pre p ls≠[]:=by cases ls<;>simp[pre]
theorem pre_length (p:List UInt8) {ls:List (List UInt8)} (h:ls≠[]):(pre p ls).length=ls.length:=by
 cases ls with
 |nil=>exact absurd rfl h
 |cons a t=>rfl
theorem lvl_nil:lvl [] = [[]]:=rfl
theorem qeh (r:List UInt8):lvl (47 :: r) = [] :: lvl r:=by simp[lvl]
theorem qeg {c:UInt8} (h:c≠47) (r:List UInt8):lvl (c :: r)=pre [c] (lvl r):=by simp[lvl,h]
theorem lvl_ne:∀l,lvl l≠[]
 |[]=>by simp[lvl]
 |c :: r=>by
  by_cases h:c=47
  ·subst h;rw[qeh];simp
  ·rw[qeg h];exact pre_ne _ _
theorem lvl_cut:∀(a r:List UInt8),(∀c∈a,c≠47)→lvl (a++47 :: r)=a :: lvl r
 |[],r,_=>by rw[List.nil_append,qeh]
 |c :: a,r,h=>by
  rw[List.cons_append,qeg (h c (by simp)),lvl_cut a r (fun x hx=>h x (by simp[hx]))];rfl
theorem qnx:∀(a:List UInt8),(∀c∈a,c≠47)→lvl a = [a]
 |[],_=>rfl
 |c :: a,h=>by
  rw[qeg (h c (by simp)),qnx a (fun x hx=>h x (by simp[hx]))];rfl

def has (l:List UInt8) (c:UInt8):Bool:=l.contains c
theorem qhf (a:UInt8) (l:List UInt8) (c:UInt8):has (a :: l) c=(c==a || has l c):=by unfold has;rw[List.contains_cons]
theorem qmf (a l:List UInt8) (c:UInt8):has (a++l) c=(has a c || has l c):=by
 induction a with
 |nil=>simp[has]
 |cons x r ih=>simp[qhf,ih,Bool.or_assoc]
def wildB (l:List UInt8):Bool:=has l 43 || has l 35
def may (x:List UInt8) (last:Bool):Bool:=if x = [43] then true else if x = [35] then last else !wildB x
def qbi:List (List UInt8)→Bool
 |[]=>true
 |[x]=>may x true
 |x :: y :: r=>may x false&&qbi (y :: r)
def levOk (l:List UInt8):Bool:=decide (l≠[])&&(okT l&&decide ((lvl l).length≤6))
def topOk (l:List UInt8):Bool:=levOk l&&!wildB l
def filOk (l:List UInt8):Bool:=levOk l&&qbi (lvl l)
theorem may_spec (x:List UInt8) (last:Bool):may x last = !((has x 43&&decide (x≠[43])) || (has x 35&&(decide (x≠[35]) || !last))):=by
 unfold may wildB
 by_cases h1:x = [43]
 ·subst h1;cases last<;>rfl
 ·rw[if_neg h1]
  by_cases h2:x = [35]
  ·subst h2;cases last<;>rfl
  ·rw[if_neg h2];simp[h1,h2]

theorem qox (x:List UInt8) (r:List (List UInt8)):qbi (x :: r)=(may x r.isEmpty&&qbi r):=by
 cases r<;>simp[qbi]
theorem qkw (ls:List (List UInt8)) (k:Nat) (hk:k<ls.length):qbi (ls.drop k)=(may (ls.getD k []) (decide (k+1=ls.length))&&qbi (ls.drop (k+1))):=by
 rw[List.drop_eq_getElem_cons hk,qox]
 congr 2
 ·simp[List.getD_eq_getElem?_getD,List.getElem?_eq_getElem hk]
 ·rw[Bool.eq_iff_iff];simp only[List.isEmpty_iff,List.drop_eq_nil_iff,decide_eq_true_eq];omega
theorem qmg (ls:List (List UInt8)) (k:Nat) (hk:ls.length≤k):qbi (ls.drop k)=true:=by
 rw[List.drop_eq_nil_of_le hk];rfl


def qdc (l:List UInt8):Bool:=match l with
 |c :: _=>c==43 || c==35
 |[]=>false

structure Pv where
 ty:Int
 dup:Bool
 qos:Int
 ret:Bool
 id:Int
 top:ByteArray
 bod:List UInt8
 cli:ByteArray
 lev:Int
 cln:Bool
 kee:Int
 hw:Bool
 wt:ByteArray
 wb:List UInt8
 wq:Int
 wr:Bool
 hu:Bool
 us:ByteArray
 hp:Bool
 pa:List UInt8
 cod:Int
 pre:Bool
 wan:List (ByteArray×Int)
 nam:List ByteArray
 cds:List Int
 deriving DecidableEq

def Pv.zero:Pv:=⟨0,false,0,false,0,ByteArray.empty,[],ByteArray.empty,0,false,0,false,ByteArray.empty,[],0,false,false,ByteArray.empty,false,[],0,false,[],[],[]⟩
def Pv.named (v:Pv):Pv :=
 if v.ty=1 then { Pv.zero with
  ty:=v.ty,lev:=v.lev,cli:=v.cli,cln:=v.cln,kee:=v.kee,hw:=v.hw
  wt:=if v.hw then v.wt else ByteArray.empty
  wb:=if v.hw then v.wb else []
  wq:=if v.hw then v.wq else 0
  wr:=if v.hw then v.wr else false
  hu:=v.hu
  us:=if v.hu then v.us else ByteArray.empty
  hp:=v.hu&&v.hp
  pa:=if v.hu&&v.hp then v.pa else [] }
 else if v.ty=2 then { Pv.zero with ty:=v.ty,cod:=v.cod,pre:=v.pre&&decide (v.cod=0) }
 else if v.ty=3 then { Pv.zero with ty:=v.ty,qos:=v.qos,ret:=v.ret,top:=v.top,bod:=v.bod,dup:=if 0<v.qos then v.dup else false,id:=if 0<v.qos then v.id else 0 }
 else if v.ty=4∨v.ty=5∨v.ty=6∨v.ty=7∨v.ty=11 then { Pv.zero with ty:=v.ty,id:=v.id }
 else if v.ty=8 then { Pv.zero with ty:=v.ty,id:=v.id,wan:=v.wan }
 else if v.ty=9 then { Pv.zero with ty:=v.ty,id:=v.id,cds:=v.cds }
 else if v.ty=10 then { Pv.zero with ty:=v.ty,id:=v.id,nam:=v.nam }
 else { Pv.zero with ty:=v.ty }
def inB (x lo hi:Int):Bool:=decide (lo≤x∧x≤hi)
def txt (s:ByteArray):Bool:=okT s.data.toList
def tpc (s:ByteArray):Bool:=topOk s.data.toList
def flt (s:ByteArray):Bool:=filOk s.data.toList
def Pv.body (v:Pv):Bool :=
 if v.ty=1 then (!v.hw || (tpc v.wt&&(decide (v.wb.length≤40)&&inB v.wq 0 2)))&&(inB v.lev 0 255&&(txt v.cli&&(inB v.kee 0 65535&&(txt v.us&&decide (v.pa.length≤60)))))
 else if v.ty=2 then inB v.cod 0 5
 else if v.ty=3 then inB v.qos 0 2&&((decide (v.qos=0) || inB v.id 1 65535)&&(tpc v.top&&decide (v.bod.length≤40)))
 else if v.ty=12∨v.ty=13∨v.ty=14 then true
 else if v.ty=8 then v.wan.all (fun x=>flt x.1&&inB x.2 0 2)&&(inB v.id 1 65535&&inB v.wan.length 1 4)
 else if v.ty=9 then v.cds.all (fun c=>inB c 0 2 || decide (c=128))&&(inB v.id 1 65535&&inB v.cds.length 1 4)
 else if v.ty=10 then v.nam.all (fun s=>flt s)&&(inB v.id 1 65535&&inB v.nam.length 1 4)
 else inB v.id 1 65535
def Pv.ok (v:Pv):Bool:=inB v.ty 1 14&&(decide (v=v.named)&&v.body)

theorem qdx {x lo hi:Int} (h1:lo≤x) (h2:x≤hi):inB x lo hi=true:=decide_eq_true ⟨h1,h2⟩
theorem qiz {x lo hi:Int} (h:x<lo):inB x lo hi=false:=decide_eq_false (fun e=>by omega)
theorem qiy {x lo hi:Int} (h:hi<x):inB x lo hi=false:=decide_eq_false (fun e=>by omega)
theorem qdn {x lo hi:Int} : inB x lo hi=true ↔ lo≤x∧x≤hi:=decide_eq_true_iff
theorem inB_not {x lo hi:Int} : inB x lo hi=false ↔ ¬(lo≤x∧x≤hi):=decide_eq_false_iff_not


theorem bel2 {w w1 w2:World} (h1:Below w.heap.size w w1) (h2:Below w1.heap.size w1 w2):Below w.heap.size w w2:=h1.trans (h2.mono h1.size)

theorem ba_eq {s:ByteArray} {l:List UInt8} (h:s.data.toList=l):s = ⟨l.toArray⟩:=by
 subst h;rfl

theorem info9:(Tryz.prog.info? 9).map (fun i=>(i.zero,i.size,i.bytes))=some (some (.string ByteArray.empty),1,16):=by kernel_rfl

def st (ss:List ByteArray) (i:Nat):ByteArray:=ss.getD i ByteArray.empty
def svals (ss:List ByteArray):List Value:=ss.map Value.string
def dats (ss:List ByteArray):List (List UInt8):=ss.map fun s=>s.data.toList

theorem qdu (ss:List ByteArray):(svals ss).length=ss.length:=by simp[svals]
theorem svals_at (ss:List ByteArray) (i:Nat) (h:i<ss.length):(svals ss)[i]? = some (.string (st ss i)):=by
 simp only[svals,st,List.getElem?_map,List.getElem?_eq_getElem h,Option.map_some,List.getD_eq_getElem?_getD,Option.getD_some]
theorem qop (ss:List ByteArray):(dats ss).length=ss.length:=by simp[dats]
theorem dats_at (ss:List ByteArray) (i:Nat) (h:i<ss.length):(dats ss).getD i []=(st ss i).data.toList:=by
 simp only[dats,st,List.getD_eq_getElem?_getD,List.getElem?_map,List.getElem?_eq_getElem h,Option.map_some,Option.getD_some]
theorem dats_inj {a b:List ByteArray} (h:dats a=dats b):a=b:=by
 apply List.map_inj_right (f:=fun s:ByteArray=>s.data.toList) (fun x y e=>?_) |>.1 h
 cases x;cases y
 simpa using e

def SRd (w:World) (ao:Option Addr) (n cap:Nat) (ss:List ByteArray):Prop :=
 (ss.length=n∧∀i,i<n→∃b off,ao=some ⟨b,off,none⟩∧w.cell? ⟨b,off+i,none⟩ = some (.string (st ss i)))∧n≤cap∧cap≤maxLen∧(ao=none→cap=0)

theorem SRd.nil (w:World):SRd w none 0 0 []:=⟨⟨rfl,fun i hi=>by omega⟩,Nat.le_refl _,Nat.zero_le _,fun _=>rfl⟩

theorem SRd.of_cells {w:World} {x:Addr} {len cap m:Nat} {Sx:Nat→ByteArray} (hl:len≤cap) (hm:cap≤maxLen) (hlm:len≤m)
  (hcell:∀i,i<m→w.cell? (x.add i)=some (.string (Sx i))∧(Sx i).size≤maxLen):∃ss,SRd w (some x) len cap ss∧∀s∈ss,s.size≤maxLen:=by
 refine⟨(List.range len).map Sx,⟨⟨by simp,fun i hi=>?_⟩,hl,hm,fun h=>by simp at h⟩,fun s hs=>?_⟩
 ·obtain⟨b,off,spot⟩:=x;have hc0:=(hcell 0 (by omega)).1;have hspot:spot=none:=by simpa[Addr.add] using World.cell?_spot hc0
  subst hspot;refine⟨b,off,rfl,?_⟩;have hc:=(hcell i (by omega)).1;rw[Addr.add_lit] at hc;rw[hc];simp[st,List.getD_eq_getElem?_getD,List.getElem?_map,List.getElem?_range hi]
 ·simp only[List.mem_map,List.mem_range] at hs;obtain⟨i,hi,rfl⟩:=hs;exact (hcell i (by omega)).2

def SOwn (w:World) (B:Nat) (ao:Option Addr) (n cap:Nat) (ss:List ByteArray):Prop:=ss.length=n∧w.ownsRow B 9 1 (.slice ao n cap) n (svals ss)

theorem SOwn.rd {w:World} {B:Nat} {ao:Option Addr} {n cap:Nat} {ss:List ByteArray} (h:SOwn w B ao n cap ss):SRd w ao n cap ss:=by
 obtain⟨hl,h1,h2⟩:=h
 rcases h2 with ⟨e,rfl⟩ | ⟨g,c,cur,e,hb,hg,hc,hm,hs,ht⟩
 ·simp only[Value.slice.injEq] at e;obtain⟨rfl,_,rfl⟩:=e;exact⟨⟨hl,fun i hi=>by omega⟩,Nat.le_refl _,Nat.zero_le _,fun _=>rfl⟩
 ·simp only[Value.slice.injEq] at e;obtain⟨rfl,_,rfl⟩:=e;refine⟨⟨hl,fun i hi=>⟨g,0,rfl,?_⟩⟩,hc,hm,fun h=>by simp at h⟩;have own:w.ownsRow B 9 1 (.slice (some ⟨g,0,none⟩) n cap) n (svals ss):=⟨h1,.inr ⟨g,cap,cur,rfl,hb,hg,hc,hm,hs,ht⟩⟩;rw[Nat.zero_add,own.cellAt i (by omega),svals_at ss i (by omega)]
theorem SOwn.block {w:World} {B:Nat} {ao:Option Addr} {n cap:Nat} {ss:List ByteArray} (h:SOwn w B ao n cap ss) {a:Addr} (e:ao=some a):B≤a.block∧a.block<w.heap.size:=by
 subst e;exact h.2.lt _ rfl
theorem SRd.below {w w':World} {ao:Option Addr} {n cap:Nat} {ss:List ByteArray} (h:SRd w ao n cap ss) (hb:Below w.heap.size w w'):SRd w' ao n cap ss:=by
 refine⟨⟨h.1.1,fun i hi=>?_⟩,h.2⟩;obtain⟨b,off,e,hc⟩:=h.1.2 i hi;exact⟨b,off,e,(hb.cell (World.block_lt_of_cell? w _ hc)).trans hc⟩
theorem SOwn.below {w w':World} {B:Nat} {ao:Option Addr} {n cap:Nat} {ss:List ByteArray} (h:SOwn w B ao n cap ss) (hb:Below w.heap.size w w'):SOwn w' B ao n cap ss:=by
 refine⟨h.1,h.2.1,?_⟩
 rcases h.2.2 with hn | ⟨g,c,cur,e,hB,hg,rest⟩
 ·exact .inl hn
 ·exact .inr ⟨g,c,cur,e,hB,by rw[hb.block g (Array.getElem?_eq_some_iff.1 hg).1];exact hg,rest⟩
theorem SOwn.mono {w:World} {B B':Nat} {ao:Option Addr} {n cap:Nat} {ss:List ByteArray} (h:SOwn w B ao n cap ss) (hB:B'≤B):SOwn w B' ao n cap ss:=by
 refine⟨h.1,h.2.1,?_⟩
 rcases h.2.2 with hn | ⟨g,c,cur,e,hb,rest⟩
 ·exact .inl hn
 ·exact .inr ⟨g,c,cur,e,by omega,rest⟩
theorem SRd.grown {w w':World} {ao:Option Addr} {n cap:Nat} {ss:List ByteArray} {row:Option Nat} (h:SRd w ao n cap ss) (hg:w.grownBy w' row) (hne:∀a,ao=some a→some a.block≠row):SRd w' ao n cap ss:=by
 refine⟨⟨h.1.1,fun i hi=>?_⟩,h.2⟩;obtain⟨b,off,e,hc⟩:=h.1.2 i hi;exact⟨b,off,e,hg.cell hc (show some b≠row from hne ⟨b,off,none⟩ e)⟩
theorem SOwn.grown {w w':World} {B:Nat} {ao:Option Addr} {n cap:Nat} {ss:List ByteArray} {row:Option Nat} (h:SOwn w B ao n cap ss) (hg:w.grownBy w' row) (hne:∀a,ao=some a→some a.block≠row):SOwn w' B ao n cap ss:=by
 refine⟨h.1,h.2.kept hg ?_⟩;cases ao with
 |none=>exact .inl rfl
 |some a=>exact .inr (hne a rfl)
theorem SOwn.frozen {w:World} {B:Nat} {g n cap:Nat} {ss:List ByteArray} (h:SOwn w B (some ⟨g,0,none⟩) n cap ss) (j:Nat):w.frozen? ⟨g,j,none⟩ = false:=h.2.frozenAt j
theorem SOwn.cell {w:World} {B:Nat} {g n cap:Nat} {ss:List ByteArray} (h:SOwn w B (some ⟨g,0,none⟩) n cap ss) (j:Nat) (hj:j<n):w.cell? ⟨g,j,none⟩ = some (.string (st ss j)):=by
 rw[h.2.cellAt j (by omega),svals_at ss j (by rw[h.1];exact hj)]
theorem SOwn.head {w:World} {B:Nat} {ao:Option Addr} {n cap:Nat} {ss:List ByteArray} (h:SOwn w B ao n cap ss) (hn:0<n):∃g,ao=some ⟨g,0,none⟩:=by
 rcases h.2.2 with ⟨_,h0⟩ | ⟨g,c,cur,e,_⟩
 ·omega
 ·simp only[Value.slice.injEq] at e;exact⟨g,e.1⟩
theorem SOwn.store {w:World} {B:Nat} {g n cap:Nat} {ss:List ByteArray} (h:SOwn w B (some ⟨g,0,none⟩) n cap ss) (j:Nat) (u:ByteArray) :
  SOwn (w.setCell ⟨g,j,none⟩ (.string u)) B (some ⟨g,0,none⟩) n cap (ss.set j u):=by
 refine⟨by simpa using h.1,?_⟩;have:=(h.2.stored j (.string u)).1;have e:(svals ss).set j (.string u)=svals (ss.set j u):=by simp[svals,List.map_set]
 rw[e] at this;exact this
theorem sown_open {w:World} {B:Nat} {v:Value} {n:Nat} {ss:List ByteArray} (hl:ss.length=n) (h:w.ownsRow B 9 1 v n (svals ss)):∃ao cap,v=.slice ao n cap∧SOwn w B ao n cap ss:=by
 rcases h.2 with ⟨rfl,rfl⟩ | ⟨g,c,cur,rfl,_⟩
 ·exact⟨none,0,rfl,hl,h⟩
 ·exact⟨_,_,rfl,hl,h⟩

theorem w_sapp {ops:Array Oper} {rest:List Oper} {o:Oper} {a:Act} {Q:Exit→Act→World→Prop} (w:World) (hgd:o.guard=none) (s x:Operand)
  (ho:o.op=.call { callee:=.builtin .append,args:=#[s,x],argTypes:=#[24,24] })
  (B:Nat) (ao:Option Addr) (n cap:Nat) (ss:List ByteArray) (hs:a.eval s=.slice ao n cap) (hown:SOwn w B ao n cap ss)
  (ad:Nat) (u:ByteArray) (hx:a.eval x=.slice (some ⟨ad,0,none⟩) 1 1) (hc:w.cell? ⟨ad,0,none⟩ = some (.string u)) (hb:n<1099511627776) (hB:B≤w.heap.size)
  (h:∀ao' cap' w',SOwn w' B ao' (n+1) cap' (ss++[u])→w.grownBy w' (Value.slice ao n cap).ownBlock→wpList Tryz.prog ops Q rest (a.put o.dst (.slice ao' (n+1) cap')) w') :
  wpList Tryz.prog ops Q (o :: rest) a w:=by
 obtain⟨i0,hi,hz0,hz1,hz2⟩:=info_parts info9;have hlen:(ss++[u]).length=n+1:=by rw[List.length_append,hown.1];rfl
 refine wpList_append_own w hgd s x 24 ho B 9 i0 (.string ByteArray.empty) 1 16 Tryz.underlying24 hi hz0 hz1 hz2 rfl (by decide) (.slice ao n cap) n (svals ss) hs hown.2 ⟨ad,0,none⟩ 1 1 [.string u] hx rfl ?_ (by intro v hv;simp at hv;subst hv;rfl) (by unfold maxLen;omega) (by omega) hB ?_
 ·intro j v hv
  match j,hv with
  |0,hv=>
   simp at hv;subst hv;exact hc
 ·intro v' w' hv hg _;have e:svals ss++[.string u]=svals (ss++[u]):=by simp[svals]
  rw[e] at hv;obtain⟨ao',cap',rfl,hown'⟩:=sown_open hlen hv;exact h ao' cap' w' hown' hg

theorem w_smaken {ops:Array Oper} {rest:List Oper} {o:Oper} {a:Act} {Q:Exit→Act→World→Prop} (w:World) (hgd:o.guard=none) (l c:Operand) (hop:o.op=Op.makeSlice 24 l c)
  (C:Int) (n:Nat) (hl:a.eval l=.int .i64 C) (hc:a.eval c=.int .i64 C) (hC:C=(n:Int)) (hb:n≤1099511627776)
  (h:∀w',SOwn w' w.heap.size (some ⟨w.heap.size,0,none⟩) n n (List.replicate n ByteArray.empty)→Below w.heap.size w w'→wpList Tryz.prog ops Q rest (a.put o.dst (.slice (some ⟨w.heap.size,0,none⟩) n n)) w') :
  wpList Tryz.prog ops Q (o :: rest) a w:=by
 obtain⟨i0,hi,hz0,hz1,hz2⟩:=info_parts info9;refine wpList_make_full w hgd l c 24 hop w.heap.size 9 i0 (.string ByteArray.empty) 1 Tryz.underlying24 hi hz0 hz1 .i64 .i64 C C n hl hc hC hC (by rw[hz2];omega) (by unfold maxLen;omega) (Nat.le_refl _) ?_;intro w' hown hg;refine h w' ⟨by simp,?_⟩ ((Below.refl _ _).grown hg (Nat.le_refl _) (fun k hk=>by cases hk));have e:(madeCells (Value.string ByteArray.empty).cells (n*1)).toList=svals (List.replicate n ByteArray.empty):=by
  rw[Nat.mul_one];show (madeCells #[Value.string ByteArray.empty] n).toList=_;rw[toList_madeCells_one];simp[svals]
 rw[e] at hown;exact hown

theorem sset_take (l:List ByteArray) (n k:Nat) (hl:l.length=n) (hk:k<n):(l.take k++List.replicate (n-k) ByteArray.empty).set k (st l k)=l.take (k+1)++List.replicate (n-(k+1)) ByteArray.empty:=by
 rw[List.set_append_right _ _ (by simp;omega)];rw[List.length_take,hl,Nat.min_eq_left (by omega),Nat.sub_self];rw[show n-k=(n-(k+1))+1 from by omega,List.replicate_succ,List.set_cons_zero];rw[List.take_succ_eq_append_getElem (by omega)];have e:st l k=l[k]'(by omega):=by simp[st,List.getD_eq_getElem?_getD,List.getElem?_eq_getElem (show k<l.length by omega)]
 rw[e,List.append_assoc];rfl

theorem qnm (ao:Option Addr) (n cap:Nat) (l:List ByteArray) (w:World) (hr:SRd w ao n cap l) (hn:n≤1099511627776) :
  Calls Tryz.prog 32 #[.slice ao n cap] w fun e w'=>e=.returned (.slice (some ⟨w.heap.size,0,none⟩) n n)∧SOwn w' w.heap.size (some ⟨w.heap.size,0,none⟩) n n l∧Below w.heap.size w w':=by
 have hl:=hr.1.1;have HL:Hid (l.length=n):=hl;clear hl;go_enter Tryz.func32,Tryz.ntmps32;go_wp2_with (at_make;refine w_smaken _ rfl _ _ rfl _ n rfl rfl rfl (by omega) ?_)
 intro w1 hown hb1;go_wp2
 go_loopw [4] (fun i wr=>∃k:Nat,i=.int .i64 k∧k≤n∧SOwn wr w.heap.size (some ⟨w.heap.size,0,none⟩) n n (l.take k++List.replicate (n-k) ByteArray.empty)∧Below w.heap.size w wr) (fun i _=>n-(intOf i).toNat)
 case atStart=>exact⟨0,rfl,Nat.zero_le _,by simpa using hown,hb1⟩
 case round=>
  obtain⟨k,rfl,hk,ho,hb⟩:=hrel;clear hown hb1
  by_cases hlt:k<n
  ·obtain⟨b,off,e,hc⟩:=hr.1.2 k hlt;subst e;have hck:wr.cell? ⟨b,off+k,none⟩ = some (.string (st l k)):=(hb.cell (World.block_lt_of_cell? w _ hc)).trans hc;have hlt':(k:Int)<n:=by omega
   have hz:=ho.cell k hlt;have hf:=ho.frozen k;have HO:=ho.store k (st l k);rw[sset_take l n k HL.out hlt] at HO;have HO':Hid (SOwn (wr.setCell ⟨w.heap.size,k,none⟩ (.string (st l k))) w.heap.size (some ⟨w.heap.size,0,none⟩) n n (l.take (k+1)++List.replicate (n-(k+1)) ByteArray.empty)):=HO;clear HO hc ho;go_wp2;go_roundw
   case rel=>exact⟨k+1,by go_num,by omega,HO'.out,hb.setCell (Nat.le_refl _) _⟩
   case measure=>simp[intOf];omega
  ·have hlt':¬(k:Int)<n:=by omega
   obtain rfl:k=n:=by omega
   go_wp2;go_ret;refine⟨rfl,?_,hb⟩;have:=HL.out;rw[Nat.sub_self,List.take_of_length_le (by omega)] at ho
   simpa using ho

theorem qcz (s:ByteArray):(s.toList != s.toList)=false:=by simp

theorem qmu (ao a1:Option Addr) (n cap cap1:Nat) (l:List ByteArray) (w:World) (hr:SRd w ao n cap l) (h1:SRd w a1 n cap1 l) (hn:n≤1099511627776) :
  Calls Tryz.prog 40 #[.slice ao n cap,.slice a1 n cap1] w fun e w'=>e=.returned (.bool true)∧Below w.heap.size w w':=by
 have hne:((n:Int) != n)=false:=by simp
 go_enter Tryz.func40,Tryz.ntmps40;go_wp2
 go_loopw [5] (fun i wr=>∃k:Nat,i=.int .i64 k∧k≤n∧Below w.heap.size w wr) (fun i _=>n-(intOf i).toNat)
 case atStart=>exact⟨0,rfl,Nat.zero_le _,Below.refl _ _⟩
 case round=>
  obtain⟨k,rfl,hk,hb⟩:=hrel
  by_cases hlt:k<n
  ·obtain⟨b,off,e,hc⟩:=hr.1.2 k hlt;subst e;obtain⟨b1,off1,e1,hc1⟩:=h1.1.2 k hlt;subst e1;have hck:wr.cell? ⟨b,off+k,none⟩ = some (.string (st l k)):=(hb.cell (World.block_lt_of_cell? w _ hc)).trans hc;have hck1:wr.cell? ⟨b1,off1+k,none⟩ = some (.string (st l k)):=(hb.cell (World.block_lt_of_cell? w _ hc1)).trans hc1;have hlt':(k:Int)<n:=by omega
   have k0:(0:Int)≤k:=by omega
   have hbn:=qcz (st l k);clear hc hc1;go_wp2
   go_quiet (fail)
   go_wp2;go_roundw
   case rel=>exact⟨k+1,by go_num,by omega,below_drewN hb _⟩
   case measure=>simp[intOf];omega
  ·have hlt':¬(k:Int)<n:=by omega
   go_wp2;go_ret;exact⟨rfl,hb⟩


def tot (ss:List ByteArray):Nat:=(ss.map ByteArray.size).sum
theorem tot_take (ss:List ByteArray) (k:Nat) (h:k<ss.length):tot (ss.take (k+1))=tot (ss.take k)+(st ss k).size:=by
 have e:st ss k=ss[k]'h:=by simp[st,List.getD_eq_getElem?_getD,List.getElem?_eq_getElem h]
 rw[List.take_succ_eq_append_getElem h,e];simp only[tot,List.map_append,List.map_cons,List.map_nil,List.sum_append,List.sum_cons,List.sum_nil,Nat.add_zero]
theorem qmn {ss:List ByteArray} {k:Nat} (h:k<ss.length):st ss k∈ss:=by
 have e:st ss k=ss[k]'h:=by simp[st,List.getD_eq_getElem?_getD,List.getElem?_eq_getElem h]
 rw[e];exact List.getElem_mem h

