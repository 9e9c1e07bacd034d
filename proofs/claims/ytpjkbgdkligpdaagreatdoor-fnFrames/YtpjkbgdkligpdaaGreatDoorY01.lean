/- Lemmas. -/
import Derived.Lib.DecodeN
import Derived.Test.YtpjkbgdkligpdaaGreatDoorRows
import Derived.WalkKit
import Derived.WalkSpells
import Derived.WalkLawsBesides
import Derived.Laws.RangeString
import Derived.Laws.RangeAny
import Derived.Lib.Strings
import Derived.Deep.QuietTactic
import Derived.BigQuiet
import Derived.Lib.AppendStr
import Derived.Laws.AppendOwnNone
import Derived.Shelf.Small.Utf8
import Derived.Shelf.Small.Strs
import Derived.Shelf.LaysM
import Derived.Shelf.Strconv.Clone
import Derived.Shelf.Strings.Search3
import Derived.Shelf.Strings.Count
import Derived.Shelf.Strings.Split
import Derived.Shelf.Strings.IndexAnyAll
import Derived.Test.YtpjkbgdkligpdaaGreatDoorProg
import Derived.Shelf.Strings.BuilderX
import Derived.Lib.Builder
import Derived.Lib.UnsafeStr
import Derived.Laws.Externs
import Derived.Lib.SplitLaws
import Derived.Below
set_option linter.all false
set_option maxRecDepth 100000
set_option maxHeartbeats 20000000
namespace Go.Proofs.YtpjkbgdkligpdaaGreatDoor
abbrev Fq43 {a0 b0 c0 d0 e0 f0 g0 h0 i0 j0 k0 l0 m0 n0 o0 p0 a1 b1 c1 d1 e1 f1 g1 h1 i1 j1 k1 l1 m1 n1 o1 p1 a2 b2 c2 d2 e2 f2 g2 h2 i2 j2 k2:Value} : Act:=.mk #[a0,b0,c0,d0,e0,f0,g0,h0,i0,j0,k0,l0,m0,n0,o0,p0,a1,b1,c1,d1,e1,f1,g1,h1,i1,j1,k1,l1,m1,n1,o1,p1,a2,b2,c2,d2,e2,f2,g2,h2,i2,j2,k2] []
abbrev Fq67 {a0 b0 c0 d0 e0 f0 g0 h0 i0 j0 k0 l0 m0 n0 o0 p0 a1 b1 c1 d1 e1 f1 g1 h1 i1 j1 k1 l1 m1 n1 o1 p1 a2 b2 c2 d2 e2 f2 g2 h2 i2 j2 k2 l2 m2 n2 o2 p2 a3 b3 c3 d3 e3 f3 g3 h3 i3 j3 k3 l3 m3 n3 o3 p3 a4 b4 c4:Value} : Act:=.mk #[a0,b0,c0,d0,e0,f0,g0,h0,i0,j0,k0,l0,m0,n0,o0,p0,a1,b1,c1,d1,e1,f1,g1,h1,i1,j1,k1,l1,m1,n1,o1,p1,a2,b2,c2,d2,e2,f2,g2,h2,i2,j2,k2,l2,m2,n2,o2,p2,a3,b3,c3,d3,e3,f3,g3,h3,i3,j3,k3,l3,m3,n3,o3,p3,a4,b4,c4] []
abbrev Fq44 {a0 b0 c0 d0 e0 f0 g0 h0 i0 j0 k0 l0 m0 n0 o0 p0 a1 b1 c1 d1 e1 f1 g1 h1 i1 j1 k1 l1 m1 n1 o1 p1 a2 b2 c2 d2 e2 f2 g2 h2 i2 j2 k2 l2:Value} : Act:=.mk #[a0,b0,c0,d0,e0,f0,g0,h0,i0,j0,k0,l0,m0,n0,o0,p0,a1,b1,c1,d1,e1,f1,g1,h1,i1,j1,k1,l1,m1,n1,o1,p1,a2,b2,c2,d2,e2,f2,g2,h2,i2,j2,k2,l2] []
abbrev Fq27 {a0 b0 c0 d0 e0 f0 g0 h0 i0 j0 k0 l0 m0 n0 o0 p0 a1 b1 c1 d1 e1 f1 g1 h1 i1 j1 k1:Value} : Act:=.mk #[a0,b0,c0,d0,e0,f0,g0,h0,i0,j0,k0,l0,m0,n0,o0,p0,a1,b1,c1,d1,e1,f1,g1,h1,i1,j1,k1] []
abbrev Fq63 {a0 b0 c0 d0 e0 f0 g0 h0 i0 j0 k0 l0 m0 n0 o0 p0 a1 b1 c1 d1 e1 f1 g1 h1 i1 j1 k1 l1 m1 n1 o1 p1 a2 b2 c2 d2 e2 f2 g2 h2 i2 j2 k2 l2 m2 n2 o2 p2 a3 b3 c3 d3 e3 f3 g3 h3 i3 j3 k3 l3 m3 n3 o3:Value} : Act:=.mk #[a0,b0,c0,d0,e0,f0,g0,h0,i0,j0,k0,l0,m0,n0,o0,p0,a1,b1,c1,d1,e1,f1,g1,h1,i1,j1,k1,l1,m1,n1,o1,p1,a2,b2,c2,d2,e2,f2,g2,h2,i2,j2,k2,l2,m2,n2,o2,p2,a3,b3,c3,d3,e3,f3,g3,h3,i3,j3,k3,l3,m3,n3,o3] []
abbrev Fq23 {a0 b0 c0 d0 e0 f0 g0 h0 i0 j0 k0 l0 m0 n0 o0 p0 a1 b1 c1 d1 e1 f1 g1:Value} : Act:=.mk #[a0,b0,c0,d0,e0,f0,g0,h0,i0,j0,k0,l0,m0,n0,o0,p0,a1,b1,c1,d1,e1,f1,g1] []
abbrev Fq186 {a0 b0 c0 d0 e0 f0 g0 h0 i0 j0 k0 l0 m0 n0 o0 p0 a1 b1 c1 d1 e1 f1 g1 h1 i1 j1 k1 l1 m1 n1 o1 p1 a2 b2 c2 d2 e2 f2 g2 h2 i2 j2 k2 l2 m2 n2 o2 p2 a3 b3 c3 d3 e3 f3 g3 h3 i3 j3 k3 l3 m3 n3 o3 p3 a4 b4 c4 d4 e4 f4 g4 h4 i4 j4 k4 l4 m4 n4 o4 p4 a5 b5 c5 d5 e5 f5 g5 h5 i5 j5 k5 l5 m5 n5 o5 p5 a6 b6 c6 d6 e6 f6 g6 h6 i6 j6 k6 l6 m6 n6 o6 p6 a7 b7 c7 d7 e7 f7 g7 h7 i7 j7 k7 l7 m7 n7 o7 p7 a8 b8 c8 d8 e8 f8 g8 h8 i8 j8 k8 l8 m8 n8 o8 p8 a9 b9 c9 d9 e9 f9 g9 h9 i9 j9 k9 l9 m9 n9 o9 p9 a10 b10 c10 d10 e10 f10 g10 h10 i10 j10 k10 l10 m10 n10 o10 p10 a11 b11 c11 d11 e11 f11 g11 h11 i11 j11:Value} : Act:=.mk #[a0,b0,c0,d0,e0,f0,g0,h0,i0,j0,k0,l0,m0,n0,o0,p0,a1,b1,c1,d1,e1,f1,g1,h1,i1,j1,k1,l1,m1,n1,o1,p1,a2,b2,c2,d2,e2,f2,g2,h2,i2,j2,k2,l2,m2,n2,o2,p2,a3,b3,c3,d3,e3,f3,g3,h3,i3,j3,k3,l3,m3,n3,o3,p3,a4,b4,c4,d4,e4,f4,g4,h4,i4,j4,k4,l4,m4,n4,o4,p4,a5,b5,c5,d5,e5,f5,g5,h5,i5,j5,k5,l5,m5,n5,o5,p5,a6,b6,c6,d6,e6,f6,g6,h6,i6,j6,k6,l6,m6,n6,o6,p6,a7,b7,c7,d7,e7,f7,g7,h7,i7,j7,k7,l7,m7,n7,o7,p7,a8,b8,c8,d8,e8,f8,g8,h8,i8,j8,k8,l8,m8,n8,o8,p8,a9,b9,c9,d9,e9,f9,g9,h9,i9,j9,k9,l9,m9,n9,o9,p9,a10,b10,c10,d10,e10,f10,g10,h10,i10,j10,k10,l10,m10,n10,o10,p10,a11,b11,c11,d11,e11,f11,g11,h11,i11,j11] []
abbrev Fq120 {a0 b0 c0 d0 e0 f0 g0 h0 i0 j0 k0 l0 m0 n0 o0 p0 a1 b1 c1 d1 e1 f1 g1 h1 i1 j1 k1 l1 m1 n1 o1 p1 a2 b2 c2 d2 e2 f2 g2 h2 i2 j2 k2 l2 m2 n2 o2 p2 a3 b3 c3 d3 e3 f3 g3 h3 i3 j3 k3 l3 m3 n3 o3 p3 a4 b4 c4 d4 e4 f4 g4 h4 i4 j4 k4 l4 m4 n4 o4 p4 a5 b5 c5 d5 e5 f5 g5 h5 i5 j5 k5 l5 m5 n5 o5 p5 a6 b6 c6 d6 e6 f6 g6 h6 i6 j6 k6 l6 m6 n6 o6 p6 a7 b7 c7 d7 e7 f7 g7 h7:Value} : Act:=.mk #[a0,b0,c0,d0,e0,f0,g0,h0,i0,j0,k0,l0,m0,n0,o0,p0,a1,b1,c1,d1,e1,f1,g1,h1,i1,j1,k1,l1,m1,n1,o1,p1,a2,b2,c2,d2,e2,f2,g2,h2,i2,j2,k2,l2,m2,n2,o2,p2,a3,b3,c3,d3,e3,f3,g3,h3,i3,j3,k3,l3,m3,n3,o3,p3,a4,b4,c4,d4,e4,f4,g4,h4,i4,j4,k4,l4,m4,n4,o4,p4,a5,b5,c5,d5,e5,f5,g5,h5,i5,j5,k5,l5,m5,n5,o5,p5,a6,b6,c6,d6,e6,f6,g6,h6,i6,j6,k6,l6,m6,n6,o6,p6,a7,b7,c7,d7,e7,f7,g7,h7] []
abbrev Fq204 {a0 b0 c0 d0 e0 f0 g0 h0 i0 j0 k0 l0 m0 n0 o0 p0 a1 b1 c1 d1 e1 f1 g1 h1 i1 j1 k1 l1 m1 n1 o1 p1 a2 b2 c2 d2 e2 f2 g2 h2 i2 j2 k2 l2 m2 n2 o2 p2 a3 b3 c3 d3 e3 f3 g3 h3 i3 j3 k3 l3 m3 n3 o3 p3 a4 b4 c4 d4 e4 f4 g4 h4 i4 j4 k4 l4 m4 n4 o4 p4 a5 b5 c5 d5 e5 f5 g5 h5 i5 j5 k5 l5 m5 n5 o5 p5 a6 b6 c6 d6 e6 f6 g6 h6 i6 j6 k6 l6 m6 n6 o6 p6 a7 b7 c7 d7 e7 f7 g7 h7 i7 j7 k7 l7 m7 n7 o7 p7 a8 b8 c8 d8 e8 f8 g8 h8 i8 j8 k8 l8 m8 n8 o8 p8 a9 b9 c9 d9 e9 f9 g9 h9 i9 j9 k9 l9 m9 n9 o9 p9 a10 b10 c10 d10 e10 f10 g10 h10 i10 j10 k10 l10 m10 n10 o10 p10 a11 b11 c11 d11 e11 f11 g11 h11 i11 j11 k11 l11 m11 n11 o11 p11 a12 b12 c12 d12 e12 f12 g12 h12 i12 j12 k12 l12:Value} : Act:=.mk #[a0,b0,c0,d0,e0,f0,g0,h0,i0,j0,k0,l0,m0,n0,o0,p0,a1,b1,c1,d1,e1,f1,g1,h1,i1,j1,k1,l1,m1,n1,o1,p1,a2,b2,c2,d2,e2,f2,g2,h2,i2,j2,k2,l2,m2,n2,o2,p2,a3,b3,c3,d3,e3,f3,g3,h3,i3,j3,k3,l3,m3,n3,o3,p3,a4,b4,c4,d4,e4,f4,g4,h4,i4,j4,k4,l4,m4,n4,o4,p4,a5,b5,c5,d5,e5,f5,g5,h5,i5,j5,k5,l5,m5,n5,o5,p5,a6,b6,c6,d6,e6,f6,g6,h6,i6,j6,k6,l6,m6,n6,o6,p6,a7,b7,c7,d7,e7,f7,g7,h7,i7,j7,k7,l7,m7,n7,o7,p7,a8,b8,c8,d8,e8,f8,g8,h8,i8,j8,k8,l8,m8,n8,o8,p8,a9,b9,c9,d9,e9,f9,g9,h9,i9,j9,k9,l9,m9,n9,o9,p9,a10,b10,c10,d10,e10,f10,g10,h10,i10,j10,k10,l10,m10,n10,o10,p10,a11,b11,c11,d11,e11,f11,g11,h11,i11,j11,k11,l11,m11,n11,o11,p11,a12,b12,c12,d12,e12,f12,g12,h12,i12,j12,k12,l12] []
abbrev Fq70 {a0 b0 c0 d0 e0 f0 g0 h0 i0 j0 k0 l0 m0 n0 o0 p0 a1 b1 c1 d1 e1 f1 g1 h1 i1 j1 k1 l1 m1 n1 o1 p1 a2 b2 c2 d2 e2 f2 g2 h2 i2 j2 k2 l2 m2 n2 o2 p2 a3 b3 c3 d3 e3 f3 g3 h3 i3 j3 k3 l3 m3 n3 o3 p3 a4 b4 c4 d4 e4 f4:Value} : Act:=.mk #[a0,b0,c0,d0,e0,f0,g0,h0,i0,j0,k0,l0,m0,n0,o0,p0,a1,b1,c1,d1,e1,f1,g1,h1,i1,j1,k1,l1,m1,n1,o1,p1,a2,b2,c2,d2,e2,f2,g2,h2,i2,j2,k2,l2,m2,n2,o2,p2,a3,b3,c3,d3,e3,f3,g3,h3,i3,j3,k3,l3,m3,n3,o3,p3,a4,b4,c4,d4,e4,f4] []
abbrev Fq9 {a0 b0 c0 d0 e0 f0 g0 h0 i0:Value} : Act:=.mk #[a0,b0,c0,d0,e0,f0,g0,h0,i0] []
abbrev Fq164 {a0 b0 c0 d0 e0 f0 g0 h0 i0 j0 k0 l0 m0 n0 o0 p0 a1 b1 c1 d1 e1 f1 g1 h1 i1 j1 k1 l1 m1 n1 o1 p1 a2 b2 c2 d2 e2 f2 g2 h2 i2 j2 k2 l2 m2 n2 o2 p2 a3 b3 c3 d3 e3 f3 g3 h3 i3 j3 k3 l3 m3 n3 o3 p3 a4 b4 c4 d4 e4 f4 g4 h4 i4 j4 k4 l4 m4 n4 o4 p4 a5 b5 c5 d5 e5 f5 g5 h5 i5 j5 k5 l5 m5 n5 o5 p5 a6 b6 c6 d6 e6 f6 g6 h6 i6 j6 k6 l6 m6 n6 o6 p6 a7 b7 c7 d7 e7 f7 g7 h7 i7 j7 k7 l7 m7 n7 o7 p7 a8 b8 c8 d8 e8 f8 g8 h8 i8 j8 k8 l8 m8 n8 o8 p8 a9 b9 c9 d9 e9 f9 g9 h9 i9 j9 k9 l9 m9 n9 o9 p9 a10 b10 c10 d10:Value} : Act:=.mk #[a0,b0,c0,d0,e0,f0,g0,h0,i0,j0,k0,l0,m0,n0,o0,p0,a1,b1,c1,d1,e1,f1,g1,h1,i1,j1,k1,l1,m1,n1,o1,p1,a2,b2,c2,d2,e2,f2,g2,h2,i2,j2,k2,l2,m2,n2,o2,p2,a3,b3,c3,d3,e3,f3,g3,h3,i3,j3,k3,l3,m3,n3,o3,p3,a4,b4,c4,d4,e4,f4,g4,h4,i4,j4,k4,l4,m4,n4,o4,p4,a5,b5,c5,d5,e5,f5,g5,h5,i5,j5,k5,l5,m5,n5,o5,p5,a6,b6,c6,d6,e6,f6,g6,h6,i6,j6,k6,l6,m6,n6,o6,p6,a7,b7,c7,d7,e7,f7,g7,h7,i7,j7,k7,l7,m7,n7,o7,p7,a8,b8,c8,d8,e8,f8,g8,h8,i8,j8,k8,l8,m8,n8,o8,p8,a9,b9,c9,d9,e9,f9,g9,h9,i9,j9,k9,l9,m9,n9,o9,p9,a10,b10,c10,d10] []
abbrev Fq74 {a0 b0 c0 d0 e0 f0 g0 h0 i0 j0 k0 l0 m0 n0 o0 p0 a1 b1 c1 d1 e1 f1 g1 h1 i1 j1 k1 l1 m1 n1 o1 p1 a2 b2 c2 d2 e2 f2 g2 h2 i2 j2 k2 l2 m2 n2 o2 p2 a3 b3 c3 d3 e3 f3 g3 h3 i3 j3 k3 l3 m3 n3 o3 p3 a4 b4 c4 d4 e4 f4 g4 h4 i4 j4:Value} : Act:=.mk #[a0,b0,c0,d0,e0,f0,g0,h0,i0,j0,k0,l0,m0,n0,o0,p0,a1,b1,c1,d1,e1,f1,g1,h1,i1,j1,k1,l1,m1,n1,o1,p1,a2,b2,c2,d2,e2,f2,g2,h2,i2,j2,k2,l2,m2,n2,o2,p2,a3,b3,c3,d3,e3,f3,g3,h3,i3,j3,k3,l3,m3,n3,o3,p3,a4,b4,c4,d4,e4,f4,g4,h4,i4,j4] []
theorem qzff {P:Prop} (h:true=false):P:=by cases h
theorem qzqq {a:Act} {d:Option Tmp} {v:Value} {w:World} {G:Value→Prop} (h:G v):∃v',a.put d v=a.put d v'∧RowKit.Below w.heap.size w w∧G v':=⟨_,rfl,RowKit.Below.refl _ _,h⟩

def rune4 (n b0 b1 b2 b3:Nat):Option (Nat×Nat) :=
 if b0<128 then some (b0,1)
 else if b0<192 then none
 else if b0<224 then
  (if 1<n∧(128≤b1∧b1≤191)∧128≤b0%32*64+b1%64 then some (b0%32*64+b1%64,2) else none)
 else if b0<240 then
  (if 2<n∧(128≤b1∧b1≤191)∧(128≤b2∧b2≤191)∧2048≤b0%16*4096+b1%64*64+b2%64∧¬(55296≤b0%16*4096+b1%64*64+b2%64∧b0%16*4096+b1%64*64+b2%64≤57343)
   then some (b0%16*4096+b1%64*64+b2%64,3) else none)
 else if b0<248 then
  (if 3<n∧(128≤b1∧b1≤191)∧(128≤b2∧b2≤191)∧(128≤b3∧b3≤191)∧65536≤b0%8*262144+b1%64*4096+b2%64*64+b3%64∧b0%8*262144+b1%64*4096+b2%64*64+b3%64≤1114111
   then some (b0%8*262144+b1%64*4096+b2%64*64+b3%64,4) else none)
 else none

def bt (l:List UInt8) (i:Nat):Nat:=(l.getD i 0).toNat

theorem bt_lt (l:List UInt8) (i:Nat):bt l i<256:=(l.getD i 0).toNat_lt

def runeL (l:List UInt8):Option (Nat×Nat):=if l.length=0 then none else rune4 l.length (bt l 0) (bt l 1) (bt l 2) (bt l 3)

theorem qfr (l:List UInt8) (p k:Nat):bt (l.drop p) k=bt l (p+k):=by
 simp[bt,List.getD_eq_getElem?_getD]

theorem qvo {n b0 b1 b2 b3 r k:Nat} (hn:0<n) (h:rune4 n b0 b1 b2 b3=some (r,k)):1≤k∧k≤n∧k≤4∧r≤1114111:=by
 unfold rune4 at h
 repeat' split at h
 all_goals first | contradiction | (simp only[Option.some.injEq,Prod.mk.injEq] at h;omega)

theorem qfd {l:List UInt8} {r k:Nat} (h:runeL l=some (r,k)):1≤k∧k≤l.length∧k≤4∧r≤1114111:=by
 unfold runeL at h
 split at h
 ·simp at h
 ·exact qvo (by omega) h

theorem qtx {n b0 b1 b2 b3 r k:Nat} (hn:0<n) (h0:b0<256) (h1:b1<256) (h2:b2<256) (h3:b3<256) (h:rune4 n b0 b1 b2 b3=some (r,k)):Lib.decodeN n b0 b1 b2 b3=(r,k):=by
 unfold rune4 at h;unfold Lib.decodeN
 repeat' split at h
 all_goals first | contradiction | (simp only[Option.some.injEq,Prod.mk.injEq] at h;obtain⟨rfl,rfl⟩:=h)
 all_goals (repeat' split)
 all_goals first | rfl | (exfalso;omega) | (apply Prod.ext<;>simp only<;>omega)

theorem rune4_none {n b0 b1 b2 b3:Nat} (hn:0<n) (h0:b0<256) (h1:b1<256) (h2:b2<256) (h3:b3<256) (h:rune4 n b0 b1 b2 b3=none):Lib.decodeN n b0 b1 b2 b3=(65533,1):=by
 unfold rune4 at h;unfold Lib.decodeN
 repeat' split at h
 all_goals first | contradiction | skip
 all_goals (repeat' split)
 all_goals first | rfl | (exfalso;omega)

theorem get_bt (s:ByteArray) (i:Nat):(s.get! i).toNat=bt s.data.toList i:=by
 simp only[bt,ByteArray.get!,List.getD_eq_getElem?_getD];rw[Array.getElem!_eq_getD,Array.getD_eq_getD_getElem?];simp;rfl

theorem qom {s:ByteArray} {p r k:Nat} (h:runeL (s.data.toList.drop p)=some (r,k)):Utf8.decode s p=(r,k):=by
 rw[Lib.decode_at];simp only[get_bt];unfold runeL at h
 split at h
 ·simp at h
 ·rename_i hl
  simp only[qfr,List.length_drop,Nat.add_zero] at h hl;have e:s.size-p=s.data.toList.length-p:=rfl;rw[e];exact qtx (by omega) (bt_lt _ _) (bt_lt _ _) (bt_lt _ _) (bt_lt _ _) h

theorem qol {s:ByteArray} {p:Nat} (hp:p<s.size) (h:runeL (s.data.toList.drop p)=none):Utf8.decode s p=(65533,1):=by
 rw[Lib.decode_at];simp only[get_bt];have e:s.size-p=s.data.toList.length-p:=rfl;have hl:0<s.data.toList.length-p:=by rw[←e];omega
 unfold runeL at h;rw[if_neg (by simp only[List.length_drop];omega)] at h;simp only[qfr,List.length_drop,Nat.add_zero] at h;rw[e];exact rune4_none hl (bt_lt _ _) (bt_lt _ _) (bt_lt _ _) (bt_lt _ _) h

theorem qfh (l:List UInt8) (i n:Nat) (h:n=bt l i):UInt8.ofNat n=l.getD i 0:=by
 subst h;simp[bt]

theorem take1:∀(l:List UInt8),1≤l.length→l.take 1 = [l.getD 0 0]
 |[],h=>by simp at h
 |[_],_=>rfl
 |_ :: _ :: _,_=>rfl
theorem take2:∀(l:List UInt8),2≤l.length→l.take 2 = [l.getD 0 0,l.getD 1 0]
 |[],h=>by simp at h
 |[_],h=>by simp at h
 |_ :: _ :: _,_=>rfl
theorem take3:∀(l:List UInt8),3≤l.length→l.take 3 = [l.getD 0 0,l.getD 1 0,l.getD 2 0]
 |[],h=>by simp at h
 |[_],h=>by simp at h
 |[_,_],h=>by simp at h
 |_ :: _ :: _ :: _,_=>rfl
theorem take4:∀(l:List UInt8),4≤l.length→l.take 4 = [l.getD 0 0,l.getD 1 0,l.getD 2 0,l.getD 3 0]
 |[],h=>by simp at h
 |[_],h=>by simp at h
 |[_,_],h=>by simp at h
 |[_,_,_],h=>by simp at h
 |_ :: _ :: _ :: _ :: _,_=>rfl

theorem qoo {l:List UInt8} {r k:Nat} (h:runeL l=some (r,k)):(Utf8.encode (r:Int)).data.toList=l.take k:=by
 have hw:=qfd h;have q0:=bt_lt l 0;have q1:=bt_lt l 1;have q2:=bt_lt l 2;have q3:=bt_lt l 3;unfold runeL at h
 split at h
 ·contradiction
 unfold rune4 at h;have hv:Utf8.valid (r:Int)=true:=by
  simp only[Utf8.valid,Bool.or_eq_true,Bool.and_eq_true,decide_eq_true_eq]
  repeat' split at h
  all_goals first | contradiction | (simp only[Option.some.injEq,Prod.mk.injEq] at h;omega)
 unfold Utf8.encode;simp only[hv,if_true,Int.toNat_natCast]
 repeat' split at h
 all_goals first | (simp only[Option.some.injEq,Prod.mk.injEq] at h;obtain⟨rfl,rfl⟩:=h) | (simp only[reduceCtorEq] at h)
 ·rw[if_pos (by omega),take1 l (by omega)];rw[qfh l 0 (bt l 0) rfl]
 ·rw[if_neg (by omega),if_pos (by omega),take2 l (by omega)];rw[qfh l 0 _ (by omega),qfh l 1 _ (by omega)]
 ·rw[if_neg (by omega),if_neg (by omega),if_pos (by omega),take3 l (by omega)];rw[qfh l 0 _ (by omega),qfh l 1 _ (by omega),qfh l 2 _ (by omega)]
 ·rw[if_neg (by omega),if_neg (by omega),if_neg (by omega),take4 l (by omega)];rw[qfh l 0 _ (by omega),qfh l 1 _ (by omega),qfh l 2 _ (by omega),qfh l 3 _ (by omega)]

theorem encode_err:(Utf8.encode (65533:Int)).data.toList = [239,191,189]:=by decide +kernel

def qhx (l p:List UInt8):Bool:=decide (p.length≤l.length)&&(l.take p.length==p)

theorem qvr {l:List UInt8} {r k:Nat} (h:runeL l=some (r,k)):qhx l (Utf8.encode (r:Int)).data.toList=true:=by
 have hw:=qfd h;rw[qoo h];simp only[qhx,List.length_take,Nat.min_eq_left hw.2.1,Bool.and_eq_true,decide_eq_true_eq,beq_self_eq_true,and_true];exact hw.2.1

theorem qvq {l:List UInt8} (hl:l.length≠0) (h:runeL l=none):qhx l (Utf8.encode (65533:Int)).data.toList=false:=by
 rw[encode_err];simp only[qhx,List.length_cons,List.length_nil]
 by_cases h3:3≤l.length
 ·rw[take3 l h3];simp only[Nat.zero_add,Nat.reduceAdd,h3,decide_true,Bool.true_and,beq_eq_false_iff_ne,ne_eq,List.cons.injEq,and_true];rintro ⟨e0,e1,e2⟩;have b0:bt l 0=239:=by simp only[bt,e0];rfl
  have b1:bt l 1=191:=by simp only[bt,e1];rfl
  have b2:bt l 2=189:=by simp only[bt,e2];rfl
  unfold runeL rune4 at h;rw[if_neg hl,b0,b1,b2] at h;rw[if_neg (by omega),if_neg (by omega),if_neg (by omega),if_pos (by omega),if_pos (by omega)] at h
  contradiction
 ·simp[h3]

def qcj:Nat→List UInt8→Option Nat
 |0,l=>if l.length=0 then some 0 else none
 |f+1,l=>if l.length=0 then some 0 else
  match runeL l with
  |some (r,k)=>if r=0 then none else (qcj f (l.drop k)).map (·+1)
  |none=>none

def qnc (l:List UInt8):Option Nat:=if 60<l.length then none else qcj l.length l

def qhf (l:List UInt8):Int:=match qnc l with | some n=>n | none=>-1
def okT (l:List UInt8):Bool:=(qnc l).isSome

theorem qrb (f:Nat) (l:List UInt8) (h:l.length=0):qcj f l=some 0:=by
 cases f<;>simp[qcj,h]

theorem qjz {f:Nat} {l:List UInt8} (hl:l.length≠0) (h:runeL l=none∨∃k,runeL l=some (0,k)):qcj f l=none:=by
 cases f with
 |zero=>simp[qcj,hl]
 |succ f=>
  rcases h with h | ⟨k,h⟩<;>simp[qcj,hl,h]

theorem qok {f:Nat} {l:List UInt8} {r k:Nat} (hl:l.length≠0) (h:runeL l=some (r,k)) (hr:r≠0):qcj (f+1) l=(qcj f (l.drop k)).map (·+1):=by
 simp[qcj,hl,h,hr]

theorem qsb {l:List UInt8} (h:60<l.length):okT l=false:=by simp[okT,qnc,h]
theorem okT_short {l:List UInt8} (h:¬60<l.length):okT l=(qcj l.length l).isSome:=by simp[okT,qnc,h]
theorem qun {l:List UInt8} (h:60<l.length):qhf l = -1:=by simp[qhf,qnc,h]
theorem countI_ge (l:List UInt8):decide (0≤qhf l)=okT l:=by
 unfold qhf okT;cases qnc l<;>simp
open Go.RowKit

theorem qad {a b:Bool} (h:a=b):Ending.returned (.bool a)=.returned (.bool b):=by rw[h]
theorem qsj {k:IntKind} {a b:Int} (h:a=b):Ending.returned (.int k a)=.returned (.int k b):=by rw[h]

theorem qra (s p:ByteArray) (h:p.size≤s.size):((s.extract 0 p.size).toList==p.toList)=qhx s.data.toList p.data.toList:=by
 have e1:s.size=s.data.toList.length:=rfl;have e2:p.size=p.data.toList.length:=rfl;rw[ByteArray.toList_eq,ByteArray.toList_eq,Lib.extract_data];simp only[qhx,List.drop_zero,Nat.sub_zero];rw[e1,e2] at h;rw[e2,decide_eq_true h,Bool.true_and]

theorem qqq (s p:ByteArray) (w:World) :
  Calls Tryz.prog 175 #[.string s,.string p] w fun e w'=>e=.returned (.bool (qhx s.data.toList p.data.toList))∧w'=w:=by
 by_cases h:p.size≤s.size
 ·have h':(p.size:Int)≤(s.size:Int):=by omega
  go_enter Tryz.func175,Tryz.ntmps175;go_wp2;go_ret;exact⟨qad (qra s p h),rfl⟩
 ·have h':(s.size:Int)<(p.size:Int):=by omega
  go_enter Tryz.func175,Tryz.ntmps175;go_wp2;go_ret;refine⟨qad ?_,rfl⟩;have e1:s.size=s.data.toList.length:=rfl;have e2:p.size=p.data.toList.length:=rfl;rw[e1,e2] at h;rw[qhx,decide_eq_false h,Bool.false_and]

theorem qrv (s p:ByteArray) (w:World) :
  Calls Tryz.prog 174 #[.string s,.string p] w fun e w'=>e=.returned (.bool (qhx s.data.toList p.data.toList))∧w'=w:=by
 go_enter Tryz.func174,Tryz.ntmps174;go_wp2_with (go_at_call 175;refine (qqq _ _ _).mono ?_;rintro e w' ⟨rfl,rfl⟩)
 go_ret;exact⟨rfl,rfl⟩

theorem qqm (s:ByteArray) (r:Int) (w:World) :
  Calls Tryz.prog 173 #[.string s,.int .i32 r] w fun e w'=>e=.returned (.bool (qhx s.data.toList (Utf8.encode r).data.toList))∧w'=w:=by
 go_enter Tryz.func173,Tryz.ntmps173;go_wp2_with (go_at_call 174;refine (qrv _ _ _).mono ?_;rintro e w' ⟨rfl,rfl⟩)
 go_ret;exact⟨rfl,rfl⟩

theorem qjg (s:ByteArray) (r:Int) (w:World) (b:Bool) (hb:qhx s.data.toList (Utf8.encode r).data.toList=b) :
  Calls Tryz.prog 173 #[.string s,.int .i32 r] w fun e w'=>e=.returned (.bool b)∧w'=w:=by
 subst hb;exact qqm s r w

theorem qho (w:World) (s:ByteArray) (p:Nat):Below w.heap.size w (w.iter s p):=(Below.refl _ _).alloc (Nat.le_refl _) _

theorem qsw (s:ByteArray) (p:Nat):(s.extract p s.size).data.toList=s.data.toList.drop p:=by
 rw[Lib.extract_data];apply List.take_of_length_le
 rw[List.length_drop];exact Nat.le_refl _

theorem qdf (s:ByteArray) (w:World) (hs:s.size<9223372036854775807) :
  Calls Tryz.prog 172 #[.string s] w fun e w'=>e=.returned (.bool (okT s.data.toList))∧Below w.heap.size w w':=by
 have e1:s.size=s.data.toList.length:=rfl
 by_cases hlong:60<s.size
 ·have h':(60:Int)<(s.size:Int):=by omega
  have hk:Hid (okT s.data.toList=false):=qsb (by omega);clear e1;go_enter Tryz.func172,Tryz.ntmps172;go_wp2;go_ret;exact⟨qad hk.out.symm,Below.refl _ _⟩
 ·have h':(s.size:Int)≤60:=by omega
  have hk:Hid (okT s.data.toList=(qcj s.data.toList.length s.data.toList).isSome):=okT_short (by omega);have H1:Hid (s.size=s.data.toList.length):=e1;clear e1;go_enter Tryz.func172,Tryz.ntmps172;go_wp2
  go_loopw [3] (fun _ w'=>∃(pos f:Nat),w'=w.iter s pos∧pos≤s.size∧s.size≤pos+f∧(qcj s.data.toList.length s.data.toList).isSome=(qcj f (s.data.toList.drop pos)).isSome) (fun _ w'=>s.size-w'.iterPos w.heap.size)
  case atStart=>exact⟨0,s.size,rfl,Nat.zero_le _,by omega,rfl⟩
  case round=>
   obtain⟨pos,f,rfl,hpos,hf,hc⟩:=hrel;have HC:Hid ((qcj s.data.toList.length s.data.toList).isSome=(qcj f (s.data.toList.drop pos)).isSome):=hc;clear hc
   by_cases hp:pos<s.size
   ·have hl:(s.data.toList.drop pos).length≠0:=by rw[List.length_drop,←H1.out];omega
    cases hr:runeL (s.data.toList.drop pos) with
    |none=>
     have hst:Hid (qhx (s.data.toList.drop pos) (Utf8.encode (65533:Int)).data.toList=false):=qvq hl hr;have hd:Utf8.decode s pos=(65533,1):=qol hp hr;have hnx:∀ty,(Instr.next (.pointer (some ⟨w.heap.size,0,none⟩)) true ty).run Tryz.prog (w.iter s pos)=.ok (.tuple #[.bool true,.int .i64 (pos:Nat),.int .i32 65533]) (w.iter s (pos+1)):=fun ty=>by
      have:=run_next_any (P:=Tryz.prog) w s pos ty hp;rw[hd] at this;exact this
     have HF:Hid (qcj f (s.data.toList.drop pos)=none):=qjz hl (.inl hr);clear hd hr hl;go_wp2_with (go_at_call 173;refine (qjg _ _ _ false (by rw[qsw];exact hst.out)).mono ?_;rintro e w' ⟨rfl,rfl⟩)
     go_ret;exact⟨qad (by rw[hk.out,HC.out,HF.out];rfl),qho _ _ _⟩
    |some rk=>
     obtain⟨r,k⟩:=rk;have hw:=qfd hr;rw[List.length_drop,←H1.out] at hw;have hst:Hid (qhx (s.data.toList.drop pos) (Utf8.encode (r:Int)).data.toList=true):=qvr hr;have hd:Utf8.decode s pos=(r,k):=qom hr;have hnx:∀ty,(Instr.next (.pointer (some ⟨w.heap.size,0,none⟩)) true ty).run Tryz.prog (w.iter s pos)=.ok (.tuple #[.bool true,.int .i64 (pos:Nat),.int .i32 (r:Nat)]) (w.iter s (pos+k)):=fun ty=>by
      have:=run_next_any (P:=Tryz.prog) w s pos ty hp;rw[hd] at this;exact this
     by_cases hr0:r=0
     ·subst hr0;have HF:Hid (qcj f (s.data.toList.drop pos)=none):=qjz hl (.inr ⟨k,hr⟩);clear hd hr hl hst hw;go_wp2_with fail
      go_ret;exact⟨qad (by rw[hk.out,HC.out,HF.out];rfl),qho _ _ _⟩
     ·have hz:((r:Int)==0)=false:=by simp;omega
      have HR:Hid (runeL (s.data.toList.drop pos)=some (r,k)):=hr;have HL:Hid ((s.data.toList.drop pos).length≠0):=hl;have H0:Hid (r≠0):=hr0;clear hd hr hl hr0;go_wp2_with (go_at_call 173;refine (qjg _ _ _ true (by rw[qsw];exact hst.out)).mono ?_;rintro e w' ⟨rfl,rfl⟩)
      go_roundw
      case rel=>
       cases f with
       |zero=>omega
       |succ f=>
        refine⟨pos+k,f,rfl,by omega,by omega,?_⟩;rw[HC.out,qok HL.out HR.out H0.out,List.drop_drop];simp
      case measure=>
       simp;omega
   ·have hnx:∀ty,(Instr.next (.pointer (some ⟨w.heap.size,0,none⟩)) true ty).run Tryz.prog (w.iter s pos)=_:=fun ty=>run_next_end w s pos ty hp
    have HF:Hid (qcj f (s.data.toList.drop pos)=some 0):=qrb f _ (by rw[List.length_drop,←H1.out];omega);go_wp2;go_ret;exact⟨qad (by rw[hk.out,HC.out,HF.out];rfl),qho _ _ _⟩


theorem at_data (s:ByteArray) (i:Nat) (h:i<s.size):s.data.toList[i]? = some (s[i]'h):=by
 have e1:s.size=s.data.toList.length:=rfl;rw[List.getElem?_eq_getElem (by omega)];rfl


def pre (p:List UInt8):List (List UInt8)→List (List UInt8)
 |[]=>[p]
 |h :: t=>(p++h) :: t

def lvl:List UInt8→List (List UInt8)
 |[]=>[[]]
 |c :: r=>if c=47 then [] :: lvl r else pre [c] (lvl r)

theorem pre_nil {ls:List (List UInt8)} (h:ls≠[]):pre [] ls=ls:=by
 cases ls with
 |nil=>exact absurd rfl h
 |cons a t=>rfl
theorem pre_pre (p q:List UInt8) (ls:List (List UInt8)):pre p (pre q ls)=pre (p++q) ls:=by cases ls<;>simp[pre]
theorem pre_ne (p:List UInt8) (ls:List (List UInt8)):pre p ls≠[]:=by cases ls<;>simp[pre]
theorem pre_length (p:List UInt8) {ls:List (List UInt8)} (h:ls≠[]):(pre p ls).length=ls.length:=by
 cases ls with
 |nil=>exact absurd rfl h
 |cons a t=>rfl
theorem lvl_nil:lvl [] = [[]]:=rfl
theorem qhs (r:List UInt8):lvl (47 :: r) = [] :: lvl r:=by simp[lvl]
theorem qhr {c:UInt8} (h:c≠47) (r:List UInt8):lvl (c :: r)=pre [c] (lvl r):=by simp[lvl,h]
theorem lvl_ne:∀l,lvl l≠[]
 |[]=>by simp[lvl]
 |c :: r=>by
  by_cases h:c=47
  ·subst h;rw[qhs];simp
  ·rw[qhr h];exact pre_ne _ _
theorem lvl_cut:∀(a r:List UInt8),(∀c∈a,c≠47)→lvl (a++47 :: r)=a :: lvl r
 |[],r,_=>by rw[List.nil_append,qhs]
 |c :: a,r,h=>by
  rw[List.cons_append,qhr (h c (by simp)),lvl_cut a r (fun x hx=>h x (by simp[hx]))];rfl
theorem qtn:∀(a:List UInt8),(∀c∈a,c≠47)→lvl a = [a]
 |[],_=>rfl
 |c :: a,h=>by
  rw[qhr (h c (by simp)),qtn a (fun x hx=>h x (by simp[hx]))];rfl

def has (l:List UInt8) (c:UInt8):Bool:=l.contains c
theorem qld (a:UInt8) (l:List UInt8) (c:UInt8):has (a :: l) c=(c==a || has l c):=by unfold has;rw[List.contains_cons]
theorem qrd (a l:List UInt8) (c:UInt8):has (a++l) c=(has a c || has l c):=by
 induction a with
 |nil=>simp[has]
 |cons x r ih=>simp[qld,ih,Bool.or_assoc]
def wildB (l:List UInt8):Bool:=has l 43 || has l 35
def may (x:List UInt8) (last:Bool):Bool:=if x = [43] then true else if x = [35] then last else !wildB x
def qcd:List (List UInt8)→Bool
 |[]=>true
 |[x]=>may x true
 |x :: y :: r=>may x false&&qcd (y :: r)
def levOk (l:List UInt8):Bool:=decide (l≠[])&&(okT l&&decide ((lvl l).length≤6))
def topOk (l:List UInt8):Bool:=levOk l&&!wildB l
def filOk (l:List UInt8):Bool:=levOk l&&qcd (lvl l)
theorem may_spec (x:List UInt8) (last:Bool):may x last = !((has x 43&&decide (x≠[43])) || (has x 35&&(decide (x≠[35]) || !last))):=by
 unfold may wildB
 by_cases h1:x = [43]
 ·subst h1;cases last<;>rfl
 ·rw[if_neg h1]
  by_cases h2:x = [35]
  ·subst h2;cases last<;>rfl
  ·rw[if_neg h2];simp[h1,h2]

theorem qve (x:List UInt8) (r:List (List UInt8)):qcd (x :: r)=(may x r.isEmpty&&qcd r):=by
 cases r<;>simp[qcd]
theorem qpn (ls:List (List UInt8)) (k:Nat) (hk:k<ls.length):qcd (ls.drop k)=(may (ls.getD k []) (decide (k+1=ls.length))&&qcd (ls.drop (k+1))):=by
 rw[List.drop_eq_getElem_cons hk,qve]
 congr 2
 ·simp[List.getD_eq_getElem?_getD,List.getElem?_eq_getElem hk]
 ·rw[Bool.eq_iff_iff];simp only[List.isEmpty_iff,List.drop_eq_nil_iff,decide_eq_true_eq];omega
theorem qrf (ls:List (List UInt8)) (k:Nat) (hk:ls.length≤k):qcd (ls.drop k)=true:=by
 rw[List.drop_eq_nil_of_le hk];rfl


def qfl (l:List UInt8):Bool:=match l with
 |c :: _=>c==43 || c==35
 |[]=>false

structure Pv where
 ty:Int
 dup:Bool
 qos:Int
 ret:Bool
 id:Int
 top:ByteArray
 bod:List UInt8
 cli:ByteArray
 lev:Int
 cln:Bool
 kee:Int
 hw:Bool
 wt:ByteArray
 wb:List UInt8
 wq:Int
 wr:Bool
 hu:Bool
 us:ByteArray
 hp:Bool
 pa:List UInt8
 cod:Int
 pre:Bool
 wan:List (ByteArray×Int)
 nam:List ByteArray
 cds:List Int
 deriving DecidableEq

def Pv.zero:Pv:=⟨0,false,0,false,0,ByteArray.empty,[],ByteArray.empty,0,false,0,false,ByteArray.empty,[],0,false,false,ByteArray.empty,false,[],0,false,[],[],[]⟩
def Pv.named (v:Pv):Pv :=
 if v.ty=1 then { Pv.zero with
  ty:=v.ty,lev:=v.lev,cli:=v.cli,cln:=v.cln,kee:=v.kee,hw:=v.hw
  wt:=if v.hw then v.wt else ByteArray.empty
  wb:=if v.hw then v.wb else []
  wq:=if v.hw then v.wq else 0
  wr:=if v.hw then v.wr else false
  hu:=v.hu
  us:=if v.hu then v.us else ByteArray.empty
  hp:=v.hu&&v.hp
  pa:=if v.hu&&v.hp then v.pa else [] }
 else if v.ty=2 then { Pv.zero with ty:=v.ty,cod:=v.cod,pre:=v.pre&&decide (v.cod=0) }
 else if v.ty=3 then { Pv.zero with ty:=v.ty,qos:=v.qos,ret:=v.ret,top:=v.top,bod:=v.bod,dup:=if 0<v.qos then v.dup else false,id:=if 0<v.qos then v.id else 0 }
 else if v.ty=4∨v.ty=5∨v.ty=6∨v.ty=7∨v.ty=11 then { Pv.zero with ty:=v.ty,id:=v.id }
 else if v.ty=8 then { Pv.zero with ty:=v.ty,id:=v.id,wan:=v.wan }
 else if v.ty=9 then { Pv.zero with ty:=v.ty,id:=v.id,cds:=v.cds }
 else if v.ty=10 then { Pv.zero with ty:=v.ty,id:=v.id,nam:=v.nam }
 else { Pv.zero with ty:=v.ty }
def inB (x lo hi:Int):Bool:=decide (lo≤x∧x≤hi)
def txt (s:ByteArray):Bool:=okT s.data.toList
def tpc (s:ByteArray):Bool:=topOk s.data.toList
def flt (s:ByteArray):Bool:=filOk s.data.toList
def Pv.body (v:Pv):Bool :=
 if v.ty=1 then (!v.hw || (tpc v.wt&&(decide (v.wb.length≤40)&&inB v.wq 0 2)))&&(inB v.lev 0 255&&(txt v.cli&&(inB v.kee 0 65535&&(txt v.us&&decide (v.pa.length≤60)))))
 else if v.ty=2 then inB v.cod 0 5
 else if v.ty=3 then inB v.qos 0 2&&((decide (v.qos=0) || inB v.id 1 65535)&&(tpc v.top&&decide (v.bod.length≤40)))
 else if v.ty=12∨v.ty=13∨v.ty=14 then true
 else if v.ty=8 then v.wan.all (fun x=>flt x.1&&inB x.2 0 2)&&(inB v.id 1 65535&&inB v.wan.length 1 4)
 else if v.ty=9 then v.cds.all (fun c=>inB c 0 2 || decide (c=128))&&(inB v.id 1 65535&&inB v.cds.length 1 4)
 else if v.ty=10 then v.nam.all (fun s=>flt s)&&(inB v.id 1 65535&&inB v.nam.length 1 4)
 else inB v.id 1 65535
def Pv.ok (v:Pv):Bool:=inB v.ty 1 14&&(decide (v=v.named)&&v.body)

theorem qey {x lo hi:Int} (h1:lo≤x) (h2:x≤hi):inB x lo hi=true:=decide_eq_true ⟨h1,h2⟩
theorem qng {x lo hi:Int} (h:x<lo):inB x lo hi=false:=decide_eq_false (fun e=>by omega)
theorem qnf {x lo hi:Int} (h:hi<x):inB x lo hi=false:=decide_eq_false (fun e=>by omega)
theorem qdm {x lo hi:Int} : inB x lo hi=true ↔ lo≤x∧x≤hi:=decide_eq_true_iff
theorem inB_not {x lo hi:Int} : inB x lo hi=false ↔ ¬(lo≤x∧x≤hi):=decide_eq_false_iff_not


theorem bel2 {w w1 w2:World} (h1:Below w.heap.size w w1) (h2:Below w1.heap.size w1 w2):Below w.heap.size w w2:=h1.trans (h2.mono h1.size)

theorem info9:(Tryz.prog.info? 9).map (fun i=>(i.zero,i.size,i.bytes))=some (some (.string ByteArray.empty),1,16):=by kernel_rfl

def st (ss:List ByteArray) (i:Nat):ByteArray:=ss.getD i ByteArray.empty
def svals (ss:List ByteArray):List Value:=ss.map Value.string
def dats (ss:List ByteArray):List (List UInt8):=ss.map fun s=>s.data.toList

theorem qgx (ss:List ByteArray):(svals ss).length=ss.length:=by simp[svals]
theorem svals_at (ss:List ByteArray) (i:Nat) (h:i<ss.length):(svals ss)[i]? = some (.string (st ss i)):=by
 simp only[svals,st,List.getElem?_map,List.getElem?_eq_getElem h,Option.map_some,List.getD_eq_getElem?_getD,Option.getD_some]
theorem qur (ss:List ByteArray):(dats ss).length=ss.length:=by simp[dats]
theorem dats_at (ss:List ByteArray) (i:Nat) (h:i<ss.length):(dats ss).getD i []=(st ss i).data.toList:=by
 simp only[dats,st,List.getD_eq_getElem?_getD,List.getElem?_map,List.getElem?_eq_getElem h,Option.map_some,Option.getD_some]
theorem dats_inj {a b:List ByteArray} (h:dats a=dats b):a=b:=by
 apply List.map_inj_right (f:=fun s:ByteArray=>s.data.toList) (fun x y e=>?_) |>.1 h
 cases x;cases y
 simpa using e

def SRd (w:World) (ao:Option Addr) (n cap:Nat) (ss:List ByteArray):Prop :=
 (ss.length=n∧∀i,i<n→∃b off,ao=some ⟨b,off,none⟩∧w.cell? ⟨b,off+i,none⟩ = some (.string (st ss i)))∧n≤cap∧cap≤maxLen∧(ao=none→cap=0)

theorem SRd.nil (w:World):SRd w none 0 0 []:=⟨⟨rfl,fun i hi=>by omega⟩,Nat.le_refl _,Nat.zero_le _,fun _=>rfl⟩

def SOwn (w:World) (B:Nat) (ao:Option Addr) (n cap:Nat) (ss:List ByteArray):Prop:=ss.length=n∧w.ownsRow B 9 1 (.slice ao n cap) n (svals ss)

theorem SOwn.rd {w:World} {B:Nat} {ao:Option Addr} {n cap:Nat} {ss:List ByteArray} (h:SOwn w B ao n cap ss):SRd w ao n cap ss:=by
 obtain⟨hl,h1,h2⟩:=h
 rcases h2 with ⟨e,rfl⟩ | ⟨g,c,cur,e,hb,hg,hc,hm,hs,ht⟩
 ·simp only[Value.slice.injEq] at e;obtain⟨rfl,_,rfl⟩:=e;exact⟨⟨hl,fun i hi=>by omega⟩,Nat.le_refl _,Nat.zero_le _,fun _=>rfl⟩
 ·simp only[Value.slice.injEq] at e;obtain⟨rfl,_,rfl⟩:=e;refine⟨⟨hl,fun i hi=>⟨g,0,rfl,?_⟩⟩,hc,hm,fun h=>by simp at h⟩;have own:w.ownsRow B 9 1 (.slice (some ⟨g,0,none⟩) n cap) n (svals ss):=⟨h1,.inr ⟨g,cap,cur,rfl,hb,hg,hc,hm,hs,ht⟩⟩;rw[Nat.zero_add,own.cellAt i (by omega),svals_at ss i (by omega)]
theorem SOwn.block {w:World} {B:Nat} {ao:Option Addr} {n cap:Nat} {ss:List ByteArray} (h:SOwn w B ao n cap ss) {a:Addr} (e:ao=some a):B≤a.block∧a.block<w.heap.size:=by
 subst e;exact h.2.lt _ rfl
theorem SRd.below {w w':World} {ao:Option Addr} {n cap:Nat} {ss:List ByteArray} (h:SRd w ao n cap ss) (hb:Below w.heap.size w w'):SRd w' ao n cap ss:=by
 refine⟨⟨h.1.1,fun i hi=>?_⟩,h.2⟩;obtain⟨b,off,e,hc⟩:=h.1.2 i hi;exact⟨b,off,e,(hb.cell (World.block_lt_of_cell? w _ hc)).trans hc⟩
theorem SOwn.below {w w':World} {B:Nat} {ao:Option Addr} {n cap:Nat} {ss:List ByteArray} (h:SOwn w B ao n cap ss) (hb:Below w.heap.size w w'):SOwn w' B ao n cap ss:=by
 refine⟨h.1,h.2.1,?_⟩
 rcases h.2.2 with hn | ⟨g,c,cur,e,hB,hg,rest⟩
 ·exact .inl hn
 ·exact .inr ⟨g,c,cur,e,hB,by rw[hb.block g (Array.getElem?_eq_some_iff.1 hg).1];exact hg,rest⟩
theorem SOwn.mono {w:World} {B B':Nat} {ao:Option Addr} {n cap:Nat} {ss:List ByteArray} (h:SOwn w B ao n cap ss) (hB:B'≤B):SOwn w B' ao n cap ss:=by
 refine⟨h.1,h.2.1,?_⟩
 rcases h.2.2 with hn | ⟨g,c,cur,e,hb,rest⟩
 ·exact .inl hn
 ·exact .inr ⟨g,c,cur,e,by omega,rest⟩
theorem SRd.grown {w w':World} {ao:Option Addr} {n cap:Nat} {ss:List ByteArray} {row:Option Nat} (h:SRd w ao n cap ss) (hg:w.grownBy w' row) (hne:∀a,ao=some a→some a.block≠row):SRd w' ao n cap ss:=by
 refine⟨⟨h.1.1,fun i hi=>?_⟩,h.2⟩;obtain⟨b,off,e,hc⟩:=h.1.2 i hi;exact⟨b,off,e,hg.cell hc (show some b≠row from hne ⟨b,off,none⟩ e)⟩
theorem SOwn.grown {w w':World} {B:Nat} {ao:Option Addr} {n cap:Nat} {ss:List ByteArray} {row:Option Nat} (h:SOwn w B ao n cap ss) (hg:w.grownBy w' row) (hne:∀a,ao=some a→some a.block≠row):SOwn w' B ao n cap ss:=by
 refine⟨h.1,h.2.kept hg ?_⟩;cases ao with
 |none=>exact .inl rfl
 |some a=>exact .inr (hne a rfl)
theorem SOwn.frozen {w:World} {B:Nat} {g n cap:Nat} {ss:List ByteArray} (h:SOwn w B (some ⟨g,0,none⟩) n cap ss) (j:Nat):w.frozen? ⟨g,j,none⟩ = false:=h.2.frozenAt j
theorem SOwn.cell {w:World} {B:Nat} {g n cap:Nat} {ss:List ByteArray} (h:SOwn w B (some ⟨g,0,none⟩) n cap ss) (j:Nat) (hj:j<n):w.cell? ⟨g,j,none⟩ = some (.string (st ss j)):=by
 rw[h.2.cellAt j (by omega),svals_at ss j (by rw[h.1];exact hj)]
theorem SOwn.head {w:World} {B:Nat} {ao:Option Addr} {n cap:Nat} {ss:List ByteArray} (h:SOwn w B ao n cap ss) (hn:0<n):∃g,ao=some ⟨g,0,none⟩:=by
 rcases h.2.2 with ⟨_,h0⟩ | ⟨g,c,cur,e,_⟩
 ·omega
 ·simp only[Value.slice.injEq] at e;exact⟨g,e.1⟩
theorem SOwn.store {w:World} {B:Nat} {g n cap:Nat} {ss:List ByteArray} (h:SOwn w B (some ⟨g,0,none⟩) n cap ss) (j:Nat) (u:ByteArray) :
  SOwn (w.setCell ⟨g,j,none⟩ (.string u)) B (some ⟨g,0,none⟩) n cap (ss.set j u):=by
 refine⟨by simpa using h.1,?_⟩;have:=(h.2.stored j (.string u)).1;have e:(svals ss).set j (.string u)=svals (ss.set j u):=by simp[svals,List.map_set]
 rw[e] at this;exact this
theorem qty {w:World} {B:Nat} {v:Value} {n:Nat} {ss:List ByteArray} (hl:ss.length=n) (h:w.ownsRow B 9 1 v n (svals ss)):∃ao cap,v=.slice ao n cap∧SOwn w B ao n cap ss:=by
 rcases h.2 with ⟨rfl,rfl⟩ | ⟨g,c,cur,rfl,_⟩
 ·exact⟨none,0,rfl,hl,h⟩
 ·exact⟨_,_,rfl,hl,h⟩

theorem w_sapp {ops:Array Oper} {rest:List Oper} {o:Oper} {a:Act} {Q:Exit→Act→World→Prop} (w:World) (hgd:o.guard=none) (s x:Operand)
  (ho:o.op=.call { callee:=.builtin .append,args:=#[s,x],argTypes:=#[25,25] })
  (B:Nat) (ao:Option Addr) (n cap:Nat) (ss:List ByteArray) (hs:a.eval s=.slice ao n cap) (hown:SOwn w B ao n cap ss)
  (ad:Nat) (u:ByteArray) (hx:a.eval x=.slice (some ⟨ad,0,none⟩) 1 1) (hc:w.cell? ⟨ad,0,none⟩ = some (.string u)) (hb:n<1099511627776) (hB:B≤w.heap.size)
  (h:∀ao' cap' w',SOwn w' B ao' (n+1) cap' (ss++[u])→w.grownBy w' (Value.slice ao n cap).ownBlock→wpList Tryz.prog ops Q rest (a.put o.dst (.slice ao' (n+1) cap')) w') :
  wpList Tryz.prog ops Q (o :: rest) a w:=by
 obtain⟨i0,hi,hz0,hz1,hz2⟩:=info_parts info9;have hlen:(ss++[u]).length=n+1:=by rw[List.length_append,hown.1];rfl
 refine wpList_append_own w hgd s x 25 ho B 9 i0 (.string ByteArray.empty) 1 16 Tryz.underlying25 hi hz0 hz1 hz2 rfl (by decide) (.slice ao n cap) n (svals ss) hs hown.2 ⟨ad,0,none⟩ 1 1 [.string u] hx rfl ?_ (by intro v hv;simp at hv;subst hv;rfl) (by unfold maxLen;omega) (by omega) hB ?_
 ·intro j v hv
  match j,hv with
  |0,hv=>
   simp at hv;subst hv;exact hc
 ·intro v' w' hv hg _;have e:svals ss++[.string u]=svals (ss++[u]):=by simp[svals]
  rw[e] at hv;obtain⟨ao',cap',rfl,hown'⟩:=qty hlen hv;exact h ao' cap' w' hown' hg


def tot (ss:List ByteArray):Nat:=(ss.map ByteArray.size).sum
theorem qub {ss:List ByteArray} {k:Nat} (h:k<ss.length):st ss k∈ss:=by
 have e:st ss k=ss[k]'h:=by simp[st,List.getD_eq_getElem?_getD,List.getElem?_eq_getElem h]
 rw[e];exact List.getElem_mem h

end Go.Proofs.YtpjkbgdkligpdaaGreatDoor
namespace Go.Proofs
open Go.Shelf
def Tryz.lays119_ren:Go.Shelf.Ren:=⟨fun | 119=>213 | n=>n,fun | 21=>21 | 4=>4 | n=>n,fun | n=>n⟩
theorem Tryz.lays119:Go.Proofs.Lays.n119 Tryz.prog Tryz.lays119_ren:={
 mixed:=by kernel_rfl
 f119:=Tryz.func213.trans (congrArg some (by kernel_rfl))
 t4:=Tryz.underlying4
 a4:=Tryz.isAgg4
 z4:=Tryz.sizeOf4
 v4:=Tryz.zeroValue4
 t21:=Tryz.underlying21
 a21:=Tryz.isAgg21
 z21:=Tryz.sizeOf21
 v21:=Tryz.zeroValue21 }
def Tryz.lays137_ren:Go.Shelf.Ren:=⟨fun | 137=>212 | 217=>220 | 266=>223 | n=>n,fun | 9=>9 | 5=>5 | 3=>3 | n=>n,fun | n=>n⟩
theorem Tryz.lays137:Go.Proofs.Lays.n137 Tryz.prog Tryz.lays137_ren:={
 mixed:=by kernel_rfl
 f137:=Tryz.func212.trans (congrArg some (by kernel_rfl))
 f217:=Tryz.func220.trans (congrArg some (by kernel_rfl))
 f266:=Tryz.func223.trans (congrArg some (by kernel_rfl))
 t3:=Tryz.underlying3
 a3:=Tryz.isAgg3
 z3:=Tryz.sizeOf3
 v3:=Tryz.zeroValue3
 t5:=Tryz.underlying5
 a5:=Tryz.isAgg5
 z5:=Tryz.sizeOf5
 v5:=Tryz.zeroValue5
 t9:=Tryz.underlying9
 a9:=Tryz.isAgg9
 z9:=Tryz.sizeOf9
 v9:=Tryz.zeroValue9 }
def Tryz.laysM316_ren:Go.Shelf.Ren:=⟨fun | 316=>204 | n=>n,fun | 9=>9 | 3=>3 | 4=>4 | 37=>22 | 0=>0 | 127=>228 | 5=>5 | n=>n,fun | n=>n⟩
theorem Tryz.laysM316:Go.Proofs.LaysM.n316 Tryz.prog Tryz.laysM316_ren:={
 mixed:=by kernel_rfl
 f316:=Tryz.func204.trans (congrArg some (by kernel_rfl))
 t0:=Tryz.underlying0
 a0:=Tryz.isAgg0
 z0:=Tryz.sizeOf0
 v0:=Tryz.zeroValue0
 t3:=Tryz.underlying3
 a3:=Tryz.isAgg3
 z3:=Tryz.sizeOf3
 v3:=Tryz.zeroValue3
 t4:=Tryz.underlying4
 a4:=Tryz.isAgg4
 z4:=Tryz.sizeOf4
 v4:=Tryz.zeroValue4
 t9:=Tryz.underlying9
 a9:=Tryz.isAgg9
 z9:=Tryz.sizeOf9
 v9:=Tryz.zeroValue9
 t37:=Tryz.underlying22
 a37:=Tryz.isAgg22
 z37:=Tryz.sizeOf22
 v37:=Tryz.zeroValue22
 t127:=Tryz.underlying228
 a127:=Tryz.isAgg228
 z127:=Tryz.sizeOf228
 v127:=Tryz.zeroValue228
 t5:=Tryz.underlying5
 a5:=Tryz.isAgg5
 z5:=Tryz.sizeOf5
 v5:=Tryz.zeroValue5
 i0:=by kernel_rfl
 i3:=by kernel_rfl
 i4:=by kernel_rfl
 i5:=by kernel_rfl
 i9:=by kernel_rfl
 i37:=by kernel_rfl
 i127:=by kernel_rfl }
def Tryz.lays221_ren:Go.Shelf.Ren:=⟨fun | 221=>203 | 268=>209 | 138=>210 | 143=>211 | 195=>216 | 197=>217 | 218=>218 | 219=>219 | 260=>221 | 217=>220 | 225=>215 | 224=>214 | 267=>222 | 266=>223 | 314=>224 | n=>n,fun | 9=>9 | 3=>3 | 31=>25 | 4=>4 | 0=>0 | 105=>248 | 21=>21 | 5=>5 | 46=>153 | 119=>250 | 139=>253 | 138=>252 | 146=>254 | 51=>225 | n=>n,fun | 1=>2 | 3=>3 | 4=>4 | n=>n⟩
theorem Tryz.lays221:Go.Proofs.Lays.n221 Tryz.prog Tryz.lays221_ren:={
 mixed:=by kernel_rfl
 f138:=Tryz.func210.trans (congrArg some (by kernel_rfl))
 f143:=Tryz.func211.trans (congrArg some (by kernel_rfl))
 f195:=Tryz.func216.trans (congrArg some (by kernel_rfl))
 f197:=Tryz.func217.trans (congrArg some (by kernel_rfl))
 f217:=Tryz.func220.trans (congrArg some (by kernel_rfl))
 f218:=Tryz.func218.trans (congrArg some (by kernel_rfl))
 f219:=Tryz.func219.trans (congrArg some (by kernel_rfl))
 f221:=Tryz.func203.trans (congrArg some (by kernel_rfl))
 f224:=Tryz.func214.trans (congrArg some (by kernel_rfl))
 f225:=Tryz.func215.trans (congrArg some (by kernel_rfl))
 f260:=Tryz.func221.trans (congrArg some (by kernel_rfl))
 f266:=Tryz.func223.trans (congrArg some (by kernel_rfl))
 f267:=Tryz.func222.trans (congrArg some (by kernel_rfl))
 f268:=Tryz.func209.trans (congrArg some (by kernel_rfl))
 f314:=Tryz.func224.trans (congrArg some (by kernel_rfl))
 t0:=Tryz.underlying0
 a0:=Tryz.isAgg0
 z0:=Tryz.sizeOf0
 v0:=Tryz.zeroValue0
 t3:=Tryz.underlying3
 a3:=Tryz.isAgg3
 z3:=Tryz.sizeOf3
 v3:=Tryz.zeroValue3
 t4:=Tryz.underlying4
 a4:=Tryz.isAgg4
 z4:=Tryz.sizeOf4
 v4:=Tryz.zeroValue4
 t5:=Tryz.underlying5
 a5:=Tryz.isAgg5
 z5:=Tryz.sizeOf5
 v5:=Tryz.zeroValue5
 t9:=Tryz.underlying9
 a9:=Tryz.isAgg9
 z9:=Tryz.sizeOf9
 v9:=Tryz.zeroValue9
 t21:=Tryz.underlying21
 a21:=Tryz.isAgg21
 z21:=Tryz.sizeOf21
 v21:=Tryz.zeroValue21
 t31:=Tryz.underlying25
 a31:=Tryz.isAgg25
 z31:=Tryz.sizeOf25
 v31:=Tryz.zeroValue25
 t46:=Tryz.underlying153
 a46:=Tryz.isAgg153
 z46:=Tryz.sizeOf153
 v46:=Tryz.zeroValue153
 t51:=Tryz.underlying225
 a51:=Tryz.isAgg225
 z51:=Tryz.sizeOf225
 v51:=Tryz.zeroValue225
 t105:=Tryz.underlying248
 a105:=Tryz.isAgg248
 z105:=Tryz.sizeOf248
 v105:=Tryz.zeroValue248
 t119:=Tryz.underlying250
 a119:=Tryz.isAgg250
 z119:=Tryz.sizeOf250
 t138:=Tryz.underlying252
 a138:=Tryz.isAgg252
 z138:=Tryz.sizeOf252
 v138:=Tryz.zeroValue252
 t139:=Tryz.underlying253
 a139:=Tryz.isAgg253
 z139:=Tryz.sizeOf253
 v139:=Tryz.zeroValue253
 t146:=Tryz.underlying254
 a146:=Tryz.isAgg254
 z146:=Tryz.sizeOf254
 v146:=Tryz.zeroValue254
 g1:=by kernel_rfl
 g3:=by kernel_rfl
 g4:=by kernel_rfl }
def Tryz.lays152_ren:Go.Shelf.Ren:=⟨fun | 152=>205 | 137=>212 | 119=>213 | 224=>214 | 225=>215 | 217=>220 | 266=>223 | n=>n,fun | 9=>9 | 21=>21 | 3=>3 | 4=>4 | 5=>5 | 0=>0 | 46=>153 | n=>n,fun | n=>n⟩
theorem Tryz.lays152:Go.Proofs.Lays.n152 Tryz.prog Tryz.lays152_ren:={
 mixed:=by kernel_rfl
 f119:=Tryz.func213.trans (congrArg some (by kernel_rfl))
 f137:=Tryz.func212.trans (congrArg some (by kernel_rfl))
 f152:=Tryz.func205.trans (congrArg some (by kernel_rfl))
 f217:=Tryz.func220.trans (congrArg some (by kernel_rfl))
 f224:=Tryz.func214.trans (congrArg some (by kernel_rfl))
 f225:=Tryz.func215.trans (congrArg some (by kernel_rfl))
 f266:=Tryz.func223.trans (congrArg some (by kernel_rfl))
 t0:=Tryz.underlying0
 a0:=Tryz.isAgg0
 z0:=Tryz.sizeOf0
 v0:=Tryz.zeroValue0
 t3:=Tryz.underlying3
 a3:=Tryz.isAgg3
 z3:=Tryz.sizeOf3
 v3:=Tryz.zeroValue3
 t4:=Tryz.underlying4
 a4:=Tryz.isAgg4
 z4:=Tryz.sizeOf4
 v4:=Tryz.zeroValue4
 t5:=Tryz.underlying5
 a5:=Tryz.isAgg5
 z5:=Tryz.sizeOf5
 v5:=Tryz.zeroValue5
 t9:=Tryz.underlying9
 a9:=Tryz.isAgg9
 z9:=Tryz.sizeOf9
 v9:=Tryz.zeroValue9
 t21:=Tryz.underlying21
 a21:=Tryz.isAgg21
 z21:=Tryz.sizeOf21
 v21:=Tryz.zeroValue21
 t46:=Tryz.underlying153
 a46:=Tryz.isAgg153
 z46:=Tryz.sizeOf153
 v46:=Tryz.zeroValue153 }
def Tryz.lays226_ren:Go.Shelf.Ren:=⟨fun | 226=>206 | n=>n,fun | 3=>3 | 4=>4 | n=>n,fun | n=>n⟩
theorem Tryz.lays226:Go.Proofs.Lays.n226 Tryz.prog Tryz.lays226_ren:={
 mixed:=by kernel_rfl
 f226:=Tryz.func206.trans (congrArg some (by kernel_rfl))
 t3:=Tryz.underlying3
 a3:=Tryz.isAgg3
 z3:=Tryz.sizeOf3
 v3:=Tryz.zeroValue3
 t4:=Tryz.underlying4
 a4:=Tryz.isAgg4
 z4:=Tryz.sizeOf4
 v4:=Tryz.zeroValue4 }
def Tryz.lays153_ren:Go.Shelf.Ren:=⟨fun | 153=>202 | 152=>205 | 226=>206 | 227=>207 | 228=>208 | 137=>212 | 119=>213 | 224=>214 | 225=>215 | 217=>220 | 266=>223 | n=>n,fun | 9=>9 | 3=>3 | 4=>4 | 5=>5 | 21=>21 | 117=>240 | 116=>239 | 0=>0 | 46=>153 | 124=>247 | n=>n,fun | n=>n⟩
theorem Tryz.lays153:Go.Proofs.Lays.n153 Tryz.prog Tryz.lays153_ren:={
 mixed:=by kernel_rfl
 f119:=Tryz.func213.trans (congrArg some (by kernel_rfl))
 f137:=Tryz.func212.trans (congrArg some (by kernel_rfl))
 f152:=Tryz.func205.trans (congrArg some (by kernel_rfl))
 f153:=Tryz.func202.trans (congrArg some (by kernel_rfl))
 f217:=Tryz.func220.trans (congrArg some (by kernel_rfl))
 f224:=Tryz.func214.trans (congrArg some (by kernel_rfl))
 f225:=Tryz.func215.trans (congrArg some (by kernel_rfl))
 f226:=Tryz.func206.trans (congrArg some (by kernel_rfl))
 f227:=Tryz.func207.trans (congrArg some (by kernel_rfl))
 f228:=Tryz.func208.trans (congrArg some (by kernel_rfl))
 f266:=Tryz.func223.trans (congrArg some (by kernel_rfl))
 t0:=Tryz.underlying0
 a0:=Tryz.isAgg0
 z0:=Tryz.sizeOf0
 v0:=Tryz.zeroValue0
 t3:=Tryz.underlying3
 a3:=Tryz.isAgg3
 z3:=Tryz.sizeOf3
 v3:=Tryz.zeroValue3
 t4:=Tryz.underlying4
 a4:=Tryz.isAgg4
 z4:=Tryz.sizeOf4
 v4:=Tryz.zeroValue4
 t5:=Tryz.underlying5
 a5:=Tryz.isAgg5
 z5:=Tryz.sizeOf5
 v5:=Tryz.zeroValue5
 t9:=Tryz.underlying9
 a9:=Tryz.isAgg9
 z9:=Tryz.sizeOf9
 v9:=Tryz.zeroValue9
 t21:=Tryz.underlying21
 a21:=Tryz.isAgg21
 z21:=Tryz.sizeOf21
 v21:=Tryz.zeroValue21
 t46:=Tryz.underlying153
 a46:=Tryz.isAgg153
 z46:=Tryz.sizeOf153
 v46:=Tryz.zeroValue153
 t116:=Tryz.underlying239
 a116:=Tryz.isAgg239
 z116:=Tryz.sizeOf239
 t117:=Tryz.underlying240
 a117:=Tryz.isAgg240
 z117:=Tryz.sizeOf240
 v117:=Tryz.zeroValue240
 t124:=Tryz.underlying247
 a124:=Tryz.isAgg247
 z124:=Tryz.sizeOf247
 v124:=Tryz.zeroValue247 }
end Go.Proofs
namespace Go.Proofs.YtpjkbgdkligpdaaGreatDoor
open Go.RowKit

def lvs (l:List UInt8):List ByteArray:=(lvl l).map fun x=>⟨x.toArray⟩
theorem qrr (l:List UInt8):dats (lvs l)=lvl l:=by
 unfold dats lvs;rw[List.map_map];exact List.map_id'' (fun x=>rfl) _
theorem qec (l:List UInt8):(lvs l).length=(lvl l).length:=by simp[lvs]
theorem lvs_of {ss:List ByteArray} {l:List UInt8} (h:dats ss=lvl l):ss=lvs l:=dats_inj (by rw[h,qrr])
theorem qem:∀l:List UInt8,(lvl l).length≤l.length+1
 |[]=>Nat.le_refl _
 |c :: r=>by
  have:=qem r
  by_cases h:c=47
  ·subst h;rw[qhs];simp;exact this
  ·rw[qhr h,pre_length _ (lvl_ne r),List.length_cons];omega

def LvInv (l:List UInt8) (done:List (List UInt8)) (f k:Nat):Prop :=
 f≤k∧done.length≤k∧((k≤l.length∧lvl l=done++pre ((l.drop f).take (k-f)) (lvl (l.drop k)))∨(k=l.length+1∧done=lvl l))

theorem LvInv.start (l:List UInt8):LvInv l [] 0 0:=⟨Nat.le_refl _,Nat.le_refl _,.inl ⟨Nat.zero_le _,by simp[pre_nil (lvl_ne l)]⟩⟩
theorem LvInv.skip {l:List UInt8} {done:List (List UInt8)} {f k:Nat} (h:LvInv l done f k) (hk:k<l.length) (hc:l.getD k 0≠47):LvInv l done f (k+1):=by
 obtain⟨hf,hd,h | ⟨h,_⟩⟩:=h
 ·refine⟨by omega,by omega,.inl ⟨hk,?_⟩⟩;have e:l.drop k=l.getD k 0 :: l.drop (k+1):=by
   rw[List.drop_eq_getElem_cons hk];simp[List.getD_eq_getElem?_getD,List.getElem?_eq_getElem hk]
  rw[h.2,e,qhr hc,pre_pre]
  congr 2
  have hlen:k-f<(l.drop f).length:=by rw[List.length_drop];omega
  rw[show k+1-f=k-f+1 by omega,List.take_succ_eq_append_getElem hlen,List.getElem_drop]
  congr 2
  simp only[List.getD_eq_getElem?_getD,show f+(k-f)=k by omega,List.getElem?_eq_getElem hk,Option.getD_some]
 ·omega
theorem LvInv.cut {l:List UInt8} {done:List (List UInt8)} {f k:Nat} (h:LvInv l done f k) (hk:k<l.length) (hc:l.getD k 0=47):LvInv l (done++[(l.drop f).take (k-f)]) (k+1) (k+1):=by
 obtain⟨hf,hd,h | ⟨h,_⟩⟩:=h
 ·refine⟨Nat.le_refl _,by simp;omega,.inl ⟨hk,?_⟩⟩;have e:l.drop k=l.getD k 0 :: l.drop (k+1):=by
   rw[List.drop_eq_getElem_cons hk];simp[List.getD_eq_getElem?_getD,List.getElem?_eq_getElem hk]
  rw[h.2,e,hc,qhs,Nat.sub_self,List.take_zero,pre_nil (lvl_ne _)];simp[pre]
 ·omega
theorem LvInv.last {l:List UInt8} {done:List (List UInt8)} {f k:Nat} (h:LvInv l done f k) (hk:k=l.length):LvInv l (done++[(l.drop f).take (k-f)]) (k+1) (k+1):=by
 obtain⟨hf,hd,h | ⟨h,_⟩⟩:=h
 ·refine⟨Nat.le_refl _,by simp;omega,.inr ⟨by omega,?_⟩⟩;rw[h.2,hk,List.drop_length,lvl_nil];simp[pre]
 ·omega

theorem sown_lit0 (w:World):SOwn (w.alloc (.cells #[] 9)) w.heap.size (some ⟨w.heap.size,0,none⟩) 0 0 [] :=
 ⟨rfl,rfl,.inr ⟨w.heap.size,0,#[],rfl,Nat.le_refl _,heap_alloc_new w _,Nat.le_refl _,Nat.zero_le _,rfl,rfl⟩⟩

theorem byte_at (s:ByteArray) (k:Nat) (h:k<s.size):s.data.toList.getD k 0=s[k]'h:=by
 simp[List.getD_eq_getElem?_getD,at_data s k h]
theorem byte_lit (x y:UInt8) (c:Int) (hc:c=(y.toNat:Int)):((x.toNat:Int)==c)=(y==x):=by
 subst hc;rw[Bool.eq_iff_iff,beq_iff_eq,beq_iff_eq];exact⟨fun e=>(UInt8.toNat_inj.1 (by omega)).symm,fun e=>by rw[e]⟩
theorem qsv (ss:List ByteArray) (u:ByteArray):dats (ss++[u])=dats ss++[u.data.toList]:=by simp[dats]

theorem new_cell (w:World) (v:Value) (t:TypeId):(w.alloc (.cells #[v] t)).cell? ⟨w.heap.size,0,none⟩ = some v:=by
 rw[World.cell?_alloc_at _ _ _ _ rfl];rfl
theorem qqh {w w1 w2:World} {B:Nat} {ao:Option Addr} {n cap:Nat} {ss:List ByteArray} (hb:Below B w w1) (hB:B≤w1.heap.size) (ho:SOwn w1 B ao n cap ss) (hg:w1.grownBy w2 (Value.slice ao n cap).ownBlock):Below B w w2 :=
 hb.grown hg hB (fun k hk=>(ho.2.lt k hk).1)

theorem qpg (s:ByteArray) (n:Nat) (w:World) (hs:s.size≤1048576) (hN:(lvl s.data.toList).length=n) :
  Calls Tryz.prog 120 #[.string s] w fun e w'=>∃ao cap,e=.returned (.slice ao n cap)∧SOwn w' w.heap.size ao n cap (lvs s.data.toList)∧Below w.heap.size w w':=by
 have HN:Hid ((lvl s.data.toList).length=n):=hN;have H1:Hid (s.size=s.data.toList.length):=rfl;clear hN;go_enter Tryz.func120,Tryz.ntmps120;go_wp2;have ho0:=sown_lit0 w;have hb0:Below w.heap.size w (w.alloc (.cells #[] 9)):=(Below.refl _ _).alloc (Nat.le_refl _) _
 go_loopw [3,4,5] (fun o q i wr=>∃(k f m cap:Nat) (ao:Option Addr) (ss:List ByteArray),i=.int .i64 k∧q=.int .i64 f∧o=.slice ao m cap∧k≤s.size+1∧LvInv s.data.toList (dats ss) f k∧SOwn wr w.heap.size ao m cap ss∧Below w.heap.size w wr) (fun _ _ i _=>s.size+1-(intOf i).toNat)
 case atStart=>exact⟨0,0,0,0,_,[],rfl,rfl,rfl,Nat.zero_le _,LvInv.start _,ho0,hb0⟩
 case round=>
  obtain⟨k,f,m,cap,ao,ss,rfl,rfl,rfl,hk,hI,ho,hb⟩:=hrel;clear ho0 hb0;have HI:Hid (LvInv s.data.toList (dats ss) f k):=hI;have hfk:f≤k:=hI.1;have hm:m≤k:=by have:=hI.2.1;rw[qur,ho.1] at this;exact this
  clear hI
  by_cases hk1:k≤s.size
  ·have hk1':(k:Int)≤s.size:=by omega
   have hX:Hid ((s.extract f k).data.toList=(s.data.toList.drop f).take (k-f)):=Lib.extract_data s f k;have hfk':(f:Int)≤k:=by omega
   by_cases hkl:k<s.size
   ·have hke:((k:Int)==(s.size:Int))=false:=by simp;omega
    have hbt:=byte_at s k hkl
    by_cases hc:s[k]'hkl=47
    ·have hc':(((s[k]'hkl).toNat:Int)==47)=true:=by rw[hc];rfl
     have HI2:Hid (LvInv s.data.toList (dats (ss++[s.extract f k])) (k+1) (k+1)):=by
      unfold Hid;rw[qsv,hX.out];exact HI.out.cut (by rw[←H1.out];exact hkl) (hbt.trans hc)
     clear hbt hc;go_wp2_with (at_builtin;refine w_sapp _ rfl _ _ rfl w.heap.size ao m cap ss rfl (ho.below ((Below.refl _ _).alloc (Nat.le_refl _) _)) wr.heap.size (s.extract f k) rfl (new_cell _ _ _) (by omega) (by have:=hb.size;simp;omega) ?_)
     intro ao' cap' w' ho' hg';have hb':=qqh (hb.alloc hb.size _) (by have:=hb.size;simp;omega) (ho.below ((Below.refl _ _).alloc (Nat.le_refl _) _)) hg';clear hg' ho hb hX HI;go_wp2;go_roundw
     case rel=>exact⟨k+1,k+1,m+1,cap',ao',_,by go_num,by go_num,rfl,by omega,HI2.out,ho',hb'⟩
     case measure=>simp[intOf]<;>omega
    ·have hc':(((s[k]'hkl).toNat:Int)==47)=false:=by rw[byte_lit _ 47 47 rfl];exact beq_eq_false_iff_ne.2 (fun e=>hc e.symm)
     have HI2:Hid (LvInv s.data.toList (dats ss) f (k+1)):=HI.out.skip (by rw[←H1.out];exact hkl) (by rw[hbt];exact hc);clear hbt hc hX HI;go_wp2;go_roundw
     case rel=>exact⟨k+1,f,m,cap,ao,ss,by go_num,rfl,rfl,by omega,HI2.out,ho,hb⟩
     case measure=>simp[intOf]<;>omega
   ·obtain rfl:k=s.size:=by omega
    have hke:((s.size:Int)==(s.size:Int))=true:=by simp
    have HI2:Hid (LvInv s.data.toList (dats (ss++[s.extract f s.size])) (s.size+1) (s.size+1)):=by
     unfold Hid;rw[qsv,hX.out];exact HI.out.last H1.out
    go_wp2_with (at_builtin;refine w_sapp _ rfl _ _ rfl w.heap.size ao m cap ss rfl (ho.below ((Below.refl _ _).alloc (Nat.le_refl _) _)) wr.heap.size (s.extract f s.size) rfl (new_cell _ _ _) (by omega) (by have:=hb.size;simp;omega) ?_)
    intro ao' cap' w' ho' hg';have hb':=qqh (hb.alloc hb.size _) (by have:=hb.size;simp;omega) (ho.below ((Below.refl _ _).alloc (Nat.le_refl _) _)) hg';clear hg' ho hb hX HI;go_wp2;go_roundw
    case rel=>exact⟨s.size+1,s.size+1,m+1,cap',ao',_,by go_num,by go_num,rfl,by omega,HI2.out,ho',hb'⟩
    case measure=>simp[intOf]<;>omega
  ·have hk1':¬(k:Int)≤s.size:=by omega
   have hd:dats ss=lvl s.data.toList:=by
    obtain⟨_,_,h | h⟩:=HI.out
    ·have:=H1.out;omega
    ·exact h.2
   have hss:=lvs_of hd;subst hss;have hmn:m=n:=by rw[←HN.out,←ho.1,qec]
   subst hmn;go_wp2;go_ret;exact⟨ao,cap,rfl,ho,hb⟩


theorem qkb (c:UInt8):∀l:List UInt8,Lib.index l [c]=Lib.indexByte l c
 |[]=>rfl
 |b :: l=>by
  rw[Lib.index,Lib.indexByte,qkb c l]
  by_cases h:b=c
  ·subst h;simp[List.isPrefixOf]
  ·have h1:(c==b)=false:=beq_eq_false_iff_ne.2 (fun e=>h e.symm);have h2:(b==c)=false:=beq_eq_false_iff_ne.2 h;simp[List.isPrefixOf,h1,h2]

theorem qtz:∀(f:Nat) (l:List UInt8),l.length≤f→Lib.splitK [47] 0 (Lib.count l [47]) l=lvl l
 |f,l,hf=>by
  by_cases hm:Lib.indexByte l 47 = -1
  ·rw[Lib.count_miss (by rw[qkb];exact hm),Lib.splitK];refine (qtn l fun c hc e=>?_).symm;obtain⟨k,hk,hk'⟩:=List.getElem_of_mem hc;exact Lib.indexByte_none hm k (by rw[List.getElem?_eq_getElem hk,hk',e])
  ·obtain⟨i,hi⟩ : ∃i:Nat,Lib.indexByte l 47=i:=⟨(Lib.indexByte l 47).toNat,by have:=Lib.indexByte_ge l 47;omega⟩;obtain⟨h1,h2⟩:=Lib.indexByte_some hi;obtain⟨hil,h1'⟩:=List.getElem?_eq_some_iff.1 h1;have hx:Lib.index l [47]=i:=by rw[qkb];exact hi
   have e:l=l.take i++47 :: l.drop (i+1):=by
    rw[←h1',List.getElem_cons_drop,List.take_append_drop]
   have hne:¬(Lib.index l [47]==-1)=true:=by rw[hx,beq_iff_eq];omega
   rw[Lib.count_hit (by simp) hx,Nat.add_comm,Lib.splitK,if_neg hne,hx];have hp:∀c∈l.take i,c≠47:=fun c hc e=>by
    obtain⟨k,hk,hk'⟩:=List.getElem_of_mem hc;have hk2:k<i:=by rw[List.length_take] at hk;omega
    refine h2 k hk2 ?_;rw[List.getElem_take] at hk';rw[List.getElem?_eq_getElem (by omega),hk',e]
   conv=>rhs;rw[e]
   rw[lvl_cut _ _ hp];cases f with
   |zero=>omega
   |succ f=>
    have:=qtz f (l.drop (i+1)) (by rw[List.length_drop];omega);simp only[Int.toNat_natCast,Nat.add_zero,List.length_cons,List.length_nil,Nat.zero_add];rw[this]

theorem qua (s:ByteArray):Lib.splitB ⟨#[47]⟩ 0 (Lib.countB s ⟨#[47]⟩) s=lvs s.data.toList:=by
 apply lvs_of
 show (Lib.splitB ⟨#[47]⟩ 0 (Lib.countB s ⟨#[47]⟩) s).map (·.data.toList)=_;rw[Lib.splitB_data];exact qtz _ _ (Nat.le_refl _)
theorem count_lvl (s:ByteArray):Lib.countB s ⟨#[47]⟩+1=(lvl s.data.toList).length:=by
 rw[←qec,←qua,Lib.splitB_all ⟨#[47]⟩ (by decide) 0 _ s rfl]

theorem gen_split (s:ByteArray) (n:Nat) (w:World) (hs:s.size≤1048576) (hN:(lvl s.data.toList).length=n) :
  Calls Tryz.prog 203 #[.string s,.string ⟨#[47]⟩,.int .i64 0,.int .i64 (-1)] w fun e w'=>
   e=.returned (.slice (some ⟨w.heap.size,0,none⟩) n n)∧w'=w.alloc (.cells (svals (lvs s.data.toList)).toArray 9):=by
 have hcl:=count_lvl s;have hle:(lvl s.data.toList).length≤s.size+1:=qem s.data.toList;have c:=Any.strings_genSplit_core Tryz.lays221 info9 s ⟨#[47]⟩ 0 (-1) n w (by omega) (by decide) (Nat.zero_le _)
  (fun x c hx=>(Any.strings_Index_one { Tryz.lays221 with } x 47 _).mono fun e w' ⟨he,hw⟩=>⟨by rw[he,←qkb],hw⟩)
  ((Any.strings_Count_one { Tryz.lays221 with } s 47 w).mono fun e w' ⟨he,hw⟩=>⟨by
   rw[he];show _=Ending.returned (Value.int .i64 ((Lib.count s.data.toList [47]:Nat):Int));rw[Lib.count_one];rfl,hw⟩)
  (by decide) (by decide) (by rw[if_pos (by decide)];omega)
 rw[show n-1=Lib.countB s ⟨#[47]⟩ by omega,qua,qec,hN] at c;have e2:Lib.cellsOf (lvs s.data.toList) n=(svals (lvs s.data.toList)).toArray:=by
  rw[←hN,←qec];exact Lib.cellsOf_full _
 rw[e2] at c;exact c

theorem split_x (s:ByteArray) (n:Nat) (w:World) (hs:s.size≤1048576) (hN:(lvl s.data.toList).length=n) :
  Calls Tryz.prog 200 #[.string s,.string ⟨#[47]⟩] w fun e w'=>
   e=.returned (.slice (some ⟨w.heap.size,0,none⟩) n n)∧w'=w.alloc (.cells (svals (lvs s.data.toList)).toArray 9):=by
 go_enter Tryz.func200,Tryz.ntmps200;go_wp2_with fail
 refine (gen_split s n w hs hN).mono ?_;rintro e w' ⟨rfl,rfl⟩;go_wp2;go_ret;exact⟨rfl,rfl⟩

theorem clone_x (s:ByteArray) (w:World) (hs:s.size≤1048576) :
  Calls Tryz.prog 201 #[.string s] w fun e w'=>e=.returned (.string s)∧Below w.heap.size w w':=by
 go_enter Tryz.func201,Tryz.ntmps201;go_wp2_with fail
 refine (show Calls Tryz.prog 204 #[.string s] w fun e w'=>e=.returned (.string s)∧Below w.heap.size w w' from Any.stringslite_Clone Tryz.laysM316 s w (by omega)).mono ?_;rintro e w' ⟨rfl,hb⟩;go_wp2;go_ret;exact⟨rfl,hb⟩

theorem sown_made (w:World) (ss:List ByteArray) (n:Nat) (hn:ss.length=n) (hm:n≤maxLen):SOwn (w.alloc (.cells (svals ss).toArray 9)) w.heap.size (some ⟨w.heap.size,0,none⟩) n n ss :=
 ⟨hn,by simp[qgx,hn],.inr ⟨w.heap.size,n,(svals ss).toArray,rfl,Nat.le_refl _,heap_alloc_new w _,Nat.le_refl _,hm,by simp[qgx,hn],by simp[qgx,hn];exact List.take_of_length_le (by rw[qgx,hn];exact Nat.le_refl _)⟩⟩

theorem st_set (ss:List ByteArray) (k:Nat):ss.set k (st ss k)=ss:=by
 by_cases h:k<ss.length
 ·have e:st ss k=ss[k]'h:=by simp[st,List.getD_eq_getElem?_getD,List.getElem?_eq_getElem h]
  rw[e,List.set_getElem_self]
 ·rw[List.set_eq_of_length_le (by omega)]

theorem qpm (l:List UInt8) (k:Nat) (h:k<(lvs l).length):(st (lvs l) k).size≤l.length:=by
 have hx:(st (lvs l) k).data.toList∈lvl l:=by
  rw[←qrr l];exact List.mem_map_of_mem (qub h)
 have:∀(l x:List UInt8),x∈lvl l→x.length≤l.length:=by
  intro l
  induction l with
  |nil=>intro x hx;simp[lvl] at hx;subst hx;simp
  |cons c r ih=>
   intro x hx
   by_cases hc:c=47
   ·subst hc;rw[qhs] at hx
    rcases List.mem_cons.1 hx with rfl | hx
    ·simp
    ·have:=ih x hx;simp;omega
   ·rw[qhr hc] at hx;cases hl:lvl r with
    |nil=>exact absurd hl (lvl_ne r)
    |cons a t=>
     rw[hl] at hx;simp only[pre,List.mem_cons] at hx
     rcases hx with rfl | hx
     ·have:=ih a (by rw[hl];simp);simp;omega
     ·have:=ih x (by rw[hl];simp[hx]);simp;omega
 exact this l _ hx

theorem qpf (s:ByteArray) (n:Nat) (w:World) (hs:s.size≤1048576) (hN:(lvl s.data.toList).length=n) :
  Calls Tryz.prog 198 #[.string s] w fun e w'=>e=.returned (.slice (some ⟨w.heap.size,0,none⟩) n n)∧SOwn w' w.heap.size (some ⟨w.heap.size,0,none⟩) n n (lvs s.data.toList)∧Below w.heap.size w w':=by
 have hle:n≤s.size+1:=by rw[←hN];exact qem s.data.toList
 have HV:Hid ((lvs s.data.toList).length=n):=by unfold Hid;rw[qec];exact hN
 have HS:Hid (∀k,k<n→(st (lvs s.data.toList) k).size≤1048576):=fun k hk=>by
  have:=qpm s.data.toList k (by rw[HV.out];exact hk);have e1:s.size=s.data.toList.length:=rfl;omega
 have ho0:=sown_made w (lvs s.data.toList) n HV.out (by unfold maxLen;omega);have hb0:Below w.heap.size w (w.alloc (.cells (svals (lvs s.data.toList)).toArray 9)):=(Below.refl _ _).alloc (Nat.le_refl _) _;have c:=split_x s n w hs hN;generalize (w.alloc (.cells (svals (lvs s.data.toList)).toArray 9))=w0 at *;clear hN;generalize lvs s.data.toList=ss at *;go_enter Tryz.func198,Tryz.ntmps198;go_wp2_with fail
 refine c.mono ?_;rintro e w1 ⟨rfl,hw⟩;subst hw;go_wp2
 go_loopw [10] (fun i wr=>∃k:Nat,i=.int .i64 k∧k≤n∧SOwn wr w.heap.size (some ⟨w.heap.size,0,none⟩) n n ss∧Below w.heap.size w wr) (fun i _=>n-(intOf i).toNat)
 case atStart=>exact⟨0,rfl,Nat.zero_le _,ho0,hb0⟩
 case round=>
  obtain⟨k,rfl,hk,ho,hb⟩:=hrel;clear ho0 hb0
  by_cases hlt:k<n
  ·have hlt':(k:Int)<n:=by omega
   have hz:=ho.cell k hlt;go_wp2_with fail
   refine (clone_x (st ss k) wr (HS.out k hlt)).mono ?_;rintro e w2 ⟨rfl,hb2⟩;have ho2:=ho.below hb2;have hb3:=hb.trans (hb2.mono hb.size);clear hb hb2 ho hz;have hz2:=ho2.cell k hlt;have hf:=ho2.frozen k;have HO:=ho2.store k (st ss k);rw[st_set] at HO;have HO':Hid (SOwn (w2.setCell ⟨w.heap.size,k,none⟩ (.string (st ss k))) w.heap.size (some ⟨w.heap.size,0,none⟩) n n ss):=HO;clear HO ho2;go_wp2;go_roundw
   case rel=>exact⟨k+1,by go_num,by omega,HO'.out,hb3.setCell (Nat.le_refl _) _⟩
   case measure=>simp[intOf]<;>omega
  ·have hlt':¬(k:Int)<n:=by omega
   go_wp2;go_ret;exact⟨rfl,ho,hb⟩


theorem qfn (n:Int):(BitVec.ofInt 64 n).toNat=(n%18446744073709551616).toNat:=by
 rw[BitVec.toNat_ofInt];rfl

theorem qog (m:Nat) (h:m<9223372036854775808):IntKind.i64.wrap (m:Int)=m:=by
 rw[IntKind.wrap_i64];omega

theorem mask7 (n:Int):bits .and .i64 n 7=n%8:=by
 show IntKind.i64.wrap (((BitVec.ofInt 64 n &&& BitVec.ofInt 64 7):BitVec 64).toNat:Int)=_;rw[BitVec.toNat_and,qfn,qfn,show ((7:Int)%18446744073709551616).toNat=2 ^ 3-1 from by decide,Nat.and_two_pow_sub_one_eq_mod];have h:=Nat.mod_lt (n%18446744073709551616).toNat (show 0<2 ^ 3 by decide);rw[show (2:Nat) ^ 3=8 from by decide] at *;rw[qog _ (by omega)];omega

theorem mask15 (n:Int):bits .and .i64 n 15=n%16:=by
 show IntKind.i64.wrap (((BitVec.ofInt 64 n &&& BitVec.ofInt 64 15):BitVec 64).toNat:Int)=_;rw[BitVec.toNat_and,qfn,qfn,show ((15:Int)%18446744073709551616).toNat=2 ^ 4-1 from by decide,Nat.and_two_pow_sub_one_eq_mod];have h:=Nat.mod_lt (n%18446744073709551616).toNat (show 0<2 ^ 4 by decide);rw[show (2:Nat) ^ 4=16 from by decide] at *;rw[qog _ (by omega)];omega

theorem mask31 (n:Int):bits .and .i64 n 31=n%32:=by
 show IntKind.i64.wrap (((BitVec.ofInt 64 n &&& BitVec.ofInt 64 31):BitVec 64).toNat:Int)=_;rw[BitVec.toNat_and,qfn,qfn,show ((31:Int)%18446744073709551616).toNat=2 ^ 5-1 from by decide,Nat.and_two_pow_sub_one_eq_mod];have h:=Nat.mod_lt (n%18446744073709551616).toNat (show 0<2 ^ 5 by decide);rw[show (2:Nat) ^ 5=32 from by decide] at *;rw[qog _ (by omega)];omega

theorem qvd (n:Int):bits .and .i64 n 255=n%256:=by
 show IntKind.i64.wrap (((BitVec.ofInt 64 n &&& BitVec.ofInt 64 255):BitVec 64).toNat:Int)=_;rw[BitVec.toNat_and,qfn,qfn,show ((255:Int)%18446744073709551616).toNat=2 ^ 8-1 from by decide,Nat.and_two_pow_sub_one_eq_mod];have h:=Nat.mod_lt (n%18446744073709551616).toNat (show 0<2 ^ 8 by decide);rw[show (2:Nat) ^ 8=256 from by decide] at *;rw[qog _ (by omega)];omega

