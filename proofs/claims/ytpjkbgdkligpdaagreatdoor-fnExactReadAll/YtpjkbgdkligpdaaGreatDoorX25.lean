/- Lemmas. -/
import Derived.Deep.CutBlock
import Derived.Deep.DeepCutAuto
import Derived.Test.YtpjkbgdkligpdaaGreatDoorX23
import Derived.Test.YtpjkbgdkligpdaaGreatDoorX24
set_option linter.unusedVariables false
set_option linter.unusedSimpArgs false
set_option maxRecDepth 100000
set_option maxHeartbeats 20000000
namespace Go.Proofs.YtpjkbgdkligpdaaGreatDoor
open Go.RowKit

theorem qhp {l:List UInt8} {p k:Nat} {x:ByteArray} (h:gT l p=some (x,k)):x.size≤61:=by
 unfold gT getT at h;cases e:getL l (p:Int) with
 |none=>rw[e] at h;cases h
 |some y=>
  obtain⟨y,q⟩:=y;obtain⟨_,m,_,_,_,h60,_,_,_,hy⟩:=qey e;rw[e] at h;simp only at h
  split at h
  ·rename_i z2 h2
   split at h2
   ·simp only[Option.some.injEq,Prod.mk.injEq] at h h2;obtain⟨rfl,rfl⟩:=h2;rw[←h.1];show y.toArray.size≤61;simp;omega
   ·cases h2
  ·cases h
theorem qhu (l:List UInt8) (p:Nat) (e:Bool):(rd gT ByteArray.empty l (p,e)).1.size≤61:=by
 cases h:gT l p with
 |none=>rw[rd_no h];exact Nat.zero_le _
 |some xk=>obtain⟨x,k⟩:=xk;rw[qch h];exact qhp h
theorem gL_len {l x:List UInt8} {p k:Nat} (h:gL l p=some (x,k)):x.length≤60:=by
 obtain⟨_,m,_,_,_,h60,_,_,_,hy⟩:=qey h;omega
theorem qoo (l:List UInt8) (p:Nat) (e:Bool):(rd gL [] l (p,e)).1.length≤60:=by
 cases h:gL l p with
 |none=>rw[rd_no h];simp
 |some xk=>obtain⟨x,k⟩:=xk;rw[qch h];exact gL_len h
theorem rd_le {α:Type} (g:List UInt8→Nat→Option (α×Nat)) (hg:∀l p x k,g l p=some (x,k)→k≤l.length) (d:α) (l:List UInt8) (s:Nat×Bool):(rd g d l s).2.1≤l.length:=by
 unfold rd;cases h:g l s.1 with
 |none=>exact Nat.le_refl _
 |some xk=>obtain⟨x,k⟩:=xk;exact hg l s.1 x k h
theorem le_T:∀l p x k,gT l p=some (x,k)→k≤l.length:=fun l p x k h=>(onw_T l p x k h).2
theorem le_W:∀l p x k,gW l p=some (x,k)→k≤l.length:=by
 intro l p x k h;unfold gW at h
 split at h
 ·simp only[Option.some.injEq,Prod.mk.injEq] at h;omega
 ·cases h
theorem gB_lt {l:List UInt8} {p k:Nat} {x:Int} (h:gB l p=some (x,k)):0≤x∧x<256:=by
 unfold gB at h
 split at h
 ·simp only[Option.some.injEq,Prod.mk.injEq] at h;have:=bt_lt l p;omega
 ·cases h
theorem rdB_lt (l:List UInt8) (s:Nat×Bool):0≤(rd gB 0 l s).1∧(rd gB 0 l s).1<256:=by
 unfold rd;cases h:gB l s.1 with
 |none=>simp
 |some xk=>obtain⟨x,k⟩:=xk;exact gB_lt h
def RtOut (w0 y:World) (q r b:Nat) (ao:Option Addr) (n cap:Nat) (v:Pv×Nat×Bool):Prop:=∃p d,Rt w0 y q r b ao n cap v.2.1 v.2.2 p d∧v.1=pv p d
theorem RtOut.mk {w0 y:World} {q r b:Nat} {ao:Option Addr} {n cap z:Nat} {e:Bool} {p:Pk} {d:Pd} {v:Pv×Nat×Bool} (s:Rt w0 y q r b ao n cap z e p d) (h:v=(pv p d,z,e)):RtOut w0 y q r b ao n cap v:=by
 subst h;exact⟨p,d,s,rfl⟩
theorem le_B:∀l p x k,gB l p=some (x,k)→k≤l.length:=fun l p x k h=>(onw_B l p x k h).2
theorem le_L:∀l p x k,gL l p=some (x,k)→k≤l.length:=by
 intro l p x k h;obtain⟨p',m,e1,e2,e3,e4,e5,e6,e7,e8⟩:=qey h;omega
theorem le_R:∀l p x k,gR l p=some (x,k)→k≤l.length:=by
 intro l p x k h;unfold gR at h;simp only[Option.some.injEq,Prod.mk.injEq] at h;omega
theorem rdR_len (l:List UInt8) (p:Nat) (e:Bool) (h:l.length≤1048576):(rd gR [] l (p,e)).1.length≤1048576:=by
 show (l.drop p).length≤_;rw[List.length_drop];omega
theorem read_pub (w0 y:World) (q r b:Nat) (ao:Option Addr) (n cap:Nat) (l:List UInt8) (p:Pk) (d:Pd) (s:Rt w0 y q r b ao n cap 0 false p d) (hr:RdIn w0 ao n cap l) (hn:n≤1048576) :
  Calls Tryz.prog 153 #[.pointer (some ⟨q,0,none⟩),.pointer (some ⟨b,0,none⟩)] y fun e' y'=>e'=.returned (.tuple #[])∧RtOut w0 y' q r b ao n cap (iPub l (pv p d)):=by
 have HR:Hid (RdIn w0 ao n cap l):=hr;have hl:=hr.1.1;clear hr;go_enter Tryz.func153,Tryz.ntmps153;go_wp2_with fail
 refine (qde q ao n cap _ _ l _ s.rdr (HR.out.below s.gro) hn).mono ?_;rintro er y1 ⟨rfl,R1,g1⟩;have hz1:=rd_le gT le_T ByteArray.empty l (0,false);have hs1:=qhu l 0 false;generalize hk1:rd gT ByteArray.empty l (0,false)=k1 at *;obtain⟨x1,z1,e1⟩:=k1;have H1:Hid (rd gT ByteArray.empty l (0,false)=(x1,z1,e1)):=hk1;clear hk1;simp only at R1 hz1 hs1 ⊢;replace s:=s.read R1 g1;clear R1 g1;have c5:=(s.blk.cell 5).trans (Pk.c5 _);have f5:=Lib.frozen_of_heap s.blk 5;replace s:=s.s5 x1 hs1;have c2_:=(s.blk.cell 2).trans (Pk.c2 _)
 by_cases hq:0<p.qos
 ·go_wp2_with fail
  refine (qdw q ao n cap _ _ l _ s.rdr (HR.out.below s.gro) hn).mono ?_;rintro er y2 ⟨rfl,R2,g2⟩;have hz2:=rd_le gW le_W 0 l (z1,e1);generalize hk2:rd gW 0 l (z1,e1)=k2 at *;obtain⟨x2,z2,e2⟩:=k2;have H2:Hid (rd gW 0 l (z1,e1)=(x2,z2,e2)):=hk2;clear hk2;simp only at R2 hz2 ⊢;replace s:=s.read R2 g2;clear R2 g2;have c4:=(s.blk.cell 4).trans (Pk.c4 _);have f4:=Lib.frozen_of_heap s.blk 4;replace s:=s.s4 x2;go_wp2_with fail
  refine (qmc q ao n cap _ _ l _ s.rdr (HR.out.below s.gro) hn (by omega)).mono ?_;rintro er y3 ⟨a3,c3,rfl,O3,R3,g3⟩;have hz3:=rd_le gR le_R [] l (z2,e2);have hs3:(rd gR [] l (z2,e2)).1.length≤1048576:=rdR_len l z2 e2 (by omega);generalize hk3:rd gR [] l (z2,e2)=k3 at *;obtain⟨x3,z3,e3⟩:=k3;have H3:Hid (rd gR [] l (z2,e2)=(x3,z3,e3)):=hk3;clear hk3;simp only at O3 R3 hz3 hs3 ⊢;have s_:=s.read R3 g3;have c6:=(s_.blk.cell 6).trans (Pk.c6 _);have f6:=Lib.frozen_of_heap s_.blk 6;replace s:=s.n6 R3 g3 O3 (by omega);clear R3 g3 O3 s_;go_wp2
  go_end0
  refine⟨rfl,RtOut.mk s ?_⟩;unfold iPub;simp only[H1.out];rw[if_pos (show 0<(pv p d).qos from hq)];simp only[H2.out,H3.out];rfl
 ·go_wp2_with fail
  refine (qmc q ao n cap _ _ l _ s.rdr (HR.out.below s.gro) hn (by omega)).mono ?_;rintro er y2 ⟨a2,c2,rfl,O2,R2,g2⟩;have hz2:=rd_le gR le_R [] l (z1,e1);have hs2:(rd gR [] l (z1,e1)).1.length≤1048576:=rdR_len l z1 e1 (by omega);generalize hk2:rd gR [] l (z1,e1)=k2 at *;obtain⟨x2,z2,e2⟩:=k2;have H2:Hid (rd gR [] l (z1,e1)=(x2,z2,e2)):=hk2;clear hk2;simp only at O2 R2 hz2 hs2 ⊢;have s_:=s.read R2 g2;have c6:=(s_.blk.cell 6).trans (Pk.c6 _);have f6:=Lib.frozen_of_heap s_.blk 6;replace s:=s.n6 R2 g2 O2 (by omega);clear R2 g2 O2 s_;go_wp2
  go_end0
  refine⟨rfl,RtOut.mk s ?_⟩;unfold iPub;simp only[H1.out];rw[if_neg (show ¬0<(pv p d).qos from by show ¬0<p.qos;omega)];simp only[H2.out];rfl
theorem fl_bits2 (x:Int) (h0:0≤x) (h1:x<256):(bits BinOp.and IntKind.i64 x 2 != 0)=fl x 2:=by
 have h:∀y:Fin 256,(bits BinOp.and IntKind.i64 (y.val:Int) 2 != 0)=fl y.val 2:=by decide +kernel
 obtain⟨k,rfl⟩:=Int.eq_ofNat_of_zero_le h0;exact h ⟨k,by omega⟩
theorem fl_bits4 (x:Int) (h0:0≤x) (h1:x<256):(bits BinOp.and IntKind.i64 x 4 != 0)=fl x 4:=by
 have h:∀y:Fin 256,(bits BinOp.and IntKind.i64 (y.val:Int) 4 != 0)=fl y.val 4:=by decide +kernel
 obtain⟨k,rfl⟩:=Int.eq_ofNat_of_zero_le h0;exact h ⟨k,by omega⟩
theorem fl_bits32 (x:Int) (h0:0≤x) (h1:x<256):(bits BinOp.and IntKind.i64 x 32 != 0)=fl x 32:=by
 have h:∀y:Fin 256,(bits BinOp.and IntKind.i64 (y.val:Int) 32 != 0)=fl y.val 32:=by decide +kernel
 obtain⟨k,rfl⟩:=Int.eq_ofNat_of_zero_le h0;exact h ⟨k,by omega⟩
theorem fl_bits128 (x:Int) (h0:0≤x) (h1:x<256):(bits BinOp.and IntKind.i64 x 128 != 0)=fl x 128:=by
 have h:∀y:Fin 256,(bits BinOp.and IntKind.i64 (y.val:Int) 128 != 0)=fl y.val 128:=by decide +kernel
 obtain⟨k,rfl⟩:=Int.eq_ofNat_of_zero_le h0;exact h ⟨k,by omega⟩
theorem fl_bits64 (x:Int) (h0:0≤x) (h1:x<256):(bits BinOp.and IntKind.i64 x 64 != 0)=fl x 64:=by
 have h:∀y:Fin 256,(bits BinOp.and IntKind.i64 (y.val:Int) 64 != 0)=fl y.val 64:=by decide +kernel
 obtain⟨k,rfl⟩:=Int.eq_ofNat_of_zero_le h0;exact h ⟨k,by omega⟩
theorem fl_24 (x:Int) (h0:0≤x) (h1:x<256):wrap64 ((bits BinOp.and IntKind.i64 x 24).tdiv 8)=x / 8%4:=by
 have h:∀y:Fin 256,wrap64 ((bits BinOp.and IntKind.i64 (y.val:Int) 24).tdiv 8)=(y.val:Int) / 8%4:=by decide +kernel
 obtain⟨k,rfl⟩:=Int.eq_ofNat_of_zero_le h0;exact h ⟨k,by omega⟩
theorem read_con (w0 y:World) (q r b:Nat) (ao:Option Addr) (n cap:Nat) (l:List UInt8) (p:Pk) (d:Pd) (s:Rt w0 y q r b ao n cap 0 false p d) (hr:RdIn w0 ao n cap l) (hn:n≤1048576) :
  Calls Tryz.prog 150 #[.pointer (some ⟨q,0,none⟩),.pointer (some ⟨b,0,none⟩)] y fun e' y'=>e'=.returned (.tuple #[])∧RtOut w0 y' q r b ao n cap (iCon l (pv p d)):=by
 have HR:Hid (RdIn w0 ao n cap l):=hr;have hl:=hr.1.1;clear hr;go_enter Tryz.func150,Tryz.ntmps150;go_wp2_with fail
 refine (qde q ao n cap _ _ l _ s.rdr (HR.out.below s.gro) hn).mono ?_;rintro er y1 ⟨rfl,R1,g1⟩;have hz1:=rd_le gT le_T ByteArray.empty l (0,false);have hs1:=qhu l 0 false;generalize hk1:rd gT ByteArray.empty l (0,false)=k1 at *;obtain⟨x1,z1,e1⟩:=k1;have H1:Hid (rd gT ByteArray.empty l (0,false)=(x1,z1,e1)):=hk1;clear hk1;simp only at R1 hz1 hs1 ⊢;replace s:=s.read R1 g1;clear R1 g1;go_wp2_with fail
 refine (qfc q ao n cap _ _ l _ s.rdr (HR.out.below s.gro) hn).mono ?_;rintro er y2 ⟨rfl,R2,g2⟩;have hz2:=rd_le gB le_B 0 l (z1,e1);have hs2:=rdB_lt l (z1,e1);generalize hk2:rd gB 0 l (z1,e1)=k2 at *;obtain⟨x2,z2,e2⟩:=k2;have H2:Hid (rd gB 0 l (z1,e1)=(x2,z2,e2)):=hk2;clear hk2;simp only at R2 hz2 hs2 ⊢;replace s:=s.read R2 g2;clear R2 g2;have c8:=(s.blk.cell 8).trans (Pk.c8 _);have f8:=Lib.frozen_of_heap s.blk 8;replace s:=s.s8 x2;go_wp2_with fail
 refine (qfc q ao n cap _ _ l _ s.rdr (HR.out.below s.gro) hn).mono ?_;rintro er y3 ⟨rfl,R3,g3⟩;have hz3:=rd_le gB le_B 0 l (z2,e2);have hs3:=rdB_lt l (z2,e2);generalize hk3:rd gB 0 l (z2,e2)=k3 at *;obtain⟨x3,z3,e3⟩:=k3;have H3:Hid (rd gB 0 l (z2,e2)=(x3,z3,e3)):=hk3;clear hk3;simp only at R3 hz3 hs3 ⊢;replace s:=s.read R3 g3;clear R3 g3;obtain⟨hx3a,hx3b⟩:=hs3;obtain⟨f2,hf2⟩ : ∃f,(bits BinOp.and IntKind.i64 x3 2 != 0)=f:=⟨_,rfl⟩;have F2:Hid (fl x3 2=f2):=by unfold Hid;rw[←hf2];exact (fl_bits2 x3 hx3a hx3b).symm
 obtain⟨f4,hf4⟩ : ∃f,(bits BinOp.and IntKind.i64 x3 4 != 0)=f:=⟨_,rfl⟩;have F4:Hid (fl x3 4=f4):=by unfold Hid;rw[←hf4];exact (fl_bits4 x3 hx3a hx3b).symm
 obtain⟨f32,hf32⟩ : ∃f,(bits BinOp.and IntKind.i64 x3 32 != 0)=f:=⟨_,rfl⟩;have F32:Hid (fl x3 32=f32):=by unfold Hid;rw[←hf32];exact (fl_bits32 x3 hx3a hx3b).symm
 obtain⟨f128,hf128⟩ : ∃f,(bits BinOp.and IntKind.i64 x3 128 != 0)=f:=⟨_,rfl⟩;have F128:Hid (fl x3 128=f128):=by unfold Hid;rw[←hf128];exact (fl_bits128 x3 hx3a hx3b).symm
 obtain⟨f64,hf64⟩ : ∃f,(bits BinOp.and IntKind.i64 x3 64 != 0)=f:=⟨_,rfl⟩;have F64:Hid (fl x3 64=f64):=by unfold Hid;rw[←hf64];exact (fl_bits64 x3 hx3a hx3b).symm
 obtain⟨v24,hv24⟩ : ∃v,bits BinOp.and IntKind.i64 x3 24=v:=⟨_,rfl⟩;have V24:Hid (x3 / 8%4=wrap64 (v24.tdiv 8)):=by unfold Hid;rw[←hv24];exact (fl_24 x3 hx3a hx3b).symm
 clear hx3a hx3b;have c9:=(s.blk.cell 9).trans (Pk.c9 _);have f9:=Lib.frozen_of_heap s.blk 9;have c11:=(s.blk.cell 11).trans (Pk.c11 _);have f11:=Lib.frozen_of_heap s.blk 11;have c15:=(s.blk.cell 15).trans (Pk.c15 _);have f15:=Lib.frozen_of_heap s.blk 15
 go_upto_region 4 with fail
 replace s:=s.s9 f2;replace s:=s.s11 f4;replace s:=s.s15 f32;have c16:=(s.blk.cell 16).trans (Pk.c16 _);have f16:=Lib.frozen_of_heap s.blk 16;have c18:=(s.blk.cell 18).trans (Pk.c18 _);have f18:=Lib.frozen_of_heap s.blk 18
 go_upto_region 5 with fail
 replace s:=s.s16 f128;replace s:=s.s18 f64;have c14:=(s.blk.cell 14).trans (Pk.c14 _);have f14:=Lib.frozen_of_heap s.blk 14
 go_upto_region 6 with fail
 replace s:=s.s14 (wrap64 (v24.tdiv 8));clear hf2 hf4 hf32 hf128 hf64 hv24;go_wp2_with fail
 refine (qdw q ao n cap _ _ l _ s.rdr (HR.out.below s.gro) hn).mono ?_;rintro er y4 ⟨rfl,R4,g4⟩;have hz4:=rd_le gW le_W 0 l (z3,e3);generalize hk4:rd gW 0 l (z3,e3)=k4 at *;obtain⟨x4,z4,e4⟩:=k4;have H4:Hid (rd gW 0 l (z3,e3)=(x4,z4,e4)):=hk4;clear hk4;simp only at R4 hz4 ⊢;replace s:=s.read R4 g4;clear R4 g4;have c10:=(s.blk.cell 10).trans (Pk.c10 _);have f10:=Lib.frozen_of_heap s.blk 10;replace s:=s.s10 x4;go_wp2_with fail
 refine (qde q ao n cap _ _ l _ s.rdr (HR.out.below s.gro) hn).mono ?_;rintro er y5 ⟨rfl,R5,g5⟩;have hz5:=rd_le gT le_T ByteArray.empty l (z4,e4);have hs5:=qhu l z4 e4;generalize hk5:rd gT ByteArray.empty l (z4,e4)=k5 at *;obtain⟨x5,z5,e5⟩:=k5;have H5:Hid (rd gT ByteArray.empty l (z4,e4)=(x5,z5,e5)):=hk5;clear hk5;simp only at R5 hz5 hs5 ⊢;replace s:=s.read R5 g5;clear R5 g5;have c7:=(s.blk.cell 7).trans (Pk.c7 _);have f7:=Lib.frozen_of_heap s.blk 7;replace s:=s.s7 x5 hs5;have c11_:=(s.blk.cell 11).trans (Pk.c11 _);cases f4 with
 |true=>
  go_wp2_with fail
  refine (qde q ao n cap _ _ l _ s.rdr (HR.out.below s.gro) hn).mono ?_;rintro er y6 ⟨rfl,R6,g6⟩;have hz6:=rd_le gT le_T ByteArray.empty l (z5,e5);have hs6:=qhu l z5 e5;generalize hk6:rd gT ByteArray.empty l (z5,e5)=k6 at *;obtain⟨x6,z6,e6⟩:=k6;have H6:Hid (rd gT ByteArray.empty l (z5,e5)=(x6,z6,e6)):=hk6;clear hk6;simp only at R6 hz6 hs6 ⊢;replace s:=s.read R6 g6;clear R6 g6;have c12:=(s.blk.cell 12).trans (Pk.c12 _);have f12:=Lib.frozen_of_heap s.blk 12;replace s:=s.s12 x6 hs6;go_wp2_with fail
  refine (qeh q ao n cap _ _ l _ s.rdr (HR.out.below s.gro) hn).mono ?_;rintro er y7 ⟨a7,c7,rfl,O7,R7,g7⟩;have hz7:=rd_le gL le_L [] l (z6,e6);have hs7:=qoo l z6 e6;generalize hk7:rd gL [] l (z6,e6)=k7 at *;obtain⟨x7,z7,e7⟩:=k7;have H7:Hid (rd gL [] l (z6,e6)=(x7,z7,e7)):=hk7;clear hk7;simp only at O7 R7 hz7 hs7 ⊢;have s_:=s.read R7 g7;have c13:=(s_.blk.cell 13).trans (Pk.c13 _);have f13:=Lib.frozen_of_heap s_.blk 13;replace s:=s.n13 R7 g7 O7 (by omega);clear R7 g7 O7 s_;have c16_:=(s.blk.cell 16).trans (Pk.c16 _);cases f128 with
  |true=>
   go_wp2_with fail
   refine (qde q ao n cap _ _ l _ s.rdr (HR.out.below s.gro) hn).mono ?_;rintro er y8 ⟨rfl,R8,g8⟩;have hz8:=rd_le gT le_T ByteArray.empty l (z7,e7);have hs8:=qhu l z7 e7;generalize hk8:rd gT ByteArray.empty l (z7,e7)=k8 at *;obtain⟨x8,z8,e8⟩:=k8;have H8:Hid (rd gT ByteArray.empty l (z7,e7)=(x8,z8,e8)):=hk8;clear hk8;simp only at R8 hz8 hs8 ⊢;replace s:=s.read R8 g8;clear R8 g8;have c17:=(s.blk.cell 17).trans (Pk.c17 _);have f17:=Lib.frozen_of_heap s.blk 17;replace s:=s.s17 x8 hs8;have c18_:=(s.blk.cell 18).trans (Pk.c18 _);cases f64 with
   |true=>
    go_wp2_with fail
    refine (qeh q ao n cap _ _ l _ s.rdr (HR.out.below s.gro) hn).mono ?_;rintro er y9 ⟨a9,c9,rfl,O9,R9,g9⟩;have hz9:=rd_le gL le_L [] l (z8,e8);have hs9:=qoo l z8 e8;generalize hk9:rd gL [] l (z8,e8)=k9 at *;obtain⟨x9,z9,e9⟩:=k9;have H9:Hid (rd gL [] l (z8,e8)=(x9,z9,e9)):=hk9;clear hk9;simp only at O9 R9 hz9 hs9 ⊢;have s_:=s.read R9 g9;have c19:=(s_.blk.cell 19).trans (Pk.c19 _);have f19:=Lib.frozen_of_heap s_.blk 19;replace s:=s.n19 R9 g9 O9 (by omega);clear R9 g9 O9 s_;go_wp2
    go_end0
    refine⟨rfl,RtOut.mk s ?_⟩;unfold iCon;simp only[H1.out,H2.out,H3.out,H4.out,H5.out,H6.out,H7.out,H8.out,H9.out,F2.out,F4.out,F32.out,F128.out,F64.out,V24.out];simp only[H1.out,H2.out,H3.out,H4.out,H5.out,H6.out,H7.out,H8.out,H9.out,if_true,Bool.false_eq_true,if_false];rfl
   |false=>
    go_wp2
    go_end0
    refine⟨rfl,RtOut.mk s ?_⟩;unfold iCon;simp only[H1.out,H2.out,H3.out,H4.out,H5.out,H6.out,H7.out,H8.out,F2.out,F4.out,F32.out,F128.out,F64.out,V24.out];simp only[H1.out,H2.out,H3.out,H4.out,H5.out,H6.out,H7.out,H8.out,if_true,Bool.false_eq_true,if_false];rfl
  |false=>
   have c18_:=(s.blk.cell 18).trans (Pk.c18 _);cases f64 with
   |true=>
    go_wp2_with fail
    refine (qeh q ao n cap _ _ l _ s.rdr (HR.out.below s.gro) hn).mono ?_;rintro er y8 ⟨a8,c8,rfl,O8,R8,g8⟩;have hz8:=rd_le gL le_L [] l (z7,e7);have hs8:=qoo l z7 e7;generalize hk8:rd gL [] l (z7,e7)=k8 at *;obtain⟨x8,z8,e8⟩:=k8;have H8:Hid (rd gL [] l (z7,e7)=(x8,z8,e8)):=hk8;clear hk8;simp only at O8 R8 hz8 hs8 ⊢;have s_:=s.read R8 g8;have c19:=(s_.blk.cell 19).trans (Pk.c19 _);have f19:=Lib.frozen_of_heap s_.blk 19;replace s:=s.n19 R8 g8 O8 (by omega);clear R8 g8 O8 s_;go_wp2
    go_end0
    refine⟨rfl,RtOut.mk s ?_⟩;unfold iCon;simp only[H1.out,H2.out,H3.out,H4.out,H5.out,H6.out,H7.out,H8.out,F2.out,F4.out,F32.out,F128.out,F64.out,V24.out];simp only[H1.out,H2.out,H3.out,H4.out,H5.out,H6.out,H7.out,H8.out,if_true,Bool.false_eq_true,if_false];rfl
   |false=>
    go_wp2
    go_end0
    refine⟨rfl,RtOut.mk s ?_⟩;unfold iCon;simp only[H1.out,H2.out,H3.out,H4.out,H5.out,H6.out,H7.out,F2.out,F4.out,F32.out,F128.out,F64.out,V24.out];simp only[H1.out,H2.out,H3.out,H4.out,H5.out,H6.out,H7.out,if_true,Bool.false_eq_true,if_false];rfl
 |false=>
  have c16_:=(s.blk.cell 16).trans (Pk.c16 _);cases f128 with
  |true=>
   go_wp2_with fail
   refine (qde q ao n cap _ _ l _ s.rdr (HR.out.below s.gro) hn).mono ?_;rintro er y6 ⟨rfl,R6,g6⟩;have hz6:=rd_le gT le_T ByteArray.empty l (z5,e5);have hs6:=qhu l z5 e5;generalize hk6:rd gT ByteArray.empty l (z5,e5)=k6 at *;obtain⟨x6,z6,e6⟩:=k6;have H6:Hid (rd gT ByteArray.empty l (z5,e5)=(x6,z6,e6)):=hk6;clear hk6;simp only at R6 hz6 hs6 ⊢;replace s:=s.read R6 g6;clear R6 g6;have c17:=(s.blk.cell 17).trans (Pk.c17 _);have f17:=Lib.frozen_of_heap s.blk 17;replace s:=s.s17 x6 hs6;have c18_:=(s.blk.cell 18).trans (Pk.c18 _);cases f64 with
   |true=>
    go_wp2_with fail
    refine (qeh q ao n cap _ _ l _ s.rdr (HR.out.below s.gro) hn).mono ?_;rintro er y7 ⟨a7,c7,rfl,O7,R7,g7⟩;have hz7:=rd_le gL le_L [] l (z6,e6);have hs7:=qoo l z6 e6;generalize hk7:rd gL [] l (z6,e6)=k7 at *;obtain⟨x7,z7,e7⟩:=k7;have H7:Hid (rd gL [] l (z6,e6)=(x7,z7,e7)):=hk7;clear hk7;simp only at O7 R7 hz7 hs7 ⊢;have s_:=s.read R7 g7;have c19:=(s_.blk.cell 19).trans (Pk.c19 _);have f19:=Lib.frozen_of_heap s_.blk 19;replace s:=s.n19 R7 g7 O7 (by omega);clear R7 g7 O7 s_;go_wp2
    go_end0
    refine⟨rfl,RtOut.mk s ?_⟩;unfold iCon;simp only[H1.out,H2.out,H3.out,H4.out,H5.out,H6.out,H7.out,F2.out,F4.out,F32.out,F128.out,F64.out,V24.out];simp only[H1.out,H2.out,H3.out,H4.out,H5.out,H6.out,H7.out,if_true,Bool.false_eq_true,if_false];rfl
   |false=>
    go_wp2
    go_end0
    refine⟨rfl,RtOut.mk s ?_⟩;unfold iCon;simp only[H1.out,H2.out,H3.out,H4.out,H5.out,H6.out,F2.out,F4.out,F32.out,F128.out,F64.out,V24.out];simp only[H1.out,H2.out,H3.out,H4.out,H5.out,H6.out,if_true,Bool.false_eq_true,if_false];rfl
  |false=>
   have c18_:=(s.blk.cell 18).trans (Pk.c18 _);cases f64 with
   |true=>
    go_wp2_with fail
    refine (qeh q ao n cap _ _ l _ s.rdr (HR.out.below s.gro) hn).mono ?_;rintro er y6 ⟨a6,c6,rfl,O6,R6,g6⟩;have hz6:=rd_le gL le_L [] l (z5,e5);have hs6:=qoo l z5 e5;generalize hk6:rd gL [] l (z5,e5)=k6 at *;obtain⟨x6,z6,e6⟩:=k6;have H6:Hid (rd gL [] l (z5,e5)=(x6,z6,e6)):=hk6;clear hk6;simp only at O6 R6 hz6 hs6 ⊢;have s_:=s.read R6 g6;have c19:=(s_.blk.cell 19).trans (Pk.c19 _);have f19:=Lib.frozen_of_heap s_.blk 19;replace s:=s.n19 R6 g6 O6 (by omega);clear R6 g6 O6 s_;go_wp2
    go_end0
    refine⟨rfl,RtOut.mk s ?_⟩;unfold iCon;simp only[H1.out,H2.out,H3.out,H4.out,H5.out,H6.out,F2.out,F4.out,F32.out,F128.out,F64.out,V24.out];simp only[H1.out,H2.out,H3.out,H4.out,H5.out,H6.out,if_true,Bool.false_eq_true,if_false];rfl
   |false=>
    go_wp2
    go_end0
    refine⟨rfl,RtOut.mk s ?_⟩;unfold iCon;simp only[H1.out,H2.out,H3.out,H4.out,H5.out,F2.out,F4.out,F32.out,F128.out,F64.out,V24.out];simp only[H1.out,H2.out,H3.out,H4.out,H5.out,if_true,Bool.false_eq_true,if_false];rfl

def dnil:Pd:=⟨[],[],[],[],[],[]⟩
def ofT (k:Int):Pk:={ Pk.zero with ty:=k }
