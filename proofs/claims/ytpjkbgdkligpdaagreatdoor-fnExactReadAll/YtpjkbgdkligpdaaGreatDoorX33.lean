/- Lemmas. -/
import Derived.Test.YtpjkbgdkligpdaaGreatDoorX32
set_option linter.unusedVariables false
set_option linter.unusedSimpArgs false
set_option maxRecDepth 100000
set_option maxHeartbeats 20000000
namespace Go.Proofs.YtpjkbgdkligpdaaGreatDoor
open Go.RowKit

theorem gt_bits2 (x:Nat) (h:x<256):decide (0<bits BinOp.and IntKind.i64 (x:Int) 2)=fl x 2:=by
 have h0:∀y:Fin 256,decide (0<bits BinOp.and IntKind.i64 (y.val:Int) 2)=fl y.val 2:=by decide +kernel
 exact h0 ⟨x,h⟩
theorem gt_bits4 (x:Nat) (h:x<256):decide (0<bits BinOp.and IntKind.i64 (x:Int) 4)=fl x 4:=by
 have h0:∀y:Fin 256,decide (0<bits BinOp.and IntKind.i64 (y.val:Int) 4)=fl y.val 4:=by decide +kernel
 exact h0 ⟨x,h⟩
theorem gt_bits32 (x:Nat) (h:x<256):decide (0<bits BinOp.and IntKind.i64 (x:Int) 32)=fl x 32:=by
 have h0:∀y:Fin 256,decide (0<bits BinOp.and IntKind.i64 (y.val:Int) 32)=fl y.val 32:=by decide +kernel
 exact h0 ⟨x,h⟩
theorem gt_bits128 (x:Nat) (h:x<256):decide (0<bits BinOp.and IntKind.i64 (x:Int) 128)=fl x 128:=by
 have h0:∀y:Fin 256,decide (0<bits BinOp.and IntKind.i64 (y.val:Int) 128)=fl y.val 128:=by decide +kernel
 exact h0 ⟨x,h⟩
theorem gt_bits64 (x:Nat) (h:x<256):decide (0<bits BinOp.and IntKind.i64 (x:Int) 64)=fl x 64:=by
 have h0:∀y:Fin 256,decide (0<bits BinOp.and IntKind.i64 (y.val:Int) 64)=fl y.val 64:=by decide +kernel
 exact h0 ⟨x,h⟩
theorem gt_q (x:Nat) (h:x<256):bits BinOp.and IntKind.i64 ((x:Int) / 8) 3=(x:Int) / 8%4:=by
 have h0:∀y:Fin 256,bits BinOp.and IntKind.i64 ((y.val:Int) / 8) 3=(y.val:Int) / 8%4:=by decide +kernel
 exact h0 ⟨x,h⟩
def qqf (f:Bool) (l:List UInt8) (c:Nat):Option (ByteArray×List UInt8×Nat):=if f then (match gT l c with
  |none=>none
  |some (t,n1)=>match gL l n1 with
   |none=>none
   |some (w,n2)=>some (t,w,n2)) else some (ByteArray.empty,[],c)
def qta (f:Bool) (l:List UInt8) (d:Nat):Option (ByteArray×Nat):=if f then gT l d else some (ByteArray.empty,d)
def qmf (l:List UInt8) (lev:Int) (f2 f4:Bool) (q:Int) (f32 f64 f128:Bool) (ke:Int) (s:ByteArray) (c:Nat):Pv:=match qqf f4 l c with
 |none=>Pv.zero
 |some (wt,wb,d)=>match qta f128 l d with
  |none=>Pv.zero
  |some (us,e)=>match (if f64 then gL l e else some ([],e)) with
   |none=>Pv.zero
   |some (pa,_)=>{ Pv.zero with ty:=1,lev:=lev,cln:=f2,hw:=f4,wq:=q,wr:=f32,hp:=f64,hu:=f128,kee:=ke,cli:=s,wt:=wt,wb:=wb,us:=us,pa:=pa }
theorem Ct.n1213 {w0 y y':World} {r b:Nat} {p:Pk} {d:Pd} (s:Ct w0 y r b p d) (hb:Below y.heap.size y y') {a:Option Addr} {k c:Nat} {x:List UInt8} (hx:Own y' y.heap.size a k c x) (t:ByteArray) (ht:t.size≤61) (hm:k≤1048576) :
  Ct w0 ((y'.setCell ⟨b,12,Option.none⟩ (.string t)).setCell ⟨b,13,Option.none⟩ (.slice a k c)) r b { p with wt:=t,wb:=⟨a,k,c⟩ } { d with wb:=x }:=by
 have s2:=(s.new hb).s12 t ht;have hnew:∀u,a=some u→y.heap.size≤u.block:=fun u hu=>(hx.2.lt u.block (by rw[hu];rfl)).1
 have h2:=s.blk.lt;have hne:∀q0,a=some q0→q0.block≠b:=fun q0 e0=>by have:=hnew q0 e0;omega
 have hg:y'.grownBy (y'.setCell ⟨b,12,Option.none⟩ (.string t)) (some b):=qah y' b 12 _;have hx':Own (y'.setCell ⟨b,12,Option.none⟩ (.string t)) w0.heap.size a k c x:=Own.grown (⟨hx.1,qbc hx.2 s.gro.size⟩) hg (fun q0 e he=>hne q0 e (by simpa using he));exact s2.l13 hx' hm hne (s.old hnew 0) (s.old hnew 2) (s.old hnew 3) (s.old hnew 4) (s.old hnew 5)
theorem qpg (w0:World) (ao:Option Addr) (n cap:Nat) (l:List UInt8) (hr:RdIn w0 ao n cap l) (hn:n≤1048576) :
  Calls Tryz.prog 135 #[.slice ao n cap] w0 fun e w'=>SRet w0 w' e (sCon l):=by
 have HR:Hid (RdIn w0 ao n cap l):=hr;have hl:=hr.1.1;clear hr;have A1:Blk (w0.alloc (.cells Pk.zero.cells 28)) w0.heap.size Pk.zero:=heap_alloc_new _ _;have A2:Blk ((w0.alloc (.cells Pk.zero.cells 28)).alloc (.cells Pk.zero.cells 28)) (w0.alloc (.cells Pk.zero.cells 28)).heap.size Pk.zero:=heap_alloc_new _ _;have A3:Blk ((w0.alloc (.cells Pk.zero.cells 28)).alloc (.cells Pk.zero.cells 28)) w0.heap.size Pk.zero:=heap_alloc2_old _ _ _;have hb:Below w0.heap.size w0 ((w0.alloc (.cells Pk.zero.cells 28)).alloc (.cells Pk.zero.cells 28)):=bel (qac _ _) (qac _ _);go_enter Tryz.func135,Tryz.ntmps135
 go_upto_region 0 with fail
 refine wp_region_list ?_;refine al_pk ?_
 go_upto_region 1 with fail
 refine wp_region_list ?_;refine bu_pk (pkK 1) (by kernel_rfl) ?_;refine al_pk ?_;refine qag (q:=pkK 1) (old:=Pk.zero) A2 rfl rfl ?_;intro y0 B0 g0;have h1:(w0.alloc (.cells Pk.zero.cells 28)).heap.size=w0.heap.size+1:=World.size_alloc _ _;rw[h1] at B0 g0 ⊢;have s:=Ct.start (w0:=w0) 1 B0 ((g0.block _ A3.lt (fun e=>by simp at e)).trans A3) (hb.grown g0 hb.size (fun k e=>by cases e;omega)) (by omega) (Nat.le_refl _) (by omega);generalize w0.heap.size+1=b at *;generalize hrr:w0.heap.size=r at s ⊢;clear B0 g0 A1 A2 A3 hb h1;go_wp2_with fail
 refine (qdd ao n cap 0 l _ (HR.out.below s.gro) hn).mono ?_;rintro e y1 ⟨rfl,hb1⟩;replace s:=s.new hb1;clear hb1;cases h1:gT l 0 with
 |none=>
  simp only[rTxt,rInt,xV,xK,Option.isSome_none]
  go_upto_region 4 with fail
  obtain⟨yy,hyy,s0⟩:=s.hide;rw[←hyy];clear s hyy;have s:=s0;clear s0;refine wp_region_list ?_;refine bu_pk Pk.zero (by kernel_rfl) ?_;refine qag (q:=Pk.zero) (old:=Pk.zero) s.res rfl rfl ?_;intro y9 B9 g9;apply ‹∀(a:Act) (w:World),Code.wp Tryz.prog Code.ret _ a w→_›
  refine wp_ret ?_;show bodyPost Tryz.prog Tryz.f135 (fun e w'=>SRet w0 w' e (sCon l)) .ret _ _;exact qau rfl rfl B9 rfl (s.none g9 (by unfold sCon;simp only[h1]))
 |some xk=>
  obtain⟨nm,a⟩:=xk;simp only[rTxt,rInt,xV,xK,Option.isSome_some]
  by_cases hm:nm=mqtt
  rotate_left
  ·have hs1:sCon l=Pv.zero:=by unfold sCon;simp only[h1];rw[if_pos (Or.inl hm)]
   have hne:(nm.toList==(⟨#[77,81,84,84]⟩ : ByteArray).toList)=false:=(qgr _ _).trans (decide_eq_false hm);have hnl:¬nm.toList = [77,81,84,84]:=by simpa using hne
   clear hm hne
   go_upto_region 4 with fail
   obtain⟨yy,hyy,s0⟩:=s.hide;rw[←hyy];clear s hyy;have s:=s0;clear s0;refine wp_region_list ?_;refine bu_pk Pk.zero (by kernel_rfl) ?_;refine qag (q:=Pk.zero) (old:=Pk.zero) s.res rfl rfl ?_;intro y9 B9 g9;apply ‹∀(a:Act) (w:World),Code.wp Tryz.prog Code.ret _ a w→_›
   refine wp_ret ?_;show bodyPost Tryz.prog Tryz.f135 (fun e w'=>SRet w0 w' e (sCon l)) .ret _ _;exact qau rfl rfl B9 rfl (s.none g9 (by exact hs1))
  subst hm;have hml:mqtt.toList = [77,81,84,84]:=by decide +kernel
  by_cases ha:n<a+2
  ·have hs1:sCon l=Pv.zero:=by unfold sCon;simp only[h1];rw[if_pos (Or.inr (by omega))]
   have ha':(n:Int)-2<a:=by omega
   go_upto_region 4 with fail
   obtain⟨yy,hyy,s0⟩:=s.hide;rw[←hyy];clear s hyy;have s:=s0;clear s0;refine wp_region_list ?_;refine bu_pk Pk.zero (by kernel_rfl) ?_;refine qag (q:=Pk.zero) (old:=Pk.zero) s.res rfl rfl ?_;intro y9 B9 g9;apply ‹∀(a:Act) (w:World),Code.wp Tryz.prog Code.ret _ a w→_›
   refine wp_ret ?_;show bodyPost Tryz.prog Tryz.f135 (fun e w'=>SRet w0 w' e (sCon l)) .ret _ _;exact qau rfl rfl B9 rfl (s.none g9 (by exact hs1))
  have ha':¬(n:Int)-2<a:=by omega
  obtain⟨b0,off,rfl,hc⟩:=HR.out.1.at (show 0<n by omega);have q0':=hc a (by omega);have q1':=hc (a+1) (by omega);have hb0:b0<w0.heap.size:=World.block_lt_of_cell? _ _ q0';have q0:=(s.gro.cell (p:=⟨b0,off+a,none⟩) hb0).trans q0';have HC:Hid (∀u,Below w0.heap.size w0 u→u.cell? ⟨b0,off+(a+1),none⟩ = some (.int .u8 (bt l (a+1)))):=fun u hu=>(hu.cell (p:=⟨b0,off+(a+1),none⟩) hb0).trans q1'
  clear q0' q1' hb0;have pa:(a:Int)<n:=by omega
  have pb:(a:Int)+1<n:=by omega
  have b0':=bt_lt l a;have b1':=bt_lt l (a+1);clear hc;have c8:=(s.blk.cell 8).trans (Pk.c8 _);have z8:=Lib.frozen_of_heap s.blk 8
  go_upto_region 6 with fail
  replace s:=s.s8 (bt l a);clear c8 z8 q0;have q1:=HC.out _ s.gro;generalize hxe:bt l (a+1)=x at *;obtain⟨f2,hf2⟩ : ∃f,decide (0<bits BinOp.and IntKind.i64 (x:Int) 2)=f:=⟨_,rfl⟩;have F2:Hid (fl x 2=f2):=by unfold Hid;rw[←hf2];exact (gt_bits2 x b1').symm
  obtain⟨f4,hf4⟩ : ∃f,decide (0<bits BinOp.and IntKind.i64 (x:Int) 4)=f:=⟨_,rfl⟩;have F4:Hid (fl x 4=f4):=by unfold Hid;rw[←hf4];exact (gt_bits4 x b1').symm
  obtain⟨f32,hf32⟩ : ∃f,decide (0<bits BinOp.and IntKind.i64 (x:Int) 32)=f:=⟨_,rfl⟩;have F32:Hid (fl x 32=f32):=by unfold Hid;rw[←hf32];exact (gt_bits32 x b1').symm
  obtain⟨f128,hf128⟩ : ∃f,decide (0<bits BinOp.and IntKind.i64 (x:Int) 128)=f:=⟨_,rfl⟩;have F128:Hid (fl x 128=f128):=by unfold Hid;rw[←hf128];exact (gt_bits128 x b1').symm
  obtain⟨f64,hf64⟩ : ∃f,decide (0<bits BinOp.and IntKind.i64 (x:Int) 64)=f:=⟨_,rfl⟩;have F64:Hid (fl x 64=f64):=by unfold Hid;rw[←hf64];exact (gt_bits64 x b1').symm
  obtain⟨qq,hqq⟩ : ∃q,bits BinOp.and IntKind.i64 ((x:Int) / 8) 3=q:=⟨_,rfl⟩;have QQ:Hid ((x:Int) / 8%4=qq):=by unfold Hid;rw[←hqq];exact (gt_q x b1').symm
  have c9:=(s.blk.cell 9).trans (Pk.c9 _);have z9:=Lib.frozen_of_heap s.blk 9
  go_upto_region 8 with fail
  replace s:=s.s9 f2;have c11:=(s.blk.cell 11).trans (Pk.c11 _);have z11:=Lib.frozen_of_heap s.blk 11
  go_upto_region 9 with fail
  replace s:=s.s11 f4;clear c9 z9 c11 z11 q1;have c14:=(s.blk.cell 14).trans (Pk.c14 _);have z14:=Lib.frozen_of_heap s.blk 14
  go_upto_region 10 with fail
  replace s:=s.s14 qq;clear c14 z14 hqq;have c15:=(s.blk.cell 15).trans (Pk.c15 _);have z15:=Lib.frozen_of_heap s.blk 15
  go_upto_region 11 with fail
  replace s:=s.s15 f32;clear c15 z15;have c18:=(s.blk.cell 18).trans (Pk.c18 _);have z18:=Lib.frozen_of_heap s.blk 18
  go_upto_region 12 with fail
  replace s:=s.s18 f64;clear c18 z18;have c16:=(s.blk.cell 16).trans (Pk.c16 _);have z16:=Lib.frozen_of_heap s.blk 16
  go_upto_region 13 with fail
  replace s:=s.s16 f128;clear c16 z16 hf2 hf4 hf32 hf64 hf128;have hif:¬(mqtt≠mqtt∨l.length<a+2):=by
   rintro (h | h)
   ·exact h rfl
   ·omega
  have HF:Hid (¬(mqtt≠mqtt∨l.length<a+2)):=hif;have HX:Hid (bt l (a+1)=x):=hxe;clear hif hxe;obtain⟨a2,ha2⟩ : ∃z:Nat,a+2=z:=⟨_,rfl⟩;have HA:Hid (a+2=a2):=ha2;have ea2:(a:Int)+2=(a2:Int):=by omega
  have pc:(a2:Int)≤n:=by omega
  clear ha2 pb;go_wp2_with fail
  obtain⟨yy,hyy,s0⟩:=s.hide;rw[←hyy];clear s hyy;have s:=s0;clear s0;have hRR:=HR.out.below s.gro;have hG:=qdq _ n cap a2 l _ hRR hn;clear hRR;refine hG.mono ?_;clear hG;rintro e y2 ⟨rfl,hb2⟩;replace s:=s.new hb2;clear hb2;clear ea2;cases h2:gW l a2 with
  |none=>
   simp only[rInt,xV,xK,Option.isSome_none];have c10:=(s.blk.cell 10).trans (Pk.c10 _);have z10:=Lib.frozen_of_heap s.blk 10
   go_upto_region 15 with fail
   replace s:=s.s10 0;clear c10 z10;go_wp2_with fail
   obtain⟨yy,hyy,s0⟩:=s.hide;rw[←hyy];clear s hyy;have s:=s0;clear s0;have hRR:=HR.out.below s.gro;have hG:=qdd _ n cap 0 l _ hRR hn;clear hRR;refine hG.mono ?_;clear hG;rintro e y3 ⟨rfl,hb3⟩;rw[h1];simp only[rTxt,xV,xK,Option.isSome_some];replace s:=s.new hb3;clear hb3;have c7:=(s.blk.cell 7).trans (Pk.c7 _);have z7:=Lib.frozen_of_heap s.blk 7
   go_upto_region 17 with fail
   replace s:=s.s7 mqtt (by decide +kernel);clear c7 z7
   go_upto_region 18 with fail
   obtain⟨yy,hyy,s0⟩:=s.hide;rw[←hyy];clear s hyy;have s:=s0;clear s0;refine wp_region_list ?_;refine bu_pk Pk.zero (by kernel_rfl) ?_;refine qag (q:=Pk.zero) (old:=Pk.zero) s.res rfl rfl ?_;intro y9 B9 g9;apply ‹∀(a:Act) (w:World),Code.wp Tryz.prog Code.ret _ a w→_›
   refine wp_ret ?_;show bodyPost Tryz.prog Tryz.f135 (fun e w'=>SRet w0 w' e (sCon l)) .ret _ _;exact qau rfl rfl B9 rfl (s.none g9 (by unfold sCon;simp only[h1];rw[if_neg HF.out];simp only[HA.out,h2]))
  |some xk2=>
   obtain⟨ke,p2⟩:=xk2;simp only[rInt,xV,xK,Option.isSome_some];have c10:=(s.blk.cell 10).trans (Pk.c10 _);have z10:=Lib.frozen_of_heap s.blk 10
   go_upto_region 15 with fail
   replace s:=s.s10 ke;clear c10 z10;go_wp2_with fail
   obtain⟨yy,hyy,s0⟩:=s.hide;rw[←hyy];clear s hyy;have s:=s0;clear s0;have hRR:=HR.out.below s.gro;have hG:=qdd _ n cap p2 l _ hRR hn;clear hRR;refine hG.mono ?_;clear hG;rintro e y3 ⟨rfl,hb3⟩;replace s:=s.new hb3;clear hb3;cases h3:gT l p2 with
   |none=>
    simp only[rTxt,xV,xK,Option.isSome_none];have c7:=(s.blk.cell 7).trans (Pk.c7 _);have z7:=Lib.frozen_of_heap s.blk 7
    go_upto_region 17 with fail
    replace s:=s.s7 ByteArray.empty (by decide);clear c7 z7
    go_upto_region 18 with fail
    obtain⟨yy,hyy,s0⟩:=s.hide;rw[←hyy];clear s hyy;have s:=s0;clear s0;refine wp_region_list ?_;refine bu_pk Pk.zero (by kernel_rfl) ?_;refine qag (q:=Pk.zero) (old:=Pk.zero) s.res rfl rfl ?_;intro y9 B9 g9;apply ‹∀(a:Act) (w:World),Code.wp Tryz.prog Code.ret _ a w→_›
    refine wp_ret ?_;show bodyPost Tryz.prog Tryz.f135 (fun e w'=>SRet w0 w' e (sCon l)) .ret _ _;exact qau rfl rfl B9 rfl (s.none g9 (by unfold sCon;simp only[h1];rw[if_neg HF.out];simp only[HA.out,h2,h3]))
   |some xk3=>
    obtain⟨cs,p3⟩:=xk3;simp only[rTxt,xV,xK,Option.isSome_some];have c7:=(s.blk.cell 7).trans (Pk.c7 _);have z7:=Lib.frozen_of_heap s.blk 7
    go_upto_region 17 with fail
    replace s:=s.s7 cs (qhp h3);clear c7 z7
    go_upto_region 20 with fail
    have SC:Hid (sCon l=qmf l (bt l a) f2 f4 qq f32 f64 f128 ke cs p3):=by
     unfold Hid qmf qqf qta sCon;simp only[h1];rw[if_neg HF.out];simp only[HA.out,h2,h3,HX.out,F2.out,F4.out,F32.out,F64.out,F128.out,QQ.out];rfl
    clear h1 h2 h3 HF HA HX F2 F4 F32 F64 F128 QQ;obtain⟨yy,hyy,s0⟩:=s.hide;rw[←hyy];clear s hyy;have s:=s0;clear s0;obtain⟨P,hP⟩ : ∃P:Pk,P = { pkK 1 with lev:=(bt l a:Int),cln:=f2,hw:=f4,wq:=qq,wr:=f32,hp:=f64,hu:=f128,kee:=ke,cli:=cs }:=⟨_,rfl⟩;have s1:Ct w0 yy r b P e0:=by rw[hP];exact s
    clear s;have s:=s1;clear s1;have HP:Hid (P = { pkK 1 with lev:=(bt l a:Int),cln:=f2,hw:=f4,wq:=qq,wr:=f32,hp:=f64,hu:=f128,kee:=ke,cli:=cs }):=hP;have EW:Hid (P.hw=f4):=by unfold Hid;rw[hP]
    have EU:Hid (P.hu=f128):=by unfold Hid;rw[hP]
    have EP:Hid (P.hp=f64):=by unfold Hid;rw[hP]
    have EN:Hid (P.wb = ⟨none,0,0⟩∧P.wt=ByteArray.empty∧P.us=ByteArray.empty):=by unfold Hid;rw[hP];exact⟨rfl,rfl,rfl⟩
    clear hP;have c11:=(s.blk.cell 11).trans (Pk.c11 _);rw[EW.out] at c11
    go_upto_if 111 with fail
    clear c11
    go_cut [5] (fun v wx=>∃(q1:Nat) (wt:ByteArray) (wb:List UInt8) (aw:Option Addr) (cw:Nat),v=.int .i64 q1∧Ct w0 wx r b { P with wt:=wt,wb:=⟨aw,wb.length,cw⟩ } { e0 with wb:=wb }∧Hid (qqf f4 l p3=some (wt,wb,q1)))
    case first=>
     cases f4 with
     |false=>
      go_wp2_with fail
      go_meet
      case rel=>exact⟨p3,ByteArray.empty,[],none,0,rfl,s.same (by obtain⟨e1,e2,_⟩:=EN.out;show ({ P with wt:=ByteArray.empty,wb:=⟨none,0,0⟩ } : Pk)=P;rw[←e1,←e2]),rfl⟩
     |true=>
      go_wp2_with fail
      obtain⟨yy,hyy,s0⟩:=s.hide;rw[←hyy];clear s hyy;have s:=s0;clear s0;have hRR:=HR.out.below s.gro;have hG:=qdd _ n cap p3 l _ hRR hn;clear hRR;refine hG.mono ?_;clear hG;rintro e y4 ⟨rfl,hb4⟩;generalize hg4:gT l p3=g4;cases g4 with
      |none=>
       simp only[rTxt,xV,xK,Option.isSome_none];replace s:=s.new hb4;clear hb4;go_wp2_with fail
       obtain⟨yy,hyy,s0⟩:=s.hide;rw[←hyy];clear s hyy;have s:=s0;clear s0;have hRR:=HR.out.below s.gro;have hG:=qir _ n cap 0 l _ hRR hn;clear hRR;refine hG.mono ?_;clear hG;rintro e y5 ⟨a5,c5,rfl,O5,hb5⟩;clear O5;replace s:=s.new hb5;clear hb5
       go_upto_region 24 with fail
       obtain⟨yy,hyy,s0⟩:=s.hide;rw[←hyy];clear s hyy;have s:=s0;clear s0;refine wp_region_list ?_;refine bu_pk Pk.zero (by kernel_rfl) ?_;refine qag (q:=Pk.zero) (old:=Pk.zero) s.res rfl rfl ?_;intro y9 B9 g9;apply ‹∀(a:Act) (w:World),Code.wp Tryz.prog Code.ret _ a w→_›
       refine wp_ret ?_;show bodyPost Tryz.prog Tryz.f135 (fun e w'=>SRet w0 w' e (sCon l)) .ret _ _;exact qau rfl rfl B9 rfl (s.none g9 (by rw[SC.out];unfold qmf;simp only[qqf,if_true,hg4]))
      |some xk4=>
       obtain⟨wt,p4⟩:=xk4;simp only[rTxt,xV,xK,Option.isSome_some];replace s:=s.new hb4;clear hb4;go_wp2_with fail
       obtain⟨yy,hyy,s0⟩:=s.hide;rw[←hyy];clear s hyy;have s:=s0;clear s0;have hRR:=HR.out.below s.gro;have hG:=qir _ n cap p4 l _ hRR hn;clear hRR;refine hG.mono ?_;clear hG;rintro e y5 ⟨a5,c5,rfl,O5,hb5⟩;generalize hg5:gL l p4=g5 at O5 ⊢;cases g5 with
       |none=>
        simp only[xV,xK,Option.isSome_none];clear O5;replace s:=s.new hb5;clear hb5
        go_upto_region 24 with fail
        obtain⟨yy,hyy,s0⟩:=s.hide;rw[←hyy];clear s hyy;have s:=s0;clear s0;refine wp_region_list ?_;refine bu_pk Pk.zero (by kernel_rfl) ?_;refine qag (q:=Pk.zero) (old:=Pk.zero) s.res rfl rfl ?_;intro y9 B9 g9;apply ‹∀(a:Act) (w:World),Code.wp Tryz.prog Code.ret _ a w→_›
        refine wp_ret ?_;show bodyPost Tryz.prog Tryz.f135 (fun e w'=>SRet w0 w' e (sCon l)) .ret _ _;exact qau rfl rfl B9 rfl (s.none g9 (by rw[SC.out];unfold qmf;simp only[qqf,if_true,hg4,hg5]))
       |some xk5=>
        obtain⟨wb,p5⟩:=xk5;simp only[xV,xK,Option.isSome_some] at O5 ⊢;have s1:=s.new hb5;have c12:=(s1.blk.cell 12).trans (Pk.c12 _);have z12:=Lib.frozen_of_heap s1.blk 12
        go_upto_region 26 with fail
        clear c12 z12;have s2:=s1.s12 wt (qhp hg4);have c13:=(s2.blk.cell 13).trans (Pk.c13 _);have z13:=Lib.frozen_of_heap s2.blk 13;go_wp2_with fail
        clear c13 z13 s2 s1;replace s:=s.n1213 hb5 O5 wt (qhp hg4) (by have:=gL_len hg5;omega);clear hb5 O5
        go_meet
        case rel=>exact⟨p5,wt,wb,a5,c5,rfl,s,by unfold Hid qqf;rw[if_pos rfl];simp only[hg4,hg5]⟩
    case rest=>
     obtain⟨q1,wt,wb,aw,cw,rfl,s,HW⟩:=hcut;have c16:=(s.blk.cell 16).trans (Pk.c16 _);change _=some (Value.bool P.hu) at c16;rw[EU.out] at c16
     go_upto_if 139 with fail
     clear c16
     go_cut [5] (fun v wx=>∃(q2:Nat) (us:ByteArray),v=.int .i64 q2∧Ct w0 wx r b { P with wt:=wt,wb:=⟨aw,wb.length,cw⟩,us:=us } { e0 with wb:=wb }∧Hid (qta f128 l q1=some (us,q2)))
     case first=>
      cases f128 with
      |false=>
       go_wp2_with fail
       go_meet
       case rel=>exact⟨q1,ByteArray.empty,rfl,s.same (by obtain⟨_,_,e3⟩:=EN.out;rw[←e3]),rfl⟩
      |true=>
       go_wp2_with fail
       obtain⟨yy,hyy,s0⟩:=s.hide;rw[←hyy];clear s hyy;have s:=s0;clear s0;have hRR:=HR.out.below s.gro;have hG:=qdd _ n cap q1 l _ hRR hn;clear hRR;refine hG.mono ?_;clear hG;rintro e y6 ⟨rfl,hb6⟩;generalize hg6:gT l q1=g6;cases g6 with
       |none=>
        simp only[rTxt,xV,xK,Option.isSome_none];replace s:=s.new hb6;clear hb6
        go_upto_region 31 with fail
        obtain⟨yy,hyy,s0⟩:=s.hide;rw[←hyy];clear s hyy;have s:=s0;clear s0;refine wp_region_list ?_;refine bu_pk Pk.zero (by kernel_rfl) ?_;refine qag (q:=Pk.zero) (old:=Pk.zero) s.res rfl rfl ?_;intro y9 B9 g9;apply ‹∀(a:Act) (w:World),Code.wp Tryz.prog Code.ret _ a w→_›
        refine wp_ret ?_;show bodyPost Tryz.prog Tryz.f135 (fun e w'=>SRet w0 w' e (sCon l)) .ret _ _;exact qau rfl rfl B9 rfl (s.none g9 (by rw[SC.out];unfold qmf;simp only[HW.out,qta,if_true,hg6]))
       |some xk6=>
        obtain⟨us,p6⟩:=xk6;simp only[rTxt,xV,xK,Option.isSome_some];replace s:=s.new hb6;clear hb6;have c17:=(s.blk.cell 17).trans (Pk.c17 _);have z17:=Lib.frozen_of_heap s.blk 17;go_wp2_with fail
        replace s:=s.s17 us (qhp hg6);clear c17 z17
        go_meet
        case rel=>exact⟨p6,us,rfl,s,by unfold Hid qta;rw[if_pos rfl];exact hg6⟩
     case rest=>
      obtain⟨q2,us,rfl,s,HU⟩:=hcut;have c18:=(s.blk.cell 18).trans (Pk.c18 _);change _=some (Value.bool P.hp) at c18;rw[EP.out] at c18;cases f64 with
      |false=>
       go_upto_region 39 with fail
       obtain⟨yy,hyy,s0⟩:=s.hide;rw[←hyy];clear s hyy;have s:=s0;clear s0;refine wp_region_list ?_;refine qal s.blk rfl _ rfl rfl ?_;refine qag (q:=_) (old:=Pk.zero) s.res rfl rfl ?_;intro y9 B9 g9;apply ‹∀(a:Act) (w:World),Code.wp Tryz.prog Code.ret _ a w→_›
       refine wp_ret ?_;show bodyPost Tryz.prog Tryz.f135 (fun e w'=>SRet w0 w' e (sCon l)) .ret _ _;exact qau rfl rfl B9 rfl (s.done g9 (by rw[SC.out];unfold qmf;simp only[HW.out,HU.out,Bool.false_eq_true,if_false];rw[HP.out];rfl))
      |true=>
       go_wp2_with fail
       obtain⟨yy,hyy,s0⟩:=s.hide;rw[←hyy];clear s hyy;have s:=s0;clear s0;have hRR:=HR.out.below s.gro;have hG:=qir _ n cap q2 l _ hRR hn;clear hRR;refine hG.mono ?_;clear hG;rintro e y7 ⟨a7,c7,rfl,O7,hb7⟩;generalize hg7:gL l q2=g7 at O7 ⊢;cases g7 with
       |none=>
        clear c18;simp only[xV,xK,Option.isSome_none];replace s:=s.new hb7;clear hb7
        go_upto_region 37 with fail
        obtain⟨yy,hyy,s0⟩:=s.hide;rw[←hyy];clear s hyy;have s:=s0;clear s0;refine wp_region_list ?_;refine bu_pk Pk.zero (by kernel_rfl) ?_;refine qag (q:=Pk.zero) (old:=Pk.zero) s.res rfl rfl ?_;intro y9 B9 g9;apply ‹∀(a:Act) (w:World),Code.wp Tryz.prog Code.ret _ a w→_›
        refine wp_ret ?_;show bodyPost Tryz.prog Tryz.f135 (fun e w'=>SRet w0 w' e (sCon l)) .ret _ _;exact qau rfl rfl B9 rfl (s.none g9 (by rw[SC.out];unfold qmf;simp only[HW.out,HU.out,if_true,hg7]))
       |some xk7=>
        obtain⟨pa,k7⟩:=xk7;simp only[xV,xK,Option.isSome_some] at O7 ⊢;have s_:=s.new hb7;clear c18;have c19:=(s_.blk.cell 19).trans (Pk.c19 _);have z19:=Lib.frozen_of_heap s_.blk 19
        go_upto_region 39 with fail
        replace s:=s.n19 hb7 O7 (by have:=gL_len hg7;omega);clear s_ c19 z19 hb7 O7;obtain⟨yy,hyy,s0⟩:=s.hide;rw[←hyy];clear s hyy;have s:=s0;clear s0;refine wp_region_list ?_;refine qal s.blk rfl _ rfl rfl ?_;refine qag (q:=_) (old:=Pk.zero) s.res rfl rfl ?_;intro y9 B9 g9;apply ‹∀(a:Act) (w:World),Code.wp Tryz.prog Code.ret _ a w→_›
        refine wp_ret ?_;show bodyPost Tryz.prog Tryz.f135 (fun e w'=>SRet w0 w' e (sCon l)) .ret _ _;exact qau rfl rfl B9 rfl (s.done g9 (by rw[SC.out];unfold qmf;simp only[HW.out,HU.out,if_true,hg7];rw[HP.out];rfl))
