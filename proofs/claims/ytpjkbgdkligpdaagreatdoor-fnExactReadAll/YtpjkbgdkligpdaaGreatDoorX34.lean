/- Lemmas. -/
import Derived.Test.YtpjkbgdkligpdaaGreatDoorX33
set_option linter.unusedVariables false
set_option linter.unusedSimpArgs false
set_option maxRecDepth 100000
set_option maxHeartbeats 20000000
namespace Go.Proofs.YtpjkbgdkligpdaaGreatDoor
open Go.RowKit

theorem POwn.down {w:World} {B B':Nat} {p:Pk} {d:Pd} (h:POwn w B p d) (hB:B'≤B):POwn w B' p d :=
 ⟨⟨h.bod.1,qbc h.bod.2 hB⟩,⟨h.wb.1,qbc h.wb.2 hB⟩,⟨h.pa.1,qbc h.pa.2 hB⟩,⟨h.wan.1,qbc h.wan.2 hB⟩,⟨h.nam.1,qbc h.nam.2 hB⟩,⟨h.cds.1,qbc h.cds.2 hB⟩,h.dis⟩
theorem gt_bits8 (x:Nat) (h:x<256):decide (0<bits BinOp.and IntKind.i64 (x:Int) 8)=fl x 8:=by
 have h0:∀y:Fin 256,decide (0<bits BinOp.and IntKind.i64 (y.val:Int) 8)=fl y.val 8:=by decide +kernel
 exact h0 ⟨x,h⟩
theorem gt_bits1 (x:Nat) (h:x<256):decide (0<bits BinOp.and IntKind.i64 (x:Int) 1)=fl x 1:=by
 have h0:∀y:Fin 256,decide (0<bits BinOp.and IntKind.i64 (y.val:Int) 1)=fl y.val 1:=by decide +kernel
 exact h0 ⟨x,h⟩
theorem gt_q2 (x:Nat) (h:x<256):bits BinOp.and IntKind.i64 ((x:Int) / 2) 3=(x:Int) / 2%4:=by
 have h0:∀y:Fin 256,bits BinOp.and IntKind.i64 ((y.val:Int) / 2) 3=(y.val:Int) / 2%4:=by decide +kernel
 exact h0 ⟨x,h⟩
theorem body_con (w0:World) (x:Nat) (hx:x<256) (hk:(x:Int) / 16=1) (ao:Option Addr) (n cap:Nat) (l:List UInt8) (hr:RdIn w0 ao n cap l) (hn:n≤1048576) :
  Calls Tryz.prog 88 #[.int .i64 x,.slice ao n cap] w0 fun e w'=>SRet w0 w' e (sBody x l):=by
 have HR:Hid (RdIn w0 ao n cap l):=hr;have hl:=hr.1.1;clear hr;have A1:Blk ((w0.alloc (.cells Pk.zero.cells 28)).alloc (.cells (pkK 1).cells 28)) w0.heap.size Pk.zero:=heap_alloc2_old _ _ _;have A2:Blk ((w0.alloc (.cells Pk.zero.cells 28)).alloc (.cells (pkK 1).cells 28)) (w0.alloc (.cells Pk.zero.cells 28)).heap.size (pkK 1):=heap_alloc_new _ _;rw[World.size_alloc] at A2;have s:=Ct.start (w0:=w0) 1 A2 A1 (bel (qac _ _) (qac _ _)) (by omega) (Nat.le_refl _) (by omega);clear A1 A2;go_enter Tryz.func88,Tryz.ntmps88
 go_upto_region 2 with (first | refine qbb (p:=pkK 1) rfl rfl ?_ | refine al_pk ?_ | refine bu_pk (pkK 1) (by kernel_rfl) ?_ | fail)
 simp only[World.size_alloc];generalize (w0.alloc (.cells Pk.zero.cells 28)).alloc (.cells (pkK 1).cells 28)=y0 at s ⊢;generalize w0.heap.size+1=b at *;generalize hrr:w0.heap.size=r at s ⊢;have c0:=(s.blk.cell 0).trans (Pk.c0 _);change _=some (Value.int .i64 1) at c0;go_wp2_with fail
 refine (qpg _ ao n cap l (HR.out.below s.gro) hn).mono ?_;rintro e y1 ⟨p,d,rfl,ow,gd,hv,b1⟩;have A:=s.res.next b1;have hB:Below w0.heap.size w0 y1:=s.gro.trans (b1.mono s.gro.size);have ow2:POwn y1 w0.heap.size p d:=ow.down s.gro.size;go_wp2_with (first | (refine qag (q:=p) (old:=Pk.zero) A rfl rfl ?_;intro y9 B9 g9) | fail)
 exact qau rfl rfl B9 rfl ⟨p,d,rfl,ow2.grown g9 (fun k e=>by cases e;exact ow2.ne A),gd,(by unfold sBody;rw[if_pos (by omega)];exact hv),below_st hB g9 s.rn⟩
theorem body_ack (w0:World) (x:Nat) (hx:x<256) (hk:(x:Int) / 16=2) (ao:Option Addr) (cap:Nat) (l:List UInt8) (hr:RdIn w0 ao 2 cap l) :
  Calls Tryz.prog 88 #[.int .i64 x,.slice ao 2 cap] w0 fun e w'=>SRet w0 w' e (sBody x l):=by
 have HR:Hid (RdIn w0 ao 2 cap l):=hr;have hl:=hr.1.1;clear hr;have A1:Blk ((w0.alloc (.cells Pk.zero.cells 28)).alloc (.cells (pkK 2).cells 28)) w0.heap.size Pk.zero:=heap_alloc2_old _ _ _;have A2:Blk ((w0.alloc (.cells Pk.zero.cells 28)).alloc (.cells (pkK 2).cells 28)) (w0.alloc (.cells Pk.zero.cells 28)).heap.size (pkK 2):=heap_alloc_new _ _;rw[World.size_alloc] at A2;have s:=Ct.start (w0:=w0) 2 A2 A1 (bel (qac _ _) (qac _ _)) (by omega) (Nat.le_refl _) (by omega);clear A1 A2;go_enter Tryz.func88,Tryz.ntmps88
 go_upto_region 2 with (first | refine qbb (p:=pkK 2) rfl rfl ?_ | refine al_pk ?_ | refine bu_pk (pkK 2) (by kernel_rfl) ?_ | fail)
 simp only[World.size_alloc];generalize (w0.alloc (.cells Pk.zero.cells 28)).alloc (.cells (pkK 2).cells 28)=y0 at s ⊢;generalize w0.heap.size+1=b at *;generalize hrr:w0.heap.size=r at s ⊢;have c0:=(s.blk.cell 0).trans (Pk.c0 _);change _=some (Value.int .i64 2) at c0;obtain⟨b0,off,rfl,hc⟩:=HR.out.1.at (show 0<2 by omega);have q0':=hc 0 (by omega);have q1':=hc 1 (by omega);rw[Nat.add_zero] at q0';have hb0:b0<w0.heap.size:=World.block_lt_of_cell? _ _ q0';have q0:=(s.gro.cell (p:=⟨b0,off,none⟩) hb0).trans q0';have HC:Hid (∀u,Below w0.heap.size w0 u→u.cell? ⟨b0,off+1,none⟩ = some (.int .u8 (bt l 1))):=fun u hu=>(hu.cell (p:=⟨b0,off+1,none⟩) hb0).trans q1'
 clear q0' q1' hb0 hc;have hl2:l.length=2:=hl;have h1lt:=bt_lt l 1;have h0lt:=bt_lt l 0;have c21:=(s.blk.cell 21).trans (Pk.c21 _);have z21:=Lib.frozen_of_heap s.blk 21
 by_cases h1:bt l 0=1
 ·rw[h1] at q0
  go_upto_region 7 with fail
  replace s:=s.s21 true;clear c21 z21 q0;have q1:=HC.out _ s.gro;have c20:=(s.blk.cell 20).trans (Pk.c20 _);have z20:=Lib.frozen_of_heap s.blk 20
  go_upto_region 8 with fail
  replace s:=s.s20 (bt l 1);clear c20 z20 q1;obtain⟨yz,hyy,s0⟩:=s.hide;rw[←hyy];clear s hyy;have s:=s0;clear s0;refine wp_region_list ?_;refine qal s.blk rfl _ rfl rfl ?_;refine qag (q:=_) (old:=Pk.zero) s.res rfl rfl ?_;intro y9 B9 g9;apply ‹∀(a:Act) (w:World),Code.wp Tryz.prog Code.ret _ a w→_›
  refine wp_ret ?_;show bodyPost Tryz.prog Tryz.f88 (fun e w'=>SRet w0 w' e (sBody x l)) .ret _ _;exact qau rfl rfl B9 rfl (s.done g9 (by unfold sBody;rw[if_neg (by omega),if_pos ⟨by omega,hl2⟩];simp only[h1];rfl))
 ·have h1b:(((bt l 0:Nat):Int)==1)=false:=by simp;omega
  go_upto_region 7 with fail
  replace s:=s.s21 false;clear c21 z21 q0;have q1:=HC.out _ s.gro;have c20:=(s.blk.cell 20).trans (Pk.c20 _);have z20:=Lib.frozen_of_heap s.blk 20
  go_upto_region 8 with fail
  replace s:=s.s20 (bt l 1);clear c20 z20 q1;obtain⟨yz,hyy,s0⟩:=s.hide;rw[←hyy];clear s hyy;have s:=s0;clear s0;refine wp_region_list ?_;refine qal s.blk rfl _ rfl rfl ?_;refine qag (q:=_) (old:=Pk.zero) s.res rfl rfl ?_;intro y9 B9 g9;apply ‹∀(a:Act) (w:World),Code.wp Tryz.prog Code.ret _ a w→_›
  refine wp_ret ?_;show bodyPost Tryz.prog Tryz.f88 (fun e w'=>SRet w0 w' e (sBody x l)) .ret _ _;exact qau rfl rfl B9 rfl (s.done g9 (by unfold sBody;rw[if_neg (by omega),if_pos ⟨by omega,hl2⟩];simp only[h1,decide_false];rfl))
theorem body_pub (w0:World) (x:Nat) (hx:x<256) (hk:(x:Int) / 16=3) (ao:Option Addr) (n cap:Nat) (l:List UInt8) (hr:RdIn w0 ao n cap l) (hn:n≤1048576) :
  Calls Tryz.prog 88 #[.int .i64 x,.slice ao n cap] w0 fun e w'=>SRet w0 w' e (sBody x l):=by
 have HR:Hid (RdIn w0 ao n cap l):=hr;have hl:=hr.1.1;clear hr;have A1:Blk ((w0.alloc (.cells Pk.zero.cells 28)).alloc (.cells (pkK 3).cells 28)) w0.heap.size Pk.zero:=heap_alloc2_old _ _ _;have A2:Blk ((w0.alloc (.cells Pk.zero.cells 28)).alloc (.cells (pkK 3).cells 28)) (w0.alloc (.cells Pk.zero.cells 28)).heap.size (pkK 3):=heap_alloc_new _ _;rw[World.size_alloc] at A2;have s:=Ct.start (w0:=w0) 3 A2 A1 (bel (qac _ _) (qac _ _)) (by omega) (Nat.le_refl _) (by omega);clear A1 A2;obtain⟨f8,hf8⟩ : ∃f,decide (0<bits BinOp.and IntKind.i64 (x:Int) 8)=f:=⟨_,rfl⟩;have F8:Hid (fl x 8=f8):=by unfold Hid;rw[←hf8];exact (gt_bits8 x hx).symm
 obtain⟨f1,hf1⟩ : ∃f,decide (0<bits BinOp.and IntKind.i64 (x:Int) 1)=f:=⟨_,rfl⟩;have F1:Hid (fl x 1=f1):=by unfold Hid;rw[←hf1];exact (gt_bits1 x hx).symm
 obtain⟨qq,hqq⟩ : ∃q,bits BinOp.and IntKind.i64 ((x:Int) / 2) 3=q:=⟨_,rfl⟩;have QQ:Hid ((x:Int) / 2%4=qq):=by unfold Hid;rw[←hqq];exact (gt_q2 x hx).symm
 go_enter Tryz.func88,Tryz.ntmps88
 go_upto_region 2 with (first | refine qbb (p:=pkK 3) rfl rfl ?_ | refine al_pk ?_ | refine bu_pk (pkK 3) (by kernel_rfl) ?_ | fail)
 simp only[World.size_alloc];generalize (w0.alloc (.cells Pk.zero.cells 28)).alloc (.cells (pkK 3).cells 28)=y0 at s ⊢;generalize w0.heap.size+1=b at *;generalize hrr:w0.heap.size=r at s ⊢;have c0:=(s.blk.cell 0).trans (Pk.c0 _);change _=some (Value.int .i64 3) at c0;have c1:=(s.blk.cell 1).trans (Pk.c1 _);have z1:=Lib.frozen_of_heap s.blk 1
 go_upto_region 11 with fail
 replace s:=s.s1 f8;clear c1 z1 hf8;have c2:=(s.blk.cell 2).trans (Pk.c2 _);have z2:=Lib.frozen_of_heap s.blk 2
 go_upto_region 12 with fail
 replace s:=s.s2 qq;clear c2 z2 hqq;have c3:=(s.blk.cell 3).trans (Pk.c3 _);have z3:=Lib.frozen_of_heap s.blk 3
 go_upto_region 13 with fail
 replace s:=s.s3 f1;clear c3 z3 hf1 c0;go_wp2_with fail
 obtain⟨yz,hyy,s0⟩:=s.hide;rw[←hyy];clear s hyy;have s:=s0;clear s0;have hRR:=HR.out.below s.gro;have hG:=qdd _ n cap 0 l _ hRR hn;clear hRR;refine hG.mono ?_;clear hG;rintro e y1 ⟨rfl,hb1⟩;replace s:=s.new hb1;clear hb1;cases h1:gT l 0 with
 |none=>
  simp only[rTxt,xV,xK,Option.isSome_none]
  go_upto_region 15 with fail
  obtain⟨yz,hyy,s0⟩:=s.hide;rw[←hyy];clear s hyy;have s:=s0;clear s0;refine wp_region_list ?_;refine bu_pk Pk.zero (by kernel_rfl) ?_;refine qag (q:=Pk.zero) (old:=Pk.zero) s.res rfl rfl ?_;intro y9 B9 g9;apply ‹∀(a:Act) (w:World),Code.wp Tryz.prog Code.ret _ a w→_›
  refine wp_ret ?_;show bodyPost Tryz.prog Tryz.f88 (fun e w'=>SRet w0 w' e (sBody x l)) .ret _ _;exact qau rfl rfl B9 rfl (s.none g9 (by unfold sBody;rw[if_neg (by omega),if_neg (by omega),if_pos (by omega)];unfold sPub;simp only[h1]))
 |some xk1=>
  obtain⟨tp,a⟩:=xk1;simp only[rTxt,xV,xK,Option.isSome_some];have hle1:=le_T l 0 tp a h1;have c5:=(s.blk.cell 5).trans (Pk.c5 _);have z5:=Lib.frozen_of_heap s.blk 5
  go_upto_region 17 with fail
  replace s:=s.s5 tp (qhp h1);clear c5 z5;have c2:=(s.blk.cell 2).trans (Pk.c2 _);change _=some (Value.int .i64 qq) at c2
  by_cases hq:0<qq
  ·go_wp2_with fail
   obtain⟨yz,hyy,s0⟩:=s.hide;rw[←hyy];clear s hyy;have s:=s0;clear s0;have hRR:=HR.out.below s.gro;have hG:=qdq _ n cap a l _ hRR hn;clear hRR;refine hG.mono ?_;clear hG;rintro e y2 ⟨rfl,hb2⟩;clear c2;replace s:=s.new hb2;clear hb2;cases h2:gW l a with
   |none=>
    simp only[rInt,xV,xK,Option.isSome_none]
    go_upto_region 21 with fail
    obtain⟨yz,hyy,s0⟩:=s.hide;rw[←hyy];clear s hyy;have s:=s0;clear s0;refine wp_region_list ?_;refine bu_pk Pk.zero (by kernel_rfl) ?_;refine qag (q:=Pk.zero) (old:=Pk.zero) s.res rfl rfl ?_;intro y9 B9 g9;apply ‹∀(a:Act) (w:World),Code.wp Tryz.prog Code.ret _ a w→_›
    refine wp_ret ?_;show bodyPost Tryz.prog Tryz.f88 (fun e w'=>SRet w0 w' e (sBody x l)) .ret _ _;exact qau rfl rfl B9 rfl (s.none g9 (by unfold sBody;rw[if_neg (by omega),if_neg (by omega),if_pos (by omega)];unfold sPub;simp only[h1,QQ.out,hq,if_true,h2]))
   |some xk2=>
    obtain⟨i,p2⟩:=xk2;simp only[rInt,xV,xK,Option.isSome_some];have hle2:=le_W l a i p2 h2;have c4:=(s.blk.cell 4).trans (Pk.c4 _);have z4:=Lib.frozen_of_heap s.blk 4
    go_upto_region 23 with fail
    replace s:=s.s4 i;clear c4 z4;obtain⟨ax,cx,hsl,hrx⟩:=qfp HR.out p2 (by omega);obtain⟨m,hm⟩ : ∃m,n-p2=m:=⟨_,rfl⟩;rw[hm] at hsl hrx;have hm':m≤1048576:=by omega
    clear hm;generalize y2.setCell ⟨b,4,none⟩ (.int .i64 i)=yy at s ⊢;go_wp2_with (at_builtin;refine w_app _ rfl _ _ rfl yy.heap.size _ 0 _ [] rfl (qbo yy) _ _ _ (l.drop p2) rfl ((hrx.below s.gro).alloc _) (by omega) (by simp) ?_)
    intro a2 c2 w2 ho2 hg2;have hb2:Below yy.heap.size yy w2:=qay ((Below.refl _ _).alloc (Nat.le_refl _) _) (by simp) (qbo yy) hg2;have s_:=s.new hb2;have c6:=(s_.blk.cell 6).trans (Pk.c6 _);have z6:=Lib.frozen_of_heap s_.blk 6
    go_upto_region 25 with fail
    replace s:=s.n6 hb2 ho2 (by omega);clear s_ c6 z6 hb2 ho2 hg2;obtain⟨yz,hyy,s0⟩:=s.hide;rw[←hyy];clear s hyy;have s:=s0;clear s0;refine wp_region_list ?_;refine qal s.blk rfl _ rfl rfl ?_;refine qag (q:=_) (old:=Pk.zero) s.res rfl rfl ?_;intro y9 B9 g9;apply ‹∀(a:Act) (w:World),Code.wp Tryz.prog Code.ret _ a w→_›
    refine wp_ret ?_;show bodyPost Tryz.prog Tryz.f88 (fun e w'=>SRet w0 w' e (sBody x l)) .ret _ _;exact qau rfl rfl B9 rfl (s.done g9 (by unfold sBody;rw[if_neg (by omega),if_neg (by omega),if_pos (by omega)];unfold sPub;simp only[h1,QQ.out,hq,if_true,h2,F8.out,F1.out];rfl))
  ·go_upto_region 24 with fail
   clear c2;obtain⟨ax,cx,hsl,hrx⟩:=qfp HR.out a (by omega);obtain⟨m,hm⟩ : ∃m,n-a=m:=⟨_,rfl⟩;rw[hm] at hsl hrx;have hm':m≤1048576:=by omega
   clear hm;generalize y1.setCell ⟨b,5,none⟩ (.string tp)=yy at s ⊢;go_wp2_with (at_builtin;refine w_app _ rfl _ _ rfl yy.heap.size _ 0 _ [] rfl (qbo yy) _ _ _ (l.drop a) rfl ((hrx.below s.gro).alloc _) (by omega) (by simp) ?_)
   intro a2 c2 w2 ho2 hg2;have hb2:Below yy.heap.size yy w2:=qay ((Below.refl _ _).alloc (Nat.le_refl _) _) (by simp) (qbo yy) hg2;have s_:=s.new hb2;have c6:=(s_.blk.cell 6).trans (Pk.c6 _);have z6:=Lib.frozen_of_heap s_.blk 6
   go_upto_region 25 with fail
   replace s:=s.n6 hb2 ho2 (by omega);clear s_ c6 z6 hb2 ho2 hg2;obtain⟨yz,hyy,s0⟩:=s.hide;rw[←hyy];clear s hyy;have s:=s0;clear s0;refine wp_region_list ?_;refine qal s.blk rfl _ rfl rfl ?_;refine qag (q:=_) (old:=Pk.zero) s.res rfl rfl ?_;intro y9 B9 g9;apply ‹∀(a:Act) (w:World),Code.wp Tryz.prog Code.ret _ a w→_›
   refine wp_ret ?_;show bodyPost Tryz.prog Tryz.f88 (fun e w'=>SRet w0 w' e (sBody x l)) .ret _ _;exact qau rfl rfl B9 rfl (s.done g9 (by unfold sBody;rw[if_neg (by omega),if_neg (by omega),if_pos (by omega)];unfold sPub;simp only[h1,QQ.out,if_neg (show ¬0<qq by omega),F8.out,F1.out];rfl))
theorem body_id2 (w0:World) (x:Nat) (hx:x<256) (k:Int) (hk:(x:Int) / 16=k) (t1:(k==1)=false) (t3:(k==3)=false) (t9:(k==9)=false) (t8:(k==8)=false) (t10:(k==10)=false) (k1:k≠1) (k3:k≠3) (k8:k≠8) (k9:k≠9) (k10:k≠10) (t2:(k==2)=true)  (k12:k<12) (ao:Option Addr) (n cap:Nat) (l:List UInt8) (hr:RdIn w0 ao n cap l) (hn:n≤1048576) (n2:n≠2) :
  Calls Tryz.prog 88 #[.int .i64 x,.slice ao n cap] w0 fun e w'=>SRet w0 w' e (sBody x l):=by
 have HR:Hid (RdIn w0 ao n cap l):=hr;have hl:=hr.1.1;clear hr;have A1:Blk ((w0.alloc (.cells Pk.zero.cells 28)).alloc (.cells (pkK k).cells 28)) w0.heap.size Pk.zero:=heap_alloc2_old _ _ _;have A2:Blk ((w0.alloc (.cells Pk.zero.cells 28)).alloc (.cells (pkK k).cells 28)) (w0.alloc (.cells Pk.zero.cells 28)).heap.size (pkK k):=heap_alloc_new _ _;rw[World.size_alloc] at A2;have s:=Ct.start (w0:=w0) k A2 A1 (bel (qac _ _) (qac _ _)) (by omega) (Nat.le_refl _) (by omega);clear A1 A2;go_enter Tryz.func88,Tryz.ntmps88
 go_upto_region 2 with (first | refine qbb (p:=pkK k) rfl rfl ?_ | refine al_pk ?_ | refine bu_pk (pkK k) (by kernel_rfl) ?_ | fail)
 simp only[World.size_alloc];generalize (w0.alloc (.cells Pk.zero.cells 28)).alloc (.cells (pkK k).cells 28)=y0 at s ⊢;generalize w0.heap.size+1=b at *;generalize hrr:w0.heap.size=r at s ⊢;have c0:=(s.blk.cell 0).trans (Pk.c0 _);change _=some (Value.int .i64 k) at c0;have k2:k=2:=by simpa using t2
 have n2i:¬(n:Int)=2:=by omega
 go_wp2_with fail
 obtain⟨yz,hyy,s0⟩:=s.hide;rw[←hyy];clear s hyy;have s:=s0;clear s0;have hRR:=HR.out.below s.gro;have hG:=qdq _ n cap 0 l _ hRR hn;clear hRR;refine hG.mono ?_;clear hG;rintro e y1 ⟨rfl,hb1⟩;replace s:=s.new hb1;clear hb1;cases h1:gW l 0 with
 |none=>
  simp only[rInt,xV,xK,Option.isSome_none]
  go_upto_region 29 with fail
  obtain⟨yz,hyy,s0⟩:=s.hide;rw[←hyy];clear s hyy;have s:=s0;clear s0;refine wp_region_list ?_;refine bu_pk Pk.zero (by kernel_rfl) ?_;refine qag (q:=Pk.zero) (old:=Pk.zero) s.res rfl rfl ?_;intro y9 B9 g9;apply ‹∀(a:Act) (w:World),Code.wp Tryz.prog Code.ret _ a w→_›
  refine wp_ret ?_;show bodyPost Tryz.prog Tryz.f88 (fun e w'=>SRet w0 w' e (sBody x l)) .ret _ _;exact qau rfl rfl B9 rfl (s.none g9 (by unfold sBody;rw[if_neg (by omega),if_neg (by omega),if_neg (by omega),if_pos (by omega)];simp only[h1]))
 |some xk1=>
  obtain⟨i,a⟩:=xk1;simp only[rInt,xV,xK,Option.isSome_some];have c4:=(s.blk.cell 4).trans (Pk.c4 _);have z4:=Lib.frozen_of_heap s.blk 4
  go_upto_region 31 with fail
  replace s:=s.s4 i;clear c4 z4;replace c0:=(s.blk.cell 0).trans (Pk.c0 _);change _=some (Value.int .i64 k) at c0;generalize y1.setCell ⟨b,4,none⟩ (.int .i64 i)=yy at *;go_wp2_with fail
  go_loopw [6] (fun v wz=>v=.int .i64 a∧wz=yy) (fun _ _=>0)
  case atStart=>exact⟨rfl,rfl⟩
  case round=>
   obtain⟨rfl,rfl⟩:=hrel
   by_cases hat:((a:Nat):Int)<n
   ·go_upto_region 48 with fail
    obtain⟨yz,hyy,s0⟩:=s.hide;rw[←hyy];clear s hyy;have s:=s0;clear s0;refine wp_region_list ?_;refine qal s.blk rfl _ rfl rfl ?_;refine qag (q:=_) (old:=Pk.zero) s.res rfl rfl ?_;intro y9 B9 g9;apply ‹∀(a:Act) (w:World),Code.wp Tryz.prog Code.ret _ a w→_›
    refine wp_ret ?_;show bodyPost Tryz.prog Tryz.f88 (fun e w'=>SRet w0 w' e (sBody x l)) .ret _ _;exact qau rfl rfl B9 rfl (s.done g9 (by unfold sBody;rw[if_neg (by omega),if_neg (by omega),if_neg (by omega),if_pos (by omega)];simp only[h1];rw[if_neg (by omega),if_neg (by omega),if_neg (by omega)];unfold pv;simp only[pkK,Pk.zero,Pv.zero,e0];congr 1))
   ·go_upto_region 48 with fail
    obtain⟨yz,hyy,s0⟩:=s.hide;rw[←hyy];clear s hyy;have s:=s0;clear s0;refine wp_region_list ?_;refine qal s.blk rfl _ rfl rfl ?_;refine qag (q:=_) (old:=Pk.zero) s.res rfl rfl ?_;intro y9 B9 g9;apply ‹∀(a:Act) (w:World),Code.wp Tryz.prog Code.ret _ a w→_›
    refine wp_ret ?_;show bodyPost Tryz.prog Tryz.f88 (fun e w'=>SRet w0 w' e (sBody x l)) .ret _ _;exact qau rfl rfl B9 rfl (s.done g9 (by unfold sBody;rw[if_neg (by omega),if_neg (by omega),if_neg (by omega),if_pos (by omega)];simp only[h1];rw[if_neg (by omega),if_neg (by omega),if_neg (by omega)];unfold pv;simp only[pkK,Pk.zero,Pv.zero,e0];congr 1))
theorem body_ido (w0:World) (x:Nat) (hx:x<256) (k:Int) (hk:(x:Int) / 16=k) (t1:(k==1)=false) (t3:(k==3)=false) (t9:(k==9)=false) (t8:(k==8)=false) (t10:(k==10)=false) (k1:k≠1) (k3:k≠3) (k8:k≠8) (k9:k≠9) (k10:k≠10) (t2:(k==2)=false) (k12:k<12) (ao:Option Addr) (n cap:Nat) (l:List UInt8) (hr:RdIn w0 ao n cap l) (hn:n≤1048576) :
  Calls Tryz.prog 88 #[.int .i64 x,.slice ao n cap] w0 fun e w'=>SRet w0 w' e (sBody x l):=by
 have HR:Hid (RdIn w0 ao n cap l):=hr;have hl:=hr.1.1;clear hr;have A1:Blk ((w0.alloc (.cells Pk.zero.cells 28)).alloc (.cells (pkK k).cells 28)) w0.heap.size Pk.zero:=heap_alloc2_old _ _ _;have A2:Blk ((w0.alloc (.cells Pk.zero.cells 28)).alloc (.cells (pkK k).cells 28)) (w0.alloc (.cells Pk.zero.cells 28)).heap.size (pkK k):=heap_alloc_new _ _;rw[World.size_alloc] at A2;have s:=Ct.start (w0:=w0) k A2 A1 (bel (qac _ _) (qac _ _)) (by omega) (Nat.le_refl _) (by omega);clear A1 A2;go_enter Tryz.func88,Tryz.ntmps88
 go_upto_region 2 with (first | refine qbb (p:=pkK k) rfl rfl ?_ | refine al_pk ?_ | refine bu_pk (pkK k) (by kernel_rfl) ?_ | fail)
 simp only[World.size_alloc];generalize (w0.alloc (.cells Pk.zero.cells 28)).alloc (.cells (pkK k).cells 28)=y0 at s ⊢;generalize w0.heap.size+1=b at *;generalize hrr:w0.heap.size=r at s ⊢;have c0:=(s.blk.cell 0).trans (Pk.c0 _);change _=some (Value.int .i64 k) at c0;have k2:k≠2:=by simpa using t2
 go_wp2_with fail
 obtain⟨yz,hyy,s0⟩:=s.hide;rw[←hyy];clear s hyy;have s:=s0;clear s0;have hRR:=HR.out.below s.gro;have hG:=qdq _ n cap 0 l _ hRR hn;clear hRR;refine hG.mono ?_;clear hG;rintro e y1 ⟨rfl,hb1⟩;replace s:=s.new hb1;clear hb1;cases h1:gW l 0 with
 |none=>
  simp only[rInt,xV,xK,Option.isSome_none]
  go_upto_region 29 with fail
  obtain⟨yz,hyy,s0⟩:=s.hide;rw[←hyy];clear s hyy;have s:=s0;clear s0;refine wp_region_list ?_;refine bu_pk Pk.zero (by kernel_rfl) ?_;refine qag (q:=Pk.zero) (old:=Pk.zero) s.res rfl rfl ?_;intro y9 B9 g9;apply ‹∀(a:Act) (w:World),Code.wp Tryz.prog Code.ret _ a w→_›
  refine wp_ret ?_;show bodyPost Tryz.prog Tryz.f88 (fun e w'=>SRet w0 w' e (sBody x l)) .ret _ _;exact qau rfl rfl B9 rfl (s.none g9 (by unfold sBody;rw[if_neg (by omega),if_neg (by omega),if_neg (by omega),if_pos (by omega)];simp only[h1]))
 |some xk1=>
  obtain⟨i,a⟩:=xk1;simp only[rInt,xV,xK,Option.isSome_some];have c4:=(s.blk.cell 4).trans (Pk.c4 _);have z4:=Lib.frozen_of_heap s.blk 4
  go_upto_region 31 with fail
  replace s:=s.s4 i;clear c4 z4;replace c0:=(s.blk.cell 0).trans (Pk.c0 _);change _=some (Value.int .i64 k) at c0;generalize y1.setCell ⟨b,4,none⟩ (.int .i64 i)=yy at *;go_wp2_with fail
  go_loopw [6] (fun v wz=>v=.int .i64 a∧wz=yy) (fun _ _=>0)
  case atStart=>exact⟨rfl,rfl⟩
  case round=>
   obtain⟨rfl,rfl⟩:=hrel
   by_cases hat:((a:Nat):Int)<n
   ·go_upto_region 48 with fail
    obtain⟨yz,hyy,s0⟩:=s.hide;rw[←hyy];clear s hyy;have s:=s0;clear s0;refine wp_region_list ?_;refine qal s.blk rfl _ rfl rfl ?_;refine qag (q:=_) (old:=Pk.zero) s.res rfl rfl ?_;intro y9 B9 g9;apply ‹∀(a:Act) (w:World),Code.wp Tryz.prog Code.ret _ a w→_›
    refine wp_ret ?_;show bodyPost Tryz.prog Tryz.f88 (fun e w'=>SRet w0 w' e (sBody x l)) .ret _ _;exact qau rfl rfl B9 rfl (s.done g9 (by unfold sBody;rw[if_neg (by omega),if_neg (by omega),if_neg (by omega),if_pos (by omega)];simp only[h1];rw[if_neg (by omega),if_neg (by omega),if_neg (by omega)];unfold pv;simp only[pkK,Pk.zero,Pv.zero,e0];congr 1))
   ·go_upto_region 48 with fail
    obtain⟨yz,hyy,s0⟩:=s.hide;rw[←hyy];clear s hyy;have s:=s0;clear s0;refine wp_region_list ?_;refine qal s.blk rfl _ rfl rfl ?_;refine qag (q:=_) (old:=Pk.zero) s.res rfl rfl ?_;intro y9 B9 g9;apply ‹∀(a:Act) (w:World),Code.wp Tryz.prog Code.ret _ a w→_›
    refine wp_ret ?_;show bodyPost Tryz.prog Tryz.f88 (fun e w'=>SRet w0 w' e (sBody x l)) .ret _ _;exact qau rfl rfl B9 rfl (s.done g9 (by unfold sBody;rw[if_neg (by omega),if_neg (by omega),if_neg (by omega),if_pos (by omega)];simp only[h1];rw[if_neg (by omega),if_neg (by omega),if_neg (by omega)];unfold pv;simp only[pkK,Pk.zero,Pv.zero,e0];congr 1))
theorem body_no (w0:World) (x:Nat) (hx:x<256) (k:Int) (hk:(x:Int) / 16=k) (t1:(k==1)=false) (t3:(k==3)=false) (t9:(k==9)=false) (t8:(k==8)=false) (t10:(k==10)=false) (k1:k≠1) (k3:k≠3) (k8:k≠8) (k9:k≠9) (k10:k≠10) (t2:(k==2)=false) (k12:¬k<12) (ao:Option Addr) (n cap:Nat) (l:List UInt8) (hr:RdIn w0 ao n cap l) (hn:n≤1048576) :
  Calls Tryz.prog 88 #[.int .i64 x,.slice ao n cap] w0 fun e w'=>SRet w0 w' e (sBody x l):=by
 have HR:Hid (RdIn w0 ao n cap l):=hr;have hl:=hr.1.1;clear hr;have A1:Blk ((w0.alloc (.cells Pk.zero.cells 28)).alloc (.cells (pkK k).cells 28)) w0.heap.size Pk.zero:=heap_alloc2_old _ _ _;have A2:Blk ((w0.alloc (.cells Pk.zero.cells 28)).alloc (.cells (pkK k).cells 28)) (w0.alloc (.cells Pk.zero.cells 28)).heap.size (pkK k):=heap_alloc_new _ _;rw[World.size_alloc] at A2;have s:=Ct.start (w0:=w0) k A2 A1 (bel (qac _ _) (qac _ _)) (by omega) (Nat.le_refl _) (by omega);clear A1 A2;go_enter Tryz.func88,Tryz.ntmps88
 go_upto_region 2 with (first | refine qbb (p:=pkK k) rfl rfl ?_ | refine al_pk ?_ | refine bu_pk (pkK k) (by kernel_rfl) ?_ | fail)
 simp only[World.size_alloc];generalize (w0.alloc (.cells Pk.zero.cells 28)).alloc (.cells (pkK k).cells 28)=y0 at s ⊢;generalize w0.heap.size+1=b at *;generalize hrr:w0.heap.size=r at s ⊢;have c0:=(s.blk.cell 0).trans (Pk.c0 _);change _=some (Value.int .i64 k) at c0;have k2:k≠2:=by simpa using t2
 go_wp2_with fail
 go_loopw [6] (fun v wz=>v=.int .i64 0∧wz=y0) (fun _ _=>0)
 case atStart=>exact⟨rfl,rfl⟩
 case round=>
  obtain⟨rfl,rfl⟩:=hrel
  by_cases hat:0<n
  ·go_upto_region 48 with fail
   obtain⟨yz,hyy,s0⟩:=s.hide;rw[←hyy];clear s hyy;have s:=s0;clear s0;refine wp_region_list ?_;refine qal s.blk rfl _ rfl rfl ?_;refine qag (q:=_) (old:=Pk.zero) s.res rfl rfl ?_;intro y9 B9 g9;apply ‹∀(a:Act) (w:World),Code.wp Tryz.prog Code.ret _ a w→_›
   refine wp_ret ?_;show bodyPost Tryz.prog Tryz.f88 (fun e w'=>SRet w0 w' e (sBody x l)) .ret _ _;exact qau rfl rfl B9 rfl (s.done g9 (by unfold sBody;rw[if_neg (by omega),if_neg (by omega),if_neg (by omega),if_neg (by omega)];unfold pv;simp only[pkK,Pk.zero,Pv.zero,e0];congr 1))
  ·go_upto_region 48 with fail
   obtain⟨yz,hyy,s0⟩:=s.hide;rw[←hyy];clear s hyy;have s:=s0;clear s0;refine wp_region_list ?_;refine qal s.blk rfl _ rfl rfl ?_;refine qag (q:=_) (old:=Pk.zero) s.res rfl rfl ?_;intro y9 B9 g9;apply ‹∀(a:Act) (w:World),Code.wp Tryz.prog Code.ret _ a w→_›
   refine wp_ret ?_;show bodyPost Tryz.prog Tryz.f88 (fun e w'=>SRet w0 w' e (sBody x l)) .ret _ _;exact qau rfl rfl B9 rfl (s.done g9 (by unfold sBody;rw[if_neg (by omega),if_neg (by omega),if_neg (by omega),if_neg (by omega)];unfold pv;simp only[pkK,Pk.zero,Pv.zero,e0];congr 1))

def rowR (Ds:List Nat) (A g:Nat) (row:Option Nat) (i:Nat):Option Nat:=if Ds.contains i then some g else if i=A then row else none
section
variable {m : Nat} {w0 y y' : World} {g r b : Nat} {ao : Option Addr} {n cap : Nat} {l : List UInt8} {p q : Pk} {d dq : Pd}
def RR (Ds:List Nat) (A g:Nat) (row:Option Nat) (e:TypeId) (ao:Option Addr) (n cap:Nat) (l:List UInt8) (i:Nat) (u u':World):Prop :=
 u.grownBy u' (rowR Ds A g row i)∧(Cur u g ao n cap l→Cur u' g ao n cap l)∧(i=A→∀k,row=some k→w_ty u k e)
where w_ty (u:World) (k:Nat) (e:TypeId):Prop:=∃cur,u.heap[k]? = some (.cells cur e)
def HH (A N:Nat) (S X:World→Prop) (k:Nat) (u:World):Prop:=if k≤A then S u else if k=N then X u else True
theorem has_ty {u:World} {B:Nat} {k:Nat} {e:TypeId} (ho:POwn u B q d) (ht:RR.w_ty u k e) (h5:e≠5) (hw:e≠88∨q.wan.a=none) (hs:e≠9∨q.nam.a=none) (hi:e≠3∨q.cds.a=none):¬q.has k:=by
 rintro ⟨a,ha,rfl⟩;obtain⟨cur,hc⟩:=ht;simp only[List.mem_cons,List.not_mem_nil,or_false] at ha
 rcases ha with ha | ha | ha | ha | ha | ha
 ·have hh:=ho.bod.2;rw[←ha] at hh;obtain⟨_,h1⟩:=qbr hh;exact ty_ne hc h1 h5 rfl
 ·have hh:=ho.wb.2;rw[←ha] at hh;obtain⟨_,h1⟩:=qbr hh;exact ty_ne hc h1 h5 rfl
 ·have hh:=ho.pa.2;rw[←ha] at hh;obtain⟨_,h1⟩:=qbr hh;exact ty_ne hc h1 h5 rfl
 ·rcases hw with hw | hw
  ·have hh:=ho.wan.2;rw[←ha] at hh;obtain⟨_,h1⟩:=qbr hh;exact ty_ne hc h1 hw rfl
  ·rw[hw] at ha;cases ha
 ·rcases hs with hw | hw
  ·have hh:=ho.nam.2;rw[←ha] at hh;obtain⟨_,h1⟩:=qbr hh;exact ty_ne hc h1 hw rfl
  ·rw[hw] at ha;cases ha
 ·rcases hi with hw | hw
  ·have hh:=ho.cds.2;rw[←ha] at hh;obtain⟨_,h1⟩:=qbr hh;exact ty_ne hc h1 hw rfl
  ·rw[hw] at ha;cases ha
theorem qsv {u:World} {B:Nat} {e:TypeId} {s:Nat} {a:Option Addr} {k c x:Nat} {xs:List Value} (h:u.ownsRow B e s (.slice a k c) x xs):∀z,(Value.slice a k c).ownBlock=some z→RR.w_ty u z e∧B≤z∧z<u.heap.size:=by
 intro z hz;have hlt:=h.lt z hz;cases a with
 |none=>simp[Value.ownBlock] at hz
 |some q=>
  obtain rfl:q.block=z:=by simpa[Value.ownBlock] using hz
  exact⟨qbr h,hlt⟩
end
