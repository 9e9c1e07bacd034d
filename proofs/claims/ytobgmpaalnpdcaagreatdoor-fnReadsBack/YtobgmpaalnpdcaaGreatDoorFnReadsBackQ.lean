/- FnReadsBack: whatever it is handed, the law function laws.FnReadsBack returns true, and its arguments read afterwards as before. No condition. -/
import Derived.Test.YtobgmpaalnpdcaaGreatDoorV39
import Derived.Test.YtobgmpaalnpdcaaGreatDoorV36
import Derived.Test.YtobgmpaalnpdcaaGreatDoorV16
import Derived.Test.YtobgmpaalnpdcaaGreatDoorV07
import Derived.Test.YtobgmpaalnpdcaaGreatDoorV44
import Derived.Test.YtobgmpaalnpdcaaGreatDoorV29
import Derived.Test.YtobgmpaalnpdcaaGreatDoorV20
import Derived.Test.YtobgmpaalnpdcaaGreatDoorRows
import Derived.Test.YtobgmpaalnpdcaaGreatDoorTie
import Derived.Test.YtobgmpaalnpdcaaGreatDoorCards
import Derived.LaidMore
import Derived.Lay
import Derived.SevenTiedAt
import Derived.Stop.Joined
import Derived.ChangeSame
import Derived.ChangeVars
import Derived.JoinedOf
import Derived.RowKit
import Derived.LaidLaws
import Derived.LaidHandle
import Derived.WalkKit
import Derived.ProofKit
import Derived.OpenShut
import Derived.ShutString
import Derived.ChangeOld
import Derived.Below
import Derived.Deep.Strs
namespace Go.Proofs.YtobgmpaalnpdcaaGreatDoor
open Go.ChangeShapes Go.WideShapes Go.ChangeAt Go.RowKit
open Go.ChangeMaps (open_string shut_string)
set_option linter.unusedVariables false
set_option linter.unusedSimpArgs false

theorem rb_ok (xs:Array Value) (u:World):(callFunc 16 xs).run Tryz.prog u=.ok (.enter 16 xs) u:=by kernel_rfl
theorem rb_put (xs:Array Value) (u:World):(callFunc 15 xs).run Tryz.prog u=.ok (.enter 15 xs) u:=by kernel_rfl
theorem rb_same (xs:Array Value) (u:World):(callFunc 28 xs).run Tryz.prog u=.ok (.enter 28 xs) u:=by kernel_rfl
theorem nei_t (u:World) (x y:Operand) (a b:Int) (h:a≠b):(do eqGuard .neq 3 x y (.int .i64 a) (.int .i64 b);binOp .neq 3 (.int .i64 a) (.int .i64 b):Sem Value).run Tryz.prog u=.ok (.bool true) u:=by
 have h':(a==b)=false:=by simpa using h
 simp[go_sem,Tryz.underlying3,h,h']
theorem nei_f (u:World) (x y:Operand) (a b:Int) (h:a=b):(do eqGuard .neq 3 x y (.int .i64 a) (.int .i64 b);binOp .neq 3 (.int .i64 a) (.int .i64 b):Sem Value).run Tryz.prog u=.ok (.bool false) u:=by
 subst h;simp[go_sem,Tryz.underlying3]
set_option maxRecDepth 100000 in
set_option maxHeartbeats 8000000 in
theorem fnReadsBack_walk (a0:Option Addr) (len0 cap0:Nat) (l:List UInt8) (w:World) (hT:ErrTy w) (w0:RdIn w a0 len0 cap0 l) :
  Calls Tryz.prog 5 #[.slice a0 len0 cap0] w fun e w'=>e=.returned (.bool true)∧Below w.heap.size w w':=by
 have hTl:1<w.heap.size:=World.block_lt_of_cell? _ _ hT
 by_cases hbig:1048576<len0
 ·go_enter Tryz.func5,Tryz.ntmps5;go_wp2_with fail
  refine (big_lbig _ _ _ true _ (decide_eq_true hbig)).mono ?_;rintro e u ⟨rfl,rfl⟩;go_wp2;go_ret;exact⟨rfl,Below.refl _ _⟩
 have HT:Hid (∀u,Below w.heap.size w u→ErrTy u):=fun u hu=>hT.below hu hTl
 have W0:Hid (∀u,Below w.heap.size w u→RdIn u a0 len0 cap0 l):=fun u hu=>w0.below hu
 clear hT hTl w0;go_enter Tryz.func5,Tryz.ntmps5;go_wp2_with fail
 refine (big_lbig _ _ _ false _ (decide_eq_false hbig)).mono ?_;rintro e u ⟨rfl,hu⟩;rw[hu];clear hu;have hb:Below w.heap.size w w:=Below.refl _ _;go_wp2_with fail
 refine (draw_sDrawGetPacket _ _ _ l _ (W0.out _ hb) (by omega)).mono ?_;rintro e u1 ⟨a1,m1,c1,x,hm1,rfl,hO1,b1⟩;replace hb:=bel hb b1;have hR:=hO1.rd;have hl:x.length=m1:=hO1.1;clear b1 hO1;obtain⟨v,nn,cc,hg⟩ : ∃v nn cc,getP x=(v,nn,cc):=⟨_,_,_,rfl⟩;have HG:Hid (getP x=(v,nn,cc)):=hg;clear hg;have hnn:(nn != nn)=false:=by simp
 have hcc:(cc != cc)=false:=by simp
 go_wp2_with fail
 refine (get_i _ _ _ x _ hR (by omega) (HT.out _ hb)).mono ?_;intro e u2 hh;unfold Got at hh;rw[HG.out] at hh;obtain⟨p,d,rfl,ow,gd,hpv,b2⟩:=hh;replace hR:=hR.below b2;replace hb:=bel hb b2;clear b2;have HV:Hid (pv p d=v):=hpv;clear hpv;have hsz:=gd.sz;have hln:=gd.ln;have A:Blk (u2.alloc (.cells p.cells 28)) u2.heap.size p:=heap_alloc_new _ _;have b3:=bel_new u2 (.cells p.cells 28);have hP:PRd (u2.alloc (.cells p.cells 28)) p d:=ow.rd.below b3;replace hR:=hR.below b3;replace hb:=bel hb b3;clear b3 ow gd;go_wp2_with (first | refine var_pk (p:=p) rfl rfl ?_ | fail)
 refine (get_s _ _ _ x _ hR (by omega)).mono ?_;intro e u4 hh;unfold Got at hh;rw[HG.out] at hh;obtain⟨q,dq,rfl,owq,gdq,hpvq,b4⟩:=hh;replace A:=A.next b4;replace hP:=hP.below b4;replace hR:=hR.below b4;replace hb:=bel hb b4;clear b4;have HD:Hid (decide (pv p d=pv q dq)=true):=decide_eq_true (HV.out.trans hpvq.symm);clear hpvq gdq;have D:Blk (u4.alloc (.cells q.cells 28)) u4.heap.size q:=heap_alloc_new _ _;have b5:=bel_new u4 (.cells q.cells 28);have hQ:PRd (u4.alloc (.cells q.cells 28)) q dq:=owq.rd.below b5;replace A:=A.next b5;replace hP:=hP.below b5;replace hR:=hR.below b5;replace hb:=bel hb b5;clear b5 owq;go_wp2_with (first | refine var_pk (p:=q) rfl rfl ?_ | refine load_pk A rfl _ rfl rfl ?_ | refine load_pk D rfl _ rfl rfl ?_ | fail)
 refine (same_iSamePacket p q d dq _ hP hQ).mono ?_;rintro e u6 ⟨rfl,b6⟩;rw[HD.out];replace A:=A.next b6;replace hP:=hP.below b6;replace hR:=hR.below b6;replace hb:=bel hb b6;clear b6 hQ D;have hs6:u6.heap.size<(u6.alloc (.cells #[] 5)).heap.size:=by simp
 go_wp2_with (at_builtin;refine w_app _ rfl _ _ rfl u6.heap.size _ 0 _ [] rfl (own_lit0 u6) _ _ _ x rfl (hR.alloc _) (by omega) (by simp) ?_)
 intro a7 c7 u7 ho7 hg7;have b7:Below u6.heap.size u6 u7:=below_grow (bel_new u6 (.cells #[] 5)) (Nat.le_of_lt hs6) (own_lit0 u6) hg7;clear hg7;go_wp2_with fail
 refine (at_lat _ _ _ 2 l _ (W0.out _ (bel hb b7)) (by omega) (by omega)).mono ?_;rintro e u8 ⟨z,hz,rfl,hu⟩;rw[hu];clear hu;have hzm:(z:Int)%256=z:=by omega
 obtain⟨y,hyl,hO8⟩:=own_one u7 z hz;have hry:=hO8.rd;have hs7:=b7.size;go_wp2_with (at_builtin;refine w_app _ rfl _ _ rfl u6.heap.size _ _ _ _ rfl (ho7.alloc _) _ _ _ y rfl hry (by omega) (by simp;omega) ?_)
 intro a9 c9 u9 ho9 hg9;have b9:Below u6.heap.size u6 u9:=below_grow (b7.alloc (by omega) _) (by simp;omega) (ho7.alloc _) hg9;clear hg9 ho7 hO8 hry b7 hs7;replace A:=A.next b9;replace hP:=hP.below b9;replace hR:=hR.below b9;replace hb:=bel hb b9;have hr9:=ho9.rd;clear b9 ho9;obtain⟨v2,nn2,cc2,hg2⟩ : ∃v nn cc,getP (x++y)=(v,nn,cc):=⟨_,_,_,rfl⟩;have HG2:Hid (getP (x++y)=(v2,nn2,cc2)):=hg2;clear hg2;go_wp2_with fail
 refine (get_i _ _ _ _ _ hr9 (by omega) (HT.out _ hb)).mono ?_;intro e u10 hh;unfold Got at hh;rw[HG2.out] at hh;obtain⟨p10,d10,rfl,ow10,gd10,hpv10,b10⟩:=hh;clear ow10 gd10 hpv10 hr9;replace A:=A.next b10;replace hP:=hP.below b10;replace hR:=hR.below b10;replace hb:=bel hb b10;have b11:=bel_new u10 (.cells p10.cells 28);replace A:=A.next b11;replace hP:=hP.below b11;replace hR:=hR.below b11;replace hb:=bel hb b11;clear b10 b11
 by_cases hc1:cc=1
 ·subst hc1;have hn0:nn=0:=by
   have h1:(getP x).2.2=1:=by rw[HG.out]
   have h2:=getP_of1 (getP_one h1);rw[HG.out] at h2
   simpa using congrArg (fun z=>z.2.1) h2
  subst hn0;go_wp2_with (first | refine var_pk (p:=p10) rfl rfl ?_ | fail)
  go_ret;exact⟨rfl,hb⟩
 have e2:nn2=nn∧cc2=cc:=by
  have h1:(getP x).2.2≠1:=by rw[HG.out];exact hc1
  have h2:=getP_ext (t:=y) h1;rw[HG.out,HG2.out] at h2;simp only[Prod.mk.injEq] at h2;exact h2.2
 obtain⟨rfl,rfl⟩:=e2;clear HG2;have hc1':(cc2==1)=false:=by simpa using hc1
 by_cases hcc0:cc2=0
 ·subst hcc0;have h0:(getP x).2.2=0:=by rw[HG.out]
  obtain⟨k1,k2,k3,k4,k5⟩:=getP_pos h0;rw[HG.out] at k1 k2 k3 k4 k5;simp only at k1 k2 k3 k4 k5;obtain⟨nk,rfl⟩ : ∃nk:Nat,nn2=nk:=⟨_,k5⟩;simp only[Int.toNat_natCast] at k1 k2 k4;rw[←HV.out] at k3 k4;have hok:Hid ((pv p d).ok=true):=k3;have hRk:=rd_headS hR (j:=nk) (by omega);rw[k4] at hRk;have hcb:=hR.2.1;have hsl:∀w',(Instr.slice 22 (.slice a1 m1 c1) none (some (.int .i64 (nk:Int))) none).run Tryz.prog w'=.ok (.slice a1 nk c1) w':=fun w'=>slice_head a1 m1 c1 nk (by omega) w'
  clear k1 k2 k3 k4 k5 h0
  go_upto_region 11 with (first | refine var_pk (p:=p10) rfl rfl ?_ | fail)
  refine region_facts_g (by kernel_rfl) rfl (fun i u x=>match i with
   |0=>u=.int .i64 0
   |1=>u=.int .i64 0
   |2=>u=.bool true
   |3=>u=.bool true
   |4=>u=.int .i64 (nk:Int)
   |5=>u=.int .i64 (nk:Int)
   |6=>u=.bool true
   |7=>u=.bool true
   |8=>u=.bool true
   |9=>u=.int .i64 0
   |10=>u=.bool false
   |11=>u=.bool false
   |12=>u=.agg p.cells
   |13=>u=.bool true
   |14=>u=.bool true
   |15=>u=.agg p.cells
   |16=>∃(a:Option Addr) (m c:Nat),u=.slice a m c∧RdIn x a m c (pv p d).bytes
   |17=>u=.slice a1 m1 c1
   |18=>u=.int .i64 (nk:Int)
   |19=>u=.slice a1 nk c1
   |20=>u=.bool true
   |21=>u=.bool true
   |22=>u=.bool true
   |23=>u=.bool true
   |24=>u=.bool true
   |_=>True) ?_ ?_ ?_
  ·intro i u x x' hx h
   match i,h with
   |0,h=>exact h
   |1,h=>exact h
   |2,h=>exact h
   |3,h=>exact h
   |4,h=>exact h
   |5,h=>exact h
   |6,h=>exact h
   |7,h=>exact h
   |8,h=>exact h
   |9,h=>exact h
   |10,h=>exact h
   |11,h=>exact h
   |12,h=>exact h
   |13,h=>exact h
   |14,h=>exact h
   |15,h=>exact h
   |16,h=>exact (by obtain⟨a,m,c,e1,e2⟩:=h;exact⟨a,m,c,e1,e2.below hx⟩)
   |17,h=>exact h
   |18,h=>exact h
   |19,h=>exact h
   |20,h=>exact h
   |21,h=>exact h
   |22,h=>exact h
   |23,h=>exact h
   |24,h=>exact h
   |(_+25),h=>trivial
  ·intro i o a u hi hk hbu hdep
   match i,hi with
   |0,hi=>
    cases hi;exact g_run (wanted_none rfl _) (z_move _ rfl (eval_at ((hk.at 12 rfl).trans rfl)) ⟨_,rfl,Below.refl _ _,rfl⟩)
   |1,hi=>
    cases hi;exact g_run (wanted_none rfl _) (z_move _ rfl (eval_at ((hk.at 6 rfl).trans rfl)) ⟨_,rfl,Below.refl _ _,rfl⟩)
   |2,hi=>
    cases hi;obtain⟨z0,hz0,rfl⟩:=hdep 0 _ _ rfl rfl rfl;obtain⟨z1,hz1,rfl⟩:=hdep 1 _ _ rfl rfl rfl;exact g_run (wanted_none rfl _) (z_bin _ _ _ _ _ rfl (eval_at hz0) (eval_at hz1) (eqi_t _ _ _ _ _ rfl) ⟨_,rfl,Below.refl _ _,rfl⟩)
   |3,hi=>
    cases hi;obtain⟨z2,hz2,rfl⟩:=hdep 2 _ _ rfl rfl rfl;exact g_run (wanted_none rfl _) (z_move _ rfl (eval_at hz2) ⟨_,rfl,Below.refl _ _,rfl⟩)
   |4,hi=>
    cases hi;obtain⟨z3,hz3,rfl⟩:=hdep 3 _ _ rfl rfl rfl;exact g_run (wanted_is rfl (yields rfl hz3)) (z_move _ rfl (eval_at ((hk.at 11 rfl).trans rfl)) ⟨_,rfl,Below.refl _ _,rfl⟩)
   |5,hi=>
    cases hi;obtain⟨z3,hz3,rfl⟩:=hdep 3 _ _ rfl rfl rfl;exact g_run (wanted_is rfl (yields rfl hz3)) (z_move _ rfl (eval_at ((hk.at 5 rfl).trans rfl)) ⟨_,rfl,Below.refl _ _,rfl⟩)
   |6,hi=>
    cases hi;obtain⟨z3,hz3,rfl⟩:=hdep 3 _ _ rfl rfl rfl;obtain⟨z4,hz4,rfl⟩:=hdep 4 _ _ rfl rfl rfl;obtain⟨z5,hz5,rfl⟩:=hdep 5 _ _ rfl rfl rfl;exact g_run (wanted_is rfl (yields rfl hz3)) (z_bin _ _ _ _ _ rfl (eval_at hz4) (eval_at hz5) (eqi_t _ _ _ _ _ rfl) ⟨_,rfl,Below.refl _ _,rfl⟩)
   |7,hi=>
    cases hi;obtain⟨z3,hz3,rfl⟩:=hdep 3 _ _ rfl rfl rfl;obtain⟨z6,hz6,rfl⟩:=hdep 6 _ _ rfl rfl rfl;exact g_run (wanted_none rfl _) (z_pickT _ _ _ rfl (eval_at hz3) (eval_at hz6) ⟨_,rfl,Below.refl _ _,rfl⟩)
   |8,hi=>
    cases hi;obtain⟨z7,hz7,rfl⟩:=hdep 7 _ _ rfl rfl rfl;exact g_run (wanted_none rfl _) (z_move _ rfl (eval_at hz7) ⟨_,rfl,Below.refl _ _,rfl⟩)
   |9,hi=>
    cases hi;obtain⟨z8,hz8,rfl⟩:=hdep 8 _ _ rfl rfl rfl;exact g_run (wanted_is rfl (yields rfl hz8)) (z_move _ rfl (eval_at ((hk.at 6 rfl).trans rfl)) ⟨_,rfl,Below.refl _ _,rfl⟩)
   |10,hi=>
    cases hi;obtain⟨z8,hz8,rfl⟩:=hdep 8 _ _ rfl rfl rfl;obtain⟨z9,hz9,rfl⟩:=hdep 9 _ _ rfl rfl rfl;exact g_run (wanted_is rfl (yields rfl hz8)) (z_bin _ _ _ _ _ rfl (eval_at hz9) rfl (nei_f _ _ _ _ _ rfl) ⟨_,rfl,Below.refl _ _,rfl⟩)
   |11,hi=>
    cases hi;obtain⟨z8,hz8,rfl⟩:=hdep 8 _ _ rfl rfl rfl;obtain⟨z10,hz10,rfl⟩:=hdep 10 _ _ rfl rfl rfl;exact g_run (wanted_is rfl (yields rfl hz8)) (z_move _ rfl (eval_at hz10) ⟨_,rfl,Below.refl _ _,rfl⟩)
   |12,hi=>
    cases hi;obtain⟨z11,hz11,rfl⟩:=hdep 11 _ _ rfl rfl rfl;exact g_run (wanted_is rfl (yields rfl hz11)) (st_loadP (A.next hbu) _ rfl (eval_at ((hk.at 4 rfl).trans rfl)) ⟨_,rfl,Below.refl _ _,rfl⟩)
   |13,hi=>
    cases hi;obtain⟨z11,hz11,rfl⟩:=hdep 11 _ _ rfl rfl rfl;obtain⟨z12,hz12,rfl⟩:=hdep 12 _ _ rfl rfl rfl;refine g_run (wanted_is rfl (yields rfl hz11)) (st_call (exec_call1 _ _ _ _ _ _ rb_ok (eval_at hz12) (fun _=>rfl) _ _ _ _ _ _) ?_);refine (ok_iPacketOk p d u (hP.below hbu) hsz).mono ?_;rintro e u' ⟨he,hb'⟩;rw[hok.out] at he;exact⟨_,he,_,rfl,hb',rfl⟩
   |14,hi=>
    cases hi;obtain⟨z11,hz11,rfl⟩:=hdep 11 _ _ rfl rfl rfl;obtain⟨z13,hz13,rfl⟩:=hdep 13 _ _ rfl rfl rfl;exact g_run (wanted_is rfl (yields rfl hz11)) (z_move _ rfl (eval_at hz13) ⟨_,rfl,Below.refl _ _,rfl⟩)
   |15,hi=>
    cases hi;obtain⟨z14,hz14,rfl⟩:=hdep 14 _ _ rfl rfl rfl;exact g_run (wanted_is rfl (yields rfl hz14)) (st_loadP (A.next hbu) _ rfl (eval_at ((hk.at 4 rfl).trans rfl)) ⟨_,rfl,Below.refl _ _,rfl⟩)
   |16,hi=>
    cases hi;obtain⟨z14,hz14,rfl⟩:=hdep 14 _ _ rfl rfl rfl;obtain⟨z15,hz15,rfl⟩:=hdep 15 _ _ rfl rfl rfl;refine g_run (wanted_is rfl (yields rfl hz14)) (st_call (exec_call1 _ _ _ _ _ _ rb_put (eval_at hz15) (fun _=>rfl) _ _ _ _ _ _) ?_);refine (put_iPutPacket p d u (hP.below hbu) hsz hln).mono ?_;rintro e u' ⟨a',n',c',rfl,hO',hb'⟩;exact⟨_,rfl,_,rfl,hb',a',n',c',rfl,hO'.rd⟩
   |17,hi=>
    cases hi;obtain⟨z14,hz14,rfl⟩:=hdep 14 _ _ rfl rfl rfl;exact g_run (wanted_is rfl (yields rfl hz14)) (z_move _ rfl (eval_at ((hk.at 3 rfl).trans rfl)) ⟨_,rfl,Below.refl _ _,rfl⟩)
   |18,hi=>
    cases hi;obtain⟨z14,hz14,rfl⟩:=hdep 14 _ _ rfl rfl rfl;exact g_run (wanted_is rfl (yields rfl hz14)) (z_move _ rfl (eval_at ((hk.at 5 rfl).trans rfl)) ⟨_,rfl,Below.refl _ _,rfl⟩)
   |19,hi=>
    cases hi;obtain⟨z14,hz14,rfl⟩:=hdep 14 _ _ rfl rfl rfl;obtain⟨z17,hz17,rfl⟩:=hdep 17 _ _ rfl rfl rfl;obtain⟨z18,hz18,rfl⟩:=hdep 18 _ _ rfl rfl rfl;exact g_run (wanted_is rfl (yields rfl hz14)) (z_slh _ _ rfl (eval_at hz17) (eval_at hz18) hsl ⟨_,_,_,rfl⟩ ⟨_,rfl,Below.refl _ _,rfl⟩)
   |20,hi=>
    cases hi;obtain⟨z14,hz14,rfl⟩:=hdep 14 _ _ rfl rfl rfl;obtain⟨z16,hz16,⟨a',n',c',e1,hO'⟩⟩:=hdep 16 _ _ rfl rfl rfl;subst e1;obtain⟨z19,hz19,rfl⟩:=hdep 19 _ _ rfl rfl rfl;refine g_run (wanted_is rfl (yields rfl hz14)) (st_call (exec_call2 _ _ _ _ _ _ _ _ rb_same (eval_at hz16) (eval_at hz19) (fun _=>rfl) _ _ _ _ _ _) ?_);refine (same_lsame _ _ _ _ _ _ _ u hO' (hRk.below hbu)).mono ?_;rintro e u' ⟨rfl,hb'⟩;exact⟨_,rfl,_,rfl,(by rw[hb'];exact Below.refl _ _),rfl⟩
   |21,hi=>
    cases hi;obtain⟨z11,hz11,rfl⟩:=hdep 11 _ _ rfl rfl rfl;obtain⟨z14,hz14,rfl⟩:=hdep 14 _ _ rfl rfl rfl;obtain⟨z20,hz20,rfl⟩:=hdep 20 _ _ rfl rfl rfl;exact g_run (wanted_is rfl (yields rfl hz11)) (z_pickT _ _ _ rfl (eval_at hz14) (eval_at hz20) ⟨_,rfl,Below.refl _ _,rfl⟩)
   |22,hi=>
    cases hi;obtain⟨z8,hz8,rfl⟩:=hdep 8 _ _ rfl rfl rfl;obtain⟨z11,hz11,rfl⟩:=hdep 11 _ _ rfl rfl rfl;obtain⟨z21,hz21,rfl⟩:=hdep 21 _ _ rfl rfl rfl;exact g_run (wanted_is rfl (yields rfl hz8)) (z_pickF _ _ _ rfl (eval_at hz11) (eval_at hz21) ⟨_,rfl,Below.refl _ _,rfl⟩)
   |23,hi=>
    cases hi;obtain⟨z8,hz8,rfl⟩:=hdep 8 _ _ rfl rfl rfl;obtain⟨z22,hz22,rfl⟩:=hdep 22 _ _ rfl rfl rfl;exact g_run (wanted_none rfl _) (z_pickT _ _ _ rfl (eval_at hz8) (eval_at hz22) ⟨_,rfl,Below.refl _ _,rfl⟩)
   |24,hi=>
    cases hi;obtain⟨z23,hz23,rfl⟩:=hdep 23 _ _ rfl rfl rfl;exact g_run (wanted_none rfl _) (z_asgn _ rfl (eval_at hz23) ⟨_,rfl,Below.refl _ _,rfl⟩)
   |(_+25),hi=>cases hi
  intro vs y3 b3 hG a3 h3;have g24:vs 24=.bool true:=hG 24 (by decide);have s2:=puts_slot h3 rfl 24 rfl rfl;rw[g24] at s2;have hd:=(puts_def h3).trans (show _ = [] from rfl);clear h3 hG;replace hb:=bel hb b3;go_wp2;refine bodyPost_ret (results_tmp rfl _ _ _) hd ⟨?_,hb⟩;rw[getD_at s2]
 ·go_upto_region 11 with (first | refine var_pk (p:=p10) rfl rfl ?_ | fail)
  refine region_facts_g (by kernel_rfl) rfl (fun i u x=>match i with
   |0=>u=.int .i64 cc2
   |1=>u=.int .i64 cc2
   |2=>u=.bool true
   |3=>u=.bool true
   |4=>u=.int .i64 nn2
   |5=>u=.int .i64 nn2
   |6=>u=.bool true
   |7=>u=.bool true
   |8=>u=.bool true
   |9=>u=.int .i64 cc2
   |10=>u=.bool true
   |11=>u=.bool true
   |12=>u=undef
   |13=>u=undef
   |14=>u=undef
   |15=>u=undef
   |16=>u=undef
   |17=>u=undef
   |18=>u=undef
   |19=>u=undef
   |20=>u=undef
   |21=>u=undef
   |22=>u=.bool true
   |23=>u=.bool true
   |24=>u=.bool true
   |_=>True) ?_ ?_ ?_
  ·intro i u x x' hx h
   match i,h with
   |0,h=>exact h
   |1,h=>exact h
   |2,h=>exact h
   |3,h=>exact h
   |4,h=>exact h
   |5,h=>exact h
   |6,h=>exact h
   |7,h=>exact h
   |8,h=>exact h
   |9,h=>exact h
   |10,h=>exact h
   |11,h=>exact h
   |12,h=>exact h
   |13,h=>exact h
   |14,h=>exact h
   |15,h=>exact h
   |16,h=>exact h
   |17,h=>exact h
   |18,h=>exact h
   |19,h=>exact h
   |20,h=>exact h
   |21,h=>exact h
   |22,h=>exact h
   |23,h=>exact h
   |24,h=>exact h
   |(_+25),h=>trivial
  ·intro i o a u hi hk hbu hdep
   match i,hi with
   |0,hi=>
    cases hi;exact g_run (wanted_none rfl _) (z_move _ rfl (eval_at ((hk.at 12 rfl).trans rfl)) ⟨_,rfl,Below.refl _ _,rfl⟩)
   |1,hi=>
    cases hi;exact g_run (wanted_none rfl _) (z_move _ rfl (eval_at ((hk.at 6 rfl).trans rfl)) ⟨_,rfl,Below.refl _ _,rfl⟩)
   |2,hi=>
    cases hi;obtain⟨z0,hz0,rfl⟩:=hdep 0 _ _ rfl rfl rfl;obtain⟨z1,hz1,rfl⟩:=hdep 1 _ _ rfl rfl rfl;exact g_run (wanted_none rfl _) (z_bin _ _ _ _ _ rfl (eval_at hz0) (eval_at hz1) (eqi_t _ _ _ _ _ rfl) ⟨_,rfl,Below.refl _ _,rfl⟩)
   |3,hi=>
    cases hi;obtain⟨z2,hz2,rfl⟩:=hdep 2 _ _ rfl rfl rfl;exact g_run (wanted_none rfl _) (z_move _ rfl (eval_at hz2) ⟨_,rfl,Below.refl _ _,rfl⟩)
   |4,hi=>
    cases hi;obtain⟨z3,hz3,rfl⟩:=hdep 3 _ _ rfl rfl rfl;exact g_run (wanted_is rfl (yields rfl hz3)) (z_move _ rfl (eval_at ((hk.at 11 rfl).trans rfl)) ⟨_,rfl,Below.refl _ _,rfl⟩)
   |5,hi=>
    cases hi;obtain⟨z3,hz3,rfl⟩:=hdep 3 _ _ rfl rfl rfl;exact g_run (wanted_is rfl (yields rfl hz3)) (z_move _ rfl (eval_at ((hk.at 5 rfl).trans rfl)) ⟨_,rfl,Below.refl _ _,rfl⟩)
   |6,hi=>
    cases hi;obtain⟨z3,hz3,rfl⟩:=hdep 3 _ _ rfl rfl rfl;obtain⟨z4,hz4,rfl⟩:=hdep 4 _ _ rfl rfl rfl;obtain⟨z5,hz5,rfl⟩:=hdep 5 _ _ rfl rfl rfl;exact g_run (wanted_is rfl (yields rfl hz3)) (z_bin _ _ _ _ _ rfl (eval_at hz4) (eval_at hz5) (eqi_t _ _ _ _ _ rfl) ⟨_,rfl,Below.refl _ _,rfl⟩)
   |7,hi=>
    cases hi;obtain⟨z3,hz3,rfl⟩:=hdep 3 _ _ rfl rfl rfl;obtain⟨z6,hz6,rfl⟩:=hdep 6 _ _ rfl rfl rfl;exact g_run (wanted_none rfl _) (z_pickT _ _ _ rfl (eval_at hz3) (eval_at hz6) ⟨_,rfl,Below.refl _ _,rfl⟩)
   |8,hi=>
    cases hi;obtain⟨z7,hz7,rfl⟩:=hdep 7 _ _ rfl rfl rfl;exact g_run (wanted_none rfl _) (z_move _ rfl (eval_at hz7) ⟨_,rfl,Below.refl _ _,rfl⟩)
   |9,hi=>
    cases hi;obtain⟨z8,hz8,rfl⟩:=hdep 8 _ _ rfl rfl rfl;exact g_run (wanted_is rfl (yields rfl hz8)) (z_move _ rfl (eval_at ((hk.at 6 rfl).trans rfl)) ⟨_,rfl,Below.refl _ _,rfl⟩)
   |10,hi=>
    cases hi;obtain⟨z8,hz8,rfl⟩:=hdep 8 _ _ rfl rfl rfl;obtain⟨z9,hz9,rfl⟩:=hdep 9 _ _ rfl rfl rfl;exact g_run (wanted_is rfl (yields rfl hz8)) (z_bin _ _ _ _ _ rfl (eval_at hz9) rfl (nei_t _ _ _ _ _ hcc0) ⟨_,rfl,Below.refl _ _,rfl⟩)
   |11,hi=>
    cases hi;obtain⟨z8,hz8,rfl⟩:=hdep 8 _ _ rfl rfl rfl;obtain⟨z10,hz10,rfl⟩:=hdep 10 _ _ rfl rfl rfl;exact g_run (wanted_is rfl (yields rfl hz8)) (z_move _ rfl (eval_at hz10) ⟨_,rfl,Below.refl _ _,rfl⟩)
   |12,hi=>
    cases hi;obtain⟨z11,hz11,rfl⟩:=hdep 11 _ _ rfl rfl rfl;exact g_skip (wanted_ne rfl (yields rfl hz11) (by decide)) rfl
   |13,hi=>
    cases hi;obtain⟨z11,hz11,rfl⟩:=hdep 11 _ _ rfl rfl rfl;exact g_skip (wanted_ne rfl (yields rfl hz11) (by decide)) rfl
   |14,hi=>
    cases hi;obtain⟨z11,hz11,rfl⟩:=hdep 11 _ _ rfl rfl rfl;exact g_skip (wanted_ne rfl (yields rfl hz11) (by decide)) rfl
   |15,hi=>
    cases hi;obtain⟨z14,hz14,rfl⟩:=hdep 14 _ _ rfl rfl rfl;exact g_skip (wanted_un rfl (yields_un rfl hz14)) rfl
   |16,hi=>
    cases hi;obtain⟨z14,hz14,rfl⟩:=hdep 14 _ _ rfl rfl rfl;exact g_skip (wanted_un rfl (yields_un rfl hz14)) rfl
   |17,hi=>
    cases hi;obtain⟨z14,hz14,rfl⟩:=hdep 14 _ _ rfl rfl rfl;exact g_skip (wanted_un rfl (yields_un rfl hz14)) rfl
   |18,hi=>
    cases hi;obtain⟨z14,hz14,rfl⟩:=hdep 14 _ _ rfl rfl rfl;exact g_skip (wanted_un rfl (yields_un rfl hz14)) rfl
   |19,hi=>
    cases hi;obtain⟨z14,hz14,rfl⟩:=hdep 14 _ _ rfl rfl rfl;exact g_skip (wanted_un rfl (yields_un rfl hz14)) rfl
   |20,hi=>
    cases hi;obtain⟨z14,hz14,rfl⟩:=hdep 14 _ _ rfl rfl rfl;exact g_skip (wanted_un rfl (yields_un rfl hz14)) rfl
   |21,hi=>
    cases hi;obtain⟨z11,hz11,rfl⟩:=hdep 11 _ _ rfl rfl rfl;exact g_skip (wanted_ne rfl (yields rfl hz11) (by decide)) rfl
   |22,hi=>
    cases hi;obtain⟨z8,hz8,rfl⟩:=hdep 8 _ _ rfl rfl rfl;obtain⟨z11,hz11,rfl⟩:=hdep 11 _ _ rfl rfl rfl;exact g_run (wanted_is rfl (yields rfl hz8)) (z_pickT _ _ _ rfl (eval_at hz11) rfl ⟨_,rfl,Below.refl _ _,rfl⟩)
   |23,hi=>
    cases hi;obtain⟨z8,hz8,rfl⟩:=hdep 8 _ _ rfl rfl rfl;obtain⟨z22,hz22,rfl⟩:=hdep 22 _ _ rfl rfl rfl;exact g_run (wanted_none rfl _) (z_pickT _ _ _ rfl (eval_at hz8) (eval_at hz22) ⟨_,rfl,Below.refl _ _,rfl⟩)
   |24,hi=>
    cases hi;obtain⟨z23,hz23,rfl⟩:=hdep 23 _ _ rfl rfl rfl;exact g_run (wanted_none rfl _) (z_asgn _ rfl (eval_at hz23) ⟨_,rfl,Below.refl _ _,rfl⟩)
   |(_+25),hi=>cases hi
  intro vs y3 b3 hG a3 h3;have g24:vs 24=.bool true:=hG 24 (by decide);have s2:=puts_slot h3 rfl 24 rfl rfl;rw[g24] at s2;have hd:=(puts_def h3).trans (show _ = [] from rfl);clear h3 hG;replace hb:=bel hb b3;go_wp2;refine bodyPost_ret (results_tmp rfl _ _ _) hd ⟨?_,hb⟩;rw[getD_at s2]

theorem fnReadsBack_et : Tryz.prog.globalNamed "errors.errorType" = some 1 := by kernel_rfl
theorem fnReadsBack_rt : (Tryz.prog.cutTypes.find? (·.1 == "internal/reflectlite.rtype")).map (·.2) = some 196 := by kernel_rfl
theorem fnReadsBack_oneRow:((List.range 275).filter fun t=>Tryz.prog.rowNamed t [101,114,114,111,114]) = [94]:=by kernel_rfl
theorem fnReadsBack_size:Tryz.prog.types.size=275:=by kernel_rfl
/-- What the condition gives a walk: the variable's one cell. -/
theorem fnReadsBack_handle {W:World} (h:laidMetH Tryz.prog Rows.fnReadsBackRow.laid W):ErrTy W:=by
 have h':laidMet Tryz.prog [] W∧handlesMet Tryz.prog Rows.fnReadsBackRow.laid W:=h;obtain⟨name,u,ty,e1,e2,e3,e4,e5⟩:=h'.2 _ (List.mem_singleton.2 rfl);have en:name = [101,114,114,111,114]:=(Option.some.inj e1).symm;subst en;obtain rfl:=Option.some.inj (fnReadsBack_rt.symm.trans e2);have hm:ty∈(List.range 275).filter fun t=>Tryz.prog.rowNamed t [101,114,114,111,114]:=List.mem_filter.2 ⟨List.mem_range.2 (by rw[←fnReadsBack_size];exact e3),e4⟩
 rw[fnReadsBack_oneRow] at hm;obtain rfl:=List.mem_singleton.1 hm;have hh:typeHandle Tryz.prog 94=.pointer (some ⟨5,94,none⟩):=by kernel_rfl
 rw[hh] at e5;unfold ErrTy
 simpa using World.var?_cell fnReadsBack_et e5 0
/-- A world that meets the condition: the settled one, the variable's cell laid. -/
noncomputable def fnReadsBack_world (os:Os):World :=
 let w0:=World.holding Tryz.prog os ⟨#[],#[],[]⟩
 { w0 with heap:=w0.heap.modify 1 fun
   |.cells _ t frozen=>.cells #[.iface 196 (.agg #[.pointer (some ⟨5,94,none⟩)])] t frozen
   |o=>o }
theorem fnReadsBack_met (os:Os) (args:Array Value):laidMetH Tryz.prog Rows.fnReadsBackRow.laid ((fnReadsBack_world os).forCall (fun _ _=>0) ⟨#[],args,[]⟩).memory :=
 laidMetH_of_parts (laidMet_nil _ _) (by kernel_rfl)
namespace fnReadsBack
theorem own:ownKnob Tryz.prog.godebug=none:=by kernel_rfl
theorem laidOut:laidOutB Tryz.prog=true:=by kernel_rfl
set_option maxRecDepth 100000 in
theorem lifted (os:Os) (started:os.Started) (H:Type) (enc:TypeId×Value→H) :
  ReturnsInHanded {} Tryz.checked os 5 .any (fun w args=>(Rows.fnReadsBackSpec.pre enc Tryz.prog Tryz.f5 Rows.fnReadsBackRow.domain false w args∧laidMetH Tryz.prog Rows.fnReadsBackRow.laid w)∧sizedMet enc Tryz.prog Tryz.f5 (OpenSpec.ofChange Rows.fnReadsBackSpec) false w args) (Rows.fnReadsBackSpec.post enc Tryz.prog Tryz.f5 false true false false):=by
 refine returnsInHanded_of_change_and (C:=Tryz.checked) (X:=fun w _=>laidMetH Tryz.prog Rows.fnReadsBackRow.laid w) (fun _ _ _ hh h=>h.of_heap hh) own started (by kernel_rfl) Tryz.func5
  (ChangeSpec.witness_at (enc:=enc) (C:=Tryz.checked) (os:=os) (X:=fun w _=>laidMetH Tryz.prog Rows.fnReadsBackRow.laid w) false (fnReadsBack_world os) #[.slice none 0 0] 8 rfl (by kernel_rfl) (by kernel_rfl) (by kernel_rfl) (by kernel_rfl) (by kernel_rfl) (fnReadsBack_met os _)) ?_
 intro W base args ds gs before hval0 hW hcnd _ hL _;have hval:∀(j:Nat) t v,Tryz.f5.params[j]? = some t→args[j]? = some v→Value.okWide Tryz.prog W .any base t v:=hval0;have hW':=hW;obtain⟨p,q,hA0,hV,rfl,hfz,hnd⟩:=hW;have hA:DataW.TrodAll enc Tryz.prog W 0 (fun _=>true) true Tryz.f5.params.toList args.toList ds p:=hA0;rw[Tryz.params5] at hA hval;obtain⟨v0,vs0,d0,ds0,p0,q0,hargs,rfl,rfl,h0,r0⟩:=trodAll_cons hA;obtain⟨rfl,rfl,rfl⟩:=trodAll_nil r0;obtain rfl:args = #[v0]:=by cases args;simp_all
 obtain⟨rfl,rfl⟩:=trodVars_none hV;obtain⟨a0,len0,cap0,rfl⟩:=okWide_slice Tryz.underlying22 (hval 0 22 v0 rfl rfl);have k0:=h0;have lt0:∀x∈p0,x.block<W.heap.size:=by obtain⟨m,hm⟩:=k0;exact DataW.trod_lt m _ _ _ hm
 obtain⟨z0,w0⟩ : ∃l,RdIn W a0 len0 cap0 l:=by
  obtain⟨fuel,hf⟩:=h0
  rcases open_ints Tryz.underlying22 Tryz.underlying5 (by kernel_rfl) hf with ⟨hcs,_⟩ | ⟨x,l,c,zs,hcs,_,hl,hm,hz,_,hcell,hwz⟩
  ·simp[Value.cells] at hcs;obtain⟨rfl,rfl,rfl⟩:=hcs;exact⟨[],RdIn.nil _⟩
  ·simp[Value.cells] at hcs;obtain⟨rfl,rfl,rfl⟩:=hcs;exact RdIn.of_ints hl hm (by simpa using hz) hcell hwz
 clear hA0 hval0;refine (fnReadsBack_walk a0 len0 cap0 z0 W (fnReadsBack_handle hL) w0).mono fun e W' ⟨he,bel⟩=>?_
 subst he;exact⟨_,rfl,_,_,_,[],_,[],hW',trodAll_mk1 (shut_bool Tryz.underlying4 _),(trodAll_cons_mk (Below.trod laidOut (by kernel_rfl) (of_decide_eq_true (by kernel_rfl)) k0 bel lt0) trodAll_mk0),rfl,bel.frame _,fun h=>by cases h⟩

theorem over:Rows.fnReadsBackRow.holds Tryz.pinned (OpenSpec.ofChange Rows.fnReadsBackSpec) :=
 OpenClaim.holds_of_wide 5 Tryz.f5 rfl rfl rfl rfl rfl rfl rfl ⟨rfl,rfl,rfl,rfl,rfl⟩ rfl rfl rfl rfl rfl (by kernel_rfl) Tryz.func5 (by kernel_rfl)
  (of_decide_eq_true (by kernel_rfl)) (by unfold Func.isWrapper;first | (rw[if_pos (by decide +kernel)];kernel_rfl) | (rw[if_neg (by decide +kernel)];exact⟨rfl,rfl⟩))
  (fun os started H enc _=>lifted os started H enc)
end fnReadsBack

theorem fnReadsBack_holds:Rows.FnReadsBackCardSaid :=
 Claim7.holds_tied_plain_at .later [] [.handle] true Rows.fnReadsBackCard.stood.harness true fnReadsBack.over (fun _ h=>by cases h) (by kernel_rfl) (fun _ h=>by cases h) fnReadsBack_row_tie rfl ⟨rfl,rfl⟩ (by kernel_rfl) rfl
  (fun f fn hf hfn=>by
   obtain rfl:f=5:=Option.some.inj ((show Tryz.prog.funcNamed Rows.fnReadsBackRow.func=some 5 by kernel_rfl).symm.trans hf) |>.symm
   obtain rfl:fn=Tryz.f5:=(Option.some.inj (Tryz.func5.symm.trans hfn)).symm;exact⟨by kernel_rfl,fun j t ht=>by
    rw[Tryz.params5] at ht;have hm:t∈[22]:=by simpa using Array.mem_of_getElem? ht
    have hall:([22].all fun u=>!Tryz.prog.wantsStandIn u)=true:=by kernel_rfl
    exact (show Tryz.prog.wantsStandIn t=false by simpa using List.all_eq_true.1 hall t hm)⟩)
  (by kernel_rfl)
end Go.Proofs.YtobgmpaalnpdcaaGreatDoor
