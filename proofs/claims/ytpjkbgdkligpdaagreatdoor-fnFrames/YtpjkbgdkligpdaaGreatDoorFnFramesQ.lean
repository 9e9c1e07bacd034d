/- FnFrames: whatever it is handed, the law function laws.FnFrames returns true, and its arguments read afterwards as before. No condition. -/
import Derived.Test.YtpjkbgdkligpdaaGreatDoorY25
import Derived.Test.YtpjkbgdkligpdaaGreatDoorY22
import Derived.Test.YtpjkbgdkligpdaaGreatDoorY14
import Derived.Test.YtpjkbgdkligpdaaGreatDoorY08
import Derived.Test.YtpjkbgdkligpdaaGreatDoorY03
import Derived.Test.YtpjkbgdkligpdaaGreatDoorY24
import Derived.Test.YtpjkbgdkligpdaaGreatDoorY09
import Derived.Test.YtpjkbgdkligpdaaGreatDoorRows
import Derived.Test.YtpjkbgdkligpdaaGreatDoorTie
import Derived.Test.YtpjkbgdkligpdaaGreatDoorCards
import Derived.LaidMore
import Derived.Lay
import Derived.SevenTiedAt
import Derived.Stop.Joined
import Derived.ChangeSame
import Derived.ChangeVars
import Derived.JoinedOf
import Derived.RowKit
import Derived.LaidLaws
import Derived.LaidHandle
import Derived.WalkKit
import Derived.ProofKit
import Derived.OpenShut
import Derived.ShutString
import Derived.ChangeOld
import Derived.Below
import Derived.Deep.Strs
namespace Go.Proofs.YtpjkbgdkligpdaaGreatDoor
open Go.ChangeShapes Go.WideShapes Go.ChangeAt Go.RowKit
open Go.ChangeMaps (open_string shut_string)
set_option linter.unusedVariables false
set_option linter.unusedSimpArgs false

theorem ff_bi (xs:Array Value) (u:World):(callFunc 38 xs).run Tryz.prog u=.ok (.enter 38 xs) u:=by kernel_rfl
theorem ff_bs (xs:Array Value) (u:World):(callFunc 39 xs).run Tryz.prog u=.ok (.enter 39 xs) u:=by kernel_rfl
theorem ff_same (xs:Array Value) (u:World):(callFunc 28 xs).run Tryz.prog u=.ok (.enter 28 xs) u:=by kernel_rfl
theorem ff_wr (xs:Array Value) (u:World):(callFunc 30 xs).run Tryz.prog u=.ok (.enter 30 xs) u:=by kernel_rfl
theorem bel' {w u u':World} (h1:Below w.heap.size w u) (h2:Below u.heap.size u u'):Below w.heap.size w u':=bel h1 h2
theorem same2f (ao a2:Option Addr) (n n2 cap cap2:Nat) (l m:PL) (w:World) (hr:QRd w ao n cap l) (hr2:QRd w a2 n2 cap2 m) (he:pvs l=pvs m) (hn:n≤1048576) :
  Calls Tryz.prog 34 #[.slice ao n cap,.slice a2 n2 cap2] w fun e w'=>e=.returned (.bool true)∧Below w.heap.size w w':=by
 have h1:=hr.1.1;have h2:=hr2.1.1;have h3:=congrArg List.length he;rw[pvs_length,pvs_length] at h3;obtain rfl:n2=n:=by omega
 exact same_lsamePackets ao a2 n2 cap cap2 l m w hr hr2 he hn
/-- 'x := <a Buf>' that is kept in a variable of its own. -/
theorem var_bf {ops:Array Oper} {rest:List Oper} {ac:Act} {w:World} {Q:Exit→Act→World→Prop} {a:Option Addr} {n c:Nat} {xb:Bool} {d:Nat} {y:Operand} {t1 t2:TypeId} {p1 p2:String} {e1 e2:Array Edge}
  (hd:decide (d<ac.tmps.size)=true) (hy:(ac.put (some d) (.pointer (some ⟨w.heap.size,0,none⟩))).eval y=.agg #[.slice a n c,.bool xb])
  (h:wpList Tryz.prog ops Q rest (ac.put (some d) (.pointer (some ⟨w.heap.size,0,none⟩))) (w.alloc (.cells #[.slice a n c,.bool xb] 51))) :
  wpList Tryz.prog ops Q (⟨some d,.alloc 51,t1,p1,e1,none⟩ :: ⟨none,.store 51 (.tmp d) y,t2,p2,e2,none⟩ :: rest) ac w:=by
 have r:(Instr.alloc 51 true (.tuple #[])).run Tryz.prog w=.ok (.pointer (some ⟨w.heap.size,0,none⟩)) (w.alloc (.cells #[.slice none 0 0,.bool false] 51)):=by kernel_rfl
 refine qcr (w':=w.alloc (.cells #[.slice none 0 0,.bool false] 51)) (v:=.pointer (some ⟨w.heap.size,0,none⟩)) (qaa rfl _) ?_ ?_
 ·simp only[execOp,Sem.run_bind,r,Result.andThen_ok,Sem.run_pure]
 refine wpList_store_row rfl 51 (.tmp d) y rfl w.heap.size #[.slice a n c,.bool xb] (qab (qee _ (of_decide_eq_true hd))) hy 51 #[.slice none 0 0,.bool false] (heap_alloc_new _ _) qte rfl (bf_ones a n c xb) ?_;rw[setRow_new];exact h
/-- 'append(s, x...)': what s says stays where it was. -/
theorem run_bkeep (w:World) (ty:TypeId) (B:Nat) (ao:Option Addr) (n cap:Nat) (l:List UInt8) (hown:Own w B ao n cap l) (ax:Option Addr) (m c:Nat) (lx:List UInt8) (hx:RdIn w ax m c lx) (hb:n+m≤1000000000) (hB:B≤w.heap.size) :
  ∃ao' cap' w',(Builtin.append_ #[22,22] ty #[.slice ao n cap,.slice ax m c]).run Tryz.prog w=.ok (.slice ao' (n+m) cap') w'∧Own w' B ao' (n+m) cap' (l++lx)∧w.grownBy w' (Value.slice ao n cap).ownBlock∧Own w' B ao n cap l:=by
 obtain⟨i0,hi,hz0,hz1,hz2⟩:=info_parts info5;have hlen:(l++lx).length=n+m:=by rw[List.length_append,hown.1,hx.1.1]
 cases ax with
 |none=>
  have hc:c=0:=hx.2.2.2 rfl;have hm:m=0:=by have:=hx.2.1;omega
  subst hc;subst hm;have hu:lx = []:=List.eq_nil_of_length_eq_zero hx.1.1;subst hu;refine⟨ao,cap,w,?_,by simpa using hown,World.grownBy.refl _ _,hown⟩;exact run_append_owned_none (P:=Tryz.prog) (w:=w) B 22 ty 5 i0 1 Tryz.underlying22 hi (.slice ao n cap) n (bvals l) hown.2
 |some ad=>
  have hnews:∀(j:Nat) (v:Value),(bvals lx)[j]? = some v→w.cell? (ad.add j)=some v:=by
   intro j u hu;have hj:j<lx.length:=by
    have:=(List.getElem?_eq_some_iff.1 hu).1
    rwa [qjh] at this
   obtain⟨b,off,e,hcell⟩:=hx.1.2 j (by rw[←hx.1.1];exact hj);simp at e;subst e;rw[qrp lx j hj] at hu;rw[Addr.add_lit,hcell];exact hu
  have hlx:(bvals lx).length=m*1:=by rw[qjh,hx.1.1,Nat.mul_one]
  obtain⟨v',w',hr,h2,h3,_⟩:=run_append_own (P:=Tryz.prog) w B 22 ty 5 i0 (.int .u8 0) 1 1 Tryz.underlying22 hi hz0 hz1 hz2 rfl (by decide) (.slice ao n cap) n (bvals l) hown.2 ad m c (bvals lx) hlx hnews (bvals_one lx) (by unfold maxLen;omega) (by omega) hB;have h2':=h2;rw[←qnb] at h2';obtain⟨ao',cap',rfl,hown'⟩:=own_open hlen h2';refine⟨ao',cap',w',hr,hown',h3,hown.1,hown.2.1,?_⟩
  rcases hown.2.2 with ⟨e,hm⟩ | ⟨g0,cp,cur0,e,hbg,hh,hnc,hcm,hcs,htake⟩
  ·exact .inl ⟨e,hm⟩
  ·simp only[Value.slice.injEq] at e;obtain⟨rfl,_,rfl⟩:=e;have hl:(bvals lx).length=m*i0.size:=by rw[hlx,hz1]
   by_cases hroom:n+m≤cap
   ·have hfit:n*i0.size+(bvals lx).length≤cur0.size:=by rw[hl,hcs,hz1,←Nat.add_mul];exact Nat.mul_le_mul_right _ hroom
    have hr2:=run_append_room (P:=Tryz.prog) w 22 ty 5 i0 Tryz.underlying22 hi g0 n cap cur0 hh ad m c (bvals lx) hl hnews (bvals_one lx) hroom hfit;rw[hr] at hr2;simp only[Result.ok.injEq] at hr2;obtain⟨_,rfl⟩:=hr2;refine .inr ⟨g0,cap,_,rfl,hbg,setRow_heap w g0 cur0 _ 5 _ hh,hnc,hcm,?_,?_⟩
    ·simp only[List.size_toArray,List.length_append,List.length_take,List.length_drop,Array.length_toList];omega
    ·have hn2:n*1≤cur0.toList.length:=by rw[Array.length_toList,hcs];exact Nat.mul_le_mul_right _ hnc
     rw[hz1];simp only[List.append_assoc];rw[List.take_append_of_le_length (by rw[List.length_take];omega),List.take_take,Nat.min_self];exact htake
   ·have holds:∀(j:Nat) (u:Value),(bvals l)[j]? = some u→w.cell? ((⟨g0,0,none⟩ : Addr).add j)=some u:=hown.2.cells (g:=g0) rfl;have hr2:=run_append_grow (P:=Tryz.prog) w 22 ty 5 i0 (.int .u8 0) Tryz.underlying22 hi hz0 ⟨g0,0,none⟩ n cap (bvals l) (by rw[qjh,hown.1,hz1,Nat.mul_one]) holds ad m c (bvals lx) hl hnews (by omega) (by omega) (growslice_fits (by omega) (by rw[hz2];omega));rw[hr] at hr2;simp only[Result.ok.injEq] at hr2;obtain⟨_,rfl⟩:=hr2;exact .inr ⟨g0,cap,cur0,rfl,hbg,(heap_alloc_old w.drew _ (Array.getElem?_eq_some_iff.1 hh).1).trans hh,hnc,hcm,hcs,htake⟩
theorem own_keepAll {u u':World} {B:Nat} {a' a:Option Addr} {m' c' m c:Nat} {l:List UInt8} (h1:Own u B a' m' c' l) (hK:Own u' B a' m' c' l) (hg:u.grownBy u' (Value.slice a' m' c').ownBlock) (h2:Own u B a m c l):Own u' B a m c l:=by
 obtain⟨hl,hx,hc⟩:=h2
 rcases hc with ⟨e,e2⟩ | ⟨g,cp,cur,e,hb,hh,hn,hcm,hs,ht⟩
 ·exact⟨hl,hx,.inl ⟨e,e2⟩⟩
 ·by_cases hrow:(Value.slice a' m' c').ownBlock=some g
  ·rcases h1.2.2 with ⟨e1,_⟩ | ⟨g1,cp1,cur1,e1,hb1,hh1,hn1,hcm1,hs1,ht1⟩
   ·rw[e1] at hrow;simp[Value.ownBlock] at hrow
   ·simp only[Value.slice.injEq] at e e1;obtain⟨rfl,_,rfl⟩:=e;obtain⟨rfl,_,rfl⟩:=e1;obtain rfl:g1=g:=by simpa[Value.ownBlock] using hrow
    rw[hh1] at hh;obtain rfl:cur1=cur:=by cases hh;rfl
    obtain rfl:m=m':=hl.symm.trans h1.1;obtain rfl:c=c':=by omega
    exact hK
  ·exact Own.grown ⟨hl,hx,.inr ⟨g,cp,cur,e,hb,hh,hn,hcm,hs,ht⟩⟩ hg (fun q eq he=>by
    simp only[Value.slice.injEq] at e;obtain⟨rfl,_,_⟩:=e;simp only[Option.some.injEq] at eq;subst eq;exact hrow he.symm)
theorem z_bapp {o:Oper} {a:Act} {w:World} {K:Act→World→Prop} {Q:Exit→Act→World→Prop} (s x:Operand) (ho:o.op=.call { callee:=.builtin .append,args:=#[s,x],argTypes:=#[22,22] })
  (B:Nat) (ao:Option Addr) (n cap:Nat) (l:List UInt8) (hs:a.eval s=.slice ao n cap) (hown:Own w B ao n cap l)
  (ax:Option Addr) (m c:Nat) (lx:List UInt8) (hx:a.eval x=.slice ax m c) (hr:RdIn w ax m c lx) (hb:n+m≤1000000000) (hB:B≤w.heap.size)
  (h:∀ao' cap' w',Own w' B ao' (n+m) cap' (l++lx)→w.grownBy w' (Value.slice ao n cap).ownBlock→Own w' B ao n cap l→K (a.put o.dst (.slice ao' (n+m) cap')) w'):Oper.wp Tryz.prog o a w K Q:=by
 obtain⟨ao',cap',w',hrun,h2,h3,h4⟩:=run_bkeep w o.type B ao n cap l hown ax m c lx hr hb hB;unfold Oper.wp execOp;simp only[ho,resolve,invoke,builtin,Sem.run_bind,Sem.run_pure,Result.andThen_ok,List.map_toArray,List.map_cons,List.map_nil,hs,hx,hrun];exact h ao' cap' w' h2 h3 h4
theorem feed_nil (al:List UInt8):feed [] false al=if (many al).2.2=2 then ([],true,(many al).1) else (al.drop (many al).2.1,false,(many al).1):=by
 rw[feed_if];simp[bufOk]
set_option maxRecDepth 100000 in
set_option maxHeartbeats 8000000 in
theorem fnFrames_walk (a0:Option Addr) (len0 cap0:Nat) (l:List UInt8) (w:World) (hT:ErrTy w) (w0:RdIn w a0 len0 cap0 l) :
  Calls Tryz.prog 7 #[.slice a0 len0 cap0] w fun e w'=>e=.returned (.bool true)∧Below w.heap.size w w':=by
 have hTl:1<w.heap.size:=World.block_lt_of_cell? _ _ hT
 by_cases hbig:1048576<len0
 ·go_enter Tryz.func7,Tryz.ntmps7;go_wp2_with fail
  refine (big_lbig _ _ _ true _ (decide_eq_true hbig)).mono ?_;rintro e u ⟨rfl,rfl⟩;go_wp2;go_ret;exact⟨rfl,Below.refl _ _⟩
 have HT:Hid (∀u,Below w.heap.size w u→ErrTy u):=fun u hu=>hT.below hu hTl
 have W0:Hid (∀u,Below w.heap.size w u→RdIn u a0 len0 cap0 l):=fun u hu=>w0.below hu
 clear hT hTl w0;go_enter Tryz.func7,Tryz.ntmps7;go_wp2_with fail
 refine (big_lbig _ _ _ false _ (decide_eq_false hbig)).mono ?_;rintro e u ⟨rfl,hu⟩;rw[hu];clear hu;have hb:Below w.heap.size w w:=Below.refl _ _;go_wp2_with fail
 refine (draw_sDrawFeedAll _ _ _ l _ (W0.out _ hb) (by omega)).mono ?_;intro e u1 hD;obtain⟨pa,k,c,xb,hl,b,m,d,L,rfl,hk,hR,hY,hfl,hm,b1⟩:=hD;replace hb:=bel hb b1;clear b1;have A:RowB (u1.alloc (.cells #[.slice pa k c,.bool xb] 51)) u1.heap.size pa k c xb:=heap_alloc_new _ _;have b2:=qac u1 (.cells #[.slice pa k c,.bool xb] 51);replace hR:=hR.below b2;replace hY:=hY.below b2;replace hb:=bel hb b2;obtain⟨F1,F2,F3,hF⟩ : ∃F1 F2 F3,qce hl xb L=(F1,F2,F3):=⟨_,_,_,rfl⟩;have HF:Hid (qce hl xb L=(F1,F2,F3)):=hF;have C:=feedAll_i pa k c hl xb b m d L _ hR hY (by omega) (by omega) (HT.out _ hb);rw[hF] at C;clear hF b2;go_wp2_with (first | refine var_bf (a:=pa) (n:=k) (c:=c) (x:=xb) rfl rfl ?_ | refine qdy A rfl _ rfl rfl ?_ | fail)
 refine C.mono ?_;clear C;rintro e u2 ⟨a2,n2,c2,v2,rfl,hR2,_,⟨a3,c3,q3,rfl,hQ3,hv3,hG3⟩,b3⟩;have HV3:Hid (pvs q3=F3):=hv3;have hR3:=hQ3.rd;generalize u1.heap.size=g3 at *;replace A:=A.next b3;replace hR:=hR.below b3;replace hY:=hY.below b3;replace hb:=bel hb b3;clear hQ3 hv3 hG3 b3;have Y:RowB (u2.alloc (.cells #[.slice a2 n2 c2,.bool F2] 51)) u2.heap.size a2 n2 c2 F2:=heap_alloc_new _ _;have b4:=qac u2 (.cells #[.slice a2 n2 c2,.bool F2] 51);replace A:=A.next b4;replace hR:=hR.below b4;replace hY:=hY.below b4;replace hR2:=hR2.below b4;replace hR3:=hR3.below b4;replace hb:=bel hb b4;clear b4
 go_upto_region 5 with (first | refine var_bf (a:=a2) (n:=n2) (c:=c2) (x:=F2) rfl rfl ?_ | fail)
 generalize u2.heap.size=g5 at *;refine qaw (by kernel_rfl) rfl (fun i u x=>match i with
  |0=>u=.agg #[.slice pa k c,.bool xb]
  |1=>u=.bool (bufOk hl xb)
  |2=>u=.agg #[.slice pa k c,.bool xb]
  |3=>u=.bool (bufOk hl xb)
  |4=>u=.bool false
  |_=>True) ?_ ?_ ?_
 ·intro i u x x' hx h
  match i,h with
  |0,h|1,h|2,h|3,h|4,h=>exact h
  |(_+5),h=>trivial
 ·intro i o a u hi hk hbu hdep;replace hdep:=qhdd hdep
  match i,hi with
  |0,hi=>cases hi;exact qggo rfl (st_loadB (A.next hbu) _ rfl (qevv hk 3 rfl rfl) (qzqq rfl))
  |1,hi=>cases hi;obtain⟨z0,hz0,rfl⟩:=hdep 0 rfl;refine qggo rfl (qal (qbu _ _ _ _ _ _ ff_bi (qab hz0) (fun _=>rfl) _ _ _ _ _ _) ?_);refine (buf_i pa k c hl xb u (hR.below hbu) (by omega) (HT.out _ (bel hb hbu))).mono ?_;rintro e u' ⟨rfl,hb'⟩;exact⟨_,rfl,_,rfl,hb',rfl⟩
  |2,hi=>cases hi;exact qggo rfl (st_loadB (A.next hbu) _ rfl (qevv hk 3 rfl rfl) (qzqq rfl))
  |3,hi=>cases hi;obtain⟨z2,hz2,rfl⟩:=hdep 2 rfl;refine qggo rfl (qal (qbu _ _ _ _ _ _ ff_bs (qab hz2) (fun _=>rfl) _ _ _ _ _ _) ?_);refine (buf_s pa k c hl xb u (hR.below hbu) (by omega)).mono ?_;rintro e u' ⟨rfl,hb'⟩;exact⟨_,rfl,_,rfl,hb',rfl⟩
  |4,hi=>cases hi;obtain⟨z1,hz1,rfl⟩:=hdep 1 rfl;obtain⟨z3,hz3,rfl⟩:=hdep 3 rfl;exact qggo rfl (z_bin _ _ _ _ _ rfl (qab hz1) (qab hz3) (neb_same _ _ _ _) (qzqq rfl))
  |(_+5),hi=>cases hi
 intro vs y3 b3 hG a3 h3;have e4:=hG 4 (by decide);replace e4:vs 4=.bool false:=e4;clear hG;replace A:=A.next b3;replace Y:=Y.next b3;replace hR:=hR.below b3;replace hY:=hY.below b3;replace hR2:=hR2.below b3;replace hR3:=hR3.below b3;replace hb:=bel hb b3;clear b3;replace h3:puts _ 1 _ (Act.mk #[_,_,_,_,_,_,_,_,_,_,_,_,_,_,_,_,_,_,_,_,_,_,_,_,_,_,_,_,_,_,_,_,_,_,_,_,_,_,_,_,_,_,_,_,_,_,_,_,_,_,_,_,_,_,_,_,_,_,_,_,_,_,_,_,_,_,_,_,_,_,_,_,_,_,_,_,_,_,_,_,_,_,_,_,_,_,_,_,_,_,_,_,_,_,_,_,_,_,_,_,_,_,_,_,_,_,_,_,_,_,_,_,_,_,_,_,_,_,_,_,_,_,_,_,_,_,_,_,_] [])=a3:=h3;replace h3:puts _ 2 _ (Act.mk #[_,_,_,_,_,_,_,_,_,_,_,_,_,_,_,_,_,_,_,_,_,_,_,_,_,_,_,_,_,_,_,_,_,_,_,_,_,_,_,_,_,_,_,_,_,_,_,_,_,_,_,_,_,_,_,_,_,_,_,_,_,_,_,_,_,_,_,_,_,_,_,_,_,_,_,_,_,_,_,_,_,_,_,_,_,_,_,_,_,_,_,_,_,_,_,_,_,_,_,_,_,_,_,_,_,_,_,_,_,_,_,_,_,_,_,_,_,_,_,_,_,_,_,_,_,_,_,_,_] [])=a3:=h3;replace h3:puts _ 3 _ (Act.mk #[_,_,_,_,_,_,_,_,_,_,_,_,_,_,_,_,_,_,_,_,_,_,_,_,_,_,_,_,_,_,_,_,_,_,_,_,_,_,_,_,_,_,_,_,_,_,_,_,_,_,_,_,_,_,_,_,_,_,_,_,_,_,_,_,_,_,_,_,_,_,_,_,_,_,_,_,_,_,_,_,_,_,_,_,_,_,_,_,_,_,_,_,_,_,_,_,_,_,_,_,_,_,_,_,_,_,_,_,_,_,_,_,_,_,_,_,_,_,_,_,_,_,_,_,_,_,_,_,_] [])=a3:=h3;replace h3:puts _ 4 _ (Act.mk #[_,_,_,_,_,_,_,_,_,_,_,_,_,_,_,_,_,_,_,_,_,_,_,_,_,_,_,_,_,_,_,_,_,_,_,_,_,_,_,_,_,_,_,_,_,_,_,_,_,_,_,_,_,_,_,_,_,_,_,_,_,_,_,_,_,_,_,_,_,_,_,_,_,_,_,_,_,_,_,_,_,_,_,_,_,_,_,_,_,_,_,_,_,_,_,_,_,_,_,_,_,_,_,_,_,_,_,_,_,_,_,_,_,_,_,_,_,_,_,_,_,_,_,_,_,_,_,_,_] [])=a3:=h3
 replace h3:(Act.mk #[_,_,_,_,_,_,_,_,_,_,_,_,_,_,_,_,_,_,_,_,_,_,_,_,_,_,_,_,_,_,_,_,_,_,_,_,_,_,_,_,_,_,_,_,_,_,_,_,_,_,_,_,_,_,_,_,_,_,_,_,_,_,_,_,_,_,_,_,_,_,_,_,_,_,_,_,_,_,_,_,_,_,_,_,_,_,_,_,_,_,_,_,_,_,_,_,_,_,_,_,_,_,_,_,_,_,_,_,_,_,_,_,_,_,_,_,_,_,_,_,_,_,_,_,_,_,_,_,_] [])=a3:=h3;subst h3;simp only[e4];clear e4;cases hbk:bufOk hl xb with
 |false=>
  have HBK:Hid (bufOk hl xb=false):=hbk;clear hbk;obtain⟨rfl,rfl,rfl⟩ : hl=F1∧xb=F2∧[]=F3:=by
   have e:=HF.out;rw[feed_bad hl xb (by first | exact .inl HBK.out | exact .inr rfl) L] at e;simp only[Prod.mk.injEq] at e;exact e
  have hq0:q3 = []:=by
   have e:=congrArg List.length HV3.out;rw[pvs_length] at e;exact List.eq_nil_of_length_eq_zero e
  subst hq0;have C:=buf_i pa k c hl xb _ hR (by omega) (HT.out _ hb);rw[HBK.out] at C;have c1:=qbr A 1;simp only[List.getElem?_toArray,List.getElem?_cons_zero,List.getElem?_cons_succ] at c1;go_wp2_with (first | refine qdy A rfl _ rfl rfl ?_ | fail)
  refine C.mono ?_;clear C;rintro e u7 ⟨rfl,b7⟩;replace A:=A.next b7;replace Y:=Y.next b7;replace hR:=hR.below b7;replace hR2:=hR2.below b7;replace hb:=bel hb b7;replace c1:u7.cell? ⟨g3,1,none⟩ = some (.bool xb):=(qbr A 1).trans rfl;have c0:u7.cell? ⟨g3,0,none⟩ = some (.slice pa k c):=(qbr A 0).trans rfl;have d0:u7.cell? ⟨g5,0,none⟩ = some (.slice a2 n2 c2):=(qbr Y 0).trans rfl;have d1:u7.cell? ⟨g5,1,none⟩ = some (.bool xb):=(qbr Y 1).trans rfl;go_wp2_with fail
  refine (same_lsame _ _ _ _ _ _ hl _ hR2 hR).mono ?_;rintro e u8 ⟨rfl,hu⟩;rw[hu];clear hu;go_wp2;go_ret;exact⟨by simp,hb⟩
 |true=>
  have HBK:Hid (bufOk hl xb=true):=hbk;clear hbk;cases xb with
  |true=>
   obtain⟨rfl,rfl,rfl⟩ : hl=F1∧true=F2∧[]=F3:=by
    have e:=HF.out;rw[feed_bad hl true (by first | exact .inl HBK.out | exact .inr rfl) L] at e;simp only[Prod.mk.injEq] at e;exact e
   have hq0:q3 = []:=by
    have e:=congrArg List.length HV3.out;rw[pvs_length] at e;exact List.eq_nil_of_length_eq_zero e
   subst hq0;have C:=buf_i pa k c hl true _ hR (by omega) (HT.out _ hb);rw[HBK.out] at C;have c1:=qbr A 1;simp only[List.getElem?_toArray,List.getElem?_cons_zero,List.getElem?_cons_succ] at c1;go_wp2_with (first | refine qdy A rfl _ rfl rfl ?_ | fail)
   refine C.mono ?_;clear C;rintro e u7 ⟨rfl,b7⟩;replace A:=A.next b7;replace Y:=Y.next b7;replace hR:=hR.below b7;replace hR2:=hR2.below b7;replace hb:=bel hb b7;replace c1:u7.cell? ⟨g3,1,none⟩ = some (.bool true):=(qbr A 1).trans rfl;have c0:u7.cell? ⟨g3,0,none⟩ = some (.slice pa k c):=(qbr A 0).trans rfl;have d0:u7.cell? ⟨g5,0,none⟩ = some (.slice a2 n2 c2):=(qbr Y 0).trans rfl;have d1:u7.cell? ⟨g5,1,none⟩ = some (.bool true):=(qbr Y 1).trans rfl;go_wp2_with fail
   refine (same_lsame _ _ _ _ _ _ hl _ hR2 hR).mono ?_;rintro e u8 ⟨rfl,hu⟩;rw[hu];clear hu;go_wp2;go_ret;exact⟨by simp,hb⟩
  |false=>
   have C:=buf_i pa k c hl false _ hR (by omega) (HT.out _ hb);rw[HBK.out] at C;have c1:=qbr A 1;simp only[List.getElem?_toArray,List.getElem?_cons_zero,List.getElem?_cons_succ] at c1;go_wp2_with (first | refine qdy A rfl _ rfl rfl ?_ | fail)
   refine C.mono ?_;clear C;rintro e u7 ⟨rfl,b7⟩;replace A:=A.next b7;replace Y:=Y.next b7;replace hR:=hR.below b7;replace hY:=hY.below b7;replace hR2:=hR2.below b7;replace hR3:=hR3.below b7;replace hb:=bel hb b7;replace c1:u7.cell? ⟨g3,1,none⟩ = some (.bool false):=(qbr A 1).trans rfl;have c0:(u7.alloc (.cells #[] 5)).cell? ⟨g3,0,none⟩ = some (.slice pa k c):=(qbr (A.next (qac u7 (.cells #[] 5))) 0).trans rfl;have hlk:hl.length=k:=hR.1.1;go_wp2_with (at_builtin;refine w_app _ rfl _ _ rfl u7.heap.size _ 0 _ [] rfl (qbm u7) _ _ _ hl rfl (hR.alloc _) (by omega) (by simp) ?_)
   intro a8 c8 u8 ho8 hg8;have b8:Below u7.heap.size u7 u8:=qba (qac u7 (.cells #[] 5)) (by simp) (qbm u7) hg8;have H7:Hid (∀u,Below u7.heap.size u7 u→BsRd u b m d L∧RowB u g3 pa k c false∧RowB u g5 a2 n2 c2 F2∧RdIn u a2 n2 c2 F1∧QRd u a3 q3.length c3 q3∧Below w.heap.size w u):=fun u hu=>⟨hY.below hu,A.next hu,Y.next hu,hR2.below hu,hR3.below hu,bel hb hu⟩
   have HLm:Hid (L.length=m):=hY.1;clear hg8 A Y hR hY hR2 hR3 hb b7 c0 c1;go_wp2
   go_loopw [7,8] (fun v i wr=>∃(t:Nat) (a9:Option Addr) (m9 c9:Nat),i=.int .i64 t∧v=.slice a9 m9 c9∧t≤m∧m9+(L.drop t).flatten.length≤2000∧Own wr u7.heap.size a9 m9 c9 (hl++(L.take t).flatten)∧Below u7.heap.size u7 wr) (fun _ i _=>m-(intOf i).toNat)
   case atStart=>exact⟨0,a8,k,c8,rfl,rfl,Nat.zero_le _,(by rw[List.drop_zero];omega),by simpa using ho8,b8⟩
   case round=>
    clear ho8 b8;obtain⟨t,a9,m9,c9,rfl,rfl,ht,hm9,ho,hb⟩:=hrel
    by_cases hlt:t<m
    ·have hlt':(t:Int)<m:=by omega
     obtain⟨b0,off,rfl,a10,k10,c10,hcell,hR10⟩:=(H7.out _ hb).1.2 t hlt;have hdr:=drop_cons L t [] (by rw[HLm.out];exact hlt);have htk:L.take (t+1)=L.take t++[L.getD t []]:=by
      rw[List.take_succ_eq_append_getElem (by rw[HLm.out];exact hlt)]
      congr 2
      simp[List.getD_eq_getElem?_getD,List.getElem?_eq_getElem (show t<L.length by rw[HLm.out];exact hlt)]
     generalize L.getD t []=y at hdr htk hR10;have hy10:y.length=k10:=hR10.1.1;rw[hdr,List.flatten_cons,List.length_append] at hm9;have HTK:Hid (L.take (t+1)=L.take t++[y]):=htk;have hs7:=hb.size;clear hdr htk;go_wp2_with (at_builtin;refine w_app _ rfl _ _ rfl u7.heap.size _ _ _ _ rfl ho _ _ _ y rfl hR10 (by omega) hs7 ?_)
     intro a11 c11 u11 ho11 hg11;have b11:=qba hb hs7 ho hg11;have ho12:Own u11 u7.heap.size a11 (m9+k10) c11 (hl++(L.take (t+1)).flatten):=by
      rw[HTK.out,List.flatten_append,←List.append_assoc]
      simpa using ho11
     clear hg11 ho ho11 hR10 hcell HTK;go_wp2;go_roundw
     case rel=>exact⟨t+1,a11,m9+k10,c11,by go_num,rfl,by omega,by omega,ho12,b11⟩
     case measure=>simp[intOf];omega
    ·have hlt':¬(t:Int)<m:=by omega
     have ht0:L.take t=L:=List.take_of_length_le (by rw[HLm.out];omega);rw[ht0] at ho;have hRa:=ho.rd;have hal:=ho.1;obtain⟨hY,A,Y,hR2,hR3,hbw⟩:=H7.out _ hb;have E0:=feedAll_eq hl HBK.out L;rw[HF.out] at E0;have HFN0:=(feed_nil (hl++L.flatten)).trans E0.symm;have hm7:m9≤2000:=by omega
     generalize hl++L.flatten=al at hRa hal E0 HFN0;have HFN:Hid (feed [] false al=(F1,F2,F3)):=HFN0;obtain⟨ps,nn,cc,hmm⟩ : ∃ps nn cc,many al=(ps,nn,cc):=⟨_,_,_,rfl⟩;have HM:Hid (many al=(ps,nn,cc)):=hmm;rw[hmm] at E0;simp only at E0;have E1:Hid ((F1,F2,F3)=if cc=2 then ([],true,ps) else (al.drop nn,false,ps)):=E0;have HB2:Hid (bufOk F1 F2=true):=by
      have e:=E1.out;show _=_
      split at e
      ·simp only[Prod.mk.injEq] at e;rw[e.1,e.2.1];rfl
      ·rename_i h2
       simp only[Prod.mk.injEq] at e;have e3:=bufOk_left al (by rw[HM.out];exact h2);rw[HM.out] at e3;rw[e.1,e.2.1];exact e3
     clear ho H7 hY E0 HFN0 hmm HLm HF HBK hm9 ht0;replace hb:=hbw;clear hbw;generalize wr=u7 at *;generalize a9=a7 at *;generalize c9=c7 at *;generalize m9=m7 at *
     by_cases h2:cc=2
     ·subst h2;obtain⟨rfl,rfl,rfl⟩ : []=F1∧true=F2∧ps=F3:=by
       have e:=E1.out;rw[if_pos rfl] at e;simp only[Prod.mk.injEq] at e;exact⟨e.1.symm,e.2.1.symm,e.2.2.symm⟩
      have hcq:((2:Int)==2)=true:=rfl;have hn2:n2≤2000:=by
       have e1:=hR2.1.1;simp at e1;omega
      have C:=all_i a7 m7 c7 al u7 hRa (by omega) (HT.out _ hb);rw[HM.out] at C;simp only at C;go_wp2_with fail
      refine C.mono ?_;clear C;rintro e u9 ⟨v9,rfl,⟨a9,c9,q9,rfl,hQ9,hv9,hG9⟩,b9⟩;rw[HM.out] at hv9;have HV9:Hid (pvs q9=ps):=hv9;have hR9:=hQ9.rd;have HS9:Hid (∀x∈q9,Psz x.1 x.2∧Plen x.1 1048576):=fun x hx=>⟨(hG9 x hx).sz,(hG9 x hx).ln⟩
      replace A:=A.next b9;replace Y:=Y.next b9;replace hR2:=hR2.below b9;replace hR3:=hR3.below b9;replace hRa:=hRa.below b9;replace hb:=bel hb b9;clear hQ9 hv9 hG9 b9;have hq9:q9.length≤2000:=by
       have e1:=congrArg List.length HV9.out;rw[pvs_length] at e1;have e2:=(qrz al).2;rw[HM.out] at e2;simp only at e2;omega
      have C:=feed_i none 0 0 [] false a7 m7 c7 al u9 (RdIn.nil _) hRa (by omega) (HT.out _ hb);rw[HFN.out] at C;simp only at C;go_wp2_with fail
      refine C.mono ?_;clear C;rintro e u11 ⟨a12,n12,c12,v12,rfl,hR12,_,⟨a13,c13,q13,rfl,hQ13,hv13,hG13⟩,b11⟩;have HV13:Hid (pvs q13=ps):=hv13;have hR13:=hQ13.rd;have hq3:q3.length≤2000:=by
       have e1:=congrArg List.length (HV3.out.trans HV9.out.symm);rw[pvs_length,pvs_length] at e1;omega
      have hq13:q13.length≤2000:=by
       have e1:=congrArg List.length (HV13.out.trans HV9.out.symm);rw[pvs_length,pvs_length] at e1;omega
      replace A:=A.next b11;replace Y:=Y.next b11;replace hR2:=hR2.below b11;replace hR3:=hR3.below b11;replace hRa:=hRa.below b11;replace hR9:=hR9.below b11;replace hb:=bel hb b11;clear hQ13 hv13 hG13 b11;have Z:RowB (u11.alloc (.cells #[.slice a12 n12 c12,.bool true] 51)) u11.heap.size a12 n12 c12 true:=heap_alloc_new _ _;have b12:=qac u11 (.cells #[.slice a12 n12 c12,.bool true] 51);replace A:=A.next b12;replace Y:=Y.next b12;replace hR2:=hR2.below b12;replace hR3:=hR3.below b12;replace hRa:=hRa.below b12;replace hR9:=hR9.below b12;replace hR12:=hR12.below b12;replace hR13:=hR13.below b12;replace hb:=bel hb b12;clear b12;have HG11:Hid (u11.heap.size=u11.heap.size):=rfl;go_wp2_with (first | refine var_bf (a:=a12) (n:=n12) (c:=c12) (x:=true) rfl rfl ?_ | refine qdy Y rfl _ rfl rfl ?_ | fail)
      have C:=buf_i a2 n2 c2 [] true _ hR2 (by omega) (HT.out _ hb);rw[HB2.out] at C;refine C.mono ?_;clear C;rintro e u13 ⟨rfl,b13⟩;generalize u11.heap.size=g11 at *;replace A:=A.next b13;replace Y:=Y.next b13;replace Z:=Z.next b13;replace hR2:=hR2.below b13;replace hR3:=hR3.below b13;replace hRa:=hRa.below b13;replace hR9:=hR9.below b13;replace hR12:=hR12.below b13;replace hR13:=hR13.below b13;replace hb:=bel hb b13;clear b13;have d1:u13.cell? ⟨g5,1,none⟩ = some (.bool true):=(qbr Y 1).trans rfl;go_wp2_with fail
      refine (same2f _ _ _ _ _ _ q3 q9 _ hR3 hR9 (HV3.out.trans HV9.out.symm) (by omega)).mono ?_;rintro e u14 ⟨rfl,b14⟩;replace A:=A.next b14;replace Y:=Y.next b14;replace Z:=Z.next b14;replace hR2:=hR2.below b14;replace hRa:=hRa.below b14;replace hR9:=hR9.below b14;replace hR12:=hR12.below b14;replace hR13:=hR13.below b14;replace hb:=bel hb b14;clear b14 d1 hR3;go_wp2_with fail
      refine (same2f _ _ _ _ _ _ q13 q9 _ hR13 hR9 (HV13.out.trans HV9.out.symm) (by omega)).mono ?_;rintro e w0 ⟨rfl,b15⟩;replace A:=A.next b15;replace Y:=Y.next b15;replace Z:=Z.next b15;replace hR2:=hR2.below b15;replace hRa:=hRa.below b15;replace hR9:=hR9.below b15;replace hR12:=hR12.below b15;replace hb:=bel hb b15;clear b15 hR13;have d1:w0.cell? ⟨g5,1,none⟩ = some (.bool true):=(qbr Y 1).trans rfl;have z1:w0.cell? ⟨g11,1,none⟩ = some (.bool true):=(qbr Z 1).trans rfl
      go_upto_region 18 with fail
      clear d1 z1;refine qda 18 (by kernel_rfl) rfl (fun i u u'=>(Below w0.heap.size w0 u→Below w0.heap.size w0 u')∧(i≠13→Below u.heap.size u u')∧(i=13→∀(a:Option Addr) (m c:Nat),Own u w0.heap.size a m c (allB ps)→Own u' w0.heap.size a m c (allB ps))) (fun i v u=>match i with
       |0=>v=.pointer (some ⟨g5,1,none⟩)
       |1=>v=.bool true
       |2=>v=.bool true
       |3=>v=undef
       |4=>v=undef
       |5=>v=undef
       |6=>v=undef
       |7=>v=undef
       |8=>v=undef
       |9=>v=undef
       |10=>v=undef
       |11=>v=undef
       |12=>v=undef
       |13=>v=undef
       |14=>v=undef
       |15=>v=undef
       |16=>v=undef
       |17=>v=.bool true
       |_=>True) (fun _ u=>Below w0.heap.size w0 u) ?_ ?_ ?_ ?_ ?_
      ·intro i j v u u' hi hj hr hne hR hG
       match j,hj,hr,hne,hG with
       |0,_,_,_,hG=>exact hG
       |1,_,_,_,hG=>exact hG
       |2,_,_,_,hG=>exact hG
       |3,_,_,_,hG=>exact hG
       |4,_,_,_,hG=>exact hG
       |5,_,_,_,hG=>exact hG
       |6,_,_,_,hG=>exact hG
       |7,_,_,_,hG=>exact hG
       |8,_,_,_,hG=>exact hG
       |9,_,_,_,hG=>exact hG
       |10,_,_,_,hG=>exact hG
       |11,_,_,_,hG=>exact hG
       |12,_,_,_,hG=>exact hG
       |13,_,_,_,hG=>exact hG
       |14,_,_,_,hG=>exact hG
       |15,_,_,_,hG=>exact hG
       |16,_,_,_,hG=>exact hG
       |17,_,_,_,hG=>exact hG
       |(_+18),h,_,_,_=>omega
      ·exact fun i k u u' hi hk hr hne hR hH=>hR.1 hH
      ·exact fun k=>⟨rfl,rfl,rfl,Nat.le_refl _,fun _ _=>rfl⟩
      ·intro i o ac u hi hk hH hdep
       match i,hi with
       |0,hi=>cases hi;exact qggo rfl (z_fld (X:=⟨g5,0,none⟩) (Y:=⟨g5,1,none⟩) 51 _ 1 rfl (qevv hk 5 rfl rfl) (fun _=>by kernel_rfl) ⟨_,rfl,⟨fun h=>h,fun _=>Below.refl _ _,fun _ _ _ _ h=>h⟩,rfl⟩)
       |1,hi=>cases hi;obtain⟨z0,hz0,rfl⟩:=hdep 0 _ _ rfl rfl rfl;exact qggo rfl (z_ld 4 _ rfl (qab hz0) (by kernel_rfl) ((qbr (Y.next hH) 1).trans rfl) ⟨_,rfl,⟨fun h=>h,fun _=>Below.refl _ _,fun _ _ _ _ h=>h⟩,rfl⟩)
       |2,hi=>cases hi;obtain⟨z1,hz1,rfl⟩:=hdep 1 _ _ rfl rfl rfl;exact qggo rfl (qbd _ rfl (qab hz1) ⟨_,rfl,⟨fun h=>h,fun _=>Below.refl _ _,fun _ _ _ _ h=>h⟩,rfl⟩)
       |3,hi=>cases hi;obtain⟨z2,hz2,rfl⟩:=hdep 2 _ _ rfl rfl rfl;exact qdh (qet rfl (qaq rfl hz2) (by decide)) ⟨⟨fun h=>h,fun _=>Below.refl _ _,fun _ _ _ _ h=>h⟩,rfl⟩
       |4,hi=>cases hi;obtain⟨z2,hz2,rfl⟩:=hdep 2 _ _ rfl rfl rfl;exact qdh (qet rfl (qaq rfl hz2) (by decide)) ⟨⟨fun h=>h,fun _=>Below.refl _ _,fun _ _ _ _ h=>h⟩,rfl⟩
       |5,hi=>cases hi;obtain⟨z2,hz2,rfl⟩:=hdep 2 _ _ rfl rfl rfl;exact qdh (qet rfl (qaq rfl hz2) (by decide)) ⟨⟨fun h=>h,fun _=>Below.refl _ _,fun _ _ _ _ h=>h⟩,rfl⟩
       |6,hi=>cases hi;obtain⟨z2,hz2,rfl⟩:=hdep 2 _ _ rfl rfl rfl;exact qdh (qet rfl (qaq rfl hz2) (by decide)) ⟨⟨fun h=>h,fun _=>Below.refl _ _,fun _ _ _ _ h=>h⟩,rfl⟩
       |7,hi=>cases hi;obtain⟨z2,hz2,rfl⟩:=hdep 2 _ _ rfl rfl rfl;exact qdh (qet rfl (qaq rfl hz2) (by decide)) ⟨⟨fun h=>h,fun _=>Below.refl _ _,fun _ _ _ _ h=>h⟩,rfl⟩
       |8,hi=>cases hi;obtain⟨z2,hz2,rfl⟩:=hdep 2 _ _ rfl rfl rfl;exact qdh (qet rfl (qaq rfl hz2) (by decide)) ⟨⟨fun h=>h,fun _=>Below.refl _ _,fun _ _ _ _ h=>h⟩,rfl⟩
       |9,hi=>cases hi;obtain⟨z8,hz8,rfl⟩:=hdep 8 _ _ rfl rfl rfl;exact qdh (wanted_un rfl (yields_un rfl hz8)) ⟨⟨fun h=>h,fun _=>Below.refl _ _,fun _ _ _ _ h=>h⟩,rfl⟩
       |10,hi=>cases hi;obtain⟨z8,hz8,rfl⟩:=hdep 8 _ _ rfl rfl rfl;exact qdh (wanted_un rfl (yields_un rfl hz8)) ⟨⟨fun h=>h,fun _=>Below.refl _ _,fun _ _ _ _ h=>h⟩,rfl⟩
       |11,hi=>cases hi;obtain⟨z8,hz8,rfl⟩:=hdep 8 _ _ rfl rfl rfl;exact qdh (wanted_un rfl (yields_un rfl hz8)) ⟨⟨fun h=>h,fun _=>Below.refl _ _,fun _ _ _ _ h=>h⟩,rfl⟩
       |12,hi=>cases hi;obtain⟨z8,hz8,rfl⟩:=hdep 8 _ _ rfl rfl rfl;exact qdh (wanted_un rfl (yields_un rfl hz8)) ⟨⟨fun h=>h,fun _=>Below.refl _ _,fun _ _ _ _ h=>h⟩,rfl⟩
       |13,hi=>cases hi;obtain⟨z8,hz8,rfl⟩:=hdep 8 _ _ rfl rfl rfl;exact qdh (wanted_un rfl (yields_un rfl hz8)) ⟨⟨fun h=>h,fun _=>Below.refl _ _,fun _ _ _ _ h=>h⟩,rfl⟩
       |14,hi=>cases hi;obtain⟨z8,hz8,rfl⟩:=hdep 8 _ _ rfl rfl rfl;exact qdh (wanted_un rfl (yields_un rfl hz8)) ⟨⟨fun h=>h,fun _=>Below.refl _ _,fun _ _ _ _ h=>h⟩,rfl⟩
       |15,hi=>cases hi;obtain⟨z8,hz8,rfl⟩:=hdep 8 _ _ rfl rfl rfl;exact qdh (wanted_un rfl (yields_un rfl hz8)) ⟨⟨fun h=>h,fun _=>Below.refl _ _,fun _ _ _ _ h=>h⟩,rfl⟩
       |16,hi=>cases hi;obtain⟨z2,hz2,rfl⟩:=hdep 2 _ _ rfl rfl rfl;exact qdh (qet rfl (qaq rfl hz2) (by decide)) ⟨⟨fun h=>h,fun _=>Below.refl _ _,fun _ _ _ _ h=>h⟩,rfl⟩
       |17,hi=>cases hi;obtain⟨z2,hz2,rfl⟩:=hdep 2 _ _ rfl rfl rfl;exact qggo rfl (z_pickT _ _ _ rfl (qab hz2) rfl ⟨_,rfl,⟨fun h=>h,fun _=>Below.refl _ _,fun _ _ _ _ h=>h⟩,rfl⟩)
       |(_+18),hi=>cases hi
      intro vs y9 hH hG a3_ h3;have g17:vs 17=.bool true:=hG 17 (by decide);have s2:=qgl h3 rfl 17 rfl rfl;rw[g17] at s2;have hd:=(qim h3).trans (show _ = [] from rfl);have hsz:2<a3_.tmps.size:=by
       have:=(Array.getElem?_eq_some_iff.1 s2).1;omega
      clear h3 hG;replace hb:=bel hb hH;simp only[List.drop_succ_cons,List.drop_zero];refine qcr (qaa rfl _) (w':=y9) (v:=.bool true) (by simp[execOp,qab s2]) ?_;have p2:=qee (.bool true) hsz;have hd2:(a3_.put (some 2) (.bool true)).defers = []:=(qhu _ _ _).trans hd;generalize a3_.put (some 2) (.bool true)=a4_ at p2 hd2;go_wp2;refine bodyPost_ret (results_tmp rfl _ _ _) hd2 ⟨?_,hb⟩;rw[qjl p2]
     ·have hcq:(cc==2)=false:=by simpa using h2
      obtain⟨rfl,rfl⟩ : false=F2∧ps=F3:=by
       have e:=E1.out;rw[if_neg h2] at e;simp only[Prod.mk.injEq] at e;exact⟨e.2.1.symm,e.2.2.symm⟩
      have HWR:Hid (allB ps++F1=al):=by
       have e:=E1.out;rw[if_neg h2] at e;simp only[Prod.mk.injEq] at e;have e2:=many_bytes al;rw[HM.out] at e2;show _=_;rw[e.1,←e2];exact List.take_append_drop _ _
      have hn2:n2≤2000:=by
       have e:=E1.out;rw[if_neg h2] at e;simp only[Prod.mk.injEq] at e;have e1:=hR2.1.1;rw[e.1,List.length_drop] at e1;omega
      have C:=all_i a7 m7 c7 al u7 hRa (by omega) (HT.out _ hb);rw[HM.out] at C;simp only at C;go_wp2_with fail
      refine C.mono ?_;clear C;rintro e u9 ⟨v9,rfl,⟨a9,c9,q9,rfl,hQ9,hv9,hG9⟩,b9⟩;rw[HM.out] at hv9;have HV9:Hid (pvs q9=ps):=hv9;have hR9:=hQ9.rd;have HS9:Hid (∀x∈q9,Psz x.1 x.2∧Plen x.1 1048576):=fun x hx=>⟨(hG9 x hx).sz,(hG9 x hx).ln⟩
      replace A:=A.next b9;replace Y:=Y.next b9;replace hR2:=hR2.below b9;replace hR3:=hR3.below b9;replace hRa:=hRa.below b9;replace hb:=bel hb b9;clear hQ9 hv9 hG9 b9;have hq9:q9.length≤2000:=by
       have e1:=congrArg List.length HV9.out;rw[pvs_length] at e1;have e2:=(qrz al).2;rw[HM.out] at e2;simp only at e2;omega
      have C:=feed_i none 0 0 [] false a7 m7 c7 al u9 (RdIn.nil _) hRa (by omega) (HT.out _ hb);rw[HFN.out] at C;simp only at C;go_wp2_with fail
      refine C.mono ?_;clear C;rintro e u11 ⟨a12,n12,c12,v12,rfl,hR12,_,⟨a13,c13,q13,rfl,hQ13,hv13,hG13⟩,b11⟩;have HV13:Hid (pvs q13=ps):=hv13;have hR13:=hQ13.rd;have hq3:q3.length≤2000:=by
       have e1:=congrArg List.length (HV3.out.trans HV9.out.symm);rw[pvs_length,pvs_length] at e1;omega
      have hq13:q13.length≤2000:=by
       have e1:=congrArg List.length (HV13.out.trans HV9.out.symm);rw[pvs_length,pvs_length] at e1;omega
      replace A:=A.next b11;replace Y:=Y.next b11;replace hR2:=hR2.below b11;replace hR3:=hR3.below b11;replace hRa:=hRa.below b11;replace hR9:=hR9.below b11;replace hb:=bel hb b11;clear hQ13 hv13 hG13 b11;have Z:RowB (u11.alloc (.cells #[.slice a12 n12 c12,.bool false] 51)) u11.heap.size a12 n12 c12 false:=heap_alloc_new _ _;have b12:=qac u11 (.cells #[.slice a12 n12 c12,.bool false] 51);replace A:=A.next b12;replace Y:=Y.next b12;replace hR2:=hR2.below b12;replace hR3:=hR3.below b12;replace hRa:=hRa.below b12;replace hR9:=hR9.below b12;replace hR12:=hR12.below b12;replace hR13:=hR13.below b12;replace hb:=bel hb b12;clear b12;have HG11:Hid (u11.heap.size=u11.heap.size):=rfl;go_wp2_with (first | refine var_bf (a:=a12) (n:=n12) (c:=c12) (x:=false) rfl rfl ?_ | refine qdy Y rfl _ rfl rfl ?_ | fail)
      have C:=buf_i a2 n2 c2 F1 false _ hR2 (by omega) (HT.out _ hb);rw[HB2.out] at C;refine C.mono ?_;clear C;rintro e u13 ⟨rfl,b13⟩;generalize u11.heap.size=g11 at *;replace A:=A.next b13;replace Y:=Y.next b13;replace Z:=Z.next b13;replace hR2:=hR2.below b13;replace hR3:=hR3.below b13;replace hRa:=hRa.below b13;replace hR9:=hR9.below b13;replace hR12:=hR12.below b13;replace hR13:=hR13.below b13;replace hb:=bel hb b13;clear b13;have d1:u13.cell? ⟨g5,1,none⟩ = some (.bool false):=(qbr Y 1).trans rfl;go_wp2_with fail
      refine (same2f _ _ _ _ _ _ q3 q9 _ hR3 hR9 (HV3.out.trans HV9.out.symm) (by omega)).mono ?_;rintro e u14 ⟨rfl,b14⟩;replace A:=A.next b14;replace Y:=Y.next b14;replace Z:=Z.next b14;replace hR2:=hR2.below b14;replace hRa:=hRa.below b14;replace hR9:=hR9.below b14;replace hR12:=hR12.below b14;replace hR13:=hR13.below b14;replace hb:=bel hb b14;clear b14 d1 hR3;go_wp2_with fail
      refine (same2f _ _ _ _ _ _ q13 q9 _ hR13 hR9 (HV13.out.trans HV9.out.symm) (by omega)).mono ?_;rintro e w0 ⟨rfl,b15⟩;replace A:=A.next b15;replace Y:=Y.next b15;replace Z:=Z.next b15;replace hR2:=hR2.below b15;replace hRa:=hRa.below b15;replace hR9:=hR9.below b15;replace hR12:=hR12.below b15;replace hb:=bel hb b15;clear b15 hR13;have d1:w0.cell? ⟨g5,1,none⟩ = some (.bool false):=(qbr Y 1).trans rfl;have z1:w0.cell? ⟨g11,1,none⟩ = some (.bool false):=(qbr Z 1).trans rfl
      go_upto_region 18 with fail
      clear d1 z1;refine qda 18 (by kernel_rfl) rfl (fun i u u'=>(Below w0.heap.size w0 u→Below w0.heap.size w0 u')∧(i≠13→Below u.heap.size u u')∧(i=13→∀(a:Option Addr) (m c:Nat),Own u w0.heap.size a m c (allB ps)→Own u' w0.heap.size a m c (allB ps))) (fun i v u=>match i with
       |0=>v=.pointer (some ⟨g5,1,none⟩)
       |1=>v=.bool false
       |2=>v=.bool false
       |3=>v=.pointer (some ⟨g11,0,none⟩)
       |4=>v=.slice a12 n12 c12
       |5=>v=.pointer (some ⟨g5,0,none⟩)
       |6=>v=.slice a2 n2 c2
       |7=>v=.bool true
       |8=>v=.bool true
       |9=>v=.slice a9 (List.length q9) c9
       |10=>∃(a m c:_),v=.slice a m c∧m≤1048576∧Own u w0.heap.size a m c (allB ps)
       |11=>v=.pointer (some ⟨g5,0,none⟩)
       |12=>v=.slice a2 n2 c2
       |13=>∃(a m c:_),v=.slice a m c∧RdIn u a m c al
       |14=>v=.slice a7 m7 c7
       |15=>v=.bool true
       |16=>v=.bool true
       |17=>v=.bool true
       |_=>True) (fun _ u=>Below w0.heap.size w0 u) ?_ ?_ ?_ ?_ ?_
      ·intro i j v u u' hi hj hr hne hR hG
       match j,hj,hr,hne,hG with
       |0,_,_,_,hG=>exact hG
       |1,_,_,_,hG=>exact hG
       |2,_,_,_,hG=>exact hG
       |3,_,_,_,hG=>exact hG
       |4,_,_,_,hG=>exact hG
       |5,_,_,_,hG=>exact hG
       |6,_,_,_,hG=>exact hG
       |7,_,_,_,hG=>exact hG
       |8,_,_,_,hG=>exact hG
       |9,_,_,_,hG=>exact hG
       |10,_,hr,hne,hG=>
        obtain⟨a,m,c,e1,e2,e3⟩:=hG;refine⟨a,m,c,e1,e2,?_⟩
        by_cases h13:i=13
        ·exact hR.2.2 h13 a m c e3
        ·exact e3.below (hR.2.1 h13)
       |11,_,_,_,hG=>exact hG
       |12,_,_,_,hG=>exact hG
       |13,_,_,hne,hG=>
        obtain⟨a,m,c,e1,e2⟩:=hG;exact⟨a,m,c,e1,e2.below (hR.2.1 (fun e=>hne e.symm))⟩
       |14,_,_,_,hG=>exact hG
       |15,_,_,_,hG=>exact hG
       |16,_,_,_,hG=>exact hG
       |17,_,_,_,hG=>exact hG
       |(_+18),h,_,_,_=>omega
      ·exact fun i k u u' hi hk hr hne hR hH=>hR.1 hH
      ·exact fun k=>⟨rfl,rfl,rfl,Nat.le_refl _,fun _ _=>rfl⟩
      ·intro i o ac u hi hk hH hdep
       match i,hi with
       |0,hi=>cases hi;exact qggo rfl (z_fld (X:=⟨g5,0,none⟩) (Y:=⟨g5,1,none⟩) 51 _ 1 rfl (qevv hk 5 rfl rfl) (fun _=>by kernel_rfl) ⟨_,rfl,⟨fun h=>h,fun _=>Below.refl _ _,fun _ _ _ _ h=>h⟩,rfl⟩)
       |1,hi=>cases hi;obtain⟨z0,hz0,rfl⟩:=hdep 0 _ _ rfl rfl rfl;exact qggo rfl (z_ld 4 _ rfl (qab hz0) (by kernel_rfl) ((qbr (Y.next hH) 1).trans rfl) ⟨_,rfl,⟨fun h=>h,fun _=>Below.refl _ _,fun _ _ _ _ h=>h⟩,rfl⟩)
       |2,hi=>cases hi;obtain⟨z1,hz1,rfl⟩:=hdep 1 _ _ rfl rfl rfl;exact qggo rfl (qbd _ rfl (qab hz1) ⟨_,rfl,⟨fun h=>h,fun _=>Below.refl _ _,fun _ _ _ _ h=>h⟩,rfl⟩)
       |3,hi=>cases hi;obtain⟨z2,hz2,rfl⟩:=hdep 2 _ _ rfl rfl rfl;exact g_run (qao rfl (qaq rfl hz2)) (z_fld (X:=⟨g11,0,none⟩) (Y:=⟨g11,0,none⟩) 51 _ 0 rfl (qevv hk 11 rfl rfl) (fun _=>by kernel_rfl) ⟨_,rfl,⟨fun h=>h,fun _=>Below.refl _ _,fun _ _ _ _ h=>h⟩,rfl⟩)
       |4,hi=>cases hi;obtain⟨z2,hz2,rfl⟩:=hdep 2 _ _ rfl rfl rfl;obtain⟨z3,hz3,rfl⟩:=hdep 3 _ _ rfl rfl rfl;exact g_run (qao rfl (qaq rfl hz2)) (z_ld 22 _ rfl (qab hz3) (by kernel_rfl) ((qbr (Z.next hH) 0).trans rfl) ⟨_,rfl,⟨fun h=>h,fun _=>Below.refl _ _,fun _ _ _ _ h=>h⟩,rfl⟩)
       |5,hi=>cases hi;obtain⟨z2,hz2,rfl⟩:=hdep 2 _ _ rfl rfl rfl;exact g_run (qao rfl (qaq rfl hz2)) (z_fld (X:=⟨g5,0,none⟩) (Y:=⟨g5,0,none⟩) 51 _ 0 rfl (qevv hk 5 rfl rfl) (fun _=>by kernel_rfl) ⟨_,rfl,⟨fun h=>h,fun _=>Below.refl _ _,fun _ _ _ _ h=>h⟩,rfl⟩)
       |6,hi=>cases hi;obtain⟨z2,hz2,rfl⟩:=hdep 2 _ _ rfl rfl rfl;obtain⟨z5,hz5,rfl⟩:=hdep 5 _ _ rfl rfl rfl;exact g_run (qao rfl (qaq rfl hz2)) (z_ld 22 _ rfl (qab hz5) (by kernel_rfl) ((qbr (Y.next hH) 0).trans rfl) ⟨_,rfl,⟨fun h=>h,fun _=>Below.refl _ _,fun _ _ _ _ h=>h⟩,rfl⟩)
       |7,hi=>cases hi;obtain⟨z2,hz2,rfl⟩:=hdep 2 _ _ rfl rfl rfl;obtain⟨z4,hz4,rfl⟩:=hdep 4 _ _ rfl rfl rfl;obtain⟨z6,hz6,rfl⟩:=hdep 6 _ _ rfl rfl rfl;refine g_run (qao rfl (qaq rfl hz2)) (qal (qak _ _ _ _ _ _ _ _ ff_same (qab hz4) (qab hz6) (fun _=>rfl) _ _ _ _ _ _) ?_);refine (same_lsame _ _ _ _ _ _ F1 u (hR12.below hH) (hR2.below hH)).mono ?_;rintro e u' ⟨rfl,hu⟩;subst hu;exact⟨_,rfl,_,rfl,⟨fun h=>h,fun _=>Below.refl _ _,fun _ _ _ _ h=>h⟩,rfl⟩
       |8,hi=>cases hi;obtain⟨z2,hz2,rfl⟩:=hdep 2 _ _ rfl rfl rfl;obtain⟨z7,hz7,rfl⟩:=hdep 7 _ _ rfl rfl rfl;exact g_run (qao rfl (qaq rfl hz2)) (qbd _ rfl (qab hz7) ⟨_,rfl,⟨fun h=>h,fun _=>Below.refl _ _,fun _ _ _ _ h=>h⟩,rfl⟩)
       |9,hi=>cases hi;obtain⟨z8,hz8,rfl⟩:=hdep 8 _ _ rfl rfl rfl;exact g_run (qao rfl (qaq rfl hz8)) (qbd _ rfl (qevv hk 9 rfl rfl) ⟨_,rfl,⟨fun h=>h,fun _=>Below.refl _ _,fun _ _ _ _ h=>h⟩,rfl⟩)
       |10,hi=>cases hi;obtain⟨z8,hz8,rfl⟩:=hdep 8 _ _ rfl rfl rfl;obtain⟨z9,hz9,rfl⟩:=hdep 9 _ _ rfl rfl rfl;refine g_run (qao rfl (qaq rfl hz8)) (qal (qbu _ _ _ _ _ _ ff_wr (qab hz9) (fun _=>rfl) _ _ _ _ _ _) ?_);refine (write_i _ _ _ q9 u (hR9.below hH) (by omega) HS9.out).mono ?_;rintro e u' ⟨a',m',c',rfl,hO,hm',hb'⟩;rw[HV9.out] at hO;exact⟨_,rfl,_,rfl,⟨fun h=>bel' h hb',fun _=>hb',fun e=>absurd e (by decide)⟩,a',m',c',rfl,by omega,hO.mono hH.size⟩
       |11,hi=>cases hi;obtain⟨z8,hz8,rfl⟩:=hdep 8 _ _ rfl rfl rfl;exact g_run (qao rfl (qaq rfl hz8)) (z_fld (X:=⟨g5,0,none⟩) (Y:=⟨g5,0,none⟩) 51 _ 0 rfl (qevv hk 5 rfl rfl) (fun _=>by kernel_rfl) ⟨_,rfl,⟨fun h=>h,fun _=>Below.refl _ _,fun _ _ _ _ h=>h⟩,rfl⟩)
       |12,hi=>cases hi;obtain⟨z8,hz8,rfl⟩:=hdep 8 _ _ rfl rfl rfl;obtain⟨z11,hz11,rfl⟩:=hdep 11 _ _ rfl rfl rfl;exact g_run (qao rfl (qaq rfl hz8)) (z_ld 22 _ rfl (qab hz11) (by kernel_rfl) ((qbr (Y.next hH) 0).trans rfl) ⟨_,rfl,⟨fun h=>h,fun _=>Below.refl _ _,fun _ _ _ _ h=>h⟩,rfl⟩)
       |13,hi=>cases hi;obtain⟨z8,hz8,rfl⟩:=hdep 8 _ _ rfl rfl rfl;obtain⟨z10,hz10,⟨a',m',c',e1,e2,e3⟩⟩:=hdep 10 _ _ rfl rfl rfl;subst e1;obtain⟨z12,hz12,rfl⟩:=hdep 12 _ _ rfl rfl rfl;refine g_run (qao rfl (qaq rfl hz8)) (z_bapp _ _ rfl w0.heap.size _ _ _ _ (qab hz10) e3 _ _ _ _ (qab hz12) (hR2.below hH) (by omega) hH.size ?_);intro ao' cap' u' hO hg hK;have hrd:=hO.rd;rw[HWR.out] at hrd;exact⟨_,rfl,⟨fun h=>qba h h.size e3 hg,fun h=>absurd rfl h,fun _ a m c h2=>own_keepAll e3 hK hg h2⟩,ao',_,cap',rfl,hrd⟩
       |14,hi=>cases hi;obtain⟨z8,hz8,rfl⟩:=hdep 8 _ _ rfl rfl rfl;exact g_run (qao rfl (qaq rfl hz8)) (qbd _ rfl (qevv hk 7 rfl rfl) ⟨_,rfl,⟨fun h=>h,fun _=>Below.refl _ _,fun _ _ _ _ h=>h⟩,rfl⟩)
       |15,hi=>cases hi;obtain⟨z8,hz8,rfl⟩:=hdep 8 _ _ rfl rfl rfl;obtain⟨z13,hz13,⟨a',m',c',e1,e2⟩⟩:=hdep 13 _ _ rfl rfl rfl;subst e1;obtain⟨z14,hz14,rfl⟩:=hdep 14 _ _ rfl rfl rfl;refine g_run (qao rfl (qaq rfl hz8)) (qal (qak _ _ _ _ _ _ _ _ ff_same (qab hz13) (qab hz14) (fun _=>rfl) _ _ _ _ _ _) ?_);refine (same_lsame _ _ _ _ _ _ al u e2 (hRa.below hH)).mono ?_;rintro e u' ⟨rfl,hu⟩;subst hu;exact⟨_,rfl,_,rfl,⟨fun h=>h,fun _=>Below.refl _ _,fun _ _ _ _ h=>h⟩,rfl⟩
       |16,hi=>cases hi;obtain⟨z2,hz2,rfl⟩:=hdep 2 _ _ rfl rfl rfl;obtain⟨z8,hz8,rfl⟩:=hdep 8 _ _ rfl rfl rfl;obtain⟨z15,hz15,rfl⟩:=hdep 15 _ _ rfl rfl rfl;exact g_run (qao rfl (qaq rfl hz2)) (z_pickT _ _ _ rfl (qab hz8) (qab hz15) ⟨_,rfl,⟨fun h=>h,fun _=>Below.refl _ _,fun _ _ _ _ h=>h⟩,rfl⟩)
       |17,hi=>cases hi;obtain⟨z2,hz2,rfl⟩:=hdep 2 _ _ rfl rfl rfl;obtain⟨z16,hz16,rfl⟩:=hdep 16 _ _ rfl rfl rfl;exact qggo rfl (z_pickF _ _ _ rfl (qab hz2) (qab hz16) ⟨_,rfl,⟨fun h=>h,fun _=>Below.refl _ _,fun _ _ _ _ h=>h⟩,rfl⟩)
       |(_+18),hi=>cases hi
      intro vs y9 hH hG a3_ h3;have g17:vs 17=.bool true:=hG 17 (by decide);have s2:=qgl h3 rfl 17 rfl rfl;rw[g17] at s2;have hd:=(qim h3).trans (show _ = [] from rfl);have hsz:2<a3_.tmps.size:=by
       have:=(Array.getElem?_eq_some_iff.1 s2).1;omega
      clear h3 hG;replace hb:=bel hb hH;simp only[List.drop_succ_cons,List.drop_zero];refine qcr (qaa rfl _) (w':=y9) (v:=.bool true) (by simp[execOp,qab s2]) ?_;have p2:=qee (.bool true) hsz;have hd2:(a3_.put (some 2) (.bool true)).defers = []:=(qhu _ _ _).trans hd;generalize a3_.put (some 2) (.bool true)=a4_ at p2 hd2;go_wp2;refine bodyPost_ret (results_tmp rfl _ _ _) hd2 ⟨?_,hb⟩;rw[qjl p2]

theorem fnFrames_et : Tryz.prog.globalNamed "errors.errorType" = some 1 := by kernel_rfl
theorem fnFrames_rt : (Tryz.prog.cutTypes.find? (·.1 == "internal/reflectlite.rtype")).map (·.2) = some 196 := by kernel_rfl
theorem fnFrames_oneRow:((List.range 275).filter fun t=>Tryz.prog.rowNamed t [101,114,114,111,114]) = [94]:=by kernel_rfl
theorem fnFrames_size:Tryz.prog.types.size=275:=by kernel_rfl
/-- What the condition gives a walk: the variable's one cell. -/
theorem fnFrames_handle {W:World} (h:laidMetH Tryz.prog Rows.fnFramesRow.laid W):ErrTy W:=by
 have h':laidMet Tryz.prog [] W∧handlesMet Tryz.prog Rows.fnFramesRow.laid W:=h;obtain⟨name,u,ty,e1,e2,e3,e4,e5⟩:=h'.2 _ (List.mem_singleton.2 rfl);have en:name = [101,114,114,111,114]:=(Option.some.inj e1).symm;subst en;obtain rfl:=Option.some.inj (fnFrames_rt.symm.trans e2);have hm:ty∈(List.range 275).filter fun t=>Tryz.prog.rowNamed t [101,114,114,111,114]:=List.mem_filter.2 ⟨List.mem_range.2 (by rw[←fnFrames_size];exact e3),e4⟩
 rw[fnFrames_oneRow] at hm;obtain rfl:=List.mem_singleton.1 hm;have hh:typeHandle Tryz.prog 94=.pointer (some ⟨5,94,none⟩):=by kernel_rfl
 rw[hh] at e5;unfold ErrTy
 simpa using World.var?_cell fnFrames_et e5 0
/-- A world that meets the condition: the settled one, the variable's cell laid. -/
noncomputable def fnFrames_world (os:Os):World :=
 let w0:=World.holding Tryz.prog os ⟨#[],#[],[]⟩
 { w0 with heap:=w0.heap.modify 1 fun
   |.cells _ t frozen=>.cells #[.iface 196 (.agg #[.pointer (some ⟨5,94,none⟩)])] t frozen
   |o=>o }
theorem fnFrames_met (os:Os) (args:Array Value):laidMetH Tryz.prog Rows.fnFramesRow.laid ((fnFrames_world os).forCall (fun _ _=>0) ⟨#[],args,[]⟩).memory :=
 laidMetH_of_parts (laidMet_nil _ _) (by kernel_rfl)
namespace fnFrames
theorem own:ownKnob Tryz.prog.godebug=none:=by kernel_rfl
theorem laidOut:laidOutB Tryz.prog=true:=by kernel_rfl
set_option maxRecDepth 100000 in
theorem lifted (os:Os) (started:os.Started) (H:Type) (enc:TypeId×Value→H) :
  ReturnsInHanded {} Tryz.checked os 7 .any (fun w args=>(Rows.fnFramesSpec.pre enc Tryz.prog Tryz.f7 Rows.fnFramesRow.domain false w args∧laidMetH Tryz.prog Rows.fnFramesRow.laid w)∧sizedMet enc Tryz.prog Tryz.f7 (OpenSpec.ofChange Rows.fnFramesSpec) false w args) (Rows.fnFramesSpec.post enc Tryz.prog Tryz.f7 false true false false):=by
 refine returnsInHanded_of_change_and (C:=Tryz.checked) (X:=fun w _=>laidMetH Tryz.prog Rows.fnFramesRow.laid w) (fun _ _ _ hh h=>h.of_heap hh) own started (by kernel_rfl) Tryz.func7
  (ChangeSpec.witness_at (enc:=enc) (C:=Tryz.checked) (os:=os) (X:=fun w _=>laidMetH Tryz.prog Rows.fnFramesRow.laid w) false (fnFrames_world os) #[.slice none 0 0] 8 rfl (by kernel_rfl) (by kernel_rfl) (by kernel_rfl) (by kernel_rfl) (by kernel_rfl) (fnFrames_met os _)) ?_
 intro W base args ds gs before hval0 hW hcnd _ hL _;have hval:∀(j:Nat) t v,Tryz.f7.params[j]? = some t→args[j]? = some v→Value.okWide Tryz.prog W .any base t v:=hval0;have hW':=hW;obtain⟨p,q,hA0,hV,rfl,hfz,hnd⟩:=hW;have hA:DataW.TrodAll enc Tryz.prog W 0 (fun _=>true) true Tryz.f7.params.toList args.toList ds p:=hA0;rw[Tryz.params7] at hA hval;obtain⟨v0,vs0,d0,ds0,p0,q0,hargs,rfl,rfl,h0,r0⟩:=trodAll_cons hA;obtain⟨rfl,rfl,rfl⟩:=trodAll_nil r0;obtain rfl:args = #[v0]:=by cases args;simp_all
 obtain⟨rfl,rfl⟩:=trodVars_none hV;obtain⟨a0,len0,cap0,rfl⟩:=okWide_slice Tryz.underlying22 (hval 0 22 v0 rfl rfl);have k0:=h0;have lt0:∀x∈p0,x.block<W.heap.size:=by obtain⟨m,hm⟩:=k0;exact DataW.trod_lt m _ _ _ hm
 obtain⟨z0,w0⟩ : ∃l,RdIn W a0 len0 cap0 l:=by
  obtain⟨fuel,hf⟩:=h0
  rcases open_ints Tryz.underlying22 Tryz.underlying5 (by kernel_rfl) hf with ⟨hcs,_⟩ | ⟨x,l,c,zs,hcs,_,hl,hm,hz,_,hcell,hwz⟩
  ·simp[Value.cells] at hcs;obtain⟨rfl,rfl,rfl⟩:=hcs;exact⟨[],RdIn.nil _⟩
  ·simp[Value.cells] at hcs;obtain⟨rfl,rfl,rfl⟩:=hcs;exact RdIn.of_ints hl hm (by simpa using hz) hcell hwz
 clear hA0 hval0;refine (fnFrames_walk a0 len0 cap0 z0 W (fnFrames_handle hL) w0).mono fun e W' ⟨he,bel⟩=>?_
 subst he;exact⟨_,rfl,_,_,_,[],_,[],hW',trodAll_mk1 (shut_bool Tryz.underlying4 _),(trodAll_cons_mk (Below.trod laidOut (by kernel_rfl) (of_decide_eq_true (by kernel_rfl)) k0 bel lt0) trodAll_mk0),rfl,bel.frame _,fun h=>by cases h⟩

theorem over:Rows.fnFramesRow.holds Tryz.pinned (OpenSpec.ofChange Rows.fnFramesSpec) :=
 OpenClaim.holds_of_wide 7 Tryz.f7 rfl rfl rfl rfl rfl rfl rfl ⟨rfl,rfl,rfl,rfl,rfl⟩ rfl rfl rfl rfl rfl (by kernel_rfl) Tryz.func7 (by kernel_rfl)
  (of_decide_eq_true (by kernel_rfl)) (by unfold Func.isWrapper;first | (rw[if_pos (by decide +kernel)];kernel_rfl) | (rw[if_neg (by decide +kernel)];exact⟨rfl,rfl⟩))
  (fun os started H enc _=>lifted os started H enc)
end fnFrames

theorem fnFrames_holds:Rows.FnFramesCardSaid :=
 Claim7.holds_tied_plain_at .later [] [.handle] true Rows.fnFramesCard.stood.harness true fnFrames.over (fun _ h=>by cases h) (by kernel_rfl) (fun _ h=>by cases h) fnFrames_row_tie rfl ⟨rfl,rfl⟩ (by kernel_rfl) rfl
  (fun f fn hf hfn=>by
   obtain rfl:f=7:=Option.some.inj ((show Tryz.prog.funcNamed Rows.fnFramesRow.func=some 7 by kernel_rfl).symm.trans hf) |>.symm
   obtain rfl:fn=Tryz.f7:=(Option.some.inj (Tryz.func7.symm.trans hfn)).symm;exact⟨by kernel_rfl,fun j t ht=>by
    rw[Tryz.params7] at ht;have hm:t∈[22]:=by simpa using Array.mem_of_getElem? ht
    have hall:([22].all fun u=>!Tryz.prog.wantsStandIn u)=true:=by kernel_rfl
    exact (show Tryz.prog.wantsStandIn t=false by simpa using List.all_eq_true.1 hall t hm)⟩)
  (by kernel_rfl)
end Go.Proofs.YtpjkbgdkligpdaaGreatDoor
