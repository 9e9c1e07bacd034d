/- Lemmas. -/
import Derived.Deep.Cut
import Derived.Test.YtpjkbgdkligpdaaGreatDoorY07
import Derived.Test.YtpjkbgdkligpdaaGreatDoorY01
set_option linter.all false
set_option maxRecDepth 100000
set_option maxHeartbeats 20000000
namespace Go.Proofs.YtpjkbgdkligpdaaGreatDoor
open Go.RowKit

theorem qan {P:Program} {w:World} {τ:TypeId} {d:TypeDesc} (hu:P.underlying τ=some d) (hd:(match d with | .struct _ | .array _ _=>true | _=>false)=false) {X:Addr} {v:Value} (h:w.cell? X=some v) :
  (Instr.loadAt τ (.pointer (some X))).run P w=.ok v w:=by
 have hagg:(isAgg τ).run P w=.ok false w:=by
  unfold isAgg;rw[Sem.run_bind,run_underlying hu w];cases d<;>simp_all
 simp[Instr.loadAt,Instr.sureAddr,loadVar,Sem.run_bind,hagg,h]
theorem qjl {a:Act} {s:Nat} {v:Value} (h:a.tmps[s]? = some v):a.tmps.getD s undef=v:=by simp[h]
theorem fld0 (b:Nat) (u:World):(Instr.fieldAt 28 (.pointer (some ⟨b,0,none⟩)) 0).run Tryz.prog u=.ok (.pointer (some ((⟨b,0,none⟩ : Addr).add 0))) u:=by kernel_rfl
theorem fld1 (b:Nat) (u:World):(Instr.fieldAt 28 (.pointer (some ⟨b,0,none⟩)) 1).run Tryz.prog u=.ok (.pointer (some ((⟨b,0,none⟩ : Addr).add 1))) u:=by kernel_rfl
theorem fld2 (b:Nat) (u:World):(Instr.fieldAt 28 (.pointer (some ⟨b,0,none⟩)) 2).run Tryz.prog u=.ok (.pointer (some ((⟨b,0,none⟩ : Addr).add 2))) u:=by kernel_rfl
theorem fld3 (b:Nat) (u:World):(Instr.fieldAt 28 (.pointer (some ⟨b,0,none⟩)) 3).run Tryz.prog u=.ok (.pointer (some ((⟨b,0,none⟩ : Addr).add 3))) u:=by kernel_rfl
theorem fld4 (b:Nat) (u:World):(Instr.fieldAt 28 (.pointer (some ⟨b,0,none⟩)) 4).run Tryz.prog u=.ok (.pointer (some ((⟨b,0,none⟩ : Addr).add 4))) u:=by kernel_rfl
theorem fld5 (b:Nat) (u:World):(Instr.fieldAt 28 (.pointer (some ⟨b,0,none⟩)) 5).run Tryz.prog u=.ok (.pointer (some ((⟨b,0,none⟩ : Addr).add 5))) u:=by kernel_rfl
theorem fld6 (b:Nat) (u:World):(Instr.fieldAt 28 (.pointer (some ⟨b,0,none⟩)) 6).run Tryz.prog u=.ok (.pointer (some ((⟨b,0,none⟩ : Addr).add 6))) u:=by kernel_rfl
theorem fld7 (b:Nat) (u:World):(Instr.fieldAt 28 (.pointer (some ⟨b,0,none⟩)) 7).run Tryz.prog u=.ok (.pointer (some ((⟨b,0,none⟩ : Addr).add 7))) u:=by kernel_rfl
theorem fld8 (b:Nat) (u:World):(Instr.fieldAt 28 (.pointer (some ⟨b,0,none⟩)) 8).run Tryz.prog u=.ok (.pointer (some ((⟨b,0,none⟩ : Addr).add 8))) u:=by kernel_rfl
theorem fld9 (b:Nat) (u:World):(Instr.fieldAt 28 (.pointer (some ⟨b,0,none⟩)) 9).run Tryz.prog u=.ok (.pointer (some ((⟨b,0,none⟩ : Addr).add 9))) u:=by kernel_rfl
theorem fld10 (b:Nat) (u:World):(Instr.fieldAt 28 (.pointer (some ⟨b,0,none⟩)) 10).run Tryz.prog u=.ok (.pointer (some ((⟨b,0,none⟩ : Addr).add 10))) u:=by kernel_rfl
theorem fld11 (b:Nat) (u:World):(Instr.fieldAt 28 (.pointer (some ⟨b,0,none⟩)) 11).run Tryz.prog u=.ok (.pointer (some ((⟨b,0,none⟩ : Addr).add 11))) u:=by kernel_rfl
theorem fld12 (b:Nat) (u:World):(Instr.fieldAt 28 (.pointer (some ⟨b,0,none⟩)) 12).run Tryz.prog u=.ok (.pointer (some ((⟨b,0,none⟩ : Addr).add 12))) u:=by kernel_rfl
theorem fld13 (b:Nat) (u:World):(Instr.fieldAt 28 (.pointer (some ⟨b,0,none⟩)) 13).run Tryz.prog u=.ok (.pointer (some ((⟨b,0,none⟩ : Addr).add 13))) u:=by kernel_rfl
theorem fld14 (b:Nat) (u:World):(Instr.fieldAt 28 (.pointer (some ⟨b,0,none⟩)) 14).run Tryz.prog u=.ok (.pointer (some ((⟨b,0,none⟩ : Addr).add 14))) u:=by kernel_rfl
theorem fld15 (b:Nat) (u:World):(Instr.fieldAt 28 (.pointer (some ⟨b,0,none⟩)) 15).run Tryz.prog u=.ok (.pointer (some ((⟨b,0,none⟩ : Addr).add 15))) u:=by kernel_rfl
theorem fld16 (b:Nat) (u:World):(Instr.fieldAt 28 (.pointer (some ⟨b,0,none⟩)) 16).run Tryz.prog u=.ok (.pointer (some ((⟨b,0,none⟩ : Addr).add 16))) u:=by kernel_rfl
theorem fld17 (b:Nat) (u:World):(Instr.fieldAt 28 (.pointer (some ⟨b,0,none⟩)) 17).run Tryz.prog u=.ok (.pointer (some ((⟨b,0,none⟩ : Addr).add 17))) u:=by kernel_rfl
theorem fld18 (b:Nat) (u:World):(Instr.fieldAt 28 (.pointer (some ⟨b,0,none⟩)) 18).run Tryz.prog u=.ok (.pointer (some ((⟨b,0,none⟩ : Addr).add 18))) u:=by kernel_rfl
theorem fld19 (b:Nat) (u:World):(Instr.fieldAt 28 (.pointer (some ⟨b,0,none⟩)) 19).run Tryz.prog u=.ok (.pointer (some ((⟨b,0,none⟩ : Addr).add 19))) u:=by kernel_rfl
theorem fld20 (b:Nat) (u:World):(Instr.fieldAt 28 (.pointer (some ⟨b,0,none⟩)) 20).run Tryz.prog u=.ok (.pointer (some ((⟨b,0,none⟩ : Addr).add 20))) u:=by kernel_rfl
theorem fld21 (b:Nat) (u:World):(Instr.fieldAt 28 (.pointer (some ⟨b,0,none⟩)) 21).run Tryz.prog u=.ok (.pointer (some ((⟨b,0,none⟩ : Addr).add 21))) u:=by kernel_rfl
theorem eqi (u:World) (x y:Operand) (a b:Int):(do eqGuard .eql 3 x y (.int .i64 a) (.int .i64 b);binOp .eql 3 (.int .i64 a) (.int .i64 b):Sem Value).run Tryz.prog u=.ok (.bool (a==b)) u:=by
 simp[go_sem,Tryz.underlying3]
theorem eqb (u:World) (x y:Operand) (a b:Bool):(do eqGuard .eql 4 x y (.bool a) (.bool b);binOp .eql 4 (.bool a) (.bool b):Sem Value).run Tryz.prog u=.ok (.bool (a==b)) u:=by
 simp[go_sem,Tryz.underlying4]
theorem eqs (u:World) (x y:Operand) (a b:ByteArray):(do eqGuard .eql 9 x y (.string a) (.string b);binOp .eql 9 (.string a) (.string b):Sem Value).run Tryz.prog u=.ok (.bool (decide (a=b))) u:=by
 rw[←qhd];simp[go_sem,Tryz.underlying9]
theorem qkm (u:World) (ρ:Operand→Value) (v v':Value) (x y:Operand) (hx:ρ x=v) (hy:ρ y=v') (hr:∀g,ρ (.func g)=.func (.func g) #[] #[]) (d:Option Tmp) (t:TypeId) (p:String) (e:Array Edge) (g:Option (Nat×Bool)) (ts:Array TypeId):(execOp ρ ⟨d,.call { callee:=.value (.func 89),args:=#[x,y],argTypes:=ts },t,p,e,g⟩).run Tryz.prog u=.ok (.enter 89 #[v,v']) u:=by
 simp[execOp,hx,hy,hr,resolve,invoke,go_sem]
theorem qbo (p q:Pk) (d d':Pd) (w:World) (hp:PRd w p d) (hq:PRd w q d') :
  Calls Tryz.prog 69 #[.agg p.cells,.agg q.cells] w fun e w'=>e=.returned (.bool (decide (pv p d=pv q d')))∧Below w.heap.size w w':=by
 have a0:=p.c0;have b0:=q.c0;have a1:=p.c1;have b1:=q.c1;have a2:=p.c2;have b2:=q.c2;have a3:=p.c3;have b3:=q.c3;have a4:=p.c4;have b4:=q.c4;have a5:=p.c5;have b5:=q.c5;have a6:=p.c6;have b6:=q.c6;have a7:=p.c7;have b7:=q.c7;have a8:=p.c8;have b8:=q.c8;have a9:=p.c9;have b9:=q.c9;have a10:=p.c10;have b10:=q.c10;have a11:=p.c11;have b11:=q.c11;have a12:=p.c12;have b12:=q.c12;have a13:=p.c13;have b13:=q.c13;have a14:=p.c14;have b14:=q.c14;have a15:=p.c15;have b15:=q.c15;have a16:=p.c16;have b16:=q.c16;have a17:=p.c17;have b17:=q.c17;have a18:=p.c18;have b18:=q.c18;have a19:=p.c19;have b19:=q.c19;have a20:=p.c20;have b20:=q.c20;have a21:=p.c21;have b21:=q.c21;have a22:=p.c22;have b22:=q.c22;have a23:=p.c23;have b23:=q.c23;have a24:=p.c24;have b24:=q.c24;have s5:=qhd p.top q.top;have s7:=qhd p.cli q.cli;have s12:=qhd p.wt q.wt;have s17:=qhd p.us q.us;generalize p.cells=cs at *;generalize q.cells=ds at *;have hb:Below w.heap.size w ((w.alloc (.cells cs 28)).alloc (.cells ds 28)):=((Below.refl _ _).alloc (Nat.le_refl _) _).alloc (by simp) _;have R:Hid (PRd ((w.alloc (.cells cs 28)).alloc (.cells ds 28)) p d):=hp.below hb;have R':Hid (PRd ((w.alloc (.cells cs 28)).alloc (.cells ds 28)) q d'):=hq.below hb;clear hp hq;have Lwan:Hid (d.wan.length=p.wan.n):=R.out.2.2.2.1.1.1;have Mwan:Hid (d'.wan.length=q.wan.n):=R'.out.2.2.2.1.1.1;have twan:p.wan.n≤maxLen:=Nat.le_trans R.out.2.2.2.1.2.1 R.out.2.2.2.1.2.2.1;unfold maxLen at twan;have Lnam:Hid (d.nam.length=p.nam.n):=R.out.2.2.2.2.1.1.1
 have Mnam:Hid (d'.nam.length=q.nam.n):=R'.out.2.2.2.2.1.1.1;have tnam:p.nam.n≤maxLen:=Nat.le_trans R.out.2.2.2.2.1.2.1 R.out.2.2.2.2.1.2.2.1;unfold maxLen at tnam;have Lcds:Hid (d.cds.length=p.cds.n):=R.out.2.2.2.2.2.1.1;have Mcds:Hid (d'.cds.length=q.cds.n):=R'.out.2.2.2.2.2.1.1;have tcds:p.cds.n≤maxLen:=Nat.le_trans R.out.2.2.2.2.2.2.1 R.out.2.2.2.2.2.2.2.1;unfold maxLen at tcds
 by_cases hn:p.wan.n=q.wan.n∧p.nam.n=q.nam.n∧p.cds.n=q.cds.n
 rotate_left
 ·have hne:pv p d≠pv q d':=by
   intro e;rw[pv_eq] at e;obtain⟨e1,e2,e3,e4,e5,e6,e7,e8,e9,e10,e11,e12,e13,e14,e15,e16,e17,e18,e19,e20,e21,e22,e23,e24,e25⟩:=e;refine hn ⟨?_,?_,?_⟩
   ·rw[←Lwan.out,←Mwan.out,e23]
   ·rw[←Lnam.out,←Mnam.out,e24]
   ·rw[←Lcds.out,←Mcds.out,e25]
  have HN:Hid (pv p d≠pv q d'):=hne;clear hne
  by_cases n1:p.wan.n=q.wan.n
  ·by_cases n2:p.nam.n=q.nam.n
   ·have n3:p.cds.n≠q.cds.n:=fun e=>hn ⟨n1,n2,e⟩
    have m1:=qic q.wan.n;have m2:=qic q.nam.n;have m3:=qna n3;rw[n1] at a22;rw[n2] at a23;clear hn n1 n2 n3;go_enter Tryz.func69,Tryz.ntmps69;go_wp2;go_ret;exact⟨qad (decide_eq_false HN.out).symm,hb⟩
   ·have m1:=qic q.wan.n;have m2:=qna n2;rw[n1] at a22;clear hn n1 n2;go_enter Tryz.func69,Tryz.ntmps69;go_wp2;go_ret;exact⟨qad (decide_eq_false HN.out).symm,hb⟩
  ·have m1:=qna n1;clear hn n1;go_enter Tryz.func69,Tryz.ntmps69;go_wp2;go_ret;exact⟨qad (decide_eq_false HN.out).symm,hb⟩
 obtain⟨n1,n2,n3⟩:=hn;have m1:=qic q.wan.n;have m2:=qic q.nam.n;have m3:=qic q.cds.n;rw[n1] at a22 twan;rw[n2] at a23 tnam;rw[n3] at a24 tcds;have N1:Hid (p.wan.n=q.wan.n):=n1;have N2:Hid (p.nam.n=q.nam.n):=n2;have N3:Hid (p.cds.n=q.cds.n):=n3;clear n1 n2 n3;generalize hW:(w.alloc (.cells cs 28)).alloc (.cells ds 28)=W at R R' hb;have HW:Hid ((w.alloc (.cells cs 28)).alloc (.cells ds 28)=W):=hW;have wc:∀i,W.cell? ⟨w.heap.size,i,none⟩ = cs[i]?:=by
  intro i;rw[←hW];simp
 have wd:∀i,W.cell? ⟨w.heap.size+1,i,none⟩ = ds[i]?:=by
  intro i;rw[←hW];simp
 go_enter Tryz.func69,Tryz.ntmps69;clear hW;go_wp2;rw[HW.out]

 go_loopw [5] (fun i wr=>∃k:Nat,i=.int .i64 k∧k≤q.wan.n∧Hid (d.wan.take k=d'.wan.take k)∧∃m,wr=W.drewN m) (fun i _=>q.wan.n-(intOf i).toNat)
 case atStart=>exact⟨0,rfl,Nat.zero_le _,rfl,0,rfl⟩
 case round=>
  obtain⟨k,rfl,hk,hT,qm,rfl⟩:=hrel
  by_cases hlt:k<q.wan.n
  ·obtain⟨b,off,e,hc,hd⟩:=R.out.2.2.2.1.1.2 k (by rw[N1.out];exact hlt);rw[e] at a22;obtain⟨b1,off1,e1,hc1,hd1⟩:=R'.out.2.2.2.1.1.2 k hlt;rw[e1] at b22;clear e e1;have hlt':(k:Int)<q.wan.n:=by omega
   have k0:(0:Int)≤k:=by omega
   by_cases he:(wf d.wan k,wq d.wan k)=(wf d'.wan k,wq d'.wan k)
   ·have HS:Hid (d.wan.take (k+1)=d'.wan.take (k+1)):=qgn d.wan d'.wan _ k hT.out (by rw[Lwan.out,N1.out];exact hlt) (by rw[Mwan.out];exact hlt) (wt_inj he);rw[Prod.mk.injEq] at he;rw[←he.1] at hc1;rw[←he.2] at hd1;clear he;go_wp2
    go_quiet (fail)
    go_wp2;go_roundw
    case rel=>exact⟨k+1,by go_num,by omega,HS,_,rfl⟩
    case measure=>simp[intOf];omega
   ·have HN:Hid (pv p d≠pv q d'):=fun e=>he (by rw[←pv_wan p d,←pv_wan q d',e])
    by_cases h2:wf d.wan k=wf d'.wan k
    ·have hbn:(wq d.wan k==wq d'.wan k)=false:=ntq_ne (fun e=>he (by rw[h2,e]));rw[←h2] at hc1;clear he h2;go_wp2
     go_quiet (fail)
     go_wp2;go_ret;exact⟨qad (decide_eq_false HN.out).symm,below_drewN (below_drewN hb _) _⟩
    ·have hbn:=stn_ne h2;clear he h2;go_wp2
     go_quiet (fail)
     go_wp2;go_ret;exact⟨qad (decide_eq_false HN.out).symm,below_drewN (below_drewN hb _) _⟩
  ·have hlt':¬(k:Int)<q.wan.n:=by omega
   obtain rfl:k=q.wan.n:=by omega
   have Hwan:Hid (d.wan=d'.wan):=qio (by rw[Lwan.out,N1.out]) Mwan.out hT.out;clear hT hk hlt;go_wp2

   go_loopw [6] (fun i wr=>∃k:Nat,i=.int .i64 k∧k≤q.nam.n∧Hid (d.nam.take k=d'.nam.take k)∧∃m,wr=W.drewN m) (fun i _=>q.nam.n-(intOf i).toNat)
   case atStart=>exact⟨0,rfl,Nat.zero_le _,rfl,_,rfl⟩
   case round=>
    obtain⟨k,rfl,hk,hT,qm,rfl⟩:=hrel
    by_cases hlt:k<q.nam.n
    ·obtain⟨b,off,e,hc⟩:=R.out.2.2.2.2.1.1.2 k (by rw[N2.out];exact hlt);rw[e] at a23;obtain⟨b1,off1,e1,hc1⟩:=R'.out.2.2.2.2.1.1.2 k hlt;rw[e1] at b23;clear e e1;have hlt':(k:Int)<q.nam.n:=by omega
     have k0:(0:Int)≤k:=by omega
     by_cases he:st d.nam k=st d'.nam k
     ·have HS:Hid (d.nam.take (k+1)=d'.nam.take (k+1)):=qgn d.nam d'.nam _ k hT.out (by rw[Lnam.out,N2.out];exact hlt) (by rw[Mnam.out];exact hlt) (st_inj he);rw[←he] at hc1;have hbn:=stn_self (st d.nam k);clear he;go_wp2
      go_quiet (fail)
      go_wp2;go_roundw
      case rel=>exact⟨k+1,by go_num,by omega,HS,_,rfl⟩
      case measure=>simp[intOf];omega
     ·have HN:Hid (pv p d≠pv q d'):=fun e=>he (by rw[←pv_nam p d,←pv_nam q d',e])
      have hbn:=stn_ne he;clear he;go_wp2
      go_quiet (fail)
      go_wp2;go_ret;exact⟨qad (decide_eq_false HN.out).symm,below_drewN (below_drewN hb _) _⟩
    ·have hlt':¬(k:Int)<q.nam.n:=by omega
     obtain rfl:k=q.nam.n:=by omega
     have Hnam:Hid (d.nam=d'.nam):=qio (by rw[Lnam.out,N2.out]) Mnam.out hT.out;clear hT hk hlt;go_wp2

     go_loopw [7] (fun i wr=>∃k:Nat,i=.int .i64 k∧k≤q.cds.n∧Hid (d.cds.take k=d'.cds.take k)∧∃m,wr=W.drewN m) (fun i _=>q.cds.n-(intOf i).toNat)
     case atStart=>exact⟨0,rfl,Nat.zero_le _,rfl,_,rfl⟩
     case round=>
      obtain⟨k,rfl,hk,hT,qm,rfl⟩:=hrel
      by_cases hlt:k<q.cds.n
      ·obtain⟨b,off,e,hc⟩:=R.out.2.2.2.2.2.1.2 k (by rw[N3.out];exact hlt);rw[e] at a24;obtain⟨b1,off1,e1,hc1⟩:=R'.out.2.2.2.2.2.1.2 k hlt;rw[e1] at b24;clear e e1;have hlt':(k:Int)<q.cds.n:=by omega
       have k0:(0:Int)≤k:=by omega
       by_cases he:nt d.cds k=nt d'.cds k
       ·have HS:Hid (d.cds.take (k+1)=d'.cds.take (k+1)):=qgn d.cds d'.cds _ k hT.out (by rw[Lcds.out,N3.out];exact hlt) (by rw[Mcds.out];exact hlt) (nt_inj he);rw[←he] at hc1;have hbn:=ntn_self (nt d.cds k);clear he;go_wp2
        go_quiet (fail)
        go_wp2;go_roundw
        case rel=>exact⟨k+1,by go_num,by omega,HS,_,rfl⟩
        case measure=>simp[intOf];omega
       ·have HN:Hid (pv p d≠pv q d'):=fun e=>he (by rw[←pv_cds p d,←pv_cds q d',e])
        have hbn:=ntn_ne he;clear he;go_wp2
        go_quiet (fail)
        go_wp2;go_ret;exact⟨qad (decide_eq_false HN.out).symm,below_drewN (below_drewN hb _) _⟩
      ·have hlt':¬(k:Int)<q.cds.n:=by omega
       obtain rfl:k=q.cds.n:=by omega
       have Hcds:Hid (d.cds=d'.cds):=qio (by rw[Lcds.out,N3.out]) Mcds.out hT.out;clear hT hk hlt
       go_upto_region 18 with fail
       refine wp_region_lit ?_;refine (?_:∀a:Act,a.tmps.size=239→a.defers = []→a.tmps[2]? = some (.pointer (some ⟨w.heap.size,0,none⟩))→a.tmps[3]? = some (.pointer (some ⟨w.heap.size+1,0,none⟩))→wpList _ _ _ _ a _) _ rfl rfl rfl rfl;intro a_0 hn0 hd0 hx0 hy0;refine first_eq (E:=(p.ty==q.ty)) (by decide) (by decide) (by rw[hn0];decide) hx0 hy0 (fld0 _) (fld0 _) (qan Tryz.underlying3 rfl ((wc 0).trans a0)) (qan Tryz.underlying3 rfl ((wd 0).trans b0)) (eqi _ _ _ _ _) ?_;intro a_1 k1 s1;have hn1:=k1.size.trans hn0;have hd1:=k1.defers.trans hd0;have hx1:=(k1.slot 2 (by decide)).trans hx0;have hy1:=(k1.slot 3 (by decide)).trans hy0;clear k1 hn0 hd0 hx0 hy0;refine qbn (by rw[hn1];decide) s1 ?_;intro a_2 k2 s2;have hn2:=k2.size.trans hn1;have hd2:=k2.defers.trans hd1;have hx2:=(k2.slot 2 (by decide)).trans hx1;have hy2:=(k2.slot 3 (by decide)).trans hy1;clear k2 hn1 hd1 hx1 hy1 s1;refine qeu (E:=(p.dup==q.dup)) (by decide) (by decide) (by rw[hn2];decide) rfl s2 hx2 hy2 (fld1 _) (fld1 _) (qan Tryz.underlying4 rfl ((wc 1).trans a1)) (qan Tryz.underlying4 rfl ((wd 1).trans b1)) (eqb _ _ _ _ _) ?_;intro a_3 k3 s3;have hn3:=k3.size.trans hn2;have hd3:=k3.defers.trans hd2;have hx3:=(k3.slot 2 (by decide)).trans hx2;have hy3:=(k3.slot 3 (by decide)).trans hy2;clear k3 hn2 hd2 hx2 hy2;refine qbn (by rw[hn3];decide) s3 ?_;intro a_4 k4 s4;have hn4:=k4.size.trans hn3;have hd4:=k4.defers.trans hd3;have hx4:=(k4.slot 2 (by decide)).trans hx3;have hy4:=(k4.slot 3 (by decide)).trans hy3
       clear k4 hn3 hd3 hx3 hy3 s3;refine qeu (E:=(p.qos==q.qos)) (by decide) (by decide) (by rw[hn4];decide) rfl s4 hx4 hy4 (fld2 _) (fld2 _) (qan Tryz.underlying3 rfl ((wc 2).trans a2)) (qan Tryz.underlying3 rfl ((wd 2).trans b2)) (eqi _ _ _ _ _) ?_;intro a_5 k5 s5;have hn5:=k5.size.trans hn4;have hd5:=k5.defers.trans hd4;have hx5:=(k5.slot 2 (by decide)).trans hx4;have hy5:=(k5.slot 3 (by decide)).trans hy4;clear k5 hn4 hd4 hx4 hy4;refine qbn (by rw[hn5];decide) s5 ?_;intro a_6 k6 s6;have hn6:=k6.size.trans hn5;have hd6:=k6.defers.trans hd5;have hx6:=(k6.slot 2 (by decide)).trans hx5;have hy6:=(k6.slot 3 (by decide)).trans hy5;clear k6 hn5 hd5 hx5 hy5 s5;refine qeu (E:=(p.ret==q.ret)) (by decide) (by decide) (by rw[hn6];decide) rfl s6 hx6 hy6 (fld3 _) (fld3 _) (qan Tryz.underlying4 rfl ((wc 3).trans a3)) (qan Tryz.underlying4 rfl ((wd 3).trans b3)) (eqb _ _ _ _ _) ?_;intro a_7 k7 s7;have hn7:=k7.size.trans hn6;have hd7:=k7.defers.trans hd6;have hx7:=(k7.slot 2 (by decide)).trans hx6;have hy7:=(k7.slot 3 (by decide)).trans hy6;clear k7 hn6 hd6 hx6 hy6;refine qbn (by rw[hn7];decide) s7 ?_;intro a_8 k8 s8;have hn8:=k8.size.trans hn7;have hd8:=k8.defers.trans hd7;have hx8:=(k8.slot 2 (by decide)).trans hx7;have hy8:=(k8.slot 3 (by decide)).trans hy7;clear k8 hn7 hd7 hx7 hy7 s7
       refine qeu (E:=(p.id==q.id)) (by decide) (by decide) (by rw[hn8];decide) rfl s8 hx8 hy8 (fld4 _) (fld4 _) (qan Tryz.underlying3 rfl ((wc 4).trans a4)) (qan Tryz.underlying3 rfl ((wd 4).trans b4)) (eqi _ _ _ _ _) ?_;intro a_9 k9 s9;have hn9:=k9.size.trans hn8;have hd9:=k9.defers.trans hd8;have hx9:=(k9.slot 2 (by decide)).trans hx8;have hy9:=(k9.slot 3 (by decide)).trans hy8;clear k9 hn8 hd8 hx8 hy8;refine qbn (by rw[hn9];decide) s9 ?_;intro a_10 k10 s10;have hn10:=k10.size.trans hn9;have hd10:=k10.defers.trans hd9;have hx10:=(k10.slot 2 (by decide)).trans hx9;have hy10:=(k10.slot 3 (by decide)).trans hy9;clear k10 hn9 hd9 hx9 hy9 s9;refine qeu (E:=decide (p.top=q.top)) (by decide) (by decide) (by rw[hn10];decide) rfl s10 hx10 hy10 (fld5 _) (fld5 _) (qan Tryz.underlying9 rfl ((wc 5).trans a5)) (qan Tryz.underlying9 rfl ((wd 5).trans b5)) (eqs _ _ _ _ _) ?_;intro a_11 k11 s11;have hn11:=k11.size.trans hn10;have hd11:=k11.defers.trans hd10;have hx11:=(k11.slot 2 (by decide)).trans hx10;have hy11:=(k11.slot 3 (by decide)).trans hy10;clear k11 hn10 hd10 hx10 hy10;refine qbn (by rw[hn11];decide) s11 ?_;intro a_12 k12 s12;have hn12:=k12.size.trans hn11;have hd12:=k12.defers.trans hd11;have hx12:=(k12.slot 2 (by decide)).trans hx11;have hy12:=(k12.slot 3 (by decide)).trans hy11;clear k12 hn11 hd11 hx11 hy11 s11
       refine qro (E:=decide (d.bod=d'.bod)) (by decide) (by decide) (by rw[hn12];decide) rfl s12 hx12 hy12 (fld6 _) (fld6 _) (qan Tryz.underlying22 rfl ((wc 6).trans a6)) (qan Tryz.underlying22 rfl ((wd 6).trans b6)) (fun ρ h1 h2 h3=>qkm _ ρ _ _ _ _ h1 h2 h3 _ _ _ _ _ _) (qgw _ _ _ _ _ _ _ _ _ (R.out.drewN _).1 (R'.out.drewN _).1) ?_;intro a_13 k13 s13;have hn13:=k13.size.trans hn12;have hd13:=k13.defers.trans hd12;have hx13:=(k13.slot 2 (by decide)).trans hx12;have hy13:=(k13.slot 3 (by decide)).trans hy12;clear k13 hn12 hd12 hx12 hy12;refine qbn (by rw[hn13];decide) s13 ?_;intro a_14 k14 s14;have hn14:=k14.size.trans hn13;have hd14:=k14.defers.trans hd13;have hx14:=(k14.slot 2 (by decide)).trans hx13;have hy14:=(k14.slot 3 (by decide)).trans hy13;clear k14 hn13 hd13 hx13 hy13 s13;refine qeu (E:=decide (p.cli=q.cli)) (by decide) (by decide) (by rw[hn14];decide) rfl s14 hx14 hy14 (fld7 _) (fld7 _) (qan Tryz.underlying9 rfl ((wc 7).trans a7)) (qan Tryz.underlying9 rfl ((wd 7).trans b7)) (eqs _ _ _ _ _) ?_;intro a_15 k15 s15;have hn15:=k15.size.trans hn14;have hd15:=k15.defers.trans hd14;have hx15:=(k15.slot 2 (by decide)).trans hx14;have hy15:=(k15.slot 3 (by decide)).trans hy14;clear k15 hn14 hd14 hx14 hy14;refine qbn (by rw[hn15];decide) s15 ?_;intro a_16 k16 s16;have hn16:=k16.size.trans hn15;have hd16:=k16.defers.trans hd15;have hx16:=(k16.slot 2 (by decide)).trans hx15;have hy16:=(k16.slot 3 (by decide)).trans hy15;clear k16 hn15 hd15 hx15 hy15 s15
       refine qeu (E:=(p.lev==q.lev)) (by decide) (by decide) (by rw[hn16];decide) rfl s16 hx16 hy16 (fld8 _) (fld8 _) (qan Tryz.underlying3 rfl ((wc 8).trans a8)) (qan Tryz.underlying3 rfl ((wd 8).trans b8)) (eqi _ _ _ _ _) ?_;intro a_17 k17 s17;have hn17:=k17.size.trans hn16;have hd17:=k17.defers.trans hd16;have hx17:=(k17.slot 2 (by decide)).trans hx16;have hy17:=(k17.slot 3 (by decide)).trans hy16;clear k17 hn16 hd16 hx16 hy16;refine qbn (by rw[hn17];decide) s17 ?_;intro a_18 k18 s18;have hn18:=k18.size.trans hn17;have hd18:=k18.defers.trans hd17;have hx18:=(k18.slot 2 (by decide)).trans hx17;have hy18:=(k18.slot 3 (by decide)).trans hy17;clear k18 hn17 hd17 hx17 hy17 s17;refine qeu (E:=(p.cln==q.cln)) (by decide) (by decide) (by rw[hn18];decide) rfl s18 hx18 hy18 (fld9 _) (fld9 _) (qan Tryz.underlying4 rfl ((wc 9).trans a9)) (qan Tryz.underlying4 rfl ((wd 9).trans b9)) (eqb _ _ _ _ _) ?_;intro a_19 k19 s19;have hn19:=k19.size.trans hn18;have hd19:=k19.defers.trans hd18;have hx19:=(k19.slot 2 (by decide)).trans hx18;have hy19:=(k19.slot 3 (by decide)).trans hy18;clear k19 hn18 hd18 hx18 hy18;refine qbn (by rw[hn19];decide) s19 ?_;intro a_20 k20 s20;have hn20:=k20.size.trans hn19;have hd20:=k20.defers.trans hd19;have hx20:=(k20.slot 2 (by decide)).trans hx19;have hy20:=(k20.slot 3 (by decide)).trans hy19;clear k20 hn19 hd19 hx19 hy19 s19
       refine qeu (E:=(p.kee==q.kee)) (by decide) (by decide) (by rw[hn20];decide) rfl s20 hx20 hy20 (fld10 _) (fld10 _) (qan Tryz.underlying3 rfl ((wc 10).trans a10)) (qan Tryz.underlying3 rfl ((wd 10).trans b10)) (eqi _ _ _ _ _) ?_;intro a_21 k21 s21;have hn21:=k21.size.trans hn20;have hd21:=k21.defers.trans hd20;have hx21:=(k21.slot 2 (by decide)).trans hx20;have hy21:=(k21.slot 3 (by decide)).trans hy20;clear k21 hn20 hd20 hx20 hy20;refine qbn (by rw[hn21];decide) s21 ?_;intro a_22 k22 s22;have hn22:=k22.size.trans hn21;have hd22:=k22.defers.trans hd21;have hx22:=(k22.slot 2 (by decide)).trans hx21;have hy22:=(k22.slot 3 (by decide)).trans hy21;clear k22 hn21 hd21 hx21 hy21 s21;refine qeu (E:=(p.hw==q.hw)) (by decide) (by decide) (by rw[hn22];decide) rfl s22 hx22 hy22 (fld11 _) (fld11 _) (qan Tryz.underlying4 rfl ((wc 11).trans a11)) (qan Tryz.underlying4 rfl ((wd 11).trans b11)) (eqb _ _ _ _ _) ?_;intro a_23 k23 s23;have hn23:=k23.size.trans hn22;have hd23:=k23.defers.trans hd22;have hx23:=(k23.slot 2 (by decide)).trans hx22;have hy23:=(k23.slot 3 (by decide)).trans hy22;clear k23 hn22 hd22 hx22 hy22;refine qbn (by rw[hn23];decide) s23 ?_;intro a_24 k24 s24;have hn24:=k24.size.trans hn23;have hd24:=k24.defers.trans hd23;have hx24:=(k24.slot 2 (by decide)).trans hx23;have hy24:=(k24.slot 3 (by decide)).trans hy23;clear k24 hn23 hd23 hx23 hy23 s23
       refine qeu (E:=decide (p.wt=q.wt)) (by decide) (by decide) (by rw[hn24];decide) rfl s24 hx24 hy24 (fld12 _) (fld12 _) (qan Tryz.underlying9 rfl ((wc 12).trans a12)) (qan Tryz.underlying9 rfl ((wd 12).trans b12)) (eqs _ _ _ _ _) ?_;intro a_25 k25 s25;have hn25:=k25.size.trans hn24;have hd25:=k25.defers.trans hd24;have hx25:=(k25.slot 2 (by decide)).trans hx24;have hy25:=(k25.slot 3 (by decide)).trans hy24;clear k25 hn24 hd24 hx24 hy24;refine qbn (by rw[hn25];decide) s25 ?_;intro a_26 k26 s26;have hn26:=k26.size.trans hn25;have hd26:=k26.defers.trans hd25;have hx26:=(k26.slot 2 (by decide)).trans hx25;have hy26:=(k26.slot 3 (by decide)).trans hy25;clear k26 hn25 hd25 hx25 hy25 s25;refine qro (E:=decide (d.wb=d'.wb)) (by decide) (by decide) (by rw[hn26];decide) rfl s26 hx26 hy26 (fld13 _) (fld13 _) (qan Tryz.underlying22 rfl ((wc 13).trans a13)) (qan Tryz.underlying22 rfl ((wd 13).trans b13)) (fun ρ h1 h2 h3=>qkm _ ρ _ _ _ _ h1 h2 h3 _ _ _ _ _ _) (qgw _ _ _ _ _ _ _ _ _ (R.out.drewN _).2.1 (R'.out.drewN _).2.1) ?_;intro a_27 k27 s27;have hn27:=k27.size.trans hn26;have hd27:=k27.defers.trans hd26;have hx27:=(k27.slot 2 (by decide)).trans hx26;have hy27:=(k27.slot 3 (by decide)).trans hy26;clear k27 hn26 hd26 hx26 hy26;refine qbn (by rw[hn27];decide) s27 ?_;intro a_28 k28 s28;have hn28:=k28.size.trans hn27;have hd28:=k28.defers.trans hd27;have hx28:=(k28.slot 2 (by decide)).trans hx27;have hy28:=(k28.slot 3 (by decide)).trans hy27;clear k28 hn27 hd27 hx27 hy27 s27
       refine qeu (E:=(p.wq==q.wq)) (by decide) (by decide) (by rw[hn28];decide) rfl s28 hx28 hy28 (fld14 _) (fld14 _) (qan Tryz.underlying3 rfl ((wc 14).trans a14)) (qan Tryz.underlying3 rfl ((wd 14).trans b14)) (eqi _ _ _ _ _) ?_;intro a_29 k29 s29;have hn29:=k29.size.trans hn28;have hd29:=k29.defers.trans hd28;have hx29:=(k29.slot 2 (by decide)).trans hx28;have hy29:=(k29.slot 3 (by decide)).trans hy28;clear k29 hn28 hd28 hx28 hy28;refine qbn (by rw[hn29];decide) s29 ?_;intro a_30 k30 s30;have hn30:=k30.size.trans hn29;have hd30:=k30.defers.trans hd29;have hx30:=(k30.slot 2 (by decide)).trans hx29;have hy30:=(k30.slot 3 (by decide)).trans hy29;clear k30 hn29 hd29 hx29 hy29 s29;refine qeu (E:=(p.wr==q.wr)) (by decide) (by decide) (by rw[hn30];decide) rfl s30 hx30 hy30 (fld15 _) (fld15 _) (qan Tryz.underlying4 rfl ((wc 15).trans a15)) (qan Tryz.underlying4 rfl ((wd 15).trans b15)) (eqb _ _ _ _ _) ?_;intro a_31 k31 s31;have hn31:=k31.size.trans hn30;have hd31:=k31.defers.trans hd30;have hx31:=(k31.slot 2 (by decide)).trans hx30;have hy31:=(k31.slot 3 (by decide)).trans hy30;clear k31 hn30 hd30 hx30 hy30;refine qbn (by rw[hn31];decide) s31 ?_;intro a_32 k32 s32;have hn32:=k32.size.trans hn31;have hd32:=k32.defers.trans hd31;have hx32:=(k32.slot 2 (by decide)).trans hx31;have hy32:=(k32.slot 3 (by decide)).trans hy31;clear k32 hn31 hd31 hx31 hy31 s31
       refine qeu (E:=(p.hu==q.hu)) (by decide) (by decide) (by rw[hn32];decide) rfl s32 hx32 hy32 (fld16 _) (fld16 _) (qan Tryz.underlying4 rfl ((wc 16).trans a16)) (qan Tryz.underlying4 rfl ((wd 16).trans b16)) (eqb _ _ _ _ _) ?_;intro a_33 k33 s33;have hn33:=k33.size.trans hn32;have hd33:=k33.defers.trans hd32;have hx33:=(k33.slot 2 (by decide)).trans hx32;have hy33:=(k33.slot 3 (by decide)).trans hy32;clear k33 hn32 hd32 hx32 hy32;refine qbn (by rw[hn33];decide) s33 ?_;intro a_34 k34 s34;have hn34:=k34.size.trans hn33;have hd34:=k34.defers.trans hd33;have hx34:=(k34.slot 2 (by decide)).trans hx33;have hy34:=(k34.slot 3 (by decide)).trans hy33;clear k34 hn33 hd33 hx33 hy33 s33;refine qeu (E:=decide (p.us=q.us)) (by decide) (by decide) (by rw[hn34];decide) rfl s34 hx34 hy34 (fld17 _) (fld17 _) (qan Tryz.underlying9 rfl ((wc 17).trans a17)) (qan Tryz.underlying9 rfl ((wd 17).trans b17)) (eqs _ _ _ _ _) ?_;intro a_35 k35 s35;have hn35:=k35.size.trans hn34;have hd35:=k35.defers.trans hd34;have hx35:=(k35.slot 2 (by decide)).trans hx34;have hy35:=(k35.slot 3 (by decide)).trans hy34;clear k35 hn34 hd34 hx34 hy34;refine qbn (by rw[hn35];decide) s35 ?_;intro a_36 k36 s36;have hn36:=k36.size.trans hn35;have hd36:=k36.defers.trans hd35;have hx36:=(k36.slot 2 (by decide)).trans hx35;have hy36:=(k36.slot 3 (by decide)).trans hy35;clear k36 hn35 hd35 hx35 hy35 s35
       refine qeu (E:=(p.hp==q.hp)) (by decide) (by decide) (by rw[hn36];decide) rfl s36 hx36 hy36 (fld18 _) (fld18 _) (qan Tryz.underlying4 rfl ((wc 18).trans a18)) (qan Tryz.underlying4 rfl ((wd 18).trans b18)) (eqb _ _ _ _ _) ?_;intro a_37 k37 s37;have hn37:=k37.size.trans hn36;have hd37:=k37.defers.trans hd36;have hx37:=(k37.slot 2 (by decide)).trans hx36;have hy37:=(k37.slot 3 (by decide)).trans hy36;clear k37 hn36 hd36 hx36 hy36;refine qbn (by rw[hn37];decide) s37 ?_;intro a_38 k38 s38;have hn38:=k38.size.trans hn37;have hd38:=k38.defers.trans hd37;have hx38:=(k38.slot 2 (by decide)).trans hx37;have hy38:=(k38.slot 3 (by decide)).trans hy37;clear k38 hn37 hd37 hx37 hy37 s37;refine qro (E:=decide (d.pa=d'.pa)) (by decide) (by decide) (by rw[hn38];decide) rfl s38 hx38 hy38 (fld19 _) (fld19 _) (qan Tryz.underlying22 rfl ((wc 19).trans a19)) (qan Tryz.underlying22 rfl ((wd 19).trans b19)) (fun ρ h1 h2 h3=>qkm _ ρ _ _ _ _ h1 h2 h3 _ _ _ _ _ _) (qgw _ _ _ _ _ _ _ _ _ (R.out.drewN _).2.2.1 (R'.out.drewN _).2.2.1) ?_;intro a_39 k39 s39;have hn39:=k39.size.trans hn38;have hd39:=k39.defers.trans hd38;have hx39:=(k39.slot 2 (by decide)).trans hx38;have hy39:=(k39.slot 3 (by decide)).trans hy38;clear k39 hn38 hd38 hx38 hy38;refine qbn (by rw[hn39];decide) s39 ?_;intro a_40 k40 s40;have hn40:=k40.size.trans hn39;have hd40:=k40.defers.trans hd39;have hx40:=(k40.slot 2 (by decide)).trans hx39;have hy40:=(k40.slot 3 (by decide)).trans hy39;clear k40 hn39 hd39 hx39 hy39 s39
       refine qeu (E:=(p.cod==q.cod)) (by decide) (by decide) (by rw[hn40];decide) rfl s40 hx40 hy40 (fld20 _) (fld20 _) (qan Tryz.underlying3 rfl ((wc 20).trans a20)) (qan Tryz.underlying3 rfl ((wd 20).trans b20)) (eqi _ _ _ _ _) ?_;intro a_41 k41 s41;have hn41:=k41.size.trans hn40;have hd41:=k41.defers.trans hd40;have hx41:=(k41.slot 2 (by decide)).trans hx40;have hy41:=(k41.slot 3 (by decide)).trans hy40;clear k41 hn40 hd40 hx40 hy40;refine qbn (by rw[hn41];decide) s41 ?_;intro a_42 k42 s42;have hn42:=k42.size.trans hn41;have hd42:=k42.defers.trans hd41;have hx42:=(k42.slot 2 (by decide)).trans hx41;have hy42:=(k42.slot 3 (by decide)).trans hy41;clear k42 hn41 hd41 hx41 hy41 s41;refine qeu (E:=(p.pre==q.pre)) (by decide) (by decide) (by rw[hn42];decide) rfl s42 hx42 hy42 (fld21 _) (fld21 _) (qan Tryz.underlying4 rfl ((wc 21).trans a21)) (qan Tryz.underlying4 rfl ((wd 21).trans b21)) (eqb _ _ _ _ _) ?_;intro a_43 k43 s43;have hn43:=k43.size.trans hn42;have hd43:=k43.defers.trans hd42;have hx43:=(k43.slot 2 (by decide)).trans hx42;have hy43:=(k43.slot 3 (by decide)).trans hy42;clear k43 hn42 hd42 hx42 hy42;refine qvs (by rw[hn43];decide) s43 ?_;intro a_44 k44 s44;have hd44:=k44.defers.trans hd43;refine wpList_nil ?_;go_wp2;refine bodyPost_ret (results_tmp rfl _ _ _) hd44 ⟨?_,below_drewN hb _⟩;rw[qjl s44];refine qad ?_;have z1:=Hwan.out;have z2:=Hnam.out;have z3:=Hcds.out;rw[Bool.eq_iff_iff];simp only[Bool.and_eq_true,beq_iff_eq,decide_eq_true_eq,pv_eq];constructor
       ·rintro h;simp only[h,z1,z2,z3,and_self]
       ·rintro h;simp only[h,and_self]


theorem qjj (P:Program) (u:World) (ρ:Operand→Value) (x:Operand) (name:String) (r:Result Next) (hm:(callMethod (ρ x) name #[]).run P u=r) (d:Option Tmp) (t:TypeId) (p:String) (e:Array Edge) (g:Option (Nat×Bool)) (ts:Array TypeId) :
  (execOp ρ ⟨d,.call { callee:=.invoke x name,args:=#[],argTypes:=ts },t,p,e,g⟩).run P u=r:=by
 rw[←hm];simp[execOp,resolve,invoke]
theorem cf_pac (xs:Array Value) (u:World):(callFunc 67 xs).run Tryz.prog u=.ok (.enter 67 xs) u:=by kernel_rfl
theorem cf_isame (xs:Array Value) (u:World):(callFunc 18 xs).run Tryz.prog u=.ok (.enter 18 xs) u:=by kernel_rfl
abbrev rightN : String := "loop.example/g00480/impl.right"
theorem qen (p:Pk) (d:Pd) (w:World) (hp:PRd w p d) (T:TypeId) (v:Value) (fR:FuncId) (rv:Value) (R:Bool) (q:Pk) (dq:Pd)
  (hkind:∀u:World,Calls Tryz.prog 63 #[.agg p.cells] u fun e u'=>e=.returned (.iface T v)∧Below u.heap.size u u')
  (hne:∀(u:World) (x y:Operand),(do eqGuard .neq 76 x y (.iface T v) .nilIface;binOp .neq 76 (.iface T v) .nilIface:Sem Value).run Tryz.prog u=.ok (.bool true) u)
  (hm:∀u:World,(callMethod (.iface T v) rightN #[]).run Tryz.prog u=.ok (.enter fR #[rv]) u)
  (hright:∀u:World,PRd u p d→Calls Tryz.prog fR #[rv] u fun e u'=>e=.returned (.bool R)∧Below u.heap.size u u')
  (hpac:∀u:World,Calls Tryz.prog 67 #[.iface T v] u fun e u'=>e=.returned (.agg q.cells)∧Below u.heap.size u u')
  (hq:∀u:World,PRd u p d→PRd u q dq) :
  Calls Tryz.prog 16 #[.agg p.cells] w fun e w'=>e=.returned (.bool (R&&decide (pv q dq=pv p d)))∧Below w.heap.size w w':=by
 have hb:Below w.heap.size w (w.alloc (.cells p.cells 28)):=qac _ _;have A:Blk (w.alloc (.cells p.cells 28)) w.heap.size p:=heap_alloc_new _ _;replace hp:=hp.below hb;go_enter Tryz.func16,Tryz.ntmps16;go_wp2_with (first | refine qaj A rfl _ rfl rfl ?_ | fail)
 refine (hkind _).mono ?_;rintro e y ⟨rfl,b1⟩;replace hb:=bel hb b1;replace A:=A.next b1;replace hp:=hp.below b1;clear b1;go_wp2;cases R with
 |true=>
  refine qaw (by kernel_rfl) rfl (fun i u x=>match i with
   |0 | 3 | 7=>u=.iface T v
   |8=>u=.agg q.cells
   |9=>u=.agg p.cells
   |10 | 11 | 12=>u=.bool (decide (pv q dq=pv p d))
   |_=>u=.bool true) ?_ ?_ ?_
  ·intro i u x x' hx h;exact h
  ·intro i o a u hi hk hbu hdep;replace hdep:=qhdd hdep
   match i,hi with
   |0,hi=>cases hi;exact qggo rfl (qae (by simp[execOp,qab ((hk.at 3 rfl).trans rfl)]) (qzqq rfl))
   |1,hi=>cases hi;obtain⟨z,hz,rfl⟩:=hdep 0 rfl;refine qggo rfl (qae (v:=.bool true) (w':=u) ?_ (qzqq rfl));have ev:a.eval (.const .nilIface)=.nilIface:=rfl;simp only[execOp,qab hz,ev,Sem.run_bind,hne,Result.andThen_ok,Sem.run_pure]
   |2,hi=>cases hi;obtain⟨z,hz,rfl⟩:=hdep 1 rfl;exact qggo rfl (qae (by simp[execOp,qab hz]) (qzqq rfl))
   |3,hi=>cases hi;obtain⟨z,hz,rfl⟩:=hdep 2 rfl;exact g_run (qco rfl (qaq rfl hz)) (qae (by simp[execOp,qab ((hk.at 3 rfl).trans rfl)]) (qzqq rfl))
   |4,hi=>cases hi;obtain⟨z,hz,rfl⟩:=hdep 2 rfl;obtain⟨z',hz',rfl⟩:=hdep 3 rfl;refine g_run (qco rfl (qaq rfl hz)) (qal (qjj _ _ _ _ _ _ (by rw[qab hz'];exact hm u) _ _ _ _ _ _) ?_);refine (hright u (hp.below hbu)).mono ?_;rintro e u' ⟨rfl,hb'⟩;exact⟨_,rfl,_,rfl,hb',rfl⟩
   |5,hi=>cases hi;obtain⟨z,hz,rfl⟩:=hdep 2 rfl;obtain⟨z',hz',rfl⟩:=hdep 4 rfl;exact qggo rfl (qae (v:=.bool true) (w':=u) (by simp[execOp,qab hz,qab hz',asBool]) (qzqq rfl))
   |6,hi=>cases hi;obtain⟨z,hz,rfl⟩:=hdep 5 rfl;exact qggo rfl (qae (by simp[execOp,qab hz]) (qzqq rfl))
   |7,hi=>cases hi;obtain⟨z,hz,rfl⟩:=hdep 6 rfl;exact g_run (qco rfl (qaq rfl hz)) (qae (by simp[execOp,qab ((hk.at 3 rfl).trans rfl)]) (qzqq rfl))
   |8,hi=>cases hi;obtain⟨z,hz,rfl⟩:=hdep 6 rfl;obtain⟨z',hz',rfl⟩:=hdep 7 rfl;refine g_run (qco rfl (qaq rfl hz)) (qal (qbu _ _ _ _ _ _ cf_pac (qab hz') (fun _=>rfl) _ _ _ _ _ _) ?_);refine (hpac u).mono ?_;rintro e u' ⟨rfl,hb'⟩;exact⟨_,rfl,_,rfl,hb',rfl⟩
   |9,hi=>cases hi;obtain⟨z,hz,rfl⟩:=hdep 6 rfl;exact g_run (qco rfl (qaq rfl hz)) (qbg (A.next hbu) _ rfl (qevv hk 1 rfl rfl) (qzqq rfl))
   |10,hi=>cases hi;obtain⟨z,hz,rfl⟩:=hdep 6 rfl;obtain⟨z8,hz8,rfl⟩:=hdep 8 rfl;obtain⟨z9,hz9,rfl⟩:=hdep 9 rfl;refine g_run (qco rfl (qaq rfl hz)) (qal (qak _ _ _ _ _ _ _ _ cf_isame (qab hz8) (qab hz9) (fun _=>rfl) _ _ _ _ _ _) ?_);refine (qiy q p dq d u (hq u (hp.below hbu)) (hp.below hbu)).mono ?_;rintro e u' ⟨rfl,hb'⟩;exact⟨_,rfl,_,rfl,hb',rfl⟩
   |11,hi=>cases hi;obtain⟨z,hz,rfl⟩:=hdep 6 rfl;obtain⟨z',hz',rfl⟩:=hdep 10 rfl;exact qggo rfl (qae (v:=.bool (decide (pv q dq=pv p d))) (w':=u) (by simp[execOp,qab hz,qab hz',asBool]) (qzqq rfl))
   |12,hi=>cases hi;obtain⟨z,hz,rfl⟩:=hdep 11 rfl;exact qggo rfl (qae (by simp[execOp,qab hz]) (qzqq rfl))
   |(_+13),hi=>cases hi
  ·intro vs y3 b3 hG a3 h3;have g12:vs 12=.bool (decide (pv q dq=pv p d)):=hG 12 (by decide);have s2:=qgl h3 rfl 12 rfl rfl;rw[g12] at s2;have hd:=(qim h3).trans (show _ = [] from rfl);clear h3 hG;replace hb:=bel hb b3;go_wp2;refine bodyPost_ret (results_tmp rfl _ _ _) hd ⟨?_,hb⟩;rw[qjl s2];rfl
 |false=>
  refine qaw (by kernel_rfl) rfl (fun i u x=>match i with
   |0 | 3=>u=.iface T v
   |1 | 2=>u=.bool true
   |7 | 8 | 9 | 10=>True
   |_=>u=.bool false) ?_ ?_ ?_
  ·intro i u x x' hx h;exact h
  ·intro i o a u hi hk hbu hdep;replace hdep:=qhdd hdep
   match i,hi with
   |0,hi=>cases hi;exact qggo rfl (qae (by simp[execOp,qab ((hk.at 3 rfl).trans rfl)]) (qzqq rfl))
   |1,hi=>cases hi;obtain⟨z,hz,rfl⟩:=hdep 0 rfl;refine qggo rfl (qae (v:=.bool true) (w':=u) ?_ (qzqq rfl));have ev:a.eval (.const .nilIface)=.nilIface:=rfl;simp only[execOp,qab hz,ev,Sem.run_bind,hne,Result.andThen_ok,Sem.run_pure]
   |2,hi=>cases hi;obtain⟨z,hz,rfl⟩:=hdep 1 rfl;exact qggo rfl (qae (by simp[execOp,qab hz]) (qzqq rfl))
   |3,hi=>cases hi;obtain⟨z,hz,rfl⟩:=hdep 2 rfl;exact g_run (qco rfl (qaq rfl hz)) (qae (by simp[execOp,qab ((hk.at 3 rfl).trans rfl)]) (qzqq rfl))
   |4,hi=>cases hi;obtain⟨z,hz,rfl⟩:=hdep 2 rfl;obtain⟨z',hz',rfl⟩:=hdep 3 rfl;refine g_run (qco rfl (qaq rfl hz)) (qal (qjj _ _ _ _ _ _ (by rw[qab hz'];exact hm u) _ _ _ _ _ _) ?_);refine (hright u (hp.below hbu)).mono ?_;rintro e u' ⟨rfl,hb'⟩;exact⟨_,rfl,_,rfl,hb',rfl⟩
   |5,hi=>cases hi;obtain⟨z,hz,rfl⟩:=hdep 2 rfl;obtain⟨z',hz',rfl⟩:=hdep 4 rfl;exact qggo rfl (qae (v:=.bool false) (w':=u) (by simp[execOp,qab hz,qab hz',asBool]) (qzqq rfl))
   |6,hi=>cases hi;obtain⟨z,hz,rfl⟩:=hdep 5 rfl;exact qggo rfl (qae (by simp[execOp,qab hz]) (qzqq rfl))
   |7,hi=>cases hi;obtain⟨z,hz,rfl⟩:=hdep 6 rfl;exact qdh (qdc rfl (qaq rfl hz)) trivial
   |8,hi=>cases hi;obtain⟨z,hz,rfl⟩:=hdep 6 rfl;exact qdh (qdc rfl (qaq rfl hz)) trivial
   |9,hi=>cases hi;obtain⟨z,hz,rfl⟩:=hdep 6 rfl;exact qdh (qdc rfl (qaq rfl hz)) trivial
   |10,hi=>cases hi;obtain⟨z,hz,rfl⟩:=hdep 6 rfl;exact qdh (qdc rfl (qaq rfl hz)) trivial
   |11,hi=>cases hi;obtain⟨z,hz,rfl⟩:=hdep 6 rfl;have ev:a.eval (.const (.bool false))=.bool false:=rfl;exact qggo rfl (qae (v:=.bool false) (w':=u) (by simp[execOp,qab hz,ev,asBool]) (qzqq rfl))
   |12,hi=>cases hi;obtain⟨z,hz,rfl⟩:=hdep 11 rfl;exact qggo rfl (qae (by simp[execOp,qab hz]) (qzqq rfl))
   |(_+13),hi=>cases hi
  ·intro vs y3 b3 hG a3 h3;have g12:vs 12=.bool false:=hG 12 (by decide);have s2:=qgl h3 rfl 12 rfl rfl;rw[g12] at s2;have hd:=(qim h3).trans (show _ = [] from rfl);clear h3 hG;replace hb:=bel hb b3;go_wp2;refine bodyPost_ret (results_tmp rfl _ _ _) hd ⟨?_,hb⟩;rw[qjl s2];rfl

theorem qdj (v:Pv) (h:1≤v.ty∧v.ty≤14):(v.named.body&&decide (v.named=v))=v.ok:=by
 unfold Pv.ok;rw[qey h.1 h.2,Bool.true_and]
 by_cases e:v.named=v
 ·rw[decide_eq_true e,decide_eq_true e.symm,Bool.and_true,Bool.true_and,e]
 ·rw[decide_eq_false e,decide_eq_false (fun x=>e x.symm),Bool.and_false,Bool.false_and]
theorem ok_off (v:Pv) (h:¬(1≤v.ty∧v.ty≤14)):v.ok=false:=by
 unfold Pv.ok;rw[inB_not.2 h,Bool.false_and]
def Psz (p:Pk) (d:Pd):Prop:=p.top.size≤1048576∧p.cli.size≤1048576∧p.wt.size≤1048576∧p.us.size≤1048576∧(∀x∈d.wan,x.1.size≤1048576)∧(∀s∈d.nam,s.size≤1048576)
theorem W0 (w:World):WRd w none 0 0 []:=⟨⟨rfl,fun i hi=>by omega⟩,Nat.le_refl _,Nat.zero_le _,fun _=>rfl⟩
theorem PRd0 (w:World):PRd w Pk.zero ⟨[],[],[],[],[],[]⟩:=⟨RdIn.nil _,RdIn.nil _,RdIn.nil _,W0 _,SRd.nil _,IRd.nil _⟩
theorem sz_if (c:Bool) (s:ByteArray) (h:s.size≤1048576):(if c then s else ByteArray.empty).size≤1048576:=by
 cases c
 ·exact Nat.zero_le _
 ·exact h
theorem rd_if (c:Bool) (b:Sl) {l:List UInt8} {u:World} (h:RdIn u b.a b.n b.c l):RdIn u (if c then b else noSl).a (if c then b else noSl).n (if c then b else noSl).c (if c then l else []):=by
 cases c
 ·exact RdIn.nil _
 ·exact h
theorem dec_n {n m:Nat} (k:Nat) (h:m=n):decide ((n:Int)≤(k:Int))=decide (m≤k):=decide_eq_decide.2 (by omega)
theorem dec_if (c:Bool) (b:Sl) (l:List UInt8) (k:Nat) (h:l.length=b.n):decide (((if c then b else noSl).n:Int)≤(k:Int))=decide ((if c then l else []).length≤k):=by
 cases c
 ·exact dec_n k rfl
 ·exact dec_n k h
theorem qjn (v:Pv) (h:v.ty=1):v.named = { Pv.zero with ty:=1,lev:=v.lev,cli:=v.cli,cln:=v.cln,kee:=v.kee,hw:=v.hw,wt:=if v.hw then v.wt else ByteArray.empty,wb:=if v.hw then v.wb else [],wq:=if v.hw then v.wq else 0,wr:=if v.hw then v.wr else false,hu:=v.hu,us:=if v.hu then v.us else ByteArray.empty,hp:=v.hu&&v.hp,pa:=if v.hu&&v.hp then v.pa else [] }:=by
 unfold Pv.named;rw[if_pos h,h]
theorem qrg (v:Pv) (h:v.ty=2):v.named = { Pv.zero with ty:=2,cod:=v.cod,pre:=v.pre&&decide (v.cod=0) }:=by
 unfold Pv.named;rw[if_neg (by omega),if_pos h,h]
theorem qpp (v:Pv) (h:v.ty=3):v.named = { Pv.zero with ty:=3,qos:=v.qos,ret:=v.ret,top:=v.top,bod:=v.bod,dup:=if 0<v.qos then v.dup else false,id:=if 0<v.qos then v.id else 0 }:=by
 unfold Pv.named;rw[if_neg (by omega),if_neg (by omega),if_pos h,h]
theorem qfm (v:Pv) (k:Int) (h:v.ty=k) (hk:k=4∨k=5∨k=6∨k=7∨k=11):v.named = { Pv.zero with ty:=k,id:=v.id }:=by
 unfold Pv.named;rw[if_neg (by omega),if_neg (by omega),if_neg (by omega),if_pos (by omega),h]
theorem qtp (v:Pv) (h:v.ty=8):v.named = { Pv.zero with ty:=8,id:=v.id,wan:=v.wan }:=by
 unfold Pv.named;rw[if_neg (by omega),if_neg (by omega),if_neg (by omega),if_neg (by omega),if_pos h,h]
theorem qtq (v:Pv) (h:v.ty=9):v.named = { Pv.zero with ty:=9,id:=v.id,cds:=v.cds }:=by
 unfold Pv.named;rw[if_neg (by omega),if_neg (by omega),if_neg (by omega),if_neg (by omega),if_neg (by omega),if_pos h,h]
theorem qpo (v:Pv) (h:v.ty=10):v.named = { Pv.zero with ty:=10,id:=v.id,nam:=v.nam }:=by
 unfold Pv.named;rw[if_neg (by omega),if_neg (by omega),if_neg (by omega),if_neg (by omega),if_neg (by omega),if_neg (by omega),if_pos h,h]
theorem qjo (v:Pv) (k:Int) (h:v.ty=k) (hk:k=12∨k=13∨k=14):v.named = { Pv.zero with ty:=k }:=by
 unfold Pv.named;rw[if_neg (by omega),if_neg (by omega),if_neg (by omega),if_neg (by omega),if_neg (by omega),if_neg (by omega),if_neg (by omega),h]
theorem nilne (T:TypeId) (v:Value) (u:World) (x y:Operand):(do eqGuard .neq 76 x y (.iface T v) .nilIface;binOp .neq 76 (.iface T v) .nilIface:Sem Value).run Tryz.prog u=.ok (.bool true) u:=by
 kernel_rfl
theorem qpr (p:Pk) (d:Pd) (w:World) (hp:PRd w p d) (hz:Psz p d) (ht:p.ty=1) :
  Calls Tryz.prog 16 #[.agg p.cells] w fun e w'=>e=.returned (.bool (pv p d).ok)∧Below w.heap.size w w':=by
 obtain⟨z1,z2,z3,z4,z5,z6⟩:=hz;have l1:d.bod.length=p.bod.n:=hp.1.1.1;have l2:d.wb.length=p.wb.n:=hp.2.1.1.1;have l3:d.pa.length=p.pa.n:=hp.2.2.1.1.1;have l4:d.wan.length=p.wan.n:=hp.2.2.2.1.1.1;have l5:d.nam.length=p.nam.n:=hp.2.2.2.2.1.1.1;have l6:d.cds.length=p.cds.n:=hp.2.2.2.2.2.1.1;have hty:(pv p d).ty=1:=ht;have hv:pv ({ conP p.lev p.cli p.cln p.kee p.hw (if p.hw then p.wt else ByteArray.empty) (if p.hw then p.wb else noSl) (if p.hw then p.wq else 0) (if p.hw then p.wr else false) p.hu (if p.hu then p.us else ByteArray.empty) (p.hu&&p.hp) (if p.hu&&p.hp then p.pa else noSl) with ty:=1 }) ⟨[],if p.hw then d.wb else [],if p.hu&&p.hp then d.pa else [],[],[],[]⟩ = (pv p d).named:=by
  rw[qjn _ hty];rfl
 have hR:conOk p.lev p.cli p.kee p.hw (if p.hw then p.wt else ByteArray.empty) (if p.hw then p.wb else noSl).n (if p.hw then p.wq else 0) (if p.hu then p.us else ByteArray.empty) (if p.hu&&p.hp then p.pa else noSl).n=(pv p d).named.body:=by
  rw[qjn _ hty];unfold conOk qnm;rw[show (40:Int)=((40:Nat):Int) from rfl,show (60:Int)=((60:Nat):Int) from rfl,dec_if _ _ _ 40 l2,dec_if _ _ _ 60 l3];rfl
 rw[←qdj (pv p d) (by rw[hty];decide),←hR,←hv];exact qen p d w hp 124 (.agg (conOf p)) 228 (.agg (conOf p)) _ ({ conP p.lev p.cli p.cln p.kee p.hw (if p.hw then p.wt else ByteArray.empty) (if p.hw then p.wb else noSl) (if p.hw then p.wq else 0) (if p.hw then p.wr else false) p.hu (if p.hu then p.us else ByteArray.empty) (p.hu&&p.hp) (if p.hu&&p.hp then p.pa else noSl) with ty:=1 }) ⟨[],if p.hw then d.wb else [],if p.hu&&p.hp then d.pa else [],[],[],[]⟩ (fun u=>qft p u ht) (fun u x y=>nilne _ _ u x y) (fun u=>by kernel_rfl) (fun u hu=>right_con _ _ _ _ _ _ _ _ _ _ _ _ _ u z2 (sz_if _ _ z4) (sz_if _ _ z3)) (fun u=>qlm _ _ _ _ _ _ _ _ _ _ _ _ _ u) (fun u hu=>⟨RdIn.nil _,rd_if _ _ hu.2.1,rd_if _ _ hu.2.2.1,W0 _,SRd.nil _,IRd.nil _⟩)
theorem qpq (p:Pk) (d:Pd) (w:World) (hp:PRd w p d) (hz:Psz p d) (ht:p.ty=2) :
  Calls Tryz.prog 16 #[.agg p.cells] w fun e w'=>e=.returned (.bool (pv p d).ok)∧Below w.heap.size w w':=by
 obtain⟨z1,z2,z3,z4,z5,z6⟩:=hz;have l1:d.bod.length=p.bod.n:=hp.1.1.1;have l2:d.wb.length=p.wb.n:=hp.2.1.1.1;have l3:d.pa.length=p.pa.n:=hp.2.2.1.1.1;have l4:d.wan.length=p.wan.n:=hp.2.2.2.1.1.1;have l5:d.nam.length=p.nam.n:=hp.2.2.2.2.1.1.1;have l6:d.cds.length=p.cds.n:=hp.2.2.2.2.2.1.1;have hty:(pv p d).ty=2:=ht;have hv:pv ({ ackP p.cod (p.pre&&decide (p.cod=0)) with ty:=2 }) ⟨[],[],[],[],[],[]⟩ = (pv p d).named:=by
  rw[qrg _ hty];rfl
 have hR:inB p.cod 0 5=(pv p d).named.body:=by
  rw[qrg _ hty];rfl
 rw[←qdj (pv p d) (by rw[hty];decide),←hR,←hv];exact qen p d w hp 127 (.agg #[.int .i64 p.cod,.bool (p.pre&&decide (p.cod=0))]) 236 (.agg #[.int .i64 p.cod,.bool (p.pre&&decide (p.cod=0))]) _ ({ ackP p.cod (p.pre&&decide (p.cod=0)) with ty:=2 }) ⟨[],[],[],[],[],[]⟩ (fun u=>qfs p u ht) (fun u x y=>nilne _ _ u x y) (fun u=>by kernel_rfl) (fun u hu=>right_ack _ _ u) (fun u=>qll _ _ u) (fun u hu=>PRd0 u)
theorem qpu (p:Pk) (d:Pd) (w:World) (hp:PRd w p d) (hz:Psz p d) (ht:p.ty=3) :
  Calls Tryz.prog 16 #[.agg p.cells] w fun e w'=>e=.returned (.bool (pv p d).ok)∧Below w.heap.size w w':=by
 obtain⟨z1,z2,z3,z4,z5,z6⟩:=hz;have l1:d.bod.length=p.bod.n:=hp.1.1.1;have l2:d.wb.length=p.wb.n:=hp.2.1.1.1;have l3:d.pa.length=p.pa.n:=hp.2.2.1.1.1;have l4:d.wan.length=p.wan.n:=hp.2.2.2.1.1.1;have l5:d.nam.length=p.nam.n:=hp.2.2.2.2.1.1.1;have l6:d.cds.length=p.cds.n:=hp.2.2.2.2.2.1.1;have hty:(pv p d).ty=3:=ht;have hv:pv ({ pubP (if 0<p.qos then p.dup else false) p.qos p.ret (if 0<p.qos then p.id else 0) p.top p.bod with ty:=3 }) ⟨d.bod,[],[],[],[],[]⟩ = (pv p d).named:=by
  rw[qpp _ hty];rfl
 have hR:pubOk p.qos (if 0<p.qos then p.id else 0) p.top p.bod.n=(pv p d).named.body:=by
  rw[qpp _ hty];unfold pubOk;rw[show (40:Int)=((40:Nat):Int) from rfl,dec_n 40 l1];rfl
 rw[←qdj (pv p d) (by rw[hty];decide),←hR,←hv];exact qen p d w hp 129 (.agg (pubOf p)) 239 (.agg (pubOf p)) _ ({ pubP (if 0<p.qos then p.dup else false) p.qos p.ret (if 0<p.qos then p.id else 0) p.top p.bod with ty:=3 }) ⟨d.bod,[],[],[],[],[]⟩ (fun u=>qfw p u ht) (fun u x y=>nilne _ _ u x y) (fun u=>by kernel_rfl) (fun u hu=>right_pub _ _ _ _ _ _ u z1) (fun u=>qlp _ _ _ _ _ _ u) (fun u hu=>⟨hu.1,RdIn.nil _,RdIn.nil _,W0 _,SRd.nil _,IRd.nil _⟩)
theorem qqv (p:Pk) (d:Pd) (w:World) (hp:PRd w p d) (hz:Psz p d) (ht:p.ty=4) :
  Calls Tryz.prog 16 #[.agg p.cells] w fun e w'=>e=.returned (.bool (pv p d).ok)∧Below w.heap.size w w':=by
 obtain⟨z1,z2,z3,z4,z5,z6⟩:=hz;have l1:d.bod.length=p.bod.n:=hp.1.1.1;have l2:d.wb.length=p.wb.n:=hp.2.1.1.1;have l3:d.pa.length=p.pa.n:=hp.2.2.1.1.1;have l4:d.wan.length=p.wan.n:=hp.2.2.2.1.1.1;have l5:d.nam.length=p.nam.n:=hp.2.2.2.2.1.1.1;have l6:d.cds.length=p.cds.n:=hp.2.2.2.2.2.1.1;have hty:(pv p d).ty=4:=ht;have hv:pv ({ idP p.id with ty:=4 }) ⟨[],[],[],[],[],[]⟩ = (pv p d).named:=by
  rw[qfm _ 4 hty (by decide)];rfl
 have hR:inB p.id 1 65535=(pv p d).named.body:=by
  rw[qfm _ 4 hty (by decide)];rfl
 rw[←qdj (pv p d) (by rw[hty];decide),←hR,←hv];exact qen p d w hp 134 (.agg #[.int .i64 p.id]) 243 (.agg #[.int .i64 p.id]) _ ({ idP p.id with ty:=4 }) ⟨[],[],[],[],[],[]⟩ (fun u=>qgg p u ht) (fun u x y=>nilne _ _ u x y) (fun u=>by kernel_rfl) (fun u hu=>qlu _ u) (fun u=>qmm _ u) (fun u hu=>PRd0 u)
theorem qqw (p:Pk) (d:Pd) (w:World) (hp:PRd w p d) (hz:Psz p d) (ht:p.ty=5) :
  Calls Tryz.prog 16 #[.agg p.cells] w fun e w'=>e=.returned (.bool (pv p d).ok)∧Below w.heap.size w w':=by
 obtain⟨z1,z2,z3,z4,z5,z6⟩:=hz;have l1:d.bod.length=p.bod.n:=hp.1.1.1;have l2:d.wb.length=p.wb.n:=hp.2.1.1.1;have l3:d.pa.length=p.pa.n:=hp.2.2.1.1.1;have l4:d.wan.length=p.wan.n:=hp.2.2.2.1.1.1;have l5:d.nam.length=p.nam.n:=hp.2.2.2.2.1.1.1;have l6:d.cds.length=p.cds.n:=hp.2.2.2.2.2.1.1;have hty:(pv p d).ty=5:=ht;have hv:pv ({ idP p.id with ty:=5 }) ⟨[],[],[],[],[],[]⟩ = (pv p d).named:=by
  rw[qfm _ 5 hty (by decide)];rfl
 have hR:inB p.id 1 65535=(pv p d).named.body:=by
  rw[qfm _ 5 hty (by decide)];rfl
 rw[←qdj (pv p d) (by rw[hty];decide),←hR,←hv];exact qen p d w hp 135 (.agg #[.int .i64 p.id]) 243 (.agg #[.int .i64 p.id]) _ ({ idP p.id with ty:=5 }) ⟨[],[],[],[],[],[]⟩ (fun u=>qgh p u ht) (fun u x y=>nilne _ _ u x y) (fun u=>by kernel_rfl) (fun u hu=>qlu _ u) (fun u=>qmn _ u) (fun u hu=>PRd0 u)
theorem qqx (p:Pk) (d:Pd) (w:World) (hp:PRd w p d) (hz:Psz p d) (ht:p.ty=6) :
  Calls Tryz.prog 16 #[.agg p.cells] w fun e w'=>e=.returned (.bool (pv p d).ok)∧Below w.heap.size w w':=by
 obtain⟨z1,z2,z3,z4,z5,z6⟩:=hz;have l1:d.bod.length=p.bod.n:=hp.1.1.1;have l2:d.wb.length=p.wb.n:=hp.2.1.1.1;have l3:d.pa.length=p.pa.n:=hp.2.2.1.1.1;have l4:d.wan.length=p.wan.n:=hp.2.2.2.1.1.1;have l5:d.nam.length=p.nam.n:=hp.2.2.2.2.1.1.1;have l6:d.cds.length=p.cds.n:=hp.2.2.2.2.2.1.1;have hty:(pv p d).ty=6:=ht;have hv:pv ({ idP p.id with ty:=6 }) ⟨[],[],[],[],[],[]⟩ = (pv p d).named:=by
  rw[qfm _ 6 hty (by decide)];rfl
 have hR:inB p.id 1 65535=(pv p d).named.body:=by
  rw[qfm _ 6 hty (by decide)];rfl
 rw[←qdj (pv p d) (by rw[hty];decide),←hR,←hv];exact qen p d w hp 136 (.agg #[.int .i64 p.id]) 243 (.agg #[.int .i64 p.id]) _ ({ idP p.id with ty:=6 }) ⟨[],[],[],[],[],[]⟩ (fun u=>qgi p u ht) (fun u x y=>nilne _ _ u x y) (fun u=>by kernel_rfl) (fun u hu=>qlu _ u) (fun u=>qmo _ u) (fun u hu=>PRd0 u)
theorem qpt (p:Pk) (d:Pd) (w:World) (hp:PRd w p d) (hz:Psz p d) (ht:p.ty=7) :
  Calls Tryz.prog 16 #[.agg p.cells] w fun e w'=>e=.returned (.bool (pv p d).ok)∧Below w.heap.size w w':=by
 obtain⟨z1,z2,z3,z4,z5,z6⟩:=hz;have l1:d.bod.length=p.bod.n:=hp.1.1.1;have l2:d.wb.length=p.wb.n:=hp.2.1.1.1;have l3:d.pa.length=p.pa.n:=hp.2.2.1.1.1;have l4:d.wan.length=p.wan.n:=hp.2.2.2.1.1.1;have l5:d.nam.length=p.nam.n:=hp.2.2.2.2.1.1.1;have l6:d.cds.length=p.cds.n:=hp.2.2.2.2.2.1.1;have hty:(pv p d).ty=7:=ht;have hv:pv ({ idP p.id with ty:=7 }) ⟨[],[],[],[],[],[]⟩ = (pv p d).named:=by
  rw[qfm _ 7 hty (by decide)];rfl
 have hR:inB p.id 1 65535=(pv p d).named.body:=by
  rw[qfm _ 7 hty (by decide)];rfl
 rw[←qdj (pv p d) (by rw[hty];decide),←hR,←hv];exact qen p d w hp 137 (.agg #[.int .i64 p.id]) 243 (.agg #[.int .i64 p.id]) _ ({ idP p.id with ty:=7 }) ⟨[],[],[],[],[],[]⟩ (fun u=>qfv p u ht) (fun u x y=>nilne _ _ u x y) (fun u=>by kernel_rfl) (fun u hu=>qlu _ u) (fun u=>qlo _ u) (fun u hu=>PRd0 u)
theorem qml (p:Pk) (d:Pd) (w:World) (hp:PRd w p d) (hz:Psz p d) (ht:p.ty=8) :
  Calls Tryz.prog 16 #[.agg p.cells] w fun e w'=>e=.returned (.bool (pv p d).ok)∧Below w.heap.size w w':=by
 obtain⟨z1,z2,z3,z4,z5,z6⟩:=hz;have l1:d.bod.length=p.bod.n:=hp.1.1.1;have l2:d.wb.length=p.wb.n:=hp.2.1.1.1;have l3:d.pa.length=p.pa.n:=hp.2.2.1.1.1;have l4:d.wan.length=p.wan.n:=hp.2.2.2.1.1.1;have l5:d.nam.length=p.nam.n:=hp.2.2.2.2.1.1.1;have l6:d.cds.length=p.cds.n:=hp.2.2.2.2.2.1.1;have hty:(pv p d).ty=8:=ht;have hv:pv ({ subP p.id p.wan with ty:=8 }) ⟨[],[],[],d.wan,[],[]⟩ = (pv p d).named:=by
  rw[qtp _ hty];rfl
 have hR:(inB p.id 1 65535&&(d.wan.all qcm&&inB p.wan.n 1 4))=(pv p d).named.body:=by
  rw[qtp _ hty];show _=(d.wan.all qcm&&(inB p.id 1 65535&&inB (d.wan.length:Int) 1 4));rw[l4];cases inB p.id 1 65535<;>simp
 rw[←qdj (pv p d) (by rw[hty];decide),←hR,←hv];exact qen p d w hp 139 (.agg #[.int .i64 p.id,.slice p.wan.a p.wan.n p.wan.c]) 246 (.agg #[.int .i64 p.id,.slice p.wan.a p.wan.n p.wan.c]) _ ({ subP p.id p.wan with ty:=8 }) ⟨[],[],[],d.wan,[],[]⟩ (fun u=>qel p u ht) (fun u x y=>nilne _ _ u x y) (fun u=>by kernel_rfl) (fun u hu=>qqa _ _ _ u hu.2.2.2.1 z5) (fun u=>qkf _ _ u) (fun u hu=>⟨RdIn.nil _,RdIn.nil _,RdIn.nil _,hu.2.2.2.1,SRd.nil _,IRd.nil _⟩)
theorem qqy (p:Pk) (d:Pd) (w:World) (hp:PRd w p d) (hz:Psz p d) (ht:p.ty=9) :
  Calls Tryz.prog 16 #[.agg p.cells] w fun e w'=>e=.returned (.bool (pv p d).ok)∧Below w.heap.size w w':=by
 obtain⟨z1,z2,z3,z4,z5,z6⟩:=hz;have l1:d.bod.length=p.bod.n:=hp.1.1.1;have l2:d.wb.length=p.wb.n:=hp.2.1.1.1;have l3:d.pa.length=p.pa.n:=hp.2.2.1.1.1;have l4:d.wan.length=p.wan.n:=hp.2.2.2.1.1.1;have l5:d.nam.length=p.nam.n:=hp.2.2.2.2.1.1.1;have l6:d.cds.length=p.cds.n:=hp.2.2.2.2.2.1.1;have hty:(pv p d).ty=9:=ht;have hv:pv ({ sackP p.id p.cds with ty:=9 }) ⟨[],[],[],[],[],d.cds⟩ = (pv p d).named:=by
  rw[qtq _ hty];rfl
 have hR:(inB p.id 1 65535&&(d.cds.all qci&&inB p.cds.n 1 4))=(pv p d).named.body:=by
  rw[qtq _ hty];show _=(d.cds.all qci&&(inB p.id 1 65535&&inB (d.cds.length:Int) 1 4));rw[l6];cases inB p.id 1 65535<;>simp
 rw[←qdj (pv p d) (by rw[hty];decide),←hR,←hv];exact qen p d w hp 141 (.agg #[.int .i64 p.id,.slice p.cds.a p.cds.n p.cds.c]) 254 (.agg #[.int .i64 p.id,.slice p.cds.a p.cds.n p.cds.c]) _ ({ sackP p.id p.cds with ty:=9 }) ⟨[],[],[],[],[],d.cds⟩ (fun u=>qgj p u ht) (fun u x y=>nilne _ _ u x y) (fun u=>by kernel_rfl) (fun u hu=>qtw _ _ _ u hu.2.2.2.2.2) (fun u=>qmp _ _ u) (fun u hu=>⟨RdIn.nil _,RdIn.nil _,RdIn.nil _,W0 _,SRd.nil _,hu.2.2.2.2.2⟩)
theorem qks (p:Pk) (d:Pd) (w:World) (hp:PRd w p d) (hz:Psz p d) (ht:p.ty=10) :
  Calls Tryz.prog 16 #[.agg p.cells] w fun e w'=>e=.returned (.bool (pv p d).ok)∧Below w.heap.size w w':=by
 obtain⟨z1,z2,z3,z4,z5,z6⟩:=hz;have l1:d.bod.length=p.bod.n:=hp.1.1.1;have l2:d.wb.length=p.wb.n:=hp.2.1.1.1;have l3:d.pa.length=p.pa.n:=hp.2.2.1.1.1;have l4:d.wan.length=p.wan.n:=hp.2.2.2.1.1.1;have l5:d.nam.length=p.nam.n:=hp.2.2.2.2.1.1.1;have l6:d.cds.length=p.cds.n:=hp.2.2.2.2.2.1.1;have hty:(pv p d).ty=10:=ht;have hv:pv ({ unsP p.id p.nam with ty:=10 }) ⟨[],[],[],[],d.nam,[]⟩ = (pv p d).named:=by
  rw[qpo _ hty];rfl
 have hR:(inB p.id 1 65535&&(d.nam.all flt&&inB p.nam.n 1 4))=(pv p d).named.body:=by
  rw[qpo _ hty];show _=(d.nam.all flt&&(inB p.id 1 65535&&inB (d.nam.length:Int) 1 4));rw[l5];cases inB p.id 1 65535<;>simp
 rw[←qdj (pv p d) (by rw[hty];decide),←hR,←hv];exact qen p d w hp 143 (.agg #[.int .i64 p.id,.slice p.nam.a p.nam.n p.nam.c]) 260 (.agg #[.int .i64 p.id,.slice p.nam.a p.nam.n p.nam.c]) _ ({ unsP p.id p.nam with ty:=10 }) ⟨[],[],[],[],d.nam,[]⟩ (fun u=>qdr p u ht) (fun u x y=>nilne _ _ u x y) (fun u=>by kernel_rfl) (fun u hu=>qms _ _ _ u hu.2.2.2.2.1 z6) (fun u=>qje _ _ u) (fun u hu=>⟨RdIn.nil _,RdIn.nil _,RdIn.nil _,W0 _,hu.2.2.2.2.1,IRd.nil _⟩)
theorem qny (p:Pk) (d:Pd) (w:World) (hp:PRd w p d) (hz:Psz p d) (ht:p.ty=11) :
  Calls Tryz.prog 16 #[.agg p.cells] w fun e w'=>e=.returned (.bool (pv p d).ok)∧Below w.heap.size w w':=by
 obtain⟨z1,z2,z3,z4,z5,z6⟩:=hz;have l1:d.bod.length=p.bod.n:=hp.1.1.1;have l2:d.wb.length=p.wb.n:=hp.2.1.1.1;have l3:d.pa.length=p.pa.n:=hp.2.2.1.1.1;have l4:d.wan.length=p.wan.n:=hp.2.2.2.1.1.1;have l5:d.nam.length=p.nam.n:=hp.2.2.2.2.1.1.1;have l6:d.cds.length=p.cds.n:=hp.2.2.2.2.2.1.1;have hty:(pv p d).ty=11:=ht;have hv:pv ({ idP p.id with ty:=11 }) ⟨[],[],[],[],[],[]⟩ = (pv p d).named:=by
  rw[qfm _ 11 hty (by decide)];rfl
 have hR:inB p.id 1 65535=(pv p d).named.body:=by
  rw[qfm _ 11 hty (by decide)];rfl
 rw[←qdj (pv p d) (by rw[hty];decide),←hR,←hv];exact qen p d w hp 144 (.agg #[.int .i64 p.id]) 243 (.agg #[.int .i64 p.id]) _ ({ idP p.id with ty:=11 }) ⟨[],[],[],[],[],[]⟩ (fun u=>qfb p u ht) (fun u x y=>nilne _ _ u x y) (fun u=>by kernel_rfl) (fun u hu=>qlu _ u) (fun u=>qku _ u) (fun u hu=>PRd0 u)
theorem qps (p:Pk) (d:Pd) (w:World) (hp:PRd w p d) (hz:Psz p d) (ht:p.ty=12) :
  Calls Tryz.prog 16 #[.agg p.cells] w fun e w'=>e=.returned (.bool (pv p d).ok)∧Below w.heap.size w w':=by
 obtain⟨z1,z2,z3,z4,z5,z6⟩:=hz;have l1:d.bod.length=p.bod.n:=hp.1.1.1;have l2:d.wb.length=p.wb.n:=hp.2.1.1.1;have l3:d.pa.length=p.pa.n:=hp.2.2.1.1.1;have l4:d.wan.length=p.wan.n:=hp.2.2.2.1.1.1;have l5:d.nam.length=p.nam.n:=hp.2.2.2.2.1.1.1;have l6:d.cds.length=p.cds.n:=hp.2.2.2.2.2.1.1;have hty:(pv p d).ty=12:=ht;have hv:pv ({ noP with ty:=12 }) ⟨[],[],[],[],[],[]⟩ = (pv p d).named:=by
  rw[qjo _ 12 hty (by decide)];rfl
 have hR:true=(pv p d).named.body:=by
  rw[qjo _ 12 hty (by decide)];rfl
 rw[←qdj (pv p d) (by rw[hty];decide),←hR,←hv];exact qen p d w hp 148 (.agg #[]) 265 (.agg #[]) _ ({ noP with ty:=12 }) ⟨[],[],[],[],[],[]⟩ (fun u=>qfu p u ht) (fun u x y=>nilne _ _ u x y) (fun u=>by kernel_rfl) (fun u hu=>qsk u) (fun u=>qln u) (fun u hu=>PRd0 u)
theorem qnx (p:Pk) (d:Pd) (w:World) (hp:PRd w p d) (hz:Psz p d) (ht:p.ty=13) :
  Calls Tryz.prog 16 #[.agg p.cells] w fun e w'=>e=.returned (.bool (pv p d).ok)∧Below w.heap.size w w':=by
 obtain⟨z1,z2,z3,z4,z5,z6⟩:=hz;have l1:d.bod.length=p.bod.n:=hp.1.1.1;have l2:d.wb.length=p.wb.n:=hp.2.1.1.1;have l3:d.pa.length=p.pa.n:=hp.2.2.1.1.1;have l4:d.wan.length=p.wan.n:=hp.2.2.2.1.1.1;have l5:d.nam.length=p.nam.n:=hp.2.2.2.2.1.1.1;have l6:d.cds.length=p.cds.n:=hp.2.2.2.2.2.1.1;have hty:(pv p d).ty=13:=ht;have hv:pv ({ noP with ty:=13 }) ⟨[],[],[],[],[],[]⟩ = (pv p d).named:=by
  rw[qjo _ 13 hty (by decide)];rfl
 have hR:true=(pv p d).named.body:=by
  rw[qjo _ 13 hty (by decide)];rfl
 rw[←qdj (pv p d) (by rw[hty];decide),←hR,←hv];exact qen p d w hp 149 (.agg #[]) 265 (.agg #[]) _ ({ noP with ty:=13 }) ⟨[],[],[],[],[],[]⟩ (fun u=>qfa p u ht) (fun u x y=>nilne _ _ u x y) (fun u=>by kernel_rfl) (fun u hu=>qsk u) (fun u=>qkt u) (fun u hu=>PRd0 u)
theorem qlj (p:Pk) (d:Pd) (w:World) (hp:PRd w p d) (hz:Psz p d) (ht:p.ty=14) :
  Calls Tryz.prog 16 #[.agg p.cells] w fun e w'=>e=.returned (.bool (pv p d).ok)∧Below w.heap.size w w':=by
 obtain⟨z1,z2,z3,z4,z5,z6⟩:=hz;have l1:d.bod.length=p.bod.n:=hp.1.1.1;have l2:d.wb.length=p.wb.n:=hp.2.1.1.1;have l3:d.pa.length=p.pa.n:=hp.2.2.1.1.1;have l4:d.wan.length=p.wan.n:=hp.2.2.2.1.1.1;have l5:d.nam.length=p.nam.n:=hp.2.2.2.2.1.1.1;have l6:d.cds.length=p.cds.n:=hp.2.2.2.2.2.1.1;have hty:(pv p d).ty=14:=ht;have hv:pv ({ noP with ty:=14 }) ⟨[],[],[],[],[],[]⟩ = (pv p d).named:=by
  rw[qjo _ 14 hty (by decide)];rfl
 have hR:true=(pv p d).named.body:=by
  rw[qjo _ 14 hty (by decide)];rfl
 rw[←qdj (pv p d) (by rw[hty];decide),←hR,←hv];exact qen p d w hp 150 (.agg #[]) 265 (.agg #[]) _ ({ noP with ty:=14 }) ⟨[],[],[],[],[],[]⟩ (fun u=>qdx p u ht) (fun u x y=>nilne _ _ u x y) (fun u=>by kernel_rfl) (fun u hu=>qsk u) (fun u=>qjq u) (fun u hu=>PRd0 u)
theorem okp_none (p:Pk) (d:Pd) (w:World) (ht:¬(1≤p.ty∧p.ty≤14)) :
  Calls Tryz.prog 16 #[.agg p.cells] w fun e w'=>e=.returned (.bool (pv p d).ok)∧Below w.heap.size w w':=by
 rw[ok_off (pv p d) ht];have hb:Below w.heap.size w (w.alloc (.cells p.cells 28)):=qac _ _;have A:Blk (w.alloc (.cells p.cells 28)) w.heap.size p:=heap_alloc_new _ _;go_enter Tryz.func16,Tryz.ntmps16;go_wp2_with (first | refine qaj A rfl _ rfl rfl ?_ | fail)
 refine (qti p _ ht).mono ?_;rintro e y ⟨rfl,b1⟩;replace hb:=bel hb b1;clear b1 A ht;go_wp2;refine qaw (by kernel_rfl) rfl (fun i u x=>match i with
   |0=>u=.nilIface
   |1 | 2 | 5 | 6 | 11 | 12=>u=.bool false
   |_=>True) ?_ ?_ ?_
 ·intro i u x x' hx h;exact h
 ·intro i o a u hi hk hbu hdep;replace hdep:=qhdd hdep
  match i,hi with
  |0,hi=>cases hi;exact qggo rfl (qae (by simp[execOp,qab ((hk.at 3 rfl).trans rfl)]) (qzqq rfl))
  |1,hi=>
   cases hi;obtain⟨z,hz,rfl⟩:=hdep 0 rfl;have ev:a.eval (.const .nilIface)=.nilIface:=rfl;have hn:(do eqGuard .neq 76 (.tmp 6) (.const .nilIface) .nilIface .nilIface;binOp .neq 76 .nilIface .nilIface:Sem Value).run Tryz.prog u=.ok (.bool false) u:=by kernel_rfl
   refine qggo rfl (qae (v:=.bool false) (w':=u) ?_ (qzqq rfl));simp only[execOp,qab hz,ev,Sem.run_bind,hn,Result.andThen_ok,Sem.run_pure]
  |2,hi=>cases hi;obtain⟨z,hz,rfl⟩:=hdep 1 rfl;exact qggo rfl (qae (by simp[execOp,qab hz]) (qzqq rfl))
  |3,hi=>cases hi;obtain⟨z,hz,rfl⟩:=hdep 2 rfl;exact qdh (qdc rfl (qaq rfl hz)) trivial
  |4,hi=>cases hi;obtain⟨z,hz,rfl⟩:=hdep 2 rfl;exact qdh (qdc rfl (qaq rfl hz)) trivial
  |7,hi=>cases hi;obtain⟨z,hz,rfl⟩:=hdep 6 rfl;exact qdh (qdc rfl (qaq rfl hz)) trivial
  |8,hi=>cases hi;obtain⟨z,hz,rfl⟩:=hdep 6 rfl;exact qdh (qdc rfl (qaq rfl hz)) trivial
  |9,hi=>cases hi;obtain⟨z,hz,rfl⟩:=hdep 6 rfl;exact qdh (qdc rfl (qaq rfl hz)) trivial
  |10,hi=>cases hi;obtain⟨z,hz,rfl⟩:=hdep 6 rfl;exact qdh (qdc rfl (qaq rfl hz)) trivial
  |5,hi=>cases hi;obtain⟨z,hz,rfl⟩:=hdep 2 rfl;have ev:a.eval (.const (.bool false))=.bool false:=rfl;exact qggo rfl (qae (v:=.bool false) (w':=u) (by simp[execOp,qab hz,ev,asBool]) (qzqq rfl))
  |11,hi=>cases hi;obtain⟨z,hz,rfl⟩:=hdep 6 rfl;have ev:a.eval (.const (.bool false))=.bool false:=rfl;exact qggo rfl (qae (v:=.bool false) (w':=u) (by simp[execOp,qab hz,ev,asBool]) (qzqq rfl))
  |6,hi=>cases hi;obtain⟨z,hz,rfl⟩:=hdep 5 rfl;exact qggo rfl (qae (by simp[execOp,qab hz]) (qzqq rfl))
  |12,hi=>cases hi;obtain⟨z,hz,rfl⟩:=hdep 11 rfl;exact qggo rfl (qae (by simp[execOp,qab hz]) (qzqq rfl))
  |(_+13),hi=>cases hi
 ·intro vs y3 b3 hG a3 h3;have g12:vs 12=.bool false:=hG 12 (by decide);have s2:=qgl h3 rfl 12 rfl rfl;rw[g12] at s2;have hd:=(qim h3).trans (show _ = [] from rfl);clear h3 hG;replace hb:=bel hb b3;go_wp2;refine bodyPost_ret (results_tmp rfl _ _ _) hd ⟨?_,hb⟩;rw[qjl s2]
theorem qnh (p:Pk) (d:Pd) (w:World) (hp:PRd w p d) (hz:Psz p d) :
  Calls Tryz.prog 16 #[.agg p.cells] w fun e w'=>e=.returned (.bool (pv p d).ok)∧Below w.heap.size w w':=by
 by_cases h:1≤p.ty∧p.ty≤14
 rotate_left
 ·exact okp_none p d w h
 have h14:p.ty=1∨p.ty=2∨p.ty=3∨p.ty=4∨p.ty=5∨p.ty=6∨p.ty=7∨p.ty=8∨p.ty=9∨p.ty=10∨p.ty=11∨p.ty=12∨p.ty=13∨p.ty=14:=by omega
 rcases h14 with ht | ht | ht | ht | ht | ht | ht | ht | ht | ht | ht | ht | ht | ht
 ·exact qpr p d w hp hz ht
 ·exact qpq p d w hp hz ht
 ·exact qpu p d w hp hz ht
 ·exact qqv p d w hp hz ht
 ·exact qqw p d w hp hz ht
 ·exact qqx p d w hp hz ht
 ·exact qpt p d w hp hz ht
 ·exact qml p d w hp hz ht
 ·exact qqy p d w hp hz ht
 ·exact qks p d w hp hz ht
 ·exact qny p d w hp hz ht
 ·exact qps p d w hp hz ht
 ·exact qnx p d w hp hz ht
 ·exact qlj p d w hp hz ht
