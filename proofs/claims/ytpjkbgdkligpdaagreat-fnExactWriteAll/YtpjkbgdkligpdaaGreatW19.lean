/- Lemmas. -/
import Derived.Test.YtpjkbgdkligpdaaGreatW14
import Derived.Test.YtpjkbgdkligpdaaGreatW17
import Derived.Test.YtpjkbgdkligpdaaGreatW18
set_option linter.unusedVariables false
set_option linter.unusedSimpArgs false
set_option maxRecDepth 100000
set_option maxHeartbeats 20000000
namespace Go.Proofs.YtpjkbgdkligpdaaGreat
open Go.RowKit

theorem qfl (P:Program) (u:World) (ρ:Operand→Value) (x:Operand) (name:String) (r:Result Next) (hm:(callMethod (ρ x) name #[]).run P u=r) (d:Option Tmp) (t:TypeId) (p:String) (e:Array Edge) (g:Option (Nat×Bool)) (ts:Array TypeId) :
  (execOp ρ ⟨d,.call { callee:=.invoke x name,args:=#[],argTypes:=ts },t,p,e,g⟩).run P u=r:=by
 rw[←hm];simp[execOp,resolve,invoke]
theorem cf_pac (xs:Array Value) (u:World):(callFunc 55 xs).run Tryz.prog u=.ok (.enter 55 xs) u:=by kernel_rfl
theorem cf_isame (xs:Array Value) (u:World):(callFunc 54 xs).run Tryz.prog u=.ok (.enter 54 xs) u:=by kernel_rfl
abbrev rightN : String := "loop.example/g00480/impl.right"
theorem qcr (p:Pk) (d:Pd) (w:World) (hp:PRd w p d) (T:TypeId) (v:Value) (fR:FuncId) (rv:Value) (R:Bool) (q:Pk) (dq:Pd)
  (hkind:∀u:World,Calls Tryz.prog 35 #[.agg p.cells] u fun e u'=>e=.returned (.iface T v)∧Below u.heap.size u u')
  (hne:∀(u:World) (x y:Operand),(do eqGuard .neq 62 x y (.iface T v) .nilIface;binOp .neq 62 (.iface T v) .nilIface:Sem Value).run Tryz.prog u=.ok (.bool true) u)
  (hm:∀u:World,(callMethod (.iface T v) rightN #[]).run Tryz.prog u=.ok (.enter fR #[rv]) u)
  (hright:∀u:World,PRd u p d→Calls Tryz.prog fR #[rv] u fun e u'=>e=.returned (.bool R)∧Below u.heap.size u u')
  (hpac:∀u:World,Calls Tryz.prog 55 #[.iface T v] u fun e u'=>e=.returned (.agg q.cells)∧Below u.heap.size u u')
  (hq:∀u:World,PRd u p d→PRd u q dq) :
  Calls Tryz.prog 34 #[.agg p.cells] w fun e w'=>e=.returned (.bool (R&&decide (pv q dq=pv p d)))∧Below w.heap.size w w':=by
 have hb:Below w.heap.size w (w.alloc (.cells p.cells 32)):=qae _ _;have A:Blk (w.alloc (.cells p.cells 32)) w.heap.size p:=heap_alloc_new _ _;replace hp:=hp.below hb;go_enter Tryz.func34,Tryz.ntmps34;go_wp2_with (first | refine qap A rfl _ rfl rfl ?_ | fail)
 refine (hkind _).mono ?_;rintro e y ⟨rfl,b1⟩;replace hb:=bel hb b1;replace A:=A.next b1;replace hp:=hp.below b1;clear b1;go_wp2;cases R with
 |true=>
  refine qar (by kernel_rfl) rfl (fun i u x=>match i with
   |0 | 3 | 7=>u=.iface T v
   |8=>u=.agg q.cells
   |9=>u=.agg p.cells
   |10 | 11 | 12=>u=.bool (decide (pv q dq=pv p d))
   |_=>u=.bool true) ?_ ?_ ?_
  ·intro i u x x' hx h;exact h
  ·intro i o a u hi hk hbu hdep
   match i,hi with
   |0,hi=>cases hi;exact g_run (qaa rfl _) (qad (by simp[execOp,qab ((hk.at 3 rfl).trans rfl)]) ⟨_,rfl,Below.refl _ _,rfl⟩)
   |1,hi=>
    cases hi;obtain⟨z,hz,rfl⟩:=hdep 0 _ _ rfl rfl rfl;refine g_run (qaa rfl _) (qad (v:=.bool true) (w':=u) ?_ ⟨_,rfl,Below.refl _ _,rfl⟩);have ev:a.eval (.const .nilIface)=.nilIface:=rfl;simp only[execOp,qab hz,ev,Sem.run_bind,hne,Result.andThen_ok,Sem.run_pure]
   |2,hi=>
    cases hi;obtain⟨z,hz,rfl⟩:=hdep 1 _ _ rfl rfl rfl;exact g_run (qaa rfl _) (qad (by simp[execOp,qab hz]) ⟨_,rfl,Below.refl _ _,rfl⟩)
   |3,hi=>
    cases hi;obtain⟨z,hz,rfl⟩:=hdep 2 _ _ rfl rfl rfl;exact g_run (qbo rfl (qao rfl hz)) (qad (by simp[execOp,qab ((hk.at 3 rfl).trans rfl)]) ⟨_,rfl,Below.refl _ _,rfl⟩)
   |4,hi=>
    cases hi;obtain⟨z,hz,rfl⟩:=hdep 2 _ _ rfl rfl rfl;obtain⟨z',hz',rfl⟩:=hdep 3 _ _ rfl rfl rfl;refine g_run (qbo rfl (qao rfl hz)) (qaj (qfl _ _ _ _ _ _ (by rw[qab hz'];exact hm u) _ _ _ _ _ _) ?_);refine (hright u (hp.below hbu)).mono ?_;rintro e u' ⟨rfl,hb'⟩;exact⟨_,rfl,_,rfl,hb',rfl⟩
   |5,hi=>
    cases hi;obtain⟨z,hz,rfl⟩:=hdep 2 _ _ rfl rfl rfl;obtain⟨z',hz',rfl⟩:=hdep 4 _ _ rfl rfl rfl;exact g_run (qaa rfl _) (qad (v:=.bool true) (w':=u) (by simp[execOp,qab hz,qab hz',asBool]) ⟨_,rfl,Below.refl _ _,rfl⟩)
   |6,hi=>
    cases hi;obtain⟨z,hz,rfl⟩:=hdep 5 _ _ rfl rfl rfl;exact g_run (qaa rfl _) (qad (by simp[execOp,qab hz]) ⟨_,rfl,Below.refl _ _,rfl⟩)
   |7,hi=>
    cases hi;obtain⟨z,hz,rfl⟩:=hdep 6 _ _ rfl rfl rfl;exact g_run (qbo rfl (qao rfl hz)) (qad (by simp[execOp,qab ((hk.at 3 rfl).trans rfl)]) ⟨_,rfl,Below.refl _ _,rfl⟩)
   |8,hi=>
    cases hi;obtain⟨z,hz,rfl⟩:=hdep 6 _ _ rfl rfl rfl;obtain⟨z',hz',rfl⟩:=hdep 7 _ _ rfl rfl rfl;refine g_run (qbo rfl (qao rfl hz)) (qaj (qbt _ _ _ _ _ _ cf_pac (qab hz') (fun _=>rfl) _ _ _ _ _ _) ?_);refine (hpac u).mono ?_;rintro e u' ⟨rfl,hb'⟩;exact⟨_,rfl,_,rfl,hb',rfl⟩
   |9,hi=>
    cases hi;obtain⟨z,hz,rfl⟩:=hdep 6 _ _ rfl rfl rfl;exact g_run (qbo rfl (qao rfl hz)) (qbk (A.next hbu) _ rfl (qab ((hk.at 1 rfl).trans rfl)) ⟨_,rfl,Below.refl _ _,rfl⟩)
   |10,hi=>
    cases hi;obtain⟨z,hz,rfl⟩:=hdep 6 _ _ rfl rfl rfl;obtain⟨z8,hz8,rfl⟩:=hdep 8 _ _ rfl rfl rfl;obtain⟨z9,hz9,rfl⟩:=hdep 9 _ _ rfl rfl rfl;refine g_run (qbo rfl (qao rfl hz)) (qaj (qag _ _ _ _ _ _ _ _ cf_isame (qab hz8) (qab hz9) (fun _=>rfl) _ _ _ _ _ _) ?_);refine (qjv q p dq d u (hq u (hp.below hbu)) (hp.below hbu)).mono ?_;rintro e u' ⟨rfl,hb'⟩;exact⟨_,rfl,_,rfl,hb',rfl⟩
   |11,hi=>
    cases hi;obtain⟨z,hz,rfl⟩:=hdep 6 _ _ rfl rfl rfl;obtain⟨z',hz',rfl⟩:=hdep 10 _ _ rfl rfl rfl;exact g_run (qaa rfl _) (qad (v:=.bool (decide (pv q dq=pv p d))) (w':=u) (by simp[execOp,qab hz,qab hz',asBool]) ⟨_,rfl,Below.refl _ _,rfl⟩)
   |12,hi=>
    cases hi;obtain⟨z,hz,rfl⟩:=hdep 11 _ _ rfl rfl rfl;exact g_run (qaa rfl _) (qad (by simp[execOp,qab hz]) ⟨_,rfl,Below.refl _ _,rfl⟩)
   |(_+13),hi=>cases hi
  ·intro vs y3 b3 hG a3 h3;have g12:vs 12=.bool (decide (pv q dq=pv p d)):=hG 12 (by decide);have s2:=qej h3 rfl 12 rfl rfl;rw[g12] at s2;have hd:=(qgh h3).trans (show _ = [] from rfl);clear h3 hG;replace hb:=bel hb b3;go_wp2;refine bodyPost_ret (results_tmp rfl _ _ _) hd ⟨?_,hb⟩;rw[qgs s2];rfl
 |false=>
  refine qar (by kernel_rfl) rfl (fun i u x=>match i with
   |0 | 3=>u=.iface T v
   |1 | 2=>u=.bool true
   |7 | 8 | 9 | 10=>True
   |_=>u=.bool false) ?_ ?_ ?_
  ·intro i u x x' hx h;exact h
  ·intro i o a u hi hk hbu hdep
   match i,hi with
   |0,hi=>cases hi;exact g_run (qaa rfl _) (qad (by simp[execOp,qab ((hk.at 3 rfl).trans rfl)]) ⟨_,rfl,Below.refl _ _,rfl⟩)
   |1,hi=>
    cases hi;obtain⟨z,hz,rfl⟩:=hdep 0 _ _ rfl rfl rfl;refine g_run (qaa rfl _) (qad (v:=.bool true) (w':=u) ?_ ⟨_,rfl,Below.refl _ _,rfl⟩);have ev:a.eval (.const .nilIface)=.nilIface:=rfl;simp only[execOp,qab hz,ev,Sem.run_bind,hne,Result.andThen_ok,Sem.run_pure]
   |2,hi=>
    cases hi;obtain⟨z,hz,rfl⟩:=hdep 1 _ _ rfl rfl rfl;exact g_run (qaa rfl _) (qad (by simp[execOp,qab hz]) ⟨_,rfl,Below.refl _ _,rfl⟩)
   |3,hi=>
    cases hi;obtain⟨z,hz,rfl⟩:=hdep 2 _ _ rfl rfl rfl;exact g_run (qbo rfl (qao rfl hz)) (qad (by simp[execOp,qab ((hk.at 3 rfl).trans rfl)]) ⟨_,rfl,Below.refl _ _,rfl⟩)
   |4,hi=>
    cases hi;obtain⟨z,hz,rfl⟩:=hdep 2 _ _ rfl rfl rfl;obtain⟨z',hz',rfl⟩:=hdep 3 _ _ rfl rfl rfl;refine g_run (qbo rfl (qao rfl hz)) (qaj (qfl _ _ _ _ _ _ (by rw[qab hz'];exact hm u) _ _ _ _ _ _) ?_);refine (hright u (hp.below hbu)).mono ?_;rintro e u' ⟨rfl,hb'⟩;exact⟨_,rfl,_,rfl,hb',rfl⟩
   |5,hi=>
    cases hi;obtain⟨z,hz,rfl⟩:=hdep 2 _ _ rfl rfl rfl;obtain⟨z',hz',rfl⟩:=hdep 4 _ _ rfl rfl rfl;exact g_run (qaa rfl _) (qad (v:=.bool false) (w':=u) (by simp[execOp,qab hz,qab hz',asBool]) ⟨_,rfl,Below.refl _ _,rfl⟩)
   |6,hi=>
    cases hi;obtain⟨z,hz,rfl⟩:=hdep 5 _ _ rfl rfl rfl;exact g_run (qaa rfl _) (qad (by simp[execOp,qab hz]) ⟨_,rfl,Below.refl _ _,rfl⟩)
   |7,hi=>
    cases hi;obtain⟨z,hz,rfl⟩:=hdep 6 _ _ rfl rfl rfl;exact qdl (qbz rfl (qao rfl hz)) trivial
   |8,hi=>
    cases hi;obtain⟨z,hz,rfl⟩:=hdep 6 _ _ rfl rfl rfl;exact qdl (qbz rfl (qao rfl hz)) trivial
   |9,hi=>
    cases hi;obtain⟨z,hz,rfl⟩:=hdep 6 _ _ rfl rfl rfl;exact qdl (qbz rfl (qao rfl hz)) trivial
   |10,hi=>
    cases hi;obtain⟨z,hz,rfl⟩:=hdep 6 _ _ rfl rfl rfl;exact qdl (qbz rfl (qao rfl hz)) trivial
   |11,hi=>
    cases hi;obtain⟨z,hz,rfl⟩:=hdep 6 _ _ rfl rfl rfl;have ev:a.eval (.const (.bool false))=.bool false:=rfl;exact g_run (qaa rfl _) (qad (v:=.bool false) (w':=u) (by simp[execOp,qab hz,ev,asBool]) ⟨_,rfl,Below.refl _ _,rfl⟩)
   |12,hi=>
    cases hi;obtain⟨z,hz,rfl⟩:=hdep 11 _ _ rfl rfl rfl;exact g_run (qaa rfl _) (qad (by simp[execOp,qab hz]) ⟨_,rfl,Below.refl _ _,rfl⟩)
   |(_+13),hi=>cases hi
  ·intro vs y3 b3 hG a3 h3;have g12:vs 12=.bool false:=hG 12 (by decide);have s2:=qej h3 rfl 12 rfl rfl;rw[g12] at s2;have hd:=(qgh h3).trans (show _ = [] from rfl);clear h3 hG;replace hb:=bel hb b3;go_wp2;refine bodyPost_ret (results_tmp rfl _ _ _) hd ⟨?_,hb⟩;rw[qgs s2];rfl

theorem qcd (v:Pv) (h:1≤v.ty∧v.ty≤14):(v.named.body&&decide (v.named=v))=v.ok:=by
 unfold Pv.ok;rw[qdx h.1 h.2,Bool.true_and]
 by_cases e:v.named=v
 ·rw[decide_eq_true e,decide_eq_true e.symm,Bool.and_true,Bool.true_and,e]
 ·rw[decide_eq_false e,decide_eq_false (fun x=>e x.symm),Bool.and_false,Bool.false_and]
theorem ok_off (v:Pv) (h:¬(1≤v.ty∧v.ty≤14)):v.ok=false:=by
 unfold Pv.ok;rw[inB_not.2 h,Bool.false_and]
def Psz (p:Pk) (d:Pd):Prop:=p.top.size≤1048576∧p.cli.size≤1048576∧p.wt.size≤1048576∧p.us.size≤1048576∧(∀x∈d.wan,x.1.size≤1048576)∧(∀s∈d.nam,s.size≤1048576)
theorem W0 (w:World):WRd w none 0 0 []:=⟨⟨rfl,fun i hi=>by omega⟩,Nat.le_refl _,Nat.zero_le _,fun _=>rfl⟩
theorem PRd0 (w:World):PRd w Pk.zero ⟨[],[],[],[],[],[]⟩:=⟨RdIn.nil _,RdIn.nil _,RdIn.nil _,W0 _,SRd.nil _,IRd.nil _⟩
theorem sz_if (c:Bool) (s:ByteArray) (h:s.size≤1048576):(if c then s else ByteArray.empty).size≤1048576:=by
 cases c
 ·exact Nat.zero_le _
 ·exact h
theorem rd_if (c:Bool) (b:Sl) {l:List UInt8} {u:World} (h:RdIn u b.a b.n b.c l):RdIn u (if c then b else noSl).a (if c then b else noSl).n (if c then b else noSl).c (if c then l else []):=by
 cases c
 ·exact RdIn.nil _
 ·exact h
theorem dec_n {n m:Nat} (k:Nat) (h:m=n):decide ((n:Int)≤(k:Int))=decide (m≤k):=decide_eq_decide.2 (by omega)
theorem dec_if (c:Bool) (b:Sl) (l:List UInt8) (k:Nat) (h:l.length=b.n):decide (((if c then b else noSl).n:Int)≤(k:Int))=decide ((if c then l else []).length≤k):=by
 cases c
 ·exact dec_n k rfl
 ·exact dec_n k h
theorem qfs (v:Pv) (h:v.ty=1):v.named = { Pv.zero with ty:=1,lev:=v.lev,cli:=v.cli,cln:=v.cln,kee:=v.kee,hw:=v.hw,wt:=if v.hw then v.wt else ByteArray.empty,wb:=if v.hw then v.wb else [],wq:=if v.hw then v.wq else 0,wr:=if v.hw then v.wr else false,hu:=v.hu,us:=if v.hu then v.us else ByteArray.empty,hp:=v.hu&&v.hp,pa:=if v.hu&&v.hp then v.pa else [] }:=by
 unfold Pv.named;rw[if_pos h,h]
theorem qny (v:Pv) (h:v.ty=2):v.named = { Pv.zero with ty:=2,cod:=v.cod,pre:=v.pre&&decide (v.cod=0) }:=by
 unfold Pv.named;rw[if_neg (by omega),if_pos h,h]
theorem qmi (v:Pv) (h:v.ty=3):v.named = { Pv.zero with ty:=3,qos:=v.qos,ret:=v.ret,top:=v.top,bod:=v.bod,dup:=if 0<v.qos then v.dup else false,id:=if 0<v.qos then v.id else 0 }:=by
 unfold Pv.named;rw[if_neg (by omega),if_neg (by omega),if_pos h,h]
theorem qdi (v:Pv) (k:Int) (h:v.ty=k) (hk:k=4∨k=5∨k=6∨k=7∨k=11):v.named = { Pv.zero with ty:=k,id:=v.id }:=by
 unfold Pv.named;rw[if_neg (by omega),if_neg (by omega),if_neg (by omega),if_pos (by omega),h]
theorem named8 (v:Pv) (h:v.ty=8):v.named = { Pv.zero with ty:=8,id:=v.id,wan:=v.wan }:=by
 unfold Pv.named;rw[if_neg (by omega),if_neg (by omega),if_neg (by omega),if_neg (by omega),if_pos h,h]
theorem named9 (v:Pv) (h:v.ty=9):v.named = { Pv.zero with ty:=9,id:=v.id,cds:=v.cds }:=by
 unfold Pv.named;rw[if_neg (by omega),if_neg (by omega),if_neg (by omega),if_neg (by omega),if_neg (by omega),if_pos h,h]
theorem qnb (v:Pv) (h:v.ty=10):v.named = { Pv.zero with ty:=10,id:=v.id,nam:=v.nam }:=by
 unfold Pv.named;rw[if_neg (by omega),if_neg (by omega),if_neg (by omega),if_neg (by omega),if_neg (by omega),if_neg (by omega),if_pos h,h]
theorem qgn (v:Pv) (k:Int) (h:v.ty=k) (hk:k=12∨k=13∨k=14):v.named = { Pv.zero with ty:=k }:=by
 unfold Pv.named;rw[if_neg (by omega),if_neg (by omega),if_neg (by omega),if_neg (by omega),if_neg (by omega),if_neg (by omega),if_neg (by omega),h]
theorem nilne (T:TypeId) (v:Value) (u:World) (x y:Operand):(do eqGuard .neq 62 x y (.iface T v) .nilIface;binOp .neq 62 (.iface T v) .nilIface:Sem Value).run Tryz.prog u=.ok (.bool true) u:=by
 kernel_rfl
theorem qky (p:Pk) (d:Pd) (w:World) (hp:PRd w p d) (hz:Psz p d) (ht:p.ty=1) :
  Calls Tryz.prog 34 #[.agg p.cells] w fun e w'=>e=.returned (.bool (pv p d).ok)∧Below w.heap.size w w':=by
 obtain⟨z1,z2,z3,z4,z5,z6⟩:=hz;have l1:d.bod.length=p.bod.n:=hp.1.1.1;have l2:d.wb.length=p.wb.n:=hp.2.1.1.1;have l3:d.pa.length=p.pa.n:=hp.2.2.1.1.1;have l4:d.wan.length=p.wan.n:=hp.2.2.2.1.1.1;have l5:d.nam.length=p.nam.n:=hp.2.2.2.2.1.1.1;have l6:d.cds.length=p.cds.n:=hp.2.2.2.2.2.1.1;have hty:(pv p d).ty=1:=ht;have hv:pv ({ conP p.lev p.cli p.cln p.kee p.hw (if p.hw then p.wt else ByteArray.empty) (if p.hw then p.wb else noSl) (if p.hw then p.wq else 0) (if p.hw then p.wr else false) p.hu (if p.hu then p.us else ByteArray.empty) (p.hu&&p.hp) (if p.hu&&p.hp then p.pa else noSl) with ty:=1 }) ⟨[],if p.hw then d.wb else [],if p.hu&&p.hp then d.pa else [],[],[],[]⟩ = (pv p d).named:=by
  rw[qfs _ hty];rfl
 have hR:conOk p.lev p.cli p.kee p.hw (if p.hw then p.wt else ByteArray.empty) (if p.hw then p.wb else noSl).n (if p.hw then p.wq else 0) (if p.hu then p.us else ByteArray.empty) (if p.hu&&p.hp then p.pa else noSl).n=(pv p d).named.body:=by
  rw[qfs _ hty];unfold conOk qje;rw[show (40:Int)=((40:Nat):Int) from rfl,show (60:Int)=((60:Nat):Int) from rfl,dec_if _ _ _ 40 l2,dec_if _ _ _ 60 l3];rfl
 rw[←qcd (pv p d) (by rw[hty];decide),←hR,←hv];exact qcr p d w hp 84 (.agg (conOf p)) 131 (.agg (conOf p)) _ ({ conP p.lev p.cli p.cln p.kee p.hw (if p.hw then p.wt else ByteArray.empty) (if p.hw then p.wb else noSl) (if p.hw then p.wq else 0) (if p.hw then p.wr else false) p.hu (if p.hu then p.us else ByteArray.empty) (p.hu&&p.hp) (if p.hu&&p.hp then p.pa else noSl) with ty:=1 }) ⟨[],if p.hw then d.wb else [],if p.hu&&p.hp then d.pa else [],[],[],[]⟩ (fun u=>qev p u ht) (fun u x y=>nilne _ _ u x y) (fun u=>by kernel_rfl) (fun u hu=>right_con _ _ _ _ _ _ _ _ _ _ _ _ _ u z2 (sz_if _ _ z4) (sz_if _ _ z3)) (fun u=>qho _ _ _ _ _ _ _ _ _ _ _ _ _ u) (fun u hu=>⟨RdIn.nil _,rd_if _ _ hu.2.1,rd_if _ _ hu.2.2.1,W0 _,SRd.nil _,IRd.nil _⟩)
theorem qkx (p:Pk) (d:Pd) (w:World) (hp:PRd w p d) (hz:Psz p d) (ht:p.ty=2) :
  Calls Tryz.prog 34 #[.agg p.cells] w fun e w'=>e=.returned (.bool (pv p d).ok)∧Below w.heap.size w w':=by
 obtain⟨z1,z2,z3,z4,z5,z6⟩:=hz;have l1:d.bod.length=p.bod.n:=hp.1.1.1;have l2:d.wb.length=p.wb.n:=hp.2.1.1.1;have l3:d.pa.length=p.pa.n:=hp.2.2.1.1.1;have l4:d.wan.length=p.wan.n:=hp.2.2.2.1.1.1;have l5:d.nam.length=p.nam.n:=hp.2.2.2.2.1.1.1;have l6:d.cds.length=p.cds.n:=hp.2.2.2.2.2.1.1;have hty:(pv p d).ty=2:=ht;have hv:pv ({ ackP p.cod (p.pre&&decide (p.cod=0)) with ty:=2 }) ⟨[],[],[],[],[],[]⟩ = (pv p d).named:=by
  rw[qny _ hty];rfl
 have hR:inB p.cod 0 5=(pv p d).named.body:=by
  rw[qny _ hty];rfl
 rw[←qcd (pv p d) (by rw[hty];decide),←hR,←hv];exact qcr p d w hp 87 (.agg #[.int .i64 p.cod,.bool (p.pre&&decide (p.cod=0))]) 139 (.agg #[.int .i64 p.cod,.bool (p.pre&&decide (p.cod=0))]) _ ({ ackP p.cod (p.pre&&decide (p.cod=0)) with ty:=2 }) ⟨[],[],[],[],[],[]⟩ (fun u=>qeu p u ht) (fun u x y=>nilne _ _ u x y) (fun u=>by kernel_rfl) (fun u hu=>right_ack _ _ u) (fun u=>qhn _ _ u) (fun u hu=>PRd0 u)
theorem qlb (p:Pk) (d:Pd) (w:World) (hp:PRd w p d) (hz:Psz p d) (ht:p.ty=3) :
  Calls Tryz.prog 34 #[.agg p.cells] w fun e w'=>e=.returned (.bool (pv p d).ok)∧Below w.heap.size w w':=by
 obtain⟨z1,z2,z3,z4,z5,z6⟩:=hz;have l1:d.bod.length=p.bod.n:=hp.1.1.1;have l2:d.wb.length=p.wb.n:=hp.2.1.1.1;have l3:d.pa.length=p.pa.n:=hp.2.2.1.1.1;have l4:d.wan.length=p.wan.n:=hp.2.2.2.1.1.1;have l5:d.nam.length=p.nam.n:=hp.2.2.2.2.1.1.1;have l6:d.cds.length=p.cds.n:=hp.2.2.2.2.2.1.1;have hty:(pv p d).ty=3:=ht;have hv:pv ({ pubP (if 0<p.qos then p.dup else false) p.qos p.ret (if 0<p.qos then p.id else 0) p.top p.bod with ty:=3 }) ⟨d.bod,[],[],[],[],[]⟩ = (pv p d).named:=by
  rw[qmi _ hty];rfl
 have hR:pubOk p.qos (if 0<p.qos then p.id else 0) p.top p.bod.n=(pv p d).named.body:=by
  rw[qmi _ hty];unfold pubOk;rw[show (40:Int)=((40:Nat):Int) from rfl,dec_n 40 l1];rfl
 rw[←qcd (pv p d) (by rw[hty];decide),←hR,←hv];exact qcr p d w hp 89 (.agg (pubOf p)) 142 (.agg (pubOf p)) _ ({ pubP (if 0<p.qos then p.dup else false) p.qos p.ret (if 0<p.qos then p.id else 0) p.top p.bod with ty:=3 }) ⟨d.bod,[],[],[],[],[]⟩ (fun u=>qey p u ht) (fun u x y=>nilne _ _ u x y) (fun u=>by kernel_rfl) (fun u hu=>right_pub _ _ _ _ _ _ u z1) (fun u=>qhr _ _ _ _ _ _ u) (fun u hu=>⟨hu.1,RdIn.nil _,RdIn.nil _,W0 _,SRd.nil _,IRd.nil _⟩)
theorem qlv (p:Pk) (d:Pd) (w:World) (hp:PRd w p d) (hz:Psz p d) (ht:p.ty=4) :
  Calls Tryz.prog 34 #[.agg p.cells] w fun e w'=>e=.returned (.bool (pv p d).ok)∧Below w.heap.size w w':=by
 obtain⟨z1,z2,z3,z4,z5,z6⟩:=hz;have l1:d.bod.length=p.bod.n:=hp.1.1.1;have l2:d.wb.length=p.wb.n:=hp.2.1.1.1;have l3:d.pa.length=p.pa.n:=hp.2.2.1.1.1;have l4:d.wan.length=p.wan.n:=hp.2.2.2.1.1.1;have l5:d.nam.length=p.nam.n:=hp.2.2.2.2.1.1.1;have l6:d.cds.length=p.cds.n:=hp.2.2.2.2.2.1.1;have hty:(pv p d).ty=4:=ht;have hv:pv ({ idP p.id with ty:=4 }) ⟨[],[],[],[],[],[]⟩ = (pv p d).named:=by
  rw[qdi _ 4 hty (by decide)];rfl
 have hR:inB p.id 1 65535=(pv p d).named.body:=by
  rw[qdi _ 4 hty (by decide)];rfl
 rw[←qcd (pv p d) (by rw[hty];decide),←hR,←hv];exact qcr p d w hp 94 (.agg #[.int .i64 p.id]) 146 (.agg #[.int .i64 p.id]) _ ({ idP p.id with ty:=4 }) ⟨[],[],[],[],[],[]⟩ (fun u=>qfo p u ht) (fun u x y=>nilne _ _ u x y) (fun u=>by kernel_rfl) (fun u hu=>qhs _ u) (fun u=>qik _ u) (fun u hu=>PRd0 u)
theorem qlw (p:Pk) (d:Pd) (w:World) (hp:PRd w p d) (hz:Psz p d) (ht:p.ty=5) :
  Calls Tryz.prog 34 #[.agg p.cells] w fun e w'=>e=.returned (.bool (pv p d).ok)∧Below w.heap.size w w':=by
 obtain⟨z1,z2,z3,z4,z5,z6⟩:=hz;have l1:d.bod.length=p.bod.n:=hp.1.1.1;have l2:d.wb.length=p.wb.n:=hp.2.1.1.1;have l3:d.pa.length=p.pa.n:=hp.2.2.1.1.1;have l4:d.wan.length=p.wan.n:=hp.2.2.2.1.1.1;have l5:d.nam.length=p.nam.n:=hp.2.2.2.2.1.1.1;have l6:d.cds.length=p.cds.n:=hp.2.2.2.2.2.1.1;have hty:(pv p d).ty=5:=ht;have hv:pv ({ idP p.id with ty:=5 }) ⟨[],[],[],[],[],[]⟩ = (pv p d).named:=by
  rw[qdi _ 5 hty (by decide)];rfl
 have hR:inB p.id 1 65535=(pv p d).named.body:=by
  rw[qdi _ 5 hty (by decide)];rfl
 rw[←qcd (pv p d) (by rw[hty];decide),←hR,←hv];exact qcr p d w hp 95 (.agg #[.int .i64 p.id]) 146 (.agg #[.int .i64 p.id]) _ ({ idP p.id with ty:=5 }) ⟨[],[],[],[],[],[]⟩ (fun u=>qfp p u ht) (fun u x y=>nilne _ _ u x y) (fun u=>by kernel_rfl) (fun u hu=>qhs _ u) (fun u=>qil _ u) (fun u hu=>PRd0 u)
theorem qlx (p:Pk) (d:Pd) (w:World) (hp:PRd w p d) (hz:Psz p d) (ht:p.ty=6) :
  Calls Tryz.prog 34 #[.agg p.cells] w fun e w'=>e=.returned (.bool (pv p d).ok)∧Below w.heap.size w w':=by
 obtain⟨z1,z2,z3,z4,z5,z6⟩:=hz;have l1:d.bod.length=p.bod.n:=hp.1.1.1;have l2:d.wb.length=p.wb.n:=hp.2.1.1.1;have l3:d.pa.length=p.pa.n:=hp.2.2.1.1.1;have l4:d.wan.length=p.wan.n:=hp.2.2.2.1.1.1;have l5:d.nam.length=p.nam.n:=hp.2.2.2.2.1.1.1;have l6:d.cds.length=p.cds.n:=hp.2.2.2.2.2.1.1;have hty:(pv p d).ty=6:=ht;have hv:pv ({ idP p.id with ty:=6 }) ⟨[],[],[],[],[],[]⟩ = (pv p d).named:=by
  rw[qdi _ 6 hty (by decide)];rfl
 have hR:inB p.id 1 65535=(pv p d).named.body:=by
  rw[qdi _ 6 hty (by decide)];rfl
 rw[←qcd (pv p d) (by rw[hty];decide),←hR,←hv];exact qcr p d w hp 96 (.agg #[.int .i64 p.id]) 146 (.agg #[.int .i64 p.id]) _ ({ idP p.id with ty:=6 }) ⟨[],[],[],[],[],[]⟩ (fun u=>qfq p u ht) (fun u x y=>nilne _ _ u x y) (fun u=>by kernel_rfl) (fun u hu=>qhs _ u) (fun u=>qim _ u) (fun u hu=>PRd0 u)
theorem qla (p:Pk) (d:Pd) (w:World) (hp:PRd w p d) (hz:Psz p d) (ht:p.ty=7) :
  Calls Tryz.prog 34 #[.agg p.cells] w fun e w'=>e=.returned (.bool (pv p d).ok)∧Below w.heap.size w w':=by
 obtain⟨z1,z2,z3,z4,z5,z6⟩:=hz;have l1:d.bod.length=p.bod.n:=hp.1.1.1;have l2:d.wb.length=p.wb.n:=hp.2.1.1.1;have l3:d.pa.length=p.pa.n:=hp.2.2.1.1.1;have l4:d.wan.length=p.wan.n:=hp.2.2.2.1.1.1;have l5:d.nam.length=p.nam.n:=hp.2.2.2.2.1.1.1;have l6:d.cds.length=p.cds.n:=hp.2.2.2.2.2.1.1;have hty:(pv p d).ty=7:=ht;have hv:pv ({ idP p.id with ty:=7 }) ⟨[],[],[],[],[],[]⟩ = (pv p d).named:=by
  rw[qdi _ 7 hty (by decide)];rfl
 have hR:inB p.id 1 65535=(pv p d).named.body:=by
  rw[qdi _ 7 hty (by decide)];rfl
 rw[←qcd (pv p d) (by rw[hty];decide),←hR,←hv];exact qcr p d w hp 97 (.agg #[.int .i64 p.id]) 146 (.agg #[.int .i64 p.id]) _ ({ idP p.id with ty:=7 }) ⟨[],[],[],[],[],[]⟩ (fun u=>qex p u ht) (fun u x y=>nilne _ _ u x y) (fun u=>by kernel_rfl) (fun u hu=>qhs _ u) (fun u=>qhq _ u) (fun u hu=>PRd0 u)
theorem qii (p:Pk) (d:Pd) (w:World) (hp:PRd w p d) (hz:Psz p d) (ht:p.ty=8) :
  Calls Tryz.prog 34 #[.agg p.cells] w fun e w'=>e=.returned (.bool (pv p d).ok)∧Below w.heap.size w w':=by
 obtain⟨z1,z2,z3,z4,z5,z6⟩:=hz;have l1:d.bod.length=p.bod.n:=hp.1.1.1;have l2:d.wb.length=p.wb.n:=hp.2.1.1.1;have l3:d.pa.length=p.pa.n:=hp.2.2.1.1.1;have l4:d.wan.length=p.wan.n:=hp.2.2.2.1.1.1;have l5:d.nam.length=p.nam.n:=hp.2.2.2.2.1.1.1;have l6:d.cds.length=p.cds.n:=hp.2.2.2.2.2.1.1;have hty:(pv p d).ty=8:=ht;have hv:pv ({ subP p.id p.wan with ty:=8 }) ⟨[],[],[],d.wan,[],[]⟩ = (pv p d).named:=by
  rw[named8 _ hty];rfl
 have hR:(inB p.id 1 65535&&(d.wan.all qbn&&inB p.wan.n 1 4))=(pv p d).named.body:=by
  rw[named8 _ hty];show _=(d.wan.all qbn&&(inB p.id 1 65535&&inB (d.wan.length:Int) 1 4));rw[l4];cases inB p.id 1 65535<;>simp
 rw[←qcd (pv p d) (by rw[hty];decide),←hR,←hv];exact qcr p d w hp 99 (.agg #[.int .i64 p.id,.slice p.wan.a p.wan.n p.wan.c]) 149 (.agg #[.int .i64 p.id,.slice p.wan.a p.wan.n p.wan.c]) _ ({ subP p.id p.wan with ty:=8 }) ⟨[],[],[],d.wan,[],[]⟩ (fun u=>qdt p u ht) (fun u x y=>nilne _ _ u x y) (fun u=>by kernel_rfl) (fun u hu=>qle _ _ _ u hu.2.2.2.1 z5) (fun u=>qgk _ _ u) (fun u hu=>⟨RdIn.nil _,RdIn.nil _,RdIn.nil _,hu.2.2.2.1,SRd.nil _,IRd.nil _⟩)
theorem qly (p:Pk) (d:Pd) (w:World) (hp:PRd w p d) (hz:Psz p d) (ht:p.ty=9) :
  Calls Tryz.prog 34 #[.agg p.cells] w fun e w'=>e=.returned (.bool (pv p d).ok)∧Below w.heap.size w w':=by
 obtain⟨z1,z2,z3,z4,z5,z6⟩:=hz;have l1:d.bod.length=p.bod.n:=hp.1.1.1;have l2:d.wb.length=p.wb.n:=hp.2.1.1.1;have l3:d.pa.length=p.pa.n:=hp.2.2.1.1.1;have l4:d.wan.length=p.wan.n:=hp.2.2.2.1.1.1;have l5:d.nam.length=p.nam.n:=hp.2.2.2.2.1.1.1;have l6:d.cds.length=p.cds.n:=hp.2.2.2.2.2.1.1;have hty:(pv p d).ty=9:=ht;have hv:pv ({ sackP p.id p.cds with ty:=9 }) ⟨[],[],[],[],[],d.cds⟩ = (pv p d).named:=by
  rw[named9 _ hty];rfl
 have hR:(inB p.id 1 65535&&(d.cds.all qbl&&inB p.cds.n 1 4))=(pv p d).named.body:=by
  rw[named9 _ hty];show _=(d.cds.all qbl&&(inB p.id 1 65535&&inB (d.cds.length:Int) 1 4));rw[l6];cases inB p.id 1 65535<;>simp
 rw[←qcd (pv p d) (by rw[hty];decide),←hR,←hv];exact qcr p d w hp 101 (.agg #[.int .i64 p.id,.slice p.cds.a p.cds.n p.cds.c]) 157 (.agg #[.int .i64 p.id,.slice p.cds.a p.cds.n p.cds.c]) _ ({ sackP p.id p.cds with ty:=9 }) ⟨[],[],[],[],[],d.cds⟩ (fun u=>qfr p u ht) (fun u x y=>nilne _ _ u x y) (fun u=>by kernel_rfl) (fun u hu=>qoe _ _ _ u hu.2.2.2.2.2) (fun u=>qin _ _ u) (fun u hu=>⟨RdIn.nil _,RdIn.nil _,RdIn.nil _,W0 _,SRd.nil _,hu.2.2.2.2.2⟩)
theorem qgv (p:Pk) (d:Pd) (w:World) (hp:PRd w p d) (hz:Psz p d) (ht:p.ty=10) :
  Calls Tryz.prog 34 #[.agg p.cells] w fun e w'=>e=.returned (.bool (pv p d).ok)∧Below w.heap.size w w':=by
 obtain⟨z1,z2,z3,z4,z5,z6⟩:=hz;have l1:d.bod.length=p.bod.n:=hp.1.1.1;have l2:d.wb.length=p.wb.n:=hp.2.1.1.1;have l3:d.pa.length=p.pa.n:=hp.2.2.1.1.1;have l4:d.wan.length=p.wan.n:=hp.2.2.2.1.1.1;have l5:d.nam.length=p.nam.n:=hp.2.2.2.2.1.1.1;have l6:d.cds.length=p.cds.n:=hp.2.2.2.2.2.1.1;have hty:(pv p d).ty=10:=ht;have hv:pv ({ unsP p.id p.nam with ty:=10 }) ⟨[],[],[],[],d.nam,[]⟩ = (pv p d).named:=by
  rw[qnb _ hty];rfl
 have hR:(inB p.id 1 65535&&(d.nam.all flt&&inB p.nam.n 1 4))=(pv p d).named.body:=by
  rw[qnb _ hty];show _=(d.nam.all flt&&(inB p.id 1 65535&&inB (d.nam.length:Int) 1 4));rw[l5];cases inB p.id 1 65535<;>simp
 rw[←qcd (pv p d) (by rw[hty];decide),←hR,←hv];exact qcr p d w hp 103 (.agg #[.int .i64 p.id,.slice p.nam.a p.nam.n p.nam.c]) 163 (.agg #[.int .i64 p.id,.slice p.nam.a p.nam.n p.nam.c]) _ ({ unsP p.id p.nam with ty:=10 }) ⟨[],[],[],[],d.nam,[]⟩ (fun u=>qdh p u ht) (fun u x y=>nilne _ _ u x y) (fun u=>by kernel_rfl) (fun u hu=>qip _ _ _ u hu.2.2.2.2.1 z6) (fun u=>qfg _ _ u) (fun u hu=>⟨RdIn.nil _,RdIn.nil _,RdIn.nil _,W0 _,hu.2.2.2.2.1,IRd.nil _⟩)
theorem qjt (p:Pk) (d:Pd) (w:World) (hp:PRd w p d) (hz:Psz p d) (ht:p.ty=11) :
  Calls Tryz.prog 34 #[.agg p.cells] w fun e w'=>e=.returned (.bool (pv p d).ok)∧Below w.heap.size w w':=by
 obtain⟨z1,z2,z3,z4,z5,z6⟩:=hz;have l1:d.bod.length=p.bod.n:=hp.1.1.1;have l2:d.wb.length=p.wb.n:=hp.2.1.1.1;have l3:d.pa.length=p.pa.n:=hp.2.2.1.1.1;have l4:d.wan.length=p.wan.n:=hp.2.2.2.1.1.1;have l5:d.nam.length=p.nam.n:=hp.2.2.2.2.1.1.1;have l6:d.cds.length=p.cds.n:=hp.2.2.2.2.2.1.1;have hty:(pv p d).ty=11:=ht;have hv:pv ({ idP p.id with ty:=11 }) ⟨[],[],[],[],[],[]⟩ = (pv p d).named:=by
  rw[qdi _ 11 hty (by decide)];rfl
 have hR:inB p.id 1 65535=(pv p d).named.body:=by
  rw[qdi _ 11 hty (by decide)];rfl
 rw[←qcd (pv p d) (by rw[hty];decide),←hR,←hv];exact qcr p d w hp 104 (.agg #[.int .i64 p.id]) 146 (.agg #[.int .i64 p.id]) _ ({ idP p.id with ty:=11 }) ⟨[],[],[],[],[],[]⟩ (fun u=>qef p u ht) (fun u x y=>nilne _ _ u x y) (fun u=>by kernel_rfl) (fun u hu=>qhs _ u) (fun u=>qgx _ u) (fun u hu=>PRd0 u)
theorem qkz (p:Pk) (d:Pd) (w:World) (hp:PRd w p d) (hz:Psz p d) (ht:p.ty=12) :
  Calls Tryz.prog 34 #[.agg p.cells] w fun e w'=>e=.returned (.bool (pv p d).ok)∧Below w.heap.size w w':=by
 obtain⟨z1,z2,z3,z4,z5,z6⟩:=hz;have l1:d.bod.length=p.bod.n:=hp.1.1.1;have l2:d.wb.length=p.wb.n:=hp.2.1.1.1;have l3:d.pa.length=p.pa.n:=hp.2.2.1.1.1;have l4:d.wan.length=p.wan.n:=hp.2.2.2.1.1.1;have l5:d.nam.length=p.nam.n:=hp.2.2.2.2.1.1.1;have l6:d.cds.length=p.cds.n:=hp.2.2.2.2.2.1.1;have hty:(pv p d).ty=12:=ht;have hv:pv ({ noP with ty:=12 }) ⟨[],[],[],[],[],[]⟩ = (pv p d).named:=by
  rw[qgn _ 12 hty (by decide)];rfl
 have hR:true=(pv p d).named.body:=by
  rw[qgn _ 12 hty (by decide)];rfl
 rw[←qcd (pv p d) (by rw[hty];decide),←hR,←hv];exact qcr p d w hp 108 (.agg #[]) 168 (.agg #[]) _ ({ noP with ty:=12 }) ⟨[],[],[],[],[],[]⟩ (fun u=>qew p u ht) (fun u x y=>nilne _ _ u x y) (fun u=>by kernel_rfl) (fun u hu=>qnj u) (fun u=>qhp u) (fun u hu=>PRd0 u)
theorem qjs (p:Pk) (d:Pd) (w:World) (hp:PRd w p d) (hz:Psz p d) (ht:p.ty=13) :
  Calls Tryz.prog 34 #[.agg p.cells] w fun e w'=>e=.returned (.bool (pv p d).ok)∧Below w.heap.size w w':=by
 obtain⟨z1,z2,z3,z4,z5,z6⟩:=hz;have l1:d.bod.length=p.bod.n:=hp.1.1.1;have l2:d.wb.length=p.wb.n:=hp.2.1.1.1;have l3:d.pa.length=p.pa.n:=hp.2.2.1.1.1;have l4:d.wan.length=p.wan.n:=hp.2.2.2.1.1.1;have l5:d.nam.length=p.nam.n:=hp.2.2.2.2.1.1.1;have l6:d.cds.length=p.cds.n:=hp.2.2.2.2.2.1.1;have hty:(pv p d).ty=13:=ht;have hv:pv ({ noP with ty:=13 }) ⟨[],[],[],[],[],[]⟩ = (pv p d).named:=by
  rw[qgn _ 13 hty (by decide)];rfl
 have hR:true=(pv p d).named.body:=by
  rw[qgn _ 13 hty (by decide)];rfl
 rw[←qcd (pv p d) (by rw[hty];decide),←hR,←hv];exact qcr p d w hp 109 (.agg #[]) 168 (.agg #[]) _ ({ noP with ty:=13 }) ⟨[],[],[],[],[],[]⟩ (fun u=>qee p u ht) (fun u x y=>nilne _ _ u x y) (fun u=>by kernel_rfl) (fun u hu=>qnj u) (fun u=>qgw u) (fun u hu=>PRd0 u)
theorem qhk (p:Pk) (d:Pd) (w:World) (hp:PRd w p d) (hz:Psz p d) (ht:p.ty=14) :
  Calls Tryz.prog 34 #[.agg p.cells] w fun e w'=>e=.returned (.bool (pv p d).ok)∧Below w.heap.size w w':=by
 obtain⟨z1,z2,z3,z4,z5,z6⟩:=hz;have l1:d.bod.length=p.bod.n:=hp.1.1.1;have l2:d.wb.length=p.wb.n:=hp.2.1.1.1;have l3:d.pa.length=p.pa.n:=hp.2.2.1.1.1;have l4:d.wan.length=p.wan.n:=hp.2.2.2.1.1.1;have l5:d.nam.length=p.nam.n:=hp.2.2.2.2.1.1.1;have l6:d.cds.length=p.cds.n:=hp.2.2.2.2.2.1.1;have hty:(pv p d).ty=14:=ht;have hv:pv ({ noP with ty:=14 }) ⟨[],[],[],[],[],[]⟩ = (pv p d).named:=by
  rw[qgn _ 14 hty (by decide)];rfl
 have hR:true=(pv p d).named.body:=by
  rw[qgn _ 14 hty (by decide)];rfl
 rw[←qcd (pv p d) (by rw[hty];decide),←hR,←hv];exact qcr p d w hp 110 (.agg #[]) 168 (.agg #[]) _ ({ noP with ty:=14 }) ⟨[],[],[],[],[],[]⟩ (fun u=>qdo p u ht) (fun u x y=>nilne _ _ u x y) (fun u=>by kernel_rfl) (fun u hu=>qnj u) (fun u=>qfu u) (fun u hu=>PRd0 u)
theorem okp_none (p:Pk) (d:Pd) (w:World) (ht:¬(1≤p.ty∧p.ty≤14)) :
  Calls Tryz.prog 34 #[.agg p.cells] w fun e w'=>e=.returned (.bool (pv p d).ok)∧Below w.heap.size w w':=by
 rw[ok_off (pv p d) ht];have hb:Below w.heap.size w (w.alloc (.cells p.cells 32)):=qae _ _;have A:Blk (w.alloc (.cells p.cells 32)) w.heap.size p:=heap_alloc_new _ _;go_enter Tryz.func34,Tryz.ntmps34;go_wp2_with (first | refine qap A rfl _ rfl rfl ?_ | fail)
 refine (kind_none p _ ht).mono ?_;rintro e y ⟨rfl,b1⟩;replace hb:=bel hb b1;clear b1 A ht;go_wp2;refine qar (by kernel_rfl) rfl (fun i u x=>match i with
   |0=>u=.nilIface
   |1 | 2 | 5 | 6 | 11 | 12=>u=.bool false
   |_=>True) ?_ ?_ ?_
 ·intro i u x x' hx h;exact h
 ·intro i o a u hi hk hbu hdep
  match i,hi with
  |0,hi=>cases hi;exact g_run (qaa rfl _) (qad (by simp[execOp,qab ((hk.at 3 rfl).trans rfl)]) ⟨_,rfl,Below.refl _ _,rfl⟩)
  |1,hi=>
   cases hi;obtain⟨z,hz,rfl⟩:=hdep 0 _ _ rfl rfl rfl;have ev:a.eval (.const .nilIface)=.nilIface:=rfl;have hn:(do eqGuard .neq 62 (.tmp 6) (.const .nilIface) .nilIface .nilIface;binOp .neq 62 .nilIface .nilIface:Sem Value).run Tryz.prog u=.ok (.bool false) u:=by kernel_rfl
   refine g_run (qaa rfl _) (qad (v:=.bool false) (w':=u) ?_ ⟨_,rfl,Below.refl _ _,rfl⟩);simp only[execOp,qab hz,ev,Sem.run_bind,hn,Result.andThen_ok,Sem.run_pure]
  |2,hi=>
   cases hi;obtain⟨z,hz,rfl⟩:=hdep 1 _ _ rfl rfl rfl;exact g_run (qaa rfl _) (qad (by simp[execOp,qab hz]) ⟨_,rfl,Below.refl _ _,rfl⟩)
  |3,hi=>
   cases hi;obtain⟨z,hz,rfl⟩:=hdep 2 _ _ rfl rfl rfl;exact qdl (qbz rfl (qao rfl hz)) trivial
  |4,hi=>
   cases hi;obtain⟨z,hz,rfl⟩:=hdep 2 _ _ rfl rfl rfl;exact qdl (qbz rfl (qao rfl hz)) trivial
  |7,hi=>
   cases hi;obtain⟨z,hz,rfl⟩:=hdep 6 _ _ rfl rfl rfl;exact qdl (qbz rfl (qao rfl hz)) trivial
  |8,hi=>
   cases hi;obtain⟨z,hz,rfl⟩:=hdep 6 _ _ rfl rfl rfl;exact qdl (qbz rfl (qao rfl hz)) trivial
  |9,hi=>
   cases hi;obtain⟨z,hz,rfl⟩:=hdep 6 _ _ rfl rfl rfl;exact qdl (qbz rfl (qao rfl hz)) trivial
  |10,hi=>
   cases hi;obtain⟨z,hz,rfl⟩:=hdep 6 _ _ rfl rfl rfl;exact qdl (qbz rfl (qao rfl hz)) trivial
  |5,hi=>
   cases hi;obtain⟨z,hz,rfl⟩:=hdep 2 _ _ rfl rfl rfl;have ev:a.eval (.const (.bool false))=.bool false:=rfl;exact g_run (qaa rfl _) (qad (v:=.bool false) (w':=u) (by simp[execOp,qab hz,ev,asBool]) ⟨_,rfl,Below.refl _ _,rfl⟩)
  |11,hi=>
   cases hi;obtain⟨z,hz,rfl⟩:=hdep 6 _ _ rfl rfl rfl;have ev:a.eval (.const (.bool false))=.bool false:=rfl;exact g_run (qaa rfl _) (qad (v:=.bool false) (w':=u) (by simp[execOp,qab hz,ev,asBool]) ⟨_,rfl,Below.refl _ _,rfl⟩)
  |6,hi=>
   cases hi;obtain⟨z,hz,rfl⟩:=hdep 5 _ _ rfl rfl rfl;exact g_run (qaa rfl _) (qad (by simp[execOp,qab hz]) ⟨_,rfl,Below.refl _ _,rfl⟩)
  |12,hi=>
   cases hi;obtain⟨z,hz,rfl⟩:=hdep 11 _ _ rfl rfl rfl;exact g_run (qaa rfl _) (qad (by simp[execOp,qab hz]) ⟨_,rfl,Below.refl _ _,rfl⟩)
  |(_+13),hi=>cases hi
 ·intro vs y3 b3 hG a3 h3;have g12:vs 12=.bool false:=hG 12 (by decide);have s2:=qej h3 rfl 12 rfl rfl;rw[g12] at s2;have hd:=(qgh h3).trans (show _ = [] from rfl);clear h3 hG;replace hb:=bel hb b3;go_wp2;refine bodyPost_ret (results_tmp rfl _ _ _) hd ⟨?_,hb⟩;rw[qgs s2]
theorem qjb (p:Pk) (d:Pd) (w:World) (hp:PRd w p d) (hz:Psz p d) :
  Calls Tryz.prog 34 #[.agg p.cells] w fun e w'=>e=.returned (.bool (pv p d).ok)∧Below w.heap.size w w':=by
 by_cases h:1≤p.ty∧p.ty≤14
 rotate_left
 ·exact okp_none p d w h
 have h14:p.ty=1∨p.ty=2∨p.ty=3∨p.ty=4∨p.ty=5∨p.ty=6∨p.ty=7∨p.ty=8∨p.ty=9∨p.ty=10∨p.ty=11∨p.ty=12∨p.ty=13∨p.ty=14:=by omega
 rcases h14 with ht | ht | ht | ht | ht | ht | ht | ht | ht | ht | ht | ht | ht | ht
 ·exact qky p d w hp hz ht
 ·exact qkx p d w hp hz ht
 ·exact qlb p d w hp hz ht
 ·exact qlv p d w hp hz ht
 ·exact qlw p d w hp hz ht
 ·exact qlx p d w hp hz ht
 ·exact qla p d w hp hz ht
 ·exact qii p d w hp hz ht
 ·exact qly p d w hp hz ht
 ·exact qgv p d w hp hz ht
 ·exact qjt p d w hp hz ht
 ·exact qkz p d w hp hz ht
 ·exact qjs p d w hp hz ht
 ·exact qhk p d w hp hz ht
