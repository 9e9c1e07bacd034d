/- Lemmas. -/
import Derived.ProofKit
import Derived.OpenShut
import Derived.ShutString
import Derived.ChangeOld
import Derived.Below
import Derived.Deep.Strs
import Derived.Deep.SlicePairs
import Derived.Test.YtpgkbkbhhmfgnaaDoorK10
import Derived.Test.YtpgkbkbhhmfgnaaDoorK01
set_option linter.unusedVariables false
set_option linter.unusedSimpArgs false
set_option maxRecDepth 100000
set_option maxHeartbeats 20000000
namespace Go.Proofs.YtpgkbkbhhmfgnaaDoor
open Go.RowKit

def ascAt (vs:List Kv) (i:Nat):Bool:=decide (i=0) || ltK (vat vs (i-1)).t (vat vs i).t
def ascN (vs:List Kv) (k:Nat):Bool:=(List.range k).all (ascAt vs)
theorem ascN_step {vs:List Kv} {k:Nat} (h:ascN vs k=true) (e:ascAt vs k=true):ascN vs (k+1)=true:=by
 unfold ascN at h ⊢;rw[List.range_succ,List.all_append,h];simp[e]
theorem ascN_no {vs:List Kv} {k n:Nat} (hk:k<n) (e:ascAt vs k=false):ascN vs n=false:=by
 unfold ascN;rw[List.all_eq_false];exact⟨k,List.mem_range.2 hk,by rw[e];decide⟩
theorem qgt (vs:List Kv) (f:Kv→Bool):(List.range vs.length).all (fun i=>f (vat vs i))=vs.all f:=by
 suffices H:∀m,m≤vs.length→(List.range m).all (fun i=>f (vat vs i))=(vs.take m).all f by
  rw[H _ (Nat.le_refl _),List.take_of_length_le (Nat.le_refl _)]
 intro m
 induction m with
 |zero=>intro _;rfl
 |succ m ih=>
  intro hm;rw[List.range_succ,List.all_append,ih (by omega),List.take_succ_eq_append_getElem (by omega),List.all_append];have e:vat vs m=vs[m]'(by omega):=by simp[vat,List.getD_eq_getElem?_getD,List.getElem?_eq_getElem (show m<vs.length by omega)]
  simp[e]
theorem kept_parts (vs:List Kv):keptB vs=(decide (vs.length≤8)&&(ascN vs vs.length&&vs.all Kv.ok)):=by
 have e:keptN vs vs.length=(ascN vs vs.length&&vs.all Kv.ok):=by
  rw[←qgt vs Kv.ok];unfold keptN ascN;apply Bool.eq_iff_iff.2
  simp only[Bool.and_eq_true,List.all_eq_true,List.mem_range,okAt,ascAt];exact⟨fun h=>⟨fun i hi=>(h i hi).2,fun i hi=>(h i hi).1⟩,fun h i hi=>⟨h.2 i hi,h.1 i hi⟩⟩
 unfold keptB;rw[e]
theorem ok_parts (t:ByteArray) (b:List UInt8) (q:Int) (n:Nat) (hn:b.length=n):Kv.ok ⟨t,b,q⟩ = ((topOk t.data.toList&&(decide ((n:Int)≤40)&&decide (0≤q∧q≤2)))&&!decide ((n:Int)=0)):=by
 unfold Kv.ok;simp only[hn]
 rcases Nat.eq_zero_or_pos n with h | h
 ·subst h;simp
 ·have h1:decide ((n:Int)=0)=false:=by simp;omega
  have h2:decide (1≤(n:Int)∧(n:Int)≤40)=decide ((n:Int)≤40):=by
   apply decide_eq_decide.2
   omega
  rw[h1,h2];simp
theorem qgu (t1 t2:ByteArray) (a1 a2:Option Addr) (n1 c1 n2 c2:Nat) (q1 q2:Int) (w:World) :
  Calls Tryd.prog 31 #[.agg #[.string t1,.slice a1 n1 c1,.int .i64 q1],.agg #[.string t2,.slice a2 n2 c2,.int .i64 q2]] w fun e w'=>e=.returned (.int .i64 (Lib.compareBytes t1.data.toList t2.data.toList))∧Below w.heap.size w w':=by
 go_enter Tryd.func31,Tryd.ntmps31;go_wp2_with fail
 refine (show Calls Tryd.prog 60 #[.string t1,.string t2] _ fun e w'=>e=.returned (.int .i64 (Lib.compareBytes t1.data.toList t2.data.toList))∧w'=_ from Any.strings_Compare Tryd.lays106 t1 t2 _).mono ?_;rintro e w2 ⟨rfl,rfl⟩;go_wp2;go_ret;exact⟨rfl,((Below.refl _ _).alloc (Nat.le_refl _) _).alloc (by simp) _⟩
theorem qfb (n:Int) (r:Bool) (w:World) (h:decide (0≤n∧n≤2)=r):Calls Tryd.prog 63 #[.int .i64 n] w fun e w'=>e=.returned (.bool r)∧w'=w:=by
 subst h
 by_cases h1:0≤n
 ·by_cases h2:n≤2
  ·go_enter Tryd.func63,Tryd.ntmps63;go_wp2;go_ret;exact⟨by simp[h1,h2],rfl⟩
  ·go_enter Tryd.func63,Tryd.ntmps63;go_wp2;go_ret;exact⟨by simp[h1,h2],rfl⟩
 ·go_enter Tryd.func63,Tryd.ntmps63;go_wp2;go_ret;exact⟨by simp;omega,rfl⟩
theorem kgei_t (u:World) (x y:Operand) (a b:Int) (h:b≤a):(do eqGuard .geq 3 x y (.int .i64 a) (.int .i64 b);binOp .geq 3 (.int .i64 a) (.int .i64 b):Sem Value).run Tryd.prog u=.ok (.bool true) u:=by
 simp[go_sem,Tryd.underlying3,h]
theorem kgei_f (u:World) (x y:Operand) (a b:Int) (h:¬b≤a):(do eqGuard .geq 3 x y (.int .i64 a) (.int .i64 b);binOp .geq 3 (.int .i64 a) (.int .i64 b):Sem Value).run Tryd.prog u=.ok (.bool false) u:=by
 simp[go_sem,Tryd.underlying3,h]
abbrev Fk24 {x0 x1 x2 x3 x4 x5 x6 x7 x8 x9 x10 x11 x12 x13 x14 x15 x16 x17 x18 x19 x20 x21 x22 x23:Value} : Act:=.mk #[x0,x1,x2,x3,x4,x5,x6,x7,x8,x9,x10,x11,x12,x13,x14,x15,x16,x17,x18,x19,x20,x21,x22,x23] []
theorem asc_kept (ao:Option Addr) (n cap:Nat) (l:KtL) (w:World) (hr:KRd w ao n cap l) (hn:n≤1048576) :
  Calls Tryd.prog 30 #[.slice ao n cap,.func (.func 31) #[] #[]] w fun e w'=>e=.returned (.bool (ascN (kvs l) n))∧Below w.heap.size w w':=by
 have HL:Hid (l.length=n):=hr.len;have HR:Hid (KRd w ao n cap l):=hr;clear hr;go_enter Tryd.func30,Tryd.ntmps30;go_wp2
 go_loopw [5] (fun i wr=>∃k:Nat,i=.int .i64 k∧1≤k∧Hid (k≤n∨k=1)∧Hid (ascN (kvs l) k=true)∧Below w.heap.size w wr) (fun i _=>n-(intOf i).toNat)
 case atStart=>exact⟨1,rfl,Nat.le_refl _,.inr rfl,by show ascN (kvs l) 1=true;simp[ascN,ascAt],Below.refl _ _⟩
 case round=>
  obtain⟨k,rfl,hk,hkn,hT,hb⟩:=hrel
  by_cases hlt:k<n
  ·obtain⟨b,off,e,hrk0⟩:=HR.out.rng k hlt;subst e;obtain⟨b2,off2,e2,hrj0⟩:=HR.out.rng (k-1) (by omega);simp only[Option.some.injEq,Addr.mk.injEq,and_true] at e2;obtain⟨rfl,rfl⟩:=e2;have hrk:=qau hrk0 hb;have hrj:=qau hrj0 hb;have hlt':(k:Int)<n:=by omega
   have hlt1:k-1<n:=by omega
   have hk1:1≤k∧k≤1099511627776:=by omega
   have HKL:Hid (k<l.length):=by show k<l.length;rw[HL.out];exact hlt
   clear hrk0 hrj0;obtain⟨cc,hcc0⟩ : ∃cc,Lib.compareBytes (kf l (k-1)).t.data.toList (kf l k).t.data.toList=cc:=⟨_,rfl⟩;have HBY:Hid (∀u,Calls Tryd.prog 31 #[.agg (ktK.cells (kf l (k-1))),.agg (ktK.cells (kf l k))] u fun e w'=>e=.returned (.int .i64 cc)∧Below u.heap.size u w'):=fun u=>by
    have h:=qgu (kf l (k-1)).t (kf l k).t (kf l (k-1)).a (kf l k).a (kf l (k-1)).n (kf l (k-1)).c (kf l k).n (kf l k).c (kf l (k-1)).q (kf l k).q u;rw[hcc0] at h;exact h
   have hdc:=cmp_nonneg (kf l (k-1)).t (kf l k).t;rw[hcc0] at hdc;have HAT:Hid (ascAt (kvs l) k=ltK (kf l (k-1)).t (kf l k).t):=by
    show ascAt (kvs l) k=_;unfold ascAt;rw[qbr l k HKL.out,qbr l (k-1) (by have:=HKL.out;omega)];have:decide (k=0)=false:=by simp;omega
    rw[this];rfl
   clear hcc0
   go_upto_region 4 with fail
   cases hls:ltK (kf l (k-1)).t (kf l k).t
   ·rw[hls] at hdc;have hcc:(0:Int)≤cc:=by simpa using hdc
    clear hdc;refine qar (by kernel_rfl) rfl (fun i u x=>match i with
     |0=>u=.func (.func 31) #[] #[]
     |1=>u=.slice (some ⟨b,off,none⟩) n cap
     |2=>u=.int .i64 (k:Int)
     |3=>u=.int .i64 ((k-1:Nat):Int)
     |4=>u=.pointer (some ⟨b,off+(k-1)*3,none⟩)
     |5=>u=.agg (ktK.cells (kf l (k-1)))
     |6=>u=.slice (some ⟨b,off,none⟩) n cap
     |7=>u=.int .i64 (k:Int)
     |8=>u=.pointer (some ⟨b,off+k*3,none⟩)
     |9=>u=.agg (ktK.cells (kf l k))
     |10=>u=.int .i64 cc
     |11=>u=.bool true
     |_=>True) ?_ ?_ ?_
    ·intro i u x x' hx h
     match i,h with
     |0,h=>exact h
     |1,h=>exact h
     |2,h=>exact h
     |3,h=>exact h
     |4,h=>exact h
     |5,h=>exact h
     |6,h=>exact h
     |7,h=>exact h
     |8,h=>exact h
     |9,h=>exact h
     |10,h=>exact h
     |11,h=>exact h
     |(_+12),h=>trivial
    ·intro i o a u hi hk hbu hdep
     match i,hi with
     |0,hi=>
      cases hi;exact g_run (qab rfl _) (qai _ rfl (qaa ((hk.at 1 rfl).trans rfl)) ⟨_,rfl,Below.refl _ _,rfl⟩)
     |1,hi=>
      cases hi;exact g_run (qab rfl _) (qai _ rfl (qaa ((hk.at 0 rfl).trans rfl)) ⟨_,rfl,Below.refl _ _,rfl⟩)
     |2,hi=>
      cases hi;exact g_run (qab rfl _) (qai _ rfl (qaa ((hk.at 5 rfl).trans rfl)) ⟨_,rfl,Below.refl _ _,rfl⟩)
     |3,hi=>
      cases hi;obtain⟨z2,hz2,rfl⟩:=hdep 2 _ _ rfl rfl rfl;exact g_run (qab rfl _) (qcf _ _ _ _ _ rfl (qaa hz2) rfl (subk _ _ _ k hk1) ⟨_,rfl,Below.refl _ _,rfl⟩)
     |4,hi=>
      cases hi;obtain⟨z1,hz1,rfl⟩:=hdep 1 _ _ rfl rfl rfl;obtain⟨z3,hz3,rfl⟩:=hdep 3 _ _ rfl rfl rfl;exact g_run (qab rfl _) (zg_ix (X:=⟨b,off,none⟩) (Y:=⟨b,off+(k-1)*3,none⟩) 25 _ _ rfl (qaa hz1) (qaa hz3) (fun _=>ix_kt b off n cap (k-1) hlt1 _) ⟨_,rfl,Below.refl _ _,rfl⟩)
     |5,hi=>
      cases hi;obtain⟨z4,hz4,rfl⟩:=hdep 4 _ _ rfl rfl rfl;exact g_run (qab rfl _) (g_ldM ktOk (qau hrj hbu) _ rfl (qaa hz4) ⟨_,rfl,Below.refl _ _,rfl⟩)
     |6,hi=>
      cases hi;exact g_run (qab rfl _) (qai _ rfl (qaa ((hk.at 0 rfl).trans rfl)) ⟨_,rfl,Below.refl _ _,rfl⟩)
     |7,hi=>
      cases hi;exact g_run (qab rfl _) (qai _ rfl (qaa ((hk.at 5 rfl).trans rfl)) ⟨_,rfl,Below.refl _ _,rfl⟩)
     |8,hi=>
      cases hi;obtain⟨z6,hz6,rfl⟩:=hdep 6 _ _ rfl rfl rfl;obtain⟨z7,hz7,rfl⟩:=hdep 7 _ _ rfl rfl rfl;exact g_run (qab rfl _) (zg_ix (X:=⟨b,off,none⟩) (Y:=⟨b,off+k*3,none⟩) 25 _ _ rfl (qaa hz6) (qaa hz7) (fun _=>ix_kt b off n cap k hlt _) ⟨_,rfl,Below.refl _ _,rfl⟩)
     |9,hi=>
      cases hi;obtain⟨z8,hz8,rfl⟩:=hdep 8 _ _ rfl rfl rfl;exact g_run (qab rfl _) (g_ldM ktOk (qau hrk hbu) _ rfl (qaa hz8) ⟨_,rfl,Below.refl _ _,rfl⟩)
     |10,hi=>
      cases hi;obtain⟨z0,hz0,rfl⟩:=hdep 0 _ _ rfl rfl rfl;obtain⟨z5,hz5,rfl⟩:=hdep 5 _ _ rfl rfl rfl;obtain⟨z9,hz9,rfl⟩:=hdep 9 _ _ rfl rfl rfl;refine g_run (qab rfl _) (qak (qcl _ _ _ _ _ _ _ _ _ (fun _ _=>by kernel_rfl) (qaa hz0) (qaa hz5) (qaa hz9) _ _ _ _ _ _) ?_);refine (HBY.out u).mono ?_;rintro e u' ⟨rfl,hb'⟩;exact⟨_,rfl,_,rfl,hb',rfl⟩
     |11,hi=>
      cases hi;obtain⟨z10,hz10,rfl⟩:=hdep 10 _ _ rfl rfl rfl;exact g_run (qab rfl _) (qcf _ _ _ _ _ rfl (qaa hz10) rfl (kgei_t _ _ _ _ _ hcc) ⟨_,rfl,Below.refl _ _,rfl⟩)
     |(_+12),hi=>cases hi
    intro vs y3 b3 hG a3 h3;have g9:vs 11=.bool true:=hG 11 (by decide);clear hG;replace h3:puts _ 1 _ Fk24=a3:=h3;replace h3:puts _ 2 _ Fk24=a3:=h3;replace h3:puts _ 3 _ Fk24=a3:=h3;replace h3:puts _ 4 _ Fk24=a3:=h3;replace h3:puts _ 5 _ Fk24=a3:=h3;replace h3:puts _ 6 _ Fk24=a3:=h3;replace h3:puts _ 7 _ Fk24=a3:=h3;replace h3:puts _ 8 _ Fk24=a3:=h3;replace h3:puts _ 9 _ Fk24=a3:=h3;replace h3:puts _ 10 _ Fk24=a3:=h3;replace h3:puts _ 11 _ Fk24=a3:=h3;replace h3:(Act.mk #[_,_,_,_,_,_,_,_,_,_,_,_,_,_,_,_,_,_,_,_,_,_,_,_] [])=a3:=h3;subst h3;simp only[g9];clear g9;go_wp2;go_ret;exact⟨qaf (ascN_no hlt (HAT.out.trans hls)).symm,g_bel hb b3⟩
   ·rw[hls] at hdc;have hcc:¬(0:Int)≤cc:=by simpa using hdc
    clear hdc;refine qar (by kernel_rfl) rfl (fun i u x=>match i with
     |0=>u=.func (.func 31) #[] #[]
     |1=>u=.slice (some ⟨b,off,none⟩) n cap
     |2=>u=.int .i64 (k:Int)
     |3=>u=.int .i64 ((k-1:Nat):Int)
     |4=>u=.pointer (some ⟨b,off+(k-1)*3,none⟩)
     |5=>u=.agg (ktK.cells (kf l (k-1)))
     |6=>u=.slice (some ⟨b,off,none⟩) n cap
     |7=>u=.int .i64 (k:Int)
     |8=>u=.pointer (some ⟨b,off+k*3,none⟩)
     |9=>u=.agg (ktK.cells (kf l k))
     |10=>u=.int .i64 cc
     |11=>u=.bool false
     |_=>True) ?_ ?_ ?_
    ·intro i u x x' hx h
     match i,h with
     |0,h=>exact h
     |1,h=>exact h
     |2,h=>exact h
     |3,h=>exact h
     |4,h=>exact h
     |5,h=>exact h
     |6,h=>exact h
     |7,h=>exact h
     |8,h=>exact h
     |9,h=>exact h
     |10,h=>exact h
     |11,h=>exact h
     |(_+12),h=>trivial
    ·intro i o a u hi hk hbu hdep
     match i,hi with
     |0,hi=>
      cases hi;exact g_run (qab rfl _) (qai _ rfl (qaa ((hk.at 1 rfl).trans rfl)) ⟨_,rfl,Below.refl _ _,rfl⟩)
     |1,hi=>
      cases hi;exact g_run (qab rfl _) (qai _ rfl (qaa ((hk.at 0 rfl).trans rfl)) ⟨_,rfl,Below.refl _ _,rfl⟩)
     |2,hi=>
      cases hi;exact g_run (qab rfl _) (qai _ rfl (qaa ((hk.at 5 rfl).trans rfl)) ⟨_,rfl,Below.refl _ _,rfl⟩)
     |3,hi=>
      cases hi;obtain⟨z2,hz2,rfl⟩:=hdep 2 _ _ rfl rfl rfl;exact g_run (qab rfl _) (qcf _ _ _ _ _ rfl (qaa hz2) rfl (subk _ _ _ k hk1) ⟨_,rfl,Below.refl _ _,rfl⟩)
     |4,hi=>
      cases hi;obtain⟨z1,hz1,rfl⟩:=hdep 1 _ _ rfl rfl rfl;obtain⟨z3,hz3,rfl⟩:=hdep 3 _ _ rfl rfl rfl;exact g_run (qab rfl _) (zg_ix (X:=⟨b,off,none⟩) (Y:=⟨b,off+(k-1)*3,none⟩) 25 _ _ rfl (qaa hz1) (qaa hz3) (fun _=>ix_kt b off n cap (k-1) hlt1 _) ⟨_,rfl,Below.refl _ _,rfl⟩)
     |5,hi=>
      cases hi;obtain⟨z4,hz4,rfl⟩:=hdep 4 _ _ rfl rfl rfl;exact g_run (qab rfl _) (g_ldM ktOk (qau hrj hbu) _ rfl (qaa hz4) ⟨_,rfl,Below.refl _ _,rfl⟩)
     |6,hi=>
      cases hi;exact g_run (qab rfl _) (qai _ rfl (qaa ((hk.at 0 rfl).trans rfl)) ⟨_,rfl,Below.refl _ _,rfl⟩)
     |7,hi=>
      cases hi;exact g_run (qab rfl _) (qai _ rfl (qaa ((hk.at 5 rfl).trans rfl)) ⟨_,rfl,Below.refl _ _,rfl⟩)
     |8,hi=>
      cases hi;obtain⟨z6,hz6,rfl⟩:=hdep 6 _ _ rfl rfl rfl;obtain⟨z7,hz7,rfl⟩:=hdep 7 _ _ rfl rfl rfl;exact g_run (qab rfl _) (zg_ix (X:=⟨b,off,none⟩) (Y:=⟨b,off+k*3,none⟩) 25 _ _ rfl (qaa hz6) (qaa hz7) (fun _=>ix_kt b off n cap k hlt _) ⟨_,rfl,Below.refl _ _,rfl⟩)
     |9,hi=>
      cases hi;obtain⟨z8,hz8,rfl⟩:=hdep 8 _ _ rfl rfl rfl;exact g_run (qab rfl _) (g_ldM ktOk (qau hrk hbu) _ rfl (qaa hz8) ⟨_,rfl,Below.refl _ _,rfl⟩)
     |10,hi=>
      cases hi;obtain⟨z0,hz0,rfl⟩:=hdep 0 _ _ rfl rfl rfl;obtain⟨z5,hz5,rfl⟩:=hdep 5 _ _ rfl rfl rfl;obtain⟨z9,hz9,rfl⟩:=hdep 9 _ _ rfl rfl rfl;refine g_run (qab rfl _) (qak (qcl _ _ _ _ _ _ _ _ _ (fun _ _=>by kernel_rfl) (qaa hz0) (qaa hz5) (qaa hz9) _ _ _ _ _ _) ?_);refine (HBY.out u).mono ?_;rintro e u' ⟨rfl,hb'⟩;exact⟨_,rfl,_,rfl,hb',rfl⟩
     |11,hi=>
      cases hi;obtain⟨z10,hz10,rfl⟩:=hdep 10 _ _ rfl rfl rfl;exact g_run (qab rfl _) (qcf _ _ _ _ _ rfl (qaa hz10) rfl (kgei_f _ _ _ _ _ hcc) ⟨_,rfl,Below.refl _ _,rfl⟩)
     |(_+12),hi=>cases hi
    intro vs y3 b3 hG a3 h3;have g9:vs 11=.bool false:=hG 11 (by decide);clear hG;replace h3:puts _ 1 _ Fk24=a3:=h3;replace h3:puts _ 2 _ Fk24=a3:=h3;replace h3:puts _ 3 _ Fk24=a3:=h3;replace h3:puts _ 4 _ Fk24=a3:=h3;replace h3:puts _ 5 _ Fk24=a3:=h3;replace h3:puts _ 6 _ Fk24=a3:=h3;replace h3:puts _ 7 _ Fk24=a3:=h3;replace h3:puts _ 8 _ Fk24=a3:=h3;replace h3:puts _ 9 _ Fk24=a3:=h3;replace h3:puts _ 10 _ Fk24=a3:=h3;replace h3:puts _ 11 _ Fk24=a3:=h3;replace h3:(Act.mk #[_,_,_,_,_,_,_,_,_,_,_,_,_,_,_,_,_,_,_,_,_,_,_,_] [])=a3:=h3;subst h3;simp only[g9];clear g9;go_wp2;go_roundw
    case rel=>exact⟨k+1,by go_num,by omega,.inl (by omega),ascN_step hT.out (HAT.out.trans hls),g_bel hb b3⟩
    case measure=>simp[intOf]<;>omega
  ·have hlt':¬(k:Int)<n:=by omega
   have HA:Hid (ascN (kvs l) n=true):=by
    show ascN (kvs l) n=true
    rcases hkn.out with h | h
    ·obtain rfl:k=n:=by omega
     exact hT.out
    ·have:n=0∨n=1:=by omega
     rcases this with rfl | rfl<;>simp[ascN,ascAt]
   go_wp2;go_ret;exact⟨qaf HA.out.symm,hb⟩
theorem qgr (t:ByteArray) (a:Option Addr) (n c:Nat) (q:Int) (r:Bool) (w:World) (ht:t.size≤1048576) (hn:n≤1099511627776) (h:(topOk t.data.toList&&(decide ((n:Int)≤40)&&decide (0≤q∧q≤2)))=r) :
  Calls Tryd.prog 36 #[.agg #[.string t,.slice a n c,.int .i64 q]] w fun e w'=>e=.returned (.bool r)∧Below w.heap.size w w':=by
 have H:Hid ((topOk t.data.toList&&(decide ((n:Int)≤40)&&decide (0≤q∧q≤2)))=r):=h;clear h;have C1:=qdg t (w.alloc (.cells #[.string t,.slice a n c,.int .i64 q] 57)) ht;have hb0:Below w.heap.size w (w.alloc (.cells #[.string t,.slice a n c,.int .i64 q] 57)):=(Below.refl _ _).alloc (Nat.le_refl _) _;have A0:=heap_alloc_new w (.cells #[.string t,.slice a n c,.int .i64 q] 57);have HB0:Hid (Below w.heap.size w (w.alloc (.cells #[.string t,.slice a n c,.int .i64 q] 57))):=hb0;have HA0:Hid ((w.alloc (.cells #[.string t,.slice a n c,.int .i64 q] 57)).heap[w.heap.size]? = some (.cells #[.string t,.slice a n c,.int .i64 q] 57)):=A0;clear hb0 A0;go_enter Tryd.func36,Tryd.ntmps36;go_wp2_with fail
 cases hto:topOk t.data.toList
 ·rw[hto] at C1;have HR:Hid (r=false):=by show r=false;rw[←H.out,hto];rfl
  refine C1.mono ?_;rintro e w2 ⟨rfl,hb⟩;have HB:Hid (Below w.heap.size w w2):=HB0.out.trans (hb.mono HB0.out.size);clear C1 hb hto;go_wp2;go_ret;exact⟨qaf HR.out.symm,HB.out⟩
 ·rw[hto] at C1;refine C1.mono ?_;rintro e w2 ⟨rfl,hb⟩;have HB:Hid (Below w.heap.size w w2):=HB0.out.trans (hb.mono HB0.out.size);have b1:w2.cell? ⟨w.heap.size,1,none⟩ = some (.slice a n c):=qal (qbd hb HA0.out) 1;have b2:w2.cell? ⟨w.heap.size,2,none⟩ = some (.int .i64 q):=qal (qbd hb HA0.out) 2;clear C1 hb
  by_cases h40:(n:Int)≤40
  ·cases hq:decide (0≤q∧q≤2)
   ·have HR:Hid (r=false):=by show r=false;rw[←H.out,hto,hq];simp
    clear hto;go_wp2_with fail
    refine (qfb q false _ hq).mono ?_;rintro e w3 ⟨rfl,rfl⟩;clear hq;go_wp2;go_ret;exact⟨qaf HR.out.symm,HB.out⟩
   ·have HR:Hid (r=true):=by show r=true;rw[←H.out,hto,hq,decide_eq_true h40];rfl
    clear hto;go_wp2_with fail
    refine (qfb q true _ hq).mono ?_;rintro e w3 ⟨rfl,rfl⟩;clear hq;go_wp2;go_ret;exact⟨qaf HR.out.symm,HB.out⟩
  ·have HR:Hid (r=false):=by show r=false;rw[←H.out,hto,decide_eq_false h40];rfl
   clear hto;go_wp2;go_ret;exact⟨qaf HR.out.symm,HB.out⟩
theorem qfp (t:ByteArray) (a:Option Addr) (n c:Nat) (q:Int) (w:World) :
  Calls Tryd.prog 61 #[.agg #[.string t,.slice a n c,.int .i64 q]] w fun e w'=>e=.returned (.bool (decide ((n:Int)=0)))∧Below w.heap.size w w':=by
 go_enter Tryd.func61,Tryd.ntmps61;go_wp2;go_ret;exact⟨qaf (show ((n:Int)==0)=decide ((n:Int)=0) from by cases hh:((n:Int)==0)<;>simp_all),(Below.refl _ _).alloc (Nat.le_refl _) _⟩
theorem qeq (t:ByteArray) (a:Option Addr) (n c:Nat) (q:Int) (b:List UInt8) (w:World) (ht:t.size≤1048576) (hn:n≤1099511627776) (hb:b.length=n) :
  Calls Tryd.prog 33 #[.agg #[.string t,.slice a n c,.int .i64 q]] w fun e w'=>e=.returned (.bool (Kv.ok ⟨t,b,q⟩))∧Below w.heap.size w w':=by
 have HP:Hid (Kv.ok ⟨t,b,q⟩ = _):=ok_parts t b q n hb;clear hb;have hb0:Below w.heap.size w (w.alloc (.cells #[.string t,.slice a n c,.int .i64 q] 57)):=(Below.refl _ _).alloc (Nat.le_refl _) _;have A0:=heap_alloc_new w (.cells #[.string t,.slice a n c,.int .i64 q] 57);have HB0:Hid (Below w.heap.size w (w.alloc (.cells #[.string t,.slice a n c,.int .i64 q] 57))):=hb0;have HA0:Hid ((w.alloc (.cells #[.string t,.slice a n c,.int .i64 q] 57)).heap[w.heap.size]? = some (.cells #[.string t,.slice a n c,.int .i64 q] 57)):=A0;clear hb0 A0;go_enter Tryd.func33,Tryd.ntmps33;go_wp2_with fail
 obtain⟨r,hr⟩ : ∃r,(topOk t.data.toList&&(decide ((n:Int)≤40)&&decide (0≤q∧q≤2)))=r:=⟨_,rfl⟩;have HR:Hid (Kv.ok ⟨t,b,q⟩ = (r&&!decide ((n:Int)=0))):=by rw[←hr];exact HP.out
 refine (qgr t a n c q r _ ht hn hr).mono ?_;rintro e w2 ⟨rfl,hb⟩;clear hr;have HB:Hid (Below w.heap.size w w2):=HB0.out.trans (hb.mono HB0.out.size);have b0:w2.cell? ⟨w.heap.size,0,none⟩ = some (.string t):=qal (qbd hb HA0.out) 0;have b1:w2.cell? ⟨w.heap.size,1,none⟩ = some (.slice a n c):=qal (qbd hb HA0.out) 1;have b2:w2.cell? ⟨w.heap.size,2,none⟩ = some (.int .i64 q):=qal (qbd hb HA0.out) 2;clear hb;cases r
 ·go_wp2;go_ret;exact⟨qaf HR.out.symm,HB.out⟩
 ·go_wp2_with fail
  refine (qfp t a n c q _).mono ?_;rintro e w3 ⟨rfl,hb3⟩;have HB3:Hid (Below w.heap.size w w3):=HB.out.trans (hb3.mono HB.out.size);clear hb3;go_wp2;go_ret;exact⟨qaf (by rw[HR.out];simp),HB3.out⟩
theorem each_kept (ao:Option Addr) (n cap:Nat) (l:KtL) (w:World) (hr:KRd w ao n cap l) (hs:∀x∈l,x.1.t.size≤1048576∧x.1.n≤1099511627776) :
  Calls Tryd.prog 32 #[.slice ao n cap,.func (.func 33) #[] #[]] w fun e w'=>e=.returned (.bool ((kvs l).all Kv.ok))∧Below w.heap.size w w':=by
 have HL:Hid (l.length=n):=hr.len;have HR:Hid (KRd w ao n cap l):=hr;have hM:=hr.cap;unfold maxLen at hM;have HS:Hid (∀x∈l,x.1.t.size≤1048576∧x.1.n≤1099511627776):=hs;clear hr hs;go_enter Tryd.func32,Tryd.ntmps32;go_wp2
 go_loopw [9] (fun i wr=>∃k:Nat,i=.int .i64 k∧k≤n∧Hid ((List.range k).all (fun i=>(vat (kvs l) i).ok)=true)∧Below w.heap.size w wr) (fun i _=>n-(intOf i).toNat)
 case atStart=>exact⟨0,rfl,Nat.zero_le _,rfl,Below.refl _ _⟩
 case round=>
  obtain⟨k,rfl,hk,hT,hb⟩:=hrel
  by_cases hlt:k<n
  ·obtain⟨b,off,e,hc,hd,hq,hR⟩:=HR.out.get k hlt;subst e;have hck:wr.cell? ⟨b,off+k*3,none⟩ = some (.string (kf l k).t):=(hb.cell (World.block_lt_of_cell? w _ hc)).trans hc;have hdk:wr.cell? ⟨b,off+k*3+1,none⟩ = some (.slice (kf l k).a (kf l k).n (kf l k).c):=(hb.cell (World.block_lt_of_cell? w _ hd)).trans hd;have hqk:wr.cell? ⟨b,off+k*3+2,none⟩ = some (.int .i64 (kf l k).q):=(hb.cell (World.block_lt_of_cell? w _ hq)).trans hq;have hlt':(k:Int)<n:=by omega
   have HKL:Hid (k<l.length):=by show k<l.length;rw[HL.out];exact hlt
   have HDN:Hid ((kd l k).length=(kf l k).n):=hR.1.1;have HV:Hid (vat (kvs l) k = ⟨(kf l k).t,kd l k,(kf l k).q⟩):=qbr l k HKL.out;obtain⟨hts,hns⟩:=HS.out _ (kf_mem HKL.out);clear hc hd hq hR;go_wp2_with fail
   have hbw:Below w.heap.size w (wr.alloc (.cells #[.string (kf l k).t,.slice (kf l k).a (kf l k).n (kf l k).c,.int .i64 (kf l k).q] 57)):=hb.alloc hb.size _;refine (qeq (kf l k).t (kf l k).a (kf l k).n (kf l k).c (kf l k).q (kd l k) _ hts hns HDN.out).mono ?_;rintro e w2 ⟨he,hw2⟩;have hb2:=hbw.trans (hw2.mono hbw.size);clear hw2 hbw;obtain⟨v,hv⟩ : ∃v,Kv.ok ⟨(kf l k).t,kd l k,(kf l k).q⟩ = v:=⟨_,rfl⟩;rw[hv] at he;obtain rfl:=he;have HVV:Hid ((vat (kvs l) k).ok=v):=by show (vat (kvs l) k).ok=v;rw[HV.out];exact hv
   clear hv;cases v
   ·have HN:Hid ((kvs l).all Kv.ok=false):=by
     show (kvs l).all Kv.ok=false;rw[←qgt (kvs l) Kv.ok,List.all_eq_false];exact⟨k,List.mem_range.2 (by rw[kvs_length];exact HKL.out),by rw[HVV.out];decide⟩
    go_wp2;go_ret;exact⟨qaf HN.out.symm,hb2⟩
   ·have HS2:Hid ((List.range (k+1)).all (fun i=>(vat (kvs l) i).ok)=true):=by
     show (List.range (k+1)).all (fun i=>(vat (kvs l) i).ok)=true;rw[List.range_succ,List.all_append,hT.out];simp[HVV.out]
    go_wp2;go_roundw
    case rel=>exact⟨k+1,by go_num,by omega,HS2,hb2⟩
    case measure=>simp[intOf];omega
  ·have hlt':¬(k:Int)<n:=by omega
   obtain rfl:k=n:=by omega
   have HA:Hid ((kvs l).all Kv.ok=true):=by
    show (kvs l).all Kv.ok=true;rw[←qgt (kvs l) Kv.ok,kvs_length,HL.out];exact hT.out
   go_wp2;go_ret;exact⟨qaf HA.out.symm,hb⟩
theorem ok_iKeptOk (ao:Option Addr) (n cap:Nat) (l:KtL) (w:World) (hr:KRd w ao n cap l) (hn:n≤1048576) (hs:∀x∈l,x.1.t.size≤1048576∧x.1.n≤1099511627776) :
  Calls Tryd.prog 10 #[.slice ao n cap] w fun e w'=>e=.returned (.bool (keptB (kvs l)))∧Below w.heap.size w w':=by
 have HP:Hid (keptB (kvs l)=(decide (n≤8)&&(ascN (kvs l) n&&(kvs l).all Kv.ok))):=by
  have h:=kept_parts (kvs l);rw[kvs_length,hr.len] at h;exact h
 have HR:Hid (KRd w ao n cap l):=hr;have HS:Hid (∀x∈l,x.1.t.size≤1048576∧x.1.n≤1099511627776):=hs;clear hr hs
 by_cases h8:n≤8
 ·have h8':(n:Int)≤8:=by omega
  have HP1:Hid (keptB (kvs l)=(ascN (kvs l) n&&(kvs l).all Kv.ok)):=by
   have h:=HP.out;rw[decide_eq_true h8,Bool.true_and] at h;exact h
  go_enter Tryd.func10,Tryd.ntmps10;go_wp2_with fail
  refine (asc_kept ao n cap l _ HR.out hn).mono ?_;rintro e w2 ⟨he,hb⟩;obtain⟨v,hv⟩ : ∃v,ascN (kvs l) n=v:=⟨_,rfl⟩;rw[hv] at he;obtain rfl:=he;have HP2:Hid (keptB (kvs l)=(v&&(kvs l).all Kv.ok)):=by
   have h:=HP1.out;rw[hv] at h;exact h
  clear hv;cases v
  ·go_wp2;go_ret;exact⟨qaf HP2.out.symm,hb⟩
  ·go_wp2_with fail
   refine (each_kept ao n cap l _ (HR.out.below hb) HS.out).mono ?_;rintro e w3 ⟨rfl,hb3⟩;replace hb:=g_bel hb hb3;clear hb3;go_wp2;go_ret;exact⟨qaf (by rw[HP2.out,Bool.true_and]),hb⟩
 ·have h8':¬(n:Int)≤8:=by omega
  have HP1:Hid (keptB (kvs l)=false):=by
   have h:=HP.out;rw[decide_eq_false h8,Bool.false_and] at h;exact h
  go_enter Tryd.func10,Tryd.ntmps10;go_wp2;go_ret;exact⟨qaf HP1.out.symm,Below.refl _ _⟩
theorem ktot_mem {l:KtL} {x:Kt×List UInt8} (h:x∈l):x.1.t.size+x.1.n≤ktot l:=by
 induction l with
 |nil=>cases h
 |cons a r ih=>
  have e:ktot (a :: r)=(a.1.t.size+a.1.n)+ktot r:=rfl
  rcases List.mem_cons.1 h with rfl | h
  ·omega
  ·have:=ih h;omega
theorem KDone.get {w:World} {B g n:Nat} {l:KtL} (h:KDone w B g n l n) (hl:l.length=n):∃ds:KtL,kvs ds=kvs l∧KOwn w B (some ⟨g,0,none⟩) n n ds∧∀i,i<n→(kf ds i).n=(kf l i).n:=by
 obtain⟨ds,h1,h2,h4,h3⟩:=h;rw[Nat.sub_self] at h3;rw[List.take_of_length_le (by omega)] at h2;exact⟨ds,h2,by simpa using h3,h4⟩
theorem kt_bounds {ds l:KtL} (hl:ds.length=l.length) (hv:kvs ds=kvs l) (hn:∀x∈ds,x.2.length=x.1.n) (h:∀i,i<l.length→(kf l i).t.size≤1048576∧(kd l i).length≤1048576):∀x∈ds,x.1.t.size≤1048576∧x.1.n≤1048576:=by
 intro x hx;obtain⟨i,hi,e⟩:=List.mem_iff_getElem.1 hx;obtain⟨s1,s2,_⟩:=kvs_same hv i hi;have hh:=h i (by omega);have e1:kf ds i=x.1:=by simp[kf,List.getD_eq_getElem?_getD,List.getElem?_eq_getElem hi,e]
 have e2:kd ds i=x.2:=by simp[kd,List.getD_eq_getElem?_getD,List.getElem?_eq_getElem hi,e]
 rw[e1] at s1;rw[e2] at s2;have:=hn x hx;rw[s1,←this,s2];exact hh
theorem keptB_eq {ds l:KtL} {B:Bool} (h:kvs ds=kvs l) (e:keptB (kvs l)=B):keptB (kvs ds)=B:=by rw[h,e]

def mtF:Nat→Nat→List UInt8→List UInt8
 |0,_,acc=>109 :: acc
 |f+1,k,acc=>if k=0 then 109 :: acc else mtF f (k / 10) (UInt8.ofNat (48+k%10) :: acc)
def mtx (k:Nat):ByteArray:=⟨(mtF k k []).toArray⟩
theorem mtF_zero (f:Nat) (acc:List UInt8):mtF f 0 acc=109 :: acc:=by cases f<;>simp[mtF]
theorem mtF_step (f k:Nat) (acc:List UInt8) (h:0<k):mtF (f+1) k acc=mtF f (k / 10) (UInt8.ofNat (48+k%10) :: acc):=by
 rw[mtF,if_neg (by omega)]

theorem one_rd (w:World) (x:UInt8):RdIn (w.alloc (.cells #[.int .u8 (x.toNat:Int)] 5)) (some ⟨w.heap.size,0,none⟩) 1 1 [x]:=by
 refine⟨⟨rfl,fun i hi=>⟨w.heap.size,0,rfl,?_⟩⟩,Nat.le_refl _,by unfold maxLen;omega,fun h=>by simp at h⟩;obtain rfl:i=0:=by omega
 rw[qdq];rfl

theorem qck (k0:Nat) (w:World) (h0:0<k0) (hk0:k0≤1099511627776) :
  Calls Tryd.prog 39 #[.int .i64 k0] w fun e w'=>e=.returned (.string (mtx k0))∧Below w.heap.size w w':=by
 have h0':¬(k0:Int)≤0:=by omega
 go_enter Tryd.func39,Tryd.ntmps39;go_wp2
 go_loopw [0,3] (fun q o wr=>∃(k f:Nat) (s:ByteArray),q=.int .i64 k∧o=.string s∧k≤f∧s.size+k≤k0∧mtF f k s.data.toList=mtF k0 k0 []∧Below w.heap.size w wr) (fun q _ _=>(intOf q).toNat)
 case atStart=>exact⟨k0,k0,_,rfl,rfl,Nat.le_refl _,Nat.le_of_eq (Nat.zero_add _),rfl,Below.refl _ _⟩
 case round=>
  obtain⟨k,f,s,rfl,rfl,hf,hz,hm,hb⟩:=hrel;have HM:Hid (mtF f k s.data.toList=mtF k0 k0 []):=hm;clear hm
  by_cases hk:0<k
  ·have hk':(0:Int)<k:=by omega
   obtain⟨x,hx⟩ : ∃x,UInt8.ofNat (48+k%10)=x:=⟨_,rfl⟩;have hxn:(x.toNat:Int)=48+(k:Int)%10:=by rw[←hx];simp;omega
   have hcv:=conv_rd (one_rd wr x);rw[hxn] at hcv;obtain⟨d,hd⟩ : ∃d:ByteArray,(⟨[x].toArray⟩ : ByteArray)=d:=⟨_,rfl⟩;rw[hd] at hcv;have hds:d.size=1:=by rw[←hd];rfl
   have HD:Hid (d.data.toList = [UInt8.ofNat (48+k%10)]):=by unfold Hid;rw[←hd,hx]
   have hq:¬9223372036854775807<d.size+s.size:=by omega
   clear hx hxn hd;go_wp2;go_roundw
   case rel=>
    cases f with
    |zero=>omega
    |succ f=>
     refine⟨k / 10,f,_,by go_num,rfl,by omega,?_,?_,hb.alloc hb.size _⟩
     ·simp only[ByteArray.size_append];omega
     ·rw[←HM.out,mtF_step f k _ hk];simp[HD.out]
   case measure=>simp[intOf]<;>omega
  ·have hk':¬(0:Int)<k:=by omega
   obtain rfl:k=0:=by omega
   have hq:¬9223372036854775807<1+s.size:=by omega
   go_wp2;go_ret;refine⟨?_,hb⟩;have hm:=HM.out;rw[mtF_zero] at hm;have:(⟨#[109]⟩++s:ByteArray)=mtx k0:=by
    apply ba_eq
    rw[←hm];simp
   rw[this];rfl


theorem eq_leqKept (t:ByteArray) (a a1:Option Addr) (n c c1:Nat) (q:Int) (d:List UInt8) (w:World) (hr:RdIn w a n c d) (h1:RdIn w a1 n c1 d) (hn:n≤1099511627776) :
  Calls Tryd.prog 34 #[.agg #[.string t,.slice a n c,.int .i64 q],.agg #[.string t,.slice a1 n c1,.int .i64 q]] w fun e w'=>e=.returned (.bool true)∧Below w.heap.size w w':=by
 have e1:=qel t;have e2:(q != q)=false:=by simp
 have hb0:Below w.heap.size w ((w.alloc (.cells #[.string t,.slice a n c,.int .i64 q] 57)).alloc (.cells #[.string t,.slice a1 n c1,.int .i64 q] 57)):=((Below.refl _ _).alloc (Nat.le_refl _) _).alloc (by simp) _;have r0:=hr.below hb0;have r1:=h1.below hb0;have HB0:Hid (Below w.heap.size w ((w.alloc (.cells #[.string t,.slice a n c,.int .i64 q] 57)).alloc (.cells #[.string t,.slice a1 n c1,.int .i64 q] 57))):=hb0;clear hr h1 hb0;go_enter Tryd.func34,Tryd.ntmps34;go_wp2_with fail
 refine (qgz a a1 n c c1 d _ r0 r1 hn).mono ?_;rintro e y ⟨rfl,hb⟩;have A0:((w.alloc (.cells #[.string t,.slice a n c,.int .i64 q] 57)).alloc (.cells #[.string t,.slice a1 n c1,.int .i64 q] 57)).heap[w.heap.size]? = some (.cells #[.string t,.slice a n c,.int .i64 q] 57):=(Below.heap_alloc _ _ _ (by simp)).trans (heap_alloc_new w _);have A1:((w.alloc (.cells #[.string t,.slice a n c,.int .i64 q] 57)).alloc (.cells #[.string t,.slice a1 n c1,.int .i64 q] 57)).heap[w.heap.size+1]? = some (.cells #[.string t,.slice a1 n c1,.int .i64 q] 57):=by
  have e:=heap_alloc_new (w.alloc (.cells #[.string t,.slice a n c,.int .i64 q] 57)) (.cells #[.string t,.slice a1 n c1,.int .i64 q] 57);rw[show (w.alloc (.cells #[.string t,.slice a n c,.int .i64 q] 57)).heap.size=w.heap.size+1 from by simp] at e;exact e
 have q0:y.cell? ⟨w.heap.size,2,none⟩ = some (.int .i64 q):=qal (qbd hb A0) 2;have q1:y.cell? ⟨w.heap.size+1,2,none⟩ = some (.int .i64 q):=qal (qbd hb A1) 2;have HB:Hid (Below w.heap.size w y):=HB0.out.trans (hb.mono HB0.out.size);clear A0 A1 hb HB0 r0 r1;go_wp2;go_ret;exact⟨rfl,HB.out⟩
theorem eq_leqKeptS (ao a1:Option Addr) (n cap cap1:Nat) (l l1:KtL) (w:World) (hr:KRd w ao n cap l) (h1:KRd w a1 n cap1 l1) (he:kvs l=kvs l1) (hn:n≤1099511627776) (hm:∀i,i<n→(kd l i).length≤1099511627776) :
  Calls Tryd.prog 11 #[.slice ao n cap,.slice a1 n cap1] w fun e w'=>e=.returned (.bool true)∧Below w.heap.size w w':=by
 have hne:((n:Int) != n)=false:=by simp
 have HR:Hid (KRd w ao n cap l):=hr;have H1:Hid (KRd w a1 n cap1 l1):=h1;have HE:Hid (∀i,i<n→(kf l i).t=(kf l1 i).t∧kd l i=kd l1 i∧(kf l i).q=(kf l1 i).q):=fun i hi=>kvs_same he i (by rw[hr.len];exact hi)
 have HM:Hid (∀i,i<n→(kd l i).length≤1099511627776):=hm;clear hr h1 he hm;go_enter Tryd.func11,Tryd.ntmps11;go_wp2
 go_loopw [5] (fun i wr=>∃k:Nat,i=.int .i64 k∧k≤n∧Below w.heap.size w wr) (fun i _=>n-(intOf i).toNat)
 case atStart=>exact⟨0,rfl,Nat.zero_le _,Below.refl _ _⟩
 case round=>
  obtain⟨k,rfl,hk,hb⟩:=hrel
  by_cases hlt:k<n
  ·obtain⟨b,off,e,hc,hd,hq,hR⟩:=HR.out.get k hlt;subst e;obtain⟨b1,off1,e1,hc1,hd1,hq1,hR1⟩:=H1.out.get k hlt;subst e1;obtain⟨s1,s2,s3⟩:=HE.out k hlt;have hM:=HM.out k hlt;rw[←s1] at hc1;rw[←s3] at hq1;rw[←s2] at hR1;have hn1:(kf l1 k).n=(kf l k).n:=by rw[←hR1.1.1,←hR.1.1]
   rw[hn1] at hd1 hR1;have hnn:(kf l k).n≤1099511627776:=by rw[←hR.1.1];exact hM
   have hck:wr.cell? ⟨b,off+k*3,none⟩ = some (.string (kf l k).t):=(hb.cell (World.block_lt_of_cell? w _ hc)).trans hc;have hdk:wr.cell? ⟨b,off+k*3+1,none⟩ = some (.slice (kf l k).a (kf l k).n (kf l k).c):=(hb.cell (World.block_lt_of_cell? w _ hd)).trans hd;have hqk:wr.cell? ⟨b,off+k*3+2,none⟩ = some (.int .i64 (kf l k).q):=(hb.cell (World.block_lt_of_cell? w _ hq)).trans hq;have hck1:wr.cell? ⟨b1,off1+k*3,none⟩ = some (.string (kf l k).t):=(hb.cell (World.block_lt_of_cell? w _ hc1)).trans hc1;have hdk1:wr.cell? ⟨b1,off1+k*3+1,none⟩ = some (.slice (kf l1 k).a (kf l k).n (kf l1 k).c):=(hb.cell (World.block_lt_of_cell? w _ hd1)).trans hd1;have hqk1:wr.cell? ⟨b1,off1+k*3+2,none⟩ = some (.int .i64 (kf l k).q):=(hb.cell (World.block_lt_of_cell? w _ hq1)).trans hq1;have C:Hid (∀u,Below wr.heap.size wr u→Calls Tryd.prog 34 #[.agg #[.string (kf l k).t,.slice (kf l k).a (kf l k).n (kf l k).c,.int .i64 (kf l k).q],.agg #[.string (kf l k).t,.slice (kf l1 k).a (kf l k).n (kf l1 k).c,.int .i64 (kf l k).q]] u fun e w'=>e=.returned (.bool true)∧Below u.heap.size u w'):=fun u hu=>eq_leqKept _ _ _ _ _ _ _ (kd l k) u ((hR.below hb).below hu) ((hR1.below hb).below hu) hnn
   have hlt':(k:Int)<n:=by omega
   have k0:(0:Int)≤k:=by omega
   clear hc hd hq hc1 hd1 hq1 hR hR1 s1 s2 s3 hM hn1;go_wp2
   go_region_with (go_at_call 34;refine (C.out _ (below_drewN (Below.refl _ _) 1)).mono ?_;rintro e w1 ⟨rfl,hb1⟩)
   all_goals
    go_wp2;go_roundw
    case rel=>exact⟨k+1,by go_num,by omega,(below_drewN hb 1).trans (hb1.mono hb.size)⟩
    case measure=>simp[intOf]<;>omega
  ·have hlt':¬(k:Int)<n:=by omega
   go_wp2;go_ret;exact⟨rfl,hb⟩
open Go.ChangeShapes Go.WideShapes Go.ChangeAt Go.RowKit
open Go.ChangeMaps (open_string shut_string)

theorem IRd.of_ints {w:World} {x:Addr} {len cap:Nat} {zs:List Int} (hl:len≤cap) (hm:cap≤maxLen) (hz:len≤zs.length)
  (hcell:∀i,i<zs.length→w.cell? (x.add i)=some (.int .i64 (zs.getD i 0))):IRd w (some x) len cap (zs.take len):=by
 refine⟨⟨by simp;omega,fun i hi=>?_⟩,hl,hm,fun h=>by simp at h⟩;obtain⟨b,off,spot⟩:=x;have hc0:=hcell 0 (by omega);have hspot:spot=none:=by simpa[Addr.add] using World.cell?_spot hc0
 subst hspot;have hc:=hcell i (by omega);refine⟨b,off,rfl,?_⟩;rw[Addr.add_lit] at hc;rw[hc];simp[nt,List.getD_eq_getElem?_getD,List.getElem?_take,hi]
section
variable {H : Type} {enc : TypeId × Value → H} {W : World} {fuel : Nat} {cs : List Value} {x : DataW H × List MemPlace}
theorem open_bytes (h:DataW.trod enc Tryd.prog W 0 (fun _=>true) true fuel 29 cs=some x):∃ao n cap l,cs = [.slice ao n cap]∧RdIn W ao n cap l:=by
 rcases open_ints Tryd.underlying29 Tryd.underlying5 (by kernel_rfl) h with ⟨hcs,_⟩ | ⟨y,l,c,zs,hcs,_,hl,hm,hz,_,hcell,hwz⟩
 ·exact⟨_,_,_,[],hcs,RdIn.nil _⟩
 ·obtain⟨r,hr⟩:=RdIn.of_ints hl hm (by simpa using hz) hcell hwz;exact⟨_,_,_,r,hcs,hr⟩
end
open Go.ChangeMaps (open_string shut_string)

section
variable {H : Type} {enc : TypeId × Value → H} {W : World} {fuel : Nat} {cs : List Value} {x : DataW H × List MemPlace}
theorem open_kepts (h:DataW.trod enc Tryd.prog W 0 (fun _=>true) true fuel 22 cs=some x):∃ao n cap,∃l:KtL,cs = [.slice ao n cap]∧KRd W ao n cap l∧∀y∈l,y.1.t.size≤maxLen:=by
 have ce:Tryd.prog.cellsOf 55=3:=by kernel_rfl
 rcases Go.Deep.open_slice Tryd.underlying22 h with ⟨hcs,_⟩ | ⟨a,len,cap,m,n,D,Pl,hcs,_,hl,hm,hmm,_,hx⟩
 ·refine⟨none,0,0,[],hcs,⟨⟨⟨rfl,fun i hi=>by omega⟩,Nat.le_refl _,Nat.zero_le _,fun _=>rfl⟩,fun y hy=>by cases hy⟩,fun y hy=>by cases hy⟩
 ·have hlm:len≤m:=by rw[hmm];simpa using hl
  have each:∀i,i<m→∃q:Kt×List UInt8,(∀j v,q.1.cells[j]? = some v→W.cell? ((a.add (i*3)).add j)=some v)∧RdIn W q.1.a q.1.n q.1.c q.2∧q.1.t.size≤maxLen:=by
   intro i hi;obtain⟨cs',h1,h2⟩:=hx i hi;rw[ce] at h1;obtain⟨_,hlen,hcell⟩:=World.cells?_some h1;obtain⟨xs,k,_,_,_,hxl,hf⟩:=DataW.trod_struct Tryd.underlying55 h2;have hxs:xs.length=3:=hxl
   match cs',hlen,xs,hxs with
   |[v0,v1,v2],_,[y0,y1,y2],_=>
    have q0:DataW.trod enc Tryd.prog W 0 (fun _=>true) true k 9 [v0]=some y0:=hf 0 _ rfl;have q1:DataW.trod enc Tryd.prog W 0 (fun _=>true) true k 29 [v1]=some y1:=hf 1 _ rfl;have q2:DataW.trod enc Tryd.prog W 0 (fun _=>true) true k 3 [v2]=some y2:=hf 2 _ rfl;obtain⟨s,e0,_,hs⟩:=DataW.trod_string Tryd.underlying9 q0;obtain⟨ao,bn,bc,bl,e1,hb⟩:=open_bytes q1;obtain⟨z,e2,_,_⟩:=DataW.trod_int Tryd.underlying3 q2;simp only[List.cons.injEq,and_true] at e0 e1 e2;subst e0 e1 e2;refine⟨(⟨s,ao,bn,bc,z⟩,bl),fun j v hj=>?_,hb,hs⟩;have hj3:j<3:=by
     have:=(Array.getElem?_eq_some_iff.1 hj).1
     simpa[Kt.cells] using this
    have:=hcell j hj3;rw[this]
    match j,hj3,hj with
    |0,_,hj=>exact hj
    |1,_,hj=>exact hj
    |2,_,hj=>exact hj
  haveI:Inhabited (Kt×List UInt8):=⟨(Kt.zero,[])⟩
  obtain⟨q,hq⟩:=Go.Deep.choose_lt each;have hat:∀i,i<len→kf ((List.range len).map q) i=(q i).1:=fun i hi=>by
   simp[kf,List.getD_eq_getElem?_getD,List.getElem?_map,List.getElem?_range hi]
  refine⟨some a,len,cap,(List.range len).map q,hcs,⟨⟨⟨by simp[kts],fun i hi=>?_⟩,hl,hm,fun h=>by simp at h⟩,fun y hy=>?_⟩,fun y hy=>?_⟩
  ·obtain⟨b,off,spot⟩:=a;have hc0:=(hq 0 (by omega)).1 0 _ rfl;have hspot:spot=none:=by
    have:=World.cell?_spot hc0
    simpa[Addr.add] using this
   subst hspot;refine⟨b,off,rfl,fun j v hj=>?_⟩;rw[kts_at,hat i hi] at hj;have:=(hq i (by omega)).1 j v (by rw[←Array.getElem?_toList];exact hj);rw[Addr.add_lit,Addr.add_lit] at this;exact this
  ·simp only[List.mem_map,List.mem_range] at hy;obtain⟨i,hi,rfl⟩:=hy;exact (hq i (by omega)).2.1
  ·simp only[List.mem_map,List.mem_range] at hy;obtain⟨i,hi,rfl⟩:=hy;exact (hq i (by omega)).2.2
end
