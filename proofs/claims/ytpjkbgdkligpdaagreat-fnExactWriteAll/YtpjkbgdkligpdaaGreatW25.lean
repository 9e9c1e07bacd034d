/- Lemmas. -/
import Derived.Test.YtpjkbgdkligpdaaGreatW22
import Derived.Test.YtpjkbgdkligpdaaGreatW11
import Derived.Test.YtpjkbgdkligpdaaGreatW01
set_option linter.unusedVariables false
set_option linter.unusedSimpArgs false
set_option maxRecDepth 100000
set_option maxHeartbeats 20000000
namespace Go.Proofs.YtpjkbgdkligpdaaGreat
open Go.RowKit

theorem z_ix {P:Program} {o:Oper} {a:Act} {w:World} {K:Act→World→Prop} {Q:Exit→Act→World→Prop} {X Y:Addr} {n c:Nat} {k:Int} (T:TypeId) (x y:Operand) (ho:o.op=.indexAddr T x y) (hx:a.eval x=.slice (some X) n c) (hy:a.eval y=.int .i64 k)
  (hr:∀u:World,(Instr.indexAt T (.slice (some X) n c) (.int .i64 k)).run P u=.ok (.pointer (some Y)) u) (h:K (a.put o.dst (.pointer (some Y))) w):Oper.wp P o a w K Q :=
 qad (w':=w) (by simp only[execOp,ho,hx,hy,Sem.run_bind,hr,Result.andThen_ok,Sem.run_pure]) h

theorem pv_re {w:World} {p q:Pk} {d e:Pd} (hp:PRd w p d) (hq:PRd w q e) (h:pv p d=pv q e):d=e∧q=p.re ⟨(q.bod.a,q.bod.c),(q.wb.a,q.wb.c),(q.pa.a,q.pa.c),(q.wan.a,q.wan.c),(q.nam.a,q.nam.c),(q.cds.a,q.cds.c)⟩:=by
 obtain⟨p1,p2,p3,p4,p5,p6⟩:=hp;obtain⟨q1,q2,q3,q4,q5,q6⟩:=hq;have a1:=p1.1.1;have a2:=p2.1.1;have a3:=p3.1.1;have a4:=p4.1.1;have a5:=p5.1.1;have a6:=p6.1.1;have b1:=q1.1.1;have b2:=q2.1.1;have b3:=q3.1.1;have b4:=q4.1.1;have b5:=q5.1.1;have b6:=q6.1.1;clear p1 p2 p3 p4 p5 p6 q1 q2 q3 q4 q5 q6;cases d;cases e
 cases p with | mk ty dup qos ret id top bod cli lev cln kee hw wt wb wq wr hu us hp pa cod pre wan nam cds=>
 cases q with | mk ty' dup' qos' ret' id' top' bod' cli' lev' cln' kee' hw' wt' wb' wq' wr' hu' us' hp' pa' cod' pre' wan' nam' cds'=>
 cases bod;cases wb;cases pa;cases wan;cases nam;cases cds
 cases bod';cases wb';cases pa';cases wan';cases nam';cases cds'
 simp only[pv,Pv.mk.injEq] at h;simp only at a1 a2 a3 a4 a5 a6 b1 b2 b3 b4 b5 b6;obtain⟨rfl,rfl,rfl,rfl,rfl,rfl,rfl,rfl,rfl,rfl,rfl,rfl,rfl,rfl,rfl,rfl,rfl,rfl,rfl,rfl,rfl,rfl,rfl,rfl,rfl⟩:=h;subst a1 a2 a3 a4 a5 a6 b1 b2 b3 b4 b5 b6;exact⟨rfl,rfl⟩
theorem eqp_v (p q:Pk) (d e:Pd) (w:World) (hp:PRd w p d) (hq:PRd w q e) (h:pv p d=pv q e) (hl:Plen p 1099511627776) :
  Calls Tryz.prog 10 #[.agg p.cells,.agg q.cells] w fun r w'=>r=.returned (.bool true)∧Below w.heap.size w w':=by
 obtain⟨rfl,e2⟩:=pv_re hp hq h;rw[e2] at hq ⊢;exact qnt p _ d w hp hq hl
theorem cf_leqp (xs:Array Value) (u:World):(callFunc 10 xs).run Tryz.prog u=.ok (.enter 10 xs) u:=by kernel_rfl
theorem eq_leqPacketS (ao a2:Option Addr) (n cap cap2:Nat) (l m:PL) (w:World) (hr:QRd w ao n cap l) (hr2:QRd w a2 n cap2 m) (he:pvs l=pvs m) (hn:n≤1048576) (hpl:∀x∈l,Plen x.1 1099511627776) :
  Calls Tryz.prog 18 #[.slice ao n cap,.slice a2 n cap2] w fun e w'=>e=.returned (.bool true)∧Below w.heap.size w w':=by
 have HR:Hid (∀u,Below w.heap.size w u→QRd u ao n cap l):=fun u hu=>hr.below hu
 have HR2:Hid (∀u,Below w.heap.size w u→QRd u a2 n cap2 m):=fun u hu=>hr2.below hu
 have HL:Hid (l.length=n):=hr.1.1;have HL2:Hid (m.length=n):=hr2.1.1;have HE:Hid (pvs l=pvs m):=he;have HP:Hid (∀x∈l,Plen x.1 1099511627776):=hpl;clear hr hr2 he hpl;go_enter Tryz.func18,Tryz.ntmps18;go_wp2
 go_loopw [5] (fun i wr=>∃t:Nat,i=.int .i64 t∧t≤n∧Below w.heap.size w wr) (fun i _=>n-(intOf i).toNat)
 case atStart=>exact⟨0,rfl,Nat.zero_le _,Below.refl _ _⟩
 case round=>
  obtain⟨t,rfl,ht,hb⟩:=hrel
  by_cases hlt:t<n
  ·have hlt':(t:Int)<n:=by omega
   have hkl:t<l.length:=by rw[HL.out];exact hlt
   have hkm:t<m.length:=by rw[HL2.out];exact hlt
   obtain⟨b0,off,rfl,hrg⟩:=(HR.out _ hb).1.2 t hlt;obtain⟨b1,off1,rfl,hrg1⟩:=(HR2.out _ hb).1.2 t hlt;have hP:=(HR.out _ hb).2.1 _ (qez hkl);have hQ:=(HR2.out _ hb).2.1 _ (qez hkm);have hpq:pv (pk l t) (pd l t)=pv (pk m t) (pd m t):=by
    have h1:=pvs_at l t hkl;rw[HE.out,pvs_at m t hkm] at h1;exact (Option.some.inj h1).symm
   simp only at hP hQ;have HPL:Hid (Plen (pk l t) 1099511627776):=HP.out _ (qez hkl);generalize pk l t=p at HPL hrg hP hpq;generalize pd l t=d at hP hpq;generalize pk m t=p1 at hrg1 hQ hpq;generalize pd m t=d1 at hQ hpq;have HPQ:Hid (pv p d=pv p1 d1):=hpq;have HG:Hid (wr.rangeAt b0 (off+t*25) p.cells.toList∧wr.rangeAt b1 (off1+t*25) p1.cells.toList∧PRd wr p d∧PRd wr p1 d1):=⟨hrg,hrg1,hP,hQ⟩;clear hpq hkl hkm hrg hrg1 hP hQ
   go_upto_region 6 with fail
   refine qar (by kernel_rfl) rfl (fun i u x=>match i with
    |0=>u=.slice (some ⟨b0,off,none⟩) n cap
    |1=>u=.int .i64 (t:Int)
    |2=>u=.pointer (some ⟨b0,off+t*25,none⟩)
    |3=>u=.agg p.cells
    |4=>u=.slice (some ⟨b1,off1,none⟩) n cap2
    |5=>u=.int .i64 (t:Int)
    |6=>u=.pointer (some ⟨b1,off1+t*25,none⟩)
    |7=>u=.agg p1.cells
    |8=>u=.bool true
    |9=>u=.bool (!true)
    |_=>True) ?_ ?_ ?_
   ·intro i u x x' hx h
    match i,h with
    |0,h=>exact h
    |1,h=>exact h
    |2,h=>exact h
    |3,h=>exact h
    |4,h=>exact h
    |5,h=>exact h
    |6,h=>exact h
    |7,h=>exact h
    |8,h=>exact h
    |9,h=>exact h
    |(_+10),h=>trivial
   ·intro i o a u hi hk hbu hdep
    match i,hi with
    |0,hi=>
     cases hi;exact g_run (qaa rfl _) (z_move _ rfl (qab ((hk.at 0 rfl).trans rfl)) ⟨_,rfl,Below.refl _ _,rfl⟩)
    |1,hi=>
     cases hi;exact g_run (qaa rfl _) (z_move _ rfl (qab ((hk.at 5 rfl).trans rfl)) ⟨_,rfl,Below.refl _ _,rfl⟩)
    |2,hi=>
     cases hi;obtain⟨z0,hz0,rfl⟩:=hdep 0 _ _ rfl rfl rfl;obtain⟨z1,hz1,rfl⟩:=hdep 1 _ _ rfl rfl rfl;exact g_run (qaa rfl _) (z_ix 42 _ _ rfl (qab hz0) (qab hz1) (idx_p b0 off n cap t hlt) ⟨_,rfl,Below.refl _ _,rfl⟩)
    |3,hi=>
     cases hi;obtain⟨z2,hz2,rfl⟩:=hdep 2 _ _ rfl rfl rfl;exact g_run (qaa rfl _) (st_loadM (qgz HG.out.1 hbu) _ rfl (qab hz2) ⟨_,rfl,Below.refl _ _,rfl⟩)
    |4,hi=>
     cases hi;exact g_run (qaa rfl _) (z_move _ rfl (qab ((hk.at 1 rfl).trans rfl)) ⟨_,rfl,Below.refl _ _,rfl⟩)
    |5,hi=>
     cases hi;exact g_run (qaa rfl _) (z_move _ rfl (qab ((hk.at 5 rfl).trans rfl)) ⟨_,rfl,Below.refl _ _,rfl⟩)
    |6,hi=>
     cases hi;obtain⟨z4,hz4,rfl⟩:=hdep 4 _ _ rfl rfl rfl;obtain⟨z5,hz5,rfl⟩:=hdep 5 _ _ rfl rfl rfl;exact g_run (qaa rfl _) (z_ix 42 _ _ rfl (qab hz4) (qab hz5) (idx_p b1 off1 n cap2 t hlt) ⟨_,rfl,Below.refl _ _,rfl⟩)
    |7,hi=>
     cases hi;obtain⟨z6,hz6,rfl⟩:=hdep 6 _ _ rfl rfl rfl;exact g_run (qaa rfl _) (st_loadM (qgz HG.out.2.1 hbu) _ rfl (qab hz6) ⟨_,rfl,Below.refl _ _,rfl⟩)
    |8,hi=>
     cases hi;obtain⟨z3,hz3,rfl⟩:=hdep 3 _ _ rfl rfl rfl;obtain⟨z7,hz7,rfl⟩:=hdep 7 _ _ rfl rfl rfl;refine g_run (qaa rfl _) (qaj (qag _ _ _ _ _ _ _ _ cf_leqp (qab hz3) (qab hz7) (fun _=>rfl) _ _ _ _ _ _) ?_);refine (eqp_v p p1 d d1 u (HG.out.2.2.1.below hbu) (HG.out.2.2.2.below hbu) HPQ.out HPL.out).mono ?_;rintro e u' ⟨he,hb'⟩;exact⟨_,he,_,rfl,hb',rfl⟩
    |9,hi=>
     cases hi;obtain⟨z8,hz8,rfl⟩:=hdep 8 _ _ rfl rfl rfl;exact g_run (qaa rfl _) (z_not _ _ rfl (qab hz8) ⟨_,rfl,Below.refl _ _,rfl⟩)
    |(_+10),hi=>cases hi
   intro vs y3 b3 hG a3 h3;have g9:vs 9=.bool (!true):=hG 9 (by decide);replace hb:=bel hb b3;clear hG HG HPQ;replace h3:puts _ 1 _ (Fq27)=a3:=h3;replace h3:puts _ 2 _ (Fq27)=a3:=h3;replace h3:puts _ 3 _ (Fq27)=a3:=h3;replace h3:puts _ 4 _ (Fq27)=a3:=h3;replace h3:puts _ 5 _ (Fq27)=a3:=h3;replace h3:puts _ 6 _ (Fq27)=a3:=h3;replace h3:puts _ 7 _ (Fq27)=a3:=h3;replace h3:puts _ 8 _ (Fq27)=a3:=h3;replace h3:puts _ 9 _ (Fq27)=a3:=h3;replace h3:Fq27=_:=h3;unfold Fq27 at h3;subst h3;simp only[g9];clear g9;go_wp2;go_roundw
   case rel=>exact⟨t+1,by go_num,by omega,hb⟩
   case measure=>simp[intOf];omega
  ·have hlt':¬(t:Int)<n:=by omega
   go_wp2;go_ret;exact⟨rfl,hb⟩
