/- Lemmas. -/
import Derived.Test.YtpjkbgdkligpdaaGreatDoorX41
import Derived.Test.YtpjkbgdkligpdaaGreatDoorX01
set_option linter.unusedVariables false
set_option linter.unusedSimpArgs false
set_option maxRecDepth 100000
set_option maxHeartbeats 20000000
namespace Go.Proofs.YtpjkbgdkligpdaaGreatDoor
open Go.RowKit

def Many (w w':World) (v:Value) (l:List UInt8):Prop:=∃a c q,v=.slice a (List.length q) c∧QOwn w' w.heap.size a q.length c q∧pvs q=(many l).1∧∀x∈q,Pgd 1048576 x.1 x.2
theorem qsn {l:List UInt8} {t nn:Nat} {v:Pv} {q:List Pv} (hg:getP (l.drop t)=(v,(nn:Int),0)) (h:many l=(q++(many (l.drop t)).1,t+(many (l.drop t)).2.1,(many (l.drop t)).2.2)) :
  many l=((q++[v])++(many (l.drop (t+nn))).1,(t+nn)+(many (l.drop (t+nn))).2.1,(many (l.drop (t+nn))).2.2):=by
 have h0:(getP (l.drop t)).2.2=0:=by rw[hg]
 have hm:=qoe h0;rw[hg] at hm;simp only[Int.toNat_natCast,List.drop_drop] at hm;rw[h,hm];simp only[List.append_assoc,List.singleton_append,Prod.mk.injEq,and_true,true_and];omega
theorem qso {l:List UInt8} {t:Nat} {v:Pv} {nn cc:Int} {q:List Pv} (ht:t<l.length) (hg:getP (l.drop t)=(v,nn,cc)) (hc:cc≠0) (h:many l=(q++(many (l.drop t)).1,t+(many (l.drop t)).2.1,(many (l.drop t)).2.2)):many l=(q,t,cc):=by
 have h0:(getP (l.drop t)).2.2≠0:=by rw[hg];exact hc
 have hm:=qqt (by rw[List.length_drop];omega) h0;rw[hg] at hm;rw[h,hm];simp
theorem qsm {l:List UInt8} {t:Nat} {q:List Pv} (ht:l.length≤t) (h:many l=(q++(many (l.drop t)).1,t+(many (l.drop t)).2.1,(many (l.drop t)).2.2)):many l=(q,t,0):=by
 rw[List.drop_of_length_le ht,qqu] at h
 simpa using h
theorem many_i (ao:Option Addr) (n cap:Nat) (l:List UInt8) (w:World) (hr:RdIn w ao n cap l) (hn:n≤1048576) (hT:ErrTy w) :
  Calls Tryz.prog 91 #[.slice ao n cap] w fun e w'=>∃v,e=.returned (.tuple #[v,.int .i64 ((many l).2.1:Nat),.int .i64 (many l).2.2])∧Many w w' v l∧Below w.heap.size w w':=by
 have hTl:1<w.heap.size:=World.block_lt_of_cell? _ _ hT;have HT:Hid (∀u,Below w.heap.size w u→ErrTy u):=fun u hu=>hT.below hu hTl
 clear hTl hT;have HR:Hid (∀u,Below w.heap.size w u→RdIn u ao n cap l):=fun u hu=>hr.below hu
 have HL:Hid (l.length=n):=hr.1.1;clear hr;go_enter Tryz.func91,Tryz.ntmps91;go_wp2
 go_loopw [5,6] (fun v i wr=>∃(t:Nat) (a:Option Addr) (c:Nat) (q:PL),i=.int .i64 t∧v=.slice a (List.length q) c∧t≤n∧q.length≤t∧QOwn wr w.heap.size a q.length c q∧Hid (many l=(pvs q++(many (l.drop t)).1,t+(many (l.drop t)).2.1,(many (l.drop t)).2.2))∧(∀x∈q,Pgd 1048576 x.1 x.2)∧Below w.heap.size w wr) (fun _ i _=>n-(intOf i).toNat)
 case atStart=>exact⟨0,_,_,[],rfl,rfl,Nat.zero_le _,Nat.le_refl _,qss w,(by show many l=_;simp[pvs]),fun x h=>(by cases h),qac _ _⟩
 case round=>
  obtain⟨t,a,c,q,rfl,rfl,ht,hqt,hQ,HM,hG,hb⟩:=hrel;have HG:Hid (∀x∈q,Pgd 1048576 x.1 x.2):=hG;clear hG
  by_cases hlt:t<n
  ·have hlt':(t:Int)<n:=by omega
   obtain⟨ax,cx,hsl,hrx⟩:=qfp (HR.out _ hb) t ht;obtain⟨v,nn,cc,hg⟩ : ∃v nn cc,getP (l.drop t)=(v,nn,cc):=⟨_,_,_,rfl⟩;have HGP:Hid (getP (l.drop t)=(v,nn,cc)):=hg;clear hg;have hsz:=hb.size;go_wp2_with fail
   refine (get_i _ _ _ _ _ hrx (by omega) (HT.out _ hb)).mono ?_;intro e u2 hh;unfold Got at hh;rw[HGP.out] at hh;obtain⟨p,d,rfl,ow,gd,hpv,b2⟩:=hh;have HV:Hid (pv p d=v):=hpv;have HS:Hid (∀x∈q,∀k,x.1.has k→¬p.has k):=fun x hx k h1 h2=>by
    have h3:=((hQ.own x hx).lt h1).2;have h4:=(ow.lt h2).1;omega
   have hQ2:=hQ.below b2;replace hb:=bel hb b2;have A:Blk (u2.alloc (.cells p.cells 28)) u2.heap.size p:=heap_alloc_new _ _;have b3:=qac u2 (.cells p.cells 28);have hQ3:=hQ2.below b3;have ow3:=(ow.below b3).low hsz;replace hb:=bel hb b3;clear hsl hrx hpv hQ hQ2 b2 b3 ow hsz
   by_cases hcc:cc=0
   ·subst hcc;obtain⟨k,rfl,hk⟩ : ∃k:Nat,nn=k∧t+k≤n∧2≤k:=by
     have h0:(getP (l.drop t)).2.2=0:=by rw[HGP.out]
     obtain⟨k1,k2,k3,k4,k5⟩:=qgg h0;rw[HGP.out] at k1 k2 k5;simp only at k1 k2 k5;rw[List.length_drop,HL.out] at k2;exact⟨_,k5,by omega,by omega⟩
    have HM2:=qsn HGP.out HM.out;rw[←HV.out] at HM2;have HM3:Hid (many l=(pvs (q++[(p,d)])++(many (l.drop (t+k))).1,(t+k)+(many (l.drop (t+k))).2.1,(many (l.drop (t+k))).2.2)):=by
     show many l=_;rw[pvs_app];exact HM2
    have HG3:Hid (∀x∈q++[(p,d)],Pgd 1048576 x.1 x.2):=fun x hx=>by
     rw[List.mem_append] at hx
     rcases hx with hx | hx
     ·exact HG.out x hx
     ·obtain rfl:x=(p,d):=by simpa using hx
      exact gd
    have b4:=qac (u2.alloc (.cells p.cells 28)) (.cells p.cells 28);have hb4:=bel hb b4;have hQ4:=hQ3.below b4;have ow4:=ow3.below b4;have hsz4:=hb4.size;have hq:=hQ4.row.1;clear HM HM2 HG HGP HV gd b4 hQ3 ow3 hb;go_wp2_with (first | refine qbb (p:=p) rfl rfl ?_ | refine qal A rfl _ rfl rfl ?_ | refine bs_pk (p:=p) rfl _ rfl rfl ?_ | (at_builtin;refine w_qapp _ rfl _ _ rfl w.heap.size _ _ _ q rfl hQ4 _ p d rfl (heap_alloc_new _ _) ow4 HS.out (by omega) hsz4 ?_) | fail)
    intro a5 c5 w5 hQ5 hg5;have hb5:=qka hb4 hsz4 hQ4.row hg5;clear hg5 hQ4 ow4 hb4 HS A;go_wp2;go_roundw
    case rel=>exact⟨t+k,_,_,q++[(p,d)],by go_num,by rw[List.length_append];rfl,by omega,by rw[List.length_append];simp;omega,by rw[List.length_append];exact hQ5,HM3,HG3.out,hb5⟩
    case measure=>simp[intOf];omega
   ·have hcc':(cc != 0)=true:=by simpa using hcc
    have HM2:=qso (by rw[HL.out];exact hlt) HGP.out hcc HM.out;have HM3:Hid (many l=(pvs q,t,cc)):=HM2;clear HM HM2 HGP HV gd ow3 A HS hcc;go_wp2_with (first | refine qbb (p:=p) rfl rfl ?_ | fail)
    go_ret3;exact⟨.slice a (List.length q) c,by simp only[HM3.out];rfl,⟨a,c,q,rfl,hQ3,by rw[HM3.out],HG.out⟩,hb⟩
  ·have hlt':¬(t:Int)<n:=by omega
   have HM3:Hid (many l=(pvs q,t,0)):=qsm (by rw[HL.out];omega) HM.out;clear HM;go_wp2;go_ret3;exact⟨.slice a (List.length q) c,by simp only[HM3.out];rfl,⟨a,c,q,rfl,hQ,by rw[HM3.out],HG.out⟩,hb⟩
theorem all_s (ao:Option Addr) (n cap:Nat) (l:List UInt8) (w:World) (hr:RdIn w ao n cap l) (hn:n≤1048576) :
  Calls Tryz.prog 33 #[.slice ao n cap] w fun e w'=>∃v,e=.returned (.tuple #[v,.int .i64 (many l).2.2])∧Many w w' v l∧Below w.heap.size w w':=by
 have HR:Hid (∀u,Below w.heap.size w u→RdIn u ao n cap l):=fun u hu=>hr.below hu
 have HL:Hid (l.length=n):=hr.1.1;clear hr;go_enter Tryz.func33,Tryz.ntmps33;go_wp2
 go_loopw [4,5] (fun v i wr=>∃(t:Nat) (a:Option Addr) (c:Nat) (q:PL),i=.int .i64 t∧v=.slice a (List.length q) c∧t≤n∧q.length≤t∧QOwn wr w.heap.size a q.length c q∧Hid (many l=(pvs q++(many (l.drop t)).1,t+(many (l.drop t)).2.1,(many (l.drop t)).2.2))∧(∀x∈q,Pgd 1048576 x.1 x.2)∧Below w.heap.size w wr) (fun _ i _=>n-(intOf i).toNat)
 case atStart=>exact⟨0,_,_,[],rfl,rfl,Nat.zero_le _,Nat.le_refl _,qss w,(by show many l=_;simp[pvs]),fun x h=>(by cases h),qac _ _⟩
 case round=>
  obtain⟨t,a,c,q,rfl,rfl,ht,hqt,hQ,HM,hG,hb⟩:=hrel;have HG:Hid (∀x∈q,Pgd 1048576 x.1 x.2):=hG;clear hG
  by_cases hlt:t<n
  ·have hlt':(t:Int)<n:=by omega
   obtain⟨ax,cx,hsl,hrx⟩:=qfp (HR.out _ hb) t ht;obtain⟨v,nn,cc,hg⟩ : ∃v nn cc,getP (l.drop t)=(v,nn,cc):=⟨_,_,_,rfl⟩;have HGP:Hid (getP (l.drop t)=(v,nn,cc)):=hg;clear hg;have hsz:=hb.size;go_wp2_with fail
   refine (get_s _ _ _ _ _ hrx (by omega)).mono ?_;intro e u2 hh;unfold Got at hh;rw[HGP.out] at hh;obtain⟨p,d,rfl,ow,gd,hpv,b2⟩:=hh;have HV:Hid (pv p d=v):=hpv;have HS:Hid (∀x∈q,∀k,x.1.has k→¬p.has k):=fun x hx k h1 h2=>by
    have h3:=((hQ.own x hx).lt h1).2;have h4:=(ow.lt h2).1;omega
   have hQ2:=hQ.below b2;replace hb:=bel hb b2;have A:Blk (u2.alloc (.cells p.cells 28)) u2.heap.size p:=heap_alloc_new _ _;have b3:=qac u2 (.cells p.cells 28);have hQ3:=hQ2.below b3;have ow3:=(ow.below b3).low hsz;replace hb:=bel hb b3;clear hsl hrx hpv hQ hQ2 b2 b3 ow hsz
   by_cases hcc:cc=0
   ·subst hcc;obtain⟨k,rfl,hk⟩ : ∃k:Nat,nn=k∧t+k≤n∧2≤k:=by
     have h0:(getP (l.drop t)).2.2=0:=by rw[HGP.out]
     obtain⟨k1,k2,k3,k4,k5⟩:=qgg h0;rw[HGP.out] at k1 k2 k5;simp only at k1 k2 k5;rw[List.length_drop,HL.out] at k2;exact⟨_,k5,by omega,by omega⟩
    have HM2:=qsn HGP.out HM.out;rw[←HV.out] at HM2;have HM3:Hid (many l=(pvs (q++[(p,d)])++(many (l.drop (t+k))).1,(t+k)+(many (l.drop (t+k))).2.1,(many (l.drop (t+k))).2.2)):=by
     show many l=_;rw[pvs_app];exact HM2
    have HG3:Hid (∀x∈q++[(p,d)],Pgd 1048576 x.1 x.2):=fun x hx=>by
     rw[List.mem_append] at hx
     rcases hx with hx | hx
     ·exact HG.out x hx
     ·obtain rfl:x=(p,d):=by simpa using hx
      exact gd
    have b4:=qac (u2.alloc (.cells p.cells 28)) (.cells p.cells 28);have hb4:=bel hb b4;have hQ4:=hQ3.below b4;have ow4:=ow3.below b4;have hsz4:=hb4.size;have hq:=hQ4.row.1;clear HM HM2 HG HGP HV gd b4 hQ3 ow3 hb;go_wp2_with (first | refine qbb (p:=p) rfl rfl ?_ | refine qal A rfl _ rfl rfl ?_ | refine bs_pk (p:=p) rfl _ rfl rfl ?_ | (at_builtin;refine w_qapp _ rfl _ _ rfl w.heap.size _ _ _ q rfl hQ4 _ p d rfl (heap_alloc_new _ _) ow4 HS.out (by omega) hsz4 ?_) | fail)
    intro a5 c5 w5 hQ5 hg5;have hb5:=qka hb4 hsz4 hQ4.row hg5;clear hg5 hQ4 ow4 hb4 HS A;go_wp2;go_roundw
    case rel=>exact⟨t+k,_,_,q++[(p,d)],by go_num,by rw[List.length_append];rfl,by omega,by rw[List.length_append];simp;omega,by rw[List.length_append];exact hQ5,HM3,HG3.out,hb5⟩
    case measure=>simp[intOf];omega
   ·have hcc':(cc != 0)=true:=by simpa using hcc
    have HM2:=qso (by rw[HL.out];exact hlt) HGP.out hcc HM.out;have HM3:Hid (many l=(pvs q,t,cc)):=HM2;clear HM HM2 HGP HV gd ow3 A HS hcc;go_wp2_with (first | refine qbb (p:=p) rfl rfl ?_ | fail)
    go_ret2;exact⟨.slice a (List.length q) c,by simp only[HM3.out];rfl,⟨a,c,q,rfl,hQ3,by rw[HM3.out],HG.out⟩,hb⟩
  ·have hlt':¬(t:Int)<n:=by omega
   have HM3:Hid (many l=(pvs q,t,0)):=qsm (by rw[HL.out];omega) HM.out;clear HM;go_wp2;go_ret2;exact⟨.slice a (List.length q) c,by simp only[HM3.out];rfl,⟨a,c,q,rfl,hQ,by rw[HM3.out],HG.out⟩,hb⟩
theorem all_i (ao:Option Addr) (n cap:Nat) (l:List UInt8) (w:World) (hr:RdIn w ao n cap l) (hn:n≤1048576) (hT:ErrTy w) :
  Calls Tryz.prog 31 #[.slice ao n cap] w fun e w'=>∃v,e=.returned (.tuple #[v,.int .i64 (many l).2.2])∧Many w w' v l∧Below w.heap.size w w':=by
 go_enter Tryz.func31,Tryz.ntmps31;go_wp2_with fail
 refine (many_i ao n cap l _ hr hn hT).mono ?_;rintro e w1 ⟨v,rfl,hM,hb⟩;go_wp2;go_ret2;exact⟨v,rfl,hM,hb⟩

theorem pv_re {w:World} {p q:Pk} {d e:Pd} (hp:PRd w p d) (hq:PRd w q e) (h:pv p d=pv q e):d=e∧q=p.re ⟨(q.bod.a,q.bod.c),(q.wb.a,q.wb.c),(q.pa.a,q.pa.c),(q.wan.a,q.wan.c),(q.nam.a,q.nam.c),(q.cds.a,q.cds.c)⟩:=by
 obtain⟨p1,p2,p3,p4,p5,p6⟩:=hp;obtain⟨q1,q2,q3,q4,q5,q6⟩:=hq;have a1:=p1.1.1;have a2:=p2.1.1;have a3:=p3.1.1;have a4:=p4.1.1;have a5:=p5.1.1;have a6:=p6.1.1;have b1:=q1.1.1;have b2:=q2.1.1;have b3:=q3.1.1;have b4:=q4.1.1;have b5:=q5.1.1;have b6:=q6.1.1;clear p1 p2 p3 p4 p5 p6 q1 q2 q3 q4 q5 q6;cases d;cases e
 cases p with | mk ty dup qos ret id top bod cli lev cln kee hw wt wb wq wr hu us hp pa cod pre wan nam cds=>
 cases q with | mk ty' dup' qos' ret' id' top' bod' cli' lev' cln' kee' hw' wt' wb' wq' wr' hu' us' hp' pa' cod' pre' wan' nam' cds'=>
 cases bod;cases wb;cases pa;cases wan;cases nam;cases cds
 cases bod';cases wb';cases pa';cases wan';cases nam';cases cds'
 simp only[pv,Pv.mk.injEq] at h;simp only at a1 a2 a3 a4 a5 a6 b1 b2 b3 b4 b5 b6;obtain⟨rfl,rfl,rfl,rfl,rfl,rfl,rfl,rfl,rfl,rfl,rfl,rfl,rfl,rfl,rfl,rfl,rfl,rfl,rfl,rfl,rfl,rfl,rfl,rfl,rfl⟩:=h;subst a1 a2 a3 a4 a5 a6 b1 b2 b3 b4 b5 b6;exact⟨rfl,rfl⟩
theorem eqp_v (p q:Pk) (d e:Pd) (w:World) (hp:PRd w p d) (hq:PRd w q e) (h:pv p d=pv q e) (hl:Plen p 1099511627776) :
  Calls Tryz.prog 42 #[.agg p.cells,.agg q.cells] w fun r w'=>r=.returned (.bool true)∧Below w.heap.size w w':=by
 obtain⟨rfl,e2⟩:=pv_re hp hq h;rw[e2] at hq ⊢;exact qru p _ d w hp hq hl
theorem cf_leqp (xs:Array Value) (u:World):(callFunc 42 xs).run Tryz.prog u=.ok (.enter 42 xs) u:=by kernel_rfl
theorem eq_leqPacketS (ao a2:Option Addr) (n cap cap2:Nat) (l m:PL) (w:World) (hr:QRd w ao n cap l) (hr2:QRd w a2 n cap2 m) (he:pvs l=pvs m) (hn:n≤1048576) (hpl:∀x∈l,Plen x.1 1099511627776) :
  Calls Tryz.prog 47 #[.slice ao n cap,.slice a2 n cap2] w fun e w'=>e=.returned (.bool true)∧Below w.heap.size w w':=by
 have HR:Hid (∀u,Below w.heap.size w u→QRd u ao n cap l):=fun u hu=>hr.below hu
 have HR2:Hid (∀u,Below w.heap.size w u→QRd u a2 n cap2 m):=fun u hu=>hr2.below hu
 have HL:Hid (l.length=n):=hr.1.1;have HL2:Hid (m.length=n):=hr2.1.1;have HE:Hid (pvs l=pvs m):=he;have HP:Hid (∀x∈l,Plen x.1 1099511627776):=hpl;clear hr hr2 he hpl;go_enter Tryz.func47,Tryz.ntmps47;go_wp2
 go_loopw [5] (fun i wr=>∃t:Nat,i=.int .i64 t∧t≤n∧Below w.heap.size w wr) (fun i _=>n-(intOf i).toNat)
 case atStart=>exact⟨0,rfl,Nat.zero_le _,Below.refl _ _⟩
 case round=>
  obtain⟨t,rfl,ht,hb⟩:=hrel
  by_cases hlt:t<n
  ·have hlt':(t:Int)<n:=by omega
   have hkl:t<l.length:=by rw[HL.out];exact hlt
   have hkm:t<m.length:=by rw[HL2.out];exact hlt
   obtain⟨b0,off,rfl,hrg⟩:=(HR.out _ hb).1.2 t hlt;obtain⟨b1,off1,rfl,hrg1⟩:=(HR2.out _ hb).1.2 t hlt;have hP:=(HR.out _ hb).2.1 _ (pk_mem hkl);have hQ:=(HR2.out _ hb).2.1 _ (pk_mem hkm);have hpq:pv (pk l t) (pd l t)=pv (pk m t) (pd m t):=by
    have h1:=pvs_at l t hkl;rw[HE.out,pvs_at m t hkm] at h1;exact (Option.some.inj h1).symm
   simp only at hP hQ;have HPL:Hid (Plen (pk l t) 1099511627776):=HP.out _ (pk_mem hkl);generalize pk l t=p at HPL hrg hP hpq;generalize pd l t=d at hP hpq;generalize pk m t=p1 at hrg1 hQ hpq;generalize pd m t=d1 at hQ hpq;have HPQ:Hid (pv p d=pv p1 d1):=hpq;have HG:Hid (wr.rangeAt b0 (off+t*25) p.cells.toList∧wr.rangeAt b1 (off1+t*25) p1.cells.toList∧PRd wr p d∧PRd wr p1 d1):=⟨hrg,hrg1,hP,hQ⟩;clear hpq hkl hkm hrg hrg1 hP hQ
   go_upto_region 6 with fail
   refine qan (by kernel_rfl) rfl (fun i u x=>match i with
    |0=>u=.slice (some ⟨b0,off,none⟩) n cap
    |1=>u=.int .i64 (t:Int)
    |2=>u=.pointer (some ⟨b0,off+t*25,none⟩)
    |3=>u=.agg p.cells
    |4=>u=.slice (some ⟨b1,off1,none⟩) n cap2
    |5=>u=.int .i64 (t:Int)
    |6=>u=.pointer (some ⟨b1,off1+t*25,none⟩)
    |7=>u=.agg p1.cells
    |8=>u=.bool true
    |9=>u=.bool (!true)
    |_=>True) ?_ ?_ ?_
   ·intro i u x x' hx h
    match i,h with
    |0,h=>exact h
    |1,h=>exact h
    |2,h=>exact h
    |3,h=>exact h
    |4,h=>exact h
    |5,h=>exact h
    |6,h=>exact h
    |7,h=>exact h
    |8,h=>exact h
    |9,h=>exact h
    |(_+10),h=>trivial
   ·intro i o a u hi hk hbu hdep
    match i,hi with
    |0,hi=>
     cases hi;exact g_run (qab rfl _) (qax _ rfl (qaa ((hk.at 0 rfl).trans rfl)) ⟨_,rfl,Below.refl _ _,rfl⟩)
    |1,hi=>
     cases hi;exact g_run (qab rfl _) (qax _ rfl (qaa ((hk.at 5 rfl).trans rfl)) ⟨_,rfl,Below.refl _ _,rfl⟩)
    |2,hi=>
     cases hi;obtain⟨z0,hz0,rfl⟩:=hdep 0 _ _ rfl rfl rfl;obtain⟨z1,hz1,rfl⟩:=hdep 1 _ _ rfl rfl rfl;exact g_run (qab rfl _) (z_ix 44 _ _ rfl (qaa hz0) (qaa hz1) (idx_p b0 off n cap t hlt) ⟨_,rfl,Below.refl _ _,rfl⟩)
    |3,hi=>
     cases hi;obtain⟨z2,hz2,rfl⟩:=hdep 2 _ _ rfl rfl rfl;exact g_run (qab rfl _) (st_loadM (qht HG.out.1 hbu) _ rfl (qaa hz2) ⟨_,rfl,Below.refl _ _,rfl⟩)
    |4,hi=>
     cases hi;exact g_run (qab rfl _) (qax _ rfl (qaa ((hk.at 1 rfl).trans rfl)) ⟨_,rfl,Below.refl _ _,rfl⟩)
    |5,hi=>
     cases hi;exact g_run (qab rfl _) (qax _ rfl (qaa ((hk.at 5 rfl).trans rfl)) ⟨_,rfl,Below.refl _ _,rfl⟩)
    |6,hi=>
     cases hi;obtain⟨z4,hz4,rfl⟩:=hdep 4 _ _ rfl rfl rfl;obtain⟨z5,hz5,rfl⟩:=hdep 5 _ _ rfl rfl rfl;exact g_run (qab rfl _) (z_ix 44 _ _ rfl (qaa hz4) (qaa hz5) (idx_p b1 off1 n cap2 t hlt) ⟨_,rfl,Below.refl _ _,rfl⟩)
    |7,hi=>
     cases hi;obtain⟨z6,hz6,rfl⟩:=hdep 6 _ _ rfl rfl rfl;exact g_run (qab rfl _) (st_loadM (qht HG.out.2.1 hbu) _ rfl (qaa hz6) ⟨_,rfl,Below.refl _ _,rfl⟩)
    |8,hi=>
     cases hi;obtain⟨z3,hz3,rfl⟩:=hdep 3 _ _ rfl rfl rfl;obtain⟨z7,hz7,rfl⟩:=hdep 7 _ _ rfl rfl rfl;refine g_run (qab rfl _) (qak (qam _ _ _ _ _ _ _ _ cf_leqp (qaa hz3) (qaa hz7) (fun _=>rfl) _ _ _ _ _ _) ?_);refine (eqp_v p p1 d d1 u (HG.out.2.2.1.below hbu) (HG.out.2.2.2.below hbu) HPQ.out HPL.out).mono ?_;rintro e u' ⟨he,hb'⟩;exact⟨_,he,_,rfl,hb',rfl⟩
    |9,hi=>
     cases hi;obtain⟨z8,hz8,rfl⟩:=hdep 8 _ _ rfl rfl rfl;exact g_run (qab rfl _) (z_not _ _ rfl (qaa hz8) ⟨_,rfl,Below.refl _ _,rfl⟩)
    |(_+10),hi=>cases hi
   intro vs y3 b3 hG a3 h3;have g9:vs 9=.bool (!true):=hG 9 (by decide);replace hb:=bel hb b3;clear hG HG HPQ;replace h3:puts _ 1 _ (Fq27)=a3:=h3;replace h3:puts _ 2 _ (Fq27)=a3:=h3;replace h3:puts _ 3 _ (Fq27)=a3:=h3;replace h3:puts _ 4 _ (Fq27)=a3:=h3;replace h3:puts _ 5 _ (Fq27)=a3:=h3;replace h3:puts _ 6 _ (Fq27)=a3:=h3;replace h3:puts _ 7 _ (Fq27)=a3:=h3;replace h3:puts _ 8 _ (Fq27)=a3:=h3;replace h3:puts _ 9 _ (Fq27)=a3:=h3;replace h3:Fq27=_:=h3;unfold Fq27 at h3;subst h3;simp only[g9];clear g9;go_wp2;go_roundw
   case rel=>exact⟨t+1,by go_num,by omega,hb⟩
   case measure=>simp[intOf];omega
  ·have hlt':¬(t:Int)<n:=by omega
   go_wp2;go_ret;exact⟨rfl,hb⟩

theorem pvals_set (ps:List Pk) (i j:Nat) (v:Value) (p':Pk) (h:i<ps.length) (hj:j<25) (hc:(ps.getD i Pk.zero).cells.setIfInBounds j v=p'.cells):pvals (ps.set i p')=(pvals ps).set (i*25+j) v:=by
 induction ps generalizing i with
 |nil=>simp at h
 |cons p r ih=>
  have e:pvals (p :: r)=p.cells.toList++pvals r:=rfl;cases i with
  |zero=>
   have e2:pvals ((p :: r).set 0 p')=p'.cells.toList++pvals r:=rfl;have e3:p'.cells.toList=p.cells.toList.set j v:=by
    rw[←Array.toList_setIfInBounds];exact congrArg Array.toList hc.symm
   rw[e,e2,e3,Nat.zero_mul,Nat.zero_add,List.set_append_left _ _ (by rw[qdh];exact hj)]
  |succ i=>
   have e2:pvals ((p :: r).set (i+1) p')=p.cells.toList++pvals (r.set i p'):=rfl;rw[e,e2,ih i (by simpa using h) hc,List.set_append_right _ _ (by rw[qdh];omega),qdh,show (i+1)*25+j-25=i*25+j from by omega]
theorem qrc (l:PL) (i:Nat) (x:Pk×Pd):pks (l.set i x)=(pks l).set i x.1:=by simp[pks,List.map_set]
theorem pw_set {l:PL} {i:Nat} {x x':Pk×Pd} {R:Pk×Pd→Pk×Pd→Prop} (h:(l.set i x).Pairwise R) (h1:∀z,R z x→R z x') (h2:∀z,R x z→R x' z):(l.set i x').Pairwise R:=by
 rw[List.pairwise_iff_getElem] at h ⊢;intro a b ha hb hab;have ha':a<(l.set i x).length:=by simpa using ha
 have hb':b<(l.set i x).length:=by simpa using hb
 have:=h a b ha' hb' hab;simp only[List.getElem_set] at this ⊢
 split at this<;>split at this<;>simp_all
structure MQ (w y:World) (B g n c:Nat) (l:PL) (i:Nat) (p:Pk) (d:Pd):Prop where
 own:QOwn y B (some ⟨g,0,none⟩) n c (l.set i (p,d))
 blw:Below B w y
 lt:i<l.length
 hB:B≤w.heap.size
section
variable {w y y' : World} {B g n c : Nat} {l : PL} {i : Nat} {p p' : Pk} {d d' : Pd}
theorem MQ.len (s:MQ w y B g n c l i p d):l.length=n:=by
 have:=s.own.len
 simpa using this
theorem MQ.at (s:MQ w y B g n c l i p d):(pks (l.set i (p,d))).getD i Pk.zero=p:=by
 rw[qrc];simp[List.getD_eq_getElem?_getD,List.getElem?_set,qes,s.lt]
theorem MQ.cell (s:MQ w y B g n c l i p d) (j:Nat) (hj:j<25):y.cell? ⟨g,i*25+j,none⟩ = p.cells[j]?:=by
 have hl:=s.len;have hlt:=s.lt;rw[s.own.row.2.cellAt (i*25+j) (by omega),qre _ i j (by rw[qes];simpa using hlt) hj,s.at]
theorem MQ.froz (s:MQ w y B g n c l i p d) (j:Nat):y.frozen? ⟨g,j,none⟩ = false:=s.own.row.2.frozenAt j
theorem MQ.pown (s:MQ w y B g n c l i p d):POwn y B p d:=s.own.own (p,d) (List.mem_set s.lt _)
theorem MQ.new (s:MQ w y B g n c l i p d) (hb:Below y.heap.size y y'):MQ w y' B g n c l i p d :=
 ⟨s.own.below hb,s.blw.trans (hb.mono (Nat.le_trans s.hB s.blw.size)),s.lt,s.hB⟩
theorem MQ.others (s:MQ w y B g n c l i p d) (z:Pk×Pd) (j:Nat) (hj:j≠i) (hz:l[j]? = some z):POwn y B z.1 z.2∧∀k,p.has k→¬z.1.has k:=by
 have hjl:j<l.length:=(List.getElem?_eq_some_iff.1 hz).1;have hz':l[j]'hjl=z:=(List.getElem?_eq_some_iff.1 hz).2;have hj':j<(l.set i (p,d)).length:=by simpa using hjl
 have hi':i<(l.set i (p,d)).length:=by simpa using s.lt
 have e1:(l.set i (p,d))[j]'hj'=z:=by rw[List.getElem_set,if_neg (fun e=>hj e.symm),hz']
 have e2:(l.set i (p,d))[i]'hi'=(p,d):=by rw[List.getElem_set,if_pos rfl]
 refine⟨s.own.own z (by rw[←e1];exact List.getElem_mem _),fun k h1 h2=>?_⟩;have hd:=List.pairwise_iff_getElem.1 s.own.dis
 rcases Nat.lt_or_gt_of_ne hj with h | h
 ·have:=hd j i hj' hi' h;rw[e1,e2] at this;exact this k h2 h1
 ·have:=hd i j hi' hj' h;rw[e1,e2] at this;exact this k h1 h2
theorem MQ.turn (s:MQ w y B g n c l i p d) (hrow:POwnR y' B (some ⟨g,0,none⟩) n c (pks (l.set i (p',d')))) (hp:POwn y' B p' d') (hz:∀z j,j≠i→l[j]? = some z→POwn y' B z.1 z.2) (hh:∀k,p'.has k ↔ p.has k) (hb:Below B w y'):MQ w y' B g n c l i p' d':=by
 refine⟨⟨hrow,fun x hx=>?_,pw_set s.own.dis (fun z h k h1 h2=>h k h1 ((hh k).1 h2)) (fun z h k h1 h2=>h k ((hh k).1 h1) h2)⟩,hb,s.lt,s.hB⟩;obtain⟨j,hj,e⟩:=List.mem_iff_getElem.1 hx;have hjl:j<l.length:=by simpa using hj
 by_cases hji:j=i
 ·subst hji;rw[List.getElem_set,if_pos rfl] at e;rw[←e];exact hp
 ·rw[List.getElem_set,if_neg (fun e=>hji e.symm)] at e;exact hz x j hji (by rw[List.getElem?_eq_getElem hjl,e])
theorem MQ.store (s:MQ w y B g n c l i p d) (j:Nat) (v:Value) (p':Pk) (hj:j<25) (hc:p.cells.setIfInBounds j v=p'.cells) (hh:p'.bod=p.bod∧p'.wb=p.wb∧p'.pa=p.pa∧p'.wan=p.wan∧p'.nam=p.nam∧p'.cds=p.cds):MQ w (y.setCell ⟨g,i*25+j,none⟩ v) B g n c l i p' d:=by
 obtain⟨h1,hg⟩:=s.own.row.2.stored (i*25+j) v;obtain⟨q1,q2,q3,q4,q5,q6⟩:=hh;have hlt:=s.lt;obtain⟨cur,hcur⟩:=qbr s.own.row.2;have hkeep:∀(x:Pk) (dx:Pd),POwn y B x dx→POwn (y.setCell ⟨g,i*25+j,none⟩ v) B x dx:=fun x dx h=>h.grown hg (fun k e=>by cases e;exact h.neR hcur)
 have hp:=hkeep p d s.pown;refine s.turn ⟨?_,?_⟩ ?_ (fun z j hj hz=>hkeep _ _ (s.others z j hj hz).1) (fun k=>by unfold Pk.has;rw[q1,q2,q3,q4,q5,q6]) (s.blw.grown hg (Nat.le_trans s.hB s.blw.size) (fun k e=>by cases e;exact (s.own.row.lt rfl).1))
 ·have:=s.own.row.1;rw[qes] at this ⊢
  simpa using this
 ·have e:pvals (pks (l.set i (p',d)))=(pvals (pks (l.set i (p,d)))).set (i*25+j) v:=by
   have e1:pks (l.set i (p',d))=(pks (l.set i (p,d))).set i p':=by rw[qrc,qrc,List.set_set]
   rw[e1];exact pvals_set _ i j v p' (by rw[qes];simpa using hlt) hj (by rw[s.at];exact hc)
  rw[e];exact h1
 ·obtain⟨a1,a2,a3,a4,a5,a6,a7⟩:=hp;exact⟨by rw[q1];exact a1,by rw[q2];exact a2,by rw[q3];exact a3,by rw[q4];exact a4,by rw[q5];exact a5,by rw[q6];exact a6,by rw[q1,q2,q3,q4,q5,q6];exact a7⟩
theorem MQ.lst (s:MQ w y B g n c l i p d) {r:Option Nat} (hg:y.grownBy y' r) (hr:∀k,r=some k→p.has k) (hp:POwn y' B p d'):MQ w y' B g n c l i p d':=by
 obtain⟨cur,hcur⟩:=qbr s.own.row.2;have hne:∀k,r=some k→k≠g:=fun k e e2=>s.pown.neR hcur (by rw[←e2];exact hr k e)
 have hrow:=s.own.row.grown hg (fun a e he=>by cases e;exact hne _ he.symm rfl);refine s.turn ?_ hp (fun z j hj hz=>?_) (fun k=>Iff.rfl) (s.blw.grown hg (Nat.le_trans s.hB s.blw.size) (fun k e=>(s.pown.lt (hr k e)).1))
 ·rw[qrc] at hrow ⊢;exact hrow
 ·obtain⟨h1,h2⟩:=s.others z j hj hz;exact h1.grown hg (fun k e=>h2 k (hr k e))
end
