/- Lemmas. -/
import Derived.Test.YtpgkbkbhhmfgnaaDoorK13
import Derived.Test.YtpgkbkbhhmfgnaaDoorK01
set_option linter.unusedVariables false
set_option linter.unusedSimpArgs false
set_option maxRecDepth 100000
set_option maxHeartbeats 20000000
namespace Go.Proofs.YtpgkbkbhhmfgnaaDoor
open Go.RowKit

theorem qfi (w:World) (o:Obj):Below w.heap.size w (w.alloc o):=(Below.refl _ _).alloc (Nat.le_refl _) o
theorem below_row {w w':World} {q:Nat} (hg:w.grownBy w' (some q)) (he:w'.heap[q]? = w.heap[q]?):Below w.heap.size w w' :=
 ⟨hg.os,hg.tape,hg.output,hg.size,fun k hk=>by
  by_cases e:k=q
  ·rw[e];exact he
  ·exact hg.block k hk (fun e2=>e (Option.some.inj e2))⟩
theorem run_app0 (w:World) (ty:TypeId) (q:Nat) (hq:w.heap[q]? = some (.cells #[] 5)) (ax:Option Addr) (m c:Nat) (lx:List UInt8) (hx:RdIn w ax m c lx) (hm:m≤1099511627776) :
  ∃ao' cap' w',(Builtin.append_ #[29,29] ty #[.slice (some ⟨q,0,none⟩) 0 0,.slice ax m c]).run Tryd.prog w=.ok (.slice ao' m cap') w'∧Own w' q ao' m cap' lx∧Below w.heap.size w w':=by
 obtain⟨i0,hi,hz0,hz1,hz2⟩:=info_parts info5;have hqs:q<w.heap.size:=(Array.getElem?_eq_some_iff.1 hq).1;have hown:Own w q (some ⟨q,0,none⟩) 0 0 []:=⟨rfl,rfl,.inr ⟨q,0,#[],rfl,Nat.le_refl _,hq,Nat.le_refl _,Nat.zero_le _,rfl,rfl⟩⟩;cases ax with
 |none=>
  have hc:c=0:=hx.2.2.2 rfl;have hm:m=0:=by have:=hx.2.1;omega
  subst hc;subst hm;have hu:lx = []:=List.eq_nil_of_length_eq_zero hx.1.1;subst hu;refine⟨some ⟨q,0,none⟩,0,w,?_,hown,Below.refl _ _⟩;exact run_append_owned_none (P:=Tryd.prog) (w:=w) q 29 ty 5 i0 1 Tryd.underlying29 hi (.slice (some ⟨q,0,none⟩) 0 0) 0 (bvals []) hown.2
 |some ad=>
  have hnews:∀(j:Nat) (v:Value),(bvals lx)[j]? = some v→w.cell? (ad.add j)=some v:=by
   intro j u hu;have hj:j<lx.length:=by
    have:=(List.getElem?_eq_some_iff.1 hu).1
    rwa [qbk] at this
   obtain⟨b,off,e,hcell⟩:=hx.1.2 j (by rw[←hx.1.1];exact hj);simp at e;subst e;rw[qdm lx j hj] at hu;rw[Addr.add_lit,hcell];exact hu
  have hlx:(bvals lx).length=m*1:=by rw[qbk,hx.1.1,Nat.mul_one]
  obtain⟨v',w',hr,h2,h3,_⟩:=run_append_own (P:=Tryd.prog) w q 29 ty 5 i0 (.int .u8 0) 1 1 Tryd.underlying29 hi hz0 hz1 hz2 rfl (by decide) (.slice (some ⟨q,0,none⟩) 0 0) 0 (bvals []) hown.2 ad m c (bvals lx) hlx hnews (qds lx) (by unfold maxLen;omega) (by omega) (Nat.le_of_lt hqs);have h2':=h2;rw[←qdb,List.nil_append] at h2';obtain⟨ao',cap',rfl,hown'⟩:=own_open (by rw[hx.1.1];omega) h2';have hl:(bvals lx).length=m*i0.size:=by rw[hlx,hz1]
  refine⟨ao',cap',w',?_,?_,below_row h3 ?_⟩
  ·rw[hr,Nat.zero_add]
  ·rw[Nat.zero_add] at hown';exact hown'
  ·by_cases hroom:0+m≤0
   ·obtain rfl:m=0:=by omega
    have hfit:0*i0.size+(bvals lx).length≤(#[]:Array Value).size:=by rw[hl];simp
    have hr2:=run_append_room (P:=Tryd.prog) w 29 ty 5 i0 Tryd.underlying29 hi q 0 0 #[] hq ad 0 c (bvals lx) hl hnews (qds lx) hroom hfit;rw[hr] at hr2;simp only[Result.ok.injEq] at hr2;obtain⟨_,rfl⟩:=hr2;have hb0:bvals lx = []:=List.eq_nil_of_length_eq_zero (by rw[hl,Nat.zero_mul]);rw[setRow_heap w q #[] _ 5 _ hq,hq,hb0];simp
   ·have holds:∀(j:Nat) (u:Value),(bvals [])[j]? = some u→w.cell? ((⟨q,0,none⟩ : Addr).add j)=some u:=fun j u h=>by simp[bvals] at h
    have hr2:=run_append_grow (P:=Tryd.prog) w 29 ty 5 i0 (.int .u8 0) Tryd.underlying29 hi hz0 ⟨q,0,none⟩ 0 0 (bvals []) (by simp[bvals]) holds ad m c (bvals lx) hl hnews (by omega) (by omega) (growslice_fits (by omega) (by rw[hz2];omega));rw[hr] at hr2;simp only[Result.ok.injEq] at hr2;obtain⟨_,rfl⟩:=hr2;exact heap_alloc_old w.drew _ hqs
theorem zg_app0 {o:Oper} {a:Act} {w:World} {K:Act→World→Prop} {Q:Exit→Act→World→Prop} (s x:Operand) (ho:o.op=.call { callee:=.builtin .append,args:=#[s,x],argTypes:=#[29,29] })
  (q:Nat) (hs:a.eval s=.slice (some ⟨q,0,none⟩) 0 0) (hq:w.heap[q]? = some (.cells #[] 5)) (ax:Option Addr) (m c:Nat) (lx:List UInt8) (hx:a.eval x=.slice ax m c) (hr:RdIn w ax m c lx) (hm:m≤1099511627776)
  (h:∀ao' cap' w',Own w' q ao' m cap' lx→Below w.heap.size w w'→K (a.put o.dst (.slice ao' m cap')) w'):Oper.wp Tryd.prog o a w K Q:=by
 obtain⟨ao',cap',w',hrun,h2,h3⟩:=run_app0 w o.type q hq ax m c lx hr hm;unfold Oper.wp execOp;simp only[ho,resolve,invoke,builtin,Sem.run_bind,Sem.run_pure,Result.andThen_ok,List.map_toArray,List.map_cons,List.map_nil,hs,hx,hrun];exact h ao' cap' w' h2 h3
theorem mkb0 (u:World):(Instr.buildSlice 29 0 #[]).run Tryd.prog u=.ok (.slice (some ⟨u.heap.size,0,none⟩) 0 0) (u.alloc (.cells #[] 5)):=by kernel_rfl
theorem mkk1 (x y z:Value) (u:World):(Instr.buildSlice 25 1 #[(0,.agg #[x,y,z])]).run Tryd.prog u=.ok (.slice (some ⟨u.heap.size,0,none⟩) 1 1) (u.alloc (.cells #[x,y,z] 57)):=by kernel_rfl
theorem bldk (t:ByteArray) (a:Option Addr) (n c:Nat) (q:Int) (u:World):(Instr.build 57 #[(0,.string t),(1,.slice a n c),(2,.int .i64 q)]).run Tryd.prog u=.ok (.agg #[.string t,.slice a n c,.int .i64 q]) u:=by kernel_rfl
theorem qec (w:World):KOwn (w.alloc (.cells #[] 57)) w.heap.size (some ⟨w.heap.size,0,none⟩) 0 0 [] :=
 ⟨⟨rfl,World.ownsRow_made w #[] 0 (Nat.le_refl _) (Nat.zero_le _) (by simp)⟩,fun x h=>(by cases h),List.Pairwise.nil⟩
abbrev Fk34 {x0 x1 x2 x3 x4 x5 x6 x7 x8 x9 x10 x11 x12 x13 x14 x15 x16 x17 x18 x19 x20 x21 x22 x23 x24 x25 x26 x27 x28 x29 x30 x31 x32 x33:Value} : Act:=.mk #[x0,x1,x2,x3,x4,x5,x6,x7,x8,x9,x10,x11,x12,x13,x14,x15,x16,x17,x18,x19,x20,x21,x22,x23,x24,x25,x26,x27,x28,x29,x30,x31,x32,x33] []
theorem qfu (ao:Option Addr) (n cap:Nat) (l:KtL) (w:World) (hr:KRd w ao n cap l) (hn:n≤1048576) (hm:∀i,i<n→(kf l i).n≤1048576) :
  Calls Tryd.prog 35 #[.slice ao n cap] w fun e w'=>∃a' c',∃ds:KtL,e=.returned (.slice a' n c')∧kvs ds=kvs l∧KOwn w' w.heap.size a' n c' ds∧Below w.heap.size w w':=by
 have HL:Hid (l.length=n):=hr.len;have HR:Hid (KRd w ao n cap l):=hr;have HM:Hid (∀i,i<n→(kf l i).n≤1048576):=hm;clear hr hm;go_enter Tryd.func35,Tryd.ntmps35;go_wp2
 go_loopw [3,4] (fun v i wr=>∃k:Nat,∃a2 c2,∃ds:KtL,i=.int .i64 k∧v=.slice a2 k c2∧k≤n∧Hid (kvs ds=kvs (l.take k))∧Hid (KOwn wr w.heap.size a2 k c2 ds)∧Below w.heap.size w wr) (fun _ i _=>n-(intOf i).toNat)
 case atStart=>exact⟨0,_,_,[],rfl,rfl,Nat.zero_le _,rfl,qec w,(Below.refl _ _).alloc (Nat.le_refl _) _⟩
 case round=>
  obtain⟨k,ao2,cap2,ds,rfl,rfl,hk,hv,ho,hb⟩:=hrel
  by_cases hlt:k<n
  ·obtain⟨b,off,e,hc,hd,hq,hR⟩:=HR.out.get k hlt;subst e;have hck:wr.cell? ⟨b,off+k*3,none⟩ = some (.string (kf l k).t):=(hb.cell (World.block_lt_of_cell? w _ hc)).trans hc;have hdk:wr.cell? ⟨b,off+k*3+1,none⟩ = some (.slice (kf l k).a (kf l k).n (kf l k).c):=(hb.cell (World.block_lt_of_cell? w _ hd)).trans hd;have hqk:wr.cell? ⟨b,off+k*3+2,none⟩ = some (.int .i64 (kf l k).q):=(hb.cell (World.block_lt_of_cell? w _ hq)).trans hq;have hlt':(k:Int)<n:=by omega
   have HKL:Hid (k<l.length):=by show k<l.length;rw[HL.out];exact hlt
   have HRD:Hid (RdIn wr (kf l k).a (kf l k).n (kf l k).c (kd l k)):=hR.below hb;have hnn:(kf l k).n≤1099511627776:=by have:=HM.out k hlt;omega
   clear hc hd hq hR
   go_upto_region 5 with fail
   refine qfd 20 (by kernel_rfl) rfl (fun i u x=>match i with
    |0=>u=.slice ao2 k cap2
    |1=>u=.slice (some ⟨b,off,none⟩) n cap
    |2=>u=.int .i64 (k:Int)
    |3=>u=.pointer (some ⟨b,off+k*3,none⟩)
    |4=>u=.pointer (some ⟨b,off+k*3,none⟩)
    |5=>u=.string (kf l k).t
    |6=>∃q,u=.slice (some ⟨q,0,none⟩) 0 0∧x.heap[q]? = some (.cells #[] 5)∧wr.heap.size≤q
    |7=>u=.slice (some ⟨b,off,none⟩) n cap
    |8=>u=.int .i64 (k:Int)
    |9=>u=.pointer (some ⟨b,off+k*3,none⟩)
    |10=>u=.pointer (some ⟨b,off+k*3+1,none⟩)
    |11=>u=.slice (kf l k).a (kf l k).n (kf l k).c
    |12=>∃a c,u=.slice a (kf l k).n c∧Own x wr.heap.size a (kf l k).n c (kd l k)
    |13=>u=.slice (some ⟨b,off,none⟩) n cap
    |14=>u=.int .i64 (k:Int)
    |15=>u=.pointer (some ⟨b,off+k*3,none⟩)
    |16=>u=.pointer (some ⟨b,off+k*3+2,none⟩)
    |17=>u=.int .i64 (kf l k).q
    |18=>∃a c,u=.agg #[.string (kf l k).t,.slice a (kf l k).n c,.int .i64 (kf l k).q]∧Own x wr.heap.size a (kf l k).n c (kd l k)
    |19=>∃ad a c,u=.slice (some ⟨ad,0,none⟩) 1 1∧x.heap[ad]? = some (.cells #[.string (kf l k).t,.slice a (kf l k).n c,.int .i64 (kf l k).q] 57)∧Own x wr.heap.size a (kf l k).n c (kd l k)
    |_=>True) ?_ ?_ ?_
   ·intro i u x x' hx h
    match i,h with
    |0,h=>exact h
    |1,h=>exact h
    |2,h=>exact h
    |3,h=>exact h
    |4,h=>exact h
    |5,h=>exact h
    |6,h=>exact (let ⟨q,e,h1,h2⟩:=h;⟨q,e,qbd hx h1,h2⟩)
    |7,h=>exact h
    |8,h=>exact h
    |9,h=>exact h
    |10,h=>exact h
    |11,h=>exact h
    |12,h=>exact (let ⟨a,c,e,h1⟩:=h;⟨a,c,e,h1.below hx⟩)
    |13,h=>exact h
    |14,h=>exact h
    |15,h=>exact h
    |16,h=>exact h
    |17,h=>exact h
    |18,h=>exact (let ⟨a,c,e,h1⟩:=h;⟨a,c,e,h1.below hx⟩)
    |19,h=>exact (let ⟨ad,a,c,e,h1,h2⟩:=h;⟨ad,a,c,e,qbd hx h1,h2.below hx⟩)
    |(_+20),h=>trivial
   ·intro i o a u hi hk hbu hdep
    match i,hi with
    |0,hi=>
     cases hi;exact g_run (qab rfl _) (qai _ rfl (qaa ((hk.at 3 rfl).trans rfl)) ⟨_,rfl,Below.refl _ _,rfl⟩)
    |1,hi=>
     cases hi;exact g_run (qab rfl _) (qai _ rfl (qaa ((hk.at 0 rfl).trans rfl)) ⟨_,rfl,Below.refl _ _,rfl⟩)
    |2,hi=>
     cases hi;exact g_run (qab rfl _) (qai _ rfl (qaa ((hk.at 4 rfl).trans rfl)) ⟨_,rfl,Below.refl _ _,rfl⟩)
    |3,hi=>
     cases hi;obtain⟨z1,hz1,rfl⟩:=hdep 1 _ _ rfl rfl rfl;obtain⟨z2,hz2,rfl⟩:=hdep 2 _ _ rfl rfl rfl;exact g_run (qab rfl _) (zg_ix (X:=⟨b,off,none⟩) (Y:=⟨b,off+k*3,none⟩) 25 _ _ rfl (qaa hz1) (qaa hz2) (fun _=>ix_kt b off n cap k hlt _) ⟨_,rfl,Below.refl _ _,rfl⟩)
    |4,hi=>
     cases hi;obtain⟨z3,hz3,rfl⟩:=hdep 3 _ _ rfl rfl rfl;exact g_run (qab rfl _) (qaw (X:=⟨b,off+k*3,none⟩) (Y:=⟨b,off+k*3,none⟩) 57 _ 0 rfl (qaa hz3) (fun _=>by kernel_rfl) ⟨_,rfl,Below.refl _ _,rfl⟩)
    |5,hi=>
     cases hi;obtain⟨z4,hz4,rfl⟩:=hdep 4 _ _ rfl rfl rfl;exact g_run (qab rfl _) (zg_ld 9 _ rfl (qaa hz4) (by kernel_rfl) ((hbu.cell (World.block_lt_of_cell? _ _ hck)).trans hck) ⟨_,rfl,Below.refl _ _,rfl⟩)
    |6,hi=>
     cases hi;exact g_run (qab rfl _) (zg_mk _ _ rfl (show _ = #[] from by simp) (mkb0 u) ⟨_,rfl,(Below.refl _ _).alloc (Nat.le_refl _) _,_,rfl,heap_alloc_new u _,hbu.size⟩)
    |7,hi=>
     cases hi;exact g_run (qab rfl _) (qai _ rfl (qaa ((hk.at 0 rfl).trans rfl)) ⟨_,rfl,Below.refl _ _,rfl⟩)
    |8,hi=>
     cases hi;exact g_run (qab rfl _) (qai _ rfl (qaa ((hk.at 4 rfl).trans rfl)) ⟨_,rfl,Below.refl _ _,rfl⟩)
    |9,hi=>
     cases hi;obtain⟨z7,hz7,rfl⟩:=hdep 7 _ _ rfl rfl rfl;obtain⟨z8,hz8,rfl⟩:=hdep 8 _ _ rfl rfl rfl;exact g_run (qab rfl _) (zg_ix (X:=⟨b,off,none⟩) (Y:=⟨b,off+k*3,none⟩) 25 _ _ rfl (qaa hz7) (qaa hz8) (fun _=>ix_kt b off n cap k hlt _) ⟨_,rfl,Below.refl _ _,rfl⟩)
    |10,hi=>
     cases hi;obtain⟨z9,hz9,rfl⟩:=hdep 9 _ _ rfl rfl rfl;exact g_run (qab rfl _) (qaw (X:=⟨b,off+k*3,none⟩) (Y:=⟨b,off+k*3+1,none⟩) 57 _ 1 rfl (qaa hz9) (fun _=>by kernel_rfl) ⟨_,rfl,Below.refl _ _,rfl⟩)
    |11,hi=>
     cases hi;obtain⟨z10,hz10,rfl⟩:=hdep 10 _ _ rfl rfl rfl;exact g_run (qab rfl _) (zg_ld 29 _ rfl (qaa hz10) (by kernel_rfl) ((hbu.cell (World.block_lt_of_cell? _ _ hdk)).trans hdk) ⟨_,rfl,Below.refl _ _,rfl⟩)
    |12,hi=>
     cases hi;obtain⟨z6,hz6,q,rfl,hq1,hq2⟩:=hdep 6 _ _ rfl rfl rfl;obtain⟨z11,hz11,rfl⟩:=hdep 11 _ _ rfl rfl rfl;refine g_run (qab rfl _) (zg_app0 _ _ rfl q (qaa hz6) hq1 _ _ _ (kd l k) (qaa hz11) (HRD.out.below hbu) hnn fun a c u' ho hb'=>⟨_,rfl,hb',a,c,rfl,ho.mono hq2⟩)
    |13,hi=>
     cases hi;exact g_run (qab rfl _) (qai _ rfl (qaa ((hk.at 0 rfl).trans rfl)) ⟨_,rfl,Below.refl _ _,rfl⟩)
    |14,hi=>
     cases hi;exact g_run (qab rfl _) (qai _ rfl (qaa ((hk.at 4 rfl).trans rfl)) ⟨_,rfl,Below.refl _ _,rfl⟩)
    |15,hi=>
     cases hi;obtain⟨z13,hz13,rfl⟩:=hdep 13 _ _ rfl rfl rfl;obtain⟨z14,hz14,rfl⟩:=hdep 14 _ _ rfl rfl rfl;exact g_run (qab rfl _) (zg_ix (X:=⟨b,off,none⟩) (Y:=⟨b,off+k*3,none⟩) 25 _ _ rfl (qaa hz13) (qaa hz14) (fun _=>ix_kt b off n cap k hlt _) ⟨_,rfl,Below.refl _ _,rfl⟩)
    |16,hi=>
     cases hi;obtain⟨z15,hz15,rfl⟩:=hdep 15 _ _ rfl rfl rfl;exact g_run (qab rfl _) (qaw (X:=⟨b,off+k*3,none⟩) (Y:=⟨b,off+k*3+2,none⟩) 57 _ 2 rfl (qaa hz15) (fun _=>by kernel_rfl) ⟨_,rfl,Below.refl _ _,rfl⟩)
    |17,hi=>
     cases hi;obtain⟨z16,hz16,rfl⟩:=hdep 16 _ _ rfl rfl rfl;exact g_run (qab rfl _) (zg_ld 3 _ rfl (qaa hz16) (by kernel_rfl) ((hbu.cell (World.block_lt_of_cell? _ _ hqk)).trans hqk) ⟨_,rfl,Below.refl _ _,rfl⟩)
    |18,hi=>
     cases hi;obtain⟨z5,hz5,rfl⟩:=hdep 5 _ _ rfl rfl rfl;obtain⟨z12,hz12,a,c,rfl,ho⟩:=hdep 12 _ _ rfl rfl rfl;obtain⟨z17,hz17,rfl⟩:=hdep 17 _ _ rfl rfl rfl;exact g_run (qab rfl _) (zg_build _ rfl (show _ = #[(0,Value.string (kf l k).t),(1,Value.slice a (kf l k).n c),(2,Value.int .i64 (kf l k).q)] from by simp[qaa hz5,qaa hz12,qaa hz17]) (bldk _ _ _ _ _ u) ⟨_,rfl,Below.refl _ _,a,c,rfl,ho⟩)
    |19,hi=>
     cases hi;obtain⟨z18,hz18,a,c,rfl,ho⟩:=hdep 18 _ _ rfl rfl rfl;exact g_run (qab rfl _) (zg_mk _ _ rfl (show _ = #[(0,.agg #[.string (kf l k).t,.slice a (kf l k).n c,.int .i64 (kf l k).q])] from by simp[qaa hz18]) (mkk1 _ _ _ u) ⟨_,rfl,(Below.refl _ _).alloc (Nat.le_refl _) _,_,a,c,rfl,heap_alloc_new u _,ho.alloc _⟩)
    |(_+20),hi=>cases hi
   intro vs y3 b3 hG a3 h3;have g0:vs 0=.slice ao2 k cap2:=hG 0 (by decide);have G19:=hG 19 (by decide);clear hG;replace h3:puts _ 1 _ Fk34=a3:=h3;replace h3:puts _ 2 _ Fk34=a3:=h3;replace h3:puts _ 3 _ Fk34=a3:=h3;replace h3:puts _ 4 _ Fk34=a3:=h3;replace h3:puts _ 5 _ Fk34=a3:=h3;replace h3:puts _ 6 _ Fk34=a3:=h3;replace h3:puts _ 7 _ Fk34=a3:=h3;replace h3:puts _ 8 _ Fk34=a3:=h3;replace h3:puts _ 9 _ Fk34=a3:=h3;replace h3:puts _ 10 _ Fk34=a3:=h3;replace h3:puts _ 11 _ Fk34=a3:=h3;replace h3:puts _ 12 _ Fk34=a3:=h3;replace h3:puts _ 13 _ Fk34=a3:=h3;replace h3:puts _ 14 _ Fk34=a3:=h3;replace h3:puts _ 15 _ Fk34=a3:=h3;replace h3:puts _ 16 _ Fk34=a3:=h3;replace h3:puts _ 17 _ Fk34=a3:=h3;replace h3:puts _ 18 _ Fk34=a3:=h3;replace h3:puts _ 19 _ Fk34=a3:=h3;replace h3:(Act.mk #[_,_,_,_,_,_,_,_,_,_,_,_,_,_,_,_,_,_,_,_,_,_,_,_,_,_,_,_,_,_,_,_,_,_] [])=a3:=h3;subst h3;obtain⟨ad,a,c,e19,hh,hob⟩:=G19;simp only[g0,e19,List.drop_succ_cons,List.drop_zero];clear g0 e19;have ho3:=ho.out.below b3;have hb3:=g_bel hb b3;have hsep:=k_sep (u:=⟨(kf l k).t,a,(kf l k).n,c,(kf l k).q⟩) ho.out hob;have hob2:=hob.mono hb.size;clear hob;refine k_app _ rfl _ _ rfl w.heap.size _ _ _ ds rfl ho3 ad ⟨(kf l k).t,a,(kf l k).n,c,(kf l k).q⟩ (kd l k) rfl hh hob2 hsep (by omega) hb3.size ?_;intro a4 c4 y4 ho4 hg4;have HB4:Hid (Below w.heap.size w y4):=qcm hb3 hb3.size ho3.row hg4;have HO4:Hid (KOwn y4 w.heap.size a4 (k+1) c4 _):=ho4
   have HV4:Hid (kvs (ds++[((⟨(kf l k).t,a,(kf l k).n,c,(kf l k).q⟩ : Kt),kd l k)])=kvs (l.take (k+1))):=by
    show kvs _=_;rw[qed,hv.out,qfn l k HKL.out];rfl
   clear ho4 hg4 ho3 hob2 hsep hb3 hh b3;go_wp2;go_roundw
   case rel=>exact⟨k+1,a4,c4,_,by go_num,rfl,by omega,HV4,HO4,HB4.out⟩
   case measure=>simp[intOf]<;>omega
  ·have hlt':¬(k:Int)<n:=by omega
   obtain rfl:k=n:=by omega
   go_wp2;go_ret;have e:=hv.out;rw[List.take_of_length_le (by rw[HL.out];exact Nat.le_refl _)] at e;exact⟨_,_,rfl,ds,e,ho.out,hb⟩
abbrev Fk12 {x0 x1 x2 x3 x4 x5 x6 x7 x8 x9 x10 x11:Value} : Act:=.mk #[x0,x1,x2,x3,x4,x5,x6,x7,x8,x9,x10,x11] []
theorem copy_ione (t:ByteArray) (ba:Option Addr) (n c:Nat) (q:Int) (d:List UInt8) (w:World) (hr:RdIn w ba n c d) (hn:n≤1099511627776) (ht:t.size≤1048576) :
  Calls Tryd.prog 43 #[.agg #[.string t,.slice ba n c,.int .i64 q]] w fun e w'=>∃ax cx,e=.returned (.agg #[.string t,.slice ax n cx,.int .i64 q])∧Own w' w.heap.size ax n cx d∧Below w.heap.size w w':=by
 have HRD0:Hid (RdIn w ba n c d):=hr;clear hr;go_enter Tryd.func43,Tryd.ntmps43
 go_upto_region 1 with fail
 obtain⟨W,hW⟩ : ∃W,W=(w.alloc (.cells #[.string t,.slice ba n c,.int .i64 q] 57)).alloc (.cells #[.string ByteArray.empty,.slice none 0 0,.int .i64 0] 57):=⟨_,rfl⟩;change Code.wp _ _ _ _ ((w.alloc (.cells #[.string t,.slice ba n c,.int .i64 q] 57)).alloc (.cells #[.string ByteArray.empty,.slice none 0 0,.int .i64 0] 57));rw[←hW];have HA0:Hid (W.heap[w.heap.size]? = some (.cells #[.string t,.slice ba n c,.int .i64 q] 57)):=by rw[hW];exact (Below.heap_alloc _ _ _ (by simp)).trans (heap_alloc_new w _)
 have HA1:Hid (W.heap[w.heap.size+1]? = some (.cells #[.string ByteArray.empty,.slice none 0 0,.int .i64 0] 57)):=by
  have e:=heap_alloc_new (w.alloc (.cells #[.string t,.slice ba n c,.int .i64 q] 57)) (.cells #[.string ByteArray.empty,.slice none 0 0,.int .i64 0] 57);rw[show (w.alloc (.cells #[.string t,.slice ba n c,.int .i64 q] 57)).heap.size=w.heap.size+1 from by simp] at e;rw[hW];exact e
 have HB:Hid (Below w.heap.size w W):=by rw[hW];exact ((Below.refl _ _).alloc (Nat.le_refl _) _).alloc (by simp) _
 have hsz:W.heap.size=w.heap.size+1+1:=by rw[hW];simp
 have HRD:Hid (RdIn W ba n c d):=HRD0.out.below HB.out;have c0:W.cell? ⟨w.heap.size,0,none⟩ = some (.string t):=qal HA0.out 0;have c1:W.cell? ⟨w.heap.size,0+1,none⟩ = some (.slice ba n c):=qal HA0.out 1;have c2:W.cell? ⟨w.heap.size,0+2,none⟩ = some (.int .i64 q):=qal HA0.out 2;clear hW HRD0;refine qfd 9 (by kernel_rfl) rfl (fun i u x=>match i with
  |0=>u=.pointer (some ⟨w.heap.size,0,none⟩)
  |1=>u=.string t
  |2=>u=.string t
  |3=>u=.pointer (some ⟨w.heap.size,0+1,none⟩)
  |4=>u=.slice ba n c
  |5=>∃ax cx,u=.slice ax n cx∧Own x W.heap.size ax n cx d
  |6=>u=.pointer (some ⟨w.heap.size,0+2,none⟩)
  |7=>u=.int .i64 q
  |8=>∃ax cx,u=.agg #[.string t,.slice ax n cx,.int .i64 q]∧Own x W.heap.size ax n cx d
  |_=>True) ?_ ?_ ?_
 ·intro i u x x' hx h
  match i,h with
  |0,h=>exact h
  |1,h=>exact h
  |2,h=>exact h
  |3,h=>exact h
  |4,h=>exact h
  |5,h=>exact (let ⟨a,c,e,h1⟩:=h;⟨a,c,e,h1.below hx⟩)
  |6,h=>exact h
  |7,h=>exact h
  |8,h=>exact (let ⟨a,c,e,h1⟩:=h;⟨a,c,e,h1.below hx⟩)
  |(_+9),h=>trivial
 ·intro i o a u hi hk hbu hdep
  match i,hi with
  |0,hi=>
   cases hi;exact g_run (qab rfl _) (qaw (X:=⟨w.heap.size,0,none⟩) (Y:=⟨w.heap.size,0,none⟩) 57 _ 0 rfl (qaa ((hk.at 1 rfl).trans rfl)) (fun _=>by kernel_rfl) ⟨_,rfl,Below.refl _ _,rfl⟩)
  |1,hi=>
   cases hi;obtain⟨z0,hz0,rfl⟩:=hdep 0 _ _ rfl rfl rfl;exact g_run (qab rfl _) (zg_ld 9 _ rfl (qaa hz0) (by kernel_rfl) ((hbu.cell (World.block_lt_of_cell? _ _ c0)).trans c0) ⟨_,rfl,Below.refl _ _,rfl⟩)
  |2,hi=>
   cases hi;obtain⟨z1,hz1,rfl⟩:=hdep 1 _ _ rfl rfl rfl;refine g_run (qab rfl _) (qak (qav _ _ _ _ _ _ (fun _ _=>by kernel_rfl) (qaa hz1) (fun _=>rfl) _ _ _ _ _ _) ?_);refine (clone_x t u ht).mono ?_;rintro e u' ⟨rfl,hb'⟩;exact⟨_,rfl,_,rfl,hb',rfl⟩
  |3,hi=>
   cases hi;exact g_run (qab rfl _) (qaw (X:=⟨w.heap.size,0,none⟩) (Y:=⟨w.heap.size,0+1,none⟩) 57 _ 1 rfl (qaa ((hk.at 1 rfl).trans rfl)) (fun _=>by kernel_rfl) ⟨_,rfl,Below.refl _ _,rfl⟩)
  |4,hi=>
   cases hi;obtain⟨z3,hz3,rfl⟩:=hdep 3 _ _ rfl rfl rfl;exact g_run (qab rfl _) (zg_ld 29 _ rfl (qaa hz3) (by kernel_rfl) ((hbu.cell (World.block_lt_of_cell? _ _ c1)).trans c1) ⟨_,rfl,Below.refl _ _,rfl⟩)
  |5,hi=>
   cases hi;obtain⟨z4,hz4,rfl⟩:=hdep 4 _ _ rfl rfl rfl;refine g_run (qab rfl _) (qak (qft _ _ _ _ _ _ _ _ (fun _ _=>by kernel_rfl) (qaa hz4) rfl (fun _=>rfl) _ _ _ _ _ _) ?_);refine (qco ba n c 0 d u (HRD.out.below hbu) hn (by decide)).mono ?_;rintro e u' ⟨ax,cx,rfl,ho,hb'⟩;exact⟨_,rfl,_,rfl,hb',ax,cx,rfl,ho.mono hbu.size⟩
  |6,hi=>
   cases hi;exact g_run (qab rfl _) (qaw (X:=⟨w.heap.size,0,none⟩) (Y:=⟨w.heap.size,0+2,none⟩) 57 _ 2 rfl (qaa ((hk.at 1 rfl).trans rfl)) (fun _=>by kernel_rfl) ⟨_,rfl,Below.refl _ _,rfl⟩)
  |7,hi=>
   cases hi;obtain⟨z6,hz6,rfl⟩:=hdep 6 _ _ rfl rfl rfl;exact g_run (qab rfl _) (zg_ld 3 _ rfl (qaa hz6) (by kernel_rfl) ((hbu.cell (World.block_lt_of_cell? _ _ c2)).trans c2) ⟨_,rfl,Below.refl _ _,rfl⟩)
  |8,hi=>
   cases hi;obtain⟨z2,hz2,rfl⟩:=hdep 2 _ _ rfl rfl rfl;obtain⟨z5,hz5,ax,cx,rfl,ho⟩:=hdep 5 _ _ rfl rfl rfl;obtain⟨z7,hz7,rfl⟩:=hdep 7 _ _ rfl rfl rfl;exact g_run (qab rfl _) (zg_build _ rfl (show _ = #[(0,Value.string t),(1,Value.slice ax n cx),(2,Value.int .i64 q)] from by simp[qaa hz2,qaa hz5,qaa hz7]) (bldk _ _ _ _ _ u) ⟨_,rfl,Below.refl _ _,ax,cx,rfl,ho⟩)
  |(_+9),hi=>cases hi
 intro vs y3 b3 hG a3 h3;have G8:=hG 8 (by decide);clear hG;replace h3:puts _ 1 _ Fk12=a3:=h3;replace h3:puts _ 2 _ Fk12=a3:=h3;replace h3:puts _ 3 _ Fk12=a3:=h3;replace h3:puts _ 4 _ Fk12=a3:=h3;replace h3:puts _ 5 _ Fk12=a3:=h3;replace h3:puts _ 6 _ Fk12=a3:=h3;replace h3:puts _ 7 _ Fk12=a3:=h3;replace h3:puts _ 8 _ Fk12=a3:=h3;replace h3:(Act.mk #[_,_,_,_,_,_,_,_,_,_,_,_] [])=a3:=h3;subst h3;obtain⟨ax,cx,e8,ho⟩:=G8;simp only[e8,List.drop_succ_cons,List.drop_zero];clear e8;have hA:=qbd b3 HA1.out;have z0:y3.cell? ⟨w.heap.size+1,0,none⟩ = some (.string ByteArray.empty):=qal hA 0;have z1:y3.cell? ⟨w.heap.size+1,1,none⟩ = some (.slice none 0 0):=qal hA 1;have z2:y3.cell? ⟨w.heap.size+1,2,none⟩ = some (.int .i64 0):=qal hA 2;have g0:y3.frozen? ⟨w.heap.size+1,0,none⟩ = false:=Lib.frozen_of_heap hA 0;have g1:y3.frozen? ⟨w.heap.size+1,1,none⟩ = false:=Lib.frozen_of_heap hA 1;have g2:y3.frozen? ⟨w.heap.size+1,2,none⟩ = false:=Lib.frozen_of_heap hA 2;have HZ:Hid (y3.heap[w.heap.size+1]? = some (.cells #[.string ByteArray.empty,.slice none 0 0,.int .i64 0] 57)):=hA;have HB3:Hid (Below w.heap.size w y3):=HB.out.trans (b3.mono HB.out.size);have HO:Hid (Own y3 (w.heap.size+1+1) ax n cx d):=by rw[←hsz];exact ho
 clear hA ho b3 c0 c1 c2 hsz;go_wp2;refine k_ret (x:=⟨t,ax,n,cx,q⟩) rfl rfl (k_set3 HZ.out) rfl ⟨_,_,rfl,?_,?_⟩
 ·have o3:=HO.out.grown (qde y3 (w.heap.size+1) 0 (.string t)) (fun a e=>by have:=(HO.out.block e).1;simp;omega);have o4:=o3.grown (qde _ (w.heap.size+1) 1 (.slice ax n cx)) (fun a e=>by have:=(HO.out.block e).1;simp;omega);have o5:=o4.grown (qde _ (w.heap.size+1) 2 (.int .i64 q)) (fun a e=>by have:=(HO.out.block e).1;simp;omega);exact o5.mono (by omega)
 ·exact ((HB3.out.setCell (by show _≤w.heap.size+1;omega) _).setCell (by show _≤w.heap.size+1;omega) _).setCell (by show _≤w.heap.size+1;omega) _
def forK (f:ByteArray) (vs:List Kv):List Kv:=vs.filter fun v=>qbf f.data.toList v.t.data.toList
theorem qgb (f:ByteArray) (l:KtL) (k:Nat) (h:k<l.length):forK f (kvs (l.take (k+1)))=forK f (kvs (l.take k))++(if qbf f.data.toList (kf l k).t.data.toList then [kv (kf l k,kd l k)] else []):=by
 rw[qfn l k h];unfold forK;rw[List.filter_append]
 congr 1
 cases hm:qbf f.data.toList (kf l k).t.data.toList<;>simp[kv,hm]
theorem forK_len (f:ByteArray) (vs:List Kv):(forK f vs).length≤vs.length:=List.length_filter_le _ _
theorem for_iKeptFor (ao:Option Addr) (n cap:Nat) (l:KtL) (f:ByteArray) (w:World) (hr:KRd w ao n cap l) (hn:n≤1048576) (hs:∀x∈l,x.1.t.size≤1048576∧x.1.n≤1048576) (hf:f.size≤1048576) :
  Calls Tryd.prog 20 #[.slice ao n cap,.string f] w fun e w'=>∃a' m' c',∃ds:KtL,e=.returned (.slice a' m' c')∧kvs ds=forK f (kvs l)∧KOwn w' w.heap.size a' m' c' ds∧Below w.heap.size w w':=by
 have HL:Hid (l.length=n):=hr.len;have HR:Hid (KRd w ao n cap l):=hr;have HS:Hid (∀x∈l,x.1.t.size≤1048576∧x.1.n≤1048576):=hs;clear hr hs;go_enter Tryd.func20,Tryd.ntmps20;go_wp2
 go_loopw [5,11] (fun v i wr=>∃k m:Nat,∃a2 c2,∃ds:KtL,i=.int .i64 k∧v=.slice a2 m c2∧k≤n∧Hid (m≤k)∧Hid (kvs ds=forK f (kvs (l.take k)))∧Hid (KOwn wr w.heap.size a2 m c2 ds)∧Below w.heap.size w wr) (fun _ i _=>n-(intOf i).toNat)
 case atStart=>exact⟨0,0,_,_,[],rfl,rfl,Nat.zero_le _,Nat.le_refl _,rfl,qec w,(Below.refl _ _).alloc (Nat.le_refl _) _⟩
 case round=>
  obtain⟨k,m,ao2,cap2,ds,rfl,rfl,hk,hmk,hv,ho,hb⟩:=hrel
  by_cases hlt:k<n
  ·obtain⟨b,off,e,hc,hd,hq,hR⟩:=HR.out.get k hlt;subst e;have hck:wr.cell? ⟨b,off+k*3,none⟩ = some (.string (kf l k).t):=(hb.cell (World.block_lt_of_cell? w _ hc)).trans hc;have hdk:wr.cell? ⟨b,off+k*3+1,none⟩ = some (.slice (kf l k).a (kf l k).n (kf l k).c):=(hb.cell (World.block_lt_of_cell? w _ hd)).trans hd;have hqk:wr.cell? ⟨b,off+k*3+2,none⟩ = some (.int .i64 (kf l k).q):=(hb.cell (World.block_lt_of_cell? w _ hq)).trans hq;have hlt':(k:Int)<n:=by omega
   have HKL:Hid (k<l.length):=by show k<l.length;rw[HL.out];exact hlt
   have HRD:Hid (RdIn wr (kf l k).a (kf l k).n (kf l k).c (kd l k)):=hR.below hb;have hbd:=HS.out _ (kf_mem HKL.out);have htk:(kf l k).t.size≤1048576:=hbd.1;have hnn:(kf l k).n≤1099511627776:=by have:=hbd.2;simp only at this;omega
   clear hc hd hq hR hbd;go_wp2_with fail
   have hbw:Below w.heap.size w (wr.alloc (.cells #[.string (kf l k).t,.slice (kf l k).a (kf l k).n (kf l k).c,.int .i64 (kf l k).q] 57)):=hb.alloc hb.size _;have hh0:=heap_alloc_new wr (.cells #[.string (kf l k).t,.slice (kf l k).a (kf l k).n (kf l k).c,.int .i64 (kf l k).q] 57);have hao:=(ho.out.below (qfi wr (.cells #[.string (kf l k).t,.slice (kf l k).a (kf l k).n (kf l k).c,.int .i64 (kf l k).q] 57)));have hrd0:=HRD.out.alloc (.cells #[.string (kf l k).t,.slice (kf l k).a (kf l k).n (kf l k).c,.int .i64 (kf l k).q] 57);obtain⟨v,hvv⟩ : ∃v,qbf f.data.toList (kf l k).t.data.toList=v:=⟨_,rfl⟩;have HMV:Hid (qbf f.data.toList (kf l k).t.data.toList=v):=hvv;clear hvv;refine (mat_iMatch f (kf l k).t _ hf htk).mono ?_;rintro e w2 ⟨he,hw2⟩;rw[HMV.out] at he;obtain rfl:=he;have hb2:=hbw.trans (hw2.mono hbw.size);have HO2:Hid (KOwn w2 w.heap.size ao2 m cap2 ds):=hao.below hw2;have HR2:Hid (RdIn w2 (kf l k).a (kf l k).n (kf l k).c (kd l k)):=hrd0.below hw2;have e0:w2.cell? ⟨wr.heap.size,0,none⟩ = some (.string (kf l k).t):=qal (qbd hw2 hh0) 0;have e1:w2.cell? ⟨wr.heap.size,1,none⟩ = some (.slice (kf l k).a (kf l k).n (kf l k).c):=qal (qbd hw2 hh0) 1;have e2:w2.cell? ⟨wr.heap.size,2,none⟩ = some (.int .i64 (kf l k).q):=qal (qbd hw2 hh0) 2;clear hw2 hbw hh0 hao hrd0 hb hck hdk hqk;have hstep:=qgb f l k HKL.out;rw[HMV.out] at hstep;have HSTEP:Hid (forK f (kvs (l.take (k+1)))=forK f (kvs (l.take k))++(if v=true then [kv (kf l k,kd l k)] else [])):=hstep;clear hstep;cases v
   ·have HV4:Hid (kvs ds=forK f (kvs (l.take (k+1)))):=by show _=_;rw[HSTEP.out,hv.out];simp
    go_wp2;go_roundw
    case rel=>exact⟨k+1,m,ao2,cap2,ds,by go_num,rfl,by omega,by show _≤_;have:=hmk.out;omega,HV4,HO2,hb2⟩
    case measure=>simp[intOf]<;>omega
   ·go_wp2_with fail
    refine (copy_ione (kf l k).t (kf l k).a (kf l k).n (kf l k).c (kf l k).q (kd l k) _ HR2.out hnn htk).mono ?_;rintro e w3 ⟨ax,cx,rfl,hob,hw3⟩;have ho3:=HO2.out.below hw3;have hb3:=hb2.trans (hw3.mono hb2.size);have hsep:=k_sep (u:=⟨(kf l k).t,ax,(kf l k).n,cx,(kf l k).q⟩) HO2.out hob;have hob2:=hob.mono hb2.size;have ho4:=ho3.below (qfi w3 (.cells #[.string (kf l k).t,.slice ax (kf l k).n cx,.int .i64 (kf l k).q] 57));have hob4:=hob2.alloc (.cells #[.string (kf l k).t,.slice ax (kf l k).n cx,.int .i64 (kf l k).q] 57);have hh4:=heap_alloc_new w3 (.cells #[.string (kf l k).t,.slice ax (kf l k).n cx,.int .i64 (kf l k).q] 57);have hb4:Below w.heap.size w (w3.alloc (.cells #[.string (kf l k).t,.slice ax (kf l k).n cx,.int .i64 (kf l k).q] 57)):=hb3.alloc hb3.size _;clear hob hob2 ho3 hw3 hb3 e0 e1 e2;go_wp2_with (at_builtin;refine k_app _ rfl _ _ rfl w.heap.size _ _ _ ds rfl ho4 w3.heap.size ⟨(kf l k).t,ax,(kf l k).n,cx,(kf l k).q⟩ (kd l k) rfl hh4 hob4 hsep (by have:=hmk.out;omega) hb4.size ?_)
    intro a5 c5 y5 ho5 hg5;have HB5:Hid (Below w.heap.size w y5):=qcm hb4 hb4.size ho4.row hg5;have HO5:Hid (KOwn y5 w.heap.size a5 (m+1) c5 _):=ho5;have HV5:Hid (kvs (ds++[((⟨(kf l k).t,ax,(kf l k).n,cx,(kf l k).q⟩ : Kt),kd l k)])=forK f (kvs (l.take (k+1)))):=by
     show kvs _=_;rw[qed,hv.out,HSTEP.out];rfl
    clear ho5 hg5 ho4 hob4 hsep hb4 hh4;go_wp2;go_roundw
    case rel=>exact⟨k+1,m+1,a5,c5,_,by go_num,rfl,by omega,by show _≤_;have:=hmk.out;omega,HV5,HO5,HB5.out⟩
    case measure=>simp[intOf]<;>omega
  ·have hlt':¬(k:Int)<n:=by omega
   obtain rfl:k=n:=by omega
   go_wp2;go_ret;have e:=hv.out;rw[List.take_of_length_le (by rw[HL.out];exact Nat.le_refl _)] at e;exact⟨_,m,_,rfl,ds,e,ho.out,hb⟩
