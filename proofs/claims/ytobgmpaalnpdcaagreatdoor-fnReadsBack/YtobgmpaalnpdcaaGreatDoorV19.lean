/- Lemmas. -/
import Derived.Test.YtobgmpaalnpdcaaGreatDoorV17
import Derived.Test.YtobgmpaalnpdcaaGreatDoorV01
set_option linter.unusedVariables false
set_option linter.unusedSimpArgs false
set_option maxRecDepth 100000
set_option maxHeartbeats 20000000
namespace Go.Proofs.YtobgmpaalnpdcaaGreatDoor
open Go.RowKit

def SkV (k x:Int) (j:Nat) (d:Pd) (v:Pv):Prop:=v = { Pv.zero with ty:=k,id:=1+x,cds:=d.cds }∧(0<j∨0<d.cds.length)∧∀c∈d.cds,c∈[(0:Int),1,2,128]
theorem SkV.next {k x z:Int} {j:Nat} {p:Pk} {d:Pd} {q:Option Addr} {n c:Nat} (h:SkV k x j d (pv p d)) (hz:z∈[(0:Int),1,2,128]):SkV k x (j-1) { d with cds:=d.cds++[z] } (pv { p with cds:=⟨q,n,c⟩ } { d with cds:=d.cds++[z] }) :=
 ⟨congrArg (fun v:Pv=>{ v with cds:=d.cds++[z] }) h.1,.inr (by simp),fun c hc=>by
  rcases List.mem_append.1 hc with hc | hc
  ·exact h.2.2 c hc
  ·rw[List.mem_singleton.1 hc];exact hz⟩
theorem SkV.fin {x:Int} {j:Nat} {p:Pk} {d:Pd} (h:SkV 9 x j d (pv p d)) (h0:0≤x) (h1:x<4) (hj:j=0) (hl:d.cds.length≤4):(pv p d).ok=true:=by
 rw[h.1];refine ok_sack h0 h1 (by have:=h.2.1;omega) hl fun c hc=>?_
 have:=h.2.2 c hc;simp at this;omega
theorem l5k_sack (g:Nat) (ao:Option Addr) (n cap:Nat) (l:List UInt8) (k:Int) (w:World) (hc:Cur w g ao n cap l) (hn:n≤1048576) (t1:(k==1)=false) (t2:(k==2)=false) (t3:(k==3)=false) (t8:(k==8)=false) (t9:(k==9)=true) (t10:(k==10)=false) (t4:(k==4)=false) (t5:(k==5)=false) (t6:(k==6)=false) (t7:(k==7)=false) (t11:(k==11)=false) :
  Calls Tryz.prog 109 #[.pointer (some ⟨g,0,none⟩),.int .i64 k] w fun e w'=>∃p d,(pv p d).ok=true∧e=.returned (.agg (Pk.cells p))∧POwn w' w.heap.size p d∧Pgd 64 p d∧Cur w' g ao n cap l∧w.grownBy w' (some g):=by
 have s:=qhz g ao n cap l k w hc;clear hc;go_enter Tryz.func109,Tryz.ntmps109
 go_upto_region 2 with (first | refine var_pk (p:=ofT k) rfl rfl ?_ | refine al_pk ?_ | (refine bu_pk (ofT k) (by kernel_rfl) ?_) | fail)
 change Code.wp _ _ _ Fq164 _;unfold Fq164;simp only[World.size_alloc];go_wp2_with fail
 refine (qag g ao n cap l 4 _ s.cur hn (by omega) (by omega)).mono ?_;rintro e y1_ ⟨x,hx0,hx1,rfl,hc_,hg_⟩;replace s:=s.draw hc_ hg_;clear hc_ hg_;have c4:=(s.blk.cell 4).trans (Pk.c4 _);have z4:=Lib.frozen_of_heap s.blk 4;have s0:=s.s4 (1+x);clear s;have s:=s0;clear s0;go_wp2_with fail
 refine (qag g ao n cap l 3 _ s.cur hn (by omega) (by omega)).mono ?_;rintro e y2_ ⟨x2,hx20,hx21,rfl,hc_,hg_⟩;replace s:=s.draw hc_ hg_;clear hc_ hg_;obtain⟨x3,rfl⟩:=Int.eq_ofNat_of_zero_le hx20;go_wp2
 go_loopw [8] (fun i wr=>∃(j:Nat) (p:Pk) (d:Pd),i=.int .i64 j∧p.cds.n+j≤3∧St 64 w wr g w.heap.size (w.heap.size+1) ao n cap l p d∧SkV k x j d (pv p d)) (fun i _=>(intOf i).toNat)
 case atStart=>exact⟨1+x3,_,_,by simp,by show 0+(1+x3)≤3;omega,s,⟨rfl,.inl (by omega),fun c h=>(by cases h)⟩⟩
 case round=>
  clear s;obtain⟨j,p,d,rfl,hj,s,V⟩:=hrel
  by_cases hlt:0<j
  ·as_aux_lemma=>
   have hlt':(0:Int)<j:=by omega
   go_wp2;have hgY:g<wr.heap.size:=Nat.lt_of_lt_of_le s.lt s.gro.size;have hrow:=qcz s.own.cds.2;refine qcd 8 (by kernel_rfl) rfl (RR [4] 6 g (Value.slice p.cds.a p.cds.n p.cds.c).ownBlock 3 ao n cap l) (fun i v u=>match i with
    |0=>v=.pointer (some ⟨w.heap.size+1,24,none⟩)
    |1=>v=.slice p.cds.a p.cds.n p.cds.c
    |2=>v=.pointer (some ⟨g,0,none⟩)
    |3=>∃(blk:Nat) (z:Nat),v=.slice (some ⟨blk,0,none⟩) 4 4∧wr.heap.size≤blk∧u.heap[blk]? = some (.cells (List.map (Value.int .i64) [(0:Int),1,2,128]).toArray 3)
    |4=>∃x,v=.int .i64 x∧x∈[(0:Int),1,2,128]
    |5=>∃(blk:Nat) (z:Int),v=.slice (some ⟨blk,0,none⟩) 1 1∧wr.heap.size≤blk∧u.heap[blk]? = some (.cells #[.int .i64 z] 3)∧z∈[(0:Int),1,2,128]
    |6=>∃(a:Option Addr) (c:Nat) (z:Int),v=.slice a (p.cds.n+1) c∧z∈[(0:Int),1,2,128]∧IOwn u w.heap.size a (p.cds.n+1) c (d.cds++[z])
    |7=>v=.pointer (some ⟨w.heap.size+1,24,none⟩)
    |_=>True) (HH 6 8 (fun u=>St 64 w u g w.heap.size (w.heap.size+1) ao n cap l p d∧wr.heap.size≤u.heap.size) (fun u=>Sx w u g w.heap.size (w.heap.size+1) ao n cap l p { p with cds:=⟨none,0,0⟩ } { d with cds:=[] })) ?_ ?_ ?_ ?_ ?_
   ·intro i j v u x hi hj hr hne hR hG
    match j,hj,hr,hne,hG with
    |0,_,_,_,hG=>exact hG
    |1,_,_,_,hG=>exact hG
    |2,_,_,_,hG=>exact hG
    |3,_,_,_,hG=>
     obtain⟨blk,z,e1,e2,e3⟩:=hG;exact⟨blk,z,e1,e2,qhn hR hgY (fun k h=>(hrow k h).2.2) e2 e3⟩
    |4,_,_,_,hG=>exact hG
    |5,_,_,_,hG=>
     obtain⟨blk,z,e1,e2,e3,e4⟩:=hG;exact⟨blk,z,e1,e2,qhn hR hgY (fun k h=>(hrow k h).2.2) e2 e3,e4⟩
    |6,_,hr,hne,hG=>
     have hi8:i=7:=by
      match i,hi,hr,hne with
      |0,_,hr,_=>exact qtf hr
      |1,_,hr,_=>exact qtf hr
      |2,_,hr,_=>exact qtf hr
      |3,_,hr,_=>exact qtf hr
      |4,_,hr,_=>exact qtf hr
      |5,_,hr,_=>exact qtf hr
      |6,_,_,hne=>exact absurd rfl hne
      |7,_,_,_=>rfl
      |(_+8),h,_,_=>omega
     subst hi8;obtain⟨a,c,z,e1,e2,e3⟩:=hG;exact⟨a,c,z,e1,e2,e3.grown hR.1 (fun a _ he=>by cases he)⟩
    |7,_,_,_,hG=>exact hG
    |(_+8),h,_,_,_=>omega
   ·exact fun i k u x hi hk hr hne hR hH=>qsu (by decide) (fun k hk=>match k,hk with | 0,_=>rfl | 1,_=>rfl | 2,_=>rfl | 3,_=>rfl | 4,_=>rfl | 5,_=>rfl) wr (fun k h=>(hrow k h).2.1) (by decide) (fun u k _ ht ho=>qjl ho ht (by decide) (.inl (by decide)) (.inl (by decide)) (.inr rfl)) i k u x hr hne hR hH
   ·intro k;unfold HH
    split
    ·exact⟨s.drew,Nat.le_refl _⟩
    split
    ·exact s.drew.x24
    ·trivial
   ·intro i o a u hi hk hH hdep
    match i,hi with
    |0,hi=>
     cases hi;exact g_run (wanted_none rfl _) (z_fld (X:=⟨w.heap.size+1,0,none⟩) (Y:=⟨w.heap.size+1,24,none⟩) 28 _ 24 rfl (eval_at ((hk.at 5 rfl).trans rfl)) (fun _=>by kernel_rfl) ⟨_,rfl,⟨World.grownBy.refl _ _,fun h=>h,fun h=>absurd h (by decide)⟩,rfl⟩)
    |1,hi=>
     cases hi;obtain⟨z0,hz0,rfl⟩:=hdep 0 _ _ rfl rfl rfl;have S:=HH_le hH (by decide);exact g_run (wanted_none rfl _) (z_ld 26 _ rfl (eval_at hz0) (by kernel_rfl) ((S.1.blk.cell 24).trans (Pk.c24 _)) ⟨_,rfl,⟨World.grownBy.refl _ _,fun h=>h,fun h=>absurd h (by decide)⟩,rfl⟩)
    |2,hi=>
     cases hi;exact g_run (wanted_none rfl _) (qab (v:=_) (w':=u) (by first | (simp[execOp,eval_at ((hk.at 0 rfl).trans rfl)];done) | (simp[execOp,eval_at ((hk.at 0 rfl).trans rfl)];rfl)) ⟨_,rfl,⟨World.grownBy.refl _ _,fun h=>h,fun h=>absurd h (by decide)⟩,rfl⟩)
    |3,hi=>
     cases hi;have S:=HH_le hH (by decide);exact g_run (wanted_none rfl _) (z_mk (vs:=#[(0,.int .i64 0),(1,.int .i64 1),(2,.int .i64 2),(3,.int .i64 128)]) _ _ rfl (by simp only[List.map_toArray,List.map_cons,List.map_nil];rfl) (mki4 0 1 2 128 u) ⟨_,rfl,⟨World.grownBy_alloc _ _ _,fun h=>h.alloc _,fun h=>absurd h (by decide)⟩,⟨_,0,rfl,S.2,heap_alloc_new _ _⟩⟩)
    |4,hi=>
     cases hi;obtain⟨z2,hz2,rfl⟩:=hdep 2 _ _ rfl rfl rfl;obtain⟨z3,hz3,⟨blk,z,e1,e2,e3⟩⟩:=hdep 3 _ _ rfl rfl rfl;subst e1;have S:=HH_le hH (by decide);refine g_run (wanted_none rfl _) (st_call (exec_call2 _ _ _ _ _ _ _ _ cf_int (eval_at hz2) (eval_at hz3) (fun _=>rfl) _ _ _ _ _ _) ?_);refine (qbd g ao n cap l blk 4 4 [(0:Int),1,2,128] u S.1.cur hn (by omega) (by omega) rfl (fun i hi=>ints_row e3 i hi) (by omega)).mono ?_;rintro e x' ⟨q,hq,rfl,hc,hg⟩;exact⟨_,rfl,_,rfl,⟨hg,fun _=>hc,fun h=>absurd h (by decide)⟩,q,rfl,hq⟩
    |5,hi=>
     cases hi;obtain⟨z4,hz4,⟨x4,rfl,hx4⟩⟩:=hdep 4 _ _ rfl rfl rfl;have S:=HH_le hH (by decide);exact g_run (wanted_none rfl _) (z_mk _ _ rfl (by simp[eval_at hz4]) (mki1 x4 u) ⟨_,rfl,⟨World.grownBy_alloc _ _ _,fun h=>h.alloc _,fun h=>absurd h (by decide)⟩,⟨_,x4,rfl,S.2,heap_alloc_new _ _,hx4⟩⟩)
    |6,hi=>
     cases hi;obtain⟨z1,hz1,rfl⟩:=hdep 1 _ _ rfl rfl rfl;obtain⟨z5,hz5,⟨blk,z,e1,e2,e3,hzz⟩⟩:=hdep 5 _ _ rfl rfl rfl;subst e1;have S:=HH_le hH (by decide);have hlen:p.cds.n≤64:=S.1.gd.cds;refine g_run (wanted_none rfl _) (z_cdsapp _ _ rfl w.heap.size _ _ _ d.cds (eval_at hz1) S.1.own.cds ⟨blk,0,none⟩ [z] 1 1 rfl (eval_at hz5) ?_ (by omega) S.1.gro.size ?_)
     ·intro k v hv
      match k,hv with
      |0,hv=>
       have e4:v=.int .i64 z:=by simpa[ivals] using hv.symm
       rw[e4];exact (qcl e3 0).trans rfl
     ·intro a' c' x' ho hg;exact⟨_,rfl,⟨hg,fun h=>h.keep hg (fun k e=>by have:=(qcz S.1.own.cds.2 k e).2.1;have:=S.1.lt;omega),fun _ k h=>(qcz S.1.own.cds.2 k h).1⟩,a',c',z,rfl,hzz,ho⟩
    |7,hi=>
     cases hi;exact g_run (wanted_none rfl _) (z_fld (X:=⟨w.heap.size+1,0,none⟩) (Y:=⟨w.heap.size+1,24,none⟩) 28 _ 24 rfl (eval_at ((hk.at 5 rfl).trans rfl)) (fun _=>by kernel_rfl) ⟨_,rfl,⟨World.grownBy.refl _ _,fun h=>h,fun h=>absurd h (by decide)⟩,rfl⟩)
    |(_+8),hi=>cases hi
   intro vs y9 hX_ hG a3_ h3;have X:=HH_N hX_ (by decide);obtain⟨a6,c6,x6,e6,hx6,O6⟩:=hG 6 (by decide);have e7:=hG 7 (by decide);replace e7:vs 7=.pointer (some ⟨w.heap.size+1,24,none⟩):=e7;clear hG hX_;replace h3:puts _ 1 _ (Fq164)=_:=h3;replace h3:puts _ 2 _ (Fq164)=_:=h3;replace h3:puts _ 3 _ (Fq164)=_:=h3;replace h3:puts _ 4 _ (Fq164)=_:=h3;replace h3:puts _ 5 _ (Fq164)=_:=h3;replace h3:puts _ 6 _ (Fq164)=_:=h3;replace h3:puts _ 7 _ (Fq164)=_:=h3;replace h3:Fq164=_:=h3;unfold Fq164 at h3;subst h3;simp only[List.drop_succ_cons,List.drop_zero];simp only[e6,e7];clear e6 e7;have c24:=(X.blk.cell 24).trans (Pk.c24 _);have z24:=Lib.frozen_of_heap X.blk 24;have s2:=X.fin24 s.gd O6 (by omega);go_wp2;go_roundw
   case rel=>exact⟨j-1,_,_,by go_num,by show p.cds.n+1+(j-1)≤3;omega,s2,V.next hx6⟩
   case measure=>simp[intOf];omega
  ·as_aux_lemma=>
   have hlt':¬(0:Int)<j:=by omega
   go_wp2_with (first | refine load_pk s.blk rfl _ rfl rfl ?_ | (refine qac (q:=p) (old:=Pk.zero) s.res rfl rfl ?_;intro w9 B9 g9) | fail)
   have D9:=s.done g9;have V9:(pv p d).ok=true:=by
    obtain rfl:k=9:=(by simpa using t9);have q1:=s.own.cds.1;exact V.fin hx0 hx1 (by omega) (by omega)
   first
   |exact qaf rfl rfl B9 rfl ⟨p,d,V9,rfl,D9⟩
   |exact qaf rfl rfl B9 rfl ⟨p,V9,rfl,d,D9⟩
   |exact qaf rfl rfl B9 rfl ⟨p,d,rfl,D9⟩
   |exact qaf rfl rfl B9 rfl ⟨p,rfl,d,D9⟩
   |exact qaf rfl rfl B9 rfl ⟨p,rfl,⟨d,D9.1,D9.2.1⟩,D9.2.2⟩
   |(refine qaf rfl rfl B9 rfl ?_;trace_state;exact⟨p,rfl,d,D9⟩)

def UnV (k x:Int) (j:Nat) (d:Pd) (v:Pv):Prop:=v = { Pv.zero with ty:=k,id:=1+x,nam:=d.nam }∧(0<j∨0<d.nam.length)∧∀c∈d.nam,flt c=true
theorem UnV.next {k x:Int} {z:ByteArray} {j:Nat} {p:Pk} {d:Pd} {q:Option Addr} {n c:Nat} (h:UnV k x j d (pv p d)) (hz:flt z=true):UnV k x (j-1) { d with nam:=d.nam++[z] } (pv { p with nam:=⟨q,n,c⟩ } { d with nam:=d.nam++[z] }) :=
 ⟨congrArg (fun v:Pv=>{ v with nam:=d.nam++[z] }) h.1,.inr (by simp),fun c hc=>by
  rcases List.mem_append.1 hc with hc | hc
  ·exact h.2.2 c hc
  ·rw[List.mem_singleton.1 hc];exact hz⟩
theorem UnV.fin {x:Int} {j:Nat} {p:Pk} {d:Pd} (h:UnV 10 x j d (pv p d)) (h0:0≤x) (h1:x<4) (hj:j=0) (hl:d.nam.length≤4):(pv p d).ok=true:=by
 rw[h.1];exact ok_uns h0 h1 (by have:=h.2.1;omega) hl h.2.2
theorem l5k_uns (g:Nat) (ao:Option Addr) (n cap:Nat) (l:List UInt8) (k:Int) (w:World) (hc:Cur w g ao n cap l) (hn:n≤1048576) (t1:(k==1)=false) (t2:(k==2)=false) (t3:(k==3)=false) (t8:(k==8)=false) (t9:(k==9)=false) (t10:(k==10)=true) (t4:(k==4)=false) (t5:(k==5)=false) (t6:(k==6)=false) (t7:(k==7)=false) (t11:(k==11)=false) :
  Calls Tryz.prog 109 #[.pointer (some ⟨g,0,none⟩),.int .i64 k] w fun e w'=>∃p d,(pv p d).ok=true∧e=.returned (.agg (Pk.cells p))∧POwn w' w.heap.size p d∧Pgd 64 p d∧Cur w' g ao n cap l∧w.grownBy w' (some g):=by
 have s:=qhz g ao n cap l k w hc;clear hc;go_enter Tryz.func109,Tryz.ntmps109
 go_upto_region 2 with (first | refine var_pk (p:=ofT k) rfl rfl ?_ | refine al_pk ?_ | (refine bu_pk (ofT k) (by kernel_rfl) ?_) | fail)
 change Code.wp _ _ _ Fq164 _;unfold Fq164;simp only[World.size_alloc];go_wp2_with fail
 refine (qag g ao n cap l 4 _ s.cur hn (by omega) (by omega)).mono ?_;rintro e y3_ ⟨x,hx0,hx1,rfl,hc_,hg_⟩;replace s:=s.draw hc_ hg_;clear hc_ hg_;have c4:=(s.blk.cell 4).trans (Pk.c4 _);have z4:=Lib.frozen_of_heap s.blk 4;have s0:=s.s4 (1+x);clear s;have s:=s0;clear s0;go_wp2_with fail
 refine (qag g ao n cap l 3 _ s.cur hn (by omega) (by omega)).mono ?_;rintro e y4_ ⟨x2,hx20,hx21,rfl,hc_,hg_⟩;replace s:=s.draw hc_ hg_;clear hc_ hg_;obtain⟨x3,rfl⟩:=Int.eq_ofNat_of_zero_le hx20;go_wp2
 go_loopw [9] (fun i wr=>∃(j:Nat) (p:Pk) (d:Pd),i=.int .i64 j∧p.nam.n+j≤3∧St 64 w wr g w.heap.size (w.heap.size+1) ao n cap l p d∧UnV k x j d (pv p d)) (fun i _=>(intOf i).toNat)
 case atStart=>exact⟨1+x3,_,_,by simp,by show 0+(1+x3)≤3;omega,s,⟨rfl,.inl (by omega),fun c h=>(by cases h)⟩⟩
 case round=>
  clear s;obtain⟨j,p,d,rfl,hj,s,V⟩:=hrel
  by_cases hlt:0<j
  ·as_aux_lemma=>
   have hlt':(0:Int)<j:=by omega
   go_wp2;have hgY:g<wr.heap.size:=Nat.lt_of_lt_of_le s.lt s.gro.size;have hrow:=qcz s.own.nam.2;refine qcd 7 (by kernel_rfl) rfl (RR [3] 5 g (Value.slice p.nam.a p.nam.n p.nam.c).ownBlock 9 ao n cap l) (fun i v u=>match i with
    |0=>v=.pointer (some ⟨w.heap.size+1,23,none⟩)
    |1=>v=.slice p.nam.a p.nam.n p.nam.c
    |2=>v=.pointer (some ⟨g,0,none⟩)
    |3=>∃x:ByteArray,v=.string x∧(x.size≤61∧flt x=true)
    |4=>∃(blk:Nat) (z:ByteArray),v=.slice (some ⟨blk,0,none⟩) 1 1∧(wr.heap.size≤blk∧(z.size≤61∧flt z=true))∧u.heap[blk]? = some (.cells #[.string z] 9)
    |5=>∃(a:Option Addr) (c:Nat) (z:ByteArray),v=.slice a (p.nam.n+1) c∧(z.size≤61∧flt z=true)∧SOwn u w.heap.size a (p.nam.n+1) c (d.nam++[z])
    |6=>v=.pointer (some ⟨w.heap.size+1,23,none⟩)
    |_=>True) (HH 5 7 (fun u=>St 64 w u g w.heap.size (w.heap.size+1) ao n cap l p d∧wr.heap.size≤u.heap.size) (fun u=>Sx w u g w.heap.size (w.heap.size+1) ao n cap l p { p with nam:=⟨none,0,0⟩ } { d with nam:=[] })) ?_ ?_ ?_ ?_ ?_
   ·intro i j v u x hi hj hr hne hR hG
    match j,hj,hr,hne,hG with
    |0,_,_,_,hG=>exact hG
    |1,_,_,_,hG=>exact hG
    |2,_,_,_,hG=>exact hG
    |3,_,_,_,hG=>exact hG
    |4,_,_,_,hG=>
     obtain⟨blk,z,e1,e2,e3⟩:=hG;exact⟨blk,z,e1,e2,qhn hR hgY (fun k h=>(hrow k h).2.2) e2.1 e3⟩
    |5,_,hr,hne,hG=>
     have hi8:i=6:=by
      match i,hi,hr,hne with
      |0,_,hr,_=>exact qtf hr
      |1,_,hr,_=>exact qtf hr
      |2,_,hr,_=>exact qtf hr
      |3,_,hr,_=>exact qtf hr
      |4,_,hr,_=>exact qtf hr
      |5,_,_,hne=>exact absurd rfl hne
      |6,_,_,_=>rfl
      |(_+7),h,_,_=>omega
     subst hi8;obtain⟨a,c,z,e1,e2,e3⟩:=hG;exact⟨a,c,z,e1,e2,e3.grown hR.1 (fun a _ he=>by cases he)⟩
    |6,_,_,_,hG=>exact hG
    |(_+7),h,_,_,_=>omega
   ·exact fun i k u x hi hk hr hne hR hH=>qsu (by decide) (fun k hk=>match k,hk with | 0,_=>rfl | 1,_=>rfl | 2,_=>rfl | 3,_=>rfl | 4,_=>rfl) wr (fun k h=>(hrow k h).2.1) (by decide) (fun u k _ ht ho=>qjl ho ht (by decide) (.inl (by decide)) (.inr rfl) (.inl (by decide))) i k u x hr hne hR hH
   ·intro k;unfold HH
    split
    ·exact⟨s.drew,Nat.le_refl _⟩
    split
    ·exact s.drew.x23
    ·trivial
   ·intro i o a u hi hk hH hdep
    match i,hi with
    |0,hi=>
     cases hi;exact g_run (wanted_none rfl _) (z_fld (X:=⟨w.heap.size+1,0,none⟩) (Y:=⟨w.heap.size+1,23,none⟩) 28 _ 23 rfl (eval_at ((hk.at 5 rfl).trans rfl)) (fun _=>by kernel_rfl) ⟨_,rfl,⟨World.grownBy.refl _ _,fun h=>h,fun h=>absurd h (by decide)⟩,rfl⟩)
    |1,hi=>
     cases hi;obtain⟨z0,hz0,rfl⟩:=hdep 0 _ _ rfl rfl rfl;have S:=HH_le hH (by decide);exact g_run (wanted_none rfl _) (z_ld 25 _ rfl (eval_at hz0) (by kernel_rfl) ((S.1.blk.cell 23).trans (Pk.c23 _)) ⟨_,rfl,⟨World.grownBy.refl _ _,fun h=>h,fun h=>absurd h (by decide)⟩,rfl⟩)
    |2,hi=>
     cases hi;exact g_run (wanted_none rfl _) (qab (v:=_) (w':=u) (by first | (simp[execOp,eval_at ((hk.at 0 rfl).trans rfl)];done) | (simp[execOp,eval_at ((hk.at 0 rfl).trans rfl)];rfl)) ⟨_,rfl,⟨World.grownBy.refl _ _,fun h=>h,fun h=>absurd h (by decide)⟩,rfl⟩)
    |3,hi=>
     cases hi;obtain⟨z2,hz2,rfl⟩:=hdep 2 _ _ rfl rfl rfl;have S:=HH_le hH (by decide);refine g_run (wanted_none rfl _) (st_call (exec_call1 _ _ _ _ _ _ cf_fil (eval_at hz2) (fun _=>rfl) _ _ _ _ _ _) ?_);refine (qjj g ao n cap l u S.1.cur hn).mono ?_;rintro e x' ⟨q,hq,hf,rfl,hc,hg⟩;exact⟨_,rfl,_,rfl,⟨hg,fun _=>hc,fun h=>absurd h (by decide)⟩,q,rfl,⟨hq,hf⟩⟩
    |4,hi=>
     cases hi;obtain⟨z3,hz3,⟨x4,rfl,hx4⟩⟩:=hdep 3 _ _ rfl rfl rfl;have S:=HH_le hH (by decide);exact g_run (wanted_none rfl _) (z_mk _ _ rfl (by simp[eval_at hz3]) (mks1 x4 u) ⟨_,rfl,⟨World.grownBy_alloc _ _ _,fun h=>h.alloc _,fun h=>absurd h (by decide)⟩,⟨_,x4,rfl,⟨S.2,hx4⟩,heap_alloc_new _ _⟩⟩)
    |5,hi=>
     cases hi;obtain⟨z1,hz1,rfl⟩:=hdep 1 _ _ rfl rfl rfl;obtain⟨z4,hz4,⟨blk,z,e1,e2,e3⟩⟩:=hdep 4 _ _ rfl rfl rfl;subst e1;have S:=HH_le hH (by decide);have hlen:p.nam.n≤64:=S.1.gd.nam;refine g_run (wanted_none rfl _) (z_namapp _ _ rfl w.heap.size _ _ _ d.nam (eval_at hz1) S.1.own.nam ⟨blk,0,none⟩ [z] 1 1 rfl (eval_at hz4) ?_ (by omega) S.1.gro.size ?_)
     ·intro k v hv
      match k,hv with
      |0,hv=>
       have e4:v=.string z:=by simpa[svals] using hv.symm
       rw[e4];exact (qcl e3 0).trans rfl
     ·intro a' c' x' ho hg;exact⟨_,rfl,⟨hg,fun h=>h.keep hg (fun k e=>by have:=(qcz S.1.own.nam.2 k e).2.1;have:=S.1.lt;omega),fun _ k h=>(qcz S.1.own.nam.2 k h).1⟩,a',c',z,rfl,e2.2,ho⟩
    |6,hi=>
     cases hi;exact g_run (wanted_none rfl _) (z_fld (X:=⟨w.heap.size+1,0,none⟩) (Y:=⟨w.heap.size+1,23,none⟩) 28 _ 23 rfl (eval_at ((hk.at 5 rfl).trans rfl)) (fun _=>by kernel_rfl) ⟨_,rfl,⟨World.grownBy.refl _ _,fun h=>h,fun h=>absurd h (by decide)⟩,rfl⟩)
    |(_+7),hi=>cases hi
   intro vs y9 hX_ hG a3_ h3;have X:=HH_N hX_ (by decide);obtain⟨a6,c6,x6,e6,hx6,O6⟩:=hG 5 (by decide);have e7:=hG 6 (by decide);replace e7:vs 6=.pointer (some ⟨w.heap.size+1,23,none⟩):=e7;clear hG hX_;replace h3:puts _ 1 _ (Fq164)=_:=h3;replace h3:puts _ 2 _ (Fq164)=_:=h3;replace h3:puts _ 3 _ (Fq164)=_:=h3;replace h3:puts _ 4 _ (Fq164)=_:=h3;replace h3:puts _ 5 _ (Fq164)=_:=h3;replace h3:puts _ 6 _ (Fq164)=_:=h3;replace h3:Fq164=_:=h3;unfold Fq164 at h3;subst h3;simp only[List.drop_succ_cons,List.drop_zero];simp only[e6,e7];clear e6 e7;have c23:=(X.blk.cell 23).trans (Pk.c23 _);have z23:=Lib.frozen_of_heap X.blk 23;have s2:=X.fin23 s.gd O6 (by omega) (qqr s.gd.nams hx6.1);go_wp2;go_roundw
   case rel=>exact⟨j-1,_,_,by go_num,by show p.nam.n+1+(j-1)≤3;omega,s2,V.next hx6.2⟩
   case measure=>simp[intOf];omega
  ·as_aux_lemma=>
   have hlt':¬(0:Int)<j:=by omega
   go_wp2_with (first | refine load_pk s.blk rfl _ rfl rfl ?_ | (refine qac (q:=p) (old:=Pk.zero) s.res rfl rfl ?_;intro w9 B9 g9) | fail)
   have D9:=s.done g9;have V9:(pv p d).ok=true:=by
    obtain rfl:k=10:=(by simpa using t10);have q1:=s.own.nam.1;exact V.fin hx0 hx1 (by omega) (by omega)
   first
   |exact qaf rfl rfl B9 rfl ⟨p,d,V9,rfl,D9⟩
   |exact qaf rfl rfl B9 rfl ⟨p,V9,rfl,d,D9⟩
   |exact qaf rfl rfl B9 rfl ⟨p,d,rfl,D9⟩
   |exact qaf rfl rfl B9 rfl ⟨p,rfl,d,D9⟩
   |exact qaf rfl rfl B9 rfl ⟨p,rfl,⟨d,D9.1,D9.2.1⟩,D9.2.2⟩
   |(refine qaf rfl rfl B9 rfl ?_;trace_state;exact⟨p,rfl,d,D9⟩)
