/- Lemmas. -/
import Derived.Test.YtobgmpaalnpdcaaGreatDoorV18
import Derived.Test.YtobgmpaalnpdcaaGreatDoorV19
import Derived.Test.YtobgmpaalnpdcaaGreatDoorV01
set_option linter.unusedVariables false
set_option linter.unusedSimpArgs false
set_option maxRecDepth 100000
set_option maxHeartbeats 20000000
namespace Go.Proofs.YtobgmpaalnpdcaaGreatDoor
open Go.RowKit

def SuV (k x:Int) (j:Nat) (d:Pd) (v:Pv):Prop:=v = { Pv.zero with ty:=k,id:=1+x,wan:=d.wan }∧(0<j∨0<d.wan.length)∧∀c∈d.wan,flt c.1=true∧0≤c.2∧c.2≤2
theorem SuV.next {k x:Int} {z:ByteArray×Int} {j:Nat} {p:Pk} {d:Pd} {q:Option Addr} {n c:Nat} (h:SuV k x j d (pv p d)) (hz:flt z.1=true∧0≤z.2∧z.2≤2):SuV k x (j-1) { d with wan:=d.wan++[z] } (pv { p with wan:=⟨q,n,c⟩ } { d with wan:=d.wan++[z] }) :=
 ⟨congrArg (fun v:Pv=>{ v with wan:=d.wan++[z] }) h.1,.inr (by simp),fun c hc=>by
  rcases List.mem_append.1 hc with hc | hc
  ·exact h.2.2 c hc
  ·rw[List.mem_singleton.1 hc];exact hz⟩
theorem SuV.fin {x:Int} {j:Nat} {p:Pk} {d:Pd} (h:SuV 8 x j d (pv p d)) (h0:0≤x) (h1:x<4) (hj:j=0) (hl:d.wan.length≤4):(pv p d).ok=true:=by
 rw[h.1];exact ok_sub h0 h1 (by have:=h.2.1;omega) hl h.2.2
theorem l5k_sub (g:Nat) (ao:Option Addr) (n cap:Nat) (l:List UInt8) (k:Int) (w:World) (hc:Cur w g ao n cap l) (hn:n≤1048576) (t1:(k==1)=false) (t2:(k==2)=false) (t3:(k==3)=false) (t8:(k==8)=true) (t9:(k==9)=false) (t10:(k==10)=false) (t4:(k==4)=false) (t5:(k==5)=false) (t6:(k==6)=false) (t7:(k==7)=false) (t11:(k==11)=false) :
  Calls Tryz.prog 109 #[.pointer (some ⟨g,0,none⟩),.int .i64 k] w fun e w'=>∃p d,(pv p d).ok=true∧e=.returned (.agg (Pk.cells p))∧POwn w' w.heap.size p d∧Pgd 64 p d∧Cur w' g ao n cap l∧w.grownBy w' (some g):=by
 have s:=qhz g ao n cap l k w hc;clear hc;go_enter Tryz.func109,Tryz.ntmps109
 go_upto_region 2 with (first | refine var_pk (p:=ofT k) rfl rfl ?_ | refine al_pk ?_ | (refine bu_pk (ofT k) (by kernel_rfl) ?_) | fail)
 change Code.wp _ _ _ Fq164 _;unfold Fq164;simp only[World.size_alloc];go_wp2_with fail
 refine (qag g ao n cap l 4 _ s.cur hn (by omega) (by omega)).mono ?_;rintro e y5_ ⟨x,hx0,hx1,rfl,hc_,hg_⟩;replace s:=s.draw hc_ hg_;clear hc_ hg_;have c4:=(s.blk.cell 4).trans (Pk.c4 _);have z4:=Lib.frozen_of_heap s.blk 4;have s0:=s.s4 (1+x);clear s;have s:=s0;clear s0;go_wp2_with fail
 refine (qag g ao n cap l 3 _ s.cur hn (by omega) (by omega)).mono ?_;rintro e y6_ ⟨x2,hx20,hx21,rfl,hc_,hg_⟩;replace s:=s.draw hc_ hg_;clear hc_ hg_;obtain⟨x3,rfl⟩:=Int.eq_ofNat_of_zero_le hx20;go_wp2
 go_loopw [7] (fun i wr=>∃(j:Nat) (p:Pk) (d:Pd),i=.int .i64 j∧p.wan.n+j≤3∧St 64 w wr g w.heap.size (w.heap.size+1) ao n cap l p d∧SuV k x j d (pv p d)) (fun i _=>(intOf i).toNat)
 case atStart=>exact⟨1+x3,_,_,by simp,by show 0+(1+x3)≤3;omega,s,⟨rfl,.inl (by omega),fun c h=>(by cases h)⟩⟩
 case round=>
  clear s;obtain⟨j,p,d,rfl,hj,s,V⟩:=hrel
  by_cases hlt:0<j
  ·as_aux_lemma=>
   have hlt':(0:Int)<j:=by omega
   go_wp2;have hgY:g<wr.heap.size:=Nat.lt_of_lt_of_le s.lt s.gro.size;have hrow:=qcz s.own.wan.2;refine qcd 10 (by kernel_rfl) rfl (RR [3,5] 8 g (Value.slice p.wan.a p.wan.n p.wan.c).ownBlock 88 ao n cap l) (fun i v u=>match i with
    |0=>v=.pointer (some ⟨w.heap.size+1,22,none⟩)
    |1=>v=.slice p.wan.a p.wan.n p.wan.c
    |2=>v=.pointer (some ⟨g,0,none⟩)
    |3=>∃x:ByteArray,v=.string x∧(x.size≤61∧flt x=true)
    |4=>v=.pointer (some ⟨g,0,none⟩)
    |5=>∃x:Int,v=.int .i64 x∧(0≤x∧x≤2)
    |6=>∃(x:ByteArray) (q:Int),v=.agg #[.string x,.int .i64 q]∧(x.size≤61∧(flt x=true∧0≤q∧q≤2))
    |7=>∃(blk:Nat) (z:ByteArray×Int),v=.slice (some ⟨blk,0,none⟩) 1 1∧(wr.heap.size≤blk∧(z.1.size≤61∧(flt z.1=true∧0≤z.2∧z.2≤2)))∧u.heap[blk]? = some (.cells #[.string z.1,.int .i64 z.2] 88)
    |8=>∃(a:Option Addr) (c:Nat) (z:ByteArray×Int),v=.slice a (p.wan.n+1) c∧(z.1.size≤61∧(flt z.1=true∧0≤z.2∧z.2≤2))∧WOwn u w.heap.size a (p.wan.n+1) c (d.wan++[z])
    |9=>v=.pointer (some ⟨w.heap.size+1,22,none⟩)
    |_=>True) (HH 8 10 (fun u=>St 64 w u g w.heap.size (w.heap.size+1) ao n cap l p d∧wr.heap.size≤u.heap.size) (fun u=>Sx w u g w.heap.size (w.heap.size+1) ao n cap l p { p with wan:=⟨none,0,0⟩ } { d with wan:=[] })) ?_ ?_ ?_ ?_ ?_
   ·intro i j v u x hi hj hr hne hR hG
    match j,hj,hr,hne,hG with
    |0,_,_,_,hG=>exact hG
    |1,_,_,_,hG=>exact hG
    |2,_,_,_,hG=>exact hG
    |3,_,_,_,hG=>exact hG
    |4,_,_,_,hG=>exact hG
    |5,_,_,_,hG=>exact hG
    |6,_,_,_,hG=>exact hG
    |7,_,_,_,hG=>
     obtain⟨blk,z,e1,e2,e3⟩:=hG;exact⟨blk,z,e1,e2,qhn hR hgY (fun k h=>(hrow k h).2.2) e2.1 e3⟩
    |8,_,hr,hne,hG=>
     have hi8:i=9:=by
      match i,hi,hr,hne with
      |0,_,hr,_=>exact qtf hr
      |1,_,hr,_=>exact qtf hr
      |2,_,hr,_=>exact qtf hr
      |3,_,hr,_=>exact qtf hr
      |4,_,hr,_=>exact qtf hr
      |5,_,hr,_=>exact qtf hr
      |6,_,hr,_=>exact qtf hr
      |7,_,hr,_=>exact qtf hr
      |8,_,_,hne=>exact absurd rfl hne
      |9,_,_,_=>rfl
      |(_+10),h,_,_=>omega
     subst hi8;obtain⟨a,c,z,e1,e2,e3⟩:=hG;exact⟨a,c,z,e1,e2,e3.grown hR.1 (fun a _ he=>by cases he)⟩
    |9,_,_,_,hG=>exact hG
    |(_+10),h,_,_,_=>omega
   ·exact fun i k u x hi hk hr hne hR hH=>qsu (by decide) (fun k hk=>match k,hk with | 0,_=>rfl | 1,_=>rfl | 2,_=>rfl | 3,_=>rfl | 4,_=>rfl | 5,_=>rfl | 6,_=>rfl | 7,_=>rfl) wr (fun k h=>(hrow k h).2.1) (by decide) (fun u k _ ht ho=>qjl ho ht (by decide) (.inr rfl) (.inl (by decide)) (.inl (by decide))) i k u x hr hne hR hH
   ·intro k;unfold HH
    split
    ·exact⟨s.drew,Nat.le_refl _⟩
    split
    ·exact s.drew.x22
    ·trivial
   ·intro i o a u hi hk hH hdep
    match i,hi with
    |0,hi=>
     cases hi;exact g_run (wanted_none rfl _) (z_fld (X:=⟨w.heap.size+1,0,none⟩) (Y:=⟨w.heap.size+1,22,none⟩) 28 _ 22 rfl (eval_at ((hk.at 5 rfl).trans rfl)) (fun _=>by kernel_rfl) ⟨_,rfl,⟨World.grownBy.refl _ _,fun h=>h,fun h=>absurd h (by decide)⟩,rfl⟩)
    |1,hi=>
     cases hi;obtain⟨z0,hz0,rfl⟩:=hdep 0 _ _ rfl rfl rfl;have S:=HH_le hH (by decide);exact g_run (wanted_none rfl _) (z_ld 24 _ rfl (eval_at hz0) (by kernel_rfl) ((S.1.blk.cell 22).trans (Pk.c22 _)) ⟨_,rfl,⟨World.grownBy.refl _ _,fun h=>h,fun h=>absurd h (by decide)⟩,rfl⟩)
    |2,hi=>
     cases hi;exact g_run (wanted_none rfl _) (qab (v:=_) (w':=u) (by first | (simp[execOp,eval_at ((hk.at 0 rfl).trans rfl)];done) | (simp[execOp,eval_at ((hk.at 0 rfl).trans rfl)];rfl)) ⟨_,rfl,⟨World.grownBy.refl _ _,fun h=>h,fun h=>absurd h (by decide)⟩,rfl⟩)
    |3,hi=>
     cases hi;obtain⟨z2,hz2,rfl⟩:=hdep 2 _ _ rfl rfl rfl;have S:=HH_le hH (by decide);refine g_run (wanted_none rfl _) (st_call (exec_call1 _ _ _ _ _ _ cf_fil (eval_at hz2) (fun _=>rfl) _ _ _ _ _ _) ?_);refine (qjj g ao n cap l u S.1.cur hn).mono ?_;rintro e x' ⟨q,hq,hf,rfl,hc,hg⟩;exact⟨_,rfl,_,rfl,⟨hg,fun _=>hc,fun h=>absurd h (by decide)⟩,q,rfl,⟨hq,hf⟩⟩
    |4,hi=>
     cases hi;exact g_run (wanted_none rfl _) (qab (v:=_) (w':=u) (by first | (simp[execOp,eval_at ((hk.at 0 rfl).trans rfl)];done) | (simp[execOp,eval_at ((hk.at 0 rfl).trans rfl)];rfl)) ⟨_,rfl,⟨World.grownBy.refl _ _,fun h=>h,fun h=>absurd h (by decide)⟩,rfl⟩)
    |5,hi=>
     cases hi;obtain⟨z4,hz4,rfl⟩:=hdep 4 _ _ rfl rfl rfl;have S:=HH_le hH (by decide);refine g_run (wanted_none rfl _) (st_call (exec_call2 _ _ _ _ _ _ _ _ cf_bel (eval_at hz4) rfl (fun _=>rfl) _ _ _ _ _ _) ?_);refine (qag g ao n cap l 3 u S.1.cur hn (by omega) (by omega)).mono ?_;rintro e x' ⟨q,hq0,hq1,rfl,hc,hg⟩;exact⟨_,rfl,_,rfl,⟨hg,fun _=>hc,fun h=>absurd h (by decide)⟩,q,rfl,⟨hq0,by omega⟩⟩
    |6,hi=>
     cases hi;obtain⟨z3,hz3,⟨x4,rfl,hx4⟩⟩:=hdep 3 _ _ rfl rfl rfl;obtain⟨z5,hz5,⟨x5,rfl,hx5⟩⟩:=hdep 5 _ _ rfl rfl rfl;exact g_run (wanted_none rfl _) (z_build (vs:=#[(0,.string x4),(1,.int .i64 x5)]) _ rfl (by simp[eval_at hz3,eval_at hz5]) (bw x4 x5 u) ⟨_,rfl,⟨World.grownBy.refl _ _,fun h=>h,fun h=>absurd h (by decide)⟩,x4,x5,rfl,⟨hx4.1,hx4.2,hx5⟩⟩)
    |7,hi=>
     cases hi;obtain⟨z6,hz6,⟨x6,q6,rfl,hx6⟩⟩:=hdep 6 _ _ rfl rfl rfl;have S:=HH_le hH (by decide);exact g_run (wanted_none rfl _) (z_mk _ _ rfl (by simp[eval_at hz6]) (mkw1 x6 q6 u) ⟨_,rfl,⟨World.grownBy_alloc _ _ _,fun h=>h.alloc _,fun h=>absurd h (by decide)⟩,⟨_,(x6,q6),rfl,⟨S.2,hx6⟩,heap_alloc_new _ _⟩⟩)
    |8,hi=>
     cases hi;obtain⟨z1,hz1,rfl⟩:=hdep 1 _ _ rfl rfl rfl;obtain⟨z7,hz7,⟨blk,z,e1,e2,e3⟩⟩:=hdep 7 _ _ rfl rfl rfl;subst e1;have S:=HH_le hH (by decide);have hlen:p.wan.n≤64:=S.1.gd.wan;refine g_run (wanted_none rfl _) (qrk _ _ rfl w.heap.size _ _ _ d.wan (eval_at hz1) S.1.own.wan ⟨blk,0,none⟩ [z] 1 1 rfl (eval_at hz7) ?_ (by omega) S.1.gro.size ?_)
     ·intro k v hv
      match k,hv with
      |0,hv=>
       have e4:v=.string z.1:=by simpa[wvals] using hv.symm
       rw[e4];exact (qcl e3 0).trans rfl
      |1,hv=>
       have e4:v=.int .i64 z.2:=by simpa[wvals] using hv.symm
       rw[e4];exact (qcl e3 1).trans rfl
     ·intro a' c' x' ho hg;exact⟨_,rfl,⟨hg,fun h=>h.keep hg (fun k e=>by have:=(qcz S.1.own.wan.2 k e).2.1;have:=S.1.lt;omega),fun _ k h=>(qcz S.1.own.wan.2 k h).1⟩,a',c',z,rfl,e2.2,ho⟩
    |9,hi=>
     cases hi;exact g_run (wanted_none rfl _) (z_fld (X:=⟨w.heap.size+1,0,none⟩) (Y:=⟨w.heap.size+1,22,none⟩) 28 _ 22 rfl (eval_at ((hk.at 5 rfl).trans rfl)) (fun _=>by kernel_rfl) ⟨_,rfl,⟨World.grownBy.refl _ _,fun h=>h,fun h=>absurd h (by decide)⟩,rfl⟩)
    |(_+10),hi=>cases hi
   intro vs y9 hX_ hG a3_ h3;have X:=HH_N hX_ (by decide);obtain⟨a6,c6,x6,e6,hx6,O6⟩:=hG 8 (by decide);have e7:=hG 9 (by decide);replace e7:vs 9=.pointer (some ⟨w.heap.size+1,22,none⟩):=e7;clear hG hX_;replace h3:puts _ 1 _ (Fq164)=_:=h3;replace h3:puts _ 2 _ (Fq164)=_:=h3;replace h3:puts _ 3 _ (Fq164)=_:=h3;replace h3:puts _ 4 _ (Fq164)=_:=h3;replace h3:puts _ 5 _ (Fq164)=_:=h3;replace h3:puts _ 6 _ (Fq164)=_:=h3;replace h3:puts _ 7 _ (Fq164)=_:=h3;replace h3:puts _ 8 _ (Fq164)=_:=h3;replace h3:puts _ 9 _ (Fq164)=_:=h3;replace h3:Fq164=_:=h3;unfold Fq164 at h3;subst h3;simp only[List.drop_succ_cons,List.drop_zero];simp only[e6,e7];clear e6 e7;have c22:=(X.blk.cell 22).trans (Pk.c22 _);have z22:=Lib.frozen_of_heap X.blk 22;have s2:=X.fin22 s.gd O6 (by omega) (qqr s.gd.wans hx6.1);go_wp2;go_roundw
   case rel=>exact⟨j-1,_,_,by go_num,by show p.wan.n+1+(j-1)≤3;omega,s2,V.next hx6.2⟩
   case measure=>simp[intOf];omega
  ·as_aux_lemma=>
   have hlt':¬(0:Int)<j:=by omega
   go_wp2_with (first | refine load_pk s.blk rfl _ rfl rfl ?_ | (refine qac (q:=p) (old:=Pk.zero) s.res rfl rfl ?_;intro w9 B9 g9) | fail)
   have D9:=s.done g9;have V9:(pv p d).ok=true:=by
    obtain rfl:k=8:=(by simpa using t8);have q1:=s.own.wan.1;exact V.fin hx0 hx1 (by omega) (by omega)
   first
   |exact qaf rfl rfl B9 rfl ⟨p,d,V9,rfl,D9⟩
   |exact qaf rfl rfl B9 rfl ⟨p,V9,rfl,d,D9⟩
   |exact qaf rfl rfl B9 rfl ⟨p,d,rfl,D9⟩
   |exact qaf rfl rfl B9 rfl ⟨p,rfl,d,D9⟩
   |exact qaf rfl rfl B9 rfl ⟨p,rfl,⟨d,D9.1,D9.2.1⟩,D9.2.2⟩
   |(refine qaf rfl rfl B9 rfl ?_;trace_state;exact⟨p,rfl,d,D9⟩)

theorem qjp (g:Nat) (ao:Option Addr) (n cap:Nat) (l:List UInt8) (k:Int) (w:World) (hc:Cur w g ao n cap l) (hn:n≤1048576) (k1:1≤k) (k14:k≤14) :
  Calls Tryz.prog 109 #[.pointer (some ⟨g,0,none⟩),.int .i64 k] w fun e w'=>∃p d,(pv p d).ok=true∧e=.returned (.agg (Pk.cells p))∧POwn w' w.heap.size p d∧Pgd 64 p d∧Cur w' g ao n cap l∧w.grownBy w' (some g):=by
 by_cases h1:k=1
 ·subst h1;exact l5k_con g ao n cap l 1 w hc hn rfl rfl rfl rfl rfl rfl rfl rfl rfl rfl rfl
 by_cases h2:k=2
 ·subst h2;exact l5k_ack g ao n cap l 2 w hc hn rfl rfl rfl rfl rfl rfl rfl rfl rfl rfl rfl
 by_cases h3:k=3
 ·subst h3;exact l5k_pub g ao n cap l 3 w hc hn rfl rfl rfl rfl rfl rfl rfl rfl rfl rfl rfl
 by_cases h8:k=8
 ·subst h8;exact l5k_sub g ao n cap l 8 w hc hn rfl rfl rfl rfl rfl rfl rfl rfl rfl rfl rfl
 by_cases h9:k=9
 ·subst h9;exact l5k_sack g ao n cap l 9 w hc hn rfl rfl rfl rfl rfl rfl rfl rfl rfl rfl rfl
 by_cases h10:k=10
 ·subst h10;exact l5k_uns g ao n cap l 10 w hc hn rfl rfl rfl rfl rfl rfl rfl rfl rfl rfl rfl
 by_cases h4:k=4
 ·subst h4;exact l5k_id4 g ao n cap l 4 w hc hn rfl rfl rfl rfl rfl rfl rfl rfl rfl rfl rfl
 by_cases h5:k=5
 ·subst h5;exact l5k_id5 g ao n cap l 5 w hc hn rfl rfl rfl rfl rfl rfl rfl rfl rfl rfl rfl
 by_cases h6:k=6
 ·subst h6;exact l5k_id6 g ao n cap l 6 w hc hn rfl rfl rfl rfl rfl rfl rfl rfl rfl rfl rfl
 by_cases h7:k=7
 ·subst h7;exact l5k_id7 g ao n cap l 7 w hc hn rfl rfl rfl rfl rfl rfl rfl rfl rfl rfl rfl
 by_cases h11:k=11
 ·subst h11;exact l5k_id11 g ao n cap l 11 w hc hn rfl rfl rfl rfl rfl rfl rfl rfl rfl rfl rfl
 exact l5k_no g ao n cap l k w hc hn (by simpa using h1) (by simpa using h2) (by simpa using h3) (by simpa using h8) (by simpa using h9) (by simpa using h10) (by simpa using h4) (by simpa using h5) (by simpa using h6) (by simpa using h7) (by simpa using h11) (by omega)

def Pv.head (v:Pv):List UInt8 :=
 if v.ty=1 then conB v.lev v.cli v.cln v.kee v.hw v.wt v.wb v.wq v.wr v.hu v.us v.hp v.pa
 else if v.ty=2 then [byte (bit v.pre 1),byte v.cod]
 else if v.ty=3 then pubB v.qos v.id v.top v.bod
 else []
def Pv.low (v:Pv):Int:=if v.ty=3 then pubL v.dup v.qos v.ret else if v.ty=6∨v.ty=8∨v.ty=10 then 2 else 0
def Pv.idB (v:Pv):List UInt8:=if v.ty≠3∧0<v.id then wordB v.id else []
def Pv.rest (v:Pv):List UInt8:=v.head++v.idB++wanB v.wan++cdsB v.cds++namB v.nam
def Pv.full (v:Pv):List UInt8:=[byte (16*v.ty+v.low)]++lenB v.rest.length++v.rest
def Pv.bytes (v:Pv):List UInt8:=if v.ok then v.full else []

theorem qtn {α:Type} (f:α→List UInt8) (k:Nat) (h:∀x,(f x).length≤k) (l:List α):(l.flatMap f).length≤k*l.length:=by
 induction l with
 |nil=>simp
 |cons x l ih=>
  have:=h x;simp only[List.flatMap_cons,List.length_append,List.length_cons,Nat.mul_add,Nat.mul_one];omega
theorem wanB_le (l:List (ByteArray×Int)):(wanB l).length≤63*l.length:=qtn _ 63 (fun x=>by have:=pT_le x.1;simp;omega) l
theorem namB_le (l:List ByteArray):(namB l).length≤62*l.length:=qtn _ 62 pT_le l
theorem cdsB_le (l:List Int):(cdsB l).length=l.length:=by simp[cdsB]
theorem if_le (c:Bool) (x:List UInt8) (k:Nat) (h:x.length≤k):(if c then x else []).length≤k:=by
 cases c
 ·simp
 ·exact h
theorem conB_le (lev:Int) (cli:ByteArray) (cln:Bool) (kee:Int) (hw:Bool) (wt:ByteArray) (wb:List UInt8) (wq:Int) (wr:Bool) (hu:Bool) (us:ByteArray) (hp:Bool) (pa:List UInt8):(conB lev cli cln kee hw wt wb wq wr hu us hp pa).length≤500:=by
 unfold conB;have h1:=pT_le mqtt;have h2:=pT_le cli;have h3:=if_le hw (pT wt++pB wb) 124 (by have:=pT_le wt;have:=pB_le wb;simp;omega);have h4:=if_le hu (pT us) 62 (pT_le us);have h5:=if_le hp (pB pa) 62 (pB_le pa);simp only[List.length_append,List.length_cons,List.length_nil,qas];omega
theorem pubB_le (qos id:Int) (top:ByteArray) (b:List UInt8):(pubB qos id top b).length≤64+b.length:=by
 unfold pubB;have:=pT_le top
 split<;>simp[qas]<;>omega
theorem qdj (v:Pv) (h1:v.bod.length≤1048576) (h2:v.wan.length≤1048576) (h3:v.nam.length≤1048576) (h4:v.cds.length≤1048576):v.rest.length≤200000000:=by
 have a1:v.head.length≤1049576:=by
  unfold Pv.head
  split
  ·exact Nat.le_trans (conB_le _ _ _ _ _ _ _ _ _ _ _ _ _) (by decide)
  split
  ·simp
  split
  ·exact Nat.le_trans (pubB_le _ _ _ _) (by omega)
  ·simp
 have a2:v.idB.length≤2:=by unfold Pv.idB;split<;>simp[qas]
 have a3:=wanB_le v.wan;have a4:=namB_le v.nam;have a5:=cdsB_le v.cds;unfold Pv.rest;simp only[List.length_append];omega
theorem ok_ty {v:Pv} (h:v.ok=true):1≤v.ty∧v.ty≤14:=by
 unfold Pv.ok at h;simp only[Bool.and_eq_true] at h;exact qcw.1 h.1
theorem qed {v:Pv} (h:v.ok=true):v=v.named:=by
 unfold Pv.ok at h;simp only[Bool.and_eq_true,decide_eq_true_eq] at h;exact h.2.1
theorem qip {v:Pv} (h:v.ok=true):v.body=true:=by
 unfold Pv.ok at h;simp only[Bool.and_eq_true] at h;exact h.2.2
theorem qbw {v:Pv} (h:v.ok=true):v.bytes = [byte (16*v.ty+v.low)]++lenB v.rest.length++v.rest:=by
 unfold Pv.bytes;rw[if_pos h];rfl
theorem bytes_no {v:Pv} (h:v.ok=false):v.bytes = []:=by
 unfold Pv.bytes;rw[h];rfl
theorem body1 {v:Pv} (h:v.ok=true) (ht:v.ty=1):0≤(if v.hw then v.wq else 0)∧(if v.hw then v.wq else 0)≤2:=by
 have hb:=qip h;unfold Pv.body at hb;rw[if_pos ht] at hb;simp only[Bool.and_eq_true,Bool.or_eq_true] at hb;cases hw:v.hw with
 |false=>simp
 |true=>
  rw[hw] at hb;have:=hb.1;simp only[Bool.not_true,Bool.false_eq_true,false_or] at this
  simpa using qcw.1 this.2.2
theorem body3 {v:Pv} (h:v.ok=true) (ht:v.ty=3):0≤v.qos∧v.qos≤2:=by
 have hb:=qip h;unfold Pv.body at hb;rw[if_neg (by omega),if_neg (by omega),if_pos ht] at hb;simp only[Bool.and_eq_true] at hb;exact qcw.1 hb.1
theorem bodyI {v:Pv} (h:v.ok=true) (ht:v.ty=4∨v.ty=5∨v.ty=6∨v.ty=7∨v.ty=8∨v.ty=9∨v.ty=10∨v.ty=11):1≤v.id:=by
 have hb:=qip h;unfold Pv.body at hb;rw[if_neg (by omega),if_neg (by omega),if_neg (by omega),if_neg (by omega)] at hb
 split at hb
 ·simp only[Bool.and_eq_true] at hb;exact (qcw.1 hb.2.1).1
 split at hb
 ·simp only[Bool.and_eq_true] at hb;exact (qcw.1 hb.2.1).1
 split at hb
 ·simp only[Bool.and_eq_true] at hb;exact (qcw.1 hb.2.1).1
 ·exact (qcw.1 hb).1
theorem rest1 {v:Pv} (h:v.ok=true) (ht:v.ty=1):v.rest=conB v.lev v.cli v.cln v.kee v.hw (if v.hw then v.wt else ByteArray.empty) (if v.hw then v.wb else []) (if v.hw then v.wq else 0) (if v.hw then v.wr else false) v.hu (if v.hu then v.us else ByteArray.empty) (v.hu&&v.hp) (if v.hu&&v.hp then v.pa else []):=by
 have e:=qed h;rw[qin v ht] at e
 conv=>lhs;rw[e]
 simp[Pv.rest,Pv.head,Pv.idB,Pv.zero,wanB,cdsB,namB]
theorem rest2 {v:Pv} (h:v.ok=true) (ht:v.ty=2):v.rest = [byte (bit (v.pre&&decide (v.cod=0)) 1),byte v.cod]:=by
 have e:=qed h;rw[qqf v ht] at e
 conv=>lhs;rw[e]
 simp[Pv.rest,Pv.head,Pv.idB,Pv.zero,wanB,cdsB,namB]
theorem rest3 {v:Pv} (h:v.ok=true) (ht:v.ty=3):v.rest=pubB v.qos (if 0<v.qos then v.id else 0) v.top v.bod:=by
 have e:=qed h;rw[qoj v ht] at e
 conv=>lhs;rw[e]
 simp[Pv.rest,Pv.head,Pv.idB,Pv.zero,wanB,cdsB,namB]
theorem low3 {v:Pv} (h:v.ok=true) (ht:v.ty=3):v.low=pubL (if 0<v.qos then v.dup else false) v.qos v.ret:=by
 have e:=qed h;rw[qoj v ht] at e
 conv=>lhs;rw[e]
 simp[Pv.low,Pv.zero]
theorem restI {v:Pv} (h:v.ok=true) (k:Int) (ht:v.ty=k) (hk:k=4∨k=5∨k=6∨k=7∨k=11):v.rest=wordB v.id:=by
 have e:=qed h;have hi:=bodyI h (by omega);rw[qeu v k ht hk] at e
 conv=>lhs;rw[e]
 have k1:¬k=1:=by omega
 have k2:¬k=2:=by omega
 have k3:¬k=3:=by omega
 have k4:0<v.id:=by omega
 simp[Pv.rest,Pv.head,Pv.idB,Pv.zero,wanB,cdsB,namB,k1,k2,k3,k4]
theorem rest8 {v:Pv} (h:v.ok=true) (ht:v.ty=8):v.rest=wordB v.id++wanB v.wan:=by
 have e:=qed h;have hi:=bodyI h (by omega);rw[qsn v ht] at e
 conv=>lhs;rw[e]
 have k4:0<v.id:=by omega
 simp[Pv.rest,Pv.head,Pv.idB,Pv.zero,cdsB,namB,k4]
theorem rest9 {v:Pv} (h:v.ok=true) (ht:v.ty=9):v.rest=wordB v.id++cdsB v.cds:=by
 have e:=qed h;have hi:=bodyI h (by omega);rw[qso v ht] at e
 conv=>lhs;rw[e]
 have k4:0<v.id:=by omega
 simp[Pv.rest,Pv.head,Pv.idB,Pv.zero,wanB,namB,k4]
theorem rest10 {v:Pv} (h:v.ok=true) (ht:v.ty=10):v.rest=wordB v.id++namB v.nam:=by
 have e:=qed h;have hi:=bodyI h (by omega);rw[qoi v ht] at e
 conv=>lhs;rw[e]
 have k4:0<v.id:=by omega
 simp[Pv.rest,Pv.head,Pv.idB,Pv.zero,wanB,cdsB,k4]
theorem restN {v:Pv} (h:v.ok=true) (k:Int) (ht:v.ty=k) (hk:k=12∨k=13∨k=14):v.rest = []:=by
 have e:=qed h;rw[qio v k ht hk] at e;rw[e];have k1:¬k=1:=by omega
 have k2:¬k=2:=by omega
 have k3:¬k=3:=by omega
 simp[Pv.rest,Pv.head,Pv.idB,Pv.zero,wanB,cdsB,namB,k1,k2,k3]
