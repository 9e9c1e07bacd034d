/- Lemmas. -/
import Derived.Deep.MidRow
import Derived.Test.YtpjkbgdkligpdaaGreatDoorX30
import Derived.Test.YtpjkbgdkligpdaaGreatDoorX01
set_option linter.unusedVariables false
set_option linter.unusedSimpArgs false
set_option maxRecDepth 100000
set_option maxHeartbeats 20000000
namespace Go.Proofs.YtpjkbgdkligpdaaGreatDoor
open Go.RowKit

theorem Pgd.sz {p:Pk} {d:Pd} {m:Nat} (h:Pgd m p d):Psz p d:=⟨Nat.le_trans h.top (by decide),Nat.le_trans h.cli (by decide),Nat.le_trans h.wt (by decide),Nat.le_trans h.us (by decide),fun x hx=>Nat.le_trans (h.wans x hx) (by decide),fun x hx=>Nat.le_trans (h.nams x hx) (by decide)⟩
theorem Pgd.ln {p:Pk} {d:Pd} (h:Pgd 1048576 p d):Plen p 1048576:=⟨h.bod,h.wb,h.pa,h.wan,h.nam,h.cds⟩
def Good (w w':World) (e:Ending) (v:Pv) (n:Int) (x:Value):Prop:=∃p d,e=.returned (.tuple #[.agg (Pk.cells p),.int .i64 n,x])∧POwn w' w.heap.size p d∧Pgd 1048576 p d∧pv p d=v∧Below w.heap.size w w'
def Pack (w w':World) (e:Ending) (b:List UInt8):Prop:=if (getP b).2.2=0 then Good w w' e (getP b).1 (getP b).2.1 .nilIface else e=.returned (.tuple #[.agg Pk.zero.cells,.int .i64 0,errC (getP b).2.2])∧Below w.heap.size w w'
theorem POwn.low {w:World} {B B':Nat} {p:Pk} {d:Pd} (h:POwn w B p d) (hB:B'≤B):POwn w B' p d :=
 ⟨⟨h.bod.1,qbc h.bod.2 hB⟩,⟨h.wb.1,qbc h.wb.2 hB⟩,⟨h.pa.1,qbc h.pa.2 hB⟩,⟨h.wan.1,qbc h.wan.2 hB⟩,⟨h.nam.1,qbc h.nam.2 hB⟩,⟨h.cds.1,qbc h.cds.2 hB⟩,h.dis⟩
theorem qrq {v:Pv} (h:v.ok=true):2≤v.bytes.length:=by
 have h1:=qne h;have h2:1≤(lenB v.rest.length).length:=by
  have h340:=rest_340 h;rw[qmw (by omega)];exact (lenF_len 3 _).1
 unfold Pv.hd at h1;omega
theorem fst_tyJ {x:Nat} (hx:x<256) (h:fstOk x=true):1≤(qcb x).ty∧(qcb x).ty≤14:=by
 have hh:∀x:Fin 256,fstOk x.val=true→1≤(qcb x.val).ty∧(qcb x.val).ty≤14:=by decide +kernel
 exact hh ⟨x,hx⟩ h
theorem headE_le {b:List UInt8} {m k:Nat} (h:headE b=.inr (m,k)):m≤340∧m+k≤b.length:=by
 unfold headE at h
 repeat' split at h
 all_goals first | (cases h;done) | skip
 rename_i h0 h1 h2 h3 h4
 obtain⟨m',k',e1,e2,e3,e4⟩:=qnl (l:=b) (a:=(getE b 1).1) (b:=(getE b 1).2.1) (by omega) (by
  have:(getE b 1).2.2=0:=by simpa using h2
  rw[←this])
 simp only[Sum.inr.injEq,Prod.mk.injEq] at h;omega
theorem parts_x (x:Nat) (hty:1≤(qcb x).ty∧(qcb x).ty≤14) (ao:Option Addr) (n cap:Nat) (l:List UInt8) (w:World) (hr:RdIn w ao n cap l) (hn:n≤1048576) :
  Calls Tryz.prog 128 #[.agg (fstX x).cells,.slice ao n cap] w fun e' w'=>Parts w w' e' (qbg (qcb x) l):=by
 rw[←fstX_pv x] at hty ⊢;unfold fstX at hty ⊢
 split at hty
 ·rename_i h;rw[if_pos h];exact parts_i 3 (by decide) _ _ _ ao n cap l w hr hn
 ·rename_i h;rw[if_neg h];exact parts_i _ hty _ _ _ ao n cap l w hr hn
theorem pack_i (ao:Option Addr) (n cap:Nat) (l:List UInt8) (w:World) (hr:RdIn w ao n cap l) (hn:n≤1048576) :
  Calls Tryz.prog 81 #[.slice ao n cap] w fun e w'=>Pack w w' e l:=by
 have HL:Hid (l.length=n):=hr.1.1;have A1:Blk (w.alloc (.cells Pk.zero.cells 28)) w.heap.size Pk.zero:=heap_alloc_new _ _;have hb:=qac w (.cells Pk.zero.cells 28);have HR:Hid (RdIn w ao n cap l):=hr;have hr1:=hr.below hb;clear hr;cases hE:headE l with
 |inl c=>
  have HC:c≠0:=headE_ne hE;have hc:(getP l).2.2=c:=by unfold getP;rw[hE]
  have HX:Hid (∀w w' e,Pack w w' e l=(e=.returned (.tuple #[.agg Pk.zero.cells,.int .i64 0,errC (c)])∧Below w.heap.size w w')):=fun w w' e=>by
   unfold Pack;rw[hc,if_neg HC]
  have HD:Hid (∀w w' e,Head w w' e l cap→e=.returned (.tuple #[.agg Pk.zero.cells,.slice none 0 0,.iface 98 (.agg #[.int .i64 c])])∧Below w.heap.size w w'):=fun w w' e h=>by
   unfold Head at h;rw[hE] at h;exact h
  clear hE hc;go_enter Tryz.func81,Tryz.ntmps81
  go_upto_region 1 with (first | refine al_pk ?_ | fail)
  go_wp2_with fail
  refine (head_i ao n cap l _ hr1 hn).mono ?_;intro e w1 hh;obtain⟨rfl,b1⟩:=HD.out _ _ _ hh;clear hh HD hr1;replace A1:=A1.next b1;replace hb:=bel hb b1;clear b1
  go_upto_region 2 with (first | refine qbb (p:=Pk.zero) rfl rfl ?_ | fail)
  replace A1:=A1.next (qac _ (.cells Pk.zero.cells 28));replace hb:=bel hb (qac _ (.cells Pk.zero.cells 28))
  go_upto_region 3 with fail
  refine wp_region_list ?_;refine bu_pk Pk.zero (by kernel_rfl) ?_;go_wp2_with (first | (refine qag (q:=Pk.zero) (old:=Pk.zero) A1 rfl rfl ?_;intro w9 B9 g9) | fail)
  exact qcl rfl rfl rfl rfl B9 rfl (by
   rw[HX.out];exact⟨rfl,below_st hb g9 (Nat.le_refl _)⟩)
 |inr nk=>
  obtain⟨m,k⟩:=nk;obtain⟨r,hr0⟩ : ∃r,qbg (qcb (bt l 0)) ((l.drop k).take m)=r:=⟨_,rfl⟩;have HG:Hid (getP l=if r.2.2=false∧r.1.ok=true∧qfl l r.1.bytes=true then (r.1,(r.1.bytes.length:Int),0) else (Pv.zero,0,2)):=by
   unfold Hid getP;rw[hE];simp only[hr0]
  have hfo:fstOk (bt l 0)=true:=by
   unfold headE at hE
   split at hE
   ·cases hE
   split at hE
   ·cases hE
   ·rename_i h;simpa using h
  have hty:1≤(qcb (bt l 0)).ty∧(qcb (bt l 0)).ty≤14:=fst_tyJ (bt_lt l 0) hfo;have HD:Hid (∀w w' e,Head w w' e l cap→∃ax cx,e=.returned (.tuple #[.agg (fstX (bt l 0)).cells,.slice ax m cx,.nilIface])∧RdIn w' ax m cx ((l.drop k).take m)∧Below w.heap.size w w'):=fun w w' e h=>by
   unfold Head at h;rw[hE] at h;exact h
  have hm:m≤n:=by
   have h1:((l.drop k).take m).length≤l.length:=by rw[List.length_take,List.length_drop];omega
   have:=headE_le hE;have:=HL.out;omega
  have HPt:Hid (∀(ax:Option Addr) (cx:Nat) (u:World),RdIn u ax m cx ((l.drop k).take m)→Calls Tryz.prog 128 #[.agg (fstX (bt l 0)).cells,.slice ax m cx] u fun e' w'=>Parts u w' e' r):=fun ax cx u hu=>by
   have:=parts_x (bt l 0) hty ax m cx _ u hu (by omega);rw[hr0] at this;exact this
  clear hE hr0 hfo hty;obtain⟨p0,hp0⟩ : ∃p0,fstX (bt l 0)=p0:=⟨_,rfl⟩;rw[hp0] at HD HPt;clear hp0;generalize hfl:(l.drop k).take m=fo at *;clear hfl;go_enter Tryz.func81,Tryz.ntmps81
  go_upto_region 1 with (first | refine al_pk ?_ | fail)
  go_wp2_with fail
  refine (head_i ao n cap l _ hr1 hn).mono ?_;intro e w1 hh;obtain⟨ax,cx,rfl,hrx,b1⟩:=HD.out _ _ _ hh;clear hh HD hr1;replace A1:=A1.next b1;replace hb:=bel hb b1;clear b1
  go_upto_region 2 with (first | refine qbb (p:=p0) rfl rfl ?_ | fail)
  have A2:Blk (w1.alloc (.cells p0.cells 28)) w1.heap.size p0:=heap_alloc_new _ _;have hne:w.heap.size≠w1.heap.size:=Nat.ne_of_lt A1.lt;have hbn:w.heap.size≤w1.heap.size:=Nat.le_of_lt A1.lt;replace A1:=A1.next (qac _ (.cells p0.cells 28));replace hrx:=hrx.below (qac _ (.cells p0.cells 28));replace hb:=bel hb (qac _ (.cells p0.cells 28));generalize w1.alloc (.cells p0.cells 28)=y at *;generalize w1.heap.size=b at *
  go_upto_region 4 with fail
  refine wp_region_list ?_;refine qal A2 rfl _ rfl rfl ?_;go_wp2_with fail
  refine (HPt.out ax cx _ hrx).mono ?_;rintro e w2 ⟨p,d,rfl,ow,gd,b2,hpd⟩;obtain⟨v,z,er⟩:=r;simp only at hpd HG ⊢;subst hpd;clear HPt hrx;replace ow:POwn w2 w.heap.size p d:=ow.low (by have:=hb.size;omega);replace A1:=A1.next b2;replace A2:=A2.next b2;replace hb:=bel hb b2;clear b2;cases er with
  |true=>
   have hc:(getP l).2.2=2:=by rw[HG.out,if_neg (by simp)]
   have HX:Hid (∀w w' e,Pack w w' e l=(e=.returned (.tuple #[.agg Pk.zero.cells,.int .i64 0,errC (2)])∧Below w.heap.size w w')):=fun w w' e=>by
    unfold Pack;rw[hc,if_neg (by decide)]
   clear hc HG;rw[show errV true=.iface 98 (.agg #[.int .i64 2]) from rfl]
   go_upto_region 6 with (first | (refine qag (q:=p) (old:=p0) A2 rfl rfl ?_;intro w3 A3 g3) | fail)
   replace A1:Blk w3 w.heap.size Pk.zero:=(g3.block w.heap.size A1.lt (fun e=>hne (by simpa using e))).trans A1;replace hb:=below_st hb g3 hbn
   go_upto_region 6 with fail
   refine wp_region_list ?_;refine bu_pk Pk.zero (by kernel_rfl) ?_;go_wp2_with (first | (refine qag (q:=Pk.zero) (old:=Pk.zero) A1 rfl rfl ?_;intro w9 B9 g9) | fail)
   exact qcl rfl rfl rfl rfl B9 rfl (by
    rw[HX.out];exact⟨rfl,below_st hb g9 (Nat.le_refl _)⟩)
  |false=>
   rw[show errV false=.nilIface from rfl]
   go_upto_region 7 with (first | (refine qag (q:=p) (old:=p0) A2 rfl rfl ?_;intro w3 A3 g3) | fail)
   replace A1:Blk w3 w.heap.size Pk.zero:=(g3.block w.heap.size A1.lt (fun e=>hne (by simpa using e))).trans A1;replace ow:=ow.grown g3 (fun k e=>by cases e;exact ow.ne A2);replace hb:=below_st hb g3 hbn;clear A2 g3;refine wp_region_list ?_;refine qal A3 rfl _ rfl rfl ?_;go_wp2_with fail
   refine (qpu p d _ ow.rd gd.sz gd.ln).mono ?_;rintro e w4 ⟨a4,n4,c4,rfl,O4,b4⟩;replace A1:=A1.next b4;replace A3:=A3.next b4;replace ow:=ow.below b4;replace hb:=bel hb b4;clear b4;cases hok:(pv p d).ok with
   |false=>
    have hn4:n4=0:=by have:=O4.1;rw[qqk hok] at this;exact this.symm
    have hc:(getP l).2.2=2:=by rw[HG.out,if_neg (by simp[hok])]
    have HX:Hid (∀w w' e,Pack w w' e l=(e=.returned (.tuple #[.agg Pk.zero.cells,.int .i64 0,errC (2)])∧Below w.heap.size w w')):=fun w w' e=>by
     unfold Pack;rw[hc,if_neg (by decide)]
    clear hc HG hok O4;subst hn4
    go_upto_region 9 with fail
    refine wp_region_list ?_;refine bu_pk Pk.zero (by kernel_rfl) ?_;go_wp2_with (first | (refine qag (q:=Pk.zero) (old:=Pk.zero) A1 rfl rfl ?_;intro w9 B9 g9) | fail)
    exact qcl rfl rfl rfl rfl B9 rfl (by
     rw[HX.out];exact⟨rfl,below_st hb g9 (Nat.le_refl _)⟩)
   |true=>
    have hpos:=qrq hok;have hn4:((n4:Int)==0)=false:=by have:=O4.1;simp;omega
    have hrl:=HR.out.below hb;go_wp2_with fail
    refine (qpt ao a4 n cap n4 c4 l (pv p d).bytes _ hrl O4.rd).mono ?_;rintro e w5 ⟨rfl,rfl⟩;cases hbg:qfl l (pv p d).bytes with
    |false=>
     have hc:(getP l).2.2=2:=by rw[HG.out,if_neg (by simp[hbg])]
     have HX:Hid (∀w w' e,Pack w w' e l=(e=.returned (.tuple #[.agg Pk.zero.cells,.int .i64 0,errC (2)])∧Below w.heap.size w w')):=fun w w' e=>by
      unfold Pack;rw[hc,if_neg (by decide)]
     clear hc HG hok O4 hrl
     go_upto_region 9 with fail
     refine wp_region_list ?_;refine bu_pk Pk.zero (by kernel_rfl) ?_;go_wp2_with (first | (refine qag (q:=Pk.zero) (old:=Pk.zero) A1 rfl rfl ?_;intro w9 B9 g9) | fail)
     exact qcl rfl rfl rfl rfl B9 rfl (by
      rw[HX.out];exact⟨rfl,below_st hb g9 (Nat.le_refl _)⟩)
    |true=>
     have hN:Hid (((pv p d).bytes.length:Int)=n4):=by unfold Hid;rw[O4.1]
     have hg:getP l=(pv p d,((pv p d).bytes.length:Int),0):=by rw[HG.out,if_pos (by simp[hok,hbg])]
     have HX:Hid (∀w w' e,Pack w w' e l=Good w w' e (pv p d) n4 .nilIface):=fun w w' e=>by
      unfold Pack;rw[hg,if_pos rfl,hN.out]
     clear hg HG hrl
     go_upto_region 10 with fail
     refine wp_region_list ?_;refine qal A3 rfl _ rfl rfl ?_;go_wp2_with (first | (refine qag (q:=p) (old:=Pk.zero) A1 rfl rfl ?_;intro w9 B9 g9) | fail)
     exact qcl rfl rfl rfl rfl B9 rfl (by
      rw[HX.out];exact⟨p,d,rfl,ow.grown g9 (fun k e=>by cases e;exact ow.ne A1),gd,rfl,below_st hb g9 (Nat.le_refl _)⟩)
theorem as_hit2 (c old:Int) (t:Nat) (w:World) (hg:ErrTy w) (ht:Row w t #[.int .i64 old] 98) :
  Calls Tryz.prog 82 #[.iface 98 (.agg #[.int .i64 c]),.iface 100 (.pointer (some ⟨t,0,none⟩))] w fun ev w'=>ev=.returned (.bool true)∧Row w' t #[.int .i64 c] 98∧w.grownBy w' (some t):=by
 refine (as_hit c old t w hg ht).mono ?_;rintro e w' ⟨rfl,rfl⟩;have hb:=bel (bel (bel (qac w (.cells #[.pointer (some ⟨t,0,none⟩)] 100)) (qac _ (.cells #[.pointer (some ⟨5,100,none⟩),.pointer (some ⟨w.heap.size,0,none⟩),.int .u64 150] 166))) (qac _ (.cells #[.pointer (some ⟨5,100,none⟩),.pointer (some ⟨w.heap.size,0,none⟩),.int .u64 150] 166))) (qac _ (.cells #[.int .i64 c] 98));exact⟨rfl,setRow_heap _ t #[.int .i64 old] _ 98 (0,0) (ht.next hb),qct (qdp hb) (qgz _ t _)⟩
def R4 (r i:Nat) (u u':World):Prop:=if i=3 then u'=u.setRow r Pk.zero.cells else u'=u
structure J4 (w0:World) (r t:Nat) (c:Int) (u:World):Prop where
 tar:Row u t #[.int .i64 c] 98
 res:∃p0,Blk u r p0
 gro:Below w0.heap.size w0 u
theorem J4.set {w0 u:World} {r t:Nat} {c:Int} (h:J4 w0 r t c u) (htr:t≠r) (hr:w0.heap.size≤r):J4 w0 r t c (u.setRow r Pk.zero.cells):=by
 obtain⟨p0,h0⟩:=h.res;exact⟨(setRow_other u r t _ htr).trans h.tar,⟨Pk.zero,setRow_heap u r p0.cells Pk.zero.cells 28 (0,0) h0⟩,h.gro.grown (qgz u r _) h.gro.size (fun k e=>by cases e;exact hr)⟩
theorem build_zero (u:World):(Instr.build 28 #[]).run Tryz.prog u=.ok (.agg Pk.zero.cells) u:=by kernel_rfl
theorem z_buildZ {o:Oper} {a:Act} {w:World} {K:Act→World→Prop} {Q:Exit→Act→World→Prop} (ho:o.op=.build 28 #[]) (h:K (a.put o.dst (.agg Pk.zero.cells)) w):Oper.wp Tryz.prog o a w K Q :=
 qae (w':=w) (v:=.agg Pk.zero.cells) (by unfold execOp;rw[ho];simp only[List.map_toArray,List.map_nil,Sem.run_bind,build_zero,Result.andThen_ok,Sem.run_pure]) h
def Got (w w':World) (e:Ending) (b:List UInt8):Prop:=Good w w' e (getP b).1 (getP b).2.1 (.int .i64 (getP b).2.2)
theorem qrx {w w':World} {c:Int} (hb:Below w.heap.size w w'):Good w w' (.returned (.tuple #[.agg Pk.zero.cells,.int .i64 0,.int .i64 c])) Pv.zero 0 (.int .i64 c) :=
 ⟨Pk.zero,dnil,rfl,own_nils w' w.heap.size 0 false 0 false,gd_nils 0 false 0 false,rfl,hb⟩
theorem get_i (ao:Option Addr) (n cap:Nat) (l:List UInt8) (w:World) (hr:RdIn w ao n cap l) (hn:n≤1048576) (hT:ErrTy w) :
  Calls Tryz.prog 24 #[.slice ao n cap] w fun e w'=>Got w w' e l:=by
 have A1:Blk (w.alloc (.cells Pk.zero.cells 28)) w.heap.size Pk.zero:=heap_alloc_new _ _;have hb:=qac w (.cells Pk.zero.cells 28);have hr1:=hr.below hb;have hTl:1<w.heap.size:=by
  unfold ErrTy at hT
  rcases Nat.lt_or_ge 1 w.heap.size with h | h
  ·exact h
  ·simp[World.cell?,Array.getElem?_eq_none h] at hT
 clear hr;cases hg:getP l with
 |mk v nc=>
  obtain⟨nn,c⟩:=nc
  by_cases hc:c=0
  ·subst hc;have HX:Hid (∀w w' e,Got w w' e l=Good w w' e v nn (.int .i64 0)):=fun w w' e=>by unfold Got;rw[hg]
   have HD:Hid (∀w w' e,Pack w w' e l→Good w w' e v nn .nilIface):=fun w w' e h=>by
    unfold Pack at h;rw[hg,if_pos rfl] at h;exact h
   clear hg hT;go_enter Tryz.func24,Tryz.ntmps24
   go_upto_region 1 with (first | refine al_pk ?_ | fail)
   go_wp2_with fail
   refine (pack_i ao n cap l _ hr1 hn).mono ?_;intro e w1 hh;obtain⟨p,d,rfl,ow,gd,hpd,b1⟩:=HD.out _ _ _ hh;clear hh HD hr1;replace ow:POwn w1 w.heap.size p d:=ow.low (by have:=hb.size;omega);replace A1:=A1.next b1;replace hb:=bel hb b1;clear b1
   go_upto_region 2 with (first | refine qbb (p:=p) rfl rfl ?_ | fail)
   have A2:Blk (w1.alloc (.cells p.cells 28)) w1.heap.size p:=heap_alloc_new _ _;replace A1:=A1.next (qac _ (.cells p.cells 28));replace ow:=ow.below (qac _ (.cells p.cells 28));replace hb:=bel hb (qac _ (.cells p.cells 28));generalize w1.alloc (.cells p.cells 28)=y at *;generalize w1.heap.size=b at *;go_wp2_with fail
   refine (as_nil _ _).mono ?_;rintro e w2 ⟨rfl,hw2⟩;have b2:=qac y (.cells #[.int .i64 0] 98);rw[hw2];clear hw2;replace A1:=A1.next b2;replace A2:=A2.next b2;replace ow:=ow.below b2;replace hb:=bel hb b2;clear b2;generalize y.alloc (.cells #[.int .i64 0] 98)=y2 at *
   go_upto_region 5 with fail
   refine wp_region_list ?_;refine qal A2 rfl _ rfl rfl ?_;go_wp2_with (first | (refine qag (q:=p) (old:=Pk.zero) A1 rfl rfl ?_;intro w9 B9 g9) | fail)
   exact qcl rfl rfl rfl rfl B9 rfl (by
    rw[HX.out];exact⟨p,d,rfl,ow.grown g9 (fun k e=>by cases e;exact ow.ne A1),gd,hpd,below_st hb g9 (Nat.le_refl _)⟩)
  ·obtain⟨rfl,rfl,hc12⟩:=getP_bad hg hc;have HX:Hid (∀w w',Got w w' (.returned (.tuple #[.agg Pk.zero.cells,.int .i64 0,.int .i64 c])) l=(True∧Below w.heap.size w w')):=fun w w'=>by
    unfold Got;rw[hg];exact propext ⟨fun h=>⟨trivial,h.choose_spec.choose_spec.2.2.2.2⟩,fun h=>qrx h.2⟩
   have HD:Hid (∀w w' e,Pack w w' e l→e=.returned (.tuple #[.agg Pk.zero.cells,.int .i64 0,.iface 98 (.agg #[.int .i64 c])])∧Below w.heap.size w w'):=fun w w' e h=>by
    unfold Pack at h;rw[hg,if_neg hc] at h;exact h
   clear hg hc hc12;go_enter Tryz.func24,Tryz.ntmps24
   go_upto_region 1 with (first | refine al_pk ?_ | fail)
   go_wp2_with fail
   refine (pack_i ao n cap l _ hr1 hn).mono ?_;intro e w1 hh;obtain⟨rfl,b1⟩:=HD.out _ _ _ hh;clear hh HD hr1;replace A1:=A1.next b1;replace hb:=bel hb b1;clear b1
   go_upto_region 2 with (first | refine qbb (p:=Pk.zero) rfl rfl ?_ | fail)
   replace A1:=A1.next (qac _ (.cells Pk.zero.cells 28));replace hb:=bel hb (qac _ (.cells Pk.zero.cells 28));generalize w1.alloc (.cells Pk.zero.cells 28)=y at *;generalize w1.heap.size=b at *;have T2:Row (y.alloc (.cells #[.int .i64 0] 98)) y.heap.size #[.int .i64 0] 98:=Row.new _ _ _;have hTy:=(hT.below hb hTl).below (qac y (.cells #[.int .i64 0] 98)) (Nat.lt_of_lt_of_le hTl hb.size);have htr:y.heap.size≠w.heap.size:=Nat.ne_of_gt A1.lt;have htn:w.heap.size≤y.heap.size:=Nat.le_of_lt A1.lt;replace A1:=A1.next (qac y (.cells #[.int .i64 0] 98));replace hb:=bel hb (qac y (.cells #[.int .i64 0] 98));go_wp2_with fail
   generalize hy:y.alloc (.cells #[.int .i64 0] 98)=y2 at *;clear hy;generalize y.heap.size=t at *;refine (as_hit2 c 0 t y2 hTy T2).mono ?_;rintro e w3 ⟨rfl,T3,g3⟩;replace A1:Blk w3 w.heap.size Pk.zero:=(g3.block w.heap.size A1.lt (fun e=>htr (by simpa using e.symm))).trans A1;replace hb:=below_st hb g3 htn;clear T2 hTy g3;have T2:=T3;clear T3;go_wp2;refine qbn (by kernel_rfl) rfl (J4 w w.heap.size t c) ⟨T2,⟨_,A1⟩,⟨hb.os,hb.tape,hb.output,hb.size,hb.block⟩⟩ (R4 w.heap.size) (fun i v u=>match i with
    |0=>v=.agg Pk.zero.cells
    |1=>v=.pointer (some ⟨t,0,none⟩)
    |2=>v=.int .i64 c
    |4=>v=.int .i64 0
    |5=>v=.int .i64 c
    |_=>True) (fun i a u=>if i=3 then Blk u w.heap.size Pk.zero else True) ?_ ?_ ?_ ?_ ?_
   ·intro i u u' hR hJ;unfold R4 at hR
    split at hR
    ·rw[hR];exact hJ.set htr (Nat.le_refl _)
    ·rw[hR];exact hJ
   ·intro i0 i v u u' _ hx h
    match i,h with
    |0,h=>exact h
    |1,h=>exact h
    |2,h=>exact h
    |3,h=>exact h
    |4,h=>exact h
    |5,h=>exact h
    |(_+6),h=>trivial
   ·intro i j o oj a v u u' hi hj hne hdj hx hS
    by_cases h3:j=3
    ·rw[if_pos h3] at hS ⊢;unfold R4 at hx;rw[if_neg (by omega)] at hx;rw[hx];exact hS
    ·rw[if_neg h3];trivial
   ·intro i o a u hi hk hJ hdep
    match i,hi with
    |0,hi=>
     cases hi;exact (z_buildZ rfl ⟨_,rfl,rfl,rfl,trivial⟩)
    |1,hi=>
     cases hi;exact (z_fld (X:=⟨t,0,none⟩) (Y:=⟨t,0,none⟩) 98 _ 0 rfl (qaa ((hk.at 8 rfl).trans rfl)) (fun _=>by kernel_rfl) ⟨_,rfl,rfl,rfl,trivial⟩)
    |2,hi=>
     cases hi;obtain⟨z1,hz1,rfl,_⟩:=hdep 1 _ rfl rfl;replace hz1:=hz1 _ rfl;exact (z_ld 3 _ rfl (qaa hz1) (by kernel_rfl) (hJ.tar.cell 0 rfl) ⟨_,rfl,rfl,rfl,trivial⟩)
    |3,hi=>
     cases hi;obtain⟨z0,hz0,rfl,_⟩:=hdep 0 _ rfl rfl;replace hz0:=hz0 _ rfl;obtain⟨p0,h0⟩:=hJ.res;exact wp_store_row 28 _ _ rfl w.heap.size Pk.zero.cells (qaa ((hk.at 2 rfl).trans rfl)) (qaa hz0) 28 p0.cells h0 (infoP.trans (by rw[Pk.csize])) rfl Pk.zero.ones ⟨_,rfl,rfl,trivial,setRow_heap u w.heap.size p0.cells Pk.zero.cells 28 (0,0) h0⟩
    |4,hi=>
     cases hi;exact (z_asg _ rfl rfl ⟨_,rfl,rfl,rfl,trivial⟩)
    |5,hi=>
     cases hi;obtain⟨z2,hz2,rfl,_⟩:=hdep 2 _ rfl rfl;replace hz2:=hz2 _ rfl;exact (z_asg _ rfl (qaa hz2) ⟨_,rfl,rfl,rfl,trivial⟩)
    |(_+6),hi=>cases hi
   intro vs u9 hJ hG a3_ h3 hS_;have B9:=hS_ 3 (by decide);rw[if_pos rfl] at B9;clear hS_;have e4:=hG 4 (by decide);replace e4:vs 4=.int .i64 0:=e4;have e5:=hG 5 (by decide);replace e5:vs 5=.int .i64 c:=e5;clear hG;replace h3:puts _ 1 _ (Fq23)=_:=h3;replace h3:puts _ 2 _ (Fq23)=_:=h3;replace h3:puts _ 3 _ (Fq23)=_:=h3;replace h3:puts _ 4 _ (Fq23)=_:=h3;replace h3:puts _ 5 _ (Fq23)=_:=h3;replace h3:Fq23=_:=h3;unfold Fq23 at h3;subst h3;simp only[e4,e5];clear e4 e5;go_wp2_with fail
   exact qcl (v2:=.int .i64 0) (v3:=.int .i64 c) rfl rfl rfl rfl B9 rfl (by
    rw[HX.out];exact⟨trivial,hJ.gro⟩)

abbrev PL:=List (Pk×Pd)
def pks (l:PL):List Pk:=l.map Prod.fst
def pvs (l:PL):List Pv:=l.map fun x=>pv x.1 x.2
def pk (l:PL) (i:Nat):Pk:=(l.getD i (Pk.zero,dnil)).1
def pd (l:PL) (i:Nat):Pd:=(l.getD i (Pk.zero,dnil)).2
theorem pk_mem {l:PL} {i:Nat} (h:i<l.length):(pk l i,pd l i)∈l:=by
 have e:(pk l i,pd l i)=l[i]'h:=by simp[pk,pd,List.getD_eq_getElem?_getD,List.getElem?_eq_getElem h]
 rw[e];exact List.getElem_mem h
theorem qes (l:PL):(pks l).length=l.length:=by simp[pks]
theorem pvs_length (l:PL):(pvs l).length=l.length:=by simp[pvs]
theorem pks_app (a b:PL):pks (a++b)=pks a++pks b:=by simp[pks]
theorem pvs_app (a b:PL):pvs (a++b)=pvs a++pvs b:=by simp[pvs]
theorem pks_at (l:PL) (i:Nat):(pks l).getD i Pk.zero=pk l i:=by
 simp only[pks,pk,List.getD_eq_getElem?_getD,List.getElem?_map];cases l[i]?<;>rfl
theorem pvs_at (l:PL) (i:Nat) (h:i<l.length):(pvs l)[i]? = some (pv (pk l i) (pd l i)):=by
 simp[pvs,pk,pd,List.getD_eq_getElem?_getD,List.getElem?_eq_getElem h]
theorem qht {w w':World} {b o:Nat} {cs:List Value} (h:w.rangeAt b o cs) (hb:Below w.heap.size w w'):w'.rangeAt b o cs:=fun j v hv=>
 (hb.cell (p:=⟨b,o+j,none⟩) (World.block_lt_of_cell? w _ (h j v hv))).trans (h j v hv)
def QRd (w:World) (ao:Option Addr) (n cap:Nat) (l:PL):Prop :=
 (l.length=n∧∀i,i<n→∃b off,ao=some ⟨b,off,none⟩∧w.rangeAt b (off+i*25) (pk l i).cells.toList)∧(∀x∈l,PRd w x.1 x.2)∧n≤cap∧cap≤maxLen∧(ao=none→cap=0)
theorem QRd.below {w w':World} {ao:Option Addr} {n cap:Nat} {l:PL} (h:QRd w ao n cap l) (hb:Below w.heap.size w w'):QRd w' ao n cap l:=by
 refine⟨⟨h.1.1,fun i hi=>?_⟩,fun x hx=>(h.2.1 x hx).below hb,h.2.2⟩;obtain⟨b,off,e,hr⟩:=h.1.2 i hi;exact⟨b,off,e,qht hr hb⟩
theorem POwnR.rd {w:World} {B:Nat} {ao:Option Addr} {n cap:Nat} {l:PL} (h:POwnR w B ao n cap (pks l)) (hp:∀x∈l,PRd w x.1 x.2):QRd w ao n cap l:=by
 obtain⟨hl,h1,h2⟩:=h;rw[qes] at hl
 rcases h2 with ⟨e,_⟩ | ⟨g,c,cur,e,hb,hg,hc,hm,hs,ht⟩
 ·simp only[Value.slice.injEq] at e;obtain⟨rfl,rfl,rfl⟩:=e;exact⟨⟨hl,fun i hi=>by omega⟩,hp,Nat.le_refl _,Nat.zero_le _,fun _=>rfl⟩
 ·simp only[Value.slice.injEq] at e;obtain⟨rfl,_,rfl⟩:=e;refine⟨⟨hl,fun i hi=>⟨g,0,rfl,fun j v hv=>?_⟩⟩,hp,hc,hm,fun h=>by simp at h⟩;have own:w.ownsRow B 28 25 (.slice (some ⟨g,0,none⟩) n cap) n (pvals (pks l)):=⟨h1,.inr ⟨g,cap,cur,rfl,hb,hg,hc,hm,hs,ht⟩⟩;have hj:j<25:=by
   have:=(List.getElem?_eq_some_iff.1 hv).1
   rwa [qdh] at this
  rw[Nat.zero_add,own.cellAt (i*25+j) (by omega),qre _ i j (by rw[qes];omega) hj,pks_at];rw[←hv];simp
structure QOwn (w:World) (B:Nat) (ao:Option Addr) (n cap:Nat) (l:PL):Prop where
 row:POwnR w B ao n cap (pks l)
 own:∀x∈l,POwn w B x.1 x.2
 dis:l.Pairwise fun x y=>∀k,x.1.has k→¬y.1.has k
theorem QOwn.rd {w:World} {B:Nat} {ao:Option Addr} {n cap:Nat} {l:PL} (h:QOwn w B ao n cap l):QRd w ao n cap l:=h.row.rd fun x hx=>(h.own x hx).rd
theorem QOwn.len {w:World} {B:Nat} {ao:Option Addr} {n cap:Nat} {l:PL} (h:QOwn w B ao n cap l):l.length=n:=by
 rw[←h.row.1,qes]
theorem QOwn.nil (w:World) (B:Nat):QOwn w B none 0 0 []:=⟨POwnR.nil w B,fun x h=>(by cases h),List.Pairwise.nil⟩
theorem QOwn.below {w w':World} {B:Nat} {ao:Option Addr} {n cap:Nat} {l:PL} (h:QOwn w B ao n cap l) (hb:Below w.heap.size w w'):QOwn w' B ao n cap l :=
 ⟨h.row.below hb,fun x hx=>(h.own x hx).below hb,h.dis⟩
theorem QOwn.mono {w:World} {B B':Nat} {ao:Option Addr} {n cap:Nat} {l:PL} (h:QOwn w B ao n cap l) (hB:B'≤B):QOwn w B' ao n cap l :=
 ⟨⟨h.row.1,qbc h.row.2 hB⟩,fun x hx=>(h.own x hx).low hB,h.dis⟩
theorem POwnR.lt {w:World} {B:Nat} {ao:Option Addr} {n cap:Nat} {ps:List Pk} (h:POwnR w B ao n cap ps) {a:Addr} (e:ao=some a):B≤a.block∧a.block<w.heap.size:=by
 subst e;exact h.2.lt _ rfl
theorem POwnR.grown {w w':World} {B:Nat} {ao:Option Addr} {n cap:Nat} {ps:List Pk} {row:Option Nat} (h:POwnR w B ao n cap ps) (hg:w.grownBy w' row) (hne:∀a,ao=some a→some a.block≠row):POwnR w' B ao n cap ps:=by
 refine⟨h.1,h.2.kept hg ?_⟩;cases ao with
 |none=>exact .inl rfl
 |some a=>exact .inr (hne a rfl)
theorem QOwn.cur {w w':World} {B g:Nat} {ao:Option Addr} {n cap:Nat} {l:PL} (h:QOwn w B ao n cap l) (hB:g<B) (hg:w.grownBy w' (some g)):QOwn w' B ao n cap l :=
 ⟨h.row.grown hg (fun a e he=>by cases he;have:=(h.row.lt e).1;omega),fun x hx=>(h.own x hx).grown hg (fun k e hk=>by cases e;have:=((h.own x hx).lt hk).1;omega),h.dis⟩
theorem POwn.neR {w:World} {B:Nat} {p:Pk} {d:Pd} {b:Nat} {cs:Array Value} (h:POwn w B p d) (hb:w.heap[b]? = some (.cells cs 28)):¬p.has b:=by
 rintro ⟨a,ha,hab⟩;simp only[List.mem_cons,List.not_mem_nil,or_false] at ha
 rcases ha with ha | ha | ha | ha | ha | ha
 ·have hh:=h.bod.2;rw[←ha] at hh;obtain⟨cur,hc⟩:=qbr hh;exact ty_ne hc hb (by decide) hab
 ·have hh:=h.wb.2;rw[←ha] at hh;obtain⟨cur,hc⟩:=qbr hh;exact ty_ne hc hb (by decide) hab
 ·have hh:=h.pa.2;rw[←ha] at hh;obtain⟨cur,hc⟩:=qbr hh;exact ty_ne hc hb (by decide) hab
 ·have hh:=h.wan.2;rw[←ha] at hh;obtain⟨cur,hc⟩:=qbr hh;exact ty_ne hc hb (by decide) hab
 ·have hh:=h.nam.2;rw[←ha] at hh;obtain⟨cur,hc⟩:=qbr hh;exact ty_ne hc hb (by decide) hab
 ·have hh:=h.cds.2;rw[←ha] at hh;obtain⟨cur,hc⟩:=qbr hh;exact ty_ne hc hb (by decide) hab
theorem POwn.rowed {w w':World} {B B2:Nat} {p:Pk} {d:Pd} {ao:Option Addr} {n cap:Nat} {ps:List Pk} (h:POwn w B p d) (hR:POwnR w B2 ao n cap ps) (hg:w.grownBy w' (Value.slice ao n cap).ownBlock):POwn w' B p d:=by
 refine h.grown hg fun k e=>?_
 cases ao with
 |none=>simp[Value.ownBlock] at e
 |some a=>
  obtain rfl:a.block=k:=by simpa[Value.ownBlock] using e
  obtain⟨cur,hc⟩:=qbr hR.2;exact h.neR hc
theorem w_qapp {ops:Array Oper} {rest:List Oper} {o:Oper} {a:Act} {Q:Exit→Act→World→Prop} (w:World) (hgd:o.guard=none) (s x:Operand)
  (ho:o.op=.call { callee:=.builtin .append,args:=#[s,x],argTypes:=#[44,44] })
  (B:Nat) (ao:Option Addr) (n cap:Nat) (l:PL) (hs:a.eval s=.slice ao n cap) (hown:QOwn w B ao n cap l)
  (ad:Nat) (u:Pk) (du:Pd) (hx:a.eval x=.slice (some ⟨ad,0,none⟩) 1 1) (hc:Blk w ad u) (hu:POwn w B u du) (hsep:∀x∈l,∀k,x.1.has k→¬u.has k) (hb:n<10737418240) (hB:B≤w.heap.size)
  (h:∀ao' cap' w',QOwn w' B ao' (n+1) cap' (l++[(u,du)])→w.grownBy w' (Value.slice ao n cap).ownBlock→wpList Tryz.prog ops Q rest (a.put o.dst (.slice ao' (n+1) cap')) w') :
  wpList Tryz.prog ops Q (o :: rest) a w:=by
 refine w_papp w hgd s x ho B ao n cap (pks l) hs hown.row ad u hx hc hb hB ?_;intro ao' cap' w' hr hg;refine h ao' cap' w' ⟨?_,?_,?_⟩ hg
 ·rw[pks_app];exact hr
 ·intro y hy;rw[List.mem_append] at hy
  rcases hy with hy | hy
  ·exact (hown.own y hy).rowed hown.row hg
  ·obtain rfl:y=(u,du):=by simpa using hy
   exact hu.rowed hown.row hg
 ·rw[List.pairwise_append];refine⟨hown.dis,List.pairwise_singleton _ _,fun x hx y hy=>?_⟩;obtain rfl:y=(u,du):=by simpa using hy
  exact hsep x hx
theorem qka {w w1 w2:World} {B:Nat} {ao:Option Addr} {n cap:Nat} {ps:List Pk} (hb:Below B w w1) (hB:B≤w1.heap.size) (ho:POwnR w1 B ao n cap ps) (hg:w1.grownBy w2 (Value.slice ao n cap).ownBlock):Below B w w2 :=
 hb.grown hg hB (fun k e=>by
  cases ao with
  |none=>simp[Value.ownBlock] at e
  |some a=>
   obtain rfl:a.block=k:=by simpa[Value.ownBlock] using e
   exact (ho.lt rfl).1)
theorem mkp1 (p:Pk) (u:World):(Instr.buildSlice 44 1 #[(0,.agg p.cells)]).run Tryz.prog u=.ok (.slice (some ⟨u.heap.size,0,none⟩) 1 1) (u.alloc (.cells p.cells 28)):=by kernel_rfl
theorem qss (w:World):QOwn (w.alloc (.cells #[] 28)) w.heap.size (some ⟨w.heap.size,0,none⟩) 0 0 [] :=
 ⟨⟨rfl,World.ownsRow_made w #[] 0 (Nat.le_refl _) (Nat.zero_le _) (by simp)⟩,fun x h=>(by cases h),List.Pairwise.nil⟩
theorem st_loadM {o:Oper} {a:Act} {w:World} {K:Act→World→Prop} {Q:Exit→Act→World→Prop} {b i:Nat} {p:Pk} (hB:w.rangeAt b i p.cells.toList) (x:Operand) (ho:o.op=.load 28 x)
  (hx:a.eval x=.pointer (some ⟨b,i,none⟩)) (h:K (a.put o.dst (.agg p.cells)) w):Oper.wp Tryz.prog o a w K Q:=by
 have e:=run_loadVar_mid (P:=Tryz.prog) w b i 28 p.cells.toList _ hB Tryz.underlying28 rfl (infoP.trans (by rw[qdh]));rw[Array.toArray_toList] at e;exact qae (w':=w) (v:=.agg p.cells) (by simp only[execOp,ho,hx,Instr.loadAt,Instr.sureAddr,Sem.run_bind,Sem.run_pure,Result.andThen_ok,e]) h
theorem bs_pk {ops:Array Oper} {rest:List Oper} {o:Oper} {a:Act} {w:World} {Q:Exit→Act→World→Prop} {p:Pk} (hw:Region.wanted o (yielded ops a.tmps)=true) (x:Operand) (ho:o.op=.buildSlice 44 1 #[(0,x)]) (hx:a.eval x=.agg p.cells)
  (h:wpList Tryz.prog ops Q rest (a.put o.dst (.slice (some ⟨w.heap.size,0,none⟩) 1 1)) (w.alloc (.cells p.cells 28))):wpList Tryz.prog ops Q (o :: rest) a w:=by
 have e:((#[(0,x)]:Array (Nat×Operand)).map fun (i,x)=>(i,a.eval x)) = #[(0,.agg p.cells)]:=by simp[hx]
 refine qcu hw (w':=w.alloc (.cells p.cells 28)) (v:=.slice (some ⟨w.heap.size,0,none⟩) 1 1) ?_ h;simp only[execOp,ho,e,Sem.run_bind,mkp1,Result.andThen_ok,Sem.run_pure]
theorem idx_p (b off n c k:Nat) (h:k<n) (u:World):(Instr.indexAt 44 (.slice (some ⟨b,off,none⟩) n c) (.int .i64 (k:Int))).run Tryz.prog u=.ok (.pointer (some ⟨b,off+k*25,none⟩)) u:=by
 have h1:(k:Int)<n:=by omega
 have h2:(sizeOf (Tryz.prog.elem 44)).run Tryz.prog u=.ok 25 u:=by kernel_rfl
 simp[Instr.indexAt,Instr.index,go_sem,Tryz.underlying44,h1,h2,h,Addr.add]
