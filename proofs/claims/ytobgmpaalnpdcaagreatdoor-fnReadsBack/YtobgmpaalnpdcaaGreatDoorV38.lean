/- Lemmas. -/
import Derived.Test.YtobgmpaalnpdcaaGreatDoorV37
import Derived.Test.YtobgmpaalnpdcaaGreatDoorV01
set_option linter.unusedVariables false
set_option linter.unusedSimpArgs false
set_option maxRecDepth 100000
set_option maxHeartbeats 20000000
namespace Go.Proofs.YtobgmpaalnpdcaaGreatDoor
open Go.RowKit

theorem Pgd.sz {p:Pk} {d:Pd} {m:Nat} (h:Pgd m p d):Psz p d:=⟨Nat.le_trans h.top (by decide),Nat.le_trans h.cli (by decide),Nat.le_trans h.wt (by decide),Nat.le_trans h.us (by decide),fun x hx=>Nat.le_trans (h.wans x hx) (by decide),fun x hx=>Nat.le_trans (h.nams x hx) (by decide)⟩
theorem Pgd.ln {p:Pk} {d:Pd} (h:Pgd 1048576 p d):Plen p 1048576:=⟨h.bod,h.wb,h.pa,h.wan,h.nam,h.cds⟩
def Good (w w':World) (e:Ending) (v:Pv) (n:Int) (x:Value):Prop:=∃p d,e=.returned (.tuple #[.agg (Pk.cells p),.int .i64 n,x])∧POwn w' w.heap.size p d∧Pgd 1048576 p d∧pv p d=v∧Below w.heap.size w w'
def Pack (w w':World) (e:Ending) (b:List UInt8):Prop:=if (getP b).2.2=0 then Good w w' e (getP b).1 (getP b).2.1 .nilIface else e=.returned (.tuple #[.agg Pk.zero.cells,.int .i64 0,errC (getP b).2.2])∧Below w.heap.size w w'
theorem POwn.low {w:World} {B B':Nat} {p:Pk} {d:Pd} (h:POwn w B p d) (hB:B'≤B):POwn w B' p d :=
 ⟨⟨h.bod.1,qaq h.bod.2 hB⟩,⟨h.wb.1,qaq h.wb.2 hB⟩,⟨h.pa.1,qaq h.pa.2 hB⟩,⟨h.wan.1,qaq h.wan.2 hB⟩,⟨h.nam.1,qaq h.nam.2 hB⟩,⟨h.cds.1,qaq h.cds.2 hB⟩,h.dis⟩
theorem qrr {v:Pv} (h:v.ok=true):2≤v.bytes.length:=by
 have h1:=qgl h;have h2:1≤(lenB v.rest.length).length:=by
  have h340:=qkt h;rw[qkf (by omega)];exact (lenF_len 3 _).1
 unfold Pv.hd at h1;omega
theorem fst_tyJ {x:Nat} (hx:x<256) (h:fstOk x=true):1≤(qbr x).ty∧(qbr x).ty≤14:=by
 have hh:∀x:Fin 256,fstOk x.val=true→1≤(qbr x.val).ty∧(qbr x.val).ty≤14:=by decide +kernel
 exact hh ⟨x,hx⟩ h
theorem headE_le {b:List UInt8} {m k:Nat} (h:headE b=.inr (m,k)):m≤340∧m+k≤b.length:=by
 unfold headE at h
 repeat' split at h
 all_goals first | (cases h;done) | skip
 rename_i h0 h1 h2 h3 h4
 obtain⟨m',k',e1,e2,e3,e4⟩:=qnm (l:=b) (a:=(getE b 1).1) (b:=(getE b 1).2.1) (by omega) (by
  have:(getE b 1).2.2=0:=by simpa using h2
  rw[←this])
 simp only[Sum.inr.injEq,Prod.mk.injEq] at h;omega
theorem parts_x (x:Nat) (hty:1≤(qbr x).ty∧(qbr x).ty≤14) (ao:Option Addr) (n cap:Nat) (l:List UInt8) (w:World) (hr:RdIn w ao n cap l) (hn:n≤1048576) :
  Calls Tryz.prog 128 #[.agg (fstX x).cells,.slice ao n cap] w fun e' w'=>Parts w w' e' (qaw (qbr x) l):=by
 rw[←fstX_pv x] at hty ⊢;unfold fstX at hty ⊢
 split at hty
 ·rename_i h;rw[if_pos h];exact parts_i 3 (by decide) _ _ _ ao n cap l w hr hn
 ·rename_i h;rw[if_neg h];exact parts_i _ hty _ _ _ ao n cap l w hr hn
theorem pack_i (ao:Option Addr) (n cap:Nat) (l:List UInt8) (w:World) (hr:RdIn w ao n cap l) (hn:n≤1048576) :
  Calls Tryz.prog 81 #[.slice ao n cap] w fun e w'=>Pack w w' e l:=by
 have HL:Hid (l.length=n):=hr.1.1;have A1:Blk (w.alloc (.cells Pk.zero.cells 28)) w.heap.size Pk.zero:=heap_alloc_new _ _;have hb:=bel_new w (.cells Pk.zero.cells 28);have HR:Hid (RdIn w ao n cap l):=hr;have hr1:=hr.below hb;clear hr;cases hE:headE l with
 |inl c=>
  have HC:c≠0:=headE_ne hE;have hc:(getP l).2.2=c:=by unfold getP;rw[hE]
  have HX:Hid (∀w w' e,Pack w w' e l=(e=.returned (.tuple #[.agg Pk.zero.cells,.int .i64 0,errC (c)])∧Below w.heap.size w w')):=fun w w' e=>by
   unfold Pack;rw[hc,if_neg HC]
  have HD:Hid (∀w w' e,Head w w' e l cap→e=.returned (.tuple #[.agg Pk.zero.cells,.slice none 0 0,.iface 98 (.agg #[.int .i64 c])])∧Below w.heap.size w w'):=fun w w' e h=>by
   unfold Head at h;rw[hE] at h;exact h
  clear hE hc;go_enter Tryz.func81,Tryz.ntmps81
  go_upto_region 1 with (first | refine al_pk ?_ | fail)
  go_wp2_with fail
  refine (head_i ao n cap l _ hr1 hn).mono ?_;intro e w1 hh;obtain⟨rfl,b1⟩:=HD.out _ _ _ hh;clear hh HD hr1;replace A1:=A1.next b1;replace hb:=bel hb b1;clear b1
  go_upto_region 2 with (first | refine var_pk (p:=Pk.zero) rfl rfl ?_ | fail)
  replace A1:=A1.next (bel_new _ (.cells Pk.zero.cells 28));replace hb:=bel hb (bel_new _ (.cells Pk.zero.cells 28))
  go_upto_region 3 with fail
  refine wp_region_list ?_;refine bu_pk Pk.zero (by kernel_rfl) ?_;go_wp2_with (first | (refine qac (q:=Pk.zero) (old:=Pk.zero) A1 rfl rfl ?_;intro w9 B9 g9) | fail)
  exact qce rfl rfl rfl rfl B9 rfl (by
   rw[HX.out];exact⟨rfl,qar hb g9 (Nat.le_refl _)⟩)
 |inr nk=>
  obtain⟨m,k⟩:=nk;obtain⟨r,hr0⟩ : ∃r,qaw (qbr (bt l 0)) ((l.drop k).take m)=r:=⟨_,rfl⟩;have HG:Hid (getP l=if r.2.2=false∧r.1.ok=true∧qdp l r.1.bytes=true then (r.1,(r.1.bytes.length:Int),0) else (Pv.zero,0,2)):=by
   unfold Hid getP;rw[hE];simp only[hr0]
  have hfo:fstOk (bt l 0)=true:=by
   unfold headE at hE
   split at hE
   ·cases hE
   split at hE
   ·cases hE
   ·rename_i h;simpa using h
  have hty:1≤(qbr (bt l 0)).ty∧(qbr (bt l 0)).ty≤14:=fst_tyJ (bt_lt l 0) hfo;have HD:Hid (∀w w' e,Head w w' e l cap→∃ax cx,e=.returned (.tuple #[.agg (fstX (bt l 0)).cells,.slice ax m cx,.nilIface])∧RdIn w' ax m cx ((l.drop k).take m)∧Below w.heap.size w w'):=fun w w' e h=>by
   unfold Head at h;rw[hE] at h;exact h
  have hm:m≤n:=by
   have h1:((l.drop k).take m).length≤l.length:=by rw[List.length_take,List.length_drop];omega
   have:=headE_le hE;have:=HL.out;omega
  have HPt:Hid (∀(ax:Option Addr) (cx:Nat) (u:World),RdIn u ax m cx ((l.drop k).take m)→Calls Tryz.prog 128 #[.agg (fstX (bt l 0)).cells,.slice ax m cx] u fun e' w'=>Parts u w' e' r):=fun ax cx u hu=>by
   have:=parts_x (bt l 0) hty ax m cx _ u hu (by omega);rw[hr0] at this;exact this
  clear hE hr0 hfo hty;obtain⟨p0,hp0⟩ : ∃p0,fstX (bt l 0)=p0:=⟨_,rfl⟩;rw[hp0] at HD HPt;clear hp0;generalize hfl:(l.drop k).take m=fo at *;clear hfl;go_enter Tryz.func81,Tryz.ntmps81
  go_upto_region 1 with (first | refine al_pk ?_ | fail)
  go_wp2_with fail
  refine (head_i ao n cap l _ hr1 hn).mono ?_;intro e w1 hh;obtain⟨ax,cx,rfl,hrx,b1⟩:=HD.out _ _ _ hh;clear hh HD hr1;replace A1:=A1.next b1;replace hb:=bel hb b1;clear b1
  go_upto_region 2 with (first | refine var_pk (p:=p0) rfl rfl ?_ | fail)
  have A2:Blk (w1.alloc (.cells p0.cells 28)) w1.heap.size p0:=heap_alloc_new _ _;have hne:w.heap.size≠w1.heap.size:=Nat.ne_of_lt A1.lt;have hbn:w.heap.size≤w1.heap.size:=Nat.le_of_lt A1.lt;replace A1:=A1.next (bel_new _ (.cells p0.cells 28));replace hrx:=hrx.below (bel_new _ (.cells p0.cells 28));replace hb:=bel hb (bel_new _ (.cells p0.cells 28));generalize w1.alloc (.cells p0.cells 28)=y at *;generalize w1.heap.size=b at *
  go_upto_region 4 with fail
  refine wp_region_list ?_;refine load_pk A2 rfl _ rfl rfl ?_;go_wp2_with fail
  refine (HPt.out ax cx _ hrx).mono ?_;rintro e w2 ⟨p,d,rfl,ow,gd,b2,hpd⟩;obtain⟨v,z,er⟩:=r;simp only at hpd HG ⊢;subst hpd;clear HPt hrx;replace ow:POwn w2 w.heap.size p d:=ow.low (by have:=hb.size;omega);replace A1:=A1.next b2;replace A2:=A2.next b2;replace hb:=bel hb b2;clear b2;cases er with
  |true=>
   have hc:(getP l).2.2=2:=by rw[HG.out,if_neg (by simp)]
   have HX:Hid (∀w w' e,Pack w w' e l=(e=.returned (.tuple #[.agg Pk.zero.cells,.int .i64 0,errC (2)])∧Below w.heap.size w w')):=fun w w' e=>by
    unfold Pack;rw[hc,if_neg (by decide)]
   clear hc HG;rw[show errV true=.iface 98 (.agg #[.int .i64 2]) from rfl]
   go_upto_region 6 with (first | (refine qac (q:=p) (old:=p0) A2 rfl rfl ?_;intro w3 A3 g3) | fail)
   replace A1:Blk w3 w.heap.size Pk.zero:=(g3.block w.heap.size A1.lt (fun e=>hne (by simpa using e))).trans A1;replace hb:=qar hb g3 hbn
   go_upto_region 6 with fail
   refine wp_region_list ?_;refine bu_pk Pk.zero (by kernel_rfl) ?_;go_wp2_with (first | (refine qac (q:=Pk.zero) (old:=Pk.zero) A1 rfl rfl ?_;intro w9 B9 g9) | fail)
   exact qce rfl rfl rfl rfl B9 rfl (by
    rw[HX.out];exact⟨rfl,qar hb g9 (Nat.le_refl _)⟩)
  |false=>
   rw[show errV false=.nilIface from rfl]
   go_upto_region 7 with (first | (refine qac (q:=p) (old:=p0) A2 rfl rfl ?_;intro w3 A3 g3) | fail)
   replace A1:Blk w3 w.heap.size Pk.zero:=(g3.block w.heap.size A1.lt (fun e=>hne (by simpa using e))).trans A1;replace ow:=ow.grown g3 (fun k e=>by cases e;exact ow.ne A2);replace hb:=qar hb g3 hbn;clear A2 g3;refine wp_region_list ?_;refine load_pk A3 rfl _ rfl rfl ?_;go_wp2_with fail
   refine (put_iPutPacket p d _ ow.rd gd.sz gd.ln).mono ?_;rintro e w4 ⟨a4,n4,c4,rfl,O4,b4⟩;replace A1:=A1.next b4;replace A3:=A3.next b4;replace ow:=ow.below b4;replace hb:=bel hb b4;clear b4;cases hok:(pv p d).ok with
   |false=>
    have hn4:n4=0:=by have:=O4.1;rw[bytes_no hok] at this;exact this.symm
    have hc:(getP l).2.2=2:=by rw[HG.out,if_neg (by simp[hok])]
    have HX:Hid (∀w w' e,Pack w w' e l=(e=.returned (.tuple #[.agg Pk.zero.cells,.int .i64 0,errC (2)])∧Below w.heap.size w w')):=fun w w' e=>by
     unfold Pack;rw[hc,if_neg (by decide)]
    clear hc HG hok O4;subst hn4
    go_upto_region 9 with fail
    refine wp_region_list ?_;refine bu_pk Pk.zero (by kernel_rfl) ?_;go_wp2_with (first | (refine qac (q:=Pk.zero) (old:=Pk.zero) A1 rfl rfl ?_;intro w9 B9 g9) | fail)
    exact qce rfl rfl rfl rfl B9 rfl (by
     rw[HX.out];exact⟨rfl,qar hb g9 (Nat.le_refl _)⟩)
   |true=>
    have hpos:=qrr hok;have hn4:((n4:Int)==0)=false:=by have:=O4.1;simp;omega
    have hrl:=HR.out.below hb;go_wp2_with fail
    refine (qpy ao a4 n cap n4 c4 l (pv p d).bytes _ hrl O4.rd).mono ?_;rintro e w5 ⟨rfl,rfl⟩;cases hbg:qdp l (pv p d).bytes with
    |false=>
     have hc:(getP l).2.2=2:=by rw[HG.out,if_neg (by simp[hbg])]
     have HX:Hid (∀w w' e,Pack w w' e l=(e=.returned (.tuple #[.agg Pk.zero.cells,.int .i64 0,errC (2)])∧Below w.heap.size w w')):=fun w w' e=>by
      unfold Pack;rw[hc,if_neg (by decide)]
     clear hc HG hok O4 hrl
     go_upto_region 9 with fail
     refine wp_region_list ?_;refine bu_pk Pk.zero (by kernel_rfl) ?_;go_wp2_with (first | (refine qac (q:=Pk.zero) (old:=Pk.zero) A1 rfl rfl ?_;intro w9 B9 g9) | fail)
     exact qce rfl rfl rfl rfl B9 rfl (by
      rw[HX.out];exact⟨rfl,qar hb g9 (Nat.le_refl _)⟩)
    |true=>
     have hN:Hid (((pv p d).bytes.length:Int)=n4):=by unfold Hid;rw[O4.1]
     have hg:getP l=(pv p d,((pv p d).bytes.length:Int),0):=by rw[HG.out,if_pos (by simp[hok,hbg])]
     have HX:Hid (∀w w' e,Pack w w' e l=Good w w' e (pv p d) n4 .nilIface):=fun w w' e=>by
      unfold Pack;rw[hg,if_pos rfl,hN.out]
     clear hg HG hrl
     go_upto_region 10 with fail
     refine wp_region_list ?_;refine load_pk A3 rfl _ rfl rfl ?_;go_wp2_with (first | (refine qac (q:=p) (old:=Pk.zero) A1 rfl rfl ?_;intro w9 B9 g9) | fail)
     exact qce rfl rfl rfl rfl B9 rfl (by
      rw[HX.out];exact⟨p,d,rfl,ow.grown g9 (fun k e=>by cases e;exact ow.ne A1),gd,rfl,qar hb g9 (Nat.le_refl _)⟩)
theorem as_hit2 (c old:Int) (t:Nat) (w:World) (hg:ErrTy w) (ht:Row w t #[.int .i64 old] 98) :
  Calls Tryz.prog 82 #[.iface 98 (.agg #[.int .i64 c]),.iface 100 (.pointer (some ⟨t,0,none⟩))] w fun ev w'=>ev=.returned (.bool true)∧Row w' t #[.int .i64 c] 98∧w.grownBy w' (some t):=by
 refine (as_hit c old t w hg ht).mono ?_;rintro e w' ⟨rfl,rfl⟩;have hb:=bel (bel (bel (bel_new w (.cells #[.pointer (some ⟨t,0,none⟩)] 100)) (bel_new _ (.cells #[.pointer (some ⟨5,100,none⟩),.pointer (some ⟨w.heap.size,0,none⟩),.int .u64 150] 166))) (bel_new _ (.cells #[.pointer (some ⟨5,100,none⟩),.pointer (some ⟨w.heap.size,0,none⟩),.int .u64 150] 166))) (bel_new _ (.cells #[.int .i64 c] 98));exact⟨rfl,setRow_heap _ t #[.int .i64 old] _ 98 (0,0) (ht.next hb),qad (qdg hb) (qgt _ t _)⟩
def R4 (r i:Nat) (u u':World):Prop:=if i=3 then u'=u.setRow r Pk.zero.cells else u'=u
structure J4 (w0:World) (r t:Nat) (c:Int) (u:World):Prop where
 tar:Row u t #[.int .i64 c] 98
 res:∃p0,Blk u r p0
 gro:Below w0.heap.size w0 u
theorem J4.set {w0 u:World} {r t:Nat} {c:Int} (h:J4 w0 r t c u) (htr:t≠r) (hr:w0.heap.size≤r):J4 w0 r t c (u.setRow r Pk.zero.cells):=by
 obtain⟨p0,h0⟩:=h.res;exact⟨(setRow_other u r t _ htr).trans h.tar,⟨Pk.zero,setRow_heap u r p0.cells Pk.zero.cells 28 (0,0) h0⟩,h.gro.grown (qgt u r _) h.gro.size (fun k e=>by cases e;exact hr)⟩
theorem build_zero (u:World):(Instr.build 28 #[]).run Tryz.prog u=.ok (.agg Pk.zero.cells) u:=by kernel_rfl
theorem z_buildZ {o:Oper} {a:Act} {w:World} {K:Act→World→Prop} {Q:Exit→Act→World→Prop} (ho:o.op=.build 28 #[]) (h:K (a.put o.dst (.agg Pk.zero.cells)) w):Oper.wp Tryz.prog o a w K Q :=
 qab (w':=w) (v:=.agg Pk.zero.cells) (by unfold execOp;rw[ho];simp only[List.map_toArray,List.map_nil,Sem.run_bind,build_zero,Result.andThen_ok,Sem.run_pure]) h
def Got (w w':World) (e:Ending) (b:List UInt8):Prop:=Good w w' e (getP b).1 (getP b).2.1 (.int .i64 (getP b).2.2)
theorem qrx {w w':World} {c:Int} (hb:Below w.heap.size w w'):Good w w' (.returned (.tuple #[.agg Pk.zero.cells,.int .i64 0,.int .i64 c])) Pv.zero 0 (.int .i64 c) :=
 ⟨Pk.zero,dnil,rfl,own_nils w' w.heap.size 0 false 0 false,gd_nils 0 false 0 false,rfl,hb⟩
theorem get_i (ao:Option Addr) (n cap:Nat) (l:List UInt8) (w:World) (hr:RdIn w ao n cap l) (hn:n≤1048576) (hT:ErrTy w) :
  Calls Tryz.prog 24 #[.slice ao n cap] w fun e w'=>Got w w' e l:=by
 have A1:Blk (w.alloc (.cells Pk.zero.cells 28)) w.heap.size Pk.zero:=heap_alloc_new _ _;have hb:=bel_new w (.cells Pk.zero.cells 28);have hr1:=hr.below hb;have hTl:1<w.heap.size:=by
  unfold ErrTy at hT
  rcases Nat.lt_or_ge 1 w.heap.size with h | h
  ·exact h
  ·simp[World.cell?,Array.getElem?_eq_none h] at hT
 clear hr;cases hg:getP l with
 |mk v nc=>
  obtain⟨nn,c⟩:=nc
  by_cases hc:c=0
  ·subst hc;have HX:Hid (∀w w' e,Got w w' e l=Good w w' e v nn (.int .i64 0)):=fun w w' e=>by unfold Got;rw[hg]
   have HD:Hid (∀w w' e,Pack w w' e l→Good w w' e v nn .nilIface):=fun w w' e h=>by
    unfold Pack at h;rw[hg,if_pos rfl] at h;exact h
   clear hg hT;go_enter Tryz.func24,Tryz.ntmps24
   go_upto_region 1 with (first | refine al_pk ?_ | fail)
   go_wp2_with fail
   refine (pack_i ao n cap l _ hr1 hn).mono ?_;intro e w1 hh;obtain⟨p,d,rfl,ow,gd,hpd,b1⟩:=HD.out _ _ _ hh;clear hh HD hr1;replace ow:POwn w1 w.heap.size p d:=ow.low (by have:=hb.size;omega);replace A1:=A1.next b1;replace hb:=bel hb b1;clear b1
   go_upto_region 2 with (first | refine var_pk (p:=p) rfl rfl ?_ | fail)
   have A2:Blk (w1.alloc (.cells p.cells 28)) w1.heap.size p:=heap_alloc_new _ _;replace A1:=A1.next (bel_new _ (.cells p.cells 28));replace ow:=ow.below (bel_new _ (.cells p.cells 28));replace hb:=bel hb (bel_new _ (.cells p.cells 28));generalize w1.alloc (.cells p.cells 28)=y at *;generalize w1.heap.size=b at *;go_wp2_with fail
   refine (as_nil _ _).mono ?_;rintro e w2 ⟨rfl,hw2⟩;have b2:=bel_new y (.cells #[.int .i64 0] 98);rw[hw2];clear hw2;replace A1:=A1.next b2;replace A2:=A2.next b2;replace ow:=ow.below b2;replace hb:=bel hb b2;clear b2;generalize y.alloc (.cells #[.int .i64 0] 98)=y2 at *
   go_upto_region 5 with fail
   refine wp_region_list ?_;refine load_pk A2 rfl _ rfl rfl ?_;go_wp2_with (first | (refine qac (q:=p) (old:=Pk.zero) A1 rfl rfl ?_;intro w9 B9 g9) | fail)
   exact qce rfl rfl rfl rfl B9 rfl (by
    rw[HX.out];exact⟨p,d,rfl,ow.grown g9 (fun k e=>by cases e;exact ow.ne A1),gd,hpd,qar hb g9 (Nat.le_refl _)⟩)
  ·obtain⟨rfl,rfl,hc12⟩:=qqp hg hc;have HX:Hid (∀w w',Got w w' (.returned (.tuple #[.agg Pk.zero.cells,.int .i64 0,.int .i64 c])) l=(True∧Below w.heap.size w w')):=fun w w'=>by
    unfold Got;rw[hg];exact propext ⟨fun h=>⟨trivial,h.choose_spec.choose_spec.2.2.2.2⟩,fun h=>qrx h.2⟩
   have HD:Hid (∀w w' e,Pack w w' e l→e=.returned (.tuple #[.agg Pk.zero.cells,.int .i64 0,.iface 98 (.agg #[.int .i64 c])])∧Below w.heap.size w w'):=fun w w' e h=>by
    unfold Pack at h;rw[hg,if_neg hc] at h;exact h
   clear hg hc hc12;go_enter Tryz.func24,Tryz.ntmps24
   go_upto_region 1 with (first | refine al_pk ?_ | fail)
   go_wp2_with fail
   refine (pack_i ao n cap l _ hr1 hn).mono ?_;intro e w1 hh;obtain⟨rfl,b1⟩:=HD.out _ _ _ hh;clear hh HD hr1;replace A1:=A1.next b1;replace hb:=bel hb b1;clear b1
   go_upto_region 2 with (first | refine var_pk (p:=Pk.zero) rfl rfl ?_ | fail)
   replace A1:=A1.next (bel_new _ (.cells Pk.zero.cells 28));replace hb:=bel hb (bel_new _ (.cells Pk.zero.cells 28));generalize w1.alloc (.cells Pk.zero.cells 28)=y at *;generalize w1.heap.size=b at *;have T2:Row (y.alloc (.cells #[.int .i64 0] 98)) y.heap.size #[.int .i64 0] 98:=Row.new _ _ _;have hTy:=(hT.below hb hTl).below (bel_new y (.cells #[.int .i64 0] 98)) (Nat.lt_of_lt_of_le hTl hb.size);have htr:y.heap.size≠w.heap.size:=Nat.ne_of_gt A1.lt;have htn:w.heap.size≤y.heap.size:=Nat.le_of_lt A1.lt;replace A1:=A1.next (bel_new y (.cells #[.int .i64 0] 98));replace hb:=bel hb (bel_new y (.cells #[.int .i64 0] 98));go_wp2_with fail
   generalize hy:y.alloc (.cells #[.int .i64 0] 98)=y2 at *;clear hy;generalize y.heap.size=t at *;refine (as_hit2 c 0 t y2 hTy T2).mono ?_;rintro e w3 ⟨rfl,T3,g3⟩;replace A1:Blk w3 w.heap.size Pk.zero:=(g3.block w.heap.size A1.lt (fun e=>htr (by simpa using e.symm))).trans A1;replace hb:=qar hb g3 htn;clear T2 hTy g3;have T2:=T3;clear T3;go_wp2;refine qbc (by kernel_rfl) rfl (J4 w w.heap.size t c) ⟨T2,⟨_,A1⟩,⟨hb.os,hb.tape,hb.output,hb.size,hb.block⟩⟩ (R4 w.heap.size) (fun i v u=>match i with
    |0=>v=.agg Pk.zero.cells
    |1=>v=.pointer (some ⟨t,0,none⟩)
    |2=>v=.int .i64 c
    |4=>v=.int .i64 0
    |5=>v=.int .i64 c
    |_=>True) (fun i a u=>if i=3 then Blk u w.heap.size Pk.zero else True) ?_ ?_ ?_ ?_ ?_
   ·intro i u u' hR hJ;unfold R4 at hR
    split at hR
    ·rw[hR];exact hJ.set htr (Nat.le_refl _)
    ·rw[hR];exact hJ
   ·intro i0 i v u u' _ hx h
    match i,h with
    |0,h=>exact h
    |1,h=>exact h
    |2,h=>exact h
    |3,h=>exact h
    |4,h=>exact h
    |5,h=>exact h
    |(_+6),h=>trivial
   ·intro i j o oj a v u u' hi hj hne hdj hx hS
    by_cases h3:j=3
    ·rw[if_pos h3] at hS ⊢;unfold R4 at hx;rw[if_neg (by omega)] at hx;rw[hx];exact hS
    ·rw[if_neg h3];trivial
   ·intro i o a u hi hk hJ hdep
    match i,hi with
    |0,hi=>
     cases hi;exact (z_buildZ rfl ⟨_,rfl,rfl,rfl,trivial⟩)
    |1,hi=>
     cases hi;exact (z_fld (X:=⟨t,0,none⟩) (Y:=⟨t,0,none⟩) 98 _ 0 rfl (eval_at ((hk.at 8 rfl).trans rfl)) (fun _=>by kernel_rfl) ⟨_,rfl,rfl,rfl,trivial⟩)
    |2,hi=>
     cases hi;obtain⟨z1,hz1,rfl,_⟩:=hdep 1 _ rfl rfl;replace hz1:=hz1 _ rfl;exact (z_ld 3 _ rfl (eval_at hz1) (by kernel_rfl) (hJ.tar.cell 0 rfl) ⟨_,rfl,rfl,rfl,trivial⟩)
    |3,hi=>
     cases hi;obtain⟨z0,hz0,rfl,_⟩:=hdep 0 _ rfl rfl;replace hz0:=hz0 _ rfl;obtain⟨p0,h0⟩:=hJ.res;exact wp_store_row 28 _ _ rfl w.heap.size Pk.zero.cells (eval_at ((hk.at 2 rfl).trans rfl)) (eval_at hz0) 28 p0.cells h0 (infoP.trans (by rw[Pk.csize])) rfl Pk.zero.ones ⟨_,rfl,rfl,trivial,setRow_heap u w.heap.size p0.cells Pk.zero.cells 28 (0,0) h0⟩
    |4,hi=>
     cases hi;exact (z_asg _ rfl rfl ⟨_,rfl,rfl,rfl,trivial⟩)
    |5,hi=>
     cases hi;obtain⟨z2,hz2,rfl,_⟩:=hdep 2 _ rfl rfl;replace hz2:=hz2 _ rfl;exact (z_asg _ rfl (eval_at hz2) ⟨_,rfl,rfl,rfl,trivial⟩)
    |(_+6),hi=>cases hi
   intro vs u9 hJ hG a3_ h3 hS_;have B9:=hS_ 3 (by decide);rw[if_pos rfl] at B9;clear hS_;have e4:=hG 4 (by decide);replace e4:vs 4=.int .i64 0:=e4;have e5:=hG 5 (by decide);replace e5:vs 5=.int .i64 c:=e5;clear hG;replace h3:puts _ 1 _ (Fq23)=_:=h3;replace h3:puts _ 2 _ (Fq23)=_:=h3;replace h3:puts _ 3 _ (Fq23)=_:=h3;replace h3:puts _ 4 _ (Fq23)=_:=h3;replace h3:puts _ 5 _ (Fq23)=_:=h3;replace h3:Fq23=_:=h3;unfold Fq23 at h3;subst h3;simp only[e4,e5];clear e4 e5;go_wp2_with fail
   exact qce (v2:=.int .i64 0) (v3:=.int .i64 c) rfl rfl rfl rfl B9 rfl (by
    rw[HX.out];exact⟨trivial,hJ.gro⟩)
