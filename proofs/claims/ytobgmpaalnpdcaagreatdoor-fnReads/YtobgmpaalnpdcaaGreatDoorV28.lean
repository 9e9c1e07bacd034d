/- Lemmas. -/
import Derived.Test.YtobgmpaalnpdcaaGreatDoorV27
import Derived.Test.YtobgmpaalnpdcaaGreatDoorV01
set_option linter.unusedVariables false
set_option linter.unusedSimpArgs false
set_option maxRecDepth 100000
set_option maxHeartbeats 20000000
namespace Go.Proofs.YtobgmpaalnpdcaaGreatDoor
open Go.RowKit

theorem grow_two {α:Type} {P:α→Prop} {l:List α} {x y:α} (h:∀z∈l,P z) (hx:P x) (hy:P y):∀z∈l++[x,y],P z:=by
 intro z hz;simp only[List.mem_append,List.mem_cons,List.not_mem_nil,or_false] at hz
 rcases hz with h1 | rfl | rfl
 ·exact h z h1
 ·exact hx
 ·exact hy
theorem POwn.mono {w:World} {B B':Nat} {p:Pk} {d:Pd} (h:POwn w B p d) (hB:B'≤B):POwn w B' p d :=
 ⟨⟨h.bod.1,qaq h.bod.2 hB⟩,⟨h.wb.1,qaq h.wb.2 hB⟩,⟨h.pa.1,qaq h.pa.2 hB⟩,⟨h.wan.1,qaq h.wan.2 hB⟩,⟨h.nam.1,qaq h.nam.2 hB⟩,⟨h.cds.1,qaq h.cds.2 hB⟩,h.dis⟩
theorem qqa (g:Nat) (ao:Option Addr) (n cap:Nat) (l:List UInt8) (w:World) (hc:Cur w g ao n cap l) (hn:n≤1048576) :
  Calls Tryz.prog 62 #[.pointer (some ⟨g,0,none⟩)] w fun e w'=>∃p d,e=.returned (.agg (Pk.cells p))∧POwn w' w.heap.size p d∧Pgd 256 p d∧Cur w' g ao n cap l∧w.grownBy w' (some g):=by
 have hlt:=hc.lt;have A:Blk (w.alloc (.cells Pk.zero.cells 28)) w.heap.size Pk.zero:=heap_alloc_new _ _;have hc1:=hc.alloc (.cells Pk.zero.cells 28);have g1:w.grownBy (w.alloc (.cells Pk.zero.cells 28)) (some g):=World.grownBy_alloc _ _ _;clear hc;go_enter Tryz.func62,Tryz.ntmps62;go_wp2_with (first | refine al_pk ?_ | fail)
 refine (qag g ao n cap l 14 _ hc1 hn (by omega) (by omega)).mono ?_;rintro e y1 ⟨x0,hx0,hx1,rfl,hc2,g2⟩;replace A:Blk y1 w.heap.size Pk.zero:=(g2.block _ A.lt (fun e=>by simp at e;omega)).trans A;replace g1:=qad g1 g2;clear g2 hc1;go_wp2_with fail
 refine (qjp g ao n cap l _ _ hc2 hn (by omega) (by omega)).mono ?_;rintro e yb ⟨p,d,_,rfl,ow,gd,hc3,g3⟩;replace A:Blk yb w.heap.size Pk.zero:=(g3.block _ A.lt (fun e=>by simp at e;omega)).trans A;have s0:St 256 w (yb.alloc (.cells p.cells 28)) g w.heap.size yb.heap.size ao n cap l p d :=
  ⟨hc3.alloc _,heap_alloc_new _ _,A.next (bel_new _ _),(ow.mono g1.size).below (bel_new _ _),qeg (qad g1 g3) _,hlt,(qad g1 g3).size,Nat.le_refl _,Nat.ne_of_lt A.lt,gd.mono (by decide)⟩
 clear A g1 g3 hc2 hc3 ow;have s:=s0;clear s0;go_wp2_with (first | refine var_pk (p:=p) rfl rfl ?_ | fail)
 refine (qag g ao n cap l 34 _ s.cur hn (by omega) (by omega)).mono ?_;rintro e y2 ⟨x,hx0',hx1',rfl,hc_,hg_⟩;replace s:=s.draw hc_ hg_;clear hc_ hg_ hx0 hx1;have hx:x=0∨x=1∨x=2∨x=3∨x=4∨x=5∨x=6∨x=7∨x=8∨x=9∨x=10∨x=11∨x=12∨x=13∨x=14∨x=15∨x=16∨x=17∨x=18∨x=19∨x=20∨(20<x):=by omega
 rcases hx with rfl | rfl | rfl | rfl | rfl | rfl | rfl | rfl | rfl | rfl | rfl | rfl | rfl | rfl | rfl | rfl | rfl | rfl | rfl | rfl | rfl | hx
 ·skip
  clear hx0' hx1';have sn:=s.new (bel_new _ (.cells (List.map (Value.int .i64) [(Int.negSucc 0),(0:Int),(15:Int),(3:Int),(8:Int)]).toArray 3));have lts:=s.cur.lt;go_wp2_with fail
  refine (qbd g ao n cap l _ 5 5 [(Int.negSucc 0),(0:Int),(15:Int),(3:Int),(8:Int)] _ sn.cur hn (by omega) (by omega) rfl (fun i hi=>qez _ [(Int.negSucc 0),(0:Int),(15:Int),(3:Int),(8:Int)] _ (by simp) i hi) (by (try simp at lts);omega)).mono ?_;rintro e y1_ ⟨kk,hkk,rfl,hc_,hg_⟩;replace s:=sn.draw hc_ hg_;clear hc_ hg_;clear sn lts;have c0:=(s.blk.cell 0).trans (Pk.c0 _);have z0:=Lib.frozen_of_heap s.blk 0;obtain⟨p,d,s⟩:=st_ex (s.s0 kk);go_wp2_with (first | refine load_pk s.blk rfl _ rfl rfl ?_ | (refine qac (q:=p) (old:=Pk.zero) s.res rfl rfl ?_;intro w9 B9 g9) | fail)
  have D9:=s.done g9
  first
  |exact qaf rfl rfl B9 rfl ⟨p,d,rfl,D9⟩
  |exact qaf rfl rfl B9 rfl ⟨p,rfl,d,D9⟩
 ·skip
  clear hx0' hx1';have c1:=(s.blk.cell 1).trans (Pk.c1 _);have z1:=Lib.frozen_of_heap s.blk 1;obtain⟨p,d,s⟩:=st_ex (s.s1 (!p.dup));go_wp2_with (first | refine load_pk s.blk rfl _ rfl rfl ?_ | (refine qac (q:=p) (old:=Pk.zero) s.res rfl rfl ?_;intro w9 B9 g9) | fail)
  have D9:=s.done g9
  first
  |exact qaf rfl rfl B9 rfl ⟨p,d,rfl,D9⟩
  |exact qaf rfl rfl B9 rfl ⟨p,rfl,d,D9⟩
 ·skip
  clear hx0' hx1';have sn:=s.new (bel_new _ (.cells (List.map (Value.int .i64) [(Int.negSucc 0),(1:Int),(3:Int)]).toArray 3));have lts:=s.cur.lt;go_wp2_with fail
  refine (qbd g ao n cap l _ 3 3 [(Int.negSucc 0),(1:Int),(3:Int)] _ sn.cur hn (by omega) (by omega) rfl (fun i hi=>qez _ [(Int.negSucc 0),(1:Int),(3:Int)] _ (by simp) i hi) (by (try simp at lts);omega)).mono ?_;rintro e y2_ ⟨kk,hkk,rfl,hc_,hg_⟩;replace s:=sn.draw hc_ hg_;clear hc_ hg_;clear sn lts;have c2:=(s.blk.cell 2).trans (Pk.c2 _);have z2:=Lib.frozen_of_heap s.blk 2;obtain⟨p,d,s⟩:=st_ex (s.s2 kk);go_wp2_with (first | refine load_pk s.blk rfl _ rfl rfl ?_ | (refine qac (q:=p) (old:=Pk.zero) s.res rfl rfl ?_;intro w9 B9 g9) | fail)
  have D9:=s.done g9
  first
  |exact qaf rfl rfl B9 rfl ⟨p,d,rfl,D9⟩
  |exact qaf rfl rfl B9 rfl ⟨p,rfl,d,D9⟩
 ·skip
  clear hx0' hx1';have sn:=s.new (bel_new _ (.cells (List.map (Value.int .i64) [(0:Int),(65535:Int),(65536:Int),(Int.negSucc 0)]).toArray 3));have lts:=s.cur.lt;go_wp2_with fail
  refine (qbd g ao n cap l _ 4 4 [(0:Int),(65535:Int),(65536:Int),(Int.negSucc 0)] _ sn.cur hn (by omega) (by omega) rfl (fun i hi=>qez _ [(0:Int),(65535:Int),(65536:Int),(Int.negSucc 0)] _ (by simp) i hi) (by (try simp at lts);omega)).mono ?_;rintro e y3_ ⟨kk,hkk,rfl,hc_,hg_⟩;replace s:=sn.draw hc_ hg_;clear hc_ hg_;clear sn lts;have c4:=(s.blk.cell 4).trans (Pk.c4 _);have z4:=Lib.frozen_of_heap s.blk 4;obtain⟨p,d,s⟩:=st_ex (s.s4 kk);go_wp2_with (first | refine load_pk s.blk rfl _ rfl rfl ?_ | (refine qac (q:=p) (old:=Pk.zero) s.res rfl rfl ?_;intro w9 B9 g9) | fail)
  have D9:=s.done g9
  first
  |exact qaf rfl rfl B9 rfl ⟨p,d,rfl,D9⟩
  |exact qaf rfl rfl B9 rfl ⟨p,rfl,d,D9⟩
 ·skip
  clear hx0' hx1';go_wp2_with fail
  refine (qgk g ao n cap l _ s.cur hn).mono ?_;rintro e y4_ ⟨tt,htt,rfl,hc_,hg_⟩;replace s:=s.draw hc_ hg_;clear hc_ hg_;have c5:=(s.blk.cell 5).trans (Pk.c5 _);have z5:=Lib.frozen_of_heap s.blk 5;obtain⟨p,d,s⟩:=st_ex (s.s5 tt htt);go_wp2_with (first | refine load_pk s.blk rfl _ rfl rfl ?_ | (refine qac (q:=p) (old:=Pk.zero) s.res rfl rfl ?_;intro w9 B9 g9) | fail)
  have D9:=s.done g9
  first
  |exact qaf rfl rfl B9 rfl ⟨p,d,rfl,D9⟩
  |exact qaf rfl rfl B9 rfl ⟨p,rfl,d,D9⟩
 ·skip
  clear hx0' hx1';go_wp2_with fail
  refine (qcb g ao n cap l 41 _ s.cur hn (by omega)).mono ?_;rintro e y5_ ⟨ba,bc,bx,rfl,hb_,hc_,hg_⟩;have s2_:=s.draw hc_ hg_;have c6:=(s2_.blk.cell 6).trans (Pk.c6 _);have z6:=Lib.frozen_of_heap s2_.blk 6;obtain⟨p,d,s⟩:=st_ex (s.n6 hc_ hg_ hb_ (by omega));clear hc_ hg_ hb_ s2_;go_wp2_with (first | refine load_pk s.blk rfl _ rfl rfl ?_ | (refine qac (q:=p) (old:=Pk.zero) s.res rfl rfl ?_;intro w9 B9 g9) | fail)
  have D9:=s.done g9
  first
  |exact qaf rfl rfl B9 rfl ⟨p,d,rfl,D9⟩
  |exact qaf rfl rfl B9 rfl ⟨p,rfl,d,D9⟩
 ·skip
  clear hx0' hx1';go_wp2_with fail
  refine (qsz g ao n cap l _ s.cur hn).mono ?_;rintro e y6_ ⟨tt,htt,rfl,hc_,hg_⟩;replace s:=s.draw hc_ hg_;clear hc_ hg_;have c7:=(s.blk.cell 7).trans (Pk.c7 _);have z7:=Lib.frozen_of_heap s.blk 7;obtain⟨p,d,s⟩:=st_ex (s.s7 tt htt);go_wp2_with (first | refine load_pk s.blk rfl _ rfl rfl ?_ | (refine qac (q:=p) (old:=Pk.zero) s.res rfl rfl ?_;intro w9 B9 g9) | fail)
  have D9:=s.done g9
  first
  |exact qaf rfl rfl B9 rfl ⟨p,d,rfl,D9⟩
  |exact qaf rfl rfl B9 rfl ⟨p,rfl,d,D9⟩
 ·skip
  clear hx0' hx1';have sn:=s.new (bel_new _ (.cells (List.map (Value.int .i64) [(Int.negSucc 0),(0:Int),(255:Int),(256:Int)]).toArray 3));have lts:=s.cur.lt;go_wp2_with fail
  refine (qbd g ao n cap l _ 4 4 [(Int.negSucc 0),(0:Int),(255:Int),(256:Int)] _ sn.cur hn (by omega) (by omega) rfl (fun i hi=>qez _ [(Int.negSucc 0),(0:Int),(255:Int),(256:Int)] _ (by simp) i hi) (by (try simp at lts);omega)).mono ?_;rintro e y7_ ⟨kk,hkk,rfl,hc_,hg_⟩;replace s:=sn.draw hc_ hg_;clear hc_ hg_;clear sn lts;have c8:=(s.blk.cell 8).trans (Pk.c8 _);have z8:=Lib.frozen_of_heap s.blk 8;obtain⟨p,d,s⟩:=st_ex (s.s8 kk);go_wp2_with (first | refine load_pk s.blk rfl _ rfl rfl ?_ | (refine qac (q:=p) (old:=Pk.zero) s.res rfl rfl ?_;intro w9 B9 g9) | fail)
  have D9:=s.done g9
  first
  |exact qaf rfl rfl B9 rfl ⟨p,d,rfl,D9⟩
  |exact qaf rfl rfl B9 rfl ⟨p,rfl,d,D9⟩
 ·skip
  clear hx0' hx1';have sn:=s.new (bel_new _ (.cells (List.map (Value.int .i64) [(Int.negSucc 0),(65536:Int)]).toArray 3));have lts:=s.cur.lt;go_wp2_with fail
  refine (qbd g ao n cap l _ 2 2 [(Int.negSucc 0),(65536:Int)] _ sn.cur hn (by omega) (by omega) rfl (fun i hi=>qez _ [(Int.negSucc 0),(65536:Int)] _ (by simp) i hi) (by (try simp at lts);omega)).mono ?_;rintro e y8_ ⟨kk,hkk,rfl,hc_,hg_⟩;replace s:=sn.draw hc_ hg_;clear hc_ hg_;clear sn lts;have c10:=(s.blk.cell 10).trans (Pk.c10 _);have z10:=Lib.frozen_of_heap s.blk 10;obtain⟨p,d,s⟩:=st_ex (s.s10 kk);go_wp2_with (first | refine load_pk s.blk rfl _ rfl rfl ?_ | (refine qac (q:=p) (old:=Pk.zero) s.res rfl rfl ?_;intro w9 B9 g9) | fail)
  have D9:=s.done g9
  first
  |exact qaf rfl rfl B9 rfl ⟨p,d,rfl,D9⟩
  |exact qaf rfl rfl B9 rfl ⟨p,rfl,d,D9⟩
 ·skip
  clear hx0' hx1';have c11:=(s.blk.cell 11).trans (Pk.c11 _);have z11:=Lib.frozen_of_heap s.blk 11;obtain⟨p,d,s⟩:=st_ex (s.s11 (!p.hw));go_wp2_with (first | refine load_pk s.blk rfl _ rfl rfl ?_ | (refine qac (q:=p) (old:=Pk.zero) s.res rfl rfl ?_;intro w9 B9 g9) | fail)
  have D9:=s.done g9
  first
  |exact qaf rfl rfl B9 rfl ⟨p,d,rfl,D9⟩
  |exact qaf rfl rfl B9 rfl ⟨p,rfl,d,D9⟩
 ·skip
  clear hx0' hx1';go_wp2_with fail
  refine (qgk g ao n cap l _ s.cur hn).mono ?_;rintro e y9_ ⟨tt,htt,rfl,hc_,hg_⟩;replace s:=s.draw hc_ hg_;clear hc_ hg_;have c12:=(s.blk.cell 12).trans (Pk.c12 _);have z12:=Lib.frozen_of_heap s.blk 12;obtain⟨p,d,s⟩:=st_ex (s.s12 tt htt);go_wp2_with (first | refine load_pk s.blk rfl _ rfl rfl ?_ | (refine qac (q:=p) (old:=Pk.zero) s.res rfl rfl ?_;intro w9 B9 g9) | fail)
  have D9:=s.done g9
  first
  |exact qaf rfl rfl B9 rfl ⟨p,d,rfl,D9⟩
  |exact qaf rfl rfl B9 rfl ⟨p,rfl,d,D9⟩
 ·skip
  clear hx0' hx1';have sn:=s.new (bel_new _ (.cells (List.map (Value.int .i64) [(3:Int),(Int.negSucc 0)]).toArray 3));have lts:=s.cur.lt;go_wp2_with fail
  refine (qbd g ao n cap l _ 2 2 [(3:Int),(Int.negSucc 0)] _ sn.cur hn (by omega) (by omega) rfl (fun i hi=>qez _ [(3:Int),(Int.negSucc 0)] _ (by simp) i hi) (by (try simp at lts);omega)).mono ?_;rintro e y10_ ⟨kk,hkk,rfl,hc_,hg_⟩;replace s:=sn.draw hc_ hg_;clear hc_ hg_;clear sn lts;have c14:=(s.blk.cell 14).trans (Pk.c14 _);have z14:=Lib.frozen_of_heap s.blk 14;obtain⟨p,d,s⟩:=st_ex (s.s14 kk);go_wp2_with (first | refine load_pk s.blk rfl _ rfl rfl ?_ | (refine qac (q:=p) (old:=Pk.zero) s.res rfl rfl ?_;intro w9 B9 g9) | fail)
  have D9:=s.done g9
  first
  |exact qaf rfl rfl B9 rfl ⟨p,d,rfl,D9⟩
  |exact qaf rfl rfl B9 rfl ⟨p,rfl,d,D9⟩
 ·skip
  clear hx0' hx1';have c16:=(s.blk.cell 16).trans (Pk.c16 _);have z16:=Lib.frozen_of_heap s.blk 16;obtain⟨p,d,s⟩:=st_ex (s.s16 (!p.hu));go_wp2_with (first | refine load_pk s.blk rfl _ rfl rfl ?_ | (refine qac (q:=p) (old:=Pk.zero) s.res rfl rfl ?_;intro w9 B9 g9) | fail)
  have D9:=s.done g9
  first
  |exact qaf rfl rfl B9 rfl ⟨p,d,rfl,D9⟩
  |exact qaf rfl rfl B9 rfl ⟨p,rfl,d,D9⟩
 ·skip
  clear hx0' hx1';have c18:=(s.blk.cell 18).trans (Pk.c18 _);have z18:=Lib.frozen_of_heap s.blk 18;obtain⟨p,d,s⟩:=st_ex (s.s18 (!p.hp));go_wp2_with (first | refine load_pk s.blk rfl _ rfl rfl ?_ | (refine qac (q:=p) (old:=Pk.zero) s.res rfl rfl ?_;intro w9 B9 g9) | fail)
  have D9:=s.done g9
  first
  |exact qaf rfl rfl B9 rfl ⟨p,d,rfl,D9⟩
  |exact qaf rfl rfl B9 rfl ⟨p,rfl,d,D9⟩
 ·skip
  clear hx0' hx1';have sn:=s.new (bel_new _ (.cells (List.map (Value.int .i64) [(6:Int),(Int.negSucc 0),(1:Int)]).toArray 3));have lts:=s.cur.lt;go_wp2_with fail
  refine (qbd g ao n cap l _ 3 3 [(6:Int),(Int.negSucc 0),(1:Int)] _ sn.cur hn (by omega) (by omega) rfl (fun i hi=>qez _ [(6:Int),(Int.negSucc 0),(1:Int)] _ (by simp) i hi) (by (try simp at lts);omega)).mono ?_;rintro e y11_ ⟨kk,hkk,rfl,hc_,hg_⟩;replace s:=sn.draw hc_ hg_;clear hc_ hg_;clear sn lts;have c20:=(s.blk.cell 20).trans (Pk.c20 _);have z20:=Lib.frozen_of_heap s.blk 20;obtain⟨p,d,s⟩:=st_ex (s.s20 kk);go_wp2_with (first | refine load_pk s.blk rfl _ rfl rfl ?_ | (refine qac (q:=p) (old:=Pk.zero) s.res rfl rfl ?_;intro w9 B9 g9) | fail)
  have D9:=s.done g9
  first
  |exact qaf rfl rfl B9 rfl ⟨p,d,rfl,D9⟩
  |exact qaf rfl rfl B9 rfl ⟨p,rfl,d,D9⟩
 ·skip
  clear hx0' hx1';have c21:=(s.blk.cell 21).trans (Pk.c21 _);have z21:=Lib.frozen_of_heap s.blk 21;obtain⟨p,d,s⟩:=st_ex (s.s21 (!p.pre));go_wp2_with (first | refine load_pk s.blk rfl _ rfl rfl ?_ | (refine qac (q:=p) (old:=Pk.zero) s.res rfl rfl ?_;intro w9 B9 g9) | fail)
  have D9:=s.done g9
  first
  |exact qaf rfl rfl B9 rfl ⟨p,d,rfl,D9⟩
  |exact qaf rfl rfl B9 rfl ⟨p,rfl,d,D9⟩
 ·skip
  clear hx0' hx1';have gd0:p.wan.n≤64:=gd.wan;go_wp2;have hgY:g<y2.heap.size:=Nat.lt_of_lt_of_le s.lt s.gro.size;have hrow:=qcz s.own.wan.2;refine qcd 11 (by kernel_rfl) rfl (RR [3,6] 9 g (Value.slice p.wan.a p.wan.n p.wan.c).ownBlock 88 ao n cap l) (fun i v u=>match i with
   |0=>v=.pointer (some ⟨yb.heap.size,22,none⟩)
   |1=>v=.slice p.wan.a p.wan.n p.wan.c
   |2=>v=.pointer (some ⟨g,0,none⟩)
   |3=>∃x:ByteArray,v=.string x∧x.size≤61
   |4=>v=.pointer (some ⟨g,0,none⟩)
   |5=>∃(blk:Nat) (z:Nat),v=.slice (some ⟨blk,0,none⟩) 2 2∧(y2.heap.size≤blk∧True)∧u.heap[blk]? = some (.cells (List.map (Value.int .i64) [(0:Int),3]).toArray 3)
   |6=>∃x:Int,v=.int .i64 x
   |7=>∃(x:ByteArray) (q:Int),v=.agg #[.string x,.int .i64 q]∧x.size≤61
   |8=>∃(blk:Nat) (z:ByteArray×Int),v=.slice (some ⟨blk,0,none⟩) 1 1∧(y2.heap.size≤blk∧z.1.size≤61)∧u.heap[blk]? = some (.cells #[.string z.1,.int .i64 z.2] 88)
   |9=>∃(a:Option Addr) (c:Nat) (z:ByteArray×Int),v=.slice a (p.wan.n+1) c∧z.1.size≤61∧WOwn u w.heap.size a (p.wan.n+1) c (d.wan++[z])
   |10=>v=.pointer (some ⟨yb.heap.size,22,none⟩)
   |_=>True) (HH 9 11 (fun u=>St 256 w u g w.heap.size (yb.heap.size) ao n cap l p d∧y2.heap.size≤u.heap.size) (fun u=>Sx w u g w.heap.size (yb.heap.size) ao n cap l p { p with wan:=⟨none,0,0⟩ } { d with wan:=[] })) ?_ ?_ ?_ ?_ ?_
  ·intro i j v u x hi hj hr hne hR hG
   match j,hj,hr,hne,hG with
   |0,_,_,_,hG=>exact hG
   |1,_,_,_,hG=>exact hG
   |2,_,_,_,hG=>exact hG
   |3,_,_,_,hG=>exact hG
   |4,_,_,_,hG=>exact hG
   |5,_,_,_,hG=>
    obtain⟨blk,z,e1,e2,e3⟩:=hG;exact⟨blk,z,e1,e2,qhn hR hgY (fun k h=>(hrow k h).2.2) e2.1 e3⟩
   |6,_,_,_,hG=>exact hG
   |7,_,_,_,hG=>exact hG
   |8,_,_,_,hG=>
    obtain⟨blk,z,e1,e2,e3⟩:=hG;exact⟨blk,z,e1,e2,qhn hR hgY (fun k h=>(hrow k h).2.2) e2.1 e3⟩
   |9,_,hr,hne,hG=>
    have hi8:i=10:=by
     match i,hi,hr,hne with
     |0,_,hr,_=>exact qtf hr
     |1,_,hr,_=>exact qtf hr
     |2,_,hr,_=>exact qtf hr
     |3,_,hr,_=>exact qtf hr
     |4,_,hr,_=>exact qtf hr
     |5,_,hr,_=>exact qtf hr
     |6,_,hr,_=>exact qtf hr
     |7,_,hr,_=>exact qtf hr
     |8,_,hr,_=>exact qtf hr
     |9,_,_,hne=>exact absurd rfl hne
     |10,_,_,_=>rfl
     |(_+11),h,_,_=>omega
    subst hi8;obtain⟨a,c,z,e1,e2,e3⟩:=hG;exact⟨a,c,z,e1,e2,e3.grown hR.1 (fun a _ he=>by cases he)⟩
   |10,_,_,_,hG=>exact hG
   |(_+11),h,_,_,_=>omega
  ·exact fun i k u x hi hk hr hne hR hH=>qsu (by decide) (fun k hk=>match k,hk with | 0,_=>rfl | 1,_=>rfl | 2,_=>rfl | 3,_=>rfl | 4,_=>rfl | 5,_=>rfl | 6,_=>rfl | 7,_=>rfl | 8,_=>rfl) y2 (fun k h=>(hrow k h).2.1) (by decide) (fun u k _ ht ho=>qjl ho ht (by decide) (.inr rfl) (.inl (by decide)) (.inl (by decide))) i k u x hr hne hR hH
  ·intro k;unfold HH
   split
   ·exact⟨s.drew,Nat.le_refl _⟩
   split
   ·exact s.drew.x22
   ·trivial
  ·intro i o a u hi hk hH hdep
   match i,hi with
   |0,hi=>
    cases hi;exact g_run (wanted_none rfl _) (z_fld (X:=⟨yb.heap.size,0,none⟩) (Y:=⟨yb.heap.size,22,none⟩) 28 _ 22 rfl (eval_at ((hk.at 3 rfl).trans rfl)) (fun _=>by kernel_rfl) ⟨_,rfl,⟨World.grownBy.refl _ _,fun h=>h,fun h=>absurd h (by decide)⟩,rfl⟩)
   |1,hi=>
    cases hi;obtain⟨z0,hz0,rfl⟩:=hdep 0 _ _ rfl rfl rfl;have S:=HH_le hH (by decide);exact g_run (wanted_none rfl _) (z_ld 24 _ rfl (eval_at hz0) (by kernel_rfl) ((S.1.blk.cell 22).trans (Pk.c22 _)) ⟨_,rfl,⟨World.grownBy.refl _ _,fun h=>h,fun h=>absurd h (by decide)⟩,rfl⟩)
   |2,hi=>
    cases hi;exact g_run (wanted_none rfl _) (qab (v:=_) (w':=u) (by first | (simp[execOp,eval_at ((hk.at 0 rfl).trans rfl)];done) | (simp[execOp,eval_at ((hk.at 0 rfl).trans rfl)];rfl)) ⟨_,rfl,⟨World.grownBy.refl _ _,fun h=>h,fun h=>absurd h (by decide)⟩,rfl⟩)
   |3,hi=>
    cases hi;obtain⟨z2,hz2,rfl⟩:=hdep 2 _ _ rfl rfl rfl;have S:=HH_le hH (by decide);refine g_run (wanted_none rfl _) (st_call (exec_call1 _ _ _ _ _ _ cf_any (eval_at hz2) (fun _=>rfl) _ _ _ _ _ _) ?_);refine (qgk g ao n cap l u S.1.cur hn).mono ?_;rintro e x' ⟨q,hq,rfl,hc,hg⟩;exact⟨_,rfl,_,rfl,⟨hg,fun _=>hc,fun h=>absurd h (by decide)⟩,q,rfl,hq⟩
   |4,hi=>
    cases hi;exact g_run (wanted_none rfl _) (qab (v:=_) (w':=u) (by first | (simp[execOp,eval_at ((hk.at 0 rfl).trans rfl)];done) | (simp[execOp,eval_at ((hk.at 0 rfl).trans rfl)];rfl)) ⟨_,rfl,⟨World.grownBy.refl _ _,fun h=>h,fun h=>absurd h (by decide)⟩,rfl⟩)
   |5,hi=>
    cases hi;have S:=HH_le hH (by decide);exact g_run (wanted_none rfl _) (z_mk (vs:=#[(0,.int .i64 0),(1,.int .i64 3)]) _ _ rfl (by simp only[List.map_toArray,List.map_cons,List.map_nil];rfl) (mki2 0 3 u) ⟨_,rfl,⟨World.grownBy_alloc _ _ _,fun h=>h.alloc _,fun h=>absurd h (by decide)⟩,⟨_,0,rfl,⟨S.2,trivial⟩,heap_alloc_new _ _⟩⟩)
   |6,hi=>
    cases hi;obtain⟨z4,hz4,rfl⟩:=hdep 4 _ _ rfl rfl rfl;obtain⟨z5,hz5,⟨blk,z,e1,e2,e3⟩⟩:=hdep 5 _ _ rfl rfl rfl;subst e1;have S:=HH_le hH (by decide);refine g_run (wanted_none rfl _) (st_call (exec_call2 _ _ _ _ _ _ _ _ cf_int (eval_at hz4) (eval_at hz5) (fun _=>rfl) _ _ _ _ _ _) ?_);refine (qbd g ao n cap l blk 2 2 [(0:Int),3] u S.1.cur hn (by omega) (by omega) rfl (fun i hi=>ints_row e3 i hi) (by omega)).mono ?_;rintro e x' ⟨q,_,rfl,hc,hg⟩;exact⟨_,rfl,_,rfl,⟨hg,fun _=>hc,fun h=>absurd h (by decide)⟩,q,rfl⟩
   |7,hi=>
    cases hi;obtain⟨z3,hz3,⟨x4,rfl,hx4⟩⟩:=hdep 3 _ _ rfl rfl rfl;obtain⟨z6,hz6,⟨x5,rfl⟩⟩:=hdep 6 _ _ rfl rfl rfl;exact g_run (wanted_none rfl _) (z_build (vs:=#[(0,.string x4),(1,.int .i64 x5)]) _ rfl (by simp[eval_at hz3,eval_at hz6]) (bw x4 x5 u) ⟨_,rfl,⟨World.grownBy.refl _ _,fun h=>h,fun h=>absurd h (by decide)⟩,x4,x5,rfl,hx4⟩)
   |8,hi=>
    cases hi;obtain⟨z7,hz7,⟨x6,q6,rfl,hx6⟩⟩:=hdep 7 _ _ rfl rfl rfl;have S:=HH_le hH (by decide);exact g_run (wanted_none rfl _) (z_mk _ _ rfl (by simp[eval_at hz7]) (mkw1 x6 q6 u) ⟨_,rfl,⟨World.grownBy_alloc _ _ _,fun h=>h.alloc _,fun h=>absurd h (by decide)⟩,⟨_,(x6,q6),rfl,⟨S.2,hx6⟩,heap_alloc_new _ _⟩⟩)
   |9,hi=>
    cases hi;obtain⟨z1,hz1,rfl⟩:=hdep 1 _ _ rfl rfl rfl;obtain⟨z8,hz8,⟨blk,z,e1,e2,e3⟩⟩:=hdep 8 _ _ rfl rfl rfl;subst e1;have S:=HH_le hH (by decide);have hlen:p.wan.n≤256:=S.1.gd.wan;refine g_run (wanted_none rfl _) (qrk _ _ rfl w.heap.size _ _ _ d.wan (eval_at hz1) S.1.own.wan ⟨blk,0,none⟩ [z] 1 1 rfl (eval_at hz8) ?_ (by omega) S.1.gro.size ?_)
    ·intro k v hv
     match k,hv with
     |0,hv=>
      have e4:v=.string z.1:=by simpa[wvals] using hv.symm
      rw[e4];exact (qcl e3 0).trans rfl
     |1,hv=>
      have e4:v=.int .i64 z.2:=by simpa[wvals] using hv.symm
      rw[e4];exact (qcl e3 1).trans rfl
    ·intro a' c' x' ho hg;exact⟨_,rfl,⟨hg,fun h=>h.keep hg (fun k e=>by have:=(qcz S.1.own.wan.2 k e).2.1;have:=S.1.lt;omega),fun _ k h=>(qcz S.1.own.wan.2 k h).1⟩,a',c',z,rfl,e2.2,ho⟩
   |10,hi=>
    cases hi;exact g_run (wanted_none rfl _) (z_fld (X:=⟨yb.heap.size,0,none⟩) (Y:=⟨yb.heap.size,22,none⟩) 28 _ 22 rfl (eval_at ((hk.at 3 rfl).trans rfl)) (fun _=>by kernel_rfl) ⟨_,rfl,⟨World.grownBy.refl _ _,fun h=>h,fun h=>absurd h (by decide)⟩,rfl⟩)
   |(_+11),hi=>cases hi
  intro vs y9 hX_ hG a3_ h3;have X:=HH_N hX_ (by decide);obtain⟨a6,c6,x6,e6,hx6,O6⟩:=hG 9 (by decide);have e7:=hG 10 (by decide);replace e7:vs 10=.pointer (some ⟨yb.heap.size,22,none⟩):=e7;clear hG hX_;replace h3:puts _ 1 _ (Fq154)=_:=h3;replace h3:puts _ 2 _ (Fq154)=_:=h3;replace h3:puts _ 3 _ (Fq154)=_:=h3;replace h3:puts _ 4 _ (Fq154)=_:=h3;replace h3:puts _ 5 _ (Fq154)=_:=h3;replace h3:puts _ 6 _ (Fq154)=_:=h3;replace h3:puts _ 7 _ (Fq154)=_:=h3;replace h3:puts _ 8 _ (Fq154)=_:=h3;replace h3:puts _ 9 _ (Fq154)=_:=h3;replace h3:puts _ 10 _ (Fq154)=_:=h3;replace h3:Fq154=_:=h3;unfold Fq154 at h3;subst h3;simp only[List.drop_succ_cons,List.drop_zero];simp only[e6,e7];clear e6 e7;have c22:=(X.blk.cell 22).trans (Pk.c22 _);have z22:=Lib.frozen_of_heap X.blk 22;obtain⟨p,d,s⟩:=st_ex (X.fin22 s.gd O6 (by omega) (qqr s.gd.wans hx6));clear X O6 hx6;go_wp2_with (first | refine load_pk s.blk rfl _ rfl rfl ?_ | (refine qac (q:=p) (old:=Pk.zero) s.res rfl rfl ?_;intro w9 B9 g9) | fail)
  have D9:=s.done g9
  first
  |exact qaf rfl rfl B9 rfl ⟨p,d,rfl,D9⟩
  |exact qaf rfl rfl B9 rfl ⟨p,rfl,d,D9⟩
 ·skip
  clear hx0' hx1';have gd0:p.nam.n≤64:=gd.nam;go_wp2;have hgY:g<y2.heap.size:=Nat.lt_of_lt_of_le s.lt s.gro.size;have hrow:=qcz s.own.nam.2;refine qcd 9 (by kernel_rfl) rfl (RR [3,5] 7 g (Value.slice p.nam.a p.nam.n p.nam.c).ownBlock 9 ao n cap l) (fun i v u=>match i with
   |0=>v=.pointer (some ⟨yb.heap.size,23,none⟩)
   |1=>v=.slice p.nam.a p.nam.n p.nam.c
   |2=>v=.pointer (some ⟨g,0,none⟩)
   |3=>∃x:ByteArray,v=.string x∧x.size≤61
   |4=>v=.pointer (some ⟨g,0,none⟩)
   |5=>∃x:ByteArray,v=.string x∧x.size≤61
   |6=>∃(blk:Nat) (z:ByteArray×ByteArray),v=.slice (some ⟨blk,0,none⟩) 2 2∧(y2.heap.size≤blk∧(z.1.size≤61∧z.2.size≤61))∧u.heap[blk]? = some (.cells #[.string z.1,.string z.2] 9)
   |7=>∃(a:Option Addr) (c:Nat) (z:ByteArray×ByteArray),v=.slice a (p.nam.n+2) c∧(z.1.size≤61∧z.2.size≤61)∧SOwn u w.heap.size a (p.nam.n+2) c (d.nam++[z.1,z.2])
   |8=>v=.pointer (some ⟨yb.heap.size,23,none⟩)
   |_=>True) (HH 7 9 (fun u=>St 256 w u g w.heap.size (yb.heap.size) ao n cap l p d∧y2.heap.size≤u.heap.size) (fun u=>Sx w u g w.heap.size (yb.heap.size) ao n cap l p { p with nam:=⟨none,0,0⟩ } { d with nam:=[] })) ?_ ?_ ?_ ?_ ?_
  ·intro i j v u x hi hj hr hne hR hG
   match j,hj,hr,hne,hG with
   |0,_,_,_,hG=>exact hG
   |1,_,_,_,hG=>exact hG
   |2,_,_,_,hG=>exact hG
   |3,_,_,_,hG=>exact hG
   |4,_,_,_,hG=>exact hG
   |5,_,_,_,hG=>exact hG
   |6,_,_,_,hG=>
    obtain⟨blk,z,e1,e2,e3⟩:=hG;exact⟨blk,z,e1,e2,qhn hR hgY (fun k h=>(hrow k h).2.2) e2.1 e3⟩
   |7,_,hr,hne,hG=>
    have hi8:i=8:=by
     match i,hi,hr,hne with
     |0,_,hr,_=>exact qtf hr
     |1,_,hr,_=>exact qtf hr
     |2,_,hr,_=>exact qtf hr
     |3,_,hr,_=>exact qtf hr
     |4,_,hr,_=>exact qtf hr
     |5,_,hr,_=>exact qtf hr
     |6,_,hr,_=>exact qtf hr
     |7,_,_,hne=>exact absurd rfl hne
     |8,_,_,_=>rfl
     |(_+9),h,_,_=>omega
    subst hi8;obtain⟨a,c,z,e1,e2,e3⟩:=hG;exact⟨a,c,z,e1,e2,e3.grown hR.1 (fun a _ he=>by cases he)⟩
   |8,_,_,_,hG=>exact hG
   |(_+9),h,_,_,_=>omega
  ·exact fun i k u x hi hk hr hne hR hH=>qsu (by decide) (fun k hk=>match k,hk with | 0,_=>rfl | 1,_=>rfl | 2,_=>rfl | 3,_=>rfl | 4,_=>rfl | 5,_=>rfl | 6,_=>rfl) y2 (fun k h=>(hrow k h).2.1) (by decide) (fun u k _ ht ho=>qjl ho ht (by decide) (.inl (by decide)) (.inr rfl) (.inl (by decide))) i k u x hr hne hR hH
  ·intro k;unfold HH
   split
   ·exact⟨s.drew,Nat.le_refl _⟩
   split
   ·exact s.drew.x23
   ·trivial
  ·intro i o a u hi hk hH hdep
   match i,hi with
   |0,hi=>
    cases hi;exact g_run (wanted_none rfl _) (z_fld (X:=⟨yb.heap.size,0,none⟩) (Y:=⟨yb.heap.size,23,none⟩) 28 _ 23 rfl (eval_at ((hk.at 3 rfl).trans rfl)) (fun _=>by kernel_rfl) ⟨_,rfl,⟨World.grownBy.refl _ _,fun h=>h,fun h=>absurd h (by decide)⟩,rfl⟩)
   |1,hi=>
    cases hi;obtain⟨z0,hz0,rfl⟩:=hdep 0 _ _ rfl rfl rfl;have S:=HH_le hH (by decide);exact g_run (wanted_none rfl _) (z_ld 25 _ rfl (eval_at hz0) (by kernel_rfl) ((S.1.blk.cell 23).trans (Pk.c23 _)) ⟨_,rfl,⟨World.grownBy.refl _ _,fun h=>h,fun h=>absurd h (by decide)⟩,rfl⟩)
   |2,hi=>
    cases hi;exact g_run (wanted_none rfl _) (qab (v:=_) (w':=u) (by first | (simp[execOp,eval_at ((hk.at 0 rfl).trans rfl)];done) | (simp[execOp,eval_at ((hk.at 0 rfl).trans rfl)];rfl)) ⟨_,rfl,⟨World.grownBy.refl _ _,fun h=>h,fun h=>absurd h (by decide)⟩,rfl⟩)
   |3,hi=>
    cases hi;obtain⟨z2,hz2,rfl⟩:=hdep 2 _ _ rfl rfl rfl;have S:=HH_le hH (by decide);refine g_run (wanted_none rfl _) (st_call (exec_call1 _ _ _ _ _ _ cf_any (eval_at hz2) (fun _=>rfl) _ _ _ _ _ _) ?_);refine (qgk g ao n cap l u S.1.cur hn).mono ?_;rintro e x' ⟨q,hq,rfl,hc,hg⟩;exact⟨_,rfl,_,rfl,⟨hg,fun _=>hc,fun h=>absurd h (by decide)⟩,q,rfl,hq⟩
   |4,hi=>
    cases hi;exact g_run (wanted_none rfl _) (qab (v:=_) (w':=u) (by first | (simp[execOp,eval_at ((hk.at 0 rfl).trans rfl)];done) | (simp[execOp,eval_at ((hk.at 0 rfl).trans rfl)];rfl)) ⟨_,rfl,⟨World.grownBy.refl _ _,fun h=>h,fun h=>absurd h (by decide)⟩,rfl⟩)
   |5,hi=>
    cases hi;obtain⟨z4,hz4,rfl⟩:=hdep 4 _ _ rfl rfl rfl;have S:=HH_le hH (by decide);refine g_run (wanted_none rfl _) (st_call (exec_call1 _ _ _ _ _ _ cf_any (eval_at hz4) (fun _=>rfl) _ _ _ _ _ _) ?_);refine (qgk g ao n cap l u S.1.cur hn).mono ?_;rintro e x' ⟨q,hq,rfl,hc,hg⟩;exact⟨_,rfl,_,rfl,⟨hg,fun _=>hc,fun h=>absurd h (by decide)⟩,q,rfl,hq⟩
   |6,hi=>
    cases hi;obtain⟨z3,hz3,⟨x4,rfl,hx4⟩⟩:=hdep 3 _ _ rfl rfl rfl;obtain⟨z5,hz5,⟨x6,rfl,hx6⟩⟩:=hdep 5 _ _ rfl rfl rfl;have S:=HH_le hH (by decide);exact g_run (wanted_none rfl _) (z_mk _ _ rfl (by simp[eval_at hz3,eval_at hz5]) (mks2 x4 x6 u) ⟨_,rfl,⟨World.grownBy_alloc _ _ _,fun h=>h.alloc _,fun h=>absurd h (by decide)⟩,⟨_,(x4,x6),rfl,⟨S.2,hx4,hx6⟩,heap_alloc_new _ _⟩⟩)
   |7,hi=>
    cases hi;obtain⟨z1,hz1,rfl⟩:=hdep 1 _ _ rfl rfl rfl;obtain⟨z6,hz6,⟨blk,z,e1,e2,e3⟩⟩:=hdep 6 _ _ rfl rfl rfl;subst e1;have S:=HH_le hH (by decide);have hlen:p.nam.n≤256:=S.1.gd.nam;refine g_run (wanted_none rfl _) (z_namapp _ _ rfl w.heap.size _ _ _ d.nam (eval_at hz1) S.1.own.nam ⟨blk,0,none⟩ [z.1,z.2] 2 2 rfl (eval_at hz6) ?_ (by omega) S.1.gro.size ?_)
    ·intro k v hv
     match k,hv with
     |0,hv=>
      have e4:v=.string z.1:=by simpa[svals] using hv.symm
      rw[e4];exact (qcl e3 0).trans rfl
     |1,hv=>
      have e4:v=.string z.2:=by simpa[svals] using hv.symm
      rw[e4];exact (qcl e3 1).trans rfl
    ·intro a' c' x' ho hg;exact⟨_,rfl,⟨hg,fun h=>h.keep hg (fun k e=>by have:=(qcz S.1.own.nam.2 k e).2.1;have:=S.1.lt;omega),fun _ k h=>(qcz S.1.own.nam.2 k h).1⟩,a',c',z,rfl,e2.2,ho⟩
   |8,hi=>
    cases hi;exact g_run (wanted_none rfl _) (z_fld (X:=⟨yb.heap.size,0,none⟩) (Y:=⟨yb.heap.size,23,none⟩) 28 _ 23 rfl (eval_at ((hk.at 3 rfl).trans rfl)) (fun _=>by kernel_rfl) ⟨_,rfl,⟨World.grownBy.refl _ _,fun h=>h,fun h=>absurd h (by decide)⟩,rfl⟩)
   |(_+9),hi=>cases hi
  intro vs y9 hX_ hG a3_ h3;have X:=HH_N hX_ (by decide);obtain⟨a6,c6,x6,e6,hx6,O6⟩:=hG 7 (by decide);have e7:=hG 8 (by decide);replace e7:vs 8=.pointer (some ⟨yb.heap.size,23,none⟩):=e7;clear hG hX_;replace h3:puts _ 1 _ (Fq154)=_:=h3;replace h3:puts _ 2 _ (Fq154)=_:=h3;replace h3:puts _ 3 _ (Fq154)=_:=h3;replace h3:puts _ 4 _ (Fq154)=_:=h3;replace h3:puts _ 5 _ (Fq154)=_:=h3;replace h3:puts _ 6 _ (Fq154)=_:=h3;replace h3:puts _ 7 _ (Fq154)=_:=h3;replace h3:puts _ 8 _ (Fq154)=_:=h3;replace h3:Fq154=_:=h3;unfold Fq154 at h3;subst h3;simp only[List.drop_succ_cons,List.drop_zero];simp only[e6,e7];clear e6 e7;have c23:=(X.blk.cell 23).trans (Pk.c23 _);have z23:=Lib.frozen_of_heap X.blk 23;obtain⟨p,d,s⟩:=st_ex (X.fin23 s.gd O6 (by omega) (grow_two s.gd.nams hx6.1 hx6.2));clear X O6 hx6;go_wp2_with (first | refine load_pk s.blk rfl _ rfl rfl ?_ | (refine qac (q:=p) (old:=Pk.zero) s.res rfl rfl ?_;intro w9 B9 g9) | fail)
  have D9:=s.done g9
  first
  |exact qaf rfl rfl B9 rfl ⟨p,d,rfl,D9⟩
  |exact qaf rfl rfl B9 rfl ⟨p,rfl,d,D9⟩
 ·skip
  clear hx0' hx1';have c24:=(s.blk.cell 24).trans (Pk.c24 _);have X:=(s.new (bel_new _ (.cells #[.int .i64 3] 3))).x24;have s3:=s.new (bel_new _ (.cells #[.int .i64 3] 3));have gd0:p.cds.n≤64:=gd.cds;go_wp2_with (at_builtin;refine w_iapp _ rfl _ _ rfl w.heap.size _ _ _ d.cds rfl s3.own.cds _ 3 rfl (by simp) (by omega) s3.gro.size ?_)
  intro a6 c6 y9 O6 hg;have hrow:=qcz s3.own.cds.2;have X2:=X.move hg (s3.cur.keep hg (fun k e=>by have:=(hrow k e).2.1;have:=s3.lt;omega)) (fun k e=>by
   obtain⟨⟨cur,hc⟩,h2,h3⟩:=hrow k e;exact⟨ty_ne hc X.blk (by decide),ty_ne hc X.res (by decide),qjl X.own ⟨cur,hc⟩ (by decide) (.inl (by decide)) (.inl (by decide)) (.inr rfl),.inr h2⟩)
  have c24b:=(X2.blk.cell 24).trans (Pk.c24 _);have z24b:=Lib.frozen_of_heap X2.blk 24;obtain⟨p,d,s⟩:=st_ex (X2.fin24 s.gd O6 (by omega));clear X X2 s3 hg O6 hrow;go_wp2_with (first | refine load_pk s.blk rfl _ rfl rfl ?_ | (refine qac (q:=p) (old:=Pk.zero) s.res rfl rfl ?_;intro w9 B9 g9) | fail)
  have D9:=s.done g9
  first
  |exact qaf rfl rfl B9 rfl ⟨p,d,rfl,D9⟩
  |exact qaf rfl rfl B9 rfl ⟨p,rfl,d,D9⟩
 ·skip
  clear hx0' hx1';have sn:=s.new (bel_new _ (.cells (List.map (Value.int .i64) [(1:Int),(61:Int)]).toArray 3));have lts:=s.cur.lt;go_wp2_with fail
  refine (qbd g ao n cap l _ 2 2 [(1:Int),(61:Int)] _ sn.cur hn (by omega) (by omega) rfl (fun i hi=>qez _ [(1:Int),(61:Int)] _ (by simp) i hi) (by (try simp at lts);omega)).mono ?_;rintro e y12_ ⟨mm,hmm,rfl,hc_,hg_⟩;replace s:=sn.draw hc_ hg_;clear hc_ hg_;clear sn lts;have hmm2:0≤mm∧mm≤61:=by simp at hmm;omega
  obtain⟨m,rfl⟩:=Int.eq_ofNat_of_zero_le hmm2.1;go_wp2_with fail
  refine (qcb g ao n cap l m _ s.cur hn (by omega)).mono ?_;rintro e y13_ ⟨ba,bc,bx,rfl,hb_,hc_,hg_⟩;have s2_:=s.draw hc_ hg_;have c19:=(s2_.blk.cell 19).trans (Pk.c19 _);have z19:=Lib.frozen_of_heap s2_.blk 19;obtain⟨p,d,s⟩:=st_ex (s.n19 hc_ hg_ hb_ (by omega));clear hc_ hg_ hb_ s2_;go_wp2_with (first | refine load_pk s.blk rfl _ rfl rfl ?_ | (refine qac (q:=p) (old:=Pk.zero) s.res rfl rfl ?_;intro w9 B9 g9) | fail)
  have D9:=s.done g9
  first
  |exact qaf rfl rfl B9 rfl ⟨p,d,rfl,D9⟩
  |exact qaf rfl rfl B9 rfl ⟨p,rfl,d,D9⟩
 ·skip
  clear hx0' hx1';have gd0:p.wan.n≤64:=gd.wan;go_wp2;have H20:∀k u,(if k≤4 then St 256 w u g w.heap.size (yb.heap.size) ao n cap l p d else Sx w u g w.heap.size (yb.heap.size) ao n cap l p { p with wan:=⟨none,0,0⟩ } { d with wan:=[] })→Blk u yb.heap.size p:=by
   intro k u h
   split at h
   ·exact h.blk
   ·exact h.blk
  have h20blk:∀ {k u},(if k≤4 then St 256 w u g w.heap.size (yb.heap.size) ao n cap l p d else Sx w u g w.heap.size (yb.heap.size) ao n cap l p { p with wan:=⟨none,0,0⟩ } { d with wan:=[] })→u.cell? ⟨yb.heap.size,22,none⟩ = p.cells[22]?:=fun h=>(H20 _ _ h).cell 22
  refine qcd 9 (by kernel_rfl) rfl (R20 w.heap.size p.wan.n) (fun i v u=>match i with
   |0=>v=.pointer (some ⟨yb.heap.size,22,none⟩)
   |1=>v=.slice p.wan.a p.wan.n p.wan.c
   |2=>v=.pointer (some ⟨yb.heap.size,22,none⟩)
   |3=>v=.slice p.wan.a p.wan.n p.wan.c
   |4=>∃(a:Option Addr) (c:Nat),v=.slice a (p.wan.n+p.wan.n) c∧WOwn u w.heap.size a (p.wan.n+p.wan.n) c (d.wan++d.wan)∧WOwn u w.heap.size p.wan.a p.wan.n p.wan.c d.wan
   |5=>v=.pointer (some ⟨yb.heap.size,22,none⟩)
   |6=>v=.slice p.wan.a p.wan.n p.wan.c
   |7=>∃(a:Option Addr) (c:Nat),v=.slice a (p.wan.n+p.wan.n+p.wan.n) c∧WOwn u w.heap.size a (p.wan.n+p.wan.n+p.wan.n) c (d.wan++d.wan++d.wan)
   |8=>v=.pointer (some ⟨yb.heap.size,22,none⟩)
   |_=>True) (fun k u=>if k≤4 then St 256 w u g w.heap.size (yb.heap.size) ao n cap l p d else Sx w u g w.heap.size (yb.heap.size) ao n cap l p { p with wan:=⟨none,0,0⟩ } { d with wan:=[] }) ?_ ?_ ?_ ?_ ?_
  ·intro i j v u x hi hj hr hne hR hG
   match j,hj,hr,hne,hG with
   |0,_,_,_,hG=>exact hG
   |1,_,_,_,hG=>exact hG
   |2,_,_,_,hG=>exact hG
   |3,_,_,_,hG=>exact hG
   |5,_,_,_,hG=>exact hG
   |6,_,_,_,hG=>exact hG
   |8,_,_,_,hG=>exact hG
   |4,_,hr,hne,hG=>
    obtain⟨a,c,e1,e2,e3⟩:=hG;unfold R20 at hR;rw[if_neg (fun e=>hne e.symm)] at hR
    by_cases h7:i=7
    ·rw[if_pos h7] at hR;obtain⟨row,r1,r2,r3⟩:=hR;exact⟨a,c,e1,qpi e2 r1 r3 (Nat.le_refl _),qpi e3 r1 r3 (by omega)⟩
    ·rw[if_neg h7] at hR;subst hR;exact⟨a,c,e1,e2,e3⟩
   |7,_,hr,hne,hG=>
    have hi4:i≠4:=by
     rintro rfl;exact qtf hr
    unfold R20 at hR;rw[if_neg hi4,if_neg (fun e=>hne e.symm)] at hR;subst hR;exact hG
   |(_+9),h,_,_,_=>omega
  ·intro i k u x hi hk hr hne hR hH;unfold R20 at hR
   by_cases hk4:k≤4
   ·have hi4:i≠4∧i≠7:=by
     constructor
     ·rintro rfl
      match k,hk4,hr,hne with
      |0,_,hr,_=>exact qtf hr
      |1,_,hr,_=>exact qtf hr
      |2,_,hr,_=>exact qtf hr
      |3,_,hr,_=>exact qtf hr
      |4,_,_,hne=>exact absurd rfl hne
      |(_+5),h,_,_=>omega
     ·rintro rfl
      match k,hk4,hr with
      |0,_,hr=>exact qtf hr
      |1,_,hr=>exact qtf hr
      |2,_,hr=>exact qtf hr
      |3,_,hr=>exact qtf hr
      |4,_,hr=>exact qtf hr
      |(_+5),h,_=>omega
    rw[if_neg hi4.1,if_neg hi4.2] at hR;subst hR;exact hH
   ·rw[if_neg hk4] at hH ⊢;have hmv:∀q,RK w.heap.size q u x→Sx w x g w.heap.size (yb.heap.size) ao n cap l p { p with wan:=⟨none,0,0⟩ } { d with wan:=[] }:=by
     rintro q ⟨row,r1,r2,r3⟩;refine hH.move r1 (hH.cur.keep r1 (fun k e=>by have:=(r2 k e).1;have:=hH.lt;omega)) (fun k e=>?_);obtain⟨h2,⟨cur,hc⟩⟩:=r2 k e;exact⟨ty_ne hc hH.blk (by decide),ty_ne hc hH.res (by decide),qjl hH.own ⟨cur,hc⟩ (by decide) (.inr rfl) (.inl (by decide)) (.inl (by decide)),.inr h2⟩
    split at hR
    ·exact hmv _ hR
    ·split at hR
     ·exact hmv _ hR
     ·subst hR;exact hH
  ·intro k
   split
   ·exact s.drew
   ·exact s.drew.x22
  ·intro i o a u hi hk hH hdep
   match i,hi with
   |0,hi=>
    cases hi;exact g_run (wanted_none rfl _) (z_fld (X:=⟨yb.heap.size,0,none⟩) (Y:=⟨yb.heap.size,22,none⟩) 28 _ 22 rfl (eval_at ((hk.at 3 rfl).trans rfl)) (fun _=>by kernel_rfl) ⟨_,rfl,rfl,rfl⟩)
   |1,hi=>
    cases hi;obtain⟨z0,hz0,rfl⟩:=hdep 0 _ _ rfl rfl rfl;exact g_run (wanted_none rfl _) (z_ld 24 _ rfl (eval_at hz0) (by kernel_rfl) ((h20blk hH).trans (Pk.c22 _)) ⟨_,rfl,rfl,rfl⟩)
   |2,hi=>
    cases hi;exact g_run (wanted_none rfl _) (z_fld (X:=⟨yb.heap.size,0,none⟩) (Y:=⟨yb.heap.size,22,none⟩) 28 _ 22 rfl (eval_at ((hk.at 3 rfl).trans rfl)) (fun _=>by kernel_rfl) ⟨_,rfl,rfl,rfl⟩)
   |3,hi=>
    cases hi;obtain⟨z2,hz2,rfl⟩:=hdep 2 _ _ rfl rfl rfl;exact g_run (wanted_none rfl _) (z_ld 24 _ rfl (eval_at hz2) (by kernel_rfl) ((h20blk hH).trans (Pk.c22 _)) ⟨_,rfl,rfl,rfl⟩)
   |4,hi=>
    cases hi;obtain⟨z1,hz1,rfl⟩:=hdep 1 _ _ rfl rfl rfl;obtain⟨z3,hz3,rfl⟩:=hdep 3 _ _ rfl rfl rfl;replace hH:St 256 w u g w.heap.size (yb.heap.size) ao n cap l p d:=hH;have hrow:=qcz hH.own.wan.2;refine g_run (wanted_none rfl _) (z_wkeep _ _ rfl w.heap.size _ _ _ d.wan (eval_at hz1) hH.own.wan _ _ _ d.wan (eval_at hz3) hH.own.wan (by omega) hH.gro.size ?_);intro a' c' x' ho hg hkp;exact⟨_,rfl,⟨_,hg,fun k h=>⟨(hrow k h).2.1,(hrow k h).1⟩,hkp⟩,a',c',rfl,ho,qpi hH.own.wan hg hkp (Nat.le_refl _)⟩
   |5,hi=>
    cases hi;exact g_run (wanted_none rfl _) (z_fld (X:=⟨yb.heap.size,0,none⟩) (Y:=⟨yb.heap.size,22,none⟩) 28 _ 22 rfl (eval_at ((hk.at 3 rfl).trans rfl)) (fun _=>by kernel_rfl) ⟨_,rfl,rfl,rfl⟩)
   |6,hi=>
    cases hi;obtain⟨z5,hz5,rfl⟩:=hdep 5 _ _ rfl rfl rfl;exact g_run (wanted_none rfl _) (z_ld 24 _ rfl (eval_at hz5) (by kernel_rfl) ((h20blk hH).trans (Pk.c22 _)) ⟨_,rfl,rfl,rfl⟩)
   |7,hi=>
    cases hi;obtain⟨z4,hz4,⟨a4,c4,rfl,O4,O0⟩⟩:=hdep 4 _ _ rfl rfl rfl;obtain⟨z6,hz6,rfl⟩:=hdep 6 _ _ rfl rfl rfl;replace hH:Sx w u g w.heap.size (yb.heap.size) ao n cap l p { p with wan:=⟨none,0,0⟩ } { d with wan:=[] }:=hH;have hrow:=qcz O4.2;refine g_run (wanted_none rfl _) (z_wkeep _ _ rfl w.heap.size _ _ _ (d.wan++d.wan) (eval_at hz4) O4 _ _ _ d.wan (eval_at hz6) O0 (by omega) hH.gro.size ?_);intro a' c' x' ho hg hkp;exact⟨_,rfl,⟨_,hg,fun k h=>⟨(hrow k h).2.1,(hrow k h).1⟩,hkp⟩,a',c',rfl,ho⟩
   |8,hi=>
    cases hi;exact g_run (wanted_none rfl _) (z_fld (X:=⟨yb.heap.size,0,none⟩) (Y:=⟨yb.heap.size,22,none⟩) 28 _ 22 rfl (eval_at ((hk.at 3 rfl).trans rfl)) (fun _=>by kernel_rfl) ⟨_,rfl,rfl,rfl⟩)
   |(_+9),hi=>cases hi
  intro vs y9 X hG a3_ h3;replace X:Sx w y9 g w.heap.size (yb.heap.size) ao n cap l p { p with wan:=⟨none,0,0⟩ } { d with wan:=[] }:=X;obtain⟨a6,c6,e6,O6⟩:=hG 7 (by decide);have e7:=hG 8 (by decide);replace e7:vs 8=.pointer (some ⟨yb.heap.size,22,none⟩):=e7;clear hG;replace h3:puts _ 1 _ (Fq154)=_:=h3;replace h3:puts _ 2 _ (Fq154)=_:=h3;replace h3:puts _ 3 _ (Fq154)=_:=h3;replace h3:puts _ 4 _ (Fq154)=_:=h3;replace h3:puts _ 5 _ (Fq154)=_:=h3;replace h3:puts _ 6 _ (Fq154)=_:=h3;replace h3:puts _ 7 _ (Fq154)=_:=h3;replace h3:puts _ 8 _ (Fq154)=_:=h3;replace h3:Fq154=_:=h3;unfold Fq154 at h3;subst h3;simp only[List.drop_succ_cons,List.drop_zero];simp only[e6,e7];clear e6 e7;have c22:=(X.blk.cell 22).trans (Pk.c22 _);have z22:=Lib.frozen_of_heap X.blk 22;obtain⟨p,d,s⟩:=st_ex (X.fin22 s.gd O6 (by omega) (fun z hz=>by rcases List.mem_append.1 hz with h | h;exact (List.mem_append.1 h).elim (s.gd.wans z) (s.gd.wans z);exact s.gd.wans z h));clear X O6;go_wp2_with (first | refine load_pk s.blk rfl _ rfl rfl ?_ | (refine qac (q:=p) (old:=Pk.zero) s.res rfl rfl ?_;intro w9 B9 g9) | fail)
  have D9:=s.done g9
  first
  |exact qaf rfl rfl B9 rfl ⟨p,d,rfl,D9⟩
  |exact qaf rfl rfl B9 rfl ⟨p,rfl,d,D9⟩
 ·skip
  have t0:(x==0)=false:=by simp;omega
  have t1:(x==1)=false:=by simp;omega
  have t2:(x==2)=false:=by simp;omega
  have t3:(x==3)=false:=by simp;omega
  have t4:(x==4)=false:=by simp;omega
  have t5:(x==5)=false:=by simp;omega
  have t6:(x==6)=false:=by simp;omega
  have t7:(x==7)=false:=by simp;omega
  have t8:(x==8)=false:=by simp;omega
  have t9:(x==9)=false:=by simp;omega
  have t10:(x==10)=false:=by simp;omega
  have t11:(x==11)=false:=by simp;omega
  have t12:(x==12)=false:=by simp;omega
  have t13:(x==13)=false:=by simp;omega
  have t14:(x==14)=false:=by simp;omega
  have t15:(x==15)=false:=by simp;omega
  have t16:(x==16)=false:=by simp;omega
  have t17:(x==17)=false:=by simp;omega
  have t18:(x==18)=false:=by simp;omega
  have t19:(x==19)=false:=by simp;omega
  have t20:(x==20)=false:=by simp;omega
  go_wp2_with (first | refine load_pk s.blk rfl _ rfl rfl ?_ | (refine qac (q:=p) (old:=Pk.zero) s.res rfl rfl ?_;intro w9 B9 g9) | fail)
  have D9:=s.done g9
  first
  |exact qaf rfl rfl B9 rfl ⟨p,d,rfl,D9⟩
  |exact qaf rfl rfl B9 rfl ⟨p,rfl,d,D9⟩
