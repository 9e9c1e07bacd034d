/- Lemmas. -/
import Derived.Test.YtobgmpaalnpdcaaGreatDoorV17
import Derived.Test.YtobgmpaalnpdcaaGreatDoorV01
set_option linter.unusedVariables false
set_option linter.unusedSimpArgs false
set_option maxRecDepth 100000
set_option maxHeartbeats 20000000
namespace Go.Proofs.YtobgmpaalnpdcaaGreatDoor
open Go.RowKit

theorem l5k_id5 (g:Nat) (ao:Option Addr) (n cap:Nat) (l:List UInt8) (k:Int) (w:World) (hc:Cur w g ao n cap l) (hn:n≤1048576) (t1:(k==1)=false) (t2:(k==2)=false) (t3:(k==3)=false) (t8:(k==8)=false) (t9:(k==9)=false) (t10:(k==10)=false) (t4:(k==4)=false) (t5:(k==5)=true) (t6:(k==6)=false) (t7:(k==7)=false) (t11:(k==11)=false) :
  Calls Tryz.prog 109 #[.pointer (some ⟨g,0,none⟩),.int .i64 k] w fun e w'=>∃p d,(pv p d).ok=true∧e=.returned (.agg (Pk.cells p))∧POwn w' w.heap.size p d∧Pgd 64 p d∧Cur w' g ao n cap l∧w.grownBy w' (some g):=by
 have s:=qhz g ao n cap l k w hc;have V:=qks k;clear hc;go_enter Tryz.func109,Tryz.ntmps109
 go_upto_region 2 with (first | refine var_pk (p:=ofT k) rfl rfl ?_ | refine al_pk ?_ | (refine bu_pk (ofT k) (by kernel_rfl) ?_) | fail)
 change Code.wp _ _ _ Fq164 _;unfold Fq164;simp only[World.size_alloc];go_wp2_with fail
 refine (qag g ao n cap l 4 _ s.cur hn (by omega) (by omega)).mono ?_;rintro e y26_ ⟨x,hx0,hx1,rfl,hc_,hg_⟩;replace s:=s.draw hc_ hg_;clear hc_ hg_;have c4:=(s.blk.cell 4).trans (Pk.c4 _);have z4:=Lib.frozen_of_heap s.blk 4;obtain⟨p,d,s,V⟩:=qbs (s.s4 (1+x)) (congrArg (fun v:Pv=>{ v with id:=(1+x) }) V);go_wp2_with (first | refine load_pk s.blk rfl _ rfl rfl ?_ | (refine qac (q:=p) (old:=Pk.zero) s.res rfl rfl ?_;intro w9 B9 g9) | fail)
 exact qaf rfl rfl B9 rfl ⟨p,d,(congrArg Pv.ok V).trans (ok_id (by simp at t5;omega) hx0 hx1),rfl,s.done g9⟩
theorem l5k_id6 (g:Nat) (ao:Option Addr) (n cap:Nat) (l:List UInt8) (k:Int) (w:World) (hc:Cur w g ao n cap l) (hn:n≤1048576) (t1:(k==1)=false) (t2:(k==2)=false) (t3:(k==3)=false) (t8:(k==8)=false) (t9:(k==9)=false) (t10:(k==10)=false) (t4:(k==4)=false) (t5:(k==5)=false) (t6:(k==6)=true) (t7:(k==7)=false) (t11:(k==11)=false) :
  Calls Tryz.prog 109 #[.pointer (some ⟨g,0,none⟩),.int .i64 k] w fun e w'=>∃p d,(pv p d).ok=true∧e=.returned (.agg (Pk.cells p))∧POwn w' w.heap.size p d∧Pgd 64 p d∧Cur w' g ao n cap l∧w.grownBy w' (some g):=by
 have s:=qhz g ao n cap l k w hc;have V:=qks k;clear hc;go_enter Tryz.func109,Tryz.ntmps109
 go_upto_region 2 with (first | refine var_pk (p:=ofT k) rfl rfl ?_ | refine al_pk ?_ | (refine bu_pk (ofT k) (by kernel_rfl) ?_) | fail)
 change Code.wp _ _ _ Fq164 _;unfold Fq164;simp only[World.size_alloc];go_wp2_with fail
 refine (qag g ao n cap l 4 _ s.cur hn (by omega) (by omega)).mono ?_;rintro e y27_ ⟨x,hx0,hx1,rfl,hc_,hg_⟩;replace s:=s.draw hc_ hg_;clear hc_ hg_;have c4:=(s.blk.cell 4).trans (Pk.c4 _);have z4:=Lib.frozen_of_heap s.blk 4;obtain⟨p,d,s,V⟩:=qbs (s.s4 (1+x)) (congrArg (fun v:Pv=>{ v with id:=(1+x) }) V);go_wp2_with (first | refine load_pk s.blk rfl _ rfl rfl ?_ | (refine qac (q:=p) (old:=Pk.zero) s.res rfl rfl ?_;intro w9 B9 g9) | fail)
 exact qaf rfl rfl B9 rfl ⟨p,d,(congrArg Pv.ok V).trans (ok_id (by simp at t6;omega) hx0 hx1),rfl,s.done g9⟩
theorem l5k_id7 (g:Nat) (ao:Option Addr) (n cap:Nat) (l:List UInt8) (k:Int) (w:World) (hc:Cur w g ao n cap l) (hn:n≤1048576) (t1:(k==1)=false) (t2:(k==2)=false) (t3:(k==3)=false) (t8:(k==8)=false) (t9:(k==9)=false) (t10:(k==10)=false) (t4:(k==4)=false) (t5:(k==5)=false) (t6:(k==6)=false) (t7:(k==7)=true) (t11:(k==11)=false) :
  Calls Tryz.prog 109 #[.pointer (some ⟨g,0,none⟩),.int .i64 k] w fun e w'=>∃p d,(pv p d).ok=true∧e=.returned (.agg (Pk.cells p))∧POwn w' w.heap.size p d∧Pgd 64 p d∧Cur w' g ao n cap l∧w.grownBy w' (some g):=by
 have s:=qhz g ao n cap l k w hc;have V:=qks k;clear hc;go_enter Tryz.func109,Tryz.ntmps109
 go_upto_region 2 with (first | refine var_pk (p:=ofT k) rfl rfl ?_ | refine al_pk ?_ | (refine bu_pk (ofT k) (by kernel_rfl) ?_) | fail)
 change Code.wp _ _ _ Fq164 _;unfold Fq164;simp only[World.size_alloc];go_wp2_with fail
 refine (qag g ao n cap l 4 _ s.cur hn (by omega) (by omega)).mono ?_;rintro e y28_ ⟨x,hx0,hx1,rfl,hc_,hg_⟩;replace s:=s.draw hc_ hg_;clear hc_ hg_;have c4:=(s.blk.cell 4).trans (Pk.c4 _);have z4:=Lib.frozen_of_heap s.blk 4;obtain⟨p,d,s,V⟩:=qbs (s.s4 (1+x)) (congrArg (fun v:Pv=>{ v with id:=(1+x) }) V);go_wp2_with (first | refine load_pk s.blk rfl _ rfl rfl ?_ | (refine qac (q:=p) (old:=Pk.zero) s.res rfl rfl ?_;intro w9 B9 g9) | fail)
 exact qaf rfl rfl B9 rfl ⟨p,d,(congrArg Pv.ok V).trans (ok_id (by simp at t7;omega) hx0 hx1),rfl,s.done g9⟩
theorem l5k_id11 (g:Nat) (ao:Option Addr) (n cap:Nat) (l:List UInt8) (k:Int) (w:World) (hc:Cur w g ao n cap l) (hn:n≤1048576) (t1:(k==1)=false) (t2:(k==2)=false) (t3:(k==3)=false) (t8:(k==8)=false) (t9:(k==9)=false) (t10:(k==10)=false) (t4:(k==4)=false) (t5:(k==5)=false) (t6:(k==6)=false) (t7:(k==7)=false) (t11:(k==11)=true) :
  Calls Tryz.prog 109 #[.pointer (some ⟨g,0,none⟩),.int .i64 k] w fun e w'=>∃p d,(pv p d).ok=true∧e=.returned (.agg (Pk.cells p))∧POwn w' w.heap.size p d∧Pgd 64 p d∧Cur w' g ao n cap l∧w.grownBy w' (some g):=by
 have s:=qhz g ao n cap l k w hc;have V:=qks k;clear hc;go_enter Tryz.func109,Tryz.ntmps109
 go_upto_region 2 with (first | refine var_pk (p:=ofT k) rfl rfl ?_ | refine al_pk ?_ | (refine bu_pk (ofT k) (by kernel_rfl) ?_) | fail)
 change Code.wp _ _ _ Fq164 _;unfold Fq164;simp only[World.size_alloc];go_wp2_with fail
 refine (qag g ao n cap l 4 _ s.cur hn (by omega) (by omega)).mono ?_;rintro e y29_ ⟨x,hx0,hx1,rfl,hc_,hg_⟩;replace s:=s.draw hc_ hg_;clear hc_ hg_;have c4:=(s.blk.cell 4).trans (Pk.c4 _);have z4:=Lib.frozen_of_heap s.blk 4;obtain⟨p,d,s,V⟩:=qbs (s.s4 (1+x)) (congrArg (fun v:Pv=>{ v with id:=(1+x) }) V);go_wp2_with (first | refine load_pk s.blk rfl _ rfl rfl ?_ | (refine qac (q:=p) (old:=Pk.zero) s.res rfl rfl ?_;intro w9 B9 g9) | fail)
 exact qaf rfl rfl B9 rfl ⟨p,d,(congrArg Pv.ok V).trans (ok_id (by simp at t11;omega) hx0 hx1),rfl,s.done g9⟩
theorem l5k_no (g:Nat) (ao:Option Addr) (n cap:Nat) (l:List UInt8) (k:Int) (w:World) (hc:Cur w g ao n cap l) (hn:n≤1048576) (t1:(k==1)=false) (t2:(k==2)=false) (t3:(k==3)=false) (t8:(k==8)=false) (t9:(k==9)=false) (t10:(k==10)=false) (t4:(k==4)=false) (t5:(k==5)=false) (t6:(k==6)=false) (t7:(k==7)=false) (t11:(k==11)=false) (h14:k=12∨k=13∨k=14) :
  Calls Tryz.prog 109 #[.pointer (some ⟨g,0,none⟩),.int .i64 k] w fun e w'=>∃p d,(pv p d).ok=true∧e=.returned (.agg (Pk.cells p))∧POwn w' w.heap.size p d∧Pgd 64 p d∧Cur w' g ao n cap l∧w.grownBy w' (some g):=by
 have s:=qhz g ao n cap l k w hc;have V:=qks k;clear hc;go_enter Tryz.func109,Tryz.ntmps109
 go_upto_region 2 with (first | refine var_pk (p:=ofT k) rfl rfl ?_ | refine al_pk ?_ | (refine bu_pk (ofT k) (by kernel_rfl) ?_) | fail)
 change Code.wp _ _ _ Fq164 _;unfold Fq164;simp only[World.size_alloc];go_wp2_with fail
 refine (qag g ao n cap l 4 _ s.cur hn (by omega) (by omega)).mono ?_;rintro e y30_ ⟨x,hx0,hx1,rfl,hc_,hg_⟩;replace s:=s.draw hc_ hg_;clear hc_ hg_;go_wp2_with (first | refine load_pk s.blk rfl _ rfl rfl ?_ | (refine qac (q:=ofT k) (old:=Pk.zero) s.res rfl rfl ?_;intro w9 B9 g9) | fail)
 exact qaf rfl rfl B9 rfl ⟨ofT k,dnil,(congrArg Pv.ok V).trans (ok_no h14),rfl,s.done g9⟩

theorem l5k_ack (g:Nat) (ao:Option Addr) (n cap:Nat) (l:List UInt8) (k:Int) (w:World) (hc:Cur w g ao n cap l) (hn:n≤1048576) (t1:(k==1)=false) (t2:(k==2)=true) (t3:(k==3)=false) (t8:(k==8)=false) (t9:(k==9)=false) (t10:(k==10)=false) (t4:(k==4)=false) (t5:(k==5)=false) (t6:(k==6)=false) (t7:(k==7)=false) (t11:(k==11)=false) :
  Calls Tryz.prog 109 #[.pointer (some ⟨g,0,none⟩),.int .i64 k] w fun e w'=>∃p d,(pv p d).ok=true∧e=.returned (.agg (Pk.cells p))∧POwn w' w.heap.size p d∧Pgd 64 p d∧Cur w' g ao n cap l∧w.grownBy w' (some g):=by
 have s:=qhz g ao n cap l k w hc;have V:=qks k;clear hc;go_enter Tryz.func109,Tryz.ntmps109
 go_upto_region 2 with (first | refine var_pk (p:=ofT k) rfl rfl ?_ | refine al_pk ?_ | (refine bu_pk (ofT k) (by kernel_rfl) ?_) | fail)
 change Code.wp _ _ _ Fq164 _;unfold Fq164;simp only[World.size_alloc];go_wp2_with fail
 refine (qag g ao n cap l 4 _ s.cur hn (by omega) (by omega)).mono ?_;rintro e y15_ ⟨x,hx0,hx1,rfl,hc_,hg_⟩;replace s:=s.draw hc_ hg_;clear hc_ hg_;have sn:=s.new (bel_new _ (.cells (List.map (Value.int .i64) [(0:Int),(0:Int),(0:Int),(1:Int),(2:Int),(5:Int)]).toArray 3));have lts:=s.cur.lt;go_wp2_with fail
 refine (qbd g ao n cap l _ 6 6 [(0:Int),(0:Int),(0:Int),(1:Int),(2:Int),(5:Int)] _ sn.cur hn (by omega) (by omega) rfl (fun i hi=>qez _ [(0:Int),(0:Int),(0:Int),(1:Int),(2:Int),(5:Int)] _ (by simp) i hi) (by (try simp at lts);omega)).mono ?_;rintro e y16_ ⟨cc,hcc,rfl,hc_,hg_⟩;replace s:=sn.draw hc_ hg_;clear hc_ hg_;clear sn lts;have c20:=(s.blk.cell 20).trans (Pk.c20 _);have z20:=Lib.frozen_of_heap s.blk 20;obtain⟨p,d,s,V⟩:=qbs (s.s20 cc) (congrArg (fun v:Pv=>{ v with cod:=cc }) V);have hc5:0≤cc∧cc≤5:=by simp at hcc;omega
 clear hcc
 by_cases h0:cc=0
 ·have e0:(cc==0)=true:=by simpa using h0
  clear h0;have c21:=(s.blk.cell 21).trans (Pk.c21 _);go_wp2_with fail
  refine (qax g ao n cap l 2 _ s.cur hn (by omega) (by omega)).mono ?_;rintro e y17_ ⟨bb,rfl,hc_,hg_⟩;replace s:=s.draw hc_ hg_;clear hc_ hg_;have c21:=(s.blk.cell 21).trans (Pk.c21 _);have z21:=Lib.frozen_of_heap s.blk 21;obtain⟨p,d,s,V⟩:=qbs (s.s21 bb) (congrArg (fun v:Pv=>{ v with pre:=bb }) V);go_wp2_with (first | refine load_pk s.blk rfl _ rfl rfl ?_ | (refine qac (q:=p) (old:=Pk.zero) s.res rfl rfl ?_;intro w9 B9 g9) | fail)
  exact qaf rfl rfl B9 rfl ⟨p,d,(congrArg Pv.ok V).trans ((by obtain rfl:k=2:=(by simpa using t2);exact ok_cack hc5 (fun _=>(by simpa using e0)))),rfl,s.done g9⟩
 ·have e0:(cc==0)=false:=by simpa using h0
  clear h0;have c21:=(s.blk.cell 21).trans (Pk.c21 _);have z21:=Lib.frozen_of_heap s.blk 21;obtain⟨p,d,s,V⟩:=qbs (s.s21 false) (congrArg (fun v:Pv=>{ v with pre:=false }) V);go_wp2_with (first | refine load_pk s.blk rfl _ rfl rfl ?_ | (refine qac (q:=p) (old:=Pk.zero) s.res rfl rfl ?_;intro w9 B9 g9) | fail)
  exact qaf rfl rfl B9 rfl ⟨p,d,(congrArg Pv.ok V).trans ((by obtain rfl:k=2:=(by simpa using t2);exact ok_cack hc5 (fun h=>(by cases h)))),rfl,s.done g9⟩

theorem l5k_pub (g:Nat) (ao:Option Addr) (n cap:Nat) (l:List UInt8) (k:Int) (w:World) (hc:Cur w g ao n cap l) (hn:n≤1048576) (t1:(k==1)=false) (t2:(k==2)=false) (t3:(k==3)=true) (t8:(k==8)=false) (t9:(k==9)=false) (t10:(k==10)=false) (t4:(k==4)=false) (t5:(k==5)=false) (t6:(k==6)=false) (t7:(k==7)=false) (t11:(k==11)=false) :
  Calls Tryz.prog 109 #[.pointer (some ⟨g,0,none⟩),.int .i64 k] w fun e w'=>∃p d,(pv p d).ok=true∧e=.returned (.agg (Pk.cells p))∧POwn w' w.heap.size p d∧Pgd 64 p d∧Cur w' g ao n cap l∧w.grownBy w' (some g):=by
 have s:=qhz g ao n cap l k w hc;have V:=qks k;clear hc;go_enter Tryz.func109,Tryz.ntmps109
 go_upto_region 2 with (first | refine var_pk (p:=ofT k) rfl rfl ?_ | refine al_pk ?_ | (refine bu_pk (ofT k) (by kernel_rfl) ?_) | fail)
 change Code.wp _ _ _ Fq164 _;unfold Fq164;simp only[World.size_alloc];go_wp2_with fail
 refine (qag g ao n cap l 4 _ s.cur hn (by omega) (by omega)).mono ?_;rintro e y18_ ⟨x,hx0,hx1,rfl,hc_,hg_⟩;replace s:=s.draw hc_ hg_;clear hc_ hg_;go_wp2_with fail
 refine (qag g ao n cap l 3 _ s.cur hn (by omega) (by omega)).mono ?_;rintro e y19_ ⟨q,hq0,hq1,rfl,hc_,hg_⟩;replace s:=s.draw hc_ hg_;clear hc_ hg_;have c2:=(s.blk.cell 2).trans (Pk.c2 _);have z2:=Lib.frozen_of_heap s.blk 2;obtain⟨p,d,s,V⟩:=qbs (s.s2 q) (congrArg (fun v:Pv=>{ v with qos:=q }) V);go_wp2_with fail
 refine (qax g ao n cap l 4 _ s.cur hn (by omega) (by omega)).mono ?_;rintro e y20_ ⟨br,rfl,hc_,hg_⟩;replace s:=s.draw hc_ hg_;clear hc_ hg_;have c3:=(s.blk.cell 3).trans (Pk.c3 _);have z3:=Lib.frozen_of_heap s.blk 3;obtain⟨p,d,s,V⟩:=qbs (s.s3 br) (congrArg (fun v:Pv=>{ v with ret:=br }) V);go_wp2_with fail
 refine (qhq g ao n cap l _ s.cur hn).mono ?_;rintro e y21_ ⟨tt,htt,htp,htf,rfl,hc_,hg_⟩;replace s:=s.draw hc_ hg_;clear hc_ hg_;have c5:=(s.blk.cell 5).trans (Pk.c5 _);have z5:=Lib.frozen_of_heap s.blk 5;obtain⟨p,d,s,V⟩:=qbs (s.s5 tt htt) (congrArg (fun v:Pv=>{ v with top:=tt }) V);have sn:=s.new (bel_new _ (.cells (List.map (Value.int .i64) [(0:Int),(1:Int),(2:Int),(40:Int)]).toArray 3));have lts:=s.cur.lt;go_wp2_with fail
 refine (qbd g ao n cap l _ 4 4 [(0:Int),(1:Int),(2:Int),(40:Int)] _ sn.cur hn (by omega) (by omega) rfl (fun i hi=>qez _ [(0:Int),(1:Int),(2:Int),(40:Int)] _ (by simp) i hi) (by (try simp at lts);omega)).mono ?_;rintro e y22_ ⟨mm,hmm,rfl,hc_,hg_⟩;replace s:=sn.draw hc_ hg_;clear hc_ hg_;clear sn lts;have hmm2:0≤mm∧mm≤40:=by simp at hmm;omega
 obtain⟨m,rfl⟩:=Int.eq_ofNat_of_zero_le hmm2.1;go_wp2_with fail
 refine (qcb g ao n cap l m _ s.cur hn (by omega)).mono ?_;rintro e y23_ ⟨ba,bc,bx,rfl,hb_,hc_,hg_⟩;have s2_:=s.draw hc_ hg_;have c6:=(s2_.blk.cell 6).trans (Pk.c6 _);have z6:=Lib.frozen_of_heap s2_.blk 6;have hbl_:=hb_.1;obtain⟨p,d,s,V⟩:=qbs (s.n6 hc_ hg_ hb_ (by omega)) (congrArg (fun v:Pv=>{ v with bod:=bx }) V);clear hc_ hg_ hb_ s2_;have c2:=(s.blk.cell 2).trans (Pk.c2 _);have eq:p.qos=q:=congrArg Pv.qos V
 by_cases h0:0<p.qos
 ·have hq3:0<q:=by omega
  have c4:=(s.blk.cell 4).trans (Pk.c4 _);have z4:=Lib.frozen_of_heap s.blk 4;obtain⟨p,d,s,V⟩:=qbs (s.s4 (1+x)) (congrArg (fun v:Pv=>{ v with id:=(1+x) }) V);go_wp2_with fail
  refine (qax g ao n cap l 4 _ s.cur hn (by omega) (by omega)).mono ?_;rintro e y24_ ⟨bd,rfl,hc_,hg_⟩;replace s:=s.draw hc_ hg_;clear hc_ hg_;have c1:=(s.blk.cell 1).trans (Pk.c1 _);have z1:=Lib.frozen_of_heap s.blk 1;obtain⟨p,d,s,V⟩:=qbs (s.s1 bd) (congrArg (fun v:Pv=>{ v with dup:=bd }) V);go_wp2_with (first | refine load_pk s.blk rfl _ rfl rfl ?_ | (refine qac (q:=p) (old:=Pk.zero) s.res rfl rfl ?_;intro w9 B9 g9) | fail)
  exact qaf rfl rfl B9 rfl ⟨p,d,(congrArg Pv.ok V).trans ((by obtain rfl:k=3:=(by simpa using t3);exact ok_pub htp (by omega) hq3 hq1 hx0 hx1)),rfl,s.done g9⟩
 ·go_wp2_with (first | refine load_pk s.blk rfl _ rfl rfl ?_ | (refine qac (q:=p) (old:=Pk.zero) s.res rfl rfl ?_;intro w9 B9 g9) | fail)
  exact qaf rfl rfl B9 rfl ⟨p,d,(congrArg Pv.ok V).trans ((by obtain rfl:k=3:=(by simpa using t3);obtain rfl:q=0:=(by have:=eq;omega);exact ok_pub0 htp (by omega))),rfl,s.done g9⟩

theorem qqg {cl wt us:ByteArray} {cln hw hu hp wr:Bool} {kee wq:Int} {wb pa:List UInt8} (hcl:txt cl=true) (hk:0≤kee∧kee≤65535) (w1:hw=false→wt=ByteArray.empty∧wb = []∧wq=0∧wr=false) (w2:hw=true→tpc wt=true∧wb.length≤40∧0≤wq∧wq≤2)
  (u1:hu=false→us=ByteArray.empty∧hp=false∧pa = []) (u2:hp=false→pa = []) (hus:txt us=true) (hpa:pa.length≤60):({ Pv.zero with ty:=1,lev:=4,cli:=cl,cln:=cln,kee:=kee,hw:=hw,wt:=wt,wb:=wb,wq:=wq,wr:=wr,hu:=hu,us:=us,hp:=hp,pa:=pa } : Pv).ok=true:=by
 have e1:=qeh hk.1 hk.2;cases hw with
 |false=>
  obtain⟨rfl,rfl,rfl,rfl⟩:=w1 rfl;cases hu with
  |false=>
   obtain⟨rfl,rfl,rfl⟩:=u1 rfl;simp[Pv.ok,Pv.named,Pv.body,Pv.zero,inB,hcl,hk,hus]
  |true=>
   cases hp with
   |false=>
    obtain rfl:=u2 rfl;simp[Pv.ok,Pv.named,Pv.body,Pv.zero,inB,hcl,hk,hus]
   |true=>simp[Pv.ok,Pv.named,Pv.body,Pv.zero,inB,hcl,hk,hus,hpa]
 |true=>
  obtain⟨a1,a2,a3,a4⟩:=w2 rfl;cases hu with
  |false=>
   obtain⟨rfl,rfl,rfl⟩:=u1 rfl;simp[Pv.ok,Pv.named,Pv.body,Pv.zero,inB,hcl,hk,hus,a1,a2,a3,a4]
  |true=>
   cases hp with
   |false=>
    obtain rfl:=u2 rfl;simp[Pv.ok,Pv.named,Pv.body,Pv.zero,inB,hcl,hk,hus,a1,a2,a3,a4]
   |true=>simp[Pv.ok,Pv.named,Pv.body,Pv.zero,inB,hcl,hk,hus,hpa,a1,a2,a3,a4]
theorem l5k_con (g:Nat) (ao:Option Addr) (n cap:Nat) (l:List UInt8) (k:Int) (w:World) (hc:Cur w g ao n cap l) (hn:n≤1048576) (t1:(k==1)=true) (t2:(k==2)=false) (t3:(k==3)=false) (t8:(k==8)=false) (t9:(k==9)=false) (t10:(k==10)=false) (t4:(k==4)=false) (t5:(k==5)=false) (t6:(k==6)=false) (t7:(k==7)=false) (t11:(k==11)=false) :
  Calls Tryz.prog 109 #[.pointer (some ⟨g,0,none⟩),.int .i64 k] w fun e w'=>∃p d,(pv p d).ok=true∧e=.returned (.agg (Pk.cells p))∧POwn w' w.heap.size p d∧Pgd 64 p d∧Cur w' g ao n cap l∧w.grownBy w' (some g):=by
 have s:=qhz g ao n cap l k w hc;have V:=qks k;clear hc;go_enter Tryz.func109,Tryz.ntmps109
 go_upto_region 2 with (first | refine var_pk (p:=ofT k) rfl rfl ?_ | refine al_pk ?_ | (refine bu_pk (ofT k) (by kernel_rfl) ?_) | fail)
 change Code.wp _ _ _ Fq164 _;unfold Fq164;simp only[World.size_alloc];go_wp2_with fail
 refine (qag g ao n cap l 4 _ s.cur hn (by omega) (by omega)).mono ?_;rintro e y10_ ⟨x,hx0,hx1,rfl,hc_,hg_⟩;replace s:=s.draw hc_ hg_;clear hc_ hg_;have c8:=(s.blk.cell 8).trans (Pk.c8 _);have z8:=Lib.frozen_of_heap s.blk 8;obtain⟨p,d,s,V⟩:=qbs (s.s8 4) (congrArg (fun v:Pv=>{ v with lev:=4 }) V);go_wp2_with fail
 refine (qsp g ao n cap l _ s.cur hn).mono ?_;rintro e y11_ ⟨nm,hnm,htn,rfl,hc_,hg_⟩;replace s:=s.draw hc_ hg_;clear hc_ hg_;have c7:=(s.blk.cell 7).trans (Pk.c7 _);have z7:=Lib.frozen_of_heap s.blk 7;obtain⟨p,d,s,V⟩:=qbs (s.s7 nm hnm) (congrArg (fun v:Pv=>{ v with cli:=nm }) V);go_wp2_with fail
 refine (qax g ao n cap l 2 _ s.cur hn (by omega) (by omega)).mono ?_;rintro e y12_ ⟨bc_,rfl,hc_,hg_⟩;replace s:=s.draw hc_ hg_;clear hc_ hg_;have c9:=(s.blk.cell 9).trans (Pk.c9 _);have z9:=Lib.frozen_of_heap s.blk 9;obtain⟨p,d,s,V⟩:=qbs (s.s9 bc_) (congrArg (fun v:Pv=>{ v with cln:=bc_ }) V);have sn:=s.new (bel_new _ (.cells (List.map (Value.int .i64) [(0:Int),(0:Int),(2:Int),(10:Int),(65535:Int)]).toArray 3));have lts:=s.cur.lt;go_wp2_with fail
 refine (qbd g ao n cap l _ 5 5 [(0:Int),(0:Int),(2:Int),(10:Int),(65535:Int)] _ sn.cur hn (by omega) (by omega) rfl (fun i hi=>qez _ [(0:Int),(0:Int),(2:Int),(10:Int),(65535:Int)] _ (by simp) i hi) (by (try simp at lts);omega)).mono ?_;rintro e y13_ ⟨kk,hkk,rfl,hc_,hg_⟩;have hk5:0≤kk∧kk≤65535:=by simp at hkk;omega
 replace s:=sn.draw hc_ hg_;clear hc_ hg_;clear sn lts;have c10:=(s.blk.cell 10).trans (Pk.c10 _);have z10:=Lib.frozen_of_heap s.blk 10;obtain⟨p,d,s,V⟩:=qbs (s.s10 kk) (congrArg (fun v:Pv=>{ v with kee:=kk }) V);go_wp2_with fail
 refine (qax g ao n cap l 2 _ s.cur hn (by omega) (by omega)).mono ?_;rintro e y14_ ⟨bw,rfl,hc_,hg_⟩;replace s:=s.draw hc_ hg_;clear hc_ hg_;cases bw with
 |false=>
  as_aux_lemma=>
   go_wp2_with fail
   refine (qax g ao n cap l 4 _ s.cur hn (by omega) (by omega)).mono ?_;rintro e y3_ ⟨bu,rfl,hc_,hg_⟩;replace s:=s.draw hc_ hg_;clear hc_ hg_;cases bu with
   |false=>
    as_aux_lemma=>
     go_wp2_with (first | refine load_pk s.blk rfl _ rfl rfl ?_ | (refine qac (q:=p) (old:=Pk.zero) s.res rfl rfl ?_;intro w9 B9 g9) | fail)
     exact qaf rfl rfl B9 rfl ⟨p,d,(congrArg Pv.ok V).trans ((by obtain rfl:k=1:=(by simpa using t1);exact qqg htn hk5 (by intro h;first | exact⟨rfl,rfl,rfl,rfl⟩ | cases h) (by intro h;first | (cases h;done) | exact⟨hwtp,by omega,by omega,by omega⟩) (by intro h;first | exact⟨rfl,rfl,rfl⟩ | cases h) (by intro h;first | rfl | cases h) (by decide +kernel) (by first | omega | exact Nat.zero_le _))),rfl,s.done g9⟩
   |true=>
    as_aux_lemma=>
     have c16:=(s.blk.cell 16).trans (Pk.c16 _);have z16:=Lib.frozen_of_heap s.blk 16;obtain⟨p,d,s,V⟩:=qbs (s.s16 true) (congrArg (fun v:Pv=>{ v with hu:=true }) V);have c17:=(s.blk.cell 17).trans (Pk.c17 _);have z17:=Lib.frozen_of_heap s.blk 17;obtain⟨p,d,s,V⟩:=qbs (s.s17 ⟨#[117]⟩ (by decide)) (congrArg (fun v:Pv=>{ v with us:=⟨#[117]⟩ }) V);go_wp2_with fail
     refine (qax g ao n cap l 2 _ s.cur hn (by omega) (by omega)).mono ?_;rintro e y4_ ⟨bp,rfl,hc_,hg_⟩;replace s:=s.draw hc_ hg_;clear hc_ hg_;cases bp with
     |false=>
      as_aux_lemma=>
       go_wp2_with (first | refine load_pk s.blk rfl _ rfl rfl ?_ | (refine qac (q:=p) (old:=Pk.zero) s.res rfl rfl ?_;intro w9 B9 g9) | fail)
       exact qaf rfl rfl B9 rfl ⟨p,d,(congrArg Pv.ok V).trans ((by obtain rfl:k=1:=(by simpa using t1);exact qqg htn hk5 (by intro h;first | exact⟨rfl,rfl,rfl,rfl⟩ | cases h) (by intro h;first | (cases h;done) | exact⟨hwtp,by omega,by omega,by omega⟩) (by intro h;first | exact⟨rfl,rfl,rfl⟩ | cases h) (by intro h;first | rfl | cases h) (by decide +kernel) (by first | omega | exact Nat.zero_le _))),rfl,s.done g9⟩
     |true=>
      as_aux_lemma=>
       have c18:=(s.blk.cell 18).trans (Pk.c18 _);have z18:=Lib.frozen_of_heap s.blk 18;obtain⟨p,d,s,V⟩:=qbs (s.s18 true) (congrArg (fun v:Pv=>{ v with hp:=true }) V);go_wp2_with fail
       refine (qag g ao n cap l 3 _ s.cur hn (by omega) (by omega)).mono ?_;rintro e y1_ ⟨x2,hx20,hx21,rfl,hc_,hg_⟩;replace s:=s.draw hc_ hg_;clear hc_ hg_;obtain⟨m,rfl⟩:=Int.eq_ofNat_of_zero_le hx20;go_wp2_with fail
       refine (qcb g ao n cap l m _ s.cur hn (by omega)).mono ?_;rintro e y2_ ⟨ba,bc,bx,rfl,hb_,hc_,hg_⟩;have s2_:=s.draw hc_ hg_;have c19:=(s2_.blk.cell 19).trans (Pk.c19 _);have z19:=Lib.frozen_of_heap s2_.blk 19;have hbl19:=hb_.1;obtain⟨p,d,s,V⟩:=qbs (s.n19 hc_ hg_ hb_ (by omega)) (congrArg (fun v:Pv=>{ v with pa:=bx }) V);clear hc_ hg_ hb_ s2_;go_wp2_with (first | refine load_pk s.blk rfl _ rfl rfl ?_ | (refine qac (q:=p) (old:=Pk.zero) s.res rfl rfl ?_;intro w9 B9 g9) | fail)
       exact qaf rfl rfl B9 rfl ⟨p,d,(congrArg Pv.ok V).trans ((by obtain rfl:k=1:=(by simpa using t1);exact qqg htn hk5 (by intro h;first | exact⟨rfl,rfl,rfl,rfl⟩ | cases h) (by intro h;first | (cases h;done) | exact⟨hwtp,by omega,by omega,by omega⟩) (by intro h;first | exact⟨rfl,rfl,rfl⟩ | cases h) (by intro h;first | rfl | cases h) (by decide +kernel) (by first | omega | exact Nat.zero_le _))),rfl,s.done g9⟩
 |true=>
  as_aux_lemma=>
   have c11:=(s.blk.cell 11).trans (Pk.c11 _);have z11:=Lib.frozen_of_heap s.blk 11;obtain⟨p,d,s,V⟩:=qbs (s.s11 true) (congrArg (fun v:Pv=>{ v with hw:=true }) V);go_wp2_with fail
   refine (qhq g ao n cap l _ s.cur hn).mono ?_;rintro e y5_ ⟨wt,hwt,hwtp,hwtf,rfl,hc_,hg_⟩;replace s:=s.draw hc_ hg_;clear hc_ hg_;have c12:=(s.blk.cell 12).trans (Pk.c12 _);have z12:=Lib.frozen_of_heap s.blk 12;obtain⟨p,d,s,V⟩:=qbs (s.s12 wt hwt) (congrArg (fun v:Pv=>{ v with wt:=wt }) V);go_wp2_with fail
   refine (qag g ao n cap l 4 _ s.cur hn (by omega) (by omega)).mono ?_;rintro e y6_ ⟨x3,hx30,hx31,rfl,hc_,hg_⟩;replace s:=s.draw hc_ hg_;clear hc_ hg_;obtain⟨m,rfl⟩:=Int.eq_ofNat_of_zero_le hx30;go_wp2_with fail
   refine (qcb g ao n cap l m _ s.cur hn (by omega)).mono ?_;rintro e y7_ ⟨ba,bc,bx,rfl,hb_,hc_,hg_⟩;have s2_:=s.draw hc_ hg_;have c13:=(s2_.blk.cell 13).trans (Pk.c13 _);have z13:=Lib.frozen_of_heap s2_.blk 13;have hbl13:=hb_.1;obtain⟨p,d,s,V⟩:=qbs (s.n13 hc_ hg_ hb_ (by omega)) (congrArg (fun v:Pv=>{ v with wb:=bx }) V);clear hc_ hg_ hb_ s2_;go_wp2_with fail
   refine (qag g ao n cap l 3 _ s.cur hn (by omega) (by omega)).mono ?_;rintro e y8_ ⟨q,hq0,hq1,rfl,hc_,hg_⟩;replace s:=s.draw hc_ hg_;clear hc_ hg_;have c14:=(s.blk.cell 14).trans (Pk.c14 _);have z14:=Lib.frozen_of_heap s.blk 14;obtain⟨p,d,s,V⟩:=qbs (s.s14 q) (congrArg (fun v:Pv=>{ v with wq:=q }) V);go_wp2_with fail
   refine (qax g ao n cap l 3 _ s.cur hn (by omega) (by omega)).mono ?_;rintro e y9_ ⟨br,rfl,hc_,hg_⟩;replace s:=s.draw hc_ hg_;clear hc_ hg_;have c15:=(s.blk.cell 15).trans (Pk.c15 _);have z15:=Lib.frozen_of_heap s.blk 15;obtain⟨p,d,s,V⟩:=qbs (s.s15 br) (congrArg (fun v:Pv=>{ v with wr:=br }) V);go_wp2_with fail
   refine (qax g ao n cap l 4 _ s.cur hn (by omega) (by omega)).mono ?_;rintro e y3_ ⟨bu,rfl,hc_,hg_⟩;replace s:=s.draw hc_ hg_;clear hc_ hg_;cases bu with
   |false=>
    as_aux_lemma=>
     go_wp2_with (first | refine load_pk s.blk rfl _ rfl rfl ?_ | (refine qac (q:=p) (old:=Pk.zero) s.res rfl rfl ?_;intro w9 B9 g9) | fail)
     exact qaf rfl rfl B9 rfl ⟨p,d,(congrArg Pv.ok V).trans ((by obtain rfl:k=1:=(by simpa using t1);exact qqg htn hk5 (by intro h;first | exact⟨rfl,rfl,rfl,rfl⟩ | cases h) (by intro h;first | (cases h;done) | exact⟨hwtp,by omega,by omega,by omega⟩) (by intro h;first | exact⟨rfl,rfl,rfl⟩ | cases h) (by intro h;first | rfl | cases h) (by decide +kernel) (by first | omega | exact Nat.zero_le _))),rfl,s.done g9⟩
   |true=>
    as_aux_lemma=>
     have c16:=(s.blk.cell 16).trans (Pk.c16 _);have z16:=Lib.frozen_of_heap s.blk 16;obtain⟨p,d,s,V⟩:=qbs (s.s16 true) (congrArg (fun v:Pv=>{ v with hu:=true }) V);have c17:=(s.blk.cell 17).trans (Pk.c17 _);have z17:=Lib.frozen_of_heap s.blk 17;obtain⟨p,d,s,V⟩:=qbs (s.s17 ⟨#[117]⟩ (by decide)) (congrArg (fun v:Pv=>{ v with us:=⟨#[117]⟩ }) V);go_wp2_with fail
     refine (qax g ao n cap l 2 _ s.cur hn (by omega) (by omega)).mono ?_;rintro e y4_ ⟨bp,rfl,hc_,hg_⟩;replace s:=s.draw hc_ hg_;clear hc_ hg_;cases bp with
     |false=>
      as_aux_lemma=>
       go_wp2_with (first | refine load_pk s.blk rfl _ rfl rfl ?_ | (refine qac (q:=p) (old:=Pk.zero) s.res rfl rfl ?_;intro w9 B9 g9) | fail)
       exact qaf rfl rfl B9 rfl ⟨p,d,(congrArg Pv.ok V).trans ((by obtain rfl:k=1:=(by simpa using t1);exact qqg htn hk5 (by intro h;first | exact⟨rfl,rfl,rfl,rfl⟩ | cases h) (by intro h;first | (cases h;done) | exact⟨hwtp,by omega,by omega,by omega⟩) (by intro h;first | exact⟨rfl,rfl,rfl⟩ | cases h) (by intro h;first | rfl | cases h) (by decide +kernel) (by first | omega | exact Nat.zero_le _))),rfl,s.done g9⟩
     |true=>
      as_aux_lemma=>
       have c18:=(s.blk.cell 18).trans (Pk.c18 _);have z18:=Lib.frozen_of_heap s.blk 18;obtain⟨p,d,s,V⟩:=qbs (s.s18 true) (congrArg (fun v:Pv=>{ v with hp:=true }) V);go_wp2_with fail
       refine (qag g ao n cap l 3 _ s.cur hn (by omega) (by omega)).mono ?_;rintro e y1_ ⟨x2,hx20,hx21,rfl,hc_,hg_⟩;replace s:=s.draw hc_ hg_;clear hc_ hg_;obtain⟨m,rfl⟩:=Int.eq_ofNat_of_zero_le hx20;go_wp2_with fail
       refine (qcb g ao n cap l m _ s.cur hn (by omega)).mono ?_;rintro e y2_ ⟨ba,bc,bx,rfl,hb_,hc_,hg_⟩;have s2_:=s.draw hc_ hg_;have c19:=(s2_.blk.cell 19).trans (Pk.c19 _);have z19:=Lib.frozen_of_heap s2_.blk 19;have hbl19:=hb_.1;obtain⟨p,d,s,V⟩:=qbs (s.n19 hc_ hg_ hb_ (by omega)) (congrArg (fun v:Pv=>{ v with pa:=bx }) V);clear hc_ hg_ hb_ s2_;go_wp2_with (first | refine load_pk s.blk rfl _ rfl rfl ?_ | (refine qac (q:=p) (old:=Pk.zero) s.res rfl rfl ?_;intro w9 B9 g9) | fail)
       exact qaf rfl rfl B9 rfl ⟨p,d,(congrArg Pv.ok V).trans ((by obtain rfl:k=1:=(by simpa using t1);exact qqg htn hk5 (by intro h;first | exact⟨rfl,rfl,rfl,rfl⟩ | cases h) (by intro h;first | (cases h;done) | exact⟨hwtp,by omega,by omega,by omega⟩) (by intro h;first | exact⟨rfl,rfl,rfl⟩ | cases h) (by intro h;first | rfl | cases h) (by decide +kernel) (by first | omega | exact Nat.zero_le _))),rfl,s.done g9⟩
