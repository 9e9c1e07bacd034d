/- Lemmas. -/
import Derived.Test.YtobgmpaalnpdcaaGreatDoorV20
import Derived.Test.YtobgmpaalnpdcaaGreatDoorV35
set_option linter.unusedVariables false
set_option linter.unusedSimpArgs false
set_option maxRecDepth 100000
set_option maxHeartbeats 20000000
namespace Go.Proofs.YtobgmpaalnpdcaaGreatDoor
open Go.RowKit

abbrev followN : String := "loop.example/g00480/impl.follow"
theorem qgo (v:Value) (w:World):Calls Tryz.prog 65 #[.iface 124 v] w fun e w'=>e=.returned (.int .u8 16)∧Below w.heap.size w w':=by
 go_enter Tryz.func65,Tryz.ntmps65;go_wp2_with fail
 refine (qib v _).mono ?_;rintro e y ⟨rfl,hy⟩;rw[hy];go_wp2_with fail
 refine (qoc v _).mono ?_;rintro e y2 ⟨rfl,hy2⟩;rw[hy2];go_wp2;go_ret;exact⟨rfl,Below.refl _ _⟩
theorem qgn (v:Value) (w:World):Calls Tryz.prog 65 #[.iface 127 v] w fun e w'=>e=.returned (.int .u8 32)∧Below w.heap.size w w':=by
 go_enter Tryz.func65,Tryz.ntmps65;go_wp2_with fail
 refine (qia v _).mono ?_;rintro e y ⟨rfl,hy⟩;rw[hy];go_wp2_with fail
 refine (qob v _).mono ?_;rintro e y2 ⟨rfl,hy2⟩;rw[hy2];go_wp2;go_ret;exact⟨rfl,Below.refl _ _⟩
theorem qhr (v:Value) (w:World):Calls Tryz.prog 65 #[.iface 134 v] w fun e w'=>e=.returned (.int .u8 64)∧Below w.heap.size w w':=by
 go_enter Tryz.func65,Tryz.ntmps65;go_wp2_with fail
 refine (qiu v _).mono ?_;rintro e y ⟨rfl,hy⟩;rw[hy];go_wp2_with fail
 refine (qpq v _).mono ?_;rintro e y2 ⟨rfl,hy2⟩;rw[hy2];go_wp2;go_ret;exact⟨rfl,Below.refl _ _⟩
theorem qhs (v:Value) (w:World):Calls Tryz.prog 65 #[.iface 135 v] w fun e w'=>e=.returned (.int .u8 80)∧Below w.heap.size w w':=by
 go_enter Tryz.func65,Tryz.ntmps65;go_wp2_with fail
 refine (qiv v _).mono ?_;rintro e y ⟨rfl,hy⟩;rw[hy];go_wp2_with fail
 refine (qpr v _).mono ?_;rintro e y2 ⟨rfl,hy2⟩;rw[hy2];go_wp2;go_ret;exact⟨rfl,Below.refl _ _⟩
theorem qht (v:Value) (w:World):Calls Tryz.prog 65 #[.iface 136 v] w fun e w'=>e=.returned (.int .u8 98)∧Below w.heap.size w w':=by
 go_enter Tryz.func65,Tryz.ntmps65;go_wp2_with fail
 refine (qiw v _).mono ?_;rintro e y ⟨rfl,hy⟩;rw[hy];go_wp2_with fail
 refine (qps v _).mono ?_;rintro e y2 ⟨rfl,hy2⟩;rw[hy2];go_wp2;go_ret;exact⟨rfl,Below.refl _ _⟩
theorem qgq (v:Value) (w:World):Calls Tryz.prog 65 #[.iface 137 v] w fun e w'=>e=.returned (.int .u8 112)∧Below w.heap.size w w':=by
 go_enter Tryz.func65,Tryz.ntmps65;go_wp2_with fail
 refine (qid v _).mono ?_;rintro e y ⟨rfl,hy⟩;rw[hy];go_wp2_with fail
 refine (qoe v _).mono ?_;rintro e y2 ⟨rfl,hy2⟩;rw[hy2];go_wp2;go_ret;exact⟨rfl,Below.refl _ _⟩
theorem qfl (v:Value) (w:World):Calls Tryz.prog 65 #[.iface 139 v] w fun e w'=>e=.returned (.int .u8 130)∧Below w.heap.size w w':=by
 go_enter Tryz.func65,Tryz.ntmps65;go_wp2_with fail
 refine (qgd v _).mono ?_;rintro e y ⟨rfl,hy⟩;rw[hy];go_wp2_with fail
 refine (qll v _).mono ?_;rintro e y2 ⟨rfl,hy2⟩;rw[hy2];go_wp2;go_ret;exact⟨rfl,Below.refl _ _⟩
theorem qhu (v:Value) (w:World):Calls Tryz.prog 65 #[.iface 141 v] w fun e w'=>e=.returned (.int .u8 144)∧Below w.heap.size w w':=by
 go_enter Tryz.func65,Tryz.ntmps65;go_wp2_with fail
 refine (qix v _).mono ?_;rintro e y ⟨rfl,hy⟩;rw[hy];go_wp2_with fail
 refine (qpt v _).mono ?_;rintro e y2 ⟨rfl,hy2⟩;rw[hy2];go_wp2;go_ret;exact⟨rfl,Below.refl _ _⟩
theorem qer (v:Value) (w:World):Calls Tryz.prog 65 #[.iface 143 v] w fun e w'=>e=.returned (.int .u8 162)∧Below w.heap.size w w':=by
 go_enter Tryz.func65,Tryz.ntmps65;go_wp2_with fail
 refine (qfh v _).mono ?_;rintro e y ⟨rfl,hy⟩;rw[hy];go_wp2_with fail
 refine (qju v _).mono ?_;rintro e y2 ⟨rfl,hy2⟩;rw[hy2];go_wp2;go_ret;exact⟨rfl,Below.refl _ _⟩
theorem qfy (v:Value) (w:World):Calls Tryz.prog 65 #[.iface 144 v] w fun e w'=>e=.returned (.int .u8 176)∧Below w.heap.size w w':=by
 go_enter Tryz.func65,Tryz.ntmps65;go_wp2_with fail
 refine (qhd v _).mono ?_;rintro e y ⟨rfl,hy⟩;rw[hy];go_wp2_with fail
 refine (qmv v _).mono ?_;rintro e y2 ⟨rfl,hy2⟩;rw[hy2];go_wp2;go_ret;exact⟨rfl,Below.refl _ _⟩
theorem qgp (v:Value) (w:World):Calls Tryz.prog 65 #[.iface 148 v] w fun e w'=>e=.returned (.int .u8 192)∧Below w.heap.size w w':=by
 go_enter Tryz.func65,Tryz.ntmps65;go_wp2_with fail
 refine (qic v _).mono ?_;rintro e y ⟨rfl,hy⟩;rw[hy];go_wp2_with fail
 refine (qod v _).mono ?_;rintro e y2 ⟨rfl,hy2⟩;rw[hy2];go_wp2;go_ret;exact⟨rfl,Below.refl _ _⟩
theorem qfx (v:Value) (w:World):Calls Tryz.prog 65 #[.iface 149 v] w fun e w'=>e=.returned (.int .u8 208)∧Below w.heap.size w w':=by
 go_enter Tryz.func65,Tryz.ntmps65;go_wp2_with fail
 refine (qhc v _).mono ?_;rintro e y ⟨rfl,hy⟩;rw[hy];go_wp2_with fail
 refine (qmu v _).mono ?_;rintro e y2 ⟨rfl,hy2⟩;rw[hy2];go_wp2;go_ret;exact⟨rfl,Below.refl _ _⟩
theorem qfg (v:Value) (w:World):Calls Tryz.prog 65 #[.iface 150 v] w fun e w'=>e=.returned (.int .u8 224)∧Below w.heap.size w w':=by
 go_enter Tryz.func65,Tryz.ntmps65;go_wp2_with fail
 refine (qfu v _).mono ?_;rintro e y ⟨rfl,hy⟩;rw[hy];go_wp2_with fail
 refine (qkh v _).mono ?_;rintro e y2 ⟨rfl,hy2⟩;rw[hy2];go_wp2;go_ret;exact⟨rfl,Below.refl _ _⟩
theorem or48 (dup:Bool) (qos:Int) (ret:Bool) (hq:0≤qos∧qos≤2):bits .or .i64 48 (pubL dup qos ret)=48+pubL dup qos ret:=by
 have h:qos=0∨qos=1∨qos=2:=by omega
 rcases h with rfl | rfl | rfl<;>cases dup<;>cases ret<;>decide
theorem pubL_in (dup:Bool) (qos:Int) (ret:Bool) (hq:0≤qos∧qos≤2):0≤pubL dup qos ret∧pubL dup qos ret≤13:=by
 unfold pubL;have:=qdd dup 8 (by omega);have:=qdd ret 1 (by omega);omega
theorem qle (dup:Bool) (qos:Int) (ret:Bool) (id:Int) (top:ByteArray) (b:Sl) (w:World) (hq:0≤qos∧qos≤2) :
  Calls Tryz.prog 65 #[.iface 129 (.agg (pubC dup qos ret id top b))] w fun e w'=>e=.returned (.int .u8 (48+pubL dup qos ret))∧Below w.heap.size w w':=by
 have h1:=or48 dup qos ret hq;have h2:=pubL_in dup qos ret hq;have h3:=fun u=>qof dup qos ret id top b u hq
 generalize pubL dup qos ret=L at h1 h2 h3 ⊢;generalize pubC dup qos ret id top b=cs at h3 ⊢;have H3:Hid (∀u:World,Calls Tryz.prog 117 #[.iface 129 (.agg cs)] u fun e u'=>e=.returned (.int .i64 L)∧Below u.heap.size u u'):=h3;clear h3;have h4:(48+L)%256=48+L:=by omega
 go_enter Tryz.func65,Tryz.ntmps65;go_wp2_with fail
 refine (qff _ _).mono ?_;rintro e y ⟨rfl,hy⟩;rw[hy];go_wp2_with fail
 refine (H3.out _).mono ?_;rintro e y2 ⟨rfl,b2⟩;go_wp2;go_ret;exact⟨rfl,b2⟩
theorem qby (p:Pk) (d:Pd) (w:World) (hp:PRd w p d) (hz:Psz p d) (hok:(pv p d).ok=true) (T:TypeId) (v:Value) (fF:FuncId) (rv:Value) (L:List UInt8) (N M:Nat) (fb:Int) (hN:L.length=N) (hNb:N≤200000000) (hM:(lenB N).length=M) (hfb:0≤fb∧fb<256)
  (hkind:∀u:World,Calls Tryz.prog 63 #[.agg p.cells] u fun e u'=>e=.returned (.iface T v)∧Below u.heap.size u u')
  (hm:∀u:World,(callMethod (.iface T v) followN #[]).run Tryz.prog u=.ok (.enter fF #[rv]) u)
  (hfol:∀u:World,PRd u p d→Gives fF #[rv] u L)
  (hfirst:∀u:World,Calls Tryz.prog 65 #[.iface T v] u fun e u'=>e=.returned (.int .u8 fb)∧Below u.heap.size u u') :
  Gives 15 #[.agg p.cells] w ([byte fb]++lenB N++L):=by
 unfold Gives;have hm4:=qlk N;have HN:Hid (L.length=N):=hN;have HM:Hid ((lenB N).length=M):=hM;have hM4:M≤4:=by rw[←hM];exact hm4
 have KI:Hid (∀u:World,Calls Tryz.prog 63 #[.agg p.cells] u fun e u'=>e=.returned (.iface T v)∧Below u.heap.size u u'):=hkind;have ME:Hid (∀u:World,(callMethod (.iface T v) followN #[]).run Tryz.prog u=.ok (.enter fF #[rv]) u):=hm;have FO:Hid (∀u:World,PRd u p d→Gives fF #[rv] u L):=hfol;have FI:Hid (∀u:World,Calls Tryz.prog 65 #[.iface T v] u fun e u'=>e=.returned (.int .u8 fb)∧Below u.heap.size u u'):=hfirst;have OK:Hid ((pv p d).ok=true):=hok;have f256:Hid (fb%256=fb):=Int.emod_eq_of_lt hfb.1 hfb.2;clear hN hM hm4 hkind hm hfol hfirst hok;have hb:Below w.heap.size w (w.alloc (.cells p.cells 28)):=bel_new _ _;have A:Blk (w.alloc (.cells p.cells 28)) w.heap.size p:=heap_alloc_new _ _;replace hp:=hp.below hb;go_enter Tryz.func15,Tryz.ntmps15;go_wp2_with (first | refine load_pk A rfl _ rfl rfl ?_ | fail)
 refine (ok_iPacketOk p d _ hp hz).mono ?_;rintro e y1 ⟨he,b1⟩;obtain rfl:e=.returned (.bool true):=he.trans (qaa OK.out);replace hb:=bel hb b1;replace A:=A.next b1;replace hp:=hp.below b1;clear b1 he;go_wp2_with (first | refine load_pk A rfl _ rfl rfl ?_ | fail)
 refine (KI.out _).mono ?_;rintro e y2 ⟨rfl,b2⟩;replace hb:=bel hb b2;replace hp:=hp.below b2;clear b2 A;go_wp2_with (first | refine op_call (wanted_none rfl _) (qik _ _ _ _ _ _ (ME.out _) _ _ _ _ _ _) ?_ | fail)
 refine (FO.out _ hp).mono ?_;rintro e y3 ⟨a1,n1,c1,rfl,O1,b3⟩;obtain rfl:N=n1:=HN.out.symm.trans O1.1;refine⟨_,rfl,?_⟩;have hb3:=hb.size;replace hb:=bel hb b3;clear b3;go_wp2_with fail
 refine (FI.out _).mono ?_;rintro e y4 ⟨rfl,b4⟩;have hb4:=hb.size;replace hb:=bel hb b4;replace O1:=O1.below b4;clear b4;have OB:=qmg y4 w.heap.size hb.size fb;rw[f256.out] at OB;have b5:=bel_new y4 (.cells #[.int .u8 fb] 5);replace hb:=bel hb b5;replace O1:=O1.below b5;clear b5;go_wp2_with fail
 refine (qub M _ 1 1 N [byte fb] _ HM.out OB.rd (by omega)).mono ?_;rintro e y6 ⟨a2,c2,rfl,O2,b6⟩;replace hb:=bel hb b6;replace O1:=O1.below b6;clear b6 OB;go_wp2_with fail
 refine (qca _ _ _ _ _ _ _ L _ O2.rd O1.rd (by omega) (by omega)).mono ?_;rintro e y7 ⟨a3,c3,rfl,O3,b7⟩;go_wp2;go_ret;exact⟨a3,_,c3,rfl,O3.mono hb.size,bel hb b7⟩
theorem qmq (p:Pk) (d:Pd) (w:World) (hp:PRd w p d) (hz:Psz p d) (hl:Plen p 1048576) (hok:(pv p d).ok=true) (ht:p.ty=1):Gives 15 #[.agg p.cells] w (pv p d).bytes:=by
 have hty:(pv p d).ty=1:=ht;have hZ:=hz;obtain⟨z1,z2,z3,z4,z5,z6⟩:=hz;obtain⟨n1,n2,n3,n4,n5,n6⟩:=hl;have hle:=qdj (pv p d) (show d.bod.length≤_ by rw[hp.1.1.1];exact n1) (show d.wan.length≤_ by rw[hp.2.2.2.1.1.1];exact n4) (show d.nam.length≤_ by rw[hp.2.2.2.2.1.1.1];exact n5) (show d.cds.length≤_ by rw[hp.2.2.2.2.2.1.1];exact n6);have e:(pv p d).rest=conB p.lev p.cli p.cln p.kee p.hw (if p.hw then p.wt else ByteArray.empty) (if p.hw then d.wb else []) (if p.hw then p.wq else 0) (if p.hw then p.wr else false) p.hu (if p.hu then p.us else ByteArray.empty) (p.hu&&p.hp) (if p.hu&&p.hp then d.pa else []):=rest1 hok hty;rw[e] at hle;rw[qbw hok,e,hty,show (pv p d).low=0 by simp[Pv.low,hty]];exact qby p d w hp hZ hok 124 (.agg (conOf p)) 226 (.agg (conOf p)) _ _ _ 16 rfl hle rfl (by decide) (fun u=>qfb p u ht) (fun u=>by kernel_rfl) (fun u hu=>follow_con _ _ _ _ _ _ _ _ _ _ _ _ _ _ _ u (rd_if _ _ hu.2.1) (rd_if _ _ hu.2.2.1) (body1 hok hty) z2 (sz_if _ _ z3) (sz_if _ _ z4)) (fun u=>qgo _ u)
theorem qmp (p:Pk) (d:Pd) (w:World) (hp:PRd w p d) (hz:Psz p d) (hl:Plen p 1048576) (hok:(pv p d).ok=true) (ht:p.ty=2):Gives 15 #[.agg p.cells] w (pv p d).bytes:=by
 have hty:(pv p d).ty=2:=ht;have hZ:=hz;obtain⟨z1,z2,z3,z4,z5,z6⟩:=hz;obtain⟨n1,n2,n3,n4,n5,n6⟩:=hl;have hle:=qdj (pv p d) (show d.bod.length≤_ by rw[hp.1.1.1];exact n1) (show d.wan.length≤_ by rw[hp.2.2.2.1.1.1];exact n4) (show d.nam.length≤_ by rw[hp.2.2.2.2.1.1.1];exact n5) (show d.cds.length≤_ by rw[hp.2.2.2.2.2.1.1];exact n6);have e:(pv p d).rest = [byte (bit (p.pre&&decide (p.cod=0)) 1),byte p.cod]:=rest2 hok hty;rw[e] at hle;rw[qbw hok,e,hty,show (pv p d).low=0 by simp[Pv.low,hty]];exact qby p d w hp hZ hok 127 (.agg #[.int .i64 p.cod,.bool (p.pre&&decide (p.cod=0))]) 234 (.agg #[.int .i64 p.cod,.bool (p.pre&&decide (p.cod=0))]) _ _ _ 32 rfl hle rfl (by decide) (fun u=>qfa p u ht) (fun u=>by kernel_rfl) (fun u hu=>follow_ack _ _ u) (fun u=>qgn _ u)
theorem qmt (p:Pk) (d:Pd) (w:World) (hp:PRd w p d) (hz:Psz p d) (hl:Plen p 1048576) (hok:(pv p d).ok=true) (ht:p.ty=3):Gives 15 #[.agg p.cells] w (pv p d).bytes:=by
 have hty:(pv p d).ty=3:=ht;have hZ:=hz;obtain⟨z1,z2,z3,z4,z5,z6⟩:=hz;obtain⟨n1,n2,n3,n4,n5,n6⟩:=hl;have hle:=qdj (pv p d) (show d.bod.length≤_ by rw[hp.1.1.1];exact n1) (show d.wan.length≤_ by rw[hp.2.2.2.1.1.1];exact n4) (show d.nam.length≤_ by rw[hp.2.2.2.2.1.1.1];exact n5) (show d.cds.length≤_ by rw[hp.2.2.2.2.2.1.1];exact n6);have hpl:=pubL_in (if 0<p.qos then p.dup else false) p.qos p.ret (body3 hok hty);have e:(pv p d).rest=pubB p.qos (if 0<p.qos then p.id else 0) p.top d.bod:=rest3 hok hty;rw[e] at hle;rw[qbw hok,e,hty,low3 hok hty];exact qby p d w hp hZ hok 129 (.agg (pubOf p)) 237 (.agg (pubOf p)) _ _ _ (48+pubL (if 0<p.qos then p.dup else false) p.qos p.ret) rfl hle rfl (by omega) (fun u=>qfe p u ht) (fun u=>by kernel_rfl) (fun u hu=>follow_pub _ _ _ _ _ _ _ u hu.1 z1 n1) (fun u=>qle _ _ _ _ _ _ u (body3 hok hty))
theorem qnv (p:Pk) (d:Pd) (w:World) (hp:PRd w p d) (hz:Psz p d) (hl:Plen p 1048576) (hok:(pv p d).ok=true) (ht:p.ty=4):Gives 15 #[.agg p.cells] w (pv p d).bytes:=by
 have hty:(pv p d).ty=4:=ht;have hZ:=hz;obtain⟨z1,z2,z3,z4,z5,z6⟩:=hz;obtain⟨n1,n2,n3,n4,n5,n6⟩:=hl;have hle:=qdj (pv p d) (show d.bod.length≤_ by rw[hp.1.1.1];exact n1) (show d.wan.length≤_ by rw[hp.2.2.2.1.1.1];exact n4) (show d.nam.length≤_ by rw[hp.2.2.2.2.1.1.1];exact n5) (show d.cds.length≤_ by rw[hp.2.2.2.2.2.1.1];exact n6);have e:(pv p d).rest=wordB p.id:=restI hok 4 hty (by decide);rw[e] at hle;rw[qbw hok,e,hty,show (pv p d).low=0 by simp[Pv.low,hty]];exact qby p d w hp hZ hok 134 (.agg #[.int .i64 p.id]) 241 (.agg #[.int .i64 p.id]) _ _ _ 64 rfl hle rfl (by decide) (fun u=>qfn p u ht) (fun u=>by kernel_rfl) (fun u hu=>qil _ u) (fun u=>qhr _ u)
theorem qnw (p:Pk) (d:Pd) (w:World) (hp:PRd w p d) (hz:Psz p d) (hl:Plen p 1048576) (hok:(pv p d).ok=true) (ht:p.ty=5):Gives 15 #[.agg p.cells] w (pv p d).bytes:=by
 have hty:(pv p d).ty=5:=ht;have hZ:=hz;obtain⟨z1,z2,z3,z4,z5,z6⟩:=hz;obtain⟨n1,n2,n3,n4,n5,n6⟩:=hl;have hle:=qdj (pv p d) (show d.bod.length≤_ by rw[hp.1.1.1];exact n1) (show d.wan.length≤_ by rw[hp.2.2.2.1.1.1];exact n4) (show d.nam.length≤_ by rw[hp.2.2.2.2.1.1.1];exact n5) (show d.cds.length≤_ by rw[hp.2.2.2.2.2.1.1];exact n6);have e:(pv p d).rest=wordB p.id:=restI hok 5 hty (by decide);rw[e] at hle;rw[qbw hok,e,hty,show (pv p d).low=0 by simp[Pv.low,hty]];exact qby p d w hp hZ hok 135 (.agg #[.int .i64 p.id]) 241 (.agg #[.int .i64 p.id]) _ _ _ 80 rfl hle rfl (by decide) (fun u=>qfo p u ht) (fun u=>by kernel_rfl) (fun u hu=>qil _ u) (fun u=>qhs _ u)
theorem qnx (p:Pk) (d:Pd) (w:World) (hp:PRd w p d) (hz:Psz p d) (hl:Plen p 1048576) (hok:(pv p d).ok=true) (ht:p.ty=6):Gives 15 #[.agg p.cells] w (pv p d).bytes:=by
 have hty:(pv p d).ty=6:=ht;have hZ:=hz;obtain⟨z1,z2,z3,z4,z5,z6⟩:=hz;obtain⟨n1,n2,n3,n4,n5,n6⟩:=hl;have hle:=qdj (pv p d) (show d.bod.length≤_ by rw[hp.1.1.1];exact n1) (show d.wan.length≤_ by rw[hp.2.2.2.1.1.1];exact n4) (show d.nam.length≤_ by rw[hp.2.2.2.2.1.1.1];exact n5) (show d.cds.length≤_ by rw[hp.2.2.2.2.2.1.1];exact n6);have e:(pv p d).rest=wordB p.id:=restI hok 6 hty (by decide);rw[e] at hle;rw[qbw hok,e,hty,show (pv p d).low=2 by simp[Pv.low,hty]];exact qby p d w hp hZ hok 136 (.agg #[.int .i64 p.id]) 241 (.agg #[.int .i64 p.id]) _ _ _ 98 rfl hle rfl (by decide) (fun u=>qfp p u ht) (fun u=>by kernel_rfl) (fun u hu=>qil _ u) (fun u=>qht _ u)
theorem qms (p:Pk) (d:Pd) (w:World) (hp:PRd w p d) (hz:Psz p d) (hl:Plen p 1048576) (hok:(pv p d).ok=true) (ht:p.ty=7):Gives 15 #[.agg p.cells] w (pv p d).bytes:=by
 have hty:(pv p d).ty=7:=ht;have hZ:=hz;obtain⟨z1,z2,z3,z4,z5,z6⟩:=hz;obtain⟨n1,n2,n3,n4,n5,n6⟩:=hl;have hle:=qdj (pv p d) (show d.bod.length≤_ by rw[hp.1.1.1];exact n1) (show d.wan.length≤_ by rw[hp.2.2.2.1.1.1];exact n4) (show d.nam.length≤_ by rw[hp.2.2.2.2.1.1.1];exact n5) (show d.cds.length≤_ by rw[hp.2.2.2.2.2.1.1];exact n6);have e:(pv p d).rest=wordB p.id:=restI hok 7 hty (by decide);rw[e] at hle;rw[qbw hok,e,hty,show (pv p d).low=0 by simp[Pv.low,hty]];exact qby p d w hp hZ hok 137 (.agg #[.int .i64 p.id]) 241 (.agg #[.int .i64 p.id]) _ _ _ 112 rfl hle rfl (by decide) (fun u=>qfd p u ht) (fun u=>by kernel_rfl) (fun u hu=>qil _ u) (fun u=>qgq _ u)
theorem qke (p:Pk) (d:Pd) (w:World) (hp:PRd w p d) (hz:Psz p d) (hl:Plen p 1048576) (hok:(pv p d).ok=true) (ht:p.ty=8):Gives 15 #[.agg p.cells] w (pv p d).bytes:=by
 have hty:(pv p d).ty=8:=ht;have hZ:=hz;obtain⟨z1,z2,z3,z4,z5,z6⟩:=hz;obtain⟨n1,n2,n3,n4,n5,n6⟩:=hl;have hle:=qdj (pv p d) (show d.bod.length≤_ by rw[hp.1.1.1];exact n1) (show d.wan.length≤_ by rw[hp.2.2.2.1.1.1];exact n4) (show d.nam.length≤_ by rw[hp.2.2.2.2.1.1.1];exact n5) (show d.cds.length≤_ by rw[hp.2.2.2.2.2.1.1];exact n6);have e:(pv p d).rest=wordB p.id++wanB d.wan:=rest8 hok hty;rw[e] at hle;rw[qbw hok,e,hty,show (pv p d).low=2 by simp[Pv.low,hty]];exact qby p d w hp hZ hok 139 (.agg #[.int .i64 p.id,.slice p.wan.a p.wan.n p.wan.c]) 244 (.agg #[.int .i64 p.id,.slice p.wan.a p.wan.n p.wan.c]) _ _ _ 130 rfl hle rfl (by decide) (fun u=>qdu p u ht) (fun u=>by kernel_rfl) (fun u hu=>follow_sub _ _ _ u hu.2.2.2.1 z5 n4) (fun u=>qfl _ u)
theorem qny (p:Pk) (d:Pd) (w:World) (hp:PRd w p d) (hz:Psz p d) (hl:Plen p 1048576) (hok:(pv p d).ok=true) (ht:p.ty=9):Gives 15 #[.agg p.cells] w (pv p d).bytes:=by
 have hty:(pv p d).ty=9:=ht;have hZ:=hz;obtain⟨z1,z2,z3,z4,z5,z6⟩:=hz;obtain⟨n1,n2,n3,n4,n5,n6⟩:=hl;have hle:=qdj (pv p d) (show d.bod.length≤_ by rw[hp.1.1.1];exact n1) (show d.wan.length≤_ by rw[hp.2.2.2.1.1.1];exact n4) (show d.nam.length≤_ by rw[hp.2.2.2.2.1.1.1];exact n5) (show d.cds.length≤_ by rw[hp.2.2.2.2.2.1.1];exact n6);have e:(pv p d).rest=wordB p.id++cdsB d.cds:=rest9 hok hty;rw[e] at hle;rw[qbw hok,e,hty,show (pv p d).low=0 by simp[Pv.low,hty]];exact qby p d w hp hZ hok 141 (.agg #[.int .i64 p.id,.slice p.cds.a p.cds.n p.cds.c]) 252 (.agg #[.int .i64 p.id,.slice p.cds.a p.cds.n p.cds.c]) _ _ _ 144 rfl hle rfl (by decide) (fun u=>qfq p u ht) (fun u=>by kernel_rfl) (fun u hu=>qtp _ _ _ u hu.2.2.2.2.2 n6) (fun u=>qhu _ u)
theorem qjg (p:Pk) (d:Pd) (w:World) (hp:PRd w p d) (hz:Psz p d) (hl:Plen p 1048576) (hok:(pv p d).ok=true) (ht:p.ty=10):Gives 15 #[.agg p.cells] w (pv p d).bytes:=by
 have hty:(pv p d).ty=10:=ht;have hZ:=hz;obtain⟨z1,z2,z3,z4,z5,z6⟩:=hz;obtain⟨n1,n2,n3,n4,n5,n6⟩:=hl;have hle:=qdj (pv p d) (show d.bod.length≤_ by rw[hp.1.1.1];exact n1) (show d.wan.length≤_ by rw[hp.2.2.2.1.1.1];exact n4) (show d.nam.length≤_ by rw[hp.2.2.2.2.1.1.1];exact n5) (show d.cds.length≤_ by rw[hp.2.2.2.2.2.1.1];exact n6);have e:(pv p d).rest=wordB p.id++namB d.nam:=rest10 hok hty;rw[e] at hle;rw[qbw hok,e,hty,show (pv p d).low=2 by simp[Pv.low,hty]];exact qby p d w hp hZ hok 143 (.agg #[.int .i64 p.id,.slice p.nam.a p.nam.n p.nam.c]) 258 (.agg #[.int .i64 p.id,.slice p.nam.a p.nam.n p.nam.c]) _ _ _ 162 rfl hle rfl (by decide) (fun u=>qdc p u ht) (fun u=>by kernel_rfl) (fun u hu=>follow_uns _ _ _ u hu.2.2.2.2.1 z6 n5) (fun u=>qer _ u)
theorem qli (p:Pk) (d:Pd) (w:World) (hp:PRd w p d) (hz:Psz p d) (hl:Plen p 1048576) (hok:(pv p d).ok=true) (ht:p.ty=11):Gives 15 #[.agg p.cells] w (pv p d).bytes:=by
 have hty:(pv p d).ty=11:=ht;have hZ:=hz;obtain⟨z1,z2,z3,z4,z5,z6⟩:=hz;obtain⟨n1,n2,n3,n4,n5,n6⟩:=hl;have hle:=qdj (pv p d) (show d.bod.length≤_ by rw[hp.1.1.1];exact n1) (show d.wan.length≤_ by rw[hp.2.2.2.1.1.1];exact n4) (show d.nam.length≤_ by rw[hp.2.2.2.2.1.1.1];exact n5) (show d.cds.length≤_ by rw[hp.2.2.2.2.2.1.1];exact n6);have e:(pv p d).rest=wordB p.id:=restI hok 11 hty (by decide);rw[e] at hle;rw[qbw hok,e,hty,show (pv p d).low=0 by simp[Pv.low,hty]];exact qby p d w hp hZ hok 144 (.agg #[.int .i64 p.id]) 241 (.agg #[.int .i64 p.id]) _ _ _ 176 rfl hle rfl (by decide) (fun u=>qej p u ht) (fun u=>by kernel_rfl) (fun u hu=>qil _ u) (fun u=>qfy _ u)
theorem qmr (p:Pk) (d:Pd) (w:World) (hp:PRd w p d) (hz:Psz p d) (hl:Plen p 1048576) (hok:(pv p d).ok=true) (ht:p.ty=12):Gives 15 #[.agg p.cells] w (pv p d).bytes:=by
 have hty:(pv p d).ty=12:=ht;have hZ:=hz;obtain⟨z1,z2,z3,z4,z5,z6⟩:=hz;obtain⟨n1,n2,n3,n4,n5,n6⟩:=hl;have hle:=qdj (pv p d) (show d.bod.length≤_ by rw[hp.1.1.1];exact n1) (show d.wan.length≤_ by rw[hp.2.2.2.1.1.1];exact n4) (show d.nam.length≤_ by rw[hp.2.2.2.2.1.1.1];exact n5) (show d.cds.length≤_ by rw[hp.2.2.2.2.2.1.1];exact n6);have e:(pv p d).rest = []:=restN hok 12 hty (by decide);rw[e] at hle;rw[qbw hok,e,hty,show (pv p d).low=0 by simp[Pv.low,hty]];exact qby p d w hp hZ hok 148 (.agg #[]) 263 (.agg #[]) _ _ _ 192 rfl hle rfl (by decide) (fun u=>qfc p u ht) (fun u=>by kernel_rfl) (fun u hu=>qnk u) (fun u=>qgp _ u)
theorem qlh (p:Pk) (d:Pd) (w:World) (hp:PRd w p d) (hz:Psz p d) (hl:Plen p 1048576) (hok:(pv p d).ok=true) (ht:p.ty=13):Gives 15 #[.agg p.cells] w (pv p d).bytes:=by
 have hty:(pv p d).ty=13:=ht;have hZ:=hz;obtain⟨z1,z2,z3,z4,z5,z6⟩:=hz;obtain⟨n1,n2,n3,n4,n5,n6⟩:=hl;have hle:=qdj (pv p d) (show d.bod.length≤_ by rw[hp.1.1.1];exact n1) (show d.wan.length≤_ by rw[hp.2.2.2.1.1.1];exact n4) (show d.nam.length≤_ by rw[hp.2.2.2.2.1.1.1];exact n5) (show d.cds.length≤_ by rw[hp.2.2.2.2.2.1.1];exact n6);have e:(pv p d).rest = []:=restN hok 13 hty (by decide);rw[e] at hle;rw[qbw hok,e,hty,show (pv p d).low=0 by simp[Pv.low,hty]];exact qby p d w hp hZ hok 149 (.agg #[]) 263 (.agg #[]) _ _ _ 208 rfl hle rfl (by decide) (fun u=>qei p u ht) (fun u=>by kernel_rfl) (fun u hu=>qnk u) (fun u=>qfx _ u)
theorem qjt (p:Pk) (d:Pd) (w:World) (hp:PRd w p d) (hz:Psz p d) (hl:Plen p 1048576) (hok:(pv p d).ok=true) (ht:p.ty=14):Gives 15 #[.agg p.cells] w (pv p d).bytes:=by
 have hty:(pv p d).ty=14:=ht;have hZ:=hz;obtain⟨z1,z2,z3,z4,z5,z6⟩:=hz;obtain⟨n1,n2,n3,n4,n5,n6⟩:=hl;have hle:=qdj (pv p d) (show d.bod.length≤_ by rw[hp.1.1.1];exact n1) (show d.wan.length≤_ by rw[hp.2.2.2.1.1.1];exact n4) (show d.nam.length≤_ by rw[hp.2.2.2.2.1.1.1];exact n5) (show d.cds.length≤_ by rw[hp.2.2.2.2.2.1.1];exact n6);have e:(pv p d).rest = []:=restN hok 14 hty (by decide);rw[e] at hle;rw[qbw hok,e,hty,show (pv p d).low=0 by simp[Pv.low,hty]];exact qby p d w hp hZ hok 150 (.agg #[]) 263 (.agg #[]) _ _ _ 224 rfl hle rfl (by decide) (fun u=>qdi p u ht) (fun u=>by kernel_rfl) (fun u hu=>qnk u) (fun u=>qfg _ u)
theorem iput_no (p:Pk) (d:Pd) (w:World) (hp:PRd w p d) (hz:Psz p d) (hok:(pv p d).ok=false):Gives 15 #[.agg p.cells] w (pv p d).bytes:=by
 rw[bytes_no hok];unfold Gives;have OK:Hid ((pv p d).ok=false):=hok;clear hok;have hb:Below w.heap.size w (w.alloc (.cells p.cells 28)):=bel_new _ _;have A:Blk (w.alloc (.cells p.cells 28)) w.heap.size p:=heap_alloc_new _ _;replace hp:=hp.below hb;go_enter Tryz.func15,Tryz.ntmps15;go_wp2_with (first | refine load_pk A rfl _ rfl rfl ?_ | fail)
 refine (ok_iPacketOk p d _ hp hz).mono ?_;rintro e y1 ⟨he,b1⟩;obtain rfl:e=.returned (.bool false):=he.trans (qaa OK.out);replace hb:=bel hb b1;clear b1 he A;go_wp2;go_ret;exact⟨_,_,_,rfl,(own_lit0 y1).mono hb.size,bel hb (bel_new _ _)⟩
theorem put_iPutPacket (p:Pk) (d:Pd) (w:World) (hp:PRd w p d) (hz:Psz p d) (hl:Plen p 1048576):Gives 15 #[.agg p.cells] w (pv p d).bytes:=by
 cases hok:(pv p d).ok with
 |false=>exact iput_no p d w hp hz hok
 |true=>
  have h:1≤p.ty∧p.ty≤14:=ok_ty hok;have h14:p.ty=1∨p.ty=2∨p.ty=3∨p.ty=4∨p.ty=5∨p.ty=6∨p.ty=7∨p.ty=8∨p.ty=9∨p.ty=10∨p.ty=11∨p.ty=12∨p.ty=13∨p.ty=14:=by omega
  rcases h14 with ht | ht | ht | ht | ht | ht | ht | ht | ht | ht | ht | ht | ht | ht
  ·exact qmq p d w hp hz hl hok ht
  ·exact qmp p d w hp hz hl hok ht
  ·exact qmt p d w hp hz hl hok ht
  ·exact qnv p d w hp hz hl hok ht
  ·exact qnw p d w hp hz hl hok ht
  ·exact qnx p d w hp hz hl hok ht
  ·exact qms p d w hp hz hl hok ht
  ·exact qke p d w hp hz hl hok ht
  ·exact qny p d w hp hz hl hok ht
  ·exact qjg p d w hp hz hl hok ht
  ·exact qli p d w hp hz hl hok ht
  ·exact qmr p d w hp hz hl hok ht
  ·exact qlh p d w hp hz hl hok ht
  ·exact qjt p d w hp hz hl hok ht
