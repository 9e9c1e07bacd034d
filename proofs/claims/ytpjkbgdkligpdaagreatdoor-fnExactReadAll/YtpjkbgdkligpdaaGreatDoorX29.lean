/- Lemmas. -/
import Derived.Test.YtpjkbgdkligpdaaGreatDoorX28
set_option linter.unusedVariables false
set_option linter.unusedSimpArgs false
set_option maxRecDepth 100000
set_option maxHeartbeats 20000000
namespace Go.Proofs.YtpjkbgdkligpdaaGreatDoor
open Go.RowKit

abbrev followN : String := "loop.example/g00480/impl.follow"
theorem qgu (v:Value) (w:World):Calls Tryz.prog 65 #[.iface 124 v] w fun e w'=>e=.returned (.int .u8 16)∧Below w.heap.size w w':=by
 go_enter Tryz.func65,Tryz.ntmps65;go_wp2_with fail
 refine (qig v _).mono ?_;rintro e y ⟨rfl,hy⟩;rw[hy];go_wp2_with fail
 refine (qnz v _).mono ?_;rintro e y2 ⟨rfl,hy2⟩;rw[hy2];go_wp2;go_ret;exact⟨rfl,Below.refl _ _⟩
theorem qgt (v:Value) (w:World):Calls Tryz.prog 65 #[.iface 127 v] w fun e w'=>e=.returned (.int .u8 32)∧Below w.heap.size w w':=by
 go_enter Tryz.func65,Tryz.ntmps65;go_wp2_with fail
 refine (qif v _).mono ?_;rintro e y ⟨rfl,hy⟩;rw[hy];go_wp2_with fail
 refine (qny v _).mono ?_;rintro e y2 ⟨rfl,hy2⟩;rw[hy2];go_wp2;go_ret;exact⟨rfl,Below.refl _ _⟩
theorem qhw (v:Value) (w:World):Calls Tryz.prog 65 #[.iface 134 v] w fun e w'=>e=.returned (.int .u8 64)∧Below w.heap.size w w':=by
 go_enter Tryz.func65,Tryz.ntmps65;go_wp2_with fail
 refine (qiy v _).mono ?_;rintro e y ⟨rfl,hy⟩;rw[hy];go_wp2_with fail
 refine (qpl v _).mono ?_;rintro e y2 ⟨rfl,hy2⟩;rw[hy2];go_wp2;go_ret;exact⟨rfl,Below.refl _ _⟩
theorem qhx (v:Value) (w:World):Calls Tryz.prog 65 #[.iface 135 v] w fun e w'=>e=.returned (.int .u8 80)∧Below w.heap.size w w':=by
 go_enter Tryz.func65,Tryz.ntmps65;go_wp2_with fail
 refine (qiz v _).mono ?_;rintro e y ⟨rfl,hy⟩;rw[hy];go_wp2_with fail
 refine (qpm v _).mono ?_;rintro e y2 ⟨rfl,hy2⟩;rw[hy2];go_wp2;go_ret;exact⟨rfl,Below.refl _ _⟩
theorem qhy (v:Value) (w:World):Calls Tryz.prog 65 #[.iface 136 v] w fun e w'=>e=.returned (.int .u8 98)∧Below w.heap.size w w':=by
 go_enter Tryz.func65,Tryz.ntmps65;go_wp2_with fail
 refine (qja v _).mono ?_;rintro e y ⟨rfl,hy⟩;rw[hy];go_wp2_with fail
 refine (qpn v _).mono ?_;rintro e y2 ⟨rfl,hy2⟩;rw[hy2];go_wp2;go_ret;exact⟨rfl,Below.refl _ _⟩
theorem qgw (v:Value) (w:World):Calls Tryz.prog 65 #[.iface 137 v] w fun e w'=>e=.returned (.int .u8 112)∧Below w.heap.size w w':=by
 go_enter Tryz.func65,Tryz.ntmps65;go_wp2_with fail
 refine (qii v _).mono ?_;rintro e y ⟨rfl,hy⟩;rw[hy];go_wp2_with fail
 refine (qob v _).mono ?_;rintro e y2 ⟨rfl,hy2⟩;rw[hy2];go_wp2;go_ret;exact⟨rfl,Below.refl _ _⟩
theorem qfr (v:Value) (w:World):Calls Tryz.prog 65 #[.iface 139 v] w fun e w'=>e=.returned (.int .u8 130)∧Below w.heap.size w w':=by
 go_enter Tryz.func65,Tryz.ntmps65;go_wp2_with fail
 refine (qgk v _).mono ?_;rintro e y ⟨rfl,hy⟩;rw[hy];go_wp2_with fail
 refine (qlg v _).mono ?_;rintro e y2 ⟨rfl,hy2⟩;rw[hy2];go_wp2;go_ret;exact⟨rfl,Below.refl _ _⟩
theorem qhz (v:Value) (w:World):Calls Tryz.prog 65 #[.iface 141 v] w fun e w'=>e=.returned (.int .u8 144)∧Below w.heap.size w w':=by
 go_enter Tryz.func65,Tryz.ntmps65;go_wp2_with fail
 refine (qjb v _).mono ?_;rintro e y ⟨rfl,hy⟩;rw[hy];go_wp2_with fail
 refine (qpo v _).mono ?_;rintro e y2 ⟨rfl,hy2⟩;rw[hy2];go_wp2;go_ret;exact⟨rfl,Below.refl _ _⟩
theorem qex (v:Value) (w:World):Calls Tryz.prog 65 #[.iface 143 v] w fun e w'=>e=.returned (.int .u8 162)∧Below w.heap.size w w':=by
 go_enter Tryz.func65,Tryz.ntmps65;go_wp2_with fail
 refine (qfn v _).mono ?_;rintro e y ⟨rfl,hy⟩;rw[hy];go_wp2_with fail
 refine (qju v _).mono ?_;rintro e y2 ⟨rfl,hy2⟩;rw[hy2];go_wp2;go_ret;exact⟨rfl,Below.refl _ _⟩
theorem qgf (v:Value) (w:World):Calls Tryz.prog 65 #[.iface 144 v] w fun e w'=>e=.returned (.int .u8 176)∧Below w.heap.size w w':=by
 go_enter Tryz.func65,Tryz.ntmps65;go_wp2_with fail
 refine (qhi v _).mono ?_;rintro e y ⟨rfl,hy⟩;rw[hy];go_wp2_with fail
 refine (qmp v _).mono ?_;rintro e y2 ⟨rfl,hy2⟩;rw[hy2];go_wp2;go_ret;exact⟨rfl,Below.refl _ _⟩
theorem qgv (v:Value) (w:World):Calls Tryz.prog 65 #[.iface 148 v] w fun e w'=>e=.returned (.int .u8 192)∧Below w.heap.size w w':=by
 go_enter Tryz.func65,Tryz.ntmps65;go_wp2_with fail
 refine (qih v _).mono ?_;rintro e y ⟨rfl,hy⟩;rw[hy];go_wp2_with fail
 refine (qoa v _).mono ?_;rintro e y2 ⟨rfl,hy2⟩;rw[hy2];go_wp2;go_ret;exact⟨rfl,Below.refl _ _⟩
theorem qge (v:Value) (w:World):Calls Tryz.prog 65 #[.iface 149 v] w fun e w'=>e=.returned (.int .u8 208)∧Below w.heap.size w w':=by
 go_enter Tryz.func65,Tryz.ntmps65;go_wp2_with fail
 refine (qhh v _).mono ?_;rintro e y ⟨rfl,hy⟩;rw[hy];go_wp2_with fail
 refine (qmo v _).mono ?_;rintro e y2 ⟨rfl,hy2⟩;rw[hy2];go_wp2;go_ret;exact⟨rfl,Below.refl _ _⟩
theorem qfm (v:Value) (w:World):Calls Tryz.prog 65 #[.iface 150 v] w fun e w'=>e=.returned (.int .u8 224)∧Below w.heap.size w w':=by
 go_enter Tryz.func65,Tryz.ntmps65;go_wp2_with fail
 refine (qgc v _).mono ?_;rintro e y ⟨rfl,hy⟩;rw[hy];go_wp2_with fail
 refine (qkh v _).mono ?_;rintro e y2 ⟨rfl,hy2⟩;rw[hy2];go_wp2;go_ret;exact⟨rfl,Below.refl _ _⟩
theorem or48 (dup:Bool) (qos:Int) (ret:Bool) (hq:0≤qos∧qos≤2):bits .or .i64 48 (pubL dup qos ret)=48+pubL dup qos ret:=by
 have h:qos=0∨qos=1∨qos=2:=by omega
 rcases h with rfl | rfl | rfl<;>cases dup<;>cases ret<;>decide
theorem pubL_in (dup:Bool) (qos:Int) (ret:Bool) (hq:0≤qos∧qos≤2):0≤pubL dup qos ret∧pubL dup qos ret≤13:=by
 unfold pubL;have:=qdl dup 8 (by omega);have:=qdl ret 1 (by omega);omega
theorem qla (dup:Bool) (qos:Int) (ret:Bool) (id:Int) (top:ByteArray) (b:Sl) (w:World) (hq:0≤qos∧qos≤2) :
  Calls Tryz.prog 65 #[.iface 129 (.agg (pubC dup qos ret id top b))] w fun e w'=>e=.returned (.int .u8 (48+pubL dup qos ret))∧Below w.heap.size w w':=by
 have h1:=or48 dup qos ret hq;have h2:=pubL_in dup qos ret hq;have h3:=fun u=>qoc dup qos ret id top b u hq
 generalize pubL dup qos ret=L at h1 h2 h3 ⊢;generalize pubC dup qos ret id top b=cs at h3 ⊢;have H3:Hid (∀u:World,Calls Tryz.prog 117 #[.iface 129 (.agg cs)] u fun e u'=>e=.returned (.int .i64 L)∧Below u.heap.size u u'):=h3;clear h3;have h4:(48+L)%256=48+L:=by omega
 go_enter Tryz.func65,Tryz.ntmps65;go_wp2_with fail
 refine (qfk _ _).mono ?_;rintro e y ⟨rfl,hy⟩;rw[hy];go_wp2_with fail
 refine (H3.out _).mono ?_;rintro e y2 ⟨rfl,b2⟩;go_wp2;go_ret;exact⟨rfl,b2⟩
theorem qcg (p:Pk) (d:Pd) (w:World) (hp:PRd w p d) (hz:Psz p d) (hok:(pv p d).ok=true) (T:TypeId) (v:Value) (fF:FuncId) (rv:Value) (L:List UInt8) (N M:Nat) (fb:Int) (hN:L.length=N) (hNb:N≤200000000) (hM:(lenB N).length=M) (hfb:0≤fb∧fb<256)
  (hkind:∀u:World,Calls Tryz.prog 63 #[.agg p.cells] u fun e u'=>e=.returned (.iface T v)∧Below u.heap.size u u')
  (hm:∀u:World,(callMethod (.iface T v) followN #[]).run Tryz.prog u=.ok (.enter fF #[rv]) u)
  (hfol:∀u:World,PRd u p d→Gives fF #[rv] u L)
  (hfirst:∀u:World,Calls Tryz.prog 65 #[.iface T v] u fun e u'=>e=.returned (.int .u8 fb)∧Below u.heap.size u u') :
  Gives 15 #[.agg p.cells] w ([byte fb]++lenB N++L):=by
 unfold Gives;have hm4:=qtx N;have HN:Hid (L.length=N):=hN;have HM:Hid ((lenB N).length=M):=hM;have hM4:M≤4:=by rw[←hM];exact hm4
 have KI:Hid (∀u:World,Calls Tryz.prog 63 #[.agg p.cells] u fun e u'=>e=.returned (.iface T v)∧Below u.heap.size u u'):=hkind;have ME:Hid (∀u:World,(callMethod (.iface T v) followN #[]).run Tryz.prog u=.ok (.enter fF #[rv]) u):=hm;have FO:Hid (∀u:World,PRd u p d→Gives fF #[rv] u L):=hfol;have FI:Hid (∀u:World,Calls Tryz.prog 65 #[.iface T v] u fun e u'=>e=.returned (.int .u8 fb)∧Below u.heap.size u u'):=hfirst;have OK:Hid ((pv p d).ok=true):=hok;have f256:Hid (fb%256=fb):=Int.emod_eq_of_lt hfb.1 hfb.2;clear hN hM hm4 hkind hm hfol hfirst hok;have hb:Below w.heap.size w (w.alloc (.cells p.cells 28)):=qac _ _;have A:Blk (w.alloc (.cells p.cells 28)) w.heap.size p:=heap_alloc_new _ _;replace hp:=hp.below hb;go_enter Tryz.func15,Tryz.ntmps15;go_wp2_with (first | refine qal A rfl _ rfl rfl ?_ | fail)
 refine (qma p d _ hp hz).mono ?_;rintro e y1 ⟨he,b1⟩;obtain rfl:e=.returned (.bool true):=he.trans (qad OK.out);replace hb:=bel hb b1;replace A:=A.next b1;replace hp:=hp.below b1;clear b1 he;go_wp2_with (first | refine qal A rfl _ rfl rfl ?_ | fail)
 refine (KI.out _).mono ?_;rintro e y2 ⟨rfl,b2⟩;replace hb:=bel hb b2;replace hp:=hp.below b2;clear b2 A;go_wp2_with (first | refine op_call (qab rfl _) (qio _ _ _ _ _ _ (ME.out _) _ _ _ _ _ _) ?_ | fail)
 refine (FO.out _ hp).mono ?_;rintro e y3 ⟨a1,n1,c1,rfl,O1,b3⟩;obtain rfl:N=n1:=HN.out.symm.trans O1.1;refine⟨_,rfl,?_⟩;have hb3:=hb.size;replace hb:=bel hb b3;clear b3;go_wp2_with fail
 refine (FI.out _).mono ?_;rintro e y4 ⟨rfl,b4⟩;have hb4:=hb.size;replace hb:=bel hb b4;replace O1:=O1.below b4;clear b4;have OB:=qmb y4 w.heap.size hb.size fb;rw[f256.out] at OB;have b5:=qac y4 (.cells #[.int .u8 fb] 5);replace hb:=bel hb b5;replace O1:=O1.below b5;clear b5;go_wp2_with fail
 refine (qub M _ 1 1 N [byte fb] _ HM.out OB.rd (by omega)).mono ?_;rintro e y6 ⟨a2,c2,rfl,O2,b6⟩;replace hb:=bel hb b6;replace O1:=O1.below b6;clear b6 OB;go_wp2_with fail
 refine (qci _ _ _ _ _ _ _ L _ O2.rd O1.rd (by omega) (by omega)).mono ?_;rintro e y7 ⟨a3,c3,rfl,O3,b7⟩;go_wp2;go_ret;exact⟨a3,_,c3,rfl,O3.mono hb.size,bel hb b7⟩
theorem qmk (p:Pk) (d:Pd) (w:World) (hp:PRd w p d) (hz:Psz p d) (hl:Plen p 1048576) (hok:(pv p d).ok=true) (ht:p.ty=1):Gives 15 #[.agg p.cells] w (pv p d).bytes:=by
 have hty:(pv p d).ty=1:=ht;have hZ:=hz;obtain⟨z1,z2,z3,z4,z5,z6⟩:=hz;obtain⟨n1,n2,n3,n4,n5,n6⟩:=hl;have hle:=qds (pv p d) (show d.bod.length≤_ by rw[hp.1.1.1];exact n1) (show d.wan.length≤_ by rw[hp.2.2.2.1.1.1];exact n4) (show d.nam.length≤_ by rw[hp.2.2.2.2.1.1.1];exact n5) (show d.cds.length≤_ by rw[hp.2.2.2.2.2.1.1];exact n6);have e:(pv p d).rest=conB p.lev p.cli p.cln p.kee p.hw (if p.hw then p.wt else ByteArray.empty) (if p.hw then d.wb else []) (if p.hw then p.wq else 0) (if p.hw then p.wr else false) p.hu (if p.hu then p.us else ByteArray.empty) (p.hu&&p.hp) (if p.hu&&p.hp then d.pa else []):=rest1 hok hty;rw[e] at hle;rw[qcf hok,e,hty,show (pv p d).low=0 by simp[Pv.low,hty]];exact qcg p d w hp hZ hok 124 (.agg (conOf p)) 226 (.agg (conOf p)) _ _ _ 16 rfl hle rfl (by decide) (fun u=>qfg p u ht) (fun u=>by kernel_rfl) (fun u hu=>follow_con _ _ _ _ _ _ _ _ _ _ _ _ _ _ _ u (rd_if _ _ hu.2.1) (rd_if _ _ hu.2.2.1) (body1 hok hty) z2 (sz_if _ _ z3) (sz_if _ _ z4)) (fun u=>qgu _ u)
theorem qmj (p:Pk) (d:Pd) (w:World) (hp:PRd w p d) (hz:Psz p d) (hl:Plen p 1048576) (hok:(pv p d).ok=true) (ht:p.ty=2):Gives 15 #[.agg p.cells] w (pv p d).bytes:=by
 have hty:(pv p d).ty=2:=ht;have hZ:=hz;obtain⟨z1,z2,z3,z4,z5,z6⟩:=hz;obtain⟨n1,n2,n3,n4,n5,n6⟩:=hl;have hle:=qds (pv p d) (show d.bod.length≤_ by rw[hp.1.1.1];exact n1) (show d.wan.length≤_ by rw[hp.2.2.2.1.1.1];exact n4) (show d.nam.length≤_ by rw[hp.2.2.2.2.1.1.1];exact n5) (show d.cds.length≤_ by rw[hp.2.2.2.2.2.1.1];exact n6);have e:(pv p d).rest = [byte (bit (p.pre&&decide (p.cod=0)) 1),byte p.cod]:=rest2 hok hty;rw[e] at hle;rw[qcf hok,e,hty,show (pv p d).low=0 by simp[Pv.low,hty]];exact qcg p d w hp hZ hok 127 (.agg #[.int .i64 p.cod,.bool (p.pre&&decide (p.cod=0))]) 234 (.agg #[.int .i64 p.cod,.bool (p.pre&&decide (p.cod=0))]) _ _ _ 32 rfl hle rfl (by decide) (fun u=>qff p u ht) (fun u=>by kernel_rfl) (fun u hu=>follow_ack _ _ u) (fun u=>qgt _ u)
theorem qmn (p:Pk) (d:Pd) (w:World) (hp:PRd w p d) (hz:Psz p d) (hl:Plen p 1048576) (hok:(pv p d).ok=true) (ht:p.ty=3):Gives 15 #[.agg p.cells] w (pv p d).bytes:=by
 have hty:(pv p d).ty=3:=ht;have hZ:=hz;obtain⟨z1,z2,z3,z4,z5,z6⟩:=hz;obtain⟨n1,n2,n3,n4,n5,n6⟩:=hl;have hle:=qds (pv p d) (show d.bod.length≤_ by rw[hp.1.1.1];exact n1) (show d.wan.length≤_ by rw[hp.2.2.2.1.1.1];exact n4) (show d.nam.length≤_ by rw[hp.2.2.2.2.1.1.1];exact n5) (show d.cds.length≤_ by rw[hp.2.2.2.2.2.1.1];exact n6);have hpl:=pubL_in (if 0<p.qos then p.dup else false) p.qos p.ret (body3 hok hty);have e:(pv p d).rest=pubB p.qos (if 0<p.qos then p.id else 0) p.top d.bod:=rest3 hok hty;rw[e] at hle;rw[qcf hok,e,hty,low3 hok hty];exact qcg p d w hp hZ hok 129 (.agg (pubOf p)) 237 (.agg (pubOf p)) _ _ _ (48+pubL (if 0<p.qos then p.dup else false) p.qos p.ret) rfl hle rfl (by omega) (fun u=>qfj p u ht) (fun u=>by kernel_rfl) (fun u hu=>follow_pub _ _ _ _ _ _ _ u hu.1 z1 n1) (fun u=>qla _ _ _ _ _ _ u (body3 hok hty))
theorem qns (p:Pk) (d:Pd) (w:World) (hp:PRd w p d) (hz:Psz p d) (hl:Plen p 1048576) (hok:(pv p d).ok=true) (ht:p.ty=4):Gives 15 #[.agg p.cells] w (pv p d).bytes:=by
 have hty:(pv p d).ty=4:=ht;have hZ:=hz;obtain⟨z1,z2,z3,z4,z5,z6⟩:=hz;obtain⟨n1,n2,n3,n4,n5,n6⟩:=hl;have hle:=qds (pv p d) (show d.bod.length≤_ by rw[hp.1.1.1];exact n1) (show d.wan.length≤_ by rw[hp.2.2.2.1.1.1];exact n4) (show d.nam.length≤_ by rw[hp.2.2.2.2.1.1.1];exact n5) (show d.cds.length≤_ by rw[hp.2.2.2.2.2.1.1];exact n6);have e:(pv p d).rest=wordB p.id:=restI hok 4 hty (by decide);rw[e] at hle;rw[qcf hok,e,hty,show (pv p d).low=0 by simp[Pv.low,hty]];exact qcg p d w hp hZ hok 134 (.agg #[.int .i64 p.id]) 241 (.agg #[.int .i64 p.id]) _ _ _ 64 rfl hle rfl (by decide) (fun u=>qfu p u ht) (fun u=>by kernel_rfl) (fun u hu=>qip _ u) (fun u=>qhw _ u)
theorem qnt (p:Pk) (d:Pd) (w:World) (hp:PRd w p d) (hz:Psz p d) (hl:Plen p 1048576) (hok:(pv p d).ok=true) (ht:p.ty=5):Gives 15 #[.agg p.cells] w (pv p d).bytes:=by
 have hty:(pv p d).ty=5:=ht;have hZ:=hz;obtain⟨z1,z2,z3,z4,z5,z6⟩:=hz;obtain⟨n1,n2,n3,n4,n5,n6⟩:=hl;have hle:=qds (pv p d) (show d.bod.length≤_ by rw[hp.1.1.1];exact n1) (show d.wan.length≤_ by rw[hp.2.2.2.1.1.1];exact n4) (show d.nam.length≤_ by rw[hp.2.2.2.2.1.1.1];exact n5) (show d.cds.length≤_ by rw[hp.2.2.2.2.2.1.1];exact n6);have e:(pv p d).rest=wordB p.id:=restI hok 5 hty (by decide);rw[e] at hle;rw[qcf hok,e,hty,show (pv p d).low=0 by simp[Pv.low,hty]];exact qcg p d w hp hZ hok 135 (.agg #[.int .i64 p.id]) 241 (.agg #[.int .i64 p.id]) _ _ _ 80 rfl hle rfl (by decide) (fun u=>qfv p u ht) (fun u=>by kernel_rfl) (fun u hu=>qip _ u) (fun u=>qhx _ u)
theorem qnu (p:Pk) (d:Pd) (w:World) (hp:PRd w p d) (hz:Psz p d) (hl:Plen p 1048576) (hok:(pv p d).ok=true) (ht:p.ty=6):Gives 15 #[.agg p.cells] w (pv p d).bytes:=by
 have hty:(pv p d).ty=6:=ht;have hZ:=hz;obtain⟨z1,z2,z3,z4,z5,z6⟩:=hz;obtain⟨n1,n2,n3,n4,n5,n6⟩:=hl;have hle:=qds (pv p d) (show d.bod.length≤_ by rw[hp.1.1.1];exact n1) (show d.wan.length≤_ by rw[hp.2.2.2.1.1.1];exact n4) (show d.nam.length≤_ by rw[hp.2.2.2.2.1.1.1];exact n5) (show d.cds.length≤_ by rw[hp.2.2.2.2.2.1.1];exact n6);have e:(pv p d).rest=wordB p.id:=restI hok 6 hty (by decide);rw[e] at hle;rw[qcf hok,e,hty,show (pv p d).low=2 by simp[Pv.low,hty]];exact qcg p d w hp hZ hok 136 (.agg #[.int .i64 p.id]) 241 (.agg #[.int .i64 p.id]) _ _ _ 98 rfl hle rfl (by decide) (fun u=>qfw p u ht) (fun u=>by kernel_rfl) (fun u hu=>qip _ u) (fun u=>qhy _ u)
theorem qmm (p:Pk) (d:Pd) (w:World) (hp:PRd w p d) (hz:Psz p d) (hl:Plen p 1048576) (hok:(pv p d).ok=true) (ht:p.ty=7):Gives 15 #[.agg p.cells] w (pv p d).bytes:=by
 have hty:(pv p d).ty=7:=ht;have hZ:=hz;obtain⟨z1,z2,z3,z4,z5,z6⟩:=hz;obtain⟨n1,n2,n3,n4,n5,n6⟩:=hl;have hle:=qds (pv p d) (show d.bod.length≤_ by rw[hp.1.1.1];exact n1) (show d.wan.length≤_ by rw[hp.2.2.2.1.1.1];exact n4) (show d.nam.length≤_ by rw[hp.2.2.2.2.1.1.1];exact n5) (show d.cds.length≤_ by rw[hp.2.2.2.2.2.1.1];exact n6);have e:(pv p d).rest=wordB p.id:=restI hok 7 hty (by decide);rw[e] at hle;rw[qcf hok,e,hty,show (pv p d).low=0 by simp[Pv.low,hty]];exact qcg p d w hp hZ hok 137 (.agg #[.int .i64 p.id]) 241 (.agg #[.int .i64 p.id]) _ _ _ 112 rfl hle rfl (by decide) (fun u=>qfi p u ht) (fun u=>by kernel_rfl) (fun u hu=>qip _ u) (fun u=>qgw _ u)
theorem qkf (p:Pk) (d:Pd) (w:World) (hp:PRd w p d) (hz:Psz p d) (hl:Plen p 1048576) (hok:(pv p d).ok=true) (ht:p.ty=8):Gives 15 #[.agg p.cells] w (pv p d).bytes:=by
 have hty:(pv p d).ty=8:=ht;have hZ:=hz;obtain⟨z1,z2,z3,z4,z5,z6⟩:=hz;obtain⟨n1,n2,n3,n4,n5,n6⟩:=hl;have hle:=qds (pv p d) (show d.bod.length≤_ by rw[hp.1.1.1];exact n1) (show d.wan.length≤_ by rw[hp.2.2.2.1.1.1];exact n4) (show d.nam.length≤_ by rw[hp.2.2.2.2.1.1.1];exact n5) (show d.cds.length≤_ by rw[hp.2.2.2.2.2.1.1];exact n6);have e:(pv p d).rest=wordB p.id++wanB d.wan:=rest8 hok hty;rw[e] at hle;rw[qcf hok,e,hty,show (pv p d).low=2 by simp[Pv.low,hty]];exact qcg p d w hp hZ hok 139 (.agg #[.int .i64 p.id,.slice p.wan.a p.wan.n p.wan.c]) 244 (.agg #[.int .i64 p.id,.slice p.wan.a p.wan.n p.wan.c]) _ _ _ 130 rfl hle rfl (by decide) (fun u=>qed p u ht) (fun u=>by kernel_rfl) (fun u hu=>follow_sub _ _ _ u hu.2.2.2.1 z5 n4) (fun u=>qfr _ u)
theorem qnv (p:Pk) (d:Pd) (w:World) (hp:PRd w p d) (hz:Psz p d) (hl:Plen p 1048576) (hok:(pv p d).ok=true) (ht:p.ty=9):Gives 15 #[.agg p.cells] w (pv p d).bytes:=by
 have hty:(pv p d).ty=9:=ht;have hZ:=hz;obtain⟨z1,z2,z3,z4,z5,z6⟩:=hz;obtain⟨n1,n2,n3,n4,n5,n6⟩:=hl;have hle:=qds (pv p d) (show d.bod.length≤_ by rw[hp.1.1.1];exact n1) (show d.wan.length≤_ by rw[hp.2.2.2.1.1.1];exact n4) (show d.nam.length≤_ by rw[hp.2.2.2.2.1.1.1];exact n5) (show d.cds.length≤_ by rw[hp.2.2.2.2.2.1.1];exact n6);have e:(pv p d).rest=wordB p.id++cdsB d.cds:=rest9 hok hty;rw[e] at hle;rw[qcf hok,e,hty,show (pv p d).low=0 by simp[Pv.low,hty]];exact qcg p d w hp hZ hok 141 (.agg #[.int .i64 p.id,.slice p.cds.a p.cds.n p.cds.c]) 252 (.agg #[.int .i64 p.id,.slice p.cds.a p.cds.n p.cds.c]) _ _ _ 144 rfl hle rfl (by decide) (fun u=>qfx p u ht) (fun u=>by kernel_rfl) (fun u hu=>qtr _ _ _ u hu.2.2.2.2.2 n6) (fun u=>qhz _ u)
theorem qjj (p:Pk) (d:Pd) (w:World) (hp:PRd w p d) (hz:Psz p d) (hl:Plen p 1048576) (hok:(pv p d).ok=true) (ht:p.ty=10):Gives 15 #[.agg p.cells] w (pv p d).bytes:=by
 have hty:(pv p d).ty=10:=ht;have hZ:=hz;obtain⟨z1,z2,z3,z4,z5,z6⟩:=hz;obtain⟨n1,n2,n3,n4,n5,n6⟩:=hl;have hle:=qds (pv p d) (show d.bod.length≤_ by rw[hp.1.1.1];exact n1) (show d.wan.length≤_ by rw[hp.2.2.2.1.1.1];exact n4) (show d.nam.length≤_ by rw[hp.2.2.2.2.1.1.1];exact n5) (show d.cds.length≤_ by rw[hp.2.2.2.2.2.1.1];exact n6);have e:(pv p d).rest=wordB p.id++namB d.nam:=rest10 hok hty;rw[e] at hle;rw[qcf hok,e,hty,show (pv p d).low=2 by simp[Pv.low,hty]];exact qcg p d w hp hZ hok 143 (.agg #[.int .i64 p.id,.slice p.nam.a p.nam.n p.nam.c]) 258 (.agg #[.int .i64 p.id,.slice p.nam.a p.nam.n p.nam.c]) _ _ _ 162 rfl hle rfl (by decide) (fun u=>qdk p u ht) (fun u=>by kernel_rfl) (fun u hu=>follow_uns _ _ _ u hu.2.2.2.2.1 z6 n5) (fun u=>qex _ u)
theorem qle (p:Pk) (d:Pd) (w:World) (hp:PRd w p d) (hz:Psz p d) (hl:Plen p 1048576) (hok:(pv p d).ok=true) (ht:p.ty=11):Gives 15 #[.agg p.cells] w (pv p d).bytes:=by
 have hty:(pv p d).ty=11:=ht;have hZ:=hz;obtain⟨z1,z2,z3,z4,z5,z6⟩:=hz;obtain⟨n1,n2,n3,n4,n5,n6⟩:=hl;have hle:=qds (pv p d) (show d.bod.length≤_ by rw[hp.1.1.1];exact n1) (show d.wan.length≤_ by rw[hp.2.2.2.1.1.1];exact n4) (show d.nam.length≤_ by rw[hp.2.2.2.2.1.1.1];exact n5) (show d.cds.length≤_ by rw[hp.2.2.2.2.2.1.1];exact n6);have e:(pv p d).rest=wordB p.id:=restI hok 11 hty (by decide);rw[e] at hle;rw[qcf hok,e,hty,show (pv p d).low=0 by simp[Pv.low,hty]];exact qcg p d w hp hZ hok 144 (.agg #[.int .i64 p.id]) 241 (.agg #[.int .i64 p.id]) _ _ _ 176 rfl hle rfl (by decide) (fun u=>qeq p u ht) (fun u=>by kernel_rfl) (fun u hu=>qip _ u) (fun u=>qgf _ u)
theorem qml (p:Pk) (d:Pd) (w:World) (hp:PRd w p d) (hz:Psz p d) (hl:Plen p 1048576) (hok:(pv p d).ok=true) (ht:p.ty=12):Gives 15 #[.agg p.cells] w (pv p d).bytes:=by
 have hty:(pv p d).ty=12:=ht;have hZ:=hz;obtain⟨z1,z2,z3,z4,z5,z6⟩:=hz;obtain⟨n1,n2,n3,n4,n5,n6⟩:=hl;have hle:=qds (pv p d) (show d.bod.length≤_ by rw[hp.1.1.1];exact n1) (show d.wan.length≤_ by rw[hp.2.2.2.1.1.1];exact n4) (show d.nam.length≤_ by rw[hp.2.2.2.2.1.1.1];exact n5) (show d.cds.length≤_ by rw[hp.2.2.2.2.2.1.1];exact n6);have e:(pv p d).rest = []:=restN hok 12 hty (by decide);rw[e] at hle;rw[qcf hok,e,hty,show (pv p d).low=0 by simp[Pv.low,hty]];exact qcg p d w hp hZ hok 148 (.agg #[]) 263 (.agg #[]) _ _ _ 192 rfl hle rfl (by decide) (fun u=>qfh p u ht) (fun u=>by kernel_rfl) (fun u hu=>qnj u) (fun u=>qgv _ u)
theorem qld (p:Pk) (d:Pd) (w:World) (hp:PRd w p d) (hz:Psz p d) (hl:Plen p 1048576) (hok:(pv p d).ok=true) (ht:p.ty=13):Gives 15 #[.agg p.cells] w (pv p d).bytes:=by
 have hty:(pv p d).ty=13:=ht;have hZ:=hz;obtain⟨z1,z2,z3,z4,z5,z6⟩:=hz;obtain⟨n1,n2,n3,n4,n5,n6⟩:=hl;have hle:=qds (pv p d) (show d.bod.length≤_ by rw[hp.1.1.1];exact n1) (show d.wan.length≤_ by rw[hp.2.2.2.1.1.1];exact n4) (show d.nam.length≤_ by rw[hp.2.2.2.2.1.1.1];exact n5) (show d.cds.length≤_ by rw[hp.2.2.2.2.2.1.1];exact n6);have e:(pv p d).rest = []:=restN hok 13 hty (by decide);rw[e] at hle;rw[qcf hok,e,hty,show (pv p d).low=0 by simp[Pv.low,hty]];exact qcg p d w hp hZ hok 149 (.agg #[]) 263 (.agg #[]) _ _ _ 208 rfl hle rfl (by decide) (fun u=>qep p u ht) (fun u=>by kernel_rfl) (fun u hu=>qnj u) (fun u=>qge _ u)
theorem qjt (p:Pk) (d:Pd) (w:World) (hp:PRd w p d) (hz:Psz p d) (hl:Plen p 1048576) (hok:(pv p d).ok=true) (ht:p.ty=14):Gives 15 #[.agg p.cells] w (pv p d).bytes:=by
 have hty:(pv p d).ty=14:=ht;have hZ:=hz;obtain⟨z1,z2,z3,z4,z5,z6⟩:=hz;obtain⟨n1,n2,n3,n4,n5,n6⟩:=hl;have hle:=qds (pv p d) (show d.bod.length≤_ by rw[hp.1.1.1];exact n1) (show d.wan.length≤_ by rw[hp.2.2.2.1.1.1];exact n4) (show d.nam.length≤_ by rw[hp.2.2.2.2.1.1.1];exact n5) (show d.cds.length≤_ by rw[hp.2.2.2.2.2.1.1];exact n6);have e:(pv p d).rest = []:=restN hok 14 hty (by decide);rw[e] at hle;rw[qcf hok,e,hty,show (pv p d).low=0 by simp[Pv.low,hty]];exact qcg p d w hp hZ hok 150 (.agg #[]) 263 (.agg #[]) _ _ _ 224 rfl hle rfl (by decide) (fun u=>qdr p u ht) (fun u=>by kernel_rfl) (fun u hu=>qnj u) (fun u=>qfm _ u)
theorem iput_no (p:Pk) (d:Pd) (w:World) (hp:PRd w p d) (hz:Psz p d) (hok:(pv p d).ok=false):Gives 15 #[.agg p.cells] w (pv p d).bytes:=by
 rw[qqk hok];unfold Gives;have OK:Hid ((pv p d).ok=false):=hok;clear hok;have hb:Below w.heap.size w (w.alloc (.cells p.cells 28)):=qac _ _;have A:Blk (w.alloc (.cells p.cells 28)) w.heap.size p:=heap_alloc_new _ _;replace hp:=hp.below hb;go_enter Tryz.func15,Tryz.ntmps15;go_wp2_with (first | refine qal A rfl _ rfl rfl ?_ | fail)
 refine (qma p d _ hp hz).mono ?_;rintro e y1 ⟨he,b1⟩;obtain rfl:e=.returned (.bool false):=he.trans (qad OK.out);replace hb:=bel hb b1;clear b1 he A;go_wp2;go_ret;exact⟨_,_,_,rfl,(qbo y1).mono hb.size,bel hb (qac _ _)⟩
theorem qpu (p:Pk) (d:Pd) (w:World) (hp:PRd w p d) (hz:Psz p d) (hl:Plen p 1048576):Gives 15 #[.agg p.cells] w (pv p d).bytes:=by
 cases hok:(pv p d).ok with
 |false=>exact iput_no p d w hp hz hok
 |true=>
  have h:1≤p.ty∧p.ty≤14:=ok_ty hok;have h14:p.ty=1∨p.ty=2∨p.ty=3∨p.ty=4∨p.ty=5∨p.ty=6∨p.ty=7∨p.ty=8∨p.ty=9∨p.ty=10∨p.ty=11∨p.ty=12∨p.ty=13∨p.ty=14:=by omega
  rcases h14 with ht | ht | ht | ht | ht | ht | ht | ht | ht | ht | ht | ht | ht | ht
  ·exact qmk p d w hp hz hl hok ht
  ·exact qmj p d w hp hz hl hok ht
  ·exact qmn p d w hp hz hl hok ht
  ·exact qns p d w hp hz hl hok ht
  ·exact qnt p d w hp hz hl hok ht
  ·exact qnu p d w hp hz hl hok ht
  ·exact qmm p d w hp hz hl hok ht
  ·exact qkf p d w hp hz hl hok ht
  ·exact qnv p d w hp hz hl hok ht
  ·exact qjj p d w hp hz hl hok ht
  ·exact qle p d w hp hz hl hok ht
  ·exact qml p d w hp hz hl hok ht
  ·exact qld p d w hp hz hl hok ht
  ·exact qjt p d w hp hz hl hok ht
