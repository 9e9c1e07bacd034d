/- Lemmas. -/
import Derived.Test.YtpjkbgdkligpdaaGreatW28
import Derived.Test.YtpjkbgdkligpdaaGreatW27
import Derived.Test.YtpjkbgdkligpdaaGreatW12
import Derived.Test.YtpjkbgdkligpdaaGreatW24
import Derived.Test.YtpjkbgdkligpdaaGreatW26
set_option linter.unusedVariables false
set_option linter.unusedSimpArgs false
set_option maxRecDepth 100000
set_option maxHeartbeats 20000000
namespace Go.Proofs.YtpjkbgdkligpdaaGreat
open Go.RowKit

abbrev followN : String := "loop.example/g00480/impl.follow"
theorem qhz (v:Value) (w:World):Calls Tryz.prog 37 #[.iface 84 v] w fun e w'=>e=.returned (.int .u8 16)∧Below w.heap.size w w':=by
 go_enter Tryz.func37,Tryz.ntmps37;go_wp2_with fail
 refine (qfc v _).mono ?_;rintro e y ⟨rfl,hy⟩;rw[hy];go_wp2_with fail
 refine (qkr v _).mono ?_;rintro e y2 ⟨rfl,hy2⟩;rw[hy2];go_wp2;go_ret;exact⟨rfl,Below.refl _ _⟩
theorem qhy (v:Value) (w:World):Calls Tryz.prog 37 #[.iface 87 v] w fun e w'=>e=.returned (.int .u8 32)∧Below w.heap.size w w':=by
 go_enter Tryz.func37,Tryz.ntmps37;go_wp2_with fail
 refine (qfb v _).mono ?_;rintro e y ⟨rfl,hy⟩;rw[hy];go_wp2_with fail
 refine (qkq v _).mono ?_;rintro e y2 ⟨rfl,hy2⟩;rw[hy2];go_wp2;go_ret;exact⟨rfl,Below.refl _ _⟩
theorem qjg (v:Value) (w:World):Calls Tryz.prog 37 #[.iface 94 v] w fun e w'=>e=.returned (.int .u8 64)∧Below w.heap.size w w':=by
 go_enter Tryz.func37,Tryz.ntmps37;go_wp2_with fail
 refine (qfz v _).mono ?_;rintro e y ⟨rfl,hy⟩;rw[hy];go_wp2_with fail
 refine (qlr v _).mono ?_;rintro e y2 ⟨rfl,hy2⟩;rw[hy2];go_wp2;go_ret;exact⟨rfl,Below.refl _ _⟩
theorem qjh (v:Value) (w:World):Calls Tryz.prog 37 #[.iface 95 v] w fun e w'=>e=.returned (.int .u8 80)∧Below w.heap.size w w':=by
 go_enter Tryz.func37,Tryz.ntmps37;go_wp2_with fail
 refine (qga v _).mono ?_;rintro e y ⟨rfl,hy⟩;rw[hy];go_wp2_with fail
 refine (qls v _).mono ?_;rintro e y2 ⟨rfl,hy2⟩;rw[hy2];go_wp2;go_ret;exact⟨rfl,Below.refl _ _⟩
theorem qji (v:Value) (w:World):Calls Tryz.prog 37 #[.iface 96 v] w fun e w'=>e=.returned (.int .u8 98)∧Below w.heap.size w w':=by
 go_enter Tryz.func37,Tryz.ntmps37;go_wp2_with fail
 refine (qgb v _).mono ?_;rintro e y ⟨rfl,hy⟩;rw[hy];go_wp2_with fail
 refine (qlt v _).mono ?_;rintro e y2 ⟨rfl,hy2⟩;rw[hy2];go_wp2;go_ret;exact⟨rfl,Below.refl _ _⟩
theorem qib (v:Value) (w:World):Calls Tryz.prog 37 #[.iface 97 v] w fun e w'=>e=.returned (.int .u8 112)∧Below w.heap.size w w':=by
 go_enter Tryz.func37,Tryz.ntmps37;go_wp2_with fail
 refine (qfe v _).mono ?_;rintro e y ⟨rfl,hy⟩;rw[hy];go_wp2_with fail
 refine (qkt v _).mono ?_;rintro e y2 ⟨rfl,hy2⟩;rw[hy2];go_wp2;go_ret;exact⟨rfl,Below.refl _ _⟩
theorem qgr (v:Value) (w:World):Calls Tryz.prog 37 #[.iface 99 v] w fun e w'=>e=.returned (.int .u8 130)∧Below w.heap.size w w':=by
 go_enter Tryz.func37,Tryz.ntmps37;go_wp2_with fail
 refine (qdv v _).mono ?_;rintro e y ⟨rfl,hy⟩;rw[hy];go_wp2_with fail
 refine (qih v _).mono ?_;rintro e y2 ⟨rfl,hy2⟩;rw[hy2];go_wp2;go_ret;exact⟨rfl,Below.refl _ _⟩
theorem qjj (v:Value) (w:World):Calls Tryz.prog 37 #[.iface 101 v] w fun e w'=>e=.returned (.int .u8 144)∧Below w.heap.size w w':=by
 go_enter Tryz.func37,Tryz.ntmps37;go_wp2_with fail
 refine (qgc v _).mono ?_;rintro e y ⟨rfl,hy⟩;rw[hy];go_wp2_with fail
 refine (qlu v _).mono ?_;rintro e y2 ⟨rfl,hy2⟩;rw[hy2];go_wp2;go_ret;exact⟨rfl,Below.refl _ _⟩
theorem qfm (v:Value) (w:World):Calls Tryz.prog 37 #[.iface 103 v] w fun e w'=>e=.returned (.int .u8 162)∧Below w.heap.size w w':=by
 go_enter Tryz.func37,Tryz.ntmps37;go_wp2_with fail
 refine (qdj v _).mono ?_;rintro e y ⟨rfl,hy⟩;rw[hy];go_wp2_with fail
 refine (qgu v _).mono ?_;rintro e y2 ⟨rfl,hy2⟩;rw[hy2];go_wp2;go_ret;exact⟨rfl,Below.refl _ _⟩
theorem qhe (v:Value) (w:World):Calls Tryz.prog 37 #[.iface 104 v] w fun e w'=>e=.returned (.int .u8 176)∧Below w.heap.size w w':=by
 go_enter Tryz.func37,Tryz.ntmps37;go_wp2_with fail
 refine (qem v _).mono ?_;rintro e y ⟨rfl,hy⟩;rw[hy];go_wp2_with fail
 refine (qjq v _).mono ?_;rintro e y2 ⟨rfl,hy2⟩;rw[hy2];go_wp2;go_ret;exact⟨rfl,Below.refl _ _⟩
theorem qia (v:Value) (w:World):Calls Tryz.prog 37 #[.iface 108 v] w fun e w'=>e=.returned (.int .u8 192)∧Below w.heap.size w w':=by
 go_enter Tryz.func37,Tryz.ntmps37;go_wp2_with fail
 refine (qfd v _).mono ?_;rintro e y ⟨rfl,hy⟩;rw[hy];go_wp2_with fail
 refine (qks v _).mono ?_;rintro e y2 ⟨rfl,hy2⟩;rw[hy2];go_wp2;go_ret;exact⟨rfl,Below.refl _ _⟩
theorem qhd (v:Value) (w:World):Calls Tryz.prog 37 #[.iface 109 v] w fun e w'=>e=.returned (.int .u8 208)∧Below w.heap.size w w':=by
 go_enter Tryz.func37,Tryz.ntmps37;go_wp2_with fail
 refine (qel v _).mono ?_;rintro e y ⟨rfl,hy⟩;rw[hy];go_wp2_with fail
 refine (qjp v _).mono ?_;rintro e y2 ⟨rfl,hy2⟩;rw[hy2];go_wp2;go_ret;exact⟨rfl,Below.refl _ _⟩
theorem qgi (v:Value) (w:World):Calls Tryz.prog 37 #[.iface 110 v] w fun e w'=>e=.returned (.int .u8 224)∧Below w.heap.size w w':=by
 go_enter Tryz.func37,Tryz.ntmps37;go_wp2_with fail
 refine (qds v _).mono ?_;rintro e y ⟨rfl,hy⟩;rw[hy];go_wp2_with fail
 refine (qhi v _).mono ?_;rintro e y2 ⟨rfl,hy2⟩;rw[hy2];go_wp2;go_ret;exact⟨rfl,Below.refl _ _⟩
theorem or48 (dup:Bool) (qos:Int) (ret:Bool) (hq:0≤qos∧qos≤2):bits .or .i64 48 (pubL dup qos ret)=48+pubL dup qos ret:=by
 have h:qos=0∨qos=1∨qos=2:=by omega
 rcases h with rfl | rfl | rfl<;>cases dup<;>cases ret<;>decide
theorem pubL_in (dup:Bool) (qos:Int) (ret:Bool) (hq:0≤qos∧qos≤2):0≤pubL dup qos ret∧pubL dup qos ret≤13:=by
 unfold pubL;have:=qdg dup 8 (by omega);have:=qdg ret 1 (by omega);omega
theorem qic (dup:Bool) (qos:Int) (ret:Bool) (id:Int) (top:ByteArray) (b:Sl) (w:World) (hq:0≤qos∧qos≤2) :
  Calls Tryz.prog 37 #[.iface 89 (.agg (pubC dup qos ret id top b))] w fun e w'=>e=.returned (.int .u8 (48+pubL dup qos ret))∧Below w.heap.size w w':=by
 have h1:=or48 dup qos ret hq;have h2:=pubL_in dup qos ret hq;have h3:=fun u=>qku dup qos ret id top b u hq
 generalize pubL dup qos ret=L at h1 h2 h3 ⊢;generalize pubC dup qos ret id top b=cs at h3 ⊢;have H3:Hid (∀u:World,Calls Tryz.prog 60 #[.iface 89 (.agg cs)] u fun e u'=>e=.returned (.int .i64 L)∧Below u.heap.size u u'):=h3;clear h3;have h4:(48+L)%256=48+L:=by omega
 go_enter Tryz.func37,Tryz.ntmps37;go_wp2_with fail
 refine (qff _ _).mono ?_;rintro e y ⟨rfl,hy⟩;rw[hy];go_wp2_with fail
 refine (H3.out _).mono ?_;rintro e y2 ⟨rfl,b2⟩;go_wp2;go_ret;exact⟨rfl,b2⟩
theorem qbp (p:Pk) (d:Pd) (w:World) (hp:PRd w p d) (hz:Psz p d) (hok:(pv p d).ok=true) (T:TypeId) (v:Value) (fF:FuncId) (rv:Value) (L:List UInt8) (N M:Nat) (fb:Int) (hN:L.length=N) (hNb:N≤200000000) (hM:(lenB N).length=M) (hfb:0≤fb∧fb<256)
  (hkind:∀u:World,Calls Tryz.prog 35 #[.agg p.cells] u fun e u'=>e=.returned (.iface T v)∧Below u.heap.size u u')
  (hm:∀u:World,(callMethod (.iface T v) followN #[]).run Tryz.prog u=.ok (.enter fF #[rv]) u)
  (hfol:∀u:World,PRd u p d→Gives fF #[rv] u L)
  (hfirst:∀u:World,Calls Tryz.prog 37 #[.iface T v] u fun e u'=>e=.returned (.int .u8 fb)∧Below u.heap.size u u') :
  Gives 8 #[.agg p.cells] w ([byte fb]++lenB N++L):=by
 unfold Gives;have hm4:=qmy N;have HN:Hid (L.length=N):=hN;have HM:Hid ((lenB N).length=M):=hM;have hM4:M≤4:=by rw[←hM];exact hm4
 have KI:Hid (∀u:World,Calls Tryz.prog 35 #[.agg p.cells] u fun e u'=>e=.returned (.iface T v)∧Below u.heap.size u u'):=hkind;have ME:Hid (∀u:World,(callMethod (.iface T v) followN #[]).run Tryz.prog u=.ok (.enter fF #[rv]) u):=hm;have FO:Hid (∀u:World,PRd u p d→Gives fF #[rv] u L):=hfol;have FI:Hid (∀u:World,Calls Tryz.prog 37 #[.iface T v] u fun e u'=>e=.returned (.int .u8 fb)∧Below u.heap.size u u'):=hfirst;have OK:Hid ((pv p d).ok=true):=hok;have f256:Hid (fb%256=fb):=Int.emod_eq_of_lt hfb.1 hfb.2;clear hN hM hm4 hkind hm hfol hfirst hok;have hb:Below w.heap.size w (w.alloc (.cells p.cells 32)):=qae _ _;have A:Blk (w.alloc (.cells p.cells 32)) w.heap.size p:=heap_alloc_new _ _;replace hp:=hp.below hb;go_enter Tryz.func8,Tryz.ntmps8;go_wp2_with (first | refine qap A rfl _ rfl rfl ?_ | fail)
 refine (qjb p d _ hp hz).mono ?_;rintro e y1 ⟨he,b1⟩;obtain rfl:e=.returned (.bool true):=he.trans (qac OK.out);replace hb:=bel hb b1;replace A:=A.next b1;replace hp:=hp.below b1;clear b1 he;go_wp2_with (first | refine qap A rfl _ rfl rfl ?_ | fail)
 refine (KI.out _).mono ?_;rintro e y2 ⟨rfl,b2⟩;replace hb:=bel hb b2;replace hp:=hp.below b2;clear b2 A;go_wp2_with (first | refine op_call (qaa rfl _) (qfl _ _ _ _ _ _ (ME.out _) _ _ _ _ _ _) ?_ | fail)
 refine (FO.out _ hp).mono ?_;rintro e y3 ⟨a1,n1,c1,rfl,O1,b3⟩;obtain rfl:N=n1:=HN.out.symm.trans O1.1;refine⟨_,rfl,?_⟩;have hb3:=hb.size;replace hb:=bel hb b3;clear b3;go_wp2_with fail
 refine (FI.out _).mono ?_;rintro e y4 ⟨rfl,b4⟩;have hb4:=hb.size;replace hb:=bel hb b4;replace O1:=O1.below b4;clear b4;have OB:=qjd y4 w.heap.size hb.size fb;rw[f256.out] at OB;have b5:=qae y4 (.cells #[.int .u8 fb] 5);replace hb:=bel hb b5;replace O1:=O1.below b5;clear b5;go_wp2_with fail
 refine (qpa M _ 1 1 N [byte fb] _ HM.out OB.rd (by omega)).mono ?_;rintro e y6 ⟨a2,c2,rfl,O2,b6⟩;replace hb:=bel hb b6;replace O1:=O1.below b6;clear b6 OB;go_wp2_with fail
 refine (qbq _ _ _ _ _ _ _ L _ O2.rd O1.rd (by omega) (by omega)).mono ?_;rintro e y7 ⟨a3,c3,rfl,O3,b7⟩;go_wp2;go_ret;exact⟨a3,_,c3,rfl,O3.mono hb.size,bel hb b7⟩
theorem qjl (p:Pk) (d:Pd) (w:World) (hp:PRd w p d) (hz:Psz p d) (hl:Plen p 1048576) (hok:(pv p d).ok=true) (ht:p.ty=1):Gives 8 #[.agg p.cells] w (pv p d).bytes:=by
 have hty:(pv p d).ty=1:=ht;have hZ:=hz;obtain⟨z1,z2,z3,z4,z5,z6⟩:=hz;obtain⟨n1,n2,n3,n4,n5,n6⟩:=hl;have hle:=qcl (pv p d) (show d.bod.length≤_ by rw[hp.1.1.1];exact n1) (show d.wan.length≤_ by rw[hp.2.2.2.1.1.1];exact n4) (show d.nam.length≤_ by rw[hp.2.2.2.2.1.1.1];exact n5) (show d.cds.length≤_ by rw[hp.2.2.2.2.2.1.1];exact n6);have e:(pv p d).rest=conB p.lev p.cli p.cln p.kee p.hw (if p.hw then p.wt else ByteArray.empty) (if p.hw then d.wb else []) (if p.hw then p.wq else 0) (if p.hw then p.wr else false) p.hu (if p.hu then p.us else ByteArray.empty) (p.hu&&p.hp) (if p.hu&&p.hp then d.pa else []):=rest1 hok hty;rw[e] at hle;rw[qbs hok,e,hty,show (pv p d).low=0 by simp[Pv.low,hty]];exact qbp p d w hp hZ hok 84 (.agg (conOf p)) 129 (.agg (conOf p)) _ _ _ 16 rfl hle rfl (by decide) (fun u=>qev p u ht) (fun u=>by kernel_rfl) (fun u hu=>follow_con _ _ _ _ _ _ _ _ _ _ _ _ _ _ _ u (rd_if _ _ hu.2.1) (rd_if _ _ hu.2.2.1) (body1 hok hty) z2 (sz_if _ _ z3) (sz_if _ _ z4)) (fun u=>qhz _ u)
theorem qjk (p:Pk) (d:Pd) (w:World) (hp:PRd w p d) (hz:Psz p d) (hl:Plen p 1048576) (hok:(pv p d).ok=true) (ht:p.ty=2):Gives 8 #[.agg p.cells] w (pv p d).bytes:=by
 have hty:(pv p d).ty=2:=ht;have hZ:=hz;obtain⟨z1,z2,z3,z4,z5,z6⟩:=hz;obtain⟨n1,n2,n3,n4,n5,n6⟩:=hl;have hle:=qcl (pv p d) (show d.bod.length≤_ by rw[hp.1.1.1];exact n1) (show d.wan.length≤_ by rw[hp.2.2.2.1.1.1];exact n4) (show d.nam.length≤_ by rw[hp.2.2.2.2.1.1.1];exact n5) (show d.cds.length≤_ by rw[hp.2.2.2.2.2.1.1];exact n6);have e:(pv p d).rest = [byte (bit (p.pre&&decide (p.cod=0)) 1),byte p.cod]:=rest2 hok hty;rw[e] at hle;rw[qbs hok,e,hty,show (pv p d).low=0 by simp[Pv.low,hty]];exact qbp p d w hp hZ hok 87 (.agg #[.int .i64 p.cod,.bool (p.pre&&decide (p.cod=0))]) 137 (.agg #[.int .i64 p.cod,.bool (p.pre&&decide (p.cod=0))]) _ _ _ 32 rfl hle rfl (by decide) (fun u=>qeu p u ht) (fun u=>by kernel_rfl) (fun u hu=>follow_ack _ _ u) (fun u=>qhy _ u)
theorem qjo (p:Pk) (d:Pd) (w:World) (hp:PRd w p d) (hz:Psz p d) (hl:Plen p 1048576) (hok:(pv p d).ok=true) (ht:p.ty=3):Gives 8 #[.agg p.cells] w (pv p d).bytes:=by
 have hty:(pv p d).ty=3:=ht;have hZ:=hz;obtain⟨z1,z2,z3,z4,z5,z6⟩:=hz;obtain⟨n1,n2,n3,n4,n5,n6⟩:=hl;have hle:=qcl (pv p d) (show d.bod.length≤_ by rw[hp.1.1.1];exact n1) (show d.wan.length≤_ by rw[hp.2.2.2.1.1.1];exact n4) (show d.nam.length≤_ by rw[hp.2.2.2.2.1.1.1];exact n5) (show d.cds.length≤_ by rw[hp.2.2.2.2.2.1.1];exact n6);have hpl:=pubL_in (if 0<p.qos then p.dup else false) p.qos p.ret (body3 hok hty);have e:(pv p d).rest=pubB p.qos (if 0<p.qos then p.id else 0) p.top d.bod:=rest3 hok hty;rw[e] at hle;rw[qbs hok,e,hty,low3 hok hty];exact qbp p d w hp hZ hok 89 (.agg (pubOf p)) 140 (.agg (pubOf p)) _ _ _ (48+pubL (if 0<p.qos then p.dup else false) p.qos p.ret) rfl hle rfl (by omega) (fun u=>qey p u ht) (fun u=>by kernel_rfl) (fun u hu=>follow_pub _ _ _ _ _ _ _ u hu.1 z1 n1) (fun u=>qic _ _ _ _ _ _ u (body3 hok hty))
theorem qkj (p:Pk) (d:Pd) (w:World) (hp:PRd w p d) (hz:Psz p d) (hl:Plen p 1048576) (hok:(pv p d).ok=true) (ht:p.ty=4):Gives 8 #[.agg p.cells] w (pv p d).bytes:=by
 have hty:(pv p d).ty=4:=ht;have hZ:=hz;obtain⟨z1,z2,z3,z4,z5,z6⟩:=hz;obtain⟨n1,n2,n3,n4,n5,n6⟩:=hl;have hle:=qcl (pv p d) (show d.bod.length≤_ by rw[hp.1.1.1];exact n1) (show d.wan.length≤_ by rw[hp.2.2.2.1.1.1];exact n4) (show d.nam.length≤_ by rw[hp.2.2.2.2.1.1.1];exact n5) (show d.cds.length≤_ by rw[hp.2.2.2.2.2.1.1];exact n6);have e:(pv p d).rest=wordB p.id:=restI hok 4 hty (by decide);rw[e] at hle;rw[qbs hok,e,hty,show (pv p d).low=0 by simp[Pv.low,hty]];exact qbp p d w hp hZ hok 94 (.agg #[.int .i64 p.id]) 144 (.agg #[.int .i64 p.id]) _ _ _ 64 rfl hle rfl (by decide) (fun u=>qfo p u ht) (fun u=>by kernel_rfl) (fun u hu=>qfn _ u) (fun u=>qjg _ u)
theorem qkk (p:Pk) (d:Pd) (w:World) (hp:PRd w p d) (hz:Psz p d) (hl:Plen p 1048576) (hok:(pv p d).ok=true) (ht:p.ty=5):Gives 8 #[.agg p.cells] w (pv p d).bytes:=by
 have hty:(pv p d).ty=5:=ht;have hZ:=hz;obtain⟨z1,z2,z3,z4,z5,z6⟩:=hz;obtain⟨n1,n2,n3,n4,n5,n6⟩:=hl;have hle:=qcl (pv p d) (show d.bod.length≤_ by rw[hp.1.1.1];exact n1) (show d.wan.length≤_ by rw[hp.2.2.2.1.1.1];exact n4) (show d.nam.length≤_ by rw[hp.2.2.2.2.1.1.1];exact n5) (show d.cds.length≤_ by rw[hp.2.2.2.2.2.1.1];exact n6);have e:(pv p d).rest=wordB p.id:=restI hok 5 hty (by decide);rw[e] at hle;rw[qbs hok,e,hty,show (pv p d).low=0 by simp[Pv.low,hty]];exact qbp p d w hp hZ hok 95 (.agg #[.int .i64 p.id]) 144 (.agg #[.int .i64 p.id]) _ _ _ 80 rfl hle rfl (by decide) (fun u=>qfp p u ht) (fun u=>by kernel_rfl) (fun u hu=>qfn _ u) (fun u=>qjh _ u)
theorem qkl (p:Pk) (d:Pd) (w:World) (hp:PRd w p d) (hz:Psz p d) (hl:Plen p 1048576) (hok:(pv p d).ok=true) (ht:p.ty=6):Gives 8 #[.agg p.cells] w (pv p d).bytes:=by
 have hty:(pv p d).ty=6:=ht;have hZ:=hz;obtain⟨z1,z2,z3,z4,z5,z6⟩:=hz;obtain⟨n1,n2,n3,n4,n5,n6⟩:=hl;have hle:=qcl (pv p d) (show d.bod.length≤_ by rw[hp.1.1.1];exact n1) (show d.wan.length≤_ by rw[hp.2.2.2.1.1.1];exact n4) (show d.nam.length≤_ by rw[hp.2.2.2.2.1.1.1];exact n5) (show d.cds.length≤_ by rw[hp.2.2.2.2.2.1.1];exact n6);have e:(pv p d).rest=wordB p.id:=restI hok 6 hty (by decide);rw[e] at hle;rw[qbs hok,e,hty,show (pv p d).low=2 by simp[Pv.low,hty]];exact qbp p d w hp hZ hok 96 (.agg #[.int .i64 p.id]) 144 (.agg #[.int .i64 p.id]) _ _ _ 98 rfl hle rfl (by decide) (fun u=>qfq p u ht) (fun u=>by kernel_rfl) (fun u hu=>qfn _ u) (fun u=>qji _ u)
theorem qjn (p:Pk) (d:Pd) (w:World) (hp:PRd w p d) (hz:Psz p d) (hl:Plen p 1048576) (hok:(pv p d).ok=true) (ht:p.ty=7):Gives 8 #[.agg p.cells] w (pv p d).bytes:=by
 have hty:(pv p d).ty=7:=ht;have hZ:=hz;obtain⟨z1,z2,z3,z4,z5,z6⟩:=hz;obtain⟨n1,n2,n3,n4,n5,n6⟩:=hl;have hle:=qcl (pv p d) (show d.bod.length≤_ by rw[hp.1.1.1];exact n1) (show d.wan.length≤_ by rw[hp.2.2.2.1.1.1];exact n4) (show d.nam.length≤_ by rw[hp.2.2.2.2.1.1.1];exact n5) (show d.cds.length≤_ by rw[hp.2.2.2.2.2.1.1];exact n6);have e:(pv p d).rest=wordB p.id:=restI hok 7 hty (by decide);rw[e] at hle;rw[qbs hok,e,hty,show (pv p d).low=0 by simp[Pv.low,hty]];exact qbp p d w hp hZ hok 97 (.agg #[.int .i64 p.id]) 144 (.agg #[.int .i64 p.id]) _ _ _ 112 rfl hle rfl (by decide) (fun u=>qex p u ht) (fun u=>by kernel_rfl) (fun u hu=>qfn _ u) (fun u=>qib _ u)
theorem qhg (p:Pk) (d:Pd) (w:World) (hp:PRd w p d) (hz:Psz p d) (hl:Plen p 1048576) (hok:(pv p d).ok=true) (ht:p.ty=8):Gives 8 #[.agg p.cells] w (pv p d).bytes:=by
 have hty:(pv p d).ty=8:=ht;have hZ:=hz;obtain⟨z1,z2,z3,z4,z5,z6⟩:=hz;obtain⟨n1,n2,n3,n4,n5,n6⟩:=hl;have hle:=qcl (pv p d) (show d.bod.length≤_ by rw[hp.1.1.1];exact n1) (show d.wan.length≤_ by rw[hp.2.2.2.1.1.1];exact n4) (show d.nam.length≤_ by rw[hp.2.2.2.2.1.1.1];exact n5) (show d.cds.length≤_ by rw[hp.2.2.2.2.2.1.1];exact n6);have e:(pv p d).rest=wordB p.id++wanB d.wan:=rest8 hok hty;rw[e] at hle;rw[qbs hok,e,hty,show (pv p d).low=2 by simp[Pv.low,hty]];exact qbp p d w hp hZ hok 99 (.agg #[.int .i64 p.id,.slice p.wan.a p.wan.n p.wan.c]) 147 (.agg #[.int .i64 p.id,.slice p.wan.a p.wan.n p.wan.c]) _ _ _ 130 rfl hle rfl (by decide) (fun u=>qdt p u ht) (fun u=>by kernel_rfl) (fun u hu=>follow_sub _ _ _ u hu.2.2.2.1 z5 n4) (fun u=>qgr _ u)
theorem qkm (p:Pk) (d:Pd) (w:World) (hp:PRd w p d) (hz:Psz p d) (hl:Plen p 1048576) (hok:(pv p d).ok=true) (ht:p.ty=9):Gives 8 #[.agg p.cells] w (pv p d).bytes:=by
 have hty:(pv p d).ty=9:=ht;have hZ:=hz;obtain⟨z1,z2,z3,z4,z5,z6⟩:=hz;obtain⟨n1,n2,n3,n4,n5,n6⟩:=hl;have hle:=qcl (pv p d) (show d.bod.length≤_ by rw[hp.1.1.1];exact n1) (show d.wan.length≤_ by rw[hp.2.2.2.1.1.1];exact n4) (show d.nam.length≤_ by rw[hp.2.2.2.2.1.1.1];exact n5) (show d.cds.length≤_ by rw[hp.2.2.2.2.2.1.1];exact n6);have e:(pv p d).rest=wordB p.id++cdsB d.cds:=rest9 hok hty;rw[e] at hle;rw[qbs hok,e,hty,show (pv p d).low=0 by simp[Pv.low,hty]];exact qbp p d w hp hZ hok 101 (.agg #[.int .i64 p.id,.slice p.cds.a p.cds.n p.cds.c]) 155 (.agg #[.int .i64 p.id,.slice p.cds.a p.cds.n p.cds.c]) _ _ _ 144 rfl hle rfl (by decide) (fun u=>qfr p u ht) (fun u=>by kernel_rfl) (fun u hu=>qou _ _ _ u hu.2.2.2.2.2 n6) (fun u=>qjj _ u)
theorem qgj (p:Pk) (d:Pd) (w:World) (hp:PRd w p d) (hz:Psz p d) (hl:Plen p 1048576) (hok:(pv p d).ok=true) (ht:p.ty=10):Gives 8 #[.agg p.cells] w (pv p d).bytes:=by
 have hty:(pv p d).ty=10:=ht;have hZ:=hz;obtain⟨z1,z2,z3,z4,z5,z6⟩:=hz;obtain⟨n1,n2,n3,n4,n5,n6⟩:=hl;have hle:=qcl (pv p d) (show d.bod.length≤_ by rw[hp.1.1.1];exact n1) (show d.wan.length≤_ by rw[hp.2.2.2.1.1.1];exact n4) (show d.nam.length≤_ by rw[hp.2.2.2.2.1.1.1];exact n5) (show d.cds.length≤_ by rw[hp.2.2.2.2.2.1.1];exact n6);have e:(pv p d).rest=wordB p.id++namB d.nam:=rest10 hok hty;rw[e] at hle;rw[qbs hok,e,hty,show (pv p d).low=2 by simp[Pv.low,hty]];exact qbp p d w hp hZ hok 103 (.agg #[.int .i64 p.id,.slice p.nam.a p.nam.n p.nam.c]) 161 (.agg #[.int .i64 p.id,.slice p.nam.a p.nam.n p.nam.c]) _ _ _ 162 rfl hle rfl (by decide) (fun u=>qdh p u ht) (fun u=>by kernel_rfl) (fun u hu=>follow_uns _ _ _ u hu.2.2.2.2.1 z6 n5) (fun u=>qfm _ u)
theorem qif (p:Pk) (d:Pd) (w:World) (hp:PRd w p d) (hz:Psz p d) (hl:Plen p 1048576) (hok:(pv p d).ok=true) (ht:p.ty=11):Gives 8 #[.agg p.cells] w (pv p d).bytes:=by
 have hty:(pv p d).ty=11:=ht;have hZ:=hz;obtain⟨z1,z2,z3,z4,z5,z6⟩:=hz;obtain⟨n1,n2,n3,n4,n5,n6⟩:=hl;have hle:=qcl (pv p d) (show d.bod.length≤_ by rw[hp.1.1.1];exact n1) (show d.wan.length≤_ by rw[hp.2.2.2.1.1.1];exact n4) (show d.nam.length≤_ by rw[hp.2.2.2.2.1.1.1];exact n5) (show d.cds.length≤_ by rw[hp.2.2.2.2.2.1.1];exact n6);have e:(pv p d).rest=wordB p.id:=restI hok 11 hty (by decide);rw[e] at hle;rw[qbs hok,e,hty,show (pv p d).low=0 by simp[Pv.low,hty]];exact qbp p d w hp hZ hok 104 (.agg #[.int .i64 p.id]) 144 (.agg #[.int .i64 p.id]) _ _ _ 176 rfl hle rfl (by decide) (fun u=>qef p u ht) (fun u=>by kernel_rfl) (fun u hu=>qfn _ u) (fun u=>qhe _ u)
theorem qjm (p:Pk) (d:Pd) (w:World) (hp:PRd w p d) (hz:Psz p d) (hl:Plen p 1048576) (hok:(pv p d).ok=true) (ht:p.ty=12):Gives 8 #[.agg p.cells] w (pv p d).bytes:=by
 have hty:(pv p d).ty=12:=ht;have hZ:=hz;obtain⟨z1,z2,z3,z4,z5,z6⟩:=hz;obtain⟨n1,n2,n3,n4,n5,n6⟩:=hl;have hle:=qcl (pv p d) (show d.bod.length≤_ by rw[hp.1.1.1];exact n1) (show d.wan.length≤_ by rw[hp.2.2.2.1.1.1];exact n4) (show d.nam.length≤_ by rw[hp.2.2.2.2.1.1.1];exact n5) (show d.cds.length≤_ by rw[hp.2.2.2.2.2.1.1];exact n6);have e:(pv p d).rest = []:=restN hok 12 hty (by decide);rw[e] at hle;rw[qbs hok,e,hty,show (pv p d).low=0 by simp[Pv.low,hty]];exact qbp p d w hp hZ hok 108 (.agg #[]) 166 (.agg #[]) _ _ _ 192 rfl hle rfl (by decide) (fun u=>qew p u ht) (fun u=>by kernel_rfl) (fun u hu=>qkf u) (fun u=>qia _ u)
theorem qie (p:Pk) (d:Pd) (w:World) (hp:PRd w p d) (hz:Psz p d) (hl:Plen p 1048576) (hok:(pv p d).ok=true) (ht:p.ty=13):Gives 8 #[.agg p.cells] w (pv p d).bytes:=by
 have hty:(pv p d).ty=13:=ht;have hZ:=hz;obtain⟨z1,z2,z3,z4,z5,z6⟩:=hz;obtain⟨n1,n2,n3,n4,n5,n6⟩:=hl;have hle:=qcl (pv p d) (show d.bod.length≤_ by rw[hp.1.1.1];exact n1) (show d.wan.length≤_ by rw[hp.2.2.2.1.1.1];exact n4) (show d.nam.length≤_ by rw[hp.2.2.2.2.1.1.1];exact n5) (show d.cds.length≤_ by rw[hp.2.2.2.2.2.1.1];exact n6);have e:(pv p d).rest = []:=restN hok 13 hty (by decide);rw[e] at hle;rw[qbs hok,e,hty,show (pv p d).low=0 by simp[Pv.low,hty]];exact qbp p d w hp hZ hok 109 (.agg #[]) 166 (.agg #[]) _ _ _ 208 rfl hle rfl (by decide) (fun u=>qee p u ht) (fun u=>by kernel_rfl) (fun u hu=>qkf u) (fun u=>qhd _ u)
theorem qgt (p:Pk) (d:Pd) (w:World) (hp:PRd w p d) (hz:Psz p d) (hl:Plen p 1048576) (hok:(pv p d).ok=true) (ht:p.ty=14):Gives 8 #[.agg p.cells] w (pv p d).bytes:=by
 have hty:(pv p d).ty=14:=ht;have hZ:=hz;obtain⟨z1,z2,z3,z4,z5,z6⟩:=hz;obtain⟨n1,n2,n3,n4,n5,n6⟩:=hl;have hle:=qcl (pv p d) (show d.bod.length≤_ by rw[hp.1.1.1];exact n1) (show d.wan.length≤_ by rw[hp.2.2.2.1.1.1];exact n4) (show d.nam.length≤_ by rw[hp.2.2.2.2.1.1.1];exact n5) (show d.cds.length≤_ by rw[hp.2.2.2.2.2.1.1];exact n6);have e:(pv p d).rest = []:=restN hok 14 hty (by decide);rw[e] at hle;rw[qbs hok,e,hty,show (pv p d).low=0 by simp[Pv.low,hty]];exact qbp p d w hp hZ hok 110 (.agg #[]) 166 (.agg #[]) _ _ _ 224 rfl hle rfl (by decide) (fun u=>qdo p u ht) (fun u=>by kernel_rfl) (fun u hu=>qkf u) (fun u=>qgi _ u)
theorem iput_no (p:Pk) (d:Pd) (w:World) (hp:PRd w p d) (hz:Psz p d) (hok:(pv p d).ok=false):Gives 8 #[.agg p.cells] w (pv p d).bytes:=by
 rw[qmr hok];unfold Gives;have OK:Hid ((pv p d).ok=false):=hok;clear hok;have hb:Below w.heap.size w (w.alloc (.cells p.cells 32)):=qae _ _;have A:Blk (w.alloc (.cells p.cells 32)) w.heap.size p:=heap_alloc_new _ _;replace hp:=hp.below hb;go_enter Tryz.func8,Tryz.ntmps8;go_wp2_with (first | refine qap A rfl _ rfl rfl ?_ | fail)
 refine (qjb p d _ hp hz).mono ?_;rintro e y1 ⟨he,b1⟩;obtain rfl:e=.returned (.bool false):=he.trans (qac OK.out);replace hb:=bel hb b1;clear b1 he A;go_wp2;go_ret;exact⟨_,_,_,rfl,(qby y1).mono hb.size,bel hb (qae _ _)⟩
theorem qlz (p:Pk) (d:Pd) (w:World) (hp:PRd w p d) (hz:Psz p d) (hl:Plen p 1048576):Gives 8 #[.agg p.cells] w (pv p d).bytes:=by
 cases hok:(pv p d).ok with
 |false=>exact iput_no p d w hp hz hok
 |true=>
  have h:1≤p.ty∧p.ty≤14:=ok_ty hok;have h14:p.ty=1∨p.ty=2∨p.ty=3∨p.ty=4∨p.ty=5∨p.ty=6∨p.ty=7∨p.ty=8∨p.ty=9∨p.ty=10∨p.ty=11∨p.ty=12∨p.ty=13∨p.ty=14:=by omega
  rcases h14 with ht | ht | ht | ht | ht | ht | ht | ht | ht | ht | ht | ht | ht | ht
  ·exact qjl p d w hp hz hl hok ht
  ·exact qjk p d w hp hz hl hok ht
  ·exact qjo p d w hp hz hl hok ht
  ·exact qkj p d w hp hz hl hok ht
  ·exact qkk p d w hp hz hl hok ht
  ·exact qkl p d w hp hz hl hok ht
  ·exact qjn p d w hp hz hl hok ht
  ·exact qhg p d w hp hz hl hok ht
  ·exact qkm p d w hp hz hl hok ht
  ·exact qgj p d w hp hz hl hok ht
  ·exact qif p d w hp hz hl hok ht
  ·exact qjm p d w hp hz hl hok ht
  ·exact qie p d w hp hz hl hok ht
  ·exact qgt p d w hp hz hl hok ht

theorem bytes_le (v:Pv):v.bytes.length≤345:=by
 cases h:v.ok with
 |false=>rw[qmr h];simp
 |true=>
  have h340:=rest_340 h;have hlen:=bytes_len h;have hle:=qmy (v.rest.length:Int);have hh:v.hd=1+(lenB v.rest.length).length:=rfl;omega
theorem qno (l:PL) (i:Nat) (h:i<l.length):allB (pvs (l.take (i+1)))=allB (pvs (l.take i))++(pv (pk l i) (pd l i)).bytes:=by
 rw[pvs_take l i h];simp[allB]
theorem write_i (ao:Option Addr) (n cap:Nat) (l:PL) (w:World) (hr:QRd w ao n cap l) (hn:n≤1048576) (hs:∀x∈l,Psz x.1 x.2∧Plen x.1 1048576) :
  Calls Tryz.prog 17 #[.slice ao n cap] w fun e w'=>∃a m c,e=.returned (.slice a m c)∧Own w' w.heap.size a m c (allB (pvs l))∧m≤n*345∧Below w.heap.size w w':=by
 have HR:Hid (∀u,Below w.heap.size w u→QRd u ao n cap l):=fun u hu=>hr.below hu
 have HL:Hid (l.length=n):=hr.1.1;clear hr;go_enter Tryz.func17,Tryz.ntmps17;go_wp2
 go_loopw [3,9] (fun v i wr=>∃(t:Nat) (a:Option Addr) (m c:Nat),i=.int .i64 t∧v=.slice a m c∧t≤n∧m≤t*345∧Own wr w.heap.size a m c (allB (pvs (l.take t)))∧Below w.heap.size w wr) (fun _ i _=>n-(intOf i).toNat)
 case atStart=>exact⟨0,_,0,_,rfl,rfl,Nat.zero_le _,Nat.le_refl _,qby w,qae _ _⟩
 case round=>
  obtain⟨t,a,m,c,rfl,rfl,ht,hm,hO,hb⟩:=hrel
  by_cases hlt:t<n
  ·have hlt':(t:Int)<n:=by omega
   have hkl:t<l.length:=by rw[HL.out];exact hlt
   obtain⟨b0,off,rfl,hrg⟩:=(HR.out _ hb).1.2 t hlt;have hP:=(HR.out _ hb).2.1 _ (qez hkl);obtain⟨hsz,hln⟩:=hs _ (qez hkl);have HST:=qno l t hkl;have hbl:=bytes_le (pv (pk l t) (pd l t));simp only at hP hsz hln;generalize pk l t=p at hrg hP hsz hln HST hbl;generalize pd l t=d at hP hsz HST hbl;have HS:Hid (allB (pvs (l.take (t+1)))=allB (pvs (l.take t))++(pv p d).bytes):=HST;clear HST;have hix:=idx_p b0 off n cap t hlt;have A:Blk (wr.alloc (.cells p.cells 32)) wr.heap.size p:=heap_alloc_new _ _;have b1:=qae wr (.cells p.cells 32);replace hP:=hP.below b1;replace hO:=hO.below b1;replace hb:=bel hb b1;clear b1;have HKL:Hid (t<l.length):=hkl;clear hkl;go_wp2_with (first | refine qbe (p:=p) rfl rfl ?_ | refine load_mid hrg rfl _ rfl rfl ?_ | refine qap A rfl _ rfl rfl ?_ | fail)
   refine (qlz p d _ hP hsz hln).mono ?_;rintro e u2 ⟨a2,n2,c2,rfl,hO2,b2⟩;have hl2:=hO2.1;have hR2:=hO2.rd;replace hO:=hO.below b2;replace hb:=bel hb b2;have hsb:=hb.size;clear b2 hO2 A hrg hP hix;go_wp2_with (at_builtin;refine w_app _ rfl _ _ rfl w.heap.size _ _ _ _ rfl hO _ _ _ (pv p d).bytes rfl hR2 (by omega) hsb ?_)
   intro a3 c3 w3 hO3 hg3;have hb3:=qas hb hsb hO hg3;rw[←HS.out] at hO3;clear hg3 hO hb hR2;go_wp2;go_roundw
   case rel=>exact⟨t+1,a3,m+n2,c3,by go_num,rfl,by omega,by omega,hO3,hb3⟩
   case measure=>simp[intOf];omega
  ·have hlt':¬(t:Int)<n:=by omega
   obtain rfl:t=n:=by omega
   rw[List.take_of_length_le (by rw[HL.out];omega)] at hO;go_wp2;go_ret;exact⟨a,m,c,rfl,hO,hm,hb⟩

theorem write_s (ao:Option Addr) (n cap:Nat) (l:PL) (w:World) (hr:QRd w ao n cap l) (hn:n≤1048576) (hs:∀x∈l,Psz x.1 x.2∧Plen x.1 1048576) :
  Calls Tryz.prog 15 #[.slice ao n cap] w fun e w'=>∃a m c,e=.returned (.slice a m c)∧Own w' w.heap.size a m c (allB (pvs l))∧m≤n*345∧Below w.heap.size w w':=by
 have HR:Hid (∀u,Below w.heap.size w u→QRd u ao n cap l):=fun u hu=>hr.below hu
 have HL:Hid (l.length=n):=hr.1.1;clear hr;go_enter Tryz.func15,Tryz.ntmps15;go_wp2
 go_loopw [3,4] (fun v i wr=>∃(t:Nat) (a:Option Addr) (m c:Nat),i=.int .i64 t∧v=.slice a m c∧t≤n∧m≤t*345∧Own wr w.heap.size a m c (allB (pvs (l.take t)))∧Below w.heap.size w wr) (fun _ i _=>n-(intOf i).toNat)
 case atStart=>exact⟨0,_,0,_,rfl,rfl,Nat.zero_le _,Nat.le_refl _,qby w,qae _ _⟩
 case round=>
  obtain⟨t,a,m,c,rfl,rfl,ht,hm,hO,hb⟩:=hrel
  by_cases hlt:t<n
  ·have hlt':(t:Int)<n:=by omega
   have hkl:t<l.length:=by rw[HL.out];exact hlt
   obtain⟨b0,off,rfl,hrg⟩:=(HR.out _ hb).1.2 t hlt;have hP:=(HR.out _ hb).2.1 _ (qez hkl);obtain⟨hsz,hln⟩:=hs _ (qez hkl);have HST:=qno l t hkl;have hbl:=bytes_le (pv (pk l t) (pd l t));simp only at hP hsz hln;generalize pk l t=p at hrg hP hsz hln HST hbl;generalize pd l t=d at hP hsz HST hbl;have HS:Hid (allB (pvs (l.take (t+1)))=allB (pvs (l.take t))++(pv p d).bytes):=HST;clear HST;have hix:=idx_p b0 off n cap t hlt;have HKL:Hid (t<l.length):=hkl;clear hkl;go_wp2_with (first | refine load_mid hrg rfl _ rfl rfl ?_ | fail)
   refine Calls.mono (qma p d _ hP hsz hln) ?_;rintro e u2 ⟨a2,n2,c2,rfl,hO2,b2⟩;have hl2:=hO2.1;have hR2:=hO2.rd;replace hO:=hO.below b2;replace hb:=bel hb b2;have hsb:=hb.size;clear b2 hO2 hrg hP hix;go_wp2_with (at_builtin;refine w_app _ rfl _ _ rfl w.heap.size _ _ _ _ rfl hO _ _ _ (pv p d).bytes rfl hR2 (by omega) hsb ?_)
   intro a3 c3 w3 hO3 hg3;have hb3:=qas hb hsb hO hg3;rw[←HS.out] at hO3;clear hg3 hO hb hR2;go_wp2;go_roundw
   case rel=>exact⟨t+1,a3,m+n2,c3,by go_num,rfl,by omega,by omega,hO3,hb3⟩
   case measure=>simp[intOf];omega
  ·have hlt':¬(t:Int)<n:=by omega
   obtain rfl:t=n:=by omega
   rw[List.take_of_length_le (by rw[HL.out];omega)] at hO;go_wp2;go_ret;exact⟨a,m,c,rfl,hO,hm,hb⟩
theorem sum_memQ {α:Type} (f:α→Nat) {l:List α} {x:α} (h:x∈l):f x≤(l.map f).sum:=by
 induction l with
 |nil=>simp at h
 |cons a r ih=>
  simp only[List.map_cons,List.sum_cons]
  rcases List.mem_cons.1 h with rfl | h
  ·omega
  ·have:=ih h;omega
theorem psz_sz (x:Pk×Pd) (h:psz x≤1048576):Psz x.1 x.2:=by
 unfold psz at h;refine⟨by omega,by omega,by omega,by omega,fun y hy=>?_,fun s hs=>?_⟩
 ·have:y.1.size≤wtot x.2.wan:=sum_memQ (fun x:ByteArray×Int=>x.1.size) hy;omega
 ·have:s.size≤tot x.2.nam:=sum_memQ ByteArray.size hs;omega
theorem qd_ok {ds l:PL} {n:Nat} (hl:l.length=n) (h1:ds.length=n) (h2:∀i,i<n→∃x:Re,pk ds i=(pk l i).re x∧pd ds i=pd l i) (h:qtot l≤1048576):∀x∈ds,Psz x.1 x.2∧Plen x.1 1048576:=by
 intro y hy;obtain⟨i,hi,e⟩:=List.mem_iff_getElem.1 hy;obtain⟨x,e1,e2⟩:=h2 i (by omega);have k1:pk ds i=y.1:=by simp[pk,List.getD_eq_getElem?_getD,List.getElem?_eq_getElem hi,e]
 have k2:pd ds i=y.2:=by simp[pd,List.getD_eq_getElem?_getD,List.getElem?_eq_getElem hi,e]
 have hm:=qtot_mem (qez (l:=l) (i:=i) (by omega));have h3:psz (pk l i,pd l i)≤1048576:=by omega
 have hs:=psz_sz _ h3;have hn:=psz_len _ _ h3;rw[←k1,←k2,e1,e2];exact⟨hs,hn⟩
theorem qd_cnt {ds l:PL} {n:Nat} (hl:l.length=n) (h1:ds.length=n) (h2:∀i,i<n→∃x:Re,pk ds i=(pk l i).re x∧pd ds i=pd l i):∀t,t≤n→cntL (ds.take t)≤21*(n+qtot l):=by
 intro t ht
 suffices H:∀t,t≤n→cntL (ds.take t)≤19*t+2*qtot (l.take t) by
  have h:=H t ht;have:qtot (l.take t)≤qtot l:=by
   have e:qtot l=qtot (l.take t)+qtot (l.drop t):=by
    conv=>lhs;rw[←List.take_append_drop t l]
    simp only[qtot,List.map_append,List.sum_append]
   omega
  omega
 intro t
 induction t with
 |zero=>intro _;simp[cntL]
 |succ t ih=>
  intro ht;obtain⟨x,e1,e2⟩:=h2 t (by omega);have hi:t<ds.length:=by omega
  have k1:pk ds t=(ds[t]'hi).1:=by simp[pk,List.getD_eq_getElem?_getD,List.getElem?_eq_getElem hi]
  have hq:=qob l t (by omega);have hc:cntL (ds.take (t+1))=cntL (ds.take t)+cntQ (pk ds t):=by
   rw[k1,List.take_succ_eq_append_getElem hi];simp only[cntL,List.map_append,List.map_cons,List.map_nil,List.sum_append,List.sum_cons,List.sum_nil,Nat.add_zero]
  have hb:cntQ (pk ds t)≤19+2*psz (pk l t,pd l t):=by
   rw[e1];unfold cntQ Pk.cnt psz;simp only[Pk.re];omega
  have:=ih (by omega);omega
