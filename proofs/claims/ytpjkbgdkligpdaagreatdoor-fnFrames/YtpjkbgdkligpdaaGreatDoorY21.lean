/- Lemmas. -/
import Derived.Deep.CutBlock
import Derived.Deep.DeepCutAuto
import Derived.Test.YtpjkbgdkligpdaaGreatDoorY09
import Derived.Test.YtpjkbgdkligpdaaGreatDoorY20
import Derived.Test.YtpjkbgdkligpdaaGreatDoorY01
set_option linter.all false
set_option maxRecDepth 100000
set_option maxHeartbeats 20000000
namespace Go.Proofs.YtpjkbgdkligpdaaGreatDoor
open Go.RowKit

theorem z_idx {P:Program} {o:Oper} {a:Act} {w:World} {K:Act→World→Prop} {Q:Exit→Act→World→Prop} {X Y:Addr} {n c:Nat} {k:Int} (T:TypeId) (x y:Operand) (ho:o.op=.indexAddr T x y) (hx:a.eval x=.slice (some X) n c) (hy:a.eval y=.int .i64 k)
  (hr:∀u:World,(Instr.indexAt T (.slice (some X) n c) (.int .i64 k)).run P u=.ok (.pointer (some Y)) u) (h:K (a.put o.dst (.pointer (some Y))) w):Oper.wp P o a w K Q :=
 qae (w':=w) (by simp only[execOp,ho,hx,hy,Sem.run_bind,hr,Result.andThen_ok,Sem.run_pure]) h
theorem idx_want (b off n c k:Nat) (h:k<n) (u:World):(Instr.indexAt 24 (.slice (some ⟨b,off,none⟩) n c) (.int .i64 (k:Nat))).run Tryz.prog u=.ok (.pointer (some ⟨b,off+k*2,none⟩)) u:=by
 have h1:(0:Int)≤(k:Nat)∧((k:Nat):Int)<n:=by omega
 have h2:(sizeOf (Tryz.prog.elem 24)).run Tryz.prog u=.ok 2 u:=by kernel_rfl
 exact (run_indexAt_slice (P:=Tryz.prog) (w:=u) _ _ _ _ _ _ (by kernel_rfl)).trans (by rw[if_pos h1,h2,Int.toNat_natCast,Result.andThen_ok,Addr.add_lit])
theorem head1 {v:Pv} (h:v.ty=1):v.head=conB v.lev v.cli v.cln v.kee v.hw v.wt v.wb v.wq v.wr v.hu v.us v.hp v.pa:=by unfold Pv.head;rw[if_pos h]
theorem head2 {v:Pv} (h:v.ty=2):v.head = [byte (bit v.pre 1),byte v.cod]:=by unfold Pv.head;rw[if_neg (by omega),if_pos h]
theorem head3 {v:Pv} (h:v.ty=3):v.head=pubB v.qos v.id v.top v.bod:=by unfold Pv.head;rw[if_neg (by omega),if_neg (by omega),if_pos h]
theorem headO {v:Pv} (h1:¬v.ty=1) (h2:¬v.ty=2) (h3:¬v.ty=3):v.head = []:=by unfold Pv.head;rw[if_neg h1,if_neg h2,if_neg h3]
theorem low3p {v:Pv} (h:v.ty=3):v.low=pubL v.dup v.qos v.ret:=by unfold Pv.low;rw[if_pos h]
theorem low2 {v:Pv} (h:v.ty=6∨v.ty=8∨v.ty=10):v.low=2:=by unfold Pv.low;rw[if_neg (by omega),if_pos h]
theorem low0 {v:Pv} (h:¬v.ty=3) (h2:¬(v.ty=6∨v.ty=8∨v.ty=10)):v.low=0:=by unfold Pv.low;rw[if_neg h,if_neg h2]
theorem rest_def (v:Pv):v.rest=v.head++v.idB++wanB v.wan++cdsB v.cds++namB v.nam:=by unfold Pv.rest;rfl
theorem idB1 {v:Pv} (h:v.ty≠3∧0<v.id):v.idB=wordB v.id:=by unfold Pv.idB;rw[if_pos h]
theorem idB0 {v:Pv} (h:¬(v.ty≠3∧0<v.id)):v.idB = []:=by unfold Pv.idB;rw[if_neg h]
theorem qsd {w:World} {B:Nat} {a:Option Addr} {n c:Nat} {L:List UInt8} (h:Own w B a n c L) (f:List UInt8) (hf:f = []):Own w B a n c (L++f):=by
 subst hf;rw[List.append_nil];exact h
theorem con_wq {v:Pv} (h:v.ok=true) (ht:v.ty=1):0≤v.wq∧v.wq≤2:=by
 have e:=congrArg Pv.wq (qev h);rw[qjn v ht] at e;have b:=body1 h ht;have e':v.wq=(if v.hw then v.wq else 0):=e;rw[←e'] at b;exact b
theorem qji (xs:Array Value) (u:World):(callFunc 139 xs).run Tryz.prog u=.ok (.enter 139 xs) u:=by kernel_rfl
theorem cf_spt (xs:Array Value) (u:World):(callFunc 138 xs).run Tryz.prog u=.ok (.enter 138 xs) u:=by kernel_rfl
theorem cf_spw (xs:Array Value) (u:World):(callFunc 140 xs).run Tryz.prog u=.ok (.enter 140 xs) u:=by kernel_rfl
theorem cf_spb (xs:Array Value) (u:World):(callFunc 141 xs).run Tryz.prog u=.ok (.enter 141 xs) u:=by kernel_rfl
theorem qnd (b:Bool) (n:Int) (w:World):Calls Tryz.prog 139 #[.bool b,.int .i64 n] w fun e w'=>e=.returned (.int .i64 (bit b n))∧w'=w:=by
 cases b
 ·go_enter Tryz.func139,Tryz.ntmps139;go_wp2;go_ret;exact⟨rfl,rfl⟩
 ·go_enter Tryz.func139,Tryz.ntmps139;go_wp2;go_ret;exact⟨rfl,rfl⟩
theorem sput_yes (p:Pk) (d:Pd) (w:World) (hp:PRd w p d) (hz:Psz p d) (hl:Plen p 1048576) (hok:(pv p d).ok=true) :
  Gives 90 #[.agg p.cells] w ([byte (16*p.ty+(pv p d).low)]++lenB (pv p d).rest.length++(pv p d).rest):=by
 unfold Gives;obtain⟨z1,z2,z3,z4,z5,z6⟩:=hz;have hz:Hid (Psz p d):=⟨z1,z2,z3,z4,z5,z6⟩;clear z5 z6;obtain⟨n1,n2,n3,n4,n5,n6⟩:=hl;have OK:Hid ((pv p d).ok=true):=hok;have tyb:1≤p.ty∧p.ty≤14:=ok_ty hok;have hle:=qdz (pv p d) (show d.bod.length≤_ by rw[hp.1.1.1];exact n1) (show d.wan.length≤_ by rw[hp.2.2.2.1.1.1];exact n4) (show d.nam.length≤_ by rw[hp.2.2.2.2.1.1.1];exact n5) (show d.cds.length≤_ by rw[hp.2.2.2.2.2.1.1];exact n6);clear hok;have h0:Below w.heap.size w (w.alloc (.cells p.cells 28)):=qac _ _;have A:Blk (w.alloc (.cells p.cells 28)) w.heap.size p:=heap_alloc_new _ _;replace hp:=hp.below h0;go_enter Tryz.func90,Tryz.ntmps90;go_wp2_with (first | refine qaj A rfl _ rfl rfl ?_ | fail)
 refine (qgt p d _ hp hz.out).mono ?_;rintro e y1 ⟨he,b1⟩;obtain rfl:e=.returned (.bool true):=he.trans (qad OK.out);obtain⟨cs,hcs⟩ : ∃cs,p.cells=cs:=⟨_,rfl⟩;have k0:Hid (cs[0]? = some (.int .i64 p.ty)):=by show cs[0]? = _;rw[←hcs];exact p.c0
 have k1:Hid (cs[1]? = some (.bool p.dup)):=by show cs[1]? = _;rw[←hcs];exact p.c1
 have k2:Hid (cs[2]? = some (.int .i64 p.qos)):=by show cs[2]? = _;rw[←hcs];exact p.c2
 have k3:Hid (cs[3]? = some (.bool p.ret)):=by show cs[3]? = _;rw[←hcs];exact p.c3
 have k4:Hid (cs[4]? = some (.int .i64 p.id)):=by show cs[4]? = _;rw[←hcs];exact p.c4
 have k5:Hid (cs[5]? = some (.string p.top)):=by show cs[5]? = _;rw[←hcs];exact p.c5
 have k6:Hid (cs[6]? = some (.slice p.bod.a p.bod.n p.bod.c)):=by show cs[6]? = _;rw[←hcs];exact p.c6
 have k7:Hid (cs[7]? = some (.string p.cli)):=by show cs[7]? = _;rw[←hcs];exact p.c7
 have k8:Hid (cs[8]? = some (.int .i64 p.lev)):=by show cs[8]? = _;rw[←hcs];exact p.c8
 have k9:Hid (cs[9]? = some (.bool p.cln)):=by show cs[9]? = _;rw[←hcs];exact p.c9
 have k10:Hid (cs[10]? = some (.int .i64 p.kee)):=by show cs[10]? = _;rw[←hcs];exact p.c10
 have k11:Hid (cs[11]? = some (.bool p.hw)):=by show cs[11]? = _;rw[←hcs];exact p.c11
 have k12:Hid (cs[12]? = some (.string p.wt)):=by show cs[12]? = _;rw[←hcs];exact p.c12
 have k13:Hid (cs[13]? = some (.slice p.wb.a p.wb.n p.wb.c)):=by show cs[13]? = _;rw[←hcs];exact p.c13
 have k14:Hid (cs[14]? = some (.int .i64 p.wq)):=by show cs[14]? = _;rw[←hcs];exact p.c14
 have k15:Hid (cs[15]? = some (.bool p.wr)):=by show cs[15]? = _;rw[←hcs];exact p.c15
 have k16:Hid (cs[16]? = some (.bool p.hu)):=by show cs[16]? = _;rw[←hcs];exact p.c16
 have k17:Hid (cs[17]? = some (.string p.us)):=by show cs[17]? = _;rw[←hcs];exact p.c17
 have k18:Hid (cs[18]? = some (.bool p.hp)):=by show cs[18]? = _;rw[←hcs];exact p.c18
 have k19:Hid (cs[19]? = some (.slice p.pa.a p.pa.n p.pa.c)):=by show cs[19]? = _;rw[←hcs];exact p.c19
 have k20:Hid (cs[20]? = some (.int .i64 p.cod)):=by show cs[20]? = _;rw[←hcs];exact p.c20
 have k21:Hid (cs[21]? = some (.bool p.pre)):=by show cs[21]? = _;rw[←hcs];exact p.c21
 have k22:Hid (cs[22]? = some (.slice p.wan.a p.wan.n p.wan.c)):=by show cs[22]? = _;rw[←hcs];exact p.c22
 have k23:Hid (cs[23]? = some (.slice p.nam.a p.nam.n p.nam.c)):=by show cs[23]? = _;rw[←hcs];exact p.c23
 have k24:Hid (cs[24]? = some (.slice p.cds.a p.cds.n p.cds.c)):=by show cs[24]? = _;rw[←hcs];exact p.c24
 have R0:Row (w.alloc (.cells p.cells 28)) w.heap.size cs 28:=by rw[←hcs];exact A
 obtain⟨v0,H0,R0,hp0,hv⟩ : ∃v0,Hid (Below w.heap.size w v0)∧Row v0 w.heap.size cs 28∧PRd v0 p d∧Below v0.heap.size v0 y1:=⟨_,h0,R0,hp,b1⟩;clear A hp b1 h0 he hcs;have f0:=(R0.next hv).cell 0 k0.out;have f0b:=((R0.next hv).next (qac y1 (.cells #[] 5))).cell 0 k0.out;have hmul:IntKind.i64.wrap (16*p.ty)=16*p.ty:=by rw[qay]<;>omega
 go_upto_block 0 with fail
 have O0:Own (y1.alloc (.cells #[] 5)) v0.heap.size (some ⟨y1.heap.size,0,none⟩) 0 0 []:=(qbm y1).mono hv.size;replace hv:=bel hv (qac y1 (.cells #[] 5));clear f0 f0b;obtain⟨yy,hyy⟩ : ∃yy,y1.alloc (.cells #[] 5)=yy:=⟨_,rfl⟩;obtain⟨a0,ha0⟩ : ∃a0,some (⟨y1.heap.size,0,none⟩ : Addr)=a0:=⟨_,rfl⟩;rw[ha0,hyy] at O0;rw[hyy] at hv;simp only[ha0,hyy];clear ha0 hyy;have R:=R0.next hv
 go_cut [3,4] (fun f b wc=>∃(a:Option Addr) (n c:Nat),f=.int .i64 (16*p.ty+(pv p d).low)∧b=.slice a n c∧Own wc v0.heap.size a n c (pv p d).head∧n≤2000000∧Below v0.heap.size v0 wc)
 case first=>
  have hc:p.ty=1∨p.ty=2∨p.ty=3∨p.ty=6∨p.ty=8∨p.ty=10∨(p.ty≠1∧p.ty≠2∧p.ty≠3∧p.ty≠6∧p.ty≠8∧p.ty≠10):=by omega
  rcases hc with ht | ht | ht | ht | ht | ht | ht
  ·as_aux_lemma=>
    have c1:(p.ty==1)=true:=by simp;omega
    have c2:(p.ty==2)=false:=by simp;omega
    have c3:(p.ty==3)=false:=by simp;omega
    have c6:(p.ty==6)=false:=by simp;omega
    have c8:(p.ty==8)=false:=by simp;omega
    have c10:(p.ty==10)=false:=by simp;omega
    have hq:0≤p.wq∧p.wq≤2:=con_wq OK.out ht;have i1:=qds p.cln 2 (by omega);have i2:=qds p.hw 4 (by omega);have i3:=qds p.wr 32 (by omega);have i4:=qds p.hp 64 (by omega);have i5:=qds p.hu 128 (by omega);have HH:Hid ((pv p d).head=conB p.lev p.cli p.cln p.kee p.hw p.wt d.wb p.wq p.wr p.hu p.us p.hp d.pa):=head1 (v:=pv p d) ht;have HL:Hid ((pv p d).low=0):=low0 (v:=pv p d) (show ¬p.ty=3 by omega) (show ¬(p.ty=6∨p.ty=8∨p.ty=10) by omega);clear ht;go_wp2;refine qcw 6 (by kernel_rfl) rfl (fun i u x=>match i with
     |0=>u=.slice a0 0 0
     |1=>∃ao n cap,u=.slice ao n cap∧Own x v0.heap.size ao n cap (pT mqtt)
     |2=>u=.pointer (some ⟨w.heap.size,8,none⟩)
     |3=>u=.int .i64 (p.lev)
     |4=>u=.int .u8 ((p.lev)%256)
     |5=>∃ao n cap,u=.slice ao n cap∧Own x v0.heap.size ao n cap ([byte p.lev])
     |_=>True) ?_ ?_ ?_
    ·intro i u x x' hx h
     match i,h with
     |0,h=>exact h
     |1,h=>(obtain⟨ao,n,cap,e,ho⟩:=h;exact⟨ao,n,cap,e,ho.below hx⟩)
     |2,h|3,h|4,h=>exact h
     |5,h=>(obtain⟨ao,n,cap,e,ho⟩:=h;exact⟨ao,n,cap,e,ho.below hx⟩)
     |(_+6),h=>trivial
    ·intro i o a u hi hk hbu hdep;replace hdep:=qhdd hdep
     match i,hi with
     |0,hi=>cases hi;exact qggo rfl (qae (v:=_) (w':=u) (by first | (simp[execOp,qab ((hk.at 4 rfl).trans rfl)];done) | (simp[execOp,qab ((hk.at 4 rfl).trans rfl)];rfl)) (qzqq rfl))
     |1,hi=>cases hi;obtain⟨z0,hz0,rfl⟩:=hdep 0 rfl;refine qggo rfl (qal (qak _ _ _ _ _ _ _ _ cf_spt (qab hz0) (rfl) (fun _=>rfl) _ _ _ _ _ _) ?_);refine (qcz _ _ _ mqtt _ u (O0.below hbu).rd (by omega) (by decide)).mono ?_;rintro e u' ⟨a1,n1,c1,rfl,o1,b1⟩;exact⟨_,rfl,_,rfl,b1,a1,n1,c1,rfl,(show Own _ _ _ _ _ (pT mqtt) by rw[qdo] at o1;exact o1).mono (Nat.le_trans hv.size hbu.size)⟩
     |2,hi=>cases hi;exact qggo rfl (z_fld (X:=⟨w.heap.size,0,none⟩) (Y:=⟨w.heap.size,8,none⟩) 28 _ 8 rfl (qevv hk 1 rfl rfl) (fun _=>by kernel_rfl) (qzqq rfl))
     |3,hi=>cases hi;obtain⟨z2,hz2,rfl⟩:=hdep 2 rfl;exact qggo rfl (z_ld 3 _ rfl (qab hz2) (by kernel_rfl) ((R.next hbu).cell 8 k8.out) (qzqq rfl))
     |4,hi=>cases hi;obtain⟨z3,hz3,rfl⟩:=hdep 3 rfl;exact qggo rfl (qgp _ _ _ rfl (qab hz3) (cvb _ _) (qzqq rfl))
     |5,hi=>cases hi;obtain⟨z4,hz4,rfl⟩:=hdep 4 rfl;exact qggo rfl (z_mk _ _ rfl (by simp[qab hz4]) (mkb1 _ _) ⟨_,rfl,qac _ _,⟨_,_,_,rfl,qni u _ (Nat.le_trans hv.size hbu.size) _⟩⟩)
     |(_+6),hi=>cases hi
    intro vs y2 b3 hG a3_ h3;obtain⟨a1,n1,c1,e1,O1⟩:=hG 1 (by decide);obtain⟨a2,n2,c2,e5,O2⟩:=hG 5 (by decide);clear hG;replace h3:puts _ 2 _ (Fq204)=_:=h3;replace h3:puts _ 4 _ (Fq204)=_:=h3;replace h3:Fq204=_:=h3;unfold Fq204 at h3;subst h3;simp only[List.drop_succ_cons,List.drop_zero];simp only[e1,e5];obtain rfl:n2=1:=by have:=O2.1;simpa using this.symm
    have s1:n1≤62:=by have:=O1.1;have:=pT_le mqtt;omega
    replace hv:=bel hv b3;replace R:=R.next b3;clear b3;clear e1 e5 O0;go_wp2_with (at_builtin;refine w_app _ rfl _ _ rfl v0.heap.size _ _ _ _ rfl O1 _ _ _ _ rfl O2.rd (by omega) hv.size ?_)
    intro a3 c3 y3 O3 hg;replace hv:=qba hv hv.size O1 hg;clear hg O1 O2;have R:=R0.next hv;go_wp2;refine qcw 26 (by kernel_rfl) rfl (fun i u x=>match i with
     |0=>u=.slice a3 (n1+1) c3
     |1=>u=.pointer (some ⟨w.heap.size,9,none⟩)
     |2=>u=.bool p.cln
     |3=>u=.int .i64 (bit p.cln 2)
     |4=>u=.pointer (some ⟨w.heap.size,11,none⟩)
     |5=>u=.bool p.hw
     |6=>u=.int .i64 (bit p.hw 4)
     |7=>u=.int .i64 (bit p.cln 2+bit p.hw 4)
     |8=>u=.pointer (some ⟨w.heap.size,14,none⟩)
     |9=>u=.int .i64 (p.wq)
     |10=>u=.int .i64 (8*p.wq)
     |11=>u=.int .i64 (bit p.cln 2+bit p.hw 4+8*p.wq)
     |12=>u=.pointer (some ⟨w.heap.size,15,none⟩)
     |13=>u=.bool p.wr
     |14=>u=.int .i64 (bit p.wr 32)
     |15=>u=.int .i64 (bit p.cln 2+bit p.hw 4+8*p.wq+bit p.wr 32)
     |16=>u=.pointer (some ⟨w.heap.size,18,none⟩)
     |17=>u=.bool p.hp
     |18=>u=.int .i64 (bit p.hp 64)
     |19=>u=.int .i64 (bit p.cln 2+bit p.hw 4+8*p.wq+bit p.wr 32+bit p.hp 64)
     |20=>u=.pointer (some ⟨w.heap.size,16,none⟩)
     |21=>u=.bool p.hu
     |22=>u=.int .i64 (bit p.hu 128)
     |23=>u=.int .i64 (bit p.cln 2+bit p.hw 4+8*p.wq+bit p.wr 32+bit p.hp 64+bit p.hu 128)
     |24=>u=.int .u8 ((bit p.cln 2+bit p.hw 4+8*p.wq+bit p.wr 32+bit p.hp 64+bit p.hu 128)%256)
     |25=>∃ao n cap,u=.slice ao n cap∧Own x v0.heap.size ao n cap ([byte (bit p.cln 2+bit p.hw 4+8*p.wq+bit p.wr 32+bit p.hp 64+bit p.hu 128)])
     |_=>True) ?_ ?_ ?_
    ·intro i u x x' hx h
     match i,h with
     |0,h|1,h|2,h|3,h|4,h|5,h|6,h|7,h|8,h|9,h|10,h|11,h|12,h|13,h|14,h|15,h|16,h|17,h|18,h|19,h|20,h|21,h|22,h|23,h|24,h=>exact h
     |25,h=>(obtain⟨ao,n,cap,e,ho⟩:=h;exact⟨ao,n,cap,e,ho.below hx⟩)
     |(_+26),h=>trivial
    ·intro i o a u hi hk hbu hdep;replace hdep:=qhdd hdep
     match i,hi with
     |0,hi=>cases hi;exact qggo rfl (qae (v:=_) (w':=u) (by first | (simp[execOp,qab ((hk.at 4 rfl).trans rfl)];done) | (simp[execOp,qab ((hk.at 4 rfl).trans rfl)];rfl)) (qzqq rfl))
     |1,hi=>cases hi;exact qggo rfl (z_fld (X:=⟨w.heap.size,0,none⟩) (Y:=⟨w.heap.size,9,none⟩) 28 _ 9 rfl (qevv hk 1 rfl rfl) (fun _=>by kernel_rfl) (qzqq rfl))
     |2,hi=>cases hi;obtain⟨z1,hz1,rfl⟩:=hdep 1 rfl;exact qggo rfl (z_ld 4 _ rfl (qab hz1) (by kernel_rfl) ((R.next hbu).cell 9 k9.out) (qzqq rfl))
     |3,hi=>cases hi;obtain⟨z2,hz2,rfl⟩:=hdep 2 rfl;refine qggo rfl (qal (qak _ _ _ _ _ _ _ _ qji (qab hz2) (rfl) (fun _=>rfl) _ _ _ _ _ _) ?_);refine (qnd p.cln 2 u).mono ?_;rintro e u' ⟨rfl,hu⟩;exact⟨_,rfl,_,rfl,hu ▸ Below.refl _ _,rfl⟩
     |4,hi=>cases hi;exact qggo rfl (z_fld (X:=⟨w.heap.size,0,none⟩) (Y:=⟨w.heap.size,11,none⟩) 28 _ 11 rfl (qevv hk 1 rfl rfl) (fun _=>by kernel_rfl) (qzqq rfl))
     |5,hi=>cases hi;obtain⟨z4,hz4,rfl⟩:=hdep 4 rfl;exact qggo rfl (z_ld 4 _ rfl (qab hz4) (by kernel_rfl) ((R.next hbu).cell 11 k11.out) (qzqq rfl))
     |6,hi=>cases hi;obtain⟨z5,hz5,rfl⟩:=hdep 5 rfl;refine qggo rfl (qal (qak _ _ _ _ _ _ _ _ qji (qab hz5) (rfl) (fun _=>rfl) _ _ _ _ _ _) ?_);refine (qnd p.hw 4 u).mono ?_;rintro e u' ⟨rfl,hu⟩;exact⟨_,rfl,_,rfl,hu ▸ Below.refl _ _,rfl⟩
     |7,hi=>cases hi;obtain⟨z3,hz3,rfl⟩:=hdep 3 rfl;obtain⟨z6,hz6,rfl⟩:=hdep 6 rfl;exact qggo rfl (z_bin _ _ _ _ _ rfl (qab hz3) (qab hz6) (addi _ _ _ _ _ (by rw[qay]<;>omega)) (qzqq rfl))
     |8,hi=>cases hi;exact qggo rfl (z_fld (X:=⟨w.heap.size,0,none⟩) (Y:=⟨w.heap.size,14,none⟩) 28 _ 14 rfl (qevv hk 1 rfl rfl) (fun _=>by kernel_rfl) (qzqq rfl))
     |9,hi=>cases hi;obtain⟨z8,hz8,rfl⟩:=hdep 8 rfl;exact qggo rfl (z_ld 3 _ rfl (qab hz8) (by kernel_rfl) ((R.next hbu).cell 14 k14.out) (qzqq rfl))
     |10,hi=>cases hi;obtain⟨z9,hz9,rfl⟩:=hdep 9 rfl;exact qggo rfl (z_bin _ _ _ _ _ rfl (rfl) (qab hz9) (muli _ _ _ _ _ (by rw[qay]<;>omega)) (qzqq rfl))
     |11,hi=>cases hi;obtain⟨z7,hz7,rfl⟩:=hdep 7 rfl;obtain⟨z10,hz10,rfl⟩:=hdep 10 rfl;exact qggo rfl (z_bin _ _ _ _ _ rfl (qab hz7) (qab hz10) (addi _ _ _ _ _ (by rw[qay]<;>omega)) (qzqq rfl))
     |12,hi=>cases hi;exact qggo rfl (z_fld (X:=⟨w.heap.size,0,none⟩) (Y:=⟨w.heap.size,15,none⟩) 28 _ 15 rfl (qevv hk 1 rfl rfl) (fun _=>by kernel_rfl) (qzqq rfl))
     |13,hi=>cases hi;obtain⟨z12,hz12,rfl⟩:=hdep 12 rfl;exact qggo rfl (z_ld 4 _ rfl (qab hz12) (by kernel_rfl) ((R.next hbu).cell 15 k15.out) (qzqq rfl))
     |14,hi=>cases hi;obtain⟨z13,hz13,rfl⟩:=hdep 13 rfl;refine qggo rfl (qal (qak _ _ _ _ _ _ _ _ qji (qab hz13) (rfl) (fun _=>rfl) _ _ _ _ _ _) ?_);refine (qnd p.wr 32 u).mono ?_;rintro e u' ⟨rfl,hu⟩;exact⟨_,rfl,_,rfl,hu ▸ Below.refl _ _,rfl⟩
     |15,hi=>cases hi;obtain⟨z11,hz11,rfl⟩:=hdep 11 rfl;obtain⟨z14,hz14,rfl⟩:=hdep 14 rfl;exact qggo rfl (z_bin _ _ _ _ _ rfl (qab hz11) (qab hz14) (addi _ _ _ _ _ (by rw[qay]<;>omega)) (qzqq rfl))
     |16,hi=>cases hi;exact qggo rfl (z_fld (X:=⟨w.heap.size,0,none⟩) (Y:=⟨w.heap.size,18,none⟩) 28 _ 18 rfl (qevv hk 1 rfl rfl) (fun _=>by kernel_rfl) (qzqq rfl))
     |17,hi=>cases hi;obtain⟨z16,hz16,rfl⟩:=hdep 16 rfl;exact qggo rfl (z_ld 4 _ rfl (qab hz16) (by kernel_rfl) ((R.next hbu).cell 18 k18.out) (qzqq rfl))
     |18,hi=>cases hi;obtain⟨z17,hz17,rfl⟩:=hdep 17 rfl;refine qggo rfl (qal (qak _ _ _ _ _ _ _ _ qji (qab hz17) (rfl) (fun _=>rfl) _ _ _ _ _ _) ?_);refine (qnd p.hp 64 u).mono ?_;rintro e u' ⟨rfl,hu⟩;exact⟨_,rfl,_,rfl,hu ▸ Below.refl _ _,rfl⟩
     |19,hi=>cases hi;obtain⟨z15,hz15,rfl⟩:=hdep 15 rfl;obtain⟨z18,hz18,rfl⟩:=hdep 18 rfl;exact qggo rfl (z_bin _ _ _ _ _ rfl (qab hz15) (qab hz18) (addi _ _ _ _ _ (by rw[qay]<;>omega)) (qzqq rfl))
     |20,hi=>cases hi;exact qggo rfl (z_fld (X:=⟨w.heap.size,0,none⟩) (Y:=⟨w.heap.size,16,none⟩) 28 _ 16 rfl (qevv hk 1 rfl rfl) (fun _=>by kernel_rfl) (qzqq rfl))
     |21,hi=>cases hi;obtain⟨z20,hz20,rfl⟩:=hdep 20 rfl;exact qggo rfl (z_ld 4 _ rfl (qab hz20) (by kernel_rfl) ((R.next hbu).cell 16 k16.out) (qzqq rfl))
     |22,hi=>cases hi;obtain⟨z21,hz21,rfl⟩:=hdep 21 rfl;refine qggo rfl (qal (qak _ _ _ _ _ _ _ _ qji (qab hz21) (rfl) (fun _=>rfl) _ _ _ _ _ _) ?_);refine (qnd p.hu 128 u).mono ?_;rintro e u' ⟨rfl,hu⟩;exact⟨_,rfl,_,rfl,hu ▸ Below.refl _ _,rfl⟩
     |23,hi=>cases hi;obtain⟨z19,hz19,rfl⟩:=hdep 19 rfl;obtain⟨z22,hz22,rfl⟩:=hdep 22 rfl;exact qggo rfl (z_bin _ _ _ _ _ rfl (qab hz19) (qab hz22) (addi _ _ _ _ _ (by rw[qay]<;>omega)) (qzqq rfl))
     |24,hi=>cases hi;obtain⟨z23,hz23,rfl⟩:=hdep 23 rfl;exact qggo rfl (qgp _ _ _ rfl (qab hz23) (cvb _ _) (qzqq rfl))
     |25,hi=>cases hi;obtain⟨z24,hz24,rfl⟩:=hdep 24 rfl;exact qggo rfl (z_mk _ _ rfl (by simp[qab hz24]) (mkb1 _ _) ⟨_,rfl,qac _ _,⟨_,_,_,rfl,qni u _ (Nat.le_trans hv.size hbu.size) _⟩⟩)
     |(_+26),hi=>cases hi
    intro vs y4 b3 hG a3_ h3;have e0:=hG 0 (by decide);obtain⟨a5,n5,c5,e5,O5⟩:=hG 25 (by decide);clear hG;replace h3:puts _ 2 _ (Fq204)=_:=h3;replace h3:puts _ 4 _ (Fq204)=_:=h3;replace h3:puts _ 6 _ (Fq204)=_:=h3;replace h3:puts _ 8 _ (Fq204)=_:=h3;replace h3:puts _ 10 _ (Fq204)=_:=h3;replace h3:puts _ 12 _ (Fq204)=_:=h3;replace h3:puts _ 14 _ (Fq204)=_:=h3;replace h3:puts _ 16 _ (Fq204)=_:=h3;replace h3:puts _ 18 _ (Fq204)=_:=h3;replace h3:puts _ 20 _ (Fq204)=_:=h3;replace h3:puts _ 22 _ (Fq204)=_:=h3;replace h3:puts _ 24 _ (Fq204)=_:=h3;replace h3:Fq204=_:=h3;unfold Fq204 at h3;subst h3;simp only[List.drop_succ_cons,List.drop_zero];replace e0:vs 0=.slice a3 (n1+1) c3:=e0;simp only[e0,e5];obtain rfl:n5=1:=by have:=O5.1;simpa using this.symm
    replace hv:=bel hv b3;replace R:=R.next b3;replace O3:=O3.below b3;clear b3;clear e0 e5;go_wp2_with (at_builtin;refine w_app _ rfl _ _ rfl v0.heap.size _ _ _ _ rfl O3 _ _ _ _ rfl O5.rd (by omega) hv.size ?_)
    intro a6 c6 y6 O6 hg;replace hv:=qba hv hv.size O3 hg;clear hg O3 O5;have R:=R0.next hv;obtain⟨L,hL⟩ : ∃L,pT mqtt++[byte p.lev,byte (bit p.cln 2+bit p.hw 4+8*p.wq+bit p.wr 32+bit p.hp 64+bit p.hu 128)]=L:=⟨_,rfl⟩;have HB:Hid (conB p.lev p.cli p.cln p.kee p.hw p.wt d.wb p.wq p.wr p.hu p.us p.hp d.pa=L++wordB p.kee++pT p.cli++(if p.hw then pT p.wt++pB d.wb else [])++(if p.hu then pT p.us else [])++(if p.hp then pB d.pa else [])):=by rw[←hL];rfl
    rw[hL] at O6;clear hL;have O:=O6;clear O6;go_wp2;refine qcw 7 (by kernel_rfl) rfl (fun i u x=>match i with
     |0=>u=.slice a6 (n1+1+1) c6
     |1=>u=.pointer (some ⟨w.heap.size,10,none⟩)
     |2=>u=.int .i64 (p.kee)
     |3=>∃ao n cap,u=.slice ao n cap∧Own x v0.heap.size ao n cap (L++wordB p.kee)
     |4=>u=.pointer (some ⟨w.heap.size,7,none⟩)
     |5=>u=.string p.cli
     |6=>∃ao n cap,u=.slice ao n cap∧Own x v0.heap.size ao n cap (L++wordB p.kee++pT p.cli)
     |_=>True) ?_ ?_ ?_
    ·intro i u x x' hx h
     match i,h with
     |0,h|1,h|2,h=>exact h
     |3,h=>(obtain⟨ao,n,cap,e,ho⟩:=h;exact⟨ao,n,cap,e,ho.below hx⟩)
     |4,h|5,h=>exact h
     |6,h=>(obtain⟨ao,n,cap,e,ho⟩:=h;exact⟨ao,n,cap,e,ho.below hx⟩)
     |(_+7),h=>trivial
    ·intro i o a u hi hk hbu hdep;replace hdep:=qhdd hdep
     match i,hi with
     |0,hi=>cases hi;exact qggo rfl (qae (v:=_) (w':=u) (by first | (simp[execOp,qab ((hk.at 4 rfl).trans rfl)];done) | (simp[execOp,qab ((hk.at 4 rfl).trans rfl)];rfl)) (qzqq rfl))
     |1,hi=>cases hi;exact qggo rfl (z_fld (X:=⟨w.heap.size,0,none⟩) (Y:=⟨w.heap.size,10,none⟩) 28 _ 10 rfl (qevv hk 1 rfl rfl) (fun _=>by kernel_rfl) (qzqq rfl))
     |2,hi=>cases hi;obtain⟨z1,hz1,rfl⟩:=hdep 1 rfl;exact qggo rfl (z_ld 3 _ rfl (qab hz1) (by kernel_rfl) ((R.next hbu).cell 10 k10.out) (qzqq rfl))
     |3,hi=>cases hi;obtain⟨z0,hz0,rfl⟩:=hdep 0 rfl;obtain⟨z2,hz2,rfl⟩:=hdep 2 rfl;refine qggo rfl (qal (qak _ _ _ _ _ _ _ _ cf_spw (qab hz0) (qab hz2) (fun _=>rfl) _ _ _ _ _ _) ?_);refine (qfq _ _ _ p.kee _ u (O.below hbu).rd (by omega)).mono ?_;rintro e u' ⟨a1,c1,rfl,o1,b1⟩;exact⟨_,rfl,_,rfl,b1,a1,_,c1,rfl,o1.mono (Nat.le_trans hv.size hbu.size)⟩
     |4,hi=>cases hi;exact qggo rfl (z_fld (X:=⟨w.heap.size,0,none⟩) (Y:=⟨w.heap.size,7,none⟩) 28 _ 7 rfl (qevv hk 1 rfl rfl) (fun _=>by kernel_rfl) (qzqq rfl))
     |5,hi=>cases hi;obtain⟨z4,hz4,rfl⟩:=hdep 4 rfl;exact qggo rfl (z_ld 9 _ rfl (qab hz4) (by kernel_rfl) ((R.next hbu).cell 7 k7.out) (qzqq rfl))
     |6,hi=>cases hi;obtain⟨z3,hz3,hg3⟩:=hdep 3 rfl;obtain⟨ao3,n3,cap3,rfl,ho3⟩:=hg3;obtain⟨z5,hz5,rfl⟩:=hdep 5 rfl;refine qggo rfl (qal (qak _ _ _ _ _ _ _ _ cf_spt (qab hz3) (qab hz5) (fun _=>rfl) _ _ _ _ _ _) ?_);refine (qcz _ _ _ p.cli _ u ho3.rd (by have h1:=ho3.1;have h2:=O.1;rw[List.length_append,qbe] at h1;omega) (by omega)).mono ?_;rintro e u' ⟨a1,n1,c1,rfl,o1,b1⟩;exact⟨_,rfl,_,rfl,b1,a1,n1,c1,rfl,(show Own _ _ _ _ _ (L++wordB p.kee++pT p.cli) by rw[qdo] at o1;exact o1).mono (Nat.le_trans hv.size hbu.size)⟩
     |(_+7),hi=>cases hi
    intro vs y7 b3 hG a3_ h3;obtain⟨a,n,c,e6,O9⟩:=hG 6 (by decide);clear hG;replace h3:puts _ 2 _ (Fq204)=_:=h3;replace h3:puts _ 4 _ (Fq204)=_:=h3;replace h3:puts _ 6 _ (Fq204)=_:=h3;replace h3:Fq204=_:=h3;unfold Fq204 at h3;subst h3;simp only[List.drop_succ_cons,List.drop_zero];simp only[e6];have s9:n≤200:=by have h1:=O9.1;have h2:=O.1;have h3:=pT_le p.cli;rw[List.length_append,List.length_append,qbe] at h1;omega
    replace hv:=bel hv b3;replace R:=R.next b3;clear b3;clear e6 O;obtain⟨L2,hL2⟩ : ∃L2,L++wordB p.kee++pT p.cli=L2:=⟨_,rfl⟩;rw[hL2] at O9;replace HB:Hid (conB p.lev p.cli p.cln p.kee p.hw p.wt d.wb p.wq p.wr p.hu p.us p.hp d.pa=L2++(if p.hw then pT p.wt++pB d.wb else [])++(if p.hu then pT p.us else [])++(if p.hp then pB d.pa else [])):=by rw[←hL2];exact HB.out
    clear hL2;have O:=O9;clear O9;cases hhw:p.hw
    ·as_aux_lemma=>
     have f11:=R.cell 11 (v:=.bool false) (by rw[k11.out,hhw]);cases hhu:p.hu
     ·have f16:=R.cell 16 (v:=.bool false) (by rw[k16.out,hhu]);cases hhp:p.hp
      ·have f18:=R.cell 18 (v:=.bool false) (by rw[k18.out,hhp]);go_wp2
       go_meet
       case rel=>exact⟨_,_,_,by rw[HL.out,Int.add_zero],rfl,by rw[HH.out,HB.out,hhw,hhu,hhp];simpa using O,by omega,hv⟩
      ·have f18:=R.cell 18 (v:=.bool true) (by rw[k18.out,hhp]);have f19:=R.cell 19 k19.out;go_wp2_with fail
       refine (qeq _ _ _ _ _ _ _ d.pa _ O.rd (hp0.2.2.1.below hv) (by omega)).mono ?_;rintro e y9 ⟨a9,n9,c9,rfl,o9,b9⟩;rw[qgk] at o9;have s9:n9≤1000:=by have h1:=o9.1;rw[List.length_append,O.1] at h1;have:=pB_le d.pa;omega
       have O9:=o9.mono hv.size;replace hv:=bel hv b9;go_wp2
       go_meet
       case rel=>exact⟨_,_,_,by rw[HL.out,Int.add_zero],rfl,by rw[HH.out,HB.out,hhw,hhu,hhp];simpa using O9,by omega,hv⟩
     ·have f16:=R.cell 16 (v:=.bool true) (by rw[k16.out,hhu]);have f17:=R.cell 17 k17.out;go_wp2_with fail
      refine (qcz _ _ _ p.us _ _ O.rd (by omega) (by omega)).mono ?_;rintro e y8 ⟨a8,n8,c8,rfl,o8,b8⟩;rw[qdo] at o8;have s8:n8≤700:=by have h1:=o8.1;rw[List.length_append,O.1] at h1;have:=pT_le p.us;omega
      replace O:=o8.mono hv.size;replace hv:=bel hv b8;replace R:=R.next b8;clear b8 o8 f16 f17;cases hhp:p.hp
      ·have f18:=R.cell 18 (v:=.bool false) (by rw[k18.out,hhp]);go_wp2
       go_meet
       case rel=>exact⟨_,_,_,by rw[HL.out,Int.add_zero],rfl,by rw[HH.out,HB.out,hhw,hhu,hhp];simpa using O,by omega,hv⟩
      ·have f18:=R.cell 18 (v:=.bool true) (by rw[k18.out,hhp]);have f19:=R.cell 19 k19.out;go_wp2_with fail
       refine (qeq _ _ _ _ _ _ _ d.pa _ O.rd (hp0.2.2.1.below hv) (by omega)).mono ?_;rintro e y9 ⟨a9,n9,c9,rfl,o9,b9⟩;rw[qgk] at o9;have s9:n9≤1000:=by have h1:=o9.1;rw[List.length_append,O.1] at h1;have:=pB_le d.pa;omega
       have O9:=o9.mono hv.size;replace hv:=bel hv b9;go_wp2
       go_meet
       case rel=>exact⟨_,_,_,by rw[HL.out,Int.add_zero],rfl,by rw[HH.out,HB.out,hhw,hhu,hhp];simpa using O9,by omega,hv⟩
    ·as_aux_lemma=>
     have f11:=R.cell 11 (v:=.bool true) (by rw[k11.out,hhw]);have r1:=hp0.2.1.below hv;go_wp2;refine qcw 7 (by kernel_rfl) rfl (fun i u x=>match i with
      |0=>u=.slice a n c
      |1=>u=.pointer (some ⟨w.heap.size,12,none⟩)
      |2=>u=.string p.wt
      |3=>∃ao n cap,u=.slice ao n cap∧Own x v0.heap.size ao n cap (L2++pT p.wt)
      |4=>u=.pointer (some ⟨w.heap.size,13,none⟩)
      |5=>u=.slice p.wb.a p.wb.n p.wb.c
      |6=>∃ao n cap,u=.slice ao n cap∧Own x v0.heap.size ao n cap (L2++pT p.wt++pB d.wb)
      |_=>True) ?_ ?_ ?_
     ·intro i u x x' hx h
      match i,h with
      |0,h|1,h|2,h=>exact h
      |3,h=>(obtain⟨ao,n,cap,e,ho⟩:=h;exact⟨ao,n,cap,e,ho.below hx⟩)
      |4,h|5,h=>exact h
      |6,h=>(obtain⟨ao,n,cap,e,ho⟩:=h;exact⟨ao,n,cap,e,ho.below hx⟩)
      |(_+7),h=>trivial
     ·intro i o a u hi hk hbu hdep;replace hdep:=qhdd hdep
      match i,hi with
      |0,hi=>cases hi;exact qggo rfl (qae (v:=_) (w':=u) (by first | (simp[execOp,qab ((hk.at 4 rfl).trans rfl)];done) | (simp[execOp,qab ((hk.at 4 rfl).trans rfl)];rfl)) (qzqq rfl))
      |1,hi=>cases hi;exact qggo rfl (z_fld (X:=⟨w.heap.size,0,none⟩) (Y:=⟨w.heap.size,12,none⟩) 28 _ 12 rfl (qevv hk 1 rfl rfl) (fun _=>by kernel_rfl) (qzqq rfl))
      |2,hi=>cases hi;obtain⟨z1,hz1,rfl⟩:=hdep 1 rfl;exact qggo rfl (z_ld 9 _ rfl (qab hz1) (by kernel_rfl) ((R.next hbu).cell 12 k12.out) (qzqq rfl))
      |3,hi=>cases hi;obtain⟨z0,hz0,rfl⟩:=hdep 0 rfl;obtain⟨z2,hz2,rfl⟩:=hdep 2 rfl;refine qggo rfl (qal (qak _ _ _ _ _ _ _ _ cf_spt (qab hz0) (qab hz2) (fun _=>rfl) _ _ _ _ _ _) ?_);refine (qcz _ _ _ p.wt _ u (O.below hbu).rd (by omega) (by omega)).mono ?_;rintro e u' ⟨a1,n1,c1,rfl,o1,b1⟩;exact⟨_,rfl,_,rfl,b1,a1,n1,c1,rfl,(show Own _ _ _ _ _ (L2++pT p.wt) by rw[qdo] at o1;exact o1).mono (Nat.le_trans hv.size hbu.size)⟩
      |4,hi=>cases hi;exact qggo rfl (z_fld (X:=⟨w.heap.size,0,none⟩) (Y:=⟨w.heap.size,13,none⟩) 28 _ 13 rfl (qevv hk 1 rfl rfl) (fun _=>by kernel_rfl) (qzqq rfl))
      |5,hi=>cases hi;obtain⟨z4,hz4,rfl⟩:=hdep 4 rfl;exact qggo rfl (z_ld 22 _ rfl (qab hz4) (by kernel_rfl) ((R.next hbu).cell 13 k13.out) (qzqq rfl))
      |6,hi=>cases hi;obtain⟨z3,hz3,hg3⟩:=hdep 3 rfl;obtain⟨ao3,n3,cap3,rfl,ho3⟩:=hg3;obtain⟨z5,hz5,rfl⟩:=hdep 5 rfl;refine qggo rfl (qal (qak _ _ _ _ _ _ _ _ cf_spb (qab hz3) (qab hz5) (fun _=>rfl) _ _ _ _ _ _) ?_);refine (qeq _ _ _ _ _ _ _ d.wb u ho3.rd (r1.below hbu) (by have h1:=ho3.1;have h2:=O.1;have h3:=pT_le p.wt;rw[List.length_append] at h1;omega)).mono ?_;rintro e u' ⟨a1,n1,c1,rfl,o1,b1⟩;exact⟨_,rfl,_,rfl,b1,a1,n1,c1,rfl,(show Own _ _ _ _ _ (L2++pT p.wt++pB d.wb) by rw[qgk] at o1;exact o1).mono (Nat.le_trans hv.size hbu.size)⟩
      |(_+7),hi=>cases hi
     intro vs y8 b3 hG a3_ h3;obtain⟨a4,n4,c4,e6,O4⟩:=hG 6 (by decide);clear hG;replace h3:puts _ 2 _ (Fq204)=_:=h3;replace h3:puts _ 4 _ (Fq204)=_:=h3;replace h3:puts _ 6 _ (Fq204)=_:=h3;replace h3:Fq204=_:=h3;unfold Fq204 at h3;subst h3;simp only[List.drop_succ_cons,List.drop_zero];simp only[e6];have s4:n4≤400:=by have h1:=O4.1;have h2:=O.1;have h3:=pT_le p.wt;have h4:=pB_le d.wb;rw[List.length_append,List.length_append] at h1;omega
     replace hv:=bel hv b3;replace R:=R.next b3;clear b3;clear e6 O r1 f11;have O:=O4;clear O4;cases hhu:p.hu
     ·have f16:=R.cell 16 (v:=.bool false) (by rw[k16.out,hhu]);cases hhp:p.hp
      ·have f18:=R.cell 18 (v:=.bool false) (by rw[k18.out,hhp]);go_wp2
       go_meet
       case rel=>exact⟨_,_,_,by rw[HL.out,Int.add_zero],rfl,by rw[HH.out,HB.out,hhw,hhu,hhp];simpa using O,by omega,hv⟩
      ·have f18:=R.cell 18 (v:=.bool true) (by rw[k18.out,hhp]);have f19:=R.cell 19 k19.out;go_wp2_with fail
       refine (qeq _ _ _ _ _ _ _ d.pa _ O.rd (hp0.2.2.1.below hv) (by omega)).mono ?_;rintro e y9 ⟨a9,n9,c9,rfl,o9,b9⟩;rw[qgk] at o9;have s9:n9≤1000:=by have h1:=o9.1;rw[List.length_append,O.1] at h1;have:=pB_le d.pa;omega
       have O9:=o9.mono hv.size;replace hv:=bel hv b9;go_wp2
       go_meet
       case rel=>exact⟨_,_,_,by rw[HL.out,Int.add_zero],rfl,by rw[HH.out,HB.out,hhw,hhu,hhp];simpa using O9,by omega,hv⟩
     ·have f16:=R.cell 16 (v:=.bool true) (by rw[k16.out,hhu]);have f17:=R.cell 17 k17.out;go_wp2_with fail
      refine (qcz _ _ _ p.us _ _ O.rd (by omega) (by omega)).mono ?_;rintro e y8 ⟨a8,n8,c8,rfl,o8,b8⟩;rw[qdo] at o8;have s8:n8≤700:=by have h1:=o8.1;rw[List.length_append,O.1] at h1;have:=pT_le p.us;omega
      replace O:=o8.mono hv.size;replace hv:=bel hv b8;replace R:=R.next b8;clear b8 o8 f16 f17;cases hhp:p.hp
      ·have f18:=R.cell 18 (v:=.bool false) (by rw[k18.out,hhp]);go_wp2
       go_meet
       case rel=>exact⟨_,_,_,by rw[HL.out,Int.add_zero],rfl,by rw[HH.out,HB.out,hhw,hhu,hhp];simpa using O,by omega,hv⟩
      ·have f18:=R.cell 18 (v:=.bool true) (by rw[k18.out,hhp]);have f19:=R.cell 19 k19.out;go_wp2_with fail
       refine (qeq _ _ _ _ _ _ _ d.pa _ O.rd (hp0.2.2.1.below hv) (by omega)).mono ?_;rintro e y9 ⟨a9,n9,c9,rfl,o9,b9⟩;rw[qgk] at o9;have s9:n9≤1000:=by have h1:=o9.1;rw[List.length_append,O.1] at h1;have:=pB_le d.pa;omega
       have O9:=o9.mono hv.size;replace hv:=bel hv b9;go_wp2
       go_meet
       case rel=>exact⟨_,_,_,by rw[HL.out,Int.add_zero],rfl,by rw[HH.out,HB.out,hhw,hhu,hhp];simpa using O9,by omega,hv⟩
  ·as_aux_lemma=>
    have c1:(p.ty==1)=false:=by simp;omega
    have c2:(p.ty==2)=true:=by simp;omega
    have c3:(p.ty==3)=false:=by simp;omega
    have c6:(p.ty==6)=false:=by simp;omega
    have c8:(p.ty==8)=false:=by simp;omega
    have c10:(p.ty==10)=false:=by simp;omega
    have HH:Hid ((pv p d).head = [byte (bit p.pre 1),byte p.cod]):=head2 (v:=pv p d) ht;have HL:Hid ((pv p d).low=0):=low0 (v:=pv p d) (show ¬p.ty=3 by omega) (show ¬(p.ty=6∨p.ty=8∨p.ty=10) by omega);clear ht;go_wp2;refine qcw 9 (by kernel_rfl) rfl (fun i u x=>match i with
     |0=>u=.slice a0 0 0
     |1=>u=.pointer (some ⟨w.heap.size,21,none⟩)
     |2=>u=.bool p.pre
     |3=>u=.int .i64 (bit p.pre 1)
     |4=>u=.int .u8 ((bit p.pre 1)%256)
     |5=>u=.pointer (some ⟨w.heap.size,20,none⟩)
     |6=>u=.int .i64 (p.cod)
     |7=>u=.int .u8 ((p.cod)%256)
     |8=>∃ao n cap,u=.slice ao n cap∧Own x v0.heap.size ao n cap ([byte (bit p.pre 1),byte p.cod])
     |_=>True) ?_ ?_ ?_
    ·intro i u x x' hx h
     match i,h with
     |0,h|1,h|2,h|3,h|4,h|5,h|6,h|7,h=>exact h
     |8,h=>(obtain⟨ao,n,cap,e,ho⟩:=h;exact⟨ao,n,cap,e,ho.below hx⟩)
     |(_+9),h=>trivial
    ·intro i o a u hi hk hbu hdep;replace hdep:=qhdd hdep
     match i,hi with
     |0,hi=>cases hi;exact qggo rfl (qae (v:=_) (w':=u) (by first | (simp[execOp,qab ((hk.at 4 rfl).trans rfl)];done) | (simp[execOp,qab ((hk.at 4 rfl).trans rfl)];rfl)) (qzqq rfl))
     |1,hi=>cases hi;exact qggo rfl (z_fld (X:=⟨w.heap.size,0,none⟩) (Y:=⟨w.heap.size,21,none⟩) 28 _ 21 rfl (qevv hk 1 rfl rfl) (fun _=>by kernel_rfl) (qzqq rfl))
     |2,hi=>cases hi;obtain⟨z1,hz1,rfl⟩:=hdep 1 rfl;exact qggo rfl (z_ld 4 _ rfl (qab hz1) (by kernel_rfl) ((R.next hbu).cell 21 k21.out) (qzqq rfl))
     |3,hi=>cases hi;obtain⟨z2,hz2,rfl⟩:=hdep 2 rfl;refine qggo rfl (qal (qak _ _ _ _ _ _ _ _ qji (qab hz2) (rfl) (fun _=>rfl) _ _ _ _ _ _) ?_);refine (qnd p.pre 1 u).mono ?_;rintro e u' ⟨rfl,hu⟩;exact⟨_,rfl,_,rfl,hu ▸ Below.refl _ _,rfl⟩
     |4,hi=>cases hi;obtain⟨z3,hz3,rfl⟩:=hdep 3 rfl;exact qggo rfl (qgp _ _ _ rfl (qab hz3) (cvb _ _) (qzqq rfl))
     |5,hi=>cases hi;exact qggo rfl (z_fld (X:=⟨w.heap.size,0,none⟩) (Y:=⟨w.heap.size,20,none⟩) 28 _ 20 rfl (qevv hk 1 rfl rfl) (fun _=>by kernel_rfl) (qzqq rfl))
     |6,hi=>cases hi;obtain⟨z5,hz5,rfl⟩:=hdep 5 rfl;exact qggo rfl (z_ld 3 _ rfl (qab hz5) (by kernel_rfl) ((R.next hbu).cell 20 k20.out) (qzqq rfl))
     |7,hi=>cases hi;obtain⟨z6,hz6,rfl⟩:=hdep 6 rfl;exact qggo rfl (qgp _ _ _ rfl (qab hz6) (cvb _ _) (qzqq rfl))
     |8,hi=>cases hi;obtain⟨z4,hz4,rfl⟩:=hdep 4 rfl;obtain⟨z7,hz7,rfl⟩:=hdep 7 rfl;exact qggo rfl (z_mk _ _ rfl (by simp[qab hz4,qab hz7]) (mkb2 _ _ _) ⟨_,rfl,qac _ _,⟨_,_,_,rfl,own_b2 u _ (Nat.le_trans hv.size hbu.size) _ _⟩⟩)
     |(_+9),hi=>cases hi
    intro vs y2 b3 hG a3_ h3;have e0:=hG 0 (by decide);obtain⟨a2,n2,c2,e8,O2⟩:=hG 8 (by decide);clear hG;replace h3:puts _ 2 _ (Fq204)=_:=h3;replace h3:puts _ 4 _ (Fq204)=_:=h3;replace h3:puts _ 6 _ (Fq204)=_:=h3;replace h3:puts _ 8 _ (Fq204)=_:=h3;replace h3:Fq204=_:=h3;unfold Fq204 at h3;subst h3;simp only[List.drop_succ_cons,List.drop_zero];replace e0:vs 0=.slice a0 0 0:=e0;simp only[e0,e8];obtain rfl:n2=2:=by have:=O2.1;simpa using this.symm
    replace hv:=bel hv b3;replace R:=R.next b3;replace O0:=O0.below b3;clear b3;clear e0 e8;go_wp2_with (at_builtin;refine w_app _ rfl _ _ rfl v0.heap.size _ _ _ _ rfl O0 _ _ _ _ rfl O2.rd (by omega) hv.size ?_)
    intro a3 c3 y3 O3 hg;replace hv:=qba hv hv.size O0 hg;clear hg O0 O2;have R:=R0.next hv;go_wp2
    go_meet
    case rel=>exact⟨_,_,_,by rw[HL.out,Int.add_zero],rfl,by rw[HH.out];exact O3,by omega,hv⟩
  ·as_aux_lemma=>
    have c1:(p.ty==1)=false:=by simp;omega
    have c2:(p.ty==2)=false:=by simp;omega
    have c3:(p.ty==3)=true:=by simp;omega
    have c6:(p.ty==6)=false:=by simp;omega
    have c8:(p.ty==8)=false:=by simp;omega
    have c10:(p.ty==10)=false:=by simp;omega
    have hq:0≤p.qos∧p.qos≤2:=body3 OK.out ht;have i1:=qds p.dup 8 (by omega);have i2:=qds p.ret 1 (by omega);have HH:Hid ((pv p d).head=pubB p.qos p.id p.top d.bod):=head3 (v:=pv p d) ht;have HL:Hid ((pv p d).low=pubL p.dup p.qos p.ret):=low3p (v:=pv p d) ht;clear ht;go_wp2;refine qcw 13 (by kernel_rfl) rfl (fun i u x=>match i with
     |0=>u=.int .i64 (16*p.ty)
     |1=>u=.pointer (some ⟨w.heap.size,1,none⟩)
     |2=>u=.bool p.dup
     |3=>u=.int .i64 (bit p.dup 8)
     |4=>u=.int .i64 (16*p.ty+bit p.dup 8)
     |5=>u=.pointer (some ⟨w.heap.size,2,none⟩)
     |6=>u=.int .i64 (p.qos)
     |7=>u=.int .i64 (2*p.qos)
     |8=>u=.int .i64 (16*p.ty+bit p.dup 8+2*p.qos)
     |9=>u=.pointer (some ⟨w.heap.size,3,none⟩)
     |10=>u=.bool p.ret
     |11=>u=.int .i64 (bit p.ret 1)
     |12=>u=.int .i64 (16*p.ty+bit p.dup 8+2*p.qos+bit p.ret 1)
     |_=>True) ?_ ?_ ?_
    ·intro i u x x' hx h
     match i,h with
     |0,h|1,h|2,h|3,h|4,h|5,h|6,h|7,h|8,h|9,h|10,h|11,h|12,h=>exact h
     |(_+13),h=>trivial
    ·intro i o a u hi hk hbu hdep;replace hdep:=qhdd hdep
     match i,hi with
     |0,hi=>cases hi;exact qggo rfl (qae (v:=_) (w':=u) (by first | (simp[execOp,qab ((hk.at 3 rfl).trans rfl)];done) | (simp[execOp,qab ((hk.at 3 rfl).trans rfl)];rfl)) (qzqq rfl))
     |1,hi=>cases hi;exact qggo rfl (z_fld (X:=⟨w.heap.size,0,none⟩) (Y:=⟨w.heap.size,1,none⟩) 28 _ 1 rfl (qevv hk 1 rfl rfl) (fun _=>by kernel_rfl) (qzqq rfl))
     |2,hi=>cases hi;obtain⟨z1,hz1,rfl⟩:=hdep 1 rfl;exact qggo rfl (z_ld 4 _ rfl (qab hz1) (by kernel_rfl) ((R.next hbu).cell 1 k1.out) (qzqq rfl))
     |3,hi=>cases hi;obtain⟨z2,hz2,rfl⟩:=hdep 2 rfl;refine qggo rfl (qal (qak _ _ _ _ _ _ _ _ qji (qab hz2) (rfl) (fun _=>rfl) _ _ _ _ _ _) ?_);refine (qnd p.dup 8 u).mono ?_;rintro e u' ⟨rfl,hu⟩;exact⟨_,rfl,_,rfl,hu ▸ Below.refl _ _,rfl⟩
     |4,hi=>cases hi;obtain⟨z0,hz0,rfl⟩:=hdep 0 rfl;obtain⟨z3,hz3,rfl⟩:=hdep 3 rfl;exact qggo rfl (z_bin _ _ _ _ _ rfl (qab hz0) (qab hz3) (addi _ _ _ _ _ (by rw[qay]<;>omega)) (qzqq rfl))
     |5,hi=>cases hi;exact qggo rfl (z_fld (X:=⟨w.heap.size,0,none⟩) (Y:=⟨w.heap.size,2,none⟩) 28 _ 2 rfl (qevv hk 1 rfl rfl) (fun _=>by kernel_rfl) (qzqq rfl))
     |6,hi=>cases hi;obtain⟨z5,hz5,rfl⟩:=hdep 5 rfl;exact qggo rfl (z_ld 3 _ rfl (qab hz5) (by kernel_rfl) ((R.next hbu).cell 2 k2.out) (qzqq rfl))
     |7,hi=>cases hi;obtain⟨z6,hz6,rfl⟩:=hdep 6 rfl;exact qggo rfl (z_bin _ _ _ _ _ rfl (rfl) (qab hz6) (muli _ _ _ _ _ (by rw[qay]<;>omega)) (qzqq rfl))
     |8,hi=>cases hi;obtain⟨z4,hz4,rfl⟩:=hdep 4 rfl;obtain⟨z7,hz7,rfl⟩:=hdep 7 rfl;exact qggo rfl (z_bin _ _ _ _ _ rfl (qab hz4) (qab hz7) (addi _ _ _ _ _ (by rw[qay]<;>omega)) (qzqq rfl))
     |9,hi=>cases hi;exact qggo rfl (z_fld (X:=⟨w.heap.size,0,none⟩) (Y:=⟨w.heap.size,3,none⟩) 28 _ 3 rfl (qevv hk 1 rfl rfl) (fun _=>by kernel_rfl) (qzqq rfl))
     |10,hi=>cases hi;obtain⟨z9,hz9,rfl⟩:=hdep 9 rfl;exact qggo rfl (z_ld 4 _ rfl (qab hz9) (by kernel_rfl) ((R.next hbu).cell 3 k3.out) (qzqq rfl))
     |11,hi=>cases hi;obtain⟨z10,hz10,rfl⟩:=hdep 10 rfl;refine qggo rfl (qal (qak _ _ _ _ _ _ _ _ qji (qab hz10) (rfl) (fun _=>rfl) _ _ _ _ _ _) ?_);refine (qnd p.ret 1 u).mono ?_;rintro e u' ⟨rfl,hu⟩;exact⟨_,rfl,_,rfl,hu ▸ Below.refl _ _,rfl⟩
     |12,hi=>cases hi;obtain⟨z8,hz8,rfl⟩:=hdep 8 rfl;obtain⟨z11,hz11,rfl⟩:=hdep 11 rfl;exact qggo rfl (z_bin _ _ _ _ _ rfl (qab hz8) (qab hz11) (addi _ _ _ _ _ (by rw[qay]<;>omega)) (qzqq rfl))
     |(_+13),hi=>cases hi
    intro vs y2 b3 hG a3_ h3;have e0:=hG 12 (by decide);clear hG;replace h3:puts _ 2 _ (Fq204)=_:=h3;replace h3:puts _ 4 _ (Fq204)=_:=h3;replace h3:puts _ 6 _ (Fq204)=_:=h3;replace h3:puts _ 8 _ (Fq204)=_:=h3;replace h3:puts _ 10 _ (Fq204)=_:=h3;replace h3:puts _ 12 _ (Fq204)=_:=h3;replace h3:Fq204=_:=h3;unfold Fq204 at h3;subst h3;simp only[List.drop_succ_cons,List.drop_zero];replace e0:vs 12=.int .i64 (16*p.ty+bit p.dup 8+2*p.qos+bit p.ret 1):=e0;simp only[e0];replace hv:=bel hv b3;replace R:=R.next b3;replace O0:=O0.below b3;clear b3;clear e0;have F:Hid (16*p.ty+bit p.dup 8+2*p.qos+bit p.ret 1=16*p.ty+(pv p d).low):=by show _=_;rw[HL.out];unfold pubL;omega
    have f5:=R.cell 5 k5.out;go_wp2_with fail
    refine (qcz _ _ _ p.top _ _ O0.rd (by omega) (by omega)).mono ?_;rintro e y3 ⟨a3,n3,c3,rfl,o3,b4⟩;have s3:=qkv [] p.top;rw[o3.1] at s3;rw[qdo,List.nil_append] at o3;have O:=o3.mono hv.size;replace hv:=bel hv b4;replace R:=R.next b4;clear b4;clear o3 f5 O0;have s3':n3≤62:=by simpa using s3
    have f2:=R.cell 2 k2.out
    by_cases h:0<p.qos
    ·have f4:=R.cell 4 k4.out;go_wp2_with fail
     refine (qfq _ _ _ p.id _ _ O.rd (by omega)).mono ?_;rintro e y4 ⟨a4,c4,rfl,o4,b5⟩;have O4:=o4.mono hv.size;replace hv:=bel hv b5;replace R:=R.next b5;clear b5;clear o4 O f2 f4;have f6:=R.cell 6 k6.out;have RB:=hp0.1.below hv;go_wp2_with (at_builtin;refine w_app _ rfl _ _ rfl v0.heap.size _ _ _ _ rfl O4 _ _ _ _ rfl RB (by omega) hv.size ?_)
     intro a5 c5 y5 O5 hg;replace hv:=qba hv hv.size O4 hg;go_wp2
     go_meet
     case rel=>exact⟨_,_,_,by rw[F.out],rfl,by rw[HH.out];unfold pubB;rw[if_pos h,List.append_assoc];exact O5,by omega,hv⟩
    ·have f6:=R.cell 6 k6.out;have RB:=hp0.1.below hv;go_wp2_with (at_builtin;refine w_app _ rfl _ _ rfl v0.heap.size _ _ _ _ rfl O _ _ _ _ rfl RB (by omega) hv.size ?_)
     intro a5 c5 y5 O5 hg;replace hv:=qba hv hv.size O hg;go_wp2
     go_meet
     case rel=>exact⟨_,_,_,by rw[F.out],rfl,by rw[HH.out];unfold pubB;rw[if_neg (by omega),List.append_nil];exact O5,by omega,hv⟩
  ·as_aux_lemma=>
    have c1:(p.ty==1)=false:=by simp;omega
    have c2:(p.ty==2)=false:=by simp;omega
    have c3:(p.ty==3)=false:=by simp;omega
    have c6:(p.ty==6)=true:=by simp;omega
    have c8:(p.ty==8)=false:=by simp;omega
    have c10:(p.ty==10)=false:=by simp;omega
    have HH:Hid ((pv p d).head = []):=headO (v:=pv p d) (show ¬p.ty=1 by omega) (show ¬p.ty=2 by omega) (show ¬p.ty=3 by omega);have HL:Hid ((pv p d).low=2):=low2 (v:=pv p d) (show p.ty=6∨p.ty=8∨p.ty=10 by omega);have hadd:IntKind.i64.wrap (16*p.ty+2)=16*p.ty+2:=by rw[qay]<;>omega
    clear ht;go_wp2
    go_meet
    case rel=>exact⟨_,_,_,by rw[HL.out],rfl,by rw[HH.out];exact O0,by omega,hv⟩
  ·as_aux_lemma=>
    have c1:(p.ty==1)=false:=by simp;omega
    have c2:(p.ty==2)=false:=by simp;omega
    have c3:(p.ty==3)=false:=by simp;omega
    have c6:(p.ty==6)=false:=by simp;omega
    have c8:(p.ty==8)=true:=by simp;omega
    have c10:(p.ty==10)=false:=by simp;omega
    have HH:Hid ((pv p d).head = []):=headO (v:=pv p d) (show ¬p.ty=1 by omega) (show ¬p.ty=2 by omega) (show ¬p.ty=3 by omega);have HL:Hid ((pv p d).low=2):=low2 (v:=pv p d) (show p.ty=6∨p.ty=8∨p.ty=10 by omega);have hadd:IntKind.i64.wrap (16*p.ty+2)=16*p.ty+2:=by rw[qay]<;>omega
    clear ht;go_wp2
    go_meet
    case rel=>exact⟨_,_,_,by rw[HL.out],rfl,by rw[HH.out];exact O0,by omega,hv⟩
  ·as_aux_lemma=>
    have c1:(p.ty==1)=false:=by simp;omega
    have c2:(p.ty==2)=false:=by simp;omega
    have c3:(p.ty==3)=false:=by simp;omega
    have c6:(p.ty==6)=false:=by simp;omega
    have c8:(p.ty==8)=false:=by simp;omega
    have c10:(p.ty==10)=true:=by simp;omega
    have HH:Hid ((pv p d).head = []):=headO (v:=pv p d) (show ¬p.ty=1 by omega) (show ¬p.ty=2 by omega) (show ¬p.ty=3 by omega);have HL:Hid ((pv p d).low=2):=low2 (v:=pv p d) (show p.ty=6∨p.ty=8∨p.ty=10 by omega);have hadd:IntKind.i64.wrap (16*p.ty+2)=16*p.ty+2:=by rw[qay]<;>omega
    clear ht;go_wp2
    go_meet
    case rel=>exact⟨_,_,_,by rw[HL.out],rfl,by rw[HH.out];exact O0,by omega,hv⟩
  ·as_aux_lemma=>
    have c1:(p.ty==1)=false:=by simp;omega
    have c2:(p.ty==2)=false:=by simp;omega
    have c3:(p.ty==3)=false:=by simp;omega
    have c6:(p.ty==6)=false:=by simp;omega
    have c8:(p.ty==8)=false:=by simp;omega
    have c10:(p.ty==10)=false:=by simp;omega
    have HH:Hid ((pv p d).head = []):=headO (v:=pv p d) (show ¬p.ty=1 by omega) (show ¬p.ty=2 by omega) (show ¬p.ty=3 by omega);have HL:Hid ((pv p d).low=0):=low0 (v:=pv p d) (show ¬p.ty=3 by omega) (show ¬(p.ty=6∨p.ty=8∨p.ty=10) by omega);have hadd:IntKind.i64.wrap (16*p.ty+2)=16*p.ty+2:=by rw[qay]<;>omega
    clear ht;go_wp2
    go_meet
    case rel=>exact⟨_,_,_,by rw[HL.out,Int.add_zero],rfl,by rw[HH.out];exact O0,by omega,hv⟩
 case rest=>
  as_aux_lemma=>
   obtain⟨a,n,c,e3_,e4_,O,hn,hv2⟩:=hcut;subst e3_ e4_;clear hv R O0;have hv:=hv2;clear hv2;have R:=R0.next hv;have f0:=R.cell 0 k0.out;have f4:=R.cell 4 k4.out;obtain⟨Bo,hBo⟩ : ∃Bo,decide (p.ty≠3∧0<p.id)=Bo:=⟨_,rfl⟩;have HBo:Hid (decide (p.ty≠3∧0<p.id)=Bo):=hBo;clear hBo
   go_upto_region 28 with fail
   go_cut [137] (fun t wx=>t=.bool Bo∧wc=wx)
   case first=>
    by_cases h3:p.ty=3
    ·have c3:(p.ty != 3)=false:=by simp[h3]
     have EB:Hid (Bo=false):=HBo.out.symm.trans (decide_eq_false (fun h=>h.1 h3));clear h3;go_wp2
     go_meet
     case rel=>exact⟨by rw[EB.out],rfl⟩
    ·have c3:(p.ty != 3)=true:=by simp[h3]
     by_cases hi:0<p.id
     ·have EB:Hid (Bo=true):=HBo.out.symm.trans (decide_eq_true ⟨h3,hi⟩);clear h3;go_wp2
      go_meet
      case rel=>exact⟨by rw[EB.out],rfl⟩
     ·have EB:Hid (Bo=false):=HBo.out.symm.trans (decide_eq_false (fun h=>hi h.2));clear h3;go_wp2
      go_meet
      case rel=>exact⟨by rw[EB.out],rfl⟩
   case rest=>
    obtain⟨e137,ewx⟩:=hcut;subst e137 ewx
    go_upto_if 137 with fail
    go_cut [4] (fun b wx=>∃(a:Option Addr) (n c:Nat),b=.slice a n c∧Own wx v0.heap.size a n c ((pv p d).head++(pv p d).idB)∧n≤2000002∧Below v0.heap.size v0 wx)
    case first=>
     cases Bo with
     |true=>
      have HI:Hid ((pv p d).idB=wordB p.id):=idB1 (v:=pv p d) (of_decide_eq_true HBo.out);go_wp2_with fail
      refine (qfq _ _ _ p.id _ _ O.rd (by omega)).mono ?_;rintro e y4 ⟨a4,c4,rfl,o4,b5⟩;go_wp2
      go_meet
      case rel=>exact⟨_,_,_,rfl,by rw[HI.out];exact o4.mono hv.size,by omega,bel hv b5⟩
     |false=>
      have HI:Hid ((pv p d).idB = []):=idB0 (v:=pv p d) (of_decide_eq_false HBo.out);go_wp2
      go_meet
      case rel=>exact⟨_,_,_,rfl,by rw[HI.out,List.append_nil];exact O,by omega,hv⟩
    case rest=>
     obtain⟨a9,n9,c9,e4_,O9,hn9,hv9⟩:=hcut;subst e4_;obtain⟨L,hL⟩ : ∃L,(pv p d).head++(pv p d).idB=L:=⟨_,rfl⟩;have HR:Hid ((pv p d).rest=L++wanB d.wan++cdsB d.cds++namB d.nam):=by show (pv p d).rest=_;rw[←hL];exact rest_def (pv p d)
     rw[hL] at O9;clear hL hv O R f0 f4 hn;have HW:Hid (d.wan.length=p.wan.n):=hp0.2.2.2.1.1.1;have HC:Hid (d.cds.length=p.cds.n):=hp0.2.2.2.2.2.1.1;have HN:Hid (d.nam.length=p.nam.n):=hp0.2.2.2.2.1.1.1;go_wp2
     go_loopw [4,5] (fun v i wr=>∃(k j:Nat) (a:Option Addr) (c:Nat),i=.int .i64 k∧v=.slice a j c∧k≤p.wan.n∧j≤3000000+63*k∧Own wr v0.heap.size a j c (L++wanB (d.wan.take k))∧Below v0.heap.size v0 wr) (fun _ i _=>p.wan.n-(intOf i).toNat)
     case atStart=>exact⟨0,n9,a9,c9,rfl,rfl,Nat.zero_le _,by omega,qsd O9 _ rfl,hv9⟩
     case round=>
      clear O9 hv9 hn9;obtain⟨k,j,a,c,rfl,rfl,hk,hj,ho,hv⟩:=hrel;have R:=R0.next hv
      by_cases hlt:k<p.wan.n
      ·as_aux_lemma=>
       obtain⟨b,off,e,hc,hd⟩:=hp0.2.2.2.1.1.2 k hlt;have hck:wr.cell? ⟨b,off+k*2,none⟩ = some (.string (wf d.wan k)):=(hv.cell (World.block_lt_of_cell? _ _ hc)).trans hc;have hdk:wr.cell? ⟨b,off+k*2+1,none⟩ = some (.int .i64 (wq d.wan k)):=(hv.cell (World.block_lt_of_cell? _ _ hd)).trans hd;clear hc hd;replace k22:Hid (cs[22]? = some (.slice (some ⟨b,off,none⟩) p.wan.n p.wan.c)):=by show cs[22]? = _;rw[←e];exact k22.out
       clear e;have f22:=R.cell 22 k22.out;have hlt':(k:Int)<p.wan.n:=by omega
       have hkl:Hid (k<d.wan.length):=by show k<d.wan.length;rw[HW.out];exact hlt
       have hsz:(wf d.wan k).size≤1048576:=hz.out.2.2.2.2.1 _ (wt_mem hkl.out);have HS:Hid (wanB (d.wan.take k)++(pT (wf d.wan k)++[byte (wq d.wan k)])=wanB (d.wan.take (k+1))):=(qhk (fun x:ByteArray×Int=>pT x.1++[byte x.2]) d.wan (ByteArray.empty,0) k hkl.out).symm;go_wp2;refine qcw 16 (by kernel_rfl) rfl (fun i u x=>match i with
        |0=>u=.slice a j c
        |1=>u=.pointer (some ⟨w.heap.size,22,none⟩)
        |2=>u=.slice (some ⟨b,off,none⟩) p.wan.n p.wan.c
        |3=>u=.int .i64 ((k:Nat))
        |4=>u=.pointer (some ⟨b,off+k*2,none⟩)
        |5=>u=.pointer (some ⟨b,off+k*2,none⟩)
        |6=>u=.string (wf d.wan k)
        |7=>∃ao n cap,u=.slice ao n cap∧Own x v0.heap.size ao n cap (L++wanB (d.wan.take k)++pT (wf d.wan k))
        |8=>u=.pointer (some ⟨w.heap.size,22,none⟩)
        |9=>u=.slice (some ⟨b,off,none⟩) p.wan.n p.wan.c
        |10=>u=.int .i64 ((k:Nat))
        |11=>u=.pointer (some ⟨b,off+k*2,none⟩)
        |12=>u=.pointer (some ⟨b,off+k*2+1,none⟩)
        |13=>u=.int .i64 (wq d.wan k)
        |14=>u=.int .u8 ((wq d.wan k)%256)
        |15=>∃ao n cap,u=.slice ao n cap∧Own x v0.heap.size ao n cap ([byte (wq d.wan k)])
        |_=>True) ?_ ?_ ?_
       ·intro i u x x' hx h
        match i,h with
        |0,h|1,h|2,h|3,h|4,h|5,h|6,h=>exact h
        |7,h=>(obtain⟨ao,n,cap,e,ho⟩:=h;exact⟨ao,n,cap,e,ho.below hx⟩)
        |8,h|9,h|10,h|11,h|12,h|13,h|14,h=>exact h
        |15,h=>(obtain⟨ao,n,cap,e,ho⟩:=h;exact⟨ao,n,cap,e,ho.below hx⟩)
        |(_+16),h=>trivial
       ·intro i o a u hi hk hbu hdep;replace hdep:=qhdd hdep
        match i,hi with
        |0,hi=>cases hi;exact qggo rfl (qae (v:=_) (w':=u) (by first | (simp[execOp,qab ((hk.at 4 rfl).trans rfl)];done) | (simp[execOp,qab ((hk.at 4 rfl).trans rfl)];rfl)) (qzqq rfl))
        |1,hi=>cases hi;exact qggo rfl (z_fld (X:=⟨w.heap.size,0,none⟩) (Y:=⟨w.heap.size,22,none⟩) 28 _ 22 rfl (qevv hk 1 rfl rfl) (fun _=>by kernel_rfl) (qzqq rfl))
        |2,hi=>cases hi;obtain⟨z1,hz1,rfl⟩:=hdep 1 rfl;exact qggo rfl (z_ld 24 _ rfl (qab hz1) (by kernel_rfl) ((R.next hbu).cell 22 k22.out) (qzqq rfl))
        |3,hi=>cases hi;exact qggo rfl (qae (v:=_) (w':=u) (by first | (simp[execOp,qab ((hk.at 5 rfl).trans rfl)];done) | (simp[execOp,qab ((hk.at 5 rfl).trans rfl)];rfl)) (qzqq rfl))
        |4,hi=>cases hi;obtain⟨z2,hz2,rfl⟩:=hdep 2 rfl;obtain⟨z3,hz3,rfl⟩:=hdep 3 rfl;exact qggo rfl (z_idx 24 _ _ rfl (qab hz2) (qab hz3) (idx_want b off p.wan.n p.wan.c k hlt) (qzqq rfl))
        |5,hi=>cases hi;obtain⟨z4,hz4,rfl⟩:=hdep 4 rfl;exact qggo rfl (z_fld (X:=⟨b,off+k*2,none⟩) (Y:=⟨b,off+k*2,none⟩) 88 _ 0 rfl (qab hz4) (fun _=>by kernel_rfl) (qzqq rfl))
        |6,hi=>cases hi;obtain⟨z5,hz5,rfl⟩:=hdep 5 rfl;exact qggo rfl (z_ld 9 _ rfl (qab hz5) (by kernel_rfl) ((hbu.cell (World.block_lt_of_cell? wr _ hck)).trans hck) (qzqq rfl))
        |7,hi=>cases hi;obtain⟨z0,hz0,rfl⟩:=hdep 0 rfl;obtain⟨z6,hz6,rfl⟩:=hdep 6 rfl;refine qggo rfl (qal (qak _ _ _ _ _ _ _ _ cf_spt (qab hz0) (qab hz6) (fun _=>rfl) _ _ _ _ _ _) ?_);refine (qcz _ _ _ (wf d.wan k) _ u (ho.below hbu).rd (by omega) (by omega)).mono ?_;rintro e u' ⟨a1,n1,c1,rfl,o1,b1⟩;exact⟨_,rfl,_,rfl,b1,a1,n1,c1,rfl,(show Own _ _ _ _ _ (L++wanB (d.wan.take k)++pT (wf d.wan k)) by rw[qdo] at o1;exact o1).mono (Nat.le_trans hv.size hbu.size)⟩
        |8,hi=>cases hi;exact qggo rfl (z_fld (X:=⟨w.heap.size,0,none⟩) (Y:=⟨w.heap.size,22,none⟩) 28 _ 22 rfl (qevv hk 1 rfl rfl) (fun _=>by kernel_rfl) (qzqq rfl))
        |9,hi=>cases hi;obtain⟨z8,hz8,rfl⟩:=hdep 8 rfl;exact qggo rfl (z_ld 24 _ rfl (qab hz8) (by kernel_rfl) ((R.next hbu).cell 22 k22.out) (qzqq rfl))
        |10,hi=>cases hi;exact qggo rfl (qae (v:=_) (w':=u) (by first | (simp[execOp,qab ((hk.at 5 rfl).trans rfl)];done) | (simp[execOp,qab ((hk.at 5 rfl).trans rfl)];rfl)) (qzqq rfl))
        |11,hi=>cases hi;obtain⟨z9,hz9,rfl⟩:=hdep 9 rfl;obtain⟨z10,hz10,rfl⟩:=hdep 10 rfl;exact qggo rfl (z_idx 24 _ _ rfl (qab hz9) (qab hz10) (idx_want b off p.wan.n p.wan.c k hlt) (qzqq rfl))
        |12,hi=>cases hi;obtain⟨z11,hz11,rfl⟩:=hdep 11 rfl;exact qggo rfl (z_fld (X:=⟨b,off+k*2,none⟩) (Y:=⟨b,off+k*2+1,none⟩) 88 _ 1 rfl (qab hz11) (fun _=>by kernel_rfl) (qzqq rfl))
        |13,hi=>cases hi;obtain⟨z12,hz12,rfl⟩:=hdep 12 rfl;exact qggo rfl (z_ld 3 _ rfl (qab hz12) (by kernel_rfl) ((hbu.cell (World.block_lt_of_cell? wr _ hdk)).trans hdk) (qzqq rfl))
        |14,hi=>cases hi;obtain⟨z13,hz13,rfl⟩:=hdep 13 rfl;exact qggo rfl (qgp _ _ _ rfl (qab hz13) (cvb _ _) (qzqq rfl))
        |15,hi=>cases hi;obtain⟨z14,hz14,rfl⟩:=hdep 14 rfl;exact qggo rfl (z_mk _ _ rfl (by simp[qab hz14]) (mkb1 _ _) ⟨_,rfl,qac _ _,⟨_,_,_,rfl,qni u _ (Nat.le_trans hv.size hbu.size) _⟩⟩)
        |(_+16),hi=>cases hi
       intro vs y2 b3 hG a3_ h3;obtain⟨a7,n7,c7,e7,O7⟩:=hG 7 (by decide);obtain⟨a8,n8,c8,e8,O8⟩:=hG 15 (by decide);clear hG;replace h3:puts _ 2 _ (Fq204)=_:=h3;replace h3:puts _ 4 _ (Fq204)=_:=h3;replace h3:puts _ 6 _ (Fq204)=_:=h3;replace h3:puts _ 8 _ (Fq204)=_:=h3;replace h3:puts _ 10 _ (Fq204)=_:=h3;replace h3:puts _ 12 _ (Fq204)=_:=h3;replace h3:puts _ 14 _ (Fq204)=_:=h3;replace h3:Fq204=_:=h3;unfold Fq204 at h3;subst h3;simp only[List.drop_succ_cons,List.drop_zero];simp only[e7,e8];obtain rfl:n8=1:=by have:=O8.1;simpa using this.symm
       have s7:n7≤3000000+63*k+62:=by have h1:=O7.1;have h2:=ho.1;have h3:=pT_le (wf d.wan k);rw[List.length_append] at h1;omega
       replace hv:=bel hv b3;clear b3 e7 e8 ho R f22 hck hdk;go_wp2_with (at_builtin;refine w_app _ rfl _ _ rfl v0.heap.size _ _ _ _ rfl O7 _ _ _ _ rfl O8.rd (by omega) hv.size ?_)
       intro a2 c2 y3 O2 hg;replace hv:=qba hv hv.size O7 hg;rw[HS.out] at O2;clear hg O7 O8;go_wp2;go_roundw
       case rel=>exact⟨k+1,n7+1,a2,c2,by go_num,rfl,by omega,by omega,O2,hv⟩
       case measure=>simp[intOf];omega
      ·as_aux_lemma=>
       have hlt':¬(k:Int)<p.wan.n:=by omega
       have f22:=R.cell 22 k22.out;have ek:d.wan.take k=d.wan:=List.take_of_length_le (by rw[HW.out];omega);rw[ek] at ho;clear ek;obtain⟨L1,hL1⟩ : ∃L1,L++wanB d.wan=L1:=⟨_,rfl⟩;have HR1:Hid ((pv p d).rest=L1++cdsB d.cds++namB d.nam):=by show (pv p d).rest=_;rw[←hL1];exact HR.out
       rw[hL1] at ho;have hj1:j≤100000000:=by omega
       clear hL1 HR;go_wp2;clear hj hk hlt hlt' R f22
       go_loopw [4,6] (fun v i wr=>∃(k j:Nat) (a:Option Addr) (c:Nat),i=.int .i64 k∧v=.slice a j c∧k≤p.cds.n∧j≤100000000+k∧Own wr v0.heap.size a j c (L1++cdsB (d.cds.take k))∧Below v0.heap.size v0 wr) (fun _ i _=>p.cds.n-(intOf i).toNat)
       case atStart=>exact⟨0,j,a,c,rfl,rfl,Nat.zero_le _,by omega,qsd ho _ rfl,hv⟩
       case round=>
        clear ho hv hj1;obtain⟨k,j,a,c,rfl,rfl,hk,hj,ho,hv⟩:=hrel;have R:=R0.next hv
        by_cases hlt:k<p.cds.n
        ·as_aux_lemma=>
         obtain⟨b,off,e,hc⟩:=hp0.2.2.2.2.2.1.2 k hlt;have hck:wr.cell? ⟨b,off+k,none⟩ = some (.int .i64 (d.cds.getD k 0)):=(hv.cell (World.block_lt_of_cell? _ _ hc)).trans hc;clear hc;replace k24:Hid (cs[24]? = some (.slice (some ⟨b,off,none⟩) p.cds.n p.cds.c)):=by show cs[24]? = _;rw[←e];exact k24.out
         clear e;have f24:=R.cell 24 k24.out;have hlt':(k:Int)<p.cds.n:=by omega
         have hkl:Hid (k<d.cds.length):=by show k<d.cds.length;rw[HC.out];exact hlt
         have HS:Hid (cdsB (d.cds.take k)++[byte (d.cds.getD k 0)]=cdsB (d.cds.take (k+1))):=by
          show _=_;rw[qkz,qkz];exact (qhk (fun x=>[byte x]) d.cds 0 k hkl.out).symm
         generalize d.cds.getD k 0=X at hck HS;have OB:=qni wr v0.heap.size hv.size X;have OA:=ho.alloc (.cells #[.int .u8 (X%256)] 5);have hv2:=bel hv (qac wr (.cells #[.int .u8 (X%256)] 5));go_wp2_with (at_builtin;refine w_app _ rfl _ _ rfl v0.heap.size _ _ _ _ rfl OA _ _ _ [byte X] rfl OB.rd (by omega) hv2.size ?_)
         intro a2 c2 y3 O2 hg;replace hv2:=qba hv2 hv2.size OA hg;rw[HS.out] at O2;clear hg OA OB ho R f24 hck hv;go_wp2;go_roundw
         case rel=>exact⟨k+1,j+1,a2,c2,by go_num,rfl,by omega,by omega,O2,hv2⟩
         case measure=>simp[intOf];omega
        ·as_aux_lemma=>
         have hlt':¬(k:Int)<p.cds.n:=by omega
         have f24:=R.cell 24 k24.out;have ek:d.cds.take k=d.cds:=List.take_of_length_le (by rw[HC.out];omega);rw[ek] at ho;clear ek;obtain⟨L2,hL2⟩ : ∃L2,L1++cdsB d.cds=L2:=⟨_,rfl⟩;have HR2:Hid ((pv p d).rest=L2++namB d.nam):=by show (pv p d).rest=_;rw[←hL2];exact HR1.out
         rw[hL2] at ho;have hj1:j≤110000000:=by omega
         clear hL2 HR1;go_wp2;clear hj hk hlt hlt' R f24
         go_loopw [4,7] (fun v i wr=>∃(k j:Nat) (a:Option Addr) (c:Nat),i=.int .i64 k∧v=.slice a j c∧k≤p.nam.n∧j≤110000000+62*k∧Own wr v0.heap.size a j c (L2++namB (d.nam.take k))∧Below v0.heap.size v0 wr) (fun _ i _=>p.nam.n-(intOf i).toNat)
         case atStart=>exact⟨0,j,a,c,rfl,rfl,Nat.zero_le _,by omega,qsd ho _ rfl,hv⟩
         case round=>
          clear ho hv hj1;obtain⟨k,j,a,c,rfl,rfl,hk,hj,ho,hv⟩:=hrel;have R:=R0.next hv
          by_cases hlt:k<p.nam.n
          ·as_aux_lemma=>
           obtain⟨b,off,e,hc⟩:=hp0.2.2.2.2.1.1.2 k hlt;have hck:wr.cell? ⟨b,off+k,none⟩ = some (.string (st d.nam k)):=(hv.cell (World.block_lt_of_cell? _ _ hc)).trans hc;clear hc;replace k23:Hid (cs[23]? = some (.slice (some ⟨b,off,none⟩) p.nam.n p.nam.c)):=by show cs[23]? = _;rw[←e];exact k23.out
           clear e;have f23:=R.cell 23 k23.out;have hlt':(k:Int)<p.nam.n:=by omega
           have hkl:Hid (k<d.nam.length):=by show k<d.nam.length;rw[HN.out];exact hlt
           have HS:Hid (namB (d.nam.take k)++pT (st d.nam k)=namB (d.nam.take (k+1))):=(qhk pT d.nam ByteArray.empty k hkl.out).symm;have hle2:=qkv (L2++namB (d.nam.take k)) (st d.nam k);rw[ho.1] at hle2;go_wp2_with fail
           refine (qcz a j c (st d.nam k) _ _ ho.rd (by omega) (by have:=hz.out.2.2.2.2.2 _ (qub hkl.out);omega)).mono ?_;rintro e y3 ⟨a2,m2,c2,rfl,o2,b2⟩;rw[o2.1] at hle2;rw[qdo,List.append_assoc,HS.out] at o2;have hv2:=bel hv b2;replace o2:=o2.mono hv.size;clear b2 hv ho R f23 hck;go_wp2;go_roundw
           case rel=>exact⟨k+1,m2,a2,c2,by go_num,rfl,by omega,by omega,o2,hv2⟩
           case measure=>simp[intOf];omega
          ·as_aux_lemma=>
           have hlt':¬(k:Int)<p.nam.n:=by omega
           have f23:=R.cell 23 k23.out;have ek:d.nam.take k=d.nam:=List.take_of_length_le (by rw[HN.out];omega);rw[ek,←HR2.out] at ho;clear ek HR2;have hj1:j≤300000000:=by omega
           obtain⟨F,hF⟩ : ∃F,16*p.ty+(pv p d).low=F:=⟨_,rfl⟩;obtain⟨LL,hLL⟩ : ∃LL,(pv p d).rest=LL:=⟨_,rfl⟩;rw[hLL] at ho;simp only[hF];have HF:Hid (16*p.ty+(pv p d).low=F):=hF;have HLL:Hid ((pv p d).rest=LL):=hLL;clear hF hLL;have HJ:Hid (LL.length=j):=ho.1;obtain⟨M,hM⟩ : ∃M,(lenB (j:Nat)).length=M:=⟨_,rfl⟩;have HM:Hid ((lenB (j:Nat)).length=M):=hM;have hM4:M≤4:=by rw[←hM];exact qmi _
           clear hM;have OB:=qni wr v0.heap.size hv.size F;have OA:=ho.alloc (.cells #[.int .u8 (F%256)] 5);have hv2:=bel hv (qac wr (.cells #[.int .u8 (F%256)] 5));go_wp2_with fail
           refine (qpw M _ 1 1 (j:Nat) [byte F] _ HM.out OB.rd (by omega)).mono ?_;rintro e y5 ⟨a5,c5,rfl,o5,b5⟩;have O5:=o5.mono hv2.size;replace hv2:=bel hv2 b5;replace OA:=OA.below b5;clear b5 o5 OB ho hv R f23;go_wp2_with (at_builtin;refine w_app _ rfl _ _ rfl v0.heap.size _ _ _ _ rfl O5 _ _ _ LL rfl OA.rd (by omega) hv2.size ?_)
           intro a6 c6 y6 O6 hg;replace hv2:=qba hv2 hv2.size O5 hg;go_wp2;go_ret;exact⟨_,_,_,rfl,by rw[HF.out,HLL.out,HJ.out];simpa using O6.mono H0.out.size,bel H0.out hv2⟩
theorem sput_no (p:Pk) (d:Pd) (w:World) (hp:PRd w p d) (hz:Psz p d) (hok:(pv p d).ok=false):Gives 90 #[.agg p.cells] w []:=by
 unfold Gives;have OK:Hid ((pv p d).ok=false):=hok;clear hok;have hb:Below w.heap.size w (w.alloc (.cells p.cells 28)):=qac _ _;have A:Blk (w.alloc (.cells p.cells 28)) w.heap.size p:=heap_alloc_new _ _;replace hp:=hp.below hb;go_enter Tryz.func90,Tryz.ntmps90;go_wp2_with (first | refine qaj A rfl _ rfl rfl ?_ | fail)
 refine (qgt p d _ hp hz).mono ?_;rintro e y1 ⟨he,b1⟩;obtain rfl:e=.returned (.bool false):=he.trans (qad OK.out);replace hb:=bel hb b1;clear b1 he A;go_wp2;go_ret;exact⟨_,_,_,rfl,(qbm y1).mono hb.size,bel hb (qac _ _)⟩
theorem qhb (p:Pk) (d:Pd) (w:World) (hp:PRd w p d) (hz:Psz p d) (hl:Plen p 1048576):Gives 90 #[.agg p.cells] w (pv p d).bytes:=by
 cases hok:(pv p d).ok with
 |false=>rw[qoa hok];exact sput_no p d w hp hz hok
 |true=>rw[qcp hok];exact sput_yes p d w hp hz hl hok
