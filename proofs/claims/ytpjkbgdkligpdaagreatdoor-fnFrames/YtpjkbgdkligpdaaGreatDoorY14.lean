/- Lemmas. -/
import Derived.Test.YtpjkbgdkligpdaaGreatDoorY09
import Derived.Test.YtpjkbgdkligpdaaGreatDoorY01
set_option linter.all false
set_option maxRecDepth 100000
set_option maxHeartbeats 20000000
namespace Go.Proofs.YtpjkbgdkligpdaaGreatDoor
open Go.RowKit

theorem infoC:(Tryz.prog.info? 124).map (fun x=>x.size)=some 13:=by kernel_rfl
theorem st_loadC {o:Oper} {a:Act} {w:World} {K:Act→World→Prop} {Q:Exit→Act→World→Prop} {g:Nat} {cs:Array Value} (hn:cs.size=13) (hB:Row w g cs 124) (x:Operand) (ho:o.op=.load 124 x)
  (hx:a.eval x=.pointer (some ⟨g,0,none⟩)) (h:K (a.put o.dst (.agg cs)) w):Oper.wp Tryz.prog o a w K Q :=
 wp_load_row 124 x ho g hx 124 cs (0,0) _ hB Tryz.underlying124 rfl (infoC.trans (by rw[hn])) h
theorem follow_con (lev:Int) (cli:ByteArray) (cln:Bool) (kee:Int) (hw:Bool) (wt:ByteArray) (wb:Sl) (wq:Int) (wr:Bool) (hu:Bool) (us:ByteArray) (hp:Bool) (pa:Sl) (wbl pal:List UInt8) (w:World) (r1:RdIn w wb.a wb.n wb.c wbl) (r2:RdIn w pa.a pa.n pa.c pal) (hq:0≤wq∧wq≤2) (z1:cli.size≤1048576) (z2:wt.size≤1048576) (z3:us.size≤1048576) :
  Gives 226 #[.agg (conC lev cli cln kee hw wt wb wq wr hu us hp pa)] w (conB lev cli cln kee hw wt wbl wq wr hu us hp pal):=by
 unfold Gives;have hfl:=fun u=>flags_con lev cli cln kee hw wt wb wq wr hu us hp pa u hq
 obtain⟨cs,hcs⟩ : ∃cs,conC lev cli cln kee hw wt wb wq wr hu us hp pa=cs:=⟨_,rfl⟩;have hcn:cs.size=13:=by rw[←hcs];rfl
 have k0:cs[0]? = some (.int .i64 lev):=by rw[←hcs];rfl
 have k1:cs[1]? = some (.string cli):=by rw[←hcs];rfl
 have k3:cs[3]? = some (.int .i64 kee):=by rw[←hcs];rfl
 have k4:cs[4]? = some (.bool hw):=by rw[←hcs];rfl
 have k5:cs[5]? = some (.string wt):=by rw[←hcs];rfl
 have k6:cs[6]? = some (.slice wb.a wb.n wb.c):=by rw[←hcs];rfl
 have k9:cs[9]? = some (.bool hu):=by rw[←hcs];rfl
 have k10:cs[10]? = some (.string us):=by rw[←hcs];rfl
 have k11:cs[11]? = some (.bool hp):=by rw[←hcs];rfl
 have k12:cs[12]? = some (.slice pa.a pa.n pa.c):=by rw[←hcs];rfl
 rw[hcs] at hfl ⊢;clear hcs;have A:Row (w.alloc (.cells cs 124)) w.heap.size cs 124:=Row.new _ _ _;have hb:Below w.heap.size w (w.alloc (.cells cs 124)):=qac _ _;replace r1:=r1.below hb;replace r2:=r2.below hb;go_enter Tryz.func226,Tryz.ntmps226;go_wp2;refine qaw (by kernel_rfl) rfl (fun i u x=>match i with
  |0=>∃ao n cap,u=.slice ao n cap∧Own x w.heap.size ao n cap (pT mqtt)
  |1=>u=.pointer (some ⟨w.heap.size,0,none⟩)
  |2=>u=.int .i64 (lev)
  |3=>u=.int .u8 (lev%256)
  |4=>u=.agg cs
  |5=>u=.int .i64 (conF cln hw wq wr hp hu)
  |6=>u=.int .u8 (conF cln hw wq wr hp hu%256)
  |7=>∃ao n cap,u=.slice ao n cap∧Own x w.heap.size ao n cap ([byte lev,byte (conF cln hw wq wr hp hu)])
  |8=>∃ao n cap,u=.slice ao n cap∧Own x w.heap.size ao n cap (pT mqtt++[byte lev,byte (conF cln hw wq wr hp hu)])
  |9=>∃ao n cap,u=.slice ao n cap∧Own x w.heap.size ao n cap (pT mqtt++[byte lev,byte (conF cln hw wq wr hp hu)])
  |_=>True) ?_ ?_ ?_
 ·intro i u x x' hx h
  match i,h with
  |0,h=>(obtain⟨ao,n,cap,e,ho⟩:=h;exact⟨ao,n,cap,e,ho.below hx⟩)
  |1,h|2,h|3,h|4,h|5,h|6,h=>exact h
  |7,h=>(obtain⟨ao,n,cap,e,ho⟩:=h;exact⟨ao,n,cap,e,ho.below hx⟩)
  |8,h=>(obtain⟨ao,n,cap,e,ho⟩:=h;exact⟨ao,n,cap,e,ho.below hx⟩)
  |9,h=>(obtain⟨ao,n,cap,e,ho⟩:=h;exact⟨ao,n,cap,e,ho.below hx⟩)
  |(_+10),h=>trivial
 ·intro i o a u hi hk hbu hdep;replace hdep:=qhdd hdep
  match i,hi with
  |0,hi=>cases hi;refine qggo rfl (qal (qak _ _ _ _ _ _ _ _ cf_ipt (rfl) (rfl) (fun _=>rfl) _ _ _ _ _ _) ?_);refine (qcx none 0 0 mqtt [] u (RdIn.nil _) (by omega) (by decide)).mono ?_;rintro e u' ⟨a1,n1,c1,rfl,o1,b1⟩;exact⟨_,rfl,_,rfl,b1,a1,n1,c1,rfl,(show Own _ _ _ _ _ (pT mqtt) by rw[qdo] at o1;exact o1).mono (Nat.le_trans hb.size hbu.size)⟩
  |1,hi=>cases hi;exact qggo rfl (z_fld (X:=⟨w.heap.size,0,none⟩) (Y:=⟨w.heap.size,0,none⟩) 124 _ 0 rfl (qevv hk 1 rfl rfl) (fun _=>by kernel_rfl) (qzqq rfl))
  |2,hi=>cases hi;obtain⟨z1,hz1,rfl⟩:=hdep 1 rfl;exact qggo rfl (z_ld 3 _ rfl (qab hz1) (by kernel_rfl) ((A.next hbu).cell 0 k0) (qzqq rfl))
  |3,hi=>cases hi;obtain⟨z2,hz2,rfl⟩:=hdep 2 rfl;exact qggo rfl (qgp _ _ _ rfl (qab hz2) (cvb _ _) (qzqq rfl))
  |4,hi=>cases hi;exact qggo rfl (st_loadC hcn (A.next hbu) _ rfl (qevv hk 1 rfl rfl) (qzqq rfl))
  |5,hi=>cases hi;obtain⟨z4,hz4,rfl⟩:=hdep 4 rfl;refine qggo rfl (qal (qbu _ _ _ _ _ _ cf_flags (qab hz4) (fun _=>rfl) _ _ _ _ _ _) ?_);refine (hfl u).mono ?_;rintro e u' ⟨rfl,b1⟩;exact⟨_,rfl,_,rfl,b1,rfl⟩
  |6,hi=>cases hi;obtain⟨z5,hz5,rfl⟩:=hdep 5 rfl;exact qggo rfl (qgp _ _ _ rfl (qab hz5) (cvb _ _) (qzqq rfl))
  |7,hi=>cases hi;obtain⟨z3,hz3,rfl⟩:=hdep 3 rfl;obtain⟨z6,hz6,rfl⟩:=hdep 6 rfl;exact qggo rfl (z_mk _ _ rfl (by simp[qab hz3,qab hz6]) (mkb2 _ _ _) ⟨_,rfl,qac _ _,⟨_,_,_,rfl,own_b2 u _ (Nat.le_trans hb.size hbu.size) _ _⟩⟩)
  |8,hi=>cases hi;obtain⟨z0,hz0,hg0⟩:=hdep 0 rfl;obtain⟨ao0,n0,cap0,rfl,ho0⟩:=hg0;obtain⟨z7,hz7,hg7⟩:=hdep 7 rfl;obtain⟨ao7,n7,cap7,rfl,ho7⟩:=hg7;refine qggo rfl (qal (qak _ _ _ _ _ _ _ _ cf_beh (qab hz0) (qab hz7) (fun _=>rfl) _ _ _ _ _ _) ?_);refine (qbx _ _ _ _ _ _ _ _ u ho0.rd ho7.rd (by have:=ho0.1;have:=pT_le mqtt;omega) (by have:=ho7.1;simp at this;omega)).mono ?_;rintro e u' ⟨a1,c1,rfl,o1,b1⟩;exact⟨_,rfl,_,rfl,b1,a1,_,c1,rfl,o1.mono (Nat.le_trans hb.size hbu.size)⟩
  |9,hi=>cases hi;obtain⟨z8,hz8,hg8⟩:=hdep 8 rfl;obtain⟨ao8,n8,cap8,rfl,ho8⟩:=hg8;exact qggo rfl (qae (v:=_) (w':=u) (by first | (simp[execOp,qab hz8];done) | (simp[execOp,qab hz8];rfl)) ⟨_,rfl,Below.refl _ _,_,_,_,rfl,ho8⟩)
  |(_+10),hi=>cases hi
 intro vs y b3 hG a3 h3;obtain⟨a1,n1,c1,e9,O1⟩:=hG 9 (by decide);clear hG;replace h3:puts _ 2 _ (Fq44)=_:=h3;replace h3:puts _ 4 _ (Fq44)=_:=h3;replace h3:puts _ 6 _ (Fq44)=_:=h3;replace h3:puts _ 8 _ (Fq44)=_:=h3;replace h3:Fq44=_:=h3;unfold Fq44 at h3;subst h3;simp only[e9];have s1:n1≤64:=by have:=O1.1;have:=pT_le mqtt;simp at *;omega
 replace hb:=bel hb b3;replace A:=A.next b3;replace r1:=r1.below b3;replace r2:=r2.below b3;clear b3 e9 hfl;go_wp2;refine qcw 7 (by kernel_rfl) rfl (fun i u x=>match i with
  |0=>u=.slice a1 n1 c1
  |1=>u=.pointer (some ⟨w.heap.size,3,none⟩)
  |2=>u=.int .i64 (kee)
  |3=>∃ao n cap,u=.slice ao n cap∧Own x w.heap.size ao n cap ((pT mqtt++[byte lev,byte (conF cln hw wq wr hp hu)])++wordB kee)
  |4=>u=.pointer (some ⟨w.heap.size,1,none⟩)
  |5=>u=.string cli
  |6=>∃ao n cap,u=.slice ao n cap∧Own x w.heap.size ao n cap ((pT mqtt++[byte lev,byte (conF cln hw wq wr hp hu)])++wordB kee++pT cli)
  |_=>True) ?_ ?_ ?_
 ·intro i u x x' hx h
  match i,h with
  |0,h|1,h|2,h=>exact h
  |3,h=>(obtain⟨ao,n,cap,e,ho⟩:=h;exact⟨ao,n,cap,e,ho.below hx⟩)
  |4,h|5,h=>exact h
  |6,h=>(obtain⟨ao,n,cap,e,ho⟩:=h;exact⟨ao,n,cap,e,ho.below hx⟩)
  |(_+7),h=>trivial
 ·intro i o a u hi hk hbu hdep;replace hdep:=qhdd hdep
  match i,hi with
  |0,hi=>cases hi;exact qggo rfl (qae (v:=_) (w':=u) (by first | (simp[execOp,qab ((hk.at 3 rfl).trans rfl)];done) | (simp[execOp,qab ((hk.at 3 rfl).trans rfl)];rfl)) (qzqq rfl))
  |1,hi=>cases hi;exact qggo rfl (z_fld (X:=⟨w.heap.size,0,none⟩) (Y:=⟨w.heap.size,3,none⟩) 124 _ 3 rfl (qevv hk 1 rfl rfl) (fun _=>by kernel_rfl) (qzqq rfl))
  |2,hi=>cases hi;obtain⟨z1,hz1,rfl⟩:=hdep 1 rfl;exact qggo rfl (z_ld 3 _ rfl (qab hz1) (by kernel_rfl) ((A.next hbu).cell 3 k3) (qzqq rfl))
  |3,hi=>cases hi;obtain⟨z0,hz0,rfl⟩:=hdep 0 rfl;obtain⟨z2,hz2,rfl⟩:=hdep 2 rfl;refine qggo rfl (qal (qak _ _ _ _ _ _ _ _ cf_ipw (qab hz0) (qab hz2) (fun _=>rfl) _ _ _ _ _ _) ?_);refine (qcy _ _ _ kee _ u (O1.below hbu).rd (by omega)).mono ?_;rintro e u' ⟨a1,c1,rfl,o1,b1⟩;exact⟨_,rfl,_,rfl,b1,a1,_,c1,rfl,o1.mono (Nat.le_trans hb.size hbu.size)⟩
  |4,hi=>cases hi;exact qggo rfl (z_fld (X:=⟨w.heap.size,0,none⟩) (Y:=⟨w.heap.size,1,none⟩) 124 _ 1 rfl (qevv hk 1 rfl rfl) (fun _=>by kernel_rfl) (qzqq rfl))
  |5,hi=>cases hi;obtain⟨z4,hz4,rfl⟩:=hdep 4 rfl;exact qggo rfl (z_ld 9 _ rfl (qab hz4) (by kernel_rfl) ((A.next hbu).cell 1 k1) (qzqq rfl))
  |6,hi=>cases hi;obtain⟨z3,hz3,hg3⟩:=hdep 3 rfl;obtain⟨ao3,n3,cap3,rfl,ho3⟩:=hg3;obtain⟨z5,hz5,rfl⟩:=hdep 5 rfl;refine qggo rfl (qal (qak _ _ _ _ _ _ _ _ cf_ipt (qab hz3) (qab hz5) (fun _=>rfl) _ _ _ _ _ _) ?_);refine (qcx _ _ _ cli _ u ho3.rd (by have:=ho3.1;have:=O1.1;simp[wordB] at *;omega) (by omega)).mono ?_;rintro e u' ⟨a1,n1,c1,rfl,o1,b1⟩;exact⟨_,rfl,_,rfl,b1,a1,n1,c1,rfl,(show Own _ _ _ _ _ ((pT mqtt++[byte lev,byte (conF cln hw wq wr hp hu)])++wordB kee++pT cli) by rw[qdo] at o1;exact o1).mono (Nat.le_trans hb.size hbu.size)⟩
  |(_+7),hi=>cases hi
 intro vs2 y2 b3 hG a3 h3;obtain⟨a2,n2,c2,e6,O2⟩:=hG 6 (by decide);clear hG;replace h3:puts _ 2 _ (Fq44)=_:=h3;replace h3:puts _ 4 _ (Fq44)=_:=h3;replace h3:puts _ 6 _ (Fq44)=_:=h3;replace h3:Fq44=_:=h3;unfold Fq44 at h3;subst h3;simp only[e6];obtain⟨L,hL⟩ : ∃L,(pT mqtt++[byte lev,byte (conF cln hw wq wr hp hu)])++wordB kee++pT cli=L:=⟨_,rfl⟩;have HB:Hid (conB lev cli cln kee hw wt wbl wq wr hu us hp pal=L++(if hw then pT wt++pB wbl else [])++(if hu then pT us else [])++(if hp then pB pal else [])):=by rw[←hL];rfl
 have s2:n2≤128:=by have:=O2.1;have:=O1.1;have:=pT_le cli;simp[wordB] at *;omega
 rw[hL] at O2;clear hL;replace hb:=bel hb b3;replace A:=A.next b3;replace r1:=r1.below b3;replace r2:=r2.below b3;clear b3 e6 O1;cases hw
 ·have f4:=A.cell 4 k4;cases hu
  ·have f9:=A.cell 9 k9;cases hp
   ·have f11:=A.cell 11 k11;go_wp2;go_ret;exact⟨_,_,_,rfl,by rw[HB.out];simpa using O2,hb⟩
   ·have f11:=A.cell 11 k11;have f12:=A.cell 12 k12;go_wp2_with fail
    refine (qep _ _ _ _ _ _ _ pal _ O2.rd r2 (by omega)).mono ?_;rintro e y9 ⟨a9,n9,c9,rfl,o9,b9⟩;rw[qgk] at o9;go_wp2;go_ret;exact⟨_,_,_,rfl,by rw[HB.out];simpa using o9.mono hb.size,bel hb b9⟩
  ·have f9:=A.cell 9 k9;have f10:=A.cell 10 k10;go_wp2_with fail
   refine (qcx _ _ _ us _ _ O2.rd (by omega) (by omega)).mono ?_;rintro e y8 ⟨a8,n8,c8,rfl,o8,b8⟩;have s8:=qkv (L) us;rw[o8.1,O2.1] at s8;rw[qdo] at o8;have O8:=o8.mono hb.size;replace hb:=bel hb b8;replace A:=A.next b8;replace r2:=r2.below b8;clear b8 o8 f9 f10;cases hp
   ·have f11:=A.cell 11 k11;go_wp2;go_ret;exact⟨_,_,_,rfl,by rw[HB.out];simpa using O8,hb⟩
   ·have f11:=A.cell 11 k11;have f12:=A.cell 12 k12;go_wp2_with fail
    refine (qep _ _ _ _ _ _ _ pal _ O8.rd r2 (by omega)).mono ?_;rintro e y9 ⟨a9,n9,c9,rfl,o9,b9⟩;rw[qgk] at o9;go_wp2;go_ret;exact⟨_,_,_,rfl,by rw[HB.out];simpa using o9.mono hb.size,bel hb b9⟩
 ·have f4:=A.cell 4 k4;go_wp2;refine qcw 9 (by kernel_rfl) rfl (fun i u x=>match i with
   |0=>u=.slice a2 n2 c2
   |1=>u=.pointer (some ⟨w.heap.size,5,none⟩)
   |2=>u=.pointer (some ⟨w.heap.size,5,none⟩)
   |3=>u=.string wt
   |4=>∃ao n cap,u=.slice ao n cap∧Own x w.heap.size ao n cap (L++pT wt)
   |5=>u=.pointer (some ⟨w.heap.size,5,none⟩)
   |6=>u=.pointer (some ⟨w.heap.size,6,none⟩)
   |7=>u=.slice wb.a wb.n wb.c
   |8=>∃ao n cap,u=.slice ao n cap∧Own x w.heap.size ao n cap (L++pT wt++pB wbl)
   |_=>True) ?_ ?_ ?_
  ·intro i u x x' hx h
   match i,h with
   |0,h|1,h|2,h|3,h=>exact h
   |4,h=>(obtain⟨ao,n,cap,e,ho⟩:=h;exact⟨ao,n,cap,e,ho.below hx⟩)
   |5,h|6,h|7,h=>exact h
   |8,h=>(obtain⟨ao,n,cap,e,ho⟩:=h;exact⟨ao,n,cap,e,ho.below hx⟩)
   |(_+9),h=>trivial
  ·intro i o a u hi hk hbu hdep;replace hdep:=qhdd hdep
   match i,hi with
   |0,hi=>cases hi;exact qggo rfl (qae (v:=_) (w':=u) (by first | (simp[execOp,qab ((hk.at 3 rfl).trans rfl)];done) | (simp[execOp,qab ((hk.at 3 rfl).trans rfl)];rfl)) (qzqq rfl))
   |1,hi=>cases hi;exact qggo rfl (z_fld (X:=⟨w.heap.size,0,none⟩) (Y:=⟨w.heap.size,5,none⟩) 124 _ 5 rfl (qevv hk 1 rfl rfl) (fun _=>by kernel_rfl) (qzqq rfl))
   |2,hi=>cases hi;obtain⟨z1,hz1,rfl⟩:=hdep 1 rfl;exact qggo rfl (z_fld (X:=⟨w.heap.size,5,none⟩) (Y:=⟨w.heap.size,5,none⟩) 122 _ 0 rfl (qab hz1) (fun _=>by kernel_rfl) (qzqq rfl))
   |3,hi=>cases hi;obtain⟨z2,hz2,rfl⟩:=hdep 2 rfl;exact qggo rfl (z_ld 9 _ rfl (qab hz2) (by kernel_rfl) ((A.next hbu).cell 5 k5) (qzqq rfl))
   |4,hi=>cases hi;obtain⟨z0,hz0,rfl⟩:=hdep 0 rfl;obtain⟨z3,hz3,rfl⟩:=hdep 3 rfl;refine qggo rfl (qal (qak _ _ _ _ _ _ _ _ cf_ipt (qab hz0) (qab hz3) (fun _=>rfl) _ _ _ _ _ _) ?_);refine (qcx _ _ _ wt _ u (O2.below hbu).rd (by omega) (by omega)).mono ?_;rintro e u' ⟨a1,n1,c1,rfl,o1,b1⟩;exact⟨_,rfl,_,rfl,b1,a1,n1,c1,rfl,(show Own _ _ _ _ _ (L++pT wt) by rw[qdo] at o1;exact o1).mono (Nat.le_trans hb.size hbu.size)⟩
   |5,hi=>cases hi;exact qggo rfl (z_fld (X:=⟨w.heap.size,0,none⟩) (Y:=⟨w.heap.size,5,none⟩) 124 _ 5 rfl (qevv hk 1 rfl rfl) (fun _=>by kernel_rfl) (qzqq rfl))
   |6,hi=>cases hi;obtain⟨z5,hz5,rfl⟩:=hdep 5 rfl;exact qggo rfl (z_fld (X:=⟨w.heap.size,5,none⟩) (Y:=⟨w.heap.size,6,none⟩) 122 _ 1 rfl (qab hz5) (fun _=>by kernel_rfl) (qzqq rfl))
   |7,hi=>cases hi;obtain⟨z6,hz6,rfl⟩:=hdep 6 rfl;exact qggo rfl (z_ld 22 _ rfl (qab hz6) (by kernel_rfl) ((A.next hbu).cell 6 k6) (qzqq rfl))
   |8,hi=>cases hi;obtain⟨z4,hz4,hg4⟩:=hdep 4 rfl;obtain⟨ao4,n4,cap4,rfl,ho4⟩:=hg4;obtain⟨z7,hz7,rfl⟩:=hdep 7 rfl;refine qggo rfl (qal (qak _ _ _ _ _ _ _ _ cf_ipb (qab hz4) (qab hz7) (fun _=>rfl) _ _ _ _ _ _) ?_);refine (qep _ _ _ _ _ _ _ wbl u ho4.rd (r1.below hbu) (by have:=ho4.1;have:=O2.1;have:=pT_le wt;simp at *;omega)).mono ?_;rintro e u' ⟨a1,n1,c1,rfl,o1,b1⟩;exact⟨_,rfl,_,rfl,b1,a1,n1,c1,rfl,(show Own _ _ _ _ _ (L++pT wt++pB wbl) by rw[qgk] at o1;exact o1).mono (Nat.le_trans hb.size hbu.size)⟩
   |(_+9),hi=>cases hi
  intro vs3 y3 b3 hG a3 h3;obtain⟨a4,n4,c4,e8,O4⟩:=hG 8 (by decide);clear hG;replace h3:puts _ 2 _ (Fq44)=_:=h3;replace h3:puts _ 4 _ (Fq44)=_:=h3;replace h3:puts _ 6 _ (Fq44)=_:=h3;replace h3:puts _ 8 _ (Fq44)=_:=h3;replace h3:Fq44=_:=h3;unfold Fq44 at h3;subst h3;simp only[e8];have s4:n4≤256:=by have:=O4.1;have:=O2.1;have:=pT_le wt;have:=pB_le wbl;simp at *;omega
  replace hb:=bel hb b3;replace A:=A.next b3;replace r2:=r2.below b3;clear b3 e8 O2 r1 f4;cases hu
  ·have f9:=A.cell 9 k9;cases hp
   ·have f11:=A.cell 11 k11;go_wp2;go_ret;exact⟨_,_,_,rfl,by rw[HB.out];simpa using O4,hb⟩
   ·have f11:=A.cell 11 k11;have f12:=A.cell 12 k12;go_wp2_with fail
    refine (qep _ _ _ _ _ _ _ pal _ O4.rd r2 (by omega)).mono ?_;rintro e y9 ⟨a9,n9,c9,rfl,o9,b9⟩;rw[qgk] at o9;go_wp2;go_ret;exact⟨_,_,_,rfl,by rw[HB.out];simpa using o9.mono hb.size,bel hb b9⟩
  ·have f9:=A.cell 9 k9;have f10:=A.cell 10 k10;go_wp2_with fail
   refine (qcx _ _ _ us _ _ O4.rd (by omega) (by omega)).mono ?_;rintro e y8 ⟨a8,n8,c8,rfl,o8,b8⟩;have s8:=qkv (L++pT wt++pB wbl) us;rw[o8.1,O4.1] at s8;rw[qdo] at o8;have O8:=o8.mono hb.size;replace hb:=bel hb b8;replace A:=A.next b8;replace r2:=r2.below b8;clear b8 o8 f9 f10;cases hp
   ·have f11:=A.cell 11 k11;go_wp2;go_ret;exact⟨_,_,_,rfl,by rw[HB.out];simpa using O8,hb⟩
   ·have f11:=A.cell 11 k11;have f12:=A.cell 12 k12;go_wp2_with fail
    refine (qep _ _ _ _ _ _ _ pal _ O8.rd r2 (by omega)).mono ?_;rintro e y9 ⟨a9,n9,c9,rfl,o9,b9⟩;rw[qgk] at o9;go_wp2;go_ret;exact⟨_,_,_,rfl,by rw[HB.out];simpa using o9.mono hb.size,bel hb b9⟩

theorem follow_sub (id:Int) (b:Sl) (l:List (ByteArray×Int)) (w:World) (hr:WRd w b.a b.n b.c l) (hs:∀x∈l,x.1.size≤1048576) (hn:b.n≤1048576) :
  Gives 244 #[.agg #[.int .i64 id,.slice b.a b.n b.c]] w (wordB id++wanB l):=by
 unfold Gives;have HL:Hid (l.length=b.n):=hr.1.1;obtain⟨ao,n,cap⟩:=b;simp only at hr HL hn ⊢;go_enter Tryz.func244,Tryz.ntmps244;go_wp2_with fail
 refine (qcy none 0 0 id [] _ (RdIn.nil _) (by omega)).mono ?_;rintro e y ⟨a1,c1,rfl,o1,b1⟩;have f1:y.cell? ⟨w.heap.size,1,none⟩ = some (.slice ao n cap):=(b1.cell (by simp)).trans (by simp);have hb0:=bel (qac _ _) b1;have O1:Own y w.heap.size a1 2 c1 (wordB id++wanB (l.take 0)):=o1.mono (by simp);clear o1 b1;go_wp2
 go_loopw [3,12] (fun v i wr=>∃(k j:Nat) (a:Option Addr) (c:Nat),i=.int .i64 k∧v=.slice a j c∧k≤n∧j≤2+63*k∧Own wr w.heap.size a j c (wordB id++wanB (l.take k))∧Below w.heap.size w wr) (fun _ i _=>n-(intOf i).toNat)
 case atStart=>exact⟨0,2,a1,c1,rfl,rfl,Nat.zero_le _,by omega,O1,hb0⟩
 case round=>
  obtain⟨k,j,a,c,rfl,rfl,hk,hj,ho,hb⟩:=hrel
  by_cases hlt:k<n
  ·obtain⟨b,off,e,hc,hd⟩:=hr.1.2 k hlt;subst e;have hck:wr.cell? ⟨b,off+k*2,none⟩ = some (.string (wf l k)):=(hb.cell (World.block_lt_of_cell? w _ hc)).trans hc;have hdk:wr.cell? ⟨b,off+k*2+1,none⟩ = some (.int .i64 (wq l k)):=(hb.cell (World.block_lt_of_cell? w _ hd)).trans hd;clear hc hd;have hlt':(k:Int)<n:=by omega
   have hkl:Hid (k<l.length):=by show k<l.length;rw[HL.out];exact hlt
   have hsz:(wf l k).size≤1048576:=hs _ (wt_mem hkl.out);have HS:Hid (wanB (l.take k)++(pT (wf l k)++[byte (wq l k)])=wanB (l.take (k+1))):=(qhk (fun x:ByteArray×Int=>pT x.1++[byte x.2]) l (ByteArray.empty,0) k hkl.out).symm;have A:Row (wr.alloc (.cells #[.string (wf l k),.int .i64 (wq l k)] 88)) wr.heap.size #[.string (wf l k),.int .i64 (wq l k)] 88:=Row.new _ _ _;go_wp2;refine qcw 9 (by kernel_rfl) rfl (fun i u x=>match i with
    |0=>u=.slice a j c
    |1=>u=.pointer (some ⟨wr.heap.size,0,none⟩)
    |2=>u=.string (wf l k)
    |3=>∃ao n cap,u=.slice ao n cap∧Own x w.heap.size ao n cap (wordB id++wanB (l.take k)++pT (wf l k))
    |4=>u=.pointer (some ⟨wr.heap.size,1,none⟩)
    |5=>u=.int .i64 (wq l k)
    |6=>u=.int .u8 (wq l k%256)
    |7=>∃ao n cap,u=.slice ao n cap∧Own x w.heap.size ao n cap ([byte (wq l k)])
    |8=>∃ao n cap,u=.slice ao n cap∧Own x w.heap.size ao n cap (wordB id++wanB (l.take k)++pT (wf l k)++[byte (wq l k)])
    |_=>True) ?_ ?_ ?_
   ·intro i u x x' hx h
    match i,h with
    |0,h|1,h|2,h=>exact h
    |3,h=>(obtain⟨ao,n,cap,e,ho⟩:=h;exact⟨ao,n,cap,e,ho.below hx⟩)
    |4,h|5,h|6,h=>exact h
    |7,h=>(obtain⟨ao,n,cap,e,ho⟩:=h;exact⟨ao,n,cap,e,ho.below hx⟩)
    |8,h=>(obtain⟨ao,n,cap,e,ho⟩:=h;exact⟨ao,n,cap,e,ho.below hx⟩)
    |(_+9),h=>trivial
   ·intro i o a u hi hk hbu hdep;replace hdep:=qhdd hdep
    match i,hi with
    |0,hi=>cases hi;exact qggo rfl (qae (v:=_) (w':=u) (by first | (simp[execOp,qab ((hk.at 3 rfl).trans rfl)];done) | (simp[execOp,qab ((hk.at 3 rfl).trans rfl)];rfl)) (qzqq rfl))
    |1,hi=>cases hi;exact qggo rfl (z_fld (X:=⟨wr.heap.size,0,none⟩) (Y:=⟨wr.heap.size,0,none⟩) 88 _ 0 rfl (qevv hk 5 rfl rfl) (fun _=>by kernel_rfl) (qzqq rfl))
    |2,hi=>cases hi;obtain⟨z1,hz1,rfl⟩:=hdep 1 rfl;exact qggo rfl (z_ld 9 _ rfl (qab hz1) (by kernel_rfl) ((A.next hbu).cell 0 rfl) (qzqq rfl))
    |3,hi=>cases hi;obtain⟨z0,hz0,rfl⟩:=hdep 0 rfl;obtain⟨z2,hz2,rfl⟩:=hdep 2 rfl;refine qggo rfl (qal (qak _ _ _ _ _ _ _ _ cf_ipt (qab hz0) (qab hz2) (fun _=>rfl) _ _ _ _ _ _) ?_);refine (qcx _ _ _ (wf l k) _ u ((ho.alloc _).below hbu).rd (by omega) (by omega)).mono ?_;rintro e u' ⟨a1,n1,c1,rfl,o1,b1⟩;exact⟨_,rfl,_,rfl,b1,a1,n1,c1,rfl,(show Own _ _ _ _ _ (wordB id++wanB (l.take k)++pT (wf l k)) by rw[qdo] at o1;exact o1).mono (Nat.le_trans hb.size (Nat.le_trans (by simp) hbu.size))⟩
    |4,hi=>cases hi;exact qggo rfl (z_fld (X:=⟨wr.heap.size,0,none⟩) (Y:=⟨wr.heap.size,1,none⟩) 88 _ 1 rfl (qevv hk 5 rfl rfl) (fun _=>by kernel_rfl) (qzqq rfl))
    |5,hi=>cases hi;obtain⟨z4,hz4,rfl⟩:=hdep 4 rfl;exact qggo rfl (z_ld 3 _ rfl (qab hz4) (by kernel_rfl) ((A.next hbu).cell 1 rfl) (qzqq rfl))
    |6,hi=>cases hi;obtain⟨z5,hz5,rfl⟩:=hdep 5 rfl;exact qggo rfl (qgp _ _ _ rfl (qab hz5) (cvb _ _) (qzqq rfl))
    |7,hi=>cases hi;obtain⟨z6,hz6,rfl⟩:=hdep 6 rfl;exact qggo rfl (z_mk _ _ rfl (by simp[qab hz6]) (mkb1 _ _) ⟨_,rfl,qac _ _,⟨_,_,_,rfl,qni u _ (Nat.le_trans hb.size (Nat.le_trans (by simp) hbu.size)) _⟩⟩)
    |8,hi=>cases hi;obtain⟨z3,hz3,hg3⟩:=hdep 3 rfl;obtain⟨ao3,n3,cap3,rfl,ho3⟩:=hg3;obtain⟨z7,hz7,hg7⟩:=hdep 7 rfl;obtain⟨ao7,n7,cap7,rfl,ho7⟩:=hg7;refine qggo rfl (qal (qak _ _ _ _ _ _ _ _ cf_beh (qab hz3) (qab hz7) (fun _=>rfl) _ _ _ _ _ _) ?_);refine (qbx _ _ _ _ _ _ _ _ u ho3.rd ho7.rd (by have:=ho3.1;have:=ho.1;have:=pT_le (wf l k);simp at *;omega) (by have:=ho7.1;simp at this;omega)).mono ?_;rintro e u' ⟨a1,c1,rfl,o1,b1⟩;exact⟨_,rfl,_,rfl,b1,a1,_,c1,rfl,o1.mono (Nat.le_trans hb.size (Nat.le_trans (by simp) hbu.size))⟩
    |(_+9),hi=>cases hi
   intro vs y2 b3 hG a3 h3;obtain⟨a2,n2,c2,e8,O2⟩:=hG 8 (by decide);clear hG;replace h3:puts _ 2 _ (Fq27)=_:=h3;replace h3:puts _ 4 _ (Fq27)=_:=h3;replace h3:puts _ 6 _ (Fq27)=_:=h3;replace h3:puts _ 8 _ (Fq27)=_:=h3;replace h3:Fq27=_:=h3;unfold Fq27 at h3;subst h3;simp only[e8];have s2:n2≤2+63*(k+1):=by have:=O2.1;have:=ho.1;have:=pT_le (wf l k);simp at *;omega
   rw[List.append_assoc,List.append_assoc,HS.out] at O2;have hb2:=bel (hb.alloc hb.size _) b3;clear b3 e8 ho hb A;go_wp2;go_roundw
   case rel=>exact⟨k+1,n2,a2,c2,by go_num,rfl,by omega,by omega,O2,hb2⟩
   case measure=>simp[intOf];omega
  ·have hlt':¬(k:Int)<n:=by omega
   obtain rfl:k=n:=by omega
   go_wp2;go_ret;exact⟨a,j,c,rfl,by rw[←show wanB (l.take k)=wanB l from flat_all _ l _ HL.out];exact ho,hb⟩
theorem qpl (dup:Bool) (qos:Int) (ret:Bool) (id:Int) (top:ByteArray) (b:Sl) (w:World) (hq:0≤qos∧qos≤2) :
  Calls Tryz.prog 117 #[.iface 129 (.agg (pubC dup qos ret id top b))] w fun e w'=>e=.returned (.int .i64 (pubL dup qos ret))∧Below w.heap.size w w':=by
 have i1:=qds dup 8 (by omega);have i2:=qds ret 1 (by omega);have A:Row (w.alloc (.cells (pubC dup qos ret id top b) 129)) w.heap.size (pubC dup qos ret id top b) 129:=Row.new _ _ _;have hb:Below w.heap.size w (w.alloc (.cells (pubC dup qos ret id top b) 129)):=qac _ _;unfold pubC at A hb ⊢;have h0:=qes (X:=76) Tryz.underlying129;go_enter Tryz.func117,Tryz.ntmps117;go_wp2;refine qaw (by kernel_rfl) rfl (fun i u x=>match i with
  |0=>u=.pointer (some ⟨w.heap.size,0,none⟩)
  |1=>u=.bool dup
  |2=>u=.int .i64 (bit dup 8)
  |3=>u=.pointer (some ⟨w.heap.size,1,none⟩)
  |4=>u=.int .i64 (qos)
  |5=>u=.int .i64 (2*qos)
  |6=>u=.int .i64 (bit dup 8+2*qos)
  |7=>u=.pointer (some ⟨w.heap.size,2,none⟩)
  |8=>u=.bool ret
  |9=>u=.int .i64 (bit ret 1)
  |10=>u=.int .i64 (bit dup 8+2*qos+bit ret 1)
  |11=>u=.int .i64 (bit dup 8+2*qos+bit ret 1)
  |_=>True) ?_ ?_ ?_
 ·intro i u x x' hx h
  match i,h with
  |0,h|1,h|2,h|3,h|4,h|5,h|6,h|7,h|8,h|9,h|10,h|11,h=>exact h
  |(_+12),h=>trivial
 ·intro i o a u hi hk hbu hdep;replace hdep:=qhdd hdep
  match i,hi with
  |0,hi=>cases hi;exact qggo rfl (z_fld (X:=⟨w.heap.size,0,none⟩) (Y:=⟨w.heap.size,0,none⟩) 129 _ 0 rfl (qevv hk 3 rfl rfl) (fun _=>by kernel_rfl) (qzqq rfl))
  |1,hi=>cases hi;obtain⟨z0,hz0,rfl⟩:=hdep 0 rfl;exact qggo rfl (z_ld 4 _ rfl (qab hz0) (by kernel_rfl) ((A.next hbu).cell 0 rfl) (qzqq rfl))
  |2,hi=>cases hi;obtain⟨z1,hz1,rfl⟩:=hdep 1 rfl;refine qggo rfl (qal (qak _ _ _ _ _ _ _ _ qkg (qab hz1) (rfl) (fun _=>rfl) _ _ _ _ _ _) ?_);refine (bit_i dup 8 u).mono ?_;rintro e u' ⟨rfl,hu⟩;exact⟨_,rfl,_,rfl,hu ▸ Below.refl _ _,rfl⟩
  |3,hi=>cases hi;exact qggo rfl (z_fld (X:=⟨w.heap.size,0,none⟩) (Y:=⟨w.heap.size,1,none⟩) 129 _ 1 rfl (qevv hk 3 rfl rfl) (fun _=>by kernel_rfl) (qzqq rfl))
  |4,hi=>cases hi;obtain⟨z3,hz3,rfl⟩:=hdep 3 rfl;exact qggo rfl (z_ld 3 _ rfl (qab hz3) (by kernel_rfl) ((A.next hbu).cell 1 rfl) (qzqq rfl))
  |5,hi=>cases hi;obtain⟨z4,hz4,rfl⟩:=hdep 4 rfl;exact qggo rfl (z_bin _ _ _ _ _ rfl (rfl) (qab hz4) (muli _ _ _ _ _ (by rw[qay]<;>omega)) (qzqq rfl))
  |6,hi=>cases hi;obtain⟨z2,hz2,rfl⟩:=hdep 2 rfl;obtain⟨z5,hz5,rfl⟩:=hdep 5 rfl;exact qggo rfl (z_bin _ _ _ _ _ rfl (qab hz2) (qab hz5) (addi _ _ _ _ _ (by rw[qay]<;>omega)) (qzqq rfl))
  |7,hi=>cases hi;exact qggo rfl (z_fld (X:=⟨w.heap.size,0,none⟩) (Y:=⟨w.heap.size,2,none⟩) 129 _ 2 rfl (qevv hk 3 rfl rfl) (fun _=>by kernel_rfl) (qzqq rfl))
  |8,hi=>cases hi;obtain⟨z7,hz7,rfl⟩:=hdep 7 rfl;exact qggo rfl (z_ld 4 _ rfl (qab hz7) (by kernel_rfl) ((A.next hbu).cell 2 rfl) (qzqq rfl))
  |9,hi=>cases hi;obtain⟨z8,hz8,rfl⟩:=hdep 8 rfl;refine qggo rfl (qal (qak _ _ _ _ _ _ _ _ qkg (qab hz8) (rfl) (fun _=>rfl) _ _ _ _ _ _) ?_);refine (bit_i ret 1 u).mono ?_;rintro e u' ⟨rfl,hu⟩;exact⟨_,rfl,_,rfl,hu ▸ Below.refl _ _,rfl⟩
  |10,hi=>cases hi;obtain⟨z6,hz6,rfl⟩:=hdep 6 rfl;obtain⟨z9,hz9,rfl⟩:=hdep 9 rfl;exact qggo rfl (z_bin _ _ _ _ _ rfl (qab hz6) (qab hz9) (addi _ _ _ _ _ (by rw[qay]<;>omega)) (qzqq rfl))
  |11,hi=>cases hi;obtain⟨z10,hz10,rfl⟩:=hdep 10 rfl;exact qggo rfl (qae (v:=_) (w':=u) (by first | (simp[execOp,qab hz10];done) | (simp[execOp,qab hz10];rfl)) (qzqq rfl))
  |(_+12),hi=>cases hi
 intro vs y3 b3 hG a3 h3;have gr:vs 11=.int .i64 (bit dup 8+2*qos+bit ret 1):=hG 11 (by decide);have s2:=qgl h3 rfl 11 rfl rfl;rw[gr] at s2;have hd:=(qim h3).trans (show _ = [] from rfl);clear h3 hG;go_wp2;refine bodyPost_ret (results_tmp rfl _ _ _) hd ⟨?_,bel hb b3⟩;rw[qjl s2];rfl

abbrev followN : String := "loop.example/g00480/impl.follow"
theorem qhh (v:Value) (w:World):Calls Tryz.prog 65 #[.iface 124 v] w fun e w'=>e=.returned (.int .u8 16)∧Below w.heap.size w w':=by
 go_enter Tryz.func65,Tryz.ntmps65;go_wp2_with fail
 refine (qjb v _).mono ?_;rintro e y ⟨rfl,hy⟩;rw[hy];go_wp2_with fail
 refine (qpi v _).mono ?_;rintro e y2 ⟨rfl,hy2⟩;rw[hy2];go_wp2;go_ret;exact⟨rfl,Below.refl _ _⟩
theorem qhg (v:Value) (w:World):Calls Tryz.prog 65 #[.iface 127 v] w fun e w'=>e=.returned (.int .u8 32)∧Below w.heap.size w w':=by
 go_enter Tryz.func65,Tryz.ntmps65;go_wp2_with fail
 refine (qja v _).mono ?_;rintro e y ⟨rfl,hy⟩;rw[hy];go_wp2_with fail
 refine (qph v _).mono ?_;rintro e y2 ⟨rfl,hy2⟩;rw[hy2];go_wp2;go_ret;exact⟨rfl,Below.refl _ _⟩
theorem qiq (v:Value) (w:World):Calls Tryz.prog 65 #[.iface 134 v] w fun e w'=>e=.returned (.int .u8 64)∧Below w.heap.size w w':=by
 go_enter Tryz.func65,Tryz.ntmps65;go_wp2_with fail
 refine (qju v _).mono ?_;rintro e y ⟨rfl,hy⟩;rw[hy];go_wp2_with fail
 refine (qqr v _).mono ?_;rintro e y2 ⟨rfl,hy2⟩;rw[hy2];go_wp2;go_ret;exact⟨rfl,Below.refl _ _⟩
theorem qir (v:Value) (w:World):Calls Tryz.prog 65 #[.iface 135 v] w fun e w'=>e=.returned (.int .u8 80)∧Below w.heap.size w w':=by
 go_enter Tryz.func65,Tryz.ntmps65;go_wp2_with fail
 refine (qjv v _).mono ?_;rintro e y ⟨rfl,hy⟩;rw[hy];go_wp2_with fail
 refine (qqs v _).mono ?_;rintro e y2 ⟨rfl,hy2⟩;rw[hy2];go_wp2;go_ret;exact⟨rfl,Below.refl _ _⟩
theorem qis (v:Value) (w:World):Calls Tryz.prog 65 #[.iface 136 v] w fun e w'=>e=.returned (.int .u8 98)∧Below w.heap.size w w':=by
 go_enter Tryz.func65,Tryz.ntmps65;go_wp2_with fail
 refine (qjw v _).mono ?_;rintro e y ⟨rfl,hy⟩;rw[hy];go_wp2_with fail
 refine (qqt v _).mono ?_;rintro e y2 ⟨rfl,hy2⟩;rw[hy2];go_wp2;go_ret;exact⟨rfl,Below.refl _ _⟩
theorem qhj (v:Value) (w:World):Calls Tryz.prog 65 #[.iface 137 v] w fun e w'=>e=.returned (.int .u8 112)∧Below w.heap.size w w':=by
 go_enter Tryz.func65,Tryz.ntmps65;go_wp2_with fail
 refine (qjd v _).mono ?_;rintro e y ⟨rfl,hy⟩;rw[hy];go_wp2_with fail
 refine (qpk v _).mono ?_;rintro e y2 ⟨rfl,hy2⟩;rw[hy2];go_wp2;go_ret;exact⟨rfl,Below.refl _ _⟩
theorem qgd (v:Value) (w:World):Calls Tryz.prog 65 #[.iface 139 v] w fun e w'=>e=.returned (.int .u8 130)∧Below w.heap.size w w':=by
 go_enter Tryz.func65,Tryz.ntmps65;go_wp2_with fail
 refine (qgy v _).mono ?_;rintro e y ⟨rfl,hy⟩;rw[hy];go_wp2_with fail
 refine (qmj v _).mono ?_;rintro e y2 ⟨rfl,hy2⟩;rw[hy2];go_wp2;go_ret;exact⟨rfl,Below.refl _ _⟩
theorem qit (v:Value) (w:World):Calls Tryz.prog 65 #[.iface 141 v] w fun e w'=>e=.returned (.int .u8 144)∧Below w.heap.size w w':=by
 go_enter Tryz.func65,Tryz.ntmps65;go_wp2_with fail
 refine (qjx v _).mono ?_;rintro e y ⟨rfl,hy⟩;rw[hy];go_wp2_with fail
 refine (qqu v _).mono ?_;rintro e y2 ⟨rfl,hy2⟩;rw[hy2];go_wp2;go_ret;exact⟨rfl,Below.refl _ _⟩
theorem qfj (v:Value) (w:World):Calls Tryz.prog 65 #[.iface 143 v] w fun e w'=>e=.returned (.int .u8 162)∧Below w.heap.size w w':=by
 go_enter Tryz.func65,Tryz.ntmps65;go_wp2_with fail
 refine (qfz v _).mono ?_;rintro e y ⟨rfl,hy⟩;rw[hy];go_wp2_with fail
 refine (qkr v _).mono ?_;rintro e y2 ⟨rfl,hy2⟩;rw[hy2];go_wp2;go_ret;exact⟨rfl,Below.refl _ _⟩
theorem qgs (v:Value) (w:World):Calls Tryz.prog 65 #[.iface 144 v] w fun e w'=>e=.returned (.int .u8 176)∧Below w.heap.size w w':=by
 go_enter Tryz.func65,Tryz.ntmps65;go_wp2_with fail
 refine (qhz v _).mono ?_;rintro e y ⟨rfl,hy⟩;rw[hy];go_wp2_with fail
 refine (qnv v _).mono ?_;rintro e y2 ⟨rfl,hy2⟩;rw[hy2];go_wp2;go_ret;exact⟨rfl,Below.refl _ _⟩
theorem qhi (v:Value) (w:World):Calls Tryz.prog 65 #[.iface 148 v] w fun e w'=>e=.returned (.int .u8 192)∧Below w.heap.size w w':=by
 go_enter Tryz.func65,Tryz.ntmps65;go_wp2_with fail
 refine (qjc v _).mono ?_;rintro e y ⟨rfl,hy⟩;rw[hy];go_wp2_with fail
 refine (qpj v _).mono ?_;rintro e y2 ⟨rfl,hy2⟩;rw[hy2];go_wp2;go_ret;exact⟨rfl,Below.refl _ _⟩
theorem qgr (v:Value) (w:World):Calls Tryz.prog 65 #[.iface 149 v] w fun e w'=>e=.returned (.int .u8 208)∧Below w.heap.size w w':=by
 go_enter Tryz.func65,Tryz.ntmps65;go_wp2_with fail
 refine (qhy v _).mono ?_;rintro e y ⟨rfl,hy⟩;rw[hy];go_wp2_with fail
 refine (qnu v _).mono ?_;rintro e y2 ⟨rfl,hy2⟩;rw[hy2];go_wp2;go_ret;exact⟨rfl,Below.refl _ _⟩
theorem qfy (v:Value) (w:World):Calls Tryz.prog 65 #[.iface 150 v] w fun e w'=>e=.returned (.int .u8 224)∧Below w.heap.size w w':=by
 go_enter Tryz.func65,Tryz.ntmps65;go_wp2_with fail
 refine (qgo v _).mono ?_;rintro e y ⟨rfl,hy⟩;rw[hy];go_wp2_with fail
 refine (qlh v _).mono ?_;rintro e y2 ⟨rfl,hy2⟩;rw[hy2];go_wp2;go_ret;exact⟨rfl,Below.refl _ _⟩
theorem or48 (dup:Bool) (qos:Int) (ret:Bool) (hq:0≤qos∧qos≤2):bits .or .i64 48 (pubL dup qos ret)=48+pubL dup qos ret:=by
 have h:qos=0∨qos=1∨qos=2:=by omega
 rcases h with rfl | rfl | rfl<;>cases dup<;>cases ret<;>decide
theorem pubL_in (dup:Bool) (qos:Int) (ret:Bool) (hq:0≤qos∧qos≤2):0≤pubL dup qos ret∧pubL dup qos ret≤13:=by
 unfold pubL;have:=qds dup 8 (by omega);have:=qds ret 1 (by omega);omega
theorem qmc (dup:Bool) (qos:Int) (ret:Bool) (id:Int) (top:ByteArray) (b:Sl) (w:World) (hq:0≤qos∧qos≤2) :
  Calls Tryz.prog 65 #[.iface 129 (.agg (pubC dup qos ret id top b))] w fun e w'=>e=.returned (.int .u8 (48+pubL dup qos ret))∧Below w.heap.size w w':=by
 have h1:=or48 dup qos ret hq;have h2:=pubL_in dup qos ret hq;have h3:=fun u=>qpl dup qos ret id top b u hq
 generalize pubL dup qos ret=L at h1 h2 h3 ⊢;generalize pubC dup qos ret id top b=cs at h3 ⊢;have H3:Hid (∀u:World,Calls Tryz.prog 117 #[.iface 129 (.agg cs)] u fun e u'=>e=.returned (.int .i64 L)∧Below u.heap.size u u'):=h3;clear h3;have h4:(48+L)%256=48+L:=by omega
 go_enter Tryz.func65,Tryz.ntmps65;go_wp2_with fail
 refine (qfx _ _).mono ?_;rintro e y ⟨rfl,hy⟩;rw[hy];go_wp2_with fail
 refine (H3.out _).mono ?_;rintro e y2 ⟨rfl,b2⟩;go_wp2;go_ret;exact⟨rfl,b2⟩
theorem qcq (p:Pk) (d:Pd) (w:World) (hp:PRd w p d) (hz:Psz p d) (hok:(pv p d).ok=true) (T:TypeId) (v:Value) (fF:FuncId) (rv:Value) (L:List UInt8) (N M:Nat) (fb:Int) (hN:L.length=N) (hNb:N≤200000000) (hM:(lenB N).length=M) (hfb:0≤fb∧fb<256)
  (hkind:∀u:World,Calls Tryz.prog 63 #[.agg p.cells] u fun e u'=>e=.returned (.iface T v)∧Below u.heap.size u u')
  (hm:∀u:World,(callMethod (.iface T v) followN #[]).run Tryz.prog u=.ok (.enter fF #[rv]) u)
  (hfol:∀u:World,PRd u p d→Gives fF #[rv] u L)
  (hfirst:∀u:World,Calls Tryz.prog 65 #[.iface T v] u fun e u'=>e=.returned (.int .u8 fb)∧Below u.heap.size u u') :
  Gives 15 #[.agg p.cells] w ([byte fb]++lenB N++L):=by
 unfold Gives;have hm4:=qmi N;have HN:Hid (L.length=N):=hN;have HM:Hid ((lenB N).length=M):=hM;have hM4:M≤4:=by rw[←hM];exact hm4
 have KI:Hid (∀u:World,Calls Tryz.prog 63 #[.agg p.cells] u fun e u'=>e=.returned (.iface T v)∧Below u.heap.size u u'):=hkind;have ME:Hid (∀u:World,(callMethod (.iface T v) followN #[]).run Tryz.prog u=.ok (.enter fF #[rv]) u):=hm;have FO:Hid (∀u:World,PRd u p d→Gives fF #[rv] u L):=hfol;have FI:Hid (∀u:World,Calls Tryz.prog 65 #[.iface T v] u fun e u'=>e=.returned (.int .u8 fb)∧Below u.heap.size u u'):=hfirst;have OK:Hid ((pv p d).ok=true):=hok;have f256:Hid (fb%256=fb):=Int.emod_eq_of_lt hfb.1 hfb.2;clear hN hM hm4 hkind hm hfol hfirst hok;have hb:Below w.heap.size w (w.alloc (.cells p.cells 28)):=qac _ _;have A:Blk (w.alloc (.cells p.cells 28)) w.heap.size p:=heap_alloc_new _ _;replace hp:=hp.below hb;go_enter Tryz.func15,Tryz.ntmps15;go_wp2_with (first | refine qaj A rfl _ rfl rfl ?_ | fail)
 refine (qnh p d _ hp hz).mono ?_;rintro e y1 ⟨he,b1⟩;obtain rfl:e=.returned (.bool true):=he.trans (qad OK.out);replace hb:=bel hb b1;replace A:=A.next b1;replace hp:=hp.below b1;clear b1 he;go_wp2_with (first | refine qaj A rfl _ rfl rfl ?_ | fail)
 refine (KI.out _).mono ?_;rintro e y2 ⟨rfl,b2⟩;replace hb:=bel hb b2;replace hp:=hp.below b2;clear b2 A;go_wp2_with (first | refine op_call (qaa rfl _) (qjj _ _ _ _ _ _ (ME.out _) _ _ _ _ _ _) ?_ | fail)
 refine (FO.out _ hp).mono ?_;rintro e y3 ⟨a1,n1,c1,rfl,O1,b3⟩;obtain rfl:N=n1:=HN.out.symm.trans O1.1;refine⟨_,rfl,?_⟩;have hb3:=hb.size;replace hb:=bel hb b3;clear b3;go_wp2_with fail
 refine (FI.out _).mono ?_;rintro e y4 ⟨rfl,b4⟩;have hb4:=hb.size;replace hb:=bel hb b4;replace O1:=O1.below b4;clear b4;have OB:=qni y4 w.heap.size hb.size fb;rw[f256.out] at OB;have b5:=qac y4 (.cells #[.int .u8 fb] 5);replace hb:=bel hb b5;replace O1:=O1.below b5;clear b5;go_wp2_with fail
 refine (qvh M _ 1 1 N [byte fb] _ HM.out OB.rd (by omega)).mono ?_;rintro e y6 ⟨a2,c2,rfl,O2,b6⟩;replace hb:=bel hb b6;replace O1:=O1.below b6;clear b6 OB;go_wp2_with fail
 refine (qbx _ _ _ _ _ _ _ L _ O2.rd O1.rd (by omega) (by omega)).mono ?_;rintro e y7 ⟨a3,c3,rfl,O3,b7⟩;go_wp2;go_ret;exact⟨a3,_,c3,rfl,O3.mono hb.size,bel hb b7⟩
theorem qnq (p:Pk) (d:Pd) (w:World) (hp:PRd w p d) (hz:Psz p d) (hl:Plen p 1048576) (hok:(pv p d).ok=true) (ht:p.ty=1):Gives 15 #[.agg p.cells] w (pv p d).bytes:=by
 have hty:(pv p d).ty=1:=ht;have hZ:=hz;obtain⟨z1,z2,z3,z4,z5,z6⟩:=hz;obtain⟨n1,n2,n3,n4,n5,n6⟩:=hl;have hle:=qdz (pv p d) (show d.bod.length≤_ by rw[hp.1.1.1];exact n1) (show d.wan.length≤_ by rw[hp.2.2.2.1.1.1];exact n4) (show d.nam.length≤_ by rw[hp.2.2.2.2.1.1.1];exact n5) (show d.cds.length≤_ by rw[hp.2.2.2.2.2.1.1];exact n6);have e:(pv p d).rest=conB p.lev p.cli p.cln p.kee p.hw (if p.hw then p.wt else ByteArray.empty) (if p.hw then d.wb else []) (if p.hw then p.wq else 0) (if p.hw then p.wr else false) p.hu (if p.hu then p.us else ByteArray.empty) (p.hu&&p.hp) (if p.hu&&p.hp then d.pa else []):=rest1 hok hty;rw[e] at hle;rw[qcp hok,e,hty,show (pv p d).low=0 by simp[Pv.low,hty]];exact qcq p d w hp hZ hok 124 (.agg (conOf p)) 226 (.agg (conOf p)) _ _ _ 16 rfl hle rfl (by decide) (fun u=>qft p u ht) (fun u=>by kernel_rfl) (fun u hu=>follow_con _ _ _ _ _ _ _ _ _ _ _ _ _ _ _ u (rd_if _ _ hu.2.1) (rd_if _ _ hu.2.2.1) (body1 hok hty) z2 (sz_if _ _ z3) (sz_if _ _ z4)) (fun u=>qhh _ u)
theorem qnp (p:Pk) (d:Pd) (w:World) (hp:PRd w p d) (hz:Psz p d) (hl:Plen p 1048576) (hok:(pv p d).ok=true) (ht:p.ty=2):Gives 15 #[.agg p.cells] w (pv p d).bytes:=by
 have hty:(pv p d).ty=2:=ht;have hZ:=hz;obtain⟨z1,z2,z3,z4,z5,z6⟩:=hz;obtain⟨n1,n2,n3,n4,n5,n6⟩:=hl;have hle:=qdz (pv p d) (show d.bod.length≤_ by rw[hp.1.1.1];exact n1) (show d.wan.length≤_ by rw[hp.2.2.2.1.1.1];exact n4) (show d.nam.length≤_ by rw[hp.2.2.2.2.1.1.1];exact n5) (show d.cds.length≤_ by rw[hp.2.2.2.2.2.1.1];exact n6);have e:(pv p d).rest = [byte (bit (p.pre&&decide (p.cod=0)) 1),byte p.cod]:=rest2 hok hty;rw[e] at hle;rw[qcp hok,e,hty,show (pv p d).low=0 by simp[Pv.low,hty]];exact qcq p d w hp hZ hok 127 (.agg #[.int .i64 p.cod,.bool (p.pre&&decide (p.cod=0))]) 234 (.agg #[.int .i64 p.cod,.bool (p.pre&&decide (p.cod=0))]) _ _ _ 32 rfl hle rfl (by decide) (fun u=>qfs p u ht) (fun u=>by kernel_rfl) (fun u hu=>follow_ack _ _ u) (fun u=>qhg _ u)
theorem qnt (p:Pk) (d:Pd) (w:World) (hp:PRd w p d) (hz:Psz p d) (hl:Plen p 1048576) (hok:(pv p d).ok=true) (ht:p.ty=3):Gives 15 #[.agg p.cells] w (pv p d).bytes:=by
 have hty:(pv p d).ty=3:=ht;have hZ:=hz;obtain⟨z1,z2,z3,z4,z5,z6⟩:=hz;obtain⟨n1,n2,n3,n4,n5,n6⟩:=hl;have hle:=qdz (pv p d) (show d.bod.length≤_ by rw[hp.1.1.1];exact n1) (show d.wan.length≤_ by rw[hp.2.2.2.1.1.1];exact n4) (show d.nam.length≤_ by rw[hp.2.2.2.2.1.1.1];exact n5) (show d.cds.length≤_ by rw[hp.2.2.2.2.2.1.1];exact n6);have hpl:=pubL_in (if 0<p.qos then p.dup else false) p.qos p.ret (body3 hok hty);have e:(pv p d).rest=pubB p.qos (if 0<p.qos then p.id else 0) p.top d.bod:=rest3 hok hty;rw[e] at hle;rw[qcp hok,e,hty,low3 hok hty];exact qcq p d w hp hZ hok 129 (.agg (pubOf p)) 237 (.agg (pubOf p)) _ _ _ (48+pubL (if 0<p.qos then p.dup else false) p.qos p.ret) rfl hle rfl (by omega) (fun u=>qfw p u ht) (fun u=>by kernel_rfl) (fun u hu=>follow_pub _ _ _ _ _ _ _ u hu.1 z1 n1) (fun u=>qmc _ _ _ _ _ _ u (body3 hok hty))
theorem qpb (p:Pk) (d:Pd) (w:World) (hp:PRd w p d) (hz:Psz p d) (hl:Plen p 1048576) (hok:(pv p d).ok=true) (ht:p.ty=4):Gives 15 #[.agg p.cells] w (pv p d).bytes:=by
 have hty:(pv p d).ty=4:=ht;have hZ:=hz;obtain⟨z1,z2,z3,z4,z5,z6⟩:=hz;obtain⟨n1,n2,n3,n4,n5,n6⟩:=hl;have hle:=qdz (pv p d) (show d.bod.length≤_ by rw[hp.1.1.1];exact n1) (show d.wan.length≤_ by rw[hp.2.2.2.1.1.1];exact n4) (show d.nam.length≤_ by rw[hp.2.2.2.2.1.1.1];exact n5) (show d.cds.length≤_ by rw[hp.2.2.2.2.2.1.1];exact n6);have e:(pv p d).rest=wordB p.id:=restI hok 4 hty (by decide);rw[e] at hle;rw[qcp hok,e,hty,show (pv p d).low=0 by simp[Pv.low,hty]];exact qcq p d w hp hZ hok 134 (.agg #[.int .i64 p.id]) 241 (.agg #[.int .i64 p.id]) _ _ _ 64 rfl hle rfl (by decide) (fun u=>qgg p u ht) (fun u=>by kernel_rfl) (fun u hu=>qjk _ u) (fun u=>qiq _ u)
theorem qpc (p:Pk) (d:Pd) (w:World) (hp:PRd w p d) (hz:Psz p d) (hl:Plen p 1048576) (hok:(pv p d).ok=true) (ht:p.ty=5):Gives 15 #[.agg p.cells] w (pv p d).bytes:=by
 have hty:(pv p d).ty=5:=ht;have hZ:=hz;obtain⟨z1,z2,z3,z4,z5,z6⟩:=hz;obtain⟨n1,n2,n3,n4,n5,n6⟩:=hl;have hle:=qdz (pv p d) (show d.bod.length≤_ by rw[hp.1.1.1];exact n1) (show d.wan.length≤_ by rw[hp.2.2.2.1.1.1];exact n4) (show d.nam.length≤_ by rw[hp.2.2.2.2.1.1.1];exact n5) (show d.cds.length≤_ by rw[hp.2.2.2.2.2.1.1];exact n6);have e:(pv p d).rest=wordB p.id:=restI hok 5 hty (by decide);rw[e] at hle;rw[qcp hok,e,hty,show (pv p d).low=0 by simp[Pv.low,hty]];exact qcq p d w hp hZ hok 135 (.agg #[.int .i64 p.id]) 241 (.agg #[.int .i64 p.id]) _ _ _ 80 rfl hle rfl (by decide) (fun u=>qgh p u ht) (fun u=>by kernel_rfl) (fun u hu=>qjk _ u) (fun u=>qir _ u)
theorem qpd (p:Pk) (d:Pd) (w:World) (hp:PRd w p d) (hz:Psz p d) (hl:Plen p 1048576) (hok:(pv p d).ok=true) (ht:p.ty=6):Gives 15 #[.agg p.cells] w (pv p d).bytes:=by
 have hty:(pv p d).ty=6:=ht;have hZ:=hz;obtain⟨z1,z2,z3,z4,z5,z6⟩:=hz;obtain⟨n1,n2,n3,n4,n5,n6⟩:=hl;have hle:=qdz (pv p d) (show d.bod.length≤_ by rw[hp.1.1.1];exact n1) (show d.wan.length≤_ by rw[hp.2.2.2.1.1.1];exact n4) (show d.nam.length≤_ by rw[hp.2.2.2.2.1.1.1];exact n5) (show d.cds.length≤_ by rw[hp.2.2.2.2.2.1.1];exact n6);have e:(pv p d).rest=wordB p.id:=restI hok 6 hty (by decide);rw[e] at hle;rw[qcp hok,e,hty,show (pv p d).low=2 by simp[Pv.low,hty]];exact qcq p d w hp hZ hok 136 (.agg #[.int .i64 p.id]) 241 (.agg #[.int .i64 p.id]) _ _ _ 98 rfl hle rfl (by decide) (fun u=>qgi p u ht) (fun u=>by kernel_rfl) (fun u hu=>qjk _ u) (fun u=>qis _ u)
theorem qns (p:Pk) (d:Pd) (w:World) (hp:PRd w p d) (hz:Psz p d) (hl:Plen p 1048576) (hok:(pv p d).ok=true) (ht:p.ty=7):Gives 15 #[.agg p.cells] w (pv p d).bytes:=by
 have hty:(pv p d).ty=7:=ht;have hZ:=hz;obtain⟨z1,z2,z3,z4,z5,z6⟩:=hz;obtain⟨n1,n2,n3,n4,n5,n6⟩:=hl;have hle:=qdz (pv p d) (show d.bod.length≤_ by rw[hp.1.1.1];exact n1) (show d.wan.length≤_ by rw[hp.2.2.2.1.1.1];exact n4) (show d.nam.length≤_ by rw[hp.2.2.2.2.1.1.1];exact n5) (show d.cds.length≤_ by rw[hp.2.2.2.2.2.1.1];exact n6);have e:(pv p d).rest=wordB p.id:=restI hok 7 hty (by decide);rw[e] at hle;rw[qcp hok,e,hty,show (pv p d).low=0 by simp[Pv.low,hty]];exact qcq p d w hp hZ hok 137 (.agg #[.int .i64 p.id]) 241 (.agg #[.int .i64 p.id]) _ _ _ 112 rfl hle rfl (by decide) (fun u=>qfv p u ht) (fun u=>by kernel_rfl) (fun u hu=>qjk _ u) (fun u=>qhj _ u)
theorem qle (p:Pk) (d:Pd) (w:World) (hp:PRd w p d) (hz:Psz p d) (hl:Plen p 1048576) (hok:(pv p d).ok=true) (ht:p.ty=8):Gives 15 #[.agg p.cells] w (pv p d).bytes:=by
 have hty:(pv p d).ty=8:=ht;have hZ:=hz;obtain⟨z1,z2,z3,z4,z5,z6⟩:=hz;obtain⟨n1,n2,n3,n4,n5,n6⟩:=hl;have hle:=qdz (pv p d) (show d.bod.length≤_ by rw[hp.1.1.1];exact n1) (show d.wan.length≤_ by rw[hp.2.2.2.1.1.1];exact n4) (show d.nam.length≤_ by rw[hp.2.2.2.2.1.1.1];exact n5) (show d.cds.length≤_ by rw[hp.2.2.2.2.2.1.1];exact n6);have e:(pv p d).rest=wordB p.id++wanB d.wan:=rest8 hok hty;rw[e] at hle;rw[qcp hok,e,hty,show (pv p d).low=2 by simp[Pv.low,hty]];exact qcq p d w hp hZ hok 139 (.agg #[.int .i64 p.id,.slice p.wan.a p.wan.n p.wan.c]) 244 (.agg #[.int .i64 p.id,.slice p.wan.a p.wan.n p.wan.c]) _ _ _ 130 rfl hle rfl (by decide) (fun u=>qel p u ht) (fun u=>by kernel_rfl) (fun u hu=>follow_sub _ _ _ u hu.2.2.2.1 z5 n4) (fun u=>qgd _ u)
theorem qpe (p:Pk) (d:Pd) (w:World) (hp:PRd w p d) (hz:Psz p d) (hl:Plen p 1048576) (hok:(pv p d).ok=true) (ht:p.ty=9):Gives 15 #[.agg p.cells] w (pv p d).bytes:=by
 have hty:(pv p d).ty=9:=ht;have hZ:=hz;obtain⟨z1,z2,z3,z4,z5,z6⟩:=hz;obtain⟨n1,n2,n3,n4,n5,n6⟩:=hl;have hle:=qdz (pv p d) (show d.bod.length≤_ by rw[hp.1.1.1];exact n1) (show d.wan.length≤_ by rw[hp.2.2.2.1.1.1];exact n4) (show d.nam.length≤_ by rw[hp.2.2.2.2.1.1.1];exact n5) (show d.cds.length≤_ by rw[hp.2.2.2.2.2.1.1];exact n6);have e:(pv p d).rest=wordB p.id++cdsB d.cds:=rest9 hok hty;rw[e] at hle;rw[qcp hok,e,hty,show (pv p d).low=0 by simp[Pv.low,hty]];exact qcq p d w hp hZ hok 141 (.agg #[.int .i64 p.id,.slice p.cds.a p.cds.n p.cds.c]) 252 (.agg #[.int .i64 p.id,.slice p.cds.a p.cds.n p.cds.c]) _ _ _ 144 rfl hle rfl (by decide) (fun u=>qgj p u ht) (fun u=>by kernel_rfl) (fun u hu=>quv _ _ _ u hu.2.2.2.2.2 n6) (fun u=>qit _ u)
theorem qke (p:Pk) (d:Pd) (w:World) (hp:PRd w p d) (hz:Psz p d) (hl:Plen p 1048576) (hok:(pv p d).ok=true) (ht:p.ty=10):Gives 15 #[.agg p.cells] w (pv p d).bytes:=by
 have hty:(pv p d).ty=10:=ht;have hZ:=hz;obtain⟨z1,z2,z3,z4,z5,z6⟩:=hz;obtain⟨n1,n2,n3,n4,n5,n6⟩:=hl;have hle:=qdz (pv p d) (show d.bod.length≤_ by rw[hp.1.1.1];exact n1) (show d.wan.length≤_ by rw[hp.2.2.2.1.1.1];exact n4) (show d.nam.length≤_ by rw[hp.2.2.2.2.1.1.1];exact n5) (show d.cds.length≤_ by rw[hp.2.2.2.2.2.1.1];exact n6);have e:(pv p d).rest=wordB p.id++namB d.nam:=rest10 hok hty;rw[e] at hle;rw[qcp hok,e,hty,show (pv p d).low=2 by simp[Pv.low,hty]];exact qcq p d w hp hZ hok 143 (.agg #[.int .i64 p.id,.slice p.nam.a p.nam.n p.nam.c]) 258 (.agg #[.int .i64 p.id,.slice p.nam.a p.nam.n p.nam.c]) _ _ _ 162 rfl hle rfl (by decide) (fun u=>qdr p u ht) (fun u=>by kernel_rfl) (fun u hu=>follow_uns _ _ _ u hu.2.2.2.2.1 z6 n5) (fun u=>qfj _ u)
theorem qmg (p:Pk) (d:Pd) (w:World) (hp:PRd w p d) (hz:Psz p d) (hl:Plen p 1048576) (hok:(pv p d).ok=true) (ht:p.ty=11):Gives 15 #[.agg p.cells] w (pv p d).bytes:=by
 have hty:(pv p d).ty=11:=ht;have hZ:=hz;obtain⟨z1,z2,z3,z4,z5,z6⟩:=hz;obtain⟨n1,n2,n3,n4,n5,n6⟩:=hl;have hle:=qdz (pv p d) (show d.bod.length≤_ by rw[hp.1.1.1];exact n1) (show d.wan.length≤_ by rw[hp.2.2.2.1.1.1];exact n4) (show d.nam.length≤_ by rw[hp.2.2.2.2.1.1.1];exact n5) (show d.cds.length≤_ by rw[hp.2.2.2.2.2.1.1];exact n6);have e:(pv p d).rest=wordB p.id:=restI hok 11 hty (by decide);rw[e] at hle;rw[qcp hok,e,hty,show (pv p d).low=0 by simp[Pv.low,hty]];exact qcq p d w hp hZ hok 144 (.agg #[.int .i64 p.id]) 241 (.agg #[.int .i64 p.id]) _ _ _ 176 rfl hle rfl (by decide) (fun u=>qfb p u ht) (fun u=>by kernel_rfl) (fun u hu=>qjk _ u) (fun u=>qgs _ u)
theorem qnr (p:Pk) (d:Pd) (w:World) (hp:PRd w p d) (hz:Psz p d) (hl:Plen p 1048576) (hok:(pv p d).ok=true) (ht:p.ty=12):Gives 15 #[.agg p.cells] w (pv p d).bytes:=by
 have hty:(pv p d).ty=12:=ht;have hZ:=hz;obtain⟨z1,z2,z3,z4,z5,z6⟩:=hz;obtain⟨n1,n2,n3,n4,n5,n6⟩:=hl;have hle:=qdz (pv p d) (show d.bod.length≤_ by rw[hp.1.1.1];exact n1) (show d.wan.length≤_ by rw[hp.2.2.2.1.1.1];exact n4) (show d.nam.length≤_ by rw[hp.2.2.2.2.1.1.1];exact n5) (show d.cds.length≤_ by rw[hp.2.2.2.2.2.1.1];exact n6);have e:(pv p d).rest = []:=restN hok 12 hty (by decide);rw[e] at hle;rw[qcp hok,e,hty,show (pv p d).low=0 by simp[Pv.low,hty]];exact qcq p d w hp hZ hok 148 (.agg #[]) 263 (.agg #[]) _ _ _ 192 rfl hle rfl (by decide) (fun u=>qfu p u ht) (fun u=>by kernel_rfl) (fun u hu=>qop u) (fun u=>qhi _ u)
theorem qmf (p:Pk) (d:Pd) (w:World) (hp:PRd w p d) (hz:Psz p d) (hl:Plen p 1048576) (hok:(pv p d).ok=true) (ht:p.ty=13):Gives 15 #[.agg p.cells] w (pv p d).bytes:=by
 have hty:(pv p d).ty=13:=ht;have hZ:=hz;obtain⟨z1,z2,z3,z4,z5,z6⟩:=hz;obtain⟨n1,n2,n3,n4,n5,n6⟩:=hl;have hle:=qdz (pv p d) (show d.bod.length≤_ by rw[hp.1.1.1];exact n1) (show d.wan.length≤_ by rw[hp.2.2.2.1.1.1];exact n4) (show d.nam.length≤_ by rw[hp.2.2.2.2.1.1.1];exact n5) (show d.cds.length≤_ by rw[hp.2.2.2.2.2.1.1];exact n6);have e:(pv p d).rest = []:=restN hok 13 hty (by decide);rw[e] at hle;rw[qcp hok,e,hty,show (pv p d).low=0 by simp[Pv.low,hty]];exact qcq p d w hp hZ hok 149 (.agg #[]) 263 (.agg #[]) _ _ _ 208 rfl hle rfl (by decide) (fun u=>qfa p u ht) (fun u=>by kernel_rfl) (fun u hu=>qop u) (fun u=>qgr _ u)
theorem qkq (p:Pk) (d:Pd) (w:World) (hp:PRd w p d) (hz:Psz p d) (hl:Plen p 1048576) (hok:(pv p d).ok=true) (ht:p.ty=14):Gives 15 #[.agg p.cells] w (pv p d).bytes:=by
 have hty:(pv p d).ty=14:=ht;have hZ:=hz;obtain⟨z1,z2,z3,z4,z5,z6⟩:=hz;obtain⟨n1,n2,n3,n4,n5,n6⟩:=hl;have hle:=qdz (pv p d) (show d.bod.length≤_ by rw[hp.1.1.1];exact n1) (show d.wan.length≤_ by rw[hp.2.2.2.1.1.1];exact n4) (show d.nam.length≤_ by rw[hp.2.2.2.2.1.1.1];exact n5) (show d.cds.length≤_ by rw[hp.2.2.2.2.2.1.1];exact n6);have e:(pv p d).rest = []:=restN hok 14 hty (by decide);rw[e] at hle;rw[qcp hok,e,hty,show (pv p d).low=0 by simp[Pv.low,hty]];exact qcq p d w hp hZ hok 150 (.agg #[]) 263 (.agg #[]) _ _ _ 224 rfl hle rfl (by decide) (fun u=>qdx p u ht) (fun u=>by kernel_rfl) (fun u hu=>qop u) (fun u=>qfy _ u)
theorem iput_no (p:Pk) (d:Pd) (w:World) (hp:PRd w p d) (hz:Psz p d) (hok:(pv p d).ok=false):Gives 15 #[.agg p.cells] w (pv p d).bytes:=by
 rw[qoa hok];unfold Gives;have OK:Hid ((pv p d).ok=false):=hok;clear hok;have hb:Below w.heap.size w (w.alloc (.cells p.cells 28)):=qac _ _;have A:Blk (w.alloc (.cells p.cells 28)) w.heap.size p:=heap_alloc_new _ _;replace hp:=hp.below hb;go_enter Tryz.func15,Tryz.ntmps15;go_wp2_with (first | refine qaj A rfl _ rfl rfl ?_ | fail)
 refine (qnh p d _ hp hz).mono ?_;rintro e y1 ⟨he,b1⟩;obtain rfl:e=.returned (.bool false):=he.trans (qad OK.out);replace hb:=bel hb b1;clear b1 he A;go_wp2;go_ret;exact⟨_,_,_,rfl,(qbm y1).mono hb.size,bel hb (qac _ _)⟩
theorem qkk (p:Pk) (d:Pd) (w:World) (hp:PRd w p d) (hz:Psz p d) (hl:Plen p 1048576):Gives 15 #[.agg p.cells] w (pv p d).bytes:=by
 cases hok:(pv p d).ok with
 |false=>exact iput_no p d w hp hz hok
 |true=>
  have h:1≤p.ty∧p.ty≤14:=ok_ty hok;have h14:p.ty=1∨p.ty=2∨p.ty=3∨p.ty=4∨p.ty=5∨p.ty=6∨p.ty=7∨p.ty=8∨p.ty=9∨p.ty=10∨p.ty=11∨p.ty=12∨p.ty=13∨p.ty=14:=by omega
  rcases h14 with ht | ht | ht | ht | ht | ht | ht | ht | ht | ht | ht | ht | ht | ht
  ·exact qnq p d w hp hz hl hok ht
  ·exact qnp p d w hp hz hl hok ht
  ·exact qnt p d w hp hz hl hok ht
  ·exact qpb p d w hp hz hl hok ht
  ·exact qpc p d w hp hz hl hok ht
  ·exact qpd p d w hp hz hl hok ht
  ·exact qns p d w hp hz hl hok ht
  ·exact qle p d w hp hz hl hok ht
  ·exact qpe p d w hp hz hl hok ht
  ·exact qke p d w hp hz hl hok ht
  ·exact qmg p d w hp hz hl hok ht
  ·exact qnr p d w hp hz hl hok ht
  ·exact qmf p d w hp hz hl hok ht
  ·exact qkq p d w hp hz hl hok ht
