/- Lemmas. -/
import Derived.Test.YtpjkbgdkligpdaaGreatW20
import Derived.Test.YtpjkbgdkligpdaaGreatW01
set_option linter.unusedVariables false
set_option linter.unusedSimpArgs false
set_option maxRecDepth 100000
set_option maxHeartbeats 20000000
namespace Go.Proofs.YtpjkbgdkligpdaaGreat
open Go.RowKit

theorem infoC:(Tryz.prog.info? 84).map (fun x=>x.size)=some 13:=by kernel_rfl
theorem st_loadC {o:Oper} {a:Act} {w:World} {K:Act→World→Prop} {Q:Exit→Act→World→Prop} {g:Nat} {cs:Array Value} (hn:cs.size=13) (hB:Row w g cs 84) (x:Operand) (ho:o.op=.load 84 x)
  (hx:a.eval x=.pointer (some ⟨g,0,none⟩)) (h:K (a.put o.dst (.agg cs)) w):Oper.wp Tryz.prog o a w K Q :=
 wp_load_row 84 x ho g hx 84 cs (0,0) _ hB Tryz.underlying84 rfl (infoC.trans (by rw[hn])) h
theorem follow_con (lev:Int) (cli:ByteArray) (cln:Bool) (kee:Int) (hw:Bool) (wt:ByteArray) (wb:Sl) (wq:Int) (wr:Bool) (hu:Bool) (us:ByteArray) (hp:Bool) (pa:Sl) (wbl pal:List UInt8) (w:World) (r1:RdIn w wb.a wb.n wb.c wbl) (r2:RdIn w pa.a pa.n pa.c pal) (hq:0≤wq∧wq≤2) (z1:cli.size≤1048576) (z2:wt.size≤1048576) (z3:us.size≤1048576) :
  Gives 129 #[.agg (conC lev cli cln kee hw wt wb wq wr hu us hp pa)] w (conB lev cli cln kee hw wt wbl wq wr hu us hp pal):=by
 unfold Gives;have hfl:=fun u=>flags_con lev cli cln kee hw wt wb wq wr hu us hp pa u hq
 obtain⟨cs,hcs⟩ : ∃cs,conC lev cli cln kee hw wt wb wq wr hu us hp pa=cs:=⟨_,rfl⟩;have hcn:cs.size=13:=by rw[←hcs];rfl
 have k0:cs[0]? = some (.int .i64 lev):=by rw[←hcs];rfl
 have k1:cs[1]? = some (.string cli):=by rw[←hcs];rfl
 have k3:cs[3]? = some (.int .i64 kee):=by rw[←hcs];rfl
 have k4:cs[4]? = some (.bool hw):=by rw[←hcs];rfl
 have k5:cs[5]? = some (.string wt):=by rw[←hcs];rfl
 have k6:cs[6]? = some (.slice wb.a wb.n wb.c):=by rw[←hcs];rfl
 have k9:cs[9]? = some (.bool hu):=by rw[←hcs];rfl
 have k10:cs[10]? = some (.string us):=by rw[←hcs];rfl
 have k11:cs[11]? = some (.bool hp):=by rw[←hcs];rfl
 have k12:cs[12]? = some (.slice pa.a pa.n pa.c):=by rw[←hcs];rfl
 rw[hcs] at hfl ⊢;clear hcs;have A:Row (w.alloc (.cells cs 84)) w.heap.size cs 84:=Row.new _ _ _;have hb:Below w.heap.size w (w.alloc (.cells cs 84)):=qae _ _;replace r1:=r1.below hb;replace r2:=r2.below hb;go_enter Tryz.func129,Tryz.ntmps129;go_wp2;refine qar (by kernel_rfl) rfl (fun i u x=>match i with
  |0=>∃ao n cap,u=.slice ao n cap∧Own x w.heap.size ao n cap (pT mqtt)
  |1=>u=.pointer (some ⟨w.heap.size,0,none⟩)
  |2=>u=.int .i64 (lev)
  |3=>u=.int .u8 (lev%256)
  |4=>u=.agg cs
  |5=>u=.int .i64 (conF cln hw wq wr hp hu)
  |6=>u=.int .u8 (conF cln hw wq wr hp hu%256)
  |7=>∃ao n cap,u=.slice ao n cap∧Own x w.heap.size ao n cap ([byte lev,byte (conF cln hw wq wr hp hu)])
  |8=>∃ao n cap,u=.slice ao n cap∧Own x w.heap.size ao n cap (pT mqtt++[byte lev,byte (conF cln hw wq wr hp hu)])
  |9=>∃ao n cap,u=.slice ao n cap∧Own x w.heap.size ao n cap (pT mqtt++[byte lev,byte (conF cln hw wq wr hp hu)])
  |_=>True) ?_ ?_ ?_
 ·intro i u x x' hx h
  match i,h with
  |0,h=>(obtain⟨ao,n,cap,e,ho⟩:=h;exact⟨ao,n,cap,e,ho.below hx⟩)
  |1,h=>exact h
  |2,h=>exact h
  |3,h=>exact h
  |4,h=>exact h
  |5,h=>exact h
  |6,h=>exact h
  |7,h=>(obtain⟨ao,n,cap,e,ho⟩:=h;exact⟨ao,n,cap,e,ho.below hx⟩)
  |8,h=>(obtain⟨ao,n,cap,e,ho⟩:=h;exact⟨ao,n,cap,e,ho.below hx⟩)
  |9,h=>(obtain⟨ao,n,cap,e,ho⟩:=h;exact⟨ao,n,cap,e,ho.below hx⟩)
  |(_+10),h=>trivial
 ·intro i o a u hi hk hbu hdep
  match i,hi with
  |0,hi=>
   cases hi;refine g_run (qaa rfl _) (qaj (qag _ _ _ _ _ _ _ _ cf_ipt (rfl) (rfl) (fun _=>rfl) _ _ _ _ _ _) ?_);refine (qbu none 0 0 mqtt [] u (RdIn.nil _) (by omega) (by decide)).mono ?_;rintro e u' ⟨a1,n1,c1,rfl,o1,b1⟩;exact⟨_,rfl,_,rfl,b1,a1,n1,c1,rfl,(show Own _ _ _ _ _ (pT mqtt) by rw[qch] at o1;exact o1).mono (Nat.le_trans hb.size hbu.size)⟩
  |1,hi=>
   cases hi;exact g_run (qaa rfl _) (z_fld (X:=⟨w.heap.size,0,none⟩) (Y:=⟨w.heap.size,0,none⟩) 84 _ 0 rfl (qab ((hk.at 1 rfl).trans rfl)) (fun _=>by kernel_rfl) ⟨_,rfl,Below.refl _ _,rfl⟩)
  |2,hi=>
   cases hi;obtain⟨z1,hz1,rfl⟩:=hdep 1 _ _ rfl rfl rfl;exact g_run (qaa rfl _) (z_ld 3 _ rfl (qab hz1) (by kernel_rfl) ((A.next hbu).cell 0 k0) ⟨_,rfl,Below.refl _ _,rfl⟩)
  |3,hi=>
   cases hi;obtain⟨z2,hz2,rfl⟩:=hdep 2 _ _ rfl rfl rfl;exact g_run (qaa rfl _) (qgo _ _ _ rfl (qab hz2) (cvb _ _) ⟨_,rfl,Below.refl _ _,rfl⟩)
  |4,hi=>
   cases hi;exact g_run (qaa rfl _) (st_loadC hcn (A.next hbu) _ rfl (qab ((hk.at 1 rfl).trans rfl)) ⟨_,rfl,Below.refl _ _,rfl⟩)
  |5,hi=>
   cases hi;obtain⟨z4,hz4,rfl⟩:=hdep 4 _ _ rfl rfl rfl;refine g_run (qaa rfl _) (qaj (qbt _ _ _ _ _ _ cf_flags (qab hz4) (fun _=>rfl) _ _ _ _ _ _) ?_);refine (hfl u).mono ?_;rintro e u' ⟨rfl,b1⟩;exact⟨_,rfl,_,rfl,b1,rfl⟩
  |6,hi=>
   cases hi;obtain⟨z5,hz5,rfl⟩:=hdep 5 _ _ rfl rfl rfl;exact g_run (qaa rfl _) (qgo _ _ _ rfl (qab hz5) (cvb _ _) ⟨_,rfl,Below.refl _ _,rfl⟩)
  |7,hi=>
   cases hi;obtain⟨z3,hz3,rfl⟩:=hdep 3 _ _ rfl rfl rfl;obtain⟨z6,hz6,rfl⟩:=hdep 6 _ _ rfl rfl rfl;exact g_run (qaa rfl _) (z_mk _ _ rfl (by simp[qab hz3,qab hz6]) (mkb2 _ _ _) ⟨_,rfl,qae _ _,⟨_,_,_,rfl,own_b2 u _ (Nat.le_trans hb.size hbu.size) _ _⟩⟩)
  |8,hi=>
   cases hi;obtain⟨z0,hz0,hg0⟩:=hdep 0 _ _ rfl rfl rfl;obtain⟨ao0,n0,cap0,rfl,ho0⟩:=hg0;obtain⟨z7,hz7,hg7⟩:=hdep 7 _ _ rfl rfl rfl;obtain⟨ao7,n7,cap7,rfl,ho7⟩:=hg7;refine g_run (qaa rfl _) (qaj (qag _ _ _ _ _ _ _ _ cf_beh (qab hz0) (qab hz7) (fun _=>rfl) _ _ _ _ _ _) ?_);refine (qbq _ _ _ _ _ _ _ _ u ho0.rd ho7.rd (by have:=ho0.1;have:=pT_le mqtt;omega) (by have:=ho7.1;simp at this;omega)).mono ?_;rintro e u' ⟨a1,c1,rfl,o1,b1⟩;exact⟨_,rfl,_,rfl,b1,a1,_,c1,rfl,o1.mono (Nat.le_trans hb.size hbu.size)⟩
  |9,hi=>
   cases hi;obtain⟨z8,hz8,hg8⟩:=hdep 8 _ _ rfl rfl rfl;obtain⟨ao8,n8,cap8,rfl,ho8⟩:=hg8;exact g_run (qaa rfl _) (qad (v:=_) (w':=u) (by first | (simp[execOp,qab hz8];done) | (simp[execOp,qab hz8];rfl)) ⟨_,rfl,Below.refl _ _,_,_,_,rfl,ho8⟩)
  |(_+10),hi=>cases hi
 intro vs y b3 hG a3 h3;obtain⟨a1,n1,c1,e9,O1⟩:=hG 9 (by decide);clear hG;replace h3:puts _ 1 _ (Fq44)=_:=h3;replace h3:puts _ 2 _ (Fq44)=_:=h3;replace h3:puts _ 3 _ (Fq44)=_:=h3;replace h3:puts _ 4 _ (Fq44)=_:=h3;replace h3:puts _ 5 _ (Fq44)=_:=h3;replace h3:puts _ 6 _ (Fq44)=_:=h3;replace h3:puts _ 7 _ (Fq44)=_:=h3;replace h3:puts _ 8 _ (Fq44)=_:=h3;replace h3:puts _ 9 _ (Fq44)=_:=h3;replace h3:Fq44=_:=h3;unfold Fq44 at h3;subst h3;simp only[e9];have s1:n1≤64:=by have:=O1.1;have:=pT_le mqtt;simp at *;omega
 replace hb:=bel hb b3;replace A:=A.next b3;replace r1:=r1.below b3;replace r2:=r2.below b3;clear b3 e9 hfl;go_wp2;refine qcb 7 (by kernel_rfl) rfl (fun i u x=>match i with
  |0=>u=.slice a1 n1 c1
  |1=>u=.pointer (some ⟨w.heap.size,3,none⟩)
  |2=>u=.int .i64 (kee)
  |3=>∃ao n cap,u=.slice ao n cap∧Own x w.heap.size ao n cap ((pT mqtt++[byte lev,byte (conF cln hw wq wr hp hu)])++wordB kee)
  |4=>u=.pointer (some ⟨w.heap.size,1,none⟩)
  |5=>u=.string cli
  |6=>∃ao n cap,u=.slice ao n cap∧Own x w.heap.size ao n cap ((pT mqtt++[byte lev,byte (conF cln hw wq wr hp hu)])++wordB kee++pT cli)
  |_=>True) ?_ ?_ ?_
 ·intro i u x x' hx h
  match i,h with
  |0,h=>exact h
  |1,h=>exact h
  |2,h=>exact h
  |3,h=>(obtain⟨ao,n,cap,e,ho⟩:=h;exact⟨ao,n,cap,e,ho.below hx⟩)
  |4,h=>exact h
  |5,h=>exact h
  |6,h=>(obtain⟨ao,n,cap,e,ho⟩:=h;exact⟨ao,n,cap,e,ho.below hx⟩)
  |(_+7),h=>trivial
 ·intro i o a u hi hk hbu hdep
  match i,hi with
  |0,hi=>
   cases hi;exact g_run (qaa rfl _) (qad (v:=_) (w':=u) (by first | (simp[execOp,qab ((hk.at 3 rfl).trans rfl)];done) | (simp[execOp,qab ((hk.at 3 rfl).trans rfl)];rfl)) ⟨_,rfl,Below.refl _ _,rfl⟩)
  |1,hi=>
   cases hi;exact g_run (qaa rfl _) (z_fld (X:=⟨w.heap.size,0,none⟩) (Y:=⟨w.heap.size,3,none⟩) 84 _ 3 rfl (qab ((hk.at 1 rfl).trans rfl)) (fun _=>by kernel_rfl) ⟨_,rfl,Below.refl _ _,rfl⟩)
  |2,hi=>
   cases hi;obtain⟨z1,hz1,rfl⟩:=hdep 1 _ _ rfl rfl rfl;exact g_run (qaa rfl _) (z_ld 3 _ rfl (qab hz1) (by kernel_rfl) ((A.next hbu).cell 3 k3) ⟨_,rfl,Below.refl _ _,rfl⟩)
  |3,hi=>
   cases hi;obtain⟨z0,hz0,rfl⟩:=hdep 0 _ _ rfl rfl rfl;obtain⟨z2,hz2,rfl⟩:=hdep 2 _ _ rfl rfl rfl;refine g_run (qaa rfl _) (qaj (qag _ _ _ _ _ _ _ _ cf_ipw (qab hz0) (qab hz2) (fun _=>rfl) _ _ _ _ _ _) ?_);refine (qbv _ _ _ kee _ u (O1.below hbu).rd (by omega)).mono ?_;rintro e u' ⟨a1,c1,rfl,o1,b1⟩;exact⟨_,rfl,_,rfl,b1,a1,_,c1,rfl,o1.mono (Nat.le_trans hb.size hbu.size)⟩
  |4,hi=>
   cases hi;exact g_run (qaa rfl _) (z_fld (X:=⟨w.heap.size,0,none⟩) (Y:=⟨w.heap.size,1,none⟩) 84 _ 1 rfl (qab ((hk.at 1 rfl).trans rfl)) (fun _=>by kernel_rfl) ⟨_,rfl,Below.refl _ _,rfl⟩)
  |5,hi=>
   cases hi;obtain⟨z4,hz4,rfl⟩:=hdep 4 _ _ rfl rfl rfl;exact g_run (qaa rfl _) (z_ld 9 _ rfl (qab hz4) (by kernel_rfl) ((A.next hbu).cell 1 k1) ⟨_,rfl,Below.refl _ _,rfl⟩)
  |6,hi=>
   cases hi;obtain⟨z3,hz3,hg3⟩:=hdep 3 _ _ rfl rfl rfl;obtain⟨ao3,n3,cap3,rfl,ho3⟩:=hg3;obtain⟨z5,hz5,rfl⟩:=hdep 5 _ _ rfl rfl rfl;refine g_run (qaa rfl _) (qaj (qag _ _ _ _ _ _ _ _ cf_ipt (qab hz3) (qab hz5) (fun _=>rfl) _ _ _ _ _ _) ?_);refine (qbu _ _ _ cli _ u ho3.rd (by have:=ho3.1;have:=O1.1;simp[wordB] at *;omega) (by omega)).mono ?_;rintro e u' ⟨a1,n1,c1,rfl,o1,b1⟩;exact⟨_,rfl,_,rfl,b1,a1,n1,c1,rfl,(show Own _ _ _ _ _ ((pT mqtt++[byte lev,byte (conF cln hw wq wr hp hu)])++wordB kee++pT cli) by rw[qch] at o1;exact o1).mono (Nat.le_trans hb.size hbu.size)⟩
  |(_+7),hi=>cases hi
 intro vs2 y2 b3 hG a3 h3;obtain⟨a2,n2,c2,e6,O2⟩:=hG 6 (by decide);clear hG;replace h3:puts _ 1 _ (Fq44)=_:=h3;replace h3:puts _ 2 _ (Fq44)=_:=h3;replace h3:puts _ 3 _ (Fq44)=_:=h3;replace h3:puts _ 4 _ (Fq44)=_:=h3;replace h3:puts _ 5 _ (Fq44)=_:=h3;replace h3:puts _ 6 _ (Fq44)=_:=h3;replace h3:Fq44=_:=h3;unfold Fq44 at h3;subst h3;simp only[e6];obtain⟨L,hL⟩ : ∃L,(pT mqtt++[byte lev,byte (conF cln hw wq wr hp hu)])++wordB kee++pT cli=L:=⟨_,rfl⟩;have HB:Hid (conB lev cli cln kee hw wt wbl wq wr hu us hp pal=L++(if hw then pT wt++pB wbl else [])++(if hu then pT us else [])++(if hp then pB pal else [])):=by rw[←hL];rfl
 have s2:n2≤128:=by have:=O2.1;have:=O1.1;have:=pT_le cli;simp[wordB] at *;omega
 rw[hL] at O2;clear hL;replace hb:=bel hb b3;replace A:=A.next b3;replace r1:=r1.below b3;replace r2:=r2.below b3;clear b3 e6 O1;cases hw
 ·have f4:=A.cell 4 k4;cases hu
  ·have f9:=A.cell 9 k9;cases hp
   ·have f11:=A.cell 11 k11;go_wp2;go_ret;exact⟨_,_,_,rfl,by rw[HB.out];simpa using O2,hb⟩
   ·have f11:=A.cell 11 k11;have f12:=A.cell 12 k12;go_wp2_with fail
    refine (qcs _ _ _ _ _ _ _ pal _ O2.rd r2 (by omega)).mono ?_;rintro e y9 ⟨a9,n9,c9,rfl,o9,b9⟩;rw[qdp] at o9;go_wp2;go_ret;exact⟨_,_,_,rfl,by rw[HB.out];simpa using o9.mono hb.size,bel hb b9⟩
  ·have f9:=A.cell 9 k9;have f10:=A.cell 10 k10;go_wp2_with fail
   refine (qbu _ _ _ us _ _ O2.rd (by omega) (by omega)).mono ?_;rintro e y8 ⟨a8,n8,c8,rfl,o8,b8⟩;have s8:=qgy (L) us;rw[o8.1,O2.1] at s8;rw[qch] at o8;have O8:=o8.mono hb.size;replace hb:=bel hb b8;replace A:=A.next b8;replace r2:=r2.below b8;clear b8 o8 f9 f10;cases hp
   ·have f11:=A.cell 11 k11;go_wp2;go_ret;exact⟨_,_,_,rfl,by rw[HB.out];simpa using O8,hb⟩
   ·have f11:=A.cell 11 k11;have f12:=A.cell 12 k12;go_wp2_with fail
    refine (qcs _ _ _ _ _ _ _ pal _ O8.rd r2 (by omega)).mono ?_;rintro e y9 ⟨a9,n9,c9,rfl,o9,b9⟩;rw[qdp] at o9;go_wp2;go_ret;exact⟨_,_,_,rfl,by rw[HB.out];simpa using o9.mono hb.size,bel hb b9⟩
 ·have f4:=A.cell 4 k4;go_wp2;refine qcb 9 (by kernel_rfl) rfl (fun i u x=>match i with
   |0=>u=.slice a2 n2 c2
   |1=>u=.pointer (some ⟨w.heap.size,5,none⟩)
   |2=>u=.pointer (some ⟨w.heap.size,5,none⟩)
   |3=>u=.string wt
   |4=>∃ao n cap,u=.slice ao n cap∧Own x w.heap.size ao n cap (L++pT wt)
   |5=>u=.pointer (some ⟨w.heap.size,5,none⟩)
   |6=>u=.pointer (some ⟨w.heap.size,6,none⟩)
   |7=>u=.slice wb.a wb.n wb.c
   |8=>∃ao n cap,u=.slice ao n cap∧Own x w.heap.size ao n cap (L++pT wt++pB wbl)
   |_=>True) ?_ ?_ ?_
  ·intro i u x x' hx h
   match i,h with
   |0,h=>exact h
   |1,h=>exact h
   |2,h=>exact h
   |3,h=>exact h
   |4,h=>(obtain⟨ao,n,cap,e,ho⟩:=h;exact⟨ao,n,cap,e,ho.below hx⟩)
   |5,h=>exact h
   |6,h=>exact h
   |7,h=>exact h
   |8,h=>(obtain⟨ao,n,cap,e,ho⟩:=h;exact⟨ao,n,cap,e,ho.below hx⟩)
   |(_+9),h=>trivial
  ·intro i o a u hi hk hbu hdep
   match i,hi with
   |0,hi=>
    cases hi;exact g_run (qaa rfl _) (qad (v:=_) (w':=u) (by first | (simp[execOp,qab ((hk.at 3 rfl).trans rfl)];done) | (simp[execOp,qab ((hk.at 3 rfl).trans rfl)];rfl)) ⟨_,rfl,Below.refl _ _,rfl⟩)
   |1,hi=>
    cases hi;exact g_run (qaa rfl _) (z_fld (X:=⟨w.heap.size,0,none⟩) (Y:=⟨w.heap.size,5,none⟩) 84 _ 5 rfl (qab ((hk.at 1 rfl).trans rfl)) (fun _=>by kernel_rfl) ⟨_,rfl,Below.refl _ _,rfl⟩)
   |2,hi=>
    cases hi;obtain⟨z1,hz1,rfl⟩:=hdep 1 _ _ rfl rfl rfl;exact g_run (qaa rfl _) (z_fld (X:=⟨w.heap.size,5,none⟩) (Y:=⟨w.heap.size,5,none⟩) 82 _ 0 rfl (qab hz1) (fun _=>by kernel_rfl) ⟨_,rfl,Below.refl _ _,rfl⟩)
   |3,hi=>
    cases hi;obtain⟨z2,hz2,rfl⟩:=hdep 2 _ _ rfl rfl rfl;exact g_run (qaa rfl _) (z_ld 9 _ rfl (qab hz2) (by kernel_rfl) ((A.next hbu).cell 5 k5) ⟨_,rfl,Below.refl _ _,rfl⟩)
   |4,hi=>
    cases hi;obtain⟨z0,hz0,rfl⟩:=hdep 0 _ _ rfl rfl rfl;obtain⟨z3,hz3,rfl⟩:=hdep 3 _ _ rfl rfl rfl;refine g_run (qaa rfl _) (qaj (qag _ _ _ _ _ _ _ _ cf_ipt (qab hz0) (qab hz3) (fun _=>rfl) _ _ _ _ _ _) ?_);refine (qbu _ _ _ wt _ u (O2.below hbu).rd (by omega) (by omega)).mono ?_;rintro e u' ⟨a1,n1,c1,rfl,o1,b1⟩;exact⟨_,rfl,_,rfl,b1,a1,n1,c1,rfl,(show Own _ _ _ _ _ (L++pT wt) by rw[qch] at o1;exact o1).mono (Nat.le_trans hb.size hbu.size)⟩
   |5,hi=>
    cases hi;exact g_run (qaa rfl _) (z_fld (X:=⟨w.heap.size,0,none⟩) (Y:=⟨w.heap.size,5,none⟩) 84 _ 5 rfl (qab ((hk.at 1 rfl).trans rfl)) (fun _=>by kernel_rfl) ⟨_,rfl,Below.refl _ _,rfl⟩)
   |6,hi=>
    cases hi;obtain⟨z5,hz5,rfl⟩:=hdep 5 _ _ rfl rfl rfl;exact g_run (qaa rfl _) (z_fld (X:=⟨w.heap.size,5,none⟩) (Y:=⟨w.heap.size,6,none⟩) 82 _ 1 rfl (qab hz5) (fun _=>by kernel_rfl) ⟨_,rfl,Below.refl _ _,rfl⟩)
   |7,hi=>
    cases hi;obtain⟨z6,hz6,rfl⟩:=hdep 6 _ _ rfl rfl rfl;exact g_run (qaa rfl _) (z_ld 22 _ rfl (qab hz6) (by kernel_rfl) ((A.next hbu).cell 6 k6) ⟨_,rfl,Below.refl _ _,rfl⟩)
   |8,hi=>
    cases hi;obtain⟨z4,hz4,hg4⟩:=hdep 4 _ _ rfl rfl rfl;obtain⟨ao4,n4,cap4,rfl,ho4⟩:=hg4;obtain⟨z7,hz7,rfl⟩:=hdep 7 _ _ rfl rfl rfl;refine g_run (qaa rfl _) (qaj (qag _ _ _ _ _ _ _ _ cf_ipb (qab hz4) (qab hz7) (fun _=>rfl) _ _ _ _ _ _) ?_);refine (qcs _ _ _ _ _ _ _ wbl u ho4.rd (r1.below hbu) (by have:=ho4.1;have:=O2.1;have:=pT_le wt;simp at *;omega)).mono ?_;rintro e u' ⟨a1,n1,c1,rfl,o1,b1⟩;exact⟨_,rfl,_,rfl,b1,a1,n1,c1,rfl,(show Own _ _ _ _ _ (L++pT wt++pB wbl) by rw[qdp] at o1;exact o1).mono (Nat.le_trans hb.size hbu.size)⟩
   |(_+9),hi=>cases hi
  intro vs3 y3 b3 hG a3 h3;obtain⟨a4,n4,c4,e8,O4⟩:=hG 8 (by decide);clear hG;replace h3:puts _ 1 _ (Fq44)=_:=h3;replace h3:puts _ 2 _ (Fq44)=_:=h3;replace h3:puts _ 3 _ (Fq44)=_:=h3;replace h3:puts _ 4 _ (Fq44)=_:=h3;replace h3:puts _ 5 _ (Fq44)=_:=h3;replace h3:puts _ 6 _ (Fq44)=_:=h3;replace h3:puts _ 7 _ (Fq44)=_:=h3;replace h3:puts _ 8 _ (Fq44)=_:=h3;replace h3:Fq44=_:=h3;unfold Fq44 at h3;subst h3;simp only[e8];have s4:n4≤256:=by have:=O4.1;have:=O2.1;have:=pT_le wt;have:=pB_le wbl;simp at *;omega
  replace hb:=bel hb b3;replace A:=A.next b3;replace r2:=r2.below b3;clear b3 e8 O2 r1 f4;cases hu
  ·have f9:=A.cell 9 k9;cases hp
   ·have f11:=A.cell 11 k11;go_wp2;go_ret;exact⟨_,_,_,rfl,by rw[HB.out];simpa using O4,hb⟩
   ·have f11:=A.cell 11 k11;have f12:=A.cell 12 k12;go_wp2_with fail
    refine (qcs _ _ _ _ _ _ _ pal _ O4.rd r2 (by omega)).mono ?_;rintro e y9 ⟨a9,n9,c9,rfl,o9,b9⟩;rw[qdp] at o9;go_wp2;go_ret;exact⟨_,_,_,rfl,by rw[HB.out];simpa using o9.mono hb.size,bel hb b9⟩
  ·have f9:=A.cell 9 k9;have f10:=A.cell 10 k10;go_wp2_with fail
   refine (qbu _ _ _ us _ _ O4.rd (by omega) (by omega)).mono ?_;rintro e y8 ⟨a8,n8,c8,rfl,o8,b8⟩;have s8:=qgy (L++pT wt++pB wbl) us;rw[o8.1,O4.1] at s8;rw[qch] at o8;have O8:=o8.mono hb.size;replace hb:=bel hb b8;replace A:=A.next b8;replace r2:=r2.below b8;clear b8 o8 f9 f10;cases hp
   ·have f11:=A.cell 11 k11;go_wp2;go_ret;exact⟨_,_,_,rfl,by rw[HB.out];simpa using O8,hb⟩
   ·have f11:=A.cell 11 k11;have f12:=A.cell 12 k12;go_wp2_with fail
    refine (qcs _ _ _ _ _ _ _ pal _ O8.rd r2 (by omega)).mono ?_;rintro e y9 ⟨a9,n9,c9,rfl,o9,b9⟩;rw[qdp] at o9;go_wp2;go_ret;exact⟨_,_,_,rfl,by rw[HB.out];simpa using o9.mono hb.size,bel hb b9⟩

theorem follow_sub (id:Int) (b:Sl) (l:List (ByteArray×Int)) (w:World) (hr:WRd w b.a b.n b.c l) (hs:∀x∈l,x.1.size≤1048576) (hn:b.n≤1048576) :
  Gives 147 #[.agg #[.int .i64 id,.slice b.a b.n b.c]] w (wordB id++wanB l):=by
 unfold Gives;have HL:Hid (l.length=b.n):=hr.1.1;obtain⟨ao,n,cap⟩:=b;simp only at hr HL hn ⊢;go_enter Tryz.func147,Tryz.ntmps147;go_wp2_with fail
 refine (qbv none 0 0 id [] _ (RdIn.nil _) (by omega)).mono ?_;rintro e y ⟨a1,c1,rfl,o1,b1⟩;have f1:y.cell? ⟨w.heap.size,1,none⟩ = some (.slice ao n cap):=(b1.cell (by simp)).trans (by simp);have hb0:=bel (qae _ _) b1;have O1:Own y w.heap.size a1 2 c1 (wordB id++wanB (l.take 0)):=o1.mono (by simp);clear o1 b1;go_wp2
 go_loopw [3,12] (fun v i wr=>∃(k j:Nat) (a:Option Addr) (c:Nat),i=.int .i64 k∧v=.slice a j c∧k≤n∧j≤2+63*k∧Own wr w.heap.size a j c (wordB id++wanB (l.take k))∧Below w.heap.size w wr) (fun _ i _=>n-(intOf i).toNat)
 case atStart=>exact⟨0,2,a1,c1,rfl,rfl,Nat.zero_le _,by omega,O1,hb0⟩
 case round=>
  obtain⟨k,j,a,c,rfl,rfl,hk,hj,ho,hb⟩:=hrel
  by_cases hlt:k<n
  ·obtain⟨b,off,e,hc,hd⟩:=hr.1.2 k hlt;subst e;have hck:wr.cell? ⟨b,off+k*2,none⟩ = some (.string (wf l k)):=(hb.cell (World.block_lt_of_cell? w _ hc)).trans hc;have hdk:wr.cell? ⟨b,off+k*2+1,none⟩ = some (.int .i64 (wq l k)):=(hb.cell (World.block_lt_of_cell? w _ hd)).trans hd;clear hc hd;have hlt':(k:Int)<n:=by omega
   have hkl:Hid (k<l.length):=by show k<l.length;rw[HL.out];exact hlt
   have hsz:(wf l k).size≤1048576:=hs _ (wt_mem hkl.out);have HS:Hid (wanB (l.take k)++(pT (wf l k)++[byte (wq l k)])=wanB (l.take (k+1))):=(qec (fun x:ByteArray×Int=>pT x.1++[byte x.2]) l (ByteArray.empty,0) k hkl.out).symm;have A:Row (wr.alloc (.cells #[.string (wf l k),.int .i64 (wq l k)] 56)) wr.heap.size #[.string (wf l k),.int .i64 (wq l k)] 56:=Row.new _ _ _;go_wp2;refine qcb 9 (by kernel_rfl) rfl (fun i u x=>match i with
    |0=>u=.slice a j c
    |1=>u=.pointer (some ⟨wr.heap.size,0,none⟩)
    |2=>u=.string (wf l k)
    |3=>∃ao n cap,u=.slice ao n cap∧Own x w.heap.size ao n cap (wordB id++wanB (l.take k)++pT (wf l k))
    |4=>u=.pointer (some ⟨wr.heap.size,1,none⟩)
    |5=>u=.int .i64 (wq l k)
    |6=>u=.int .u8 (wq l k%256)
    |7=>∃ao n cap,u=.slice ao n cap∧Own x w.heap.size ao n cap ([byte (wq l k)])
    |8=>∃ao n cap,u=.slice ao n cap∧Own x w.heap.size ao n cap (wordB id++wanB (l.take k)++pT (wf l k)++[byte (wq l k)])
    |_=>True) ?_ ?_ ?_
   ·intro i u x x' hx h
    match i,h with
    |0,h=>exact h
    |1,h=>exact h
    |2,h=>exact h
    |3,h=>(obtain⟨ao,n,cap,e,ho⟩:=h;exact⟨ao,n,cap,e,ho.below hx⟩)
    |4,h=>exact h
    |5,h=>exact h
    |6,h=>exact h
    |7,h=>(obtain⟨ao,n,cap,e,ho⟩:=h;exact⟨ao,n,cap,e,ho.below hx⟩)
    |8,h=>(obtain⟨ao,n,cap,e,ho⟩:=h;exact⟨ao,n,cap,e,ho.below hx⟩)
    |(_+9),h=>trivial
   ·intro i o a u hi hk hbu hdep
    match i,hi with
    |0,hi=>
     cases hi;exact g_run (qaa rfl _) (qad (v:=_) (w':=u) (by first | (simp[execOp,qab ((hk.at 3 rfl).trans rfl)];done) | (simp[execOp,qab ((hk.at 3 rfl).trans rfl)];rfl)) ⟨_,rfl,Below.refl _ _,rfl⟩)
    |1,hi=>
     cases hi;exact g_run (qaa rfl _) (z_fld (X:=⟨wr.heap.size,0,none⟩) (Y:=⟨wr.heap.size,0,none⟩) 56 _ 0 rfl (qab ((hk.at 5 rfl).trans rfl)) (fun _=>by kernel_rfl) ⟨_,rfl,Below.refl _ _,rfl⟩)
    |2,hi=>
     cases hi;obtain⟨z1,hz1,rfl⟩:=hdep 1 _ _ rfl rfl rfl;exact g_run (qaa rfl _) (z_ld 9 _ rfl (qab hz1) (by kernel_rfl) ((A.next hbu).cell 0 rfl) ⟨_,rfl,Below.refl _ _,rfl⟩)
    |3,hi=>
     cases hi;obtain⟨z0,hz0,rfl⟩:=hdep 0 _ _ rfl rfl rfl;obtain⟨z2,hz2,rfl⟩:=hdep 2 _ _ rfl rfl rfl;refine g_run (qaa rfl _) (qaj (qag _ _ _ _ _ _ _ _ cf_ipt (qab hz0) (qab hz2) (fun _=>rfl) _ _ _ _ _ _) ?_);refine (qbu _ _ _ (wf l k) _ u ((ho.alloc _).below hbu).rd (by omega) (by omega)).mono ?_;rintro e u' ⟨a1,n1,c1,rfl,o1,b1⟩;exact⟨_,rfl,_,rfl,b1,a1,n1,c1,rfl,(show Own _ _ _ _ _ (wordB id++wanB (l.take k)++pT (wf l k)) by rw[qch] at o1;exact o1).mono (Nat.le_trans hb.size (Nat.le_trans (by simp) hbu.size))⟩
    |4,hi=>
     cases hi;exact g_run (qaa rfl _) (z_fld (X:=⟨wr.heap.size,0,none⟩) (Y:=⟨wr.heap.size,1,none⟩) 56 _ 1 rfl (qab ((hk.at 5 rfl).trans rfl)) (fun _=>by kernel_rfl) ⟨_,rfl,Below.refl _ _,rfl⟩)
    |5,hi=>
     cases hi;obtain⟨z4,hz4,rfl⟩:=hdep 4 _ _ rfl rfl rfl;exact g_run (qaa rfl _) (z_ld 3 _ rfl (qab hz4) (by kernel_rfl) ((A.next hbu).cell 1 rfl) ⟨_,rfl,Below.refl _ _,rfl⟩)
    |6,hi=>
     cases hi;obtain⟨z5,hz5,rfl⟩:=hdep 5 _ _ rfl rfl rfl;exact g_run (qaa rfl _) (qgo _ _ _ rfl (qab hz5) (cvb _ _) ⟨_,rfl,Below.refl _ _,rfl⟩)
    |7,hi=>
     cases hi;obtain⟨z6,hz6,rfl⟩:=hdep 6 _ _ rfl rfl rfl;exact g_run (qaa rfl _) (z_mk _ _ rfl (by simp[qab hz6]) (mkb1 _ _) ⟨_,rfl,qae _ _,⟨_,_,_,rfl,qjd u _ (Nat.le_trans hb.size (Nat.le_trans (by simp) hbu.size)) _⟩⟩)
    |8,hi=>
     cases hi;obtain⟨z3,hz3,hg3⟩:=hdep 3 _ _ rfl rfl rfl;obtain⟨ao3,n3,cap3,rfl,ho3⟩:=hg3;obtain⟨z7,hz7,hg7⟩:=hdep 7 _ _ rfl rfl rfl;obtain⟨ao7,n7,cap7,rfl,ho7⟩:=hg7;refine g_run (qaa rfl _) (qaj (qag _ _ _ _ _ _ _ _ cf_beh (qab hz3) (qab hz7) (fun _=>rfl) _ _ _ _ _ _) ?_);refine (qbq _ _ _ _ _ _ _ _ u ho3.rd ho7.rd (by have:=ho3.1;have:=ho.1;have:=pT_le (wf l k);simp at *;omega) (by have:=ho7.1;simp at this;omega)).mono ?_;rintro e u' ⟨a1,c1,rfl,o1,b1⟩;exact⟨_,rfl,_,rfl,b1,a1,_,c1,rfl,o1.mono (Nat.le_trans hb.size (Nat.le_trans (by simp) hbu.size))⟩
    |(_+9),hi=>cases hi
   intro vs y2 b3 hG a3 h3;obtain⟨a2,n2,c2,e8,O2⟩:=hG 8 (by decide);clear hG;replace h3:puts _ 1 _ (Fq27)=_:=h3;replace h3:puts _ 2 _ (Fq27)=_:=h3;replace h3:puts _ 3 _ (Fq27)=_:=h3;replace h3:puts _ 4 _ (Fq27)=_:=h3;replace h3:puts _ 5 _ (Fq27)=_:=h3;replace h3:puts _ 6 _ (Fq27)=_:=h3;replace h3:puts _ 7 _ (Fq27)=_:=h3;replace h3:puts _ 8 _ (Fq27)=_:=h3;replace h3:Fq27=_:=h3;unfold Fq27 at h3;subst h3;simp only[e8];have s2:n2≤2+63*(k+1):=by have:=O2.1;have:=ho.1;have:=pT_le (wf l k);simp at *;omega
   rw[List.append_assoc,List.append_assoc,HS.out] at O2;have hb2:=bel (hb.alloc hb.size _) b3;clear b3 e8 ho hb A;go_wp2;go_roundw
   case rel=>exact⟨k+1,n2,a2,c2,by go_num,rfl,by omega,by omega,O2,hb2⟩
   case measure=>simp[intOf];omega
  ·have hlt':¬(k:Int)<n:=by omega
   obtain rfl:k=n:=by omega
   go_wp2;go_ret;exact⟨a,j,c,rfl,by rw[←show wanB (l.take k)=wanB l from flat_all _ l _ HL.out];exact ho,hb⟩
theorem qku (dup:Bool) (qos:Int) (ret:Bool) (id:Int) (top:ByteArray) (b:Sl) (w:World) (hq:0≤qos∧qos≤2) :
  Calls Tryz.prog 60 #[.iface 89 (.agg (pubC dup qos ret id top b))] w fun e w'=>e=.returned (.int .i64 (pubL dup qos ret))∧Below w.heap.size w w':=by
 have i1:=qdg dup 8 (by omega);have i2:=qdg ret 1 (by omega);have A:Row (w.alloc (.cells (pubC dup qos ret id top b) 89)) w.heap.size (pubC dup qos ret id top b) 89:=Row.new _ _ _;have hb:Below w.heap.size w (w.alloc (.cells (pubC dup qos ret id top b) 89)):=qae _ _;unfold pubC at A hb ⊢;have h0:=qcw (X:=62) Tryz.underlying89;go_enter Tryz.func60,Tryz.ntmps60;go_wp2;refine qar (by kernel_rfl) rfl (fun i u x=>match i with
  |0=>u=.pointer (some ⟨w.heap.size,0,none⟩)
  |1=>u=.bool dup
  |2=>u=.int .i64 (bit dup 8)
  |3=>u=.pointer (some ⟨w.heap.size,1,none⟩)
  |4=>u=.int .i64 (qos)
  |5=>u=.int .i64 (2*qos)
  |6=>u=.int .i64 (bit dup 8+2*qos)
  |7=>u=.pointer (some ⟨w.heap.size,2,none⟩)
  |8=>u=.bool ret
  |9=>u=.int .i64 (bit ret 1)
  |10=>u=.int .i64 (bit dup 8+2*qos+bit ret 1)
  |11=>u=.int .i64 (bit dup 8+2*qos+bit ret 1)
  |_=>True) ?_ ?_ ?_
 ·intro i u x x' hx h
  match i,h with
  |0,h=>exact h
  |1,h=>exact h
  |2,h=>exact h
  |3,h=>exact h
  |4,h=>exact h
  |5,h=>exact h
  |6,h=>exact h
  |7,h=>exact h
  |8,h=>exact h
  |9,h=>exact h
  |10,h=>exact h
  |11,h=>exact h
  |(_+12),h=>trivial
 ·intro i o a u hi hk hbu hdep
  match i,hi with
  |0,hi=>
   cases hi;exact g_run (qaa rfl _) (z_fld (X:=⟨w.heap.size,0,none⟩) (Y:=⟨w.heap.size,0,none⟩) 89 _ 0 rfl (qab ((hk.at 3 rfl).trans rfl)) (fun _=>by kernel_rfl) ⟨_,rfl,Below.refl _ _,rfl⟩)
  |1,hi=>
   cases hi;obtain⟨z0,hz0,rfl⟩:=hdep 0 _ _ rfl rfl rfl;exact g_run (qaa rfl _) (z_ld 4 _ rfl (qab hz0) (by kernel_rfl) ((A.next hbu).cell 0 rfl) ⟨_,rfl,Below.refl _ _,rfl⟩)
  |2,hi=>
   cases hi;obtain⟨z1,hz1,rfl⟩:=hdep 1 _ _ rfl rfl rfl;refine g_run (qaa rfl _) (qaj (qag _ _ _ _ _ _ _ _ qiv (qab hz1) (rfl) (fun _=>rfl) _ _ _ _ _ _) ?_);refine (bit_i dup 8 u).mono ?_;rintro e u' ⟨rfl,hu⟩;exact⟨_,rfl,_,rfl,hu ▸ Below.refl _ _,rfl⟩
  |3,hi=>
   cases hi;exact g_run (qaa rfl _) (z_fld (X:=⟨w.heap.size,0,none⟩) (Y:=⟨w.heap.size,1,none⟩) 89 _ 1 rfl (qab ((hk.at 3 rfl).trans rfl)) (fun _=>by kernel_rfl) ⟨_,rfl,Below.refl _ _,rfl⟩)
  |4,hi=>
   cases hi;obtain⟨z3,hz3,rfl⟩:=hdep 3 _ _ rfl rfl rfl;exact g_run (qaa rfl _) (z_ld 3 _ rfl (qab hz3) (by kernel_rfl) ((A.next hbu).cell 1 rfl) ⟨_,rfl,Below.refl _ _,rfl⟩)
  |5,hi=>
   cases hi;obtain⟨z4,hz4,rfl⟩:=hdep 4 _ _ rfl rfl rfl;exact g_run (qaa rfl _) (z_bin _ _ _ _ _ rfl (rfl) (qab hz4) (muli _ _ _ _ _ (by rw[qau]<;>omega)) ⟨_,rfl,Below.refl _ _,rfl⟩)
  |6,hi=>
   cases hi;obtain⟨z2,hz2,rfl⟩:=hdep 2 _ _ rfl rfl rfl;obtain⟨z5,hz5,rfl⟩:=hdep 5 _ _ rfl rfl rfl;exact g_run (qaa rfl _) (z_bin _ _ _ _ _ rfl (qab hz2) (qab hz5) (addi _ _ _ _ _ (by rw[qau]<;>omega)) ⟨_,rfl,Below.refl _ _,rfl⟩)
  |7,hi=>
   cases hi;exact g_run (qaa rfl _) (z_fld (X:=⟨w.heap.size,0,none⟩) (Y:=⟨w.heap.size,2,none⟩) 89 _ 2 rfl (qab ((hk.at 3 rfl).trans rfl)) (fun _=>by kernel_rfl) ⟨_,rfl,Below.refl _ _,rfl⟩)
  |8,hi=>
   cases hi;obtain⟨z7,hz7,rfl⟩:=hdep 7 _ _ rfl rfl rfl;exact g_run (qaa rfl _) (z_ld 4 _ rfl (qab hz7) (by kernel_rfl) ((A.next hbu).cell 2 rfl) ⟨_,rfl,Below.refl _ _,rfl⟩)
  |9,hi=>
   cases hi;obtain⟨z8,hz8,rfl⟩:=hdep 8 _ _ rfl rfl rfl;refine g_run (qaa rfl _) (qaj (qag _ _ _ _ _ _ _ _ qiv (qab hz8) (rfl) (fun _=>rfl) _ _ _ _ _ _) ?_);refine (bit_i ret 1 u).mono ?_;rintro e u' ⟨rfl,hu⟩;exact⟨_,rfl,_,rfl,hu ▸ Below.refl _ _,rfl⟩
  |10,hi=>
   cases hi;obtain⟨z6,hz6,rfl⟩:=hdep 6 _ _ rfl rfl rfl;obtain⟨z9,hz9,rfl⟩:=hdep 9 _ _ rfl rfl rfl;exact g_run (qaa rfl _) (z_bin _ _ _ _ _ rfl (qab hz6) (qab hz9) (addi _ _ _ _ _ (by rw[qau]<;>omega)) ⟨_,rfl,Below.refl _ _,rfl⟩)
  |11,hi=>
   cases hi;obtain⟨z10,hz10,rfl⟩:=hdep 10 _ _ rfl rfl rfl;exact g_run (qaa rfl _) (qad (v:=_) (w':=u) (by first | (simp[execOp,qab hz10];done) | (simp[execOp,qab hz10];rfl)) ⟨_,rfl,Below.refl _ _,rfl⟩)
  |(_+12),hi=>cases hi
 intro vs y3 b3 hG a3 h3;have gr:vs 11=.int .i64 (bit dup 8+2*qos+bit ret 1):=hG 11 (by decide);have s2:=qej h3 rfl 11 rfl rfl;rw[gr] at s2;have hd:=(qgh h3).trans (show _ = [] from rfl);clear h3 hG;go_wp2;refine bodyPost_ret (results_tmp rfl _ _ _) hd ⟨?_,bel hb b3⟩;rw[qgs s2];rfl
