/- Lemmas. -/
import Derived.Test.YtpjkbgdkligpdaaGreatDoorY23
import Derived.Test.YtpjkbgdkligpdaaGreatDoorY01
set_option linter.all false
set_option maxRecDepth 100000
set_option maxHeartbeats 20000000
namespace Go.Proofs.YtpjkbgdkligpdaaGreatDoor
open Go.RowKit

theorem qrh {cl wt us:ByteArray} {cln hw hu hp wr:Bool} {kee wq:Int} {wb pa:List UInt8} (hcl:txt cl=true) (hk:0≤kee∧kee≤65535) (w1:hw=false→wt=ByteArray.empty∧wb = []∧wq=0∧wr=false) (w2:hw=true→tpc wt=true∧wb.length≤40∧0≤wq∧wq≤2)
  (u1:hu=false→us=ByteArray.empty∧hp=false∧pa = []) (u2:hp=false→pa = []) (hus:txt us=true) (hpa:pa.length≤60):({ Pv.zero with ty:=1,lev:=4,cli:=cl,cln:=cln,kee:=kee,hw:=hw,wt:=wt,wb:=wb,wq:=wq,wr:=wr,hu:=hu,us:=us,hp:=hp,pa:=pa } : Pv).ok=true:=by
 have e1:=qey hk.1 hk.2;cases hw with
 |false=>
  obtain⟨rfl,rfl,rfl,rfl⟩:=w1 rfl;cases hu with
  |false=>
   obtain⟨rfl,rfl,rfl⟩:=u1 rfl;simp[Pv.ok,Pv.named,Pv.body,Pv.zero,inB,hcl,hk,hus]
  |true=>
   cases hp with
   |false=>
    obtain rfl:=u2 rfl;simp[Pv.ok,Pv.named,Pv.body,Pv.zero,inB,hcl,hk,hus]
   |true=>simp[Pv.ok,Pv.named,Pv.body,Pv.zero,inB,hcl,hk,hus,hpa]
 |true=>
  obtain⟨a1,a2,a3,a4⟩:=w2 rfl;cases hu with
  |false=>
   obtain⟨rfl,rfl,rfl⟩:=u1 rfl;simp[Pv.ok,Pv.named,Pv.body,Pv.zero,inB,hcl,hk,hus,a1,a2,a3,a4]
  |true=>
   cases hp with
   |false=>
    obtain rfl:=u2 rfl;simp[Pv.ok,Pv.named,Pv.body,Pv.zero,inB,hcl,hk,hus,a1,a2,a3,a4]
   |true=>simp[Pv.ok,Pv.named,Pv.body,Pv.zero,inB,hcl,hk,hus,hpa,a1,a2,a3,a4]
theorem l5k_con (g:Nat) (ao:Option Addr) (n cap:Nat) (l:List UInt8) (k:Int) (w:World) (hc:Cur w g ao n cap l) (hn:n≤1048576) (t1:(k==1)=true) (t2:(k==2)=false) (t3:(k==3)=false) (t8:(k==8)=false) (t9:(k==9)=false) (t10:(k==10)=false) (t4:(k==4)=false) (t5:(k==5)=false) (t6:(k==6)=false) (t7:(k==7)=false) (t11:(k==11)=false) :
  Calls Tryz.prog 109 #[.pointer (some ⟨g,0,none⟩),.int .i64 k] w fun e w'=>∃p d,(pv p d).ok=true∧e=.returned (.agg (Pk.cells p))∧POwn w' w.heap.size p d∧Pgd 64 p d∧Cur w' g ao n cap l∧w.grownBy w' (some g):=by
 have s:=qiz g ao n cap l k w hc;have V:=qlr k;clear hc;go_enter Tryz.func109,Tryz.ntmps109
 go_upto_region 2 with (first | refine qaz (p:=ofT k) rfl rfl ?_ | refine al_pk ?_ | (refine bu_pk (ofT k) (by kernel_rfl) ?_) | fail)
 change Code.wp _ _ _ Fq164 _;unfold Fq164;simp only[World.size_alloc];go_wp2_with fail
 refine (qah g ao n cap l 4 _ s.cur hn (by omega) (by omega)).mono ?_;rintro e y10_ ⟨x,hx0,hx1,rfl,hc_,hg_⟩;replace s:=s.draw hc_ hg_;clear hc_ hg_;have c8:=(s.blk.cell 8).trans (Pk.c8 _);have z8:=Lib.frozen_of_heap s.blk 8;obtain⟨p,d,s,V⟩:=qcl (s.s8 4) (congrArg (fun v:Pv=>{ v with lev:=4 }) V);go_wp2_with fail
 refine (qtr g ao n cap l _ s.cur hn).mono ?_;rintro e y11_ ⟨nm,hnm,htn,rfl,hc_,hg_⟩;replace s:=s.draw hc_ hg_;clear hc_ hg_;have c7:=(s.blk.cell 7).trans (Pk.c7 _);have z7:=Lib.frozen_of_heap s.blk 7;obtain⟨p,d,s,V⟩:=qcl (s.s7 nm hnm) (congrArg (fun v:Pv=>{ v with cli:=nm }) V);go_wp2_with fail
 refine (qbq g ao n cap l 2 _ s.cur hn (by omega) (by omega)).mono ?_;rintro e y12_ ⟨bc_,rfl,hc_,hg_⟩;replace s:=s.draw hc_ hg_;clear hc_ hg_;have c9:=(s.blk.cell 9).trans (Pk.c9 _);have z9:=Lib.frozen_of_heap s.blk 9;obtain⟨p,d,s,V⟩:=qcl (s.s9 bc_) (congrArg (fun v:Pv=>{ v with cln:=bc_ }) V);have sn:=s.new (qac _ (.cells (List.map (Value.int .i64) [(0:Int),(0:Int),(2:Int),(10:Int),(65535:Int)]).toArray 3));have lts:=s.cur.lt;go_wp2_with fail
 refine (qez g ao n cap l _ 5 5 [(0:Int),(0:Int),(2:Int),(10:Int),(65535:Int)] _ sn.cur hn (by omega) (by omega) rfl (fun i hi=>qrw _ [(0:Int),(0:Int),(2:Int),(10:Int),(65535:Int)] _ (by simp) i hi) (by (try simp at lts);omega)).mono ?_;rintro e y13_ ⟨kk,hkk,rfl,hc_,hg_⟩;have hk5:0≤kk∧kk≤65535:=by simp at hkk;omega
 replace s:=sn.draw hc_ hg_;clear hc_ hg_;clear sn lts;have c10:=(s.blk.cell 10).trans (Pk.c10 _);have z10:=Lib.frozen_of_heap s.blk 10;obtain⟨p,d,s,V⟩:=qcl (s.s10 kk) (congrArg (fun v:Pv=>{ v with kee:=kk }) V);go_wp2_with fail
 refine (qbq g ao n cap l 2 _ s.cur hn (by omega) (by omega)).mono ?_;rintro e y14_ ⟨bw,rfl,hc_,hg_⟩;replace s:=s.draw hc_ hg_;clear hc_ hg_;cases bw with
 |false=>
  as_aux_lemma=>
   go_wp2_with fail
   refine (qbq g ao n cap l 4 _ s.cur hn (by omega) (by omega)).mono ?_;rintro e y3_ ⟨bu,rfl,hc_,hg_⟩;replace s:=s.draw hc_ hg_;clear hc_ hg_;cases bu with
   |false=>
    as_aux_lemma=>
     go_wp2_with (first | refine qaj s.blk rfl _ rfl rfl ?_ | (refine qag (q:=p) (old:=Pk.zero) s.res rfl rfl ?_;intro w9 B9 g9) | fail)
     exact qam rfl rfl B9 rfl ⟨p,d,(congrArg Pv.ok V).trans ((by obtain rfl:k=1:=(by simpa using t1);exact qrh htn hk5 (by intro h;first | exact⟨rfl,rfl,rfl,rfl⟩ | cases h) (by intro h;first | (cases h;done) | exact⟨hwtp,by omega,by omega,by omega⟩) (by intro h;first | exact⟨rfl,rfl,rfl⟩ | cases h) (by intro h;first | rfl | cases h) (by decide +kernel) (by first | omega | exact Nat.zero_le _))),rfl,s.done g9⟩
   |true=>
    as_aux_lemma=>
     have c16:=(s.blk.cell 16).trans (Pk.c16 _);have z16:=Lib.frozen_of_heap s.blk 16;obtain⟨p,d,s,V⟩:=qcl (s.s16 true) (congrArg (fun v:Pv=>{ v with hu:=true }) V);have c17:=(s.blk.cell 17).trans (Pk.c17 _);have z17:=Lib.frozen_of_heap s.blk 17;obtain⟨p,d,s,V⟩:=qcl (s.s17 ⟨#[117]⟩ (by decide)) (congrArg (fun v:Pv=>{ v with us:=⟨#[117]⟩ }) V);go_wp2_with fail
     refine (qbq g ao n cap l 2 _ s.cur hn (by omega) (by omega)).mono ?_;rintro e y4_ ⟨bp,rfl,hc_,hg_⟩;replace s:=s.draw hc_ hg_;clear hc_ hg_;cases bp with
     |false=>
      as_aux_lemma=>
       go_wp2_with (first | refine qaj s.blk rfl _ rfl rfl ?_ | (refine qag (q:=p) (old:=Pk.zero) s.res rfl rfl ?_;intro w9 B9 g9) | fail)
       exact qam rfl rfl B9 rfl ⟨p,d,(congrArg Pv.ok V).trans ((by obtain rfl:k=1:=(by simpa using t1);exact qrh htn hk5 (by intro h;first | exact⟨rfl,rfl,rfl,rfl⟩ | cases h) (by intro h;first | (cases h;done) | exact⟨hwtp,by omega,by omega,by omega⟩) (by intro h;first | exact⟨rfl,rfl,rfl⟩ | cases h) (by intro h;first | rfl | cases h) (by decide +kernel) (by first | omega | exact Nat.zero_le _))),rfl,s.done g9⟩
     |true=>
      as_aux_lemma=>
       have c18:=(s.blk.cell 18).trans (Pk.c18 _);have z18:=Lib.frozen_of_heap s.blk 18;obtain⟨p,d,s,V⟩:=qcl (s.s18 true) (congrArg (fun v:Pv=>{ v with hp:=true }) V);go_wp2_with fail
       refine (qah g ao n cap l 3 _ s.cur hn (by omega) (by omega)).mono ?_;rintro e y1_ ⟨x2,hx20,hx21,rfl,hc_,hg_⟩;replace s:=s.draw hc_ hg_;clear hc_ hg_;obtain⟨m,rfl⟩:=Int.eq_ofNat_of_zero_le hx20;go_wp2_with fail
       refine (qdd g ao n cap l m _ s.cur hn (by omega)).mono ?_;rintro e y2_ ⟨ba,bc,bx,rfl,hb_,hc_,hg_⟩;have s2_:=s.draw hc_ hg_;have c19:=(s2_.blk.cell 19).trans (Pk.c19 _);have z19:=Lib.frozen_of_heap s2_.blk 19;have hbl19:=hb_.1;obtain⟨p,d,s,V⟩:=qcl (s.n19 hc_ hg_ hb_ (by omega)) (congrArg (fun v:Pv=>{ v with pa:=bx }) V);clear hc_ hg_ hb_ s2_;go_wp2_with (first | refine qaj s.blk rfl _ rfl rfl ?_ | (refine qag (q:=p) (old:=Pk.zero) s.res rfl rfl ?_;intro w9 B9 g9) | fail)
       exact qam rfl rfl B9 rfl ⟨p,d,(congrArg Pv.ok V).trans ((by obtain rfl:k=1:=(by simpa using t1);exact qrh htn hk5 (by intro h;first | exact⟨rfl,rfl,rfl,rfl⟩ | cases h) (by intro h;first | (cases h;done) | exact⟨hwtp,by omega,by omega,by omega⟩) (by intro h;first | exact⟨rfl,rfl,rfl⟩ | cases h) (by intro h;first | rfl | cases h) (by decide +kernel) (by first | omega | exact Nat.zero_le _))),rfl,s.done g9⟩
 |true=>
  as_aux_lemma=>
   have c11:=(s.blk.cell 11).trans (Pk.c11 _);have z11:=Lib.frozen_of_heap s.blk 11;obtain⟨p,d,s,V⟩:=qcl (s.s11 true) (congrArg (fun v:Pv=>{ v with hw:=true }) V);go_wp2_with fail
   refine (qip g ao n cap l _ s.cur hn).mono ?_;rintro e y5_ ⟨wt,hwt,hwtp,hwtf,rfl,hc_,hg_⟩;replace s:=s.draw hc_ hg_;clear hc_ hg_;have c12:=(s.blk.cell 12).trans (Pk.c12 _);have z12:=Lib.frozen_of_heap s.blk 12;obtain⟨p,d,s,V⟩:=qcl (s.s12 wt hwt) (congrArg (fun v:Pv=>{ v with wt:=wt }) V);go_wp2_with fail
   refine (qah g ao n cap l 4 _ s.cur hn (by omega) (by omega)).mono ?_;rintro e y6_ ⟨x3,hx30,hx31,rfl,hc_,hg_⟩;replace s:=s.draw hc_ hg_;clear hc_ hg_;obtain⟨m,rfl⟩:=Int.eq_ofNat_of_zero_le hx30;go_wp2_with fail
   refine (qdd g ao n cap l m _ s.cur hn (by omega)).mono ?_;rintro e y7_ ⟨ba,bc,bx,rfl,hb_,hc_,hg_⟩;have s2_:=s.draw hc_ hg_;have c13:=(s2_.blk.cell 13).trans (Pk.c13 _);have z13:=Lib.frozen_of_heap s2_.blk 13;have hbl13:=hb_.1;obtain⟨p,d,s,V⟩:=qcl (s.n13 hc_ hg_ hb_ (by omega)) (congrArg (fun v:Pv=>{ v with wb:=bx }) V);clear hc_ hg_ hb_ s2_;go_wp2_with fail
   refine (qah g ao n cap l 3 _ s.cur hn (by omega) (by omega)).mono ?_;rintro e y8_ ⟨q,hq0,hq1,rfl,hc_,hg_⟩;replace s:=s.draw hc_ hg_;clear hc_ hg_;have c14:=(s.blk.cell 14).trans (Pk.c14 _);have z14:=Lib.frozen_of_heap s.blk 14;obtain⟨p,d,s,V⟩:=qcl (s.s14 q) (congrArg (fun v:Pv=>{ v with wq:=q }) V);go_wp2_with fail
   refine (qbq g ao n cap l 3 _ s.cur hn (by omega) (by omega)).mono ?_;rintro e y9_ ⟨br,rfl,hc_,hg_⟩;replace s:=s.draw hc_ hg_;clear hc_ hg_;have c15:=(s.blk.cell 15).trans (Pk.c15 _);have z15:=Lib.frozen_of_heap s.blk 15;obtain⟨p,d,s,V⟩:=qcl (s.s15 br) (congrArg (fun v:Pv=>{ v with wr:=br }) V);go_wp2_with fail
   refine (qbq g ao n cap l 4 _ s.cur hn (by omega) (by omega)).mono ?_;rintro e y3_ ⟨bu,rfl,hc_,hg_⟩;replace s:=s.draw hc_ hg_;clear hc_ hg_;cases bu with
   |false=>
    as_aux_lemma=>
     go_wp2_with (first | refine qaj s.blk rfl _ rfl rfl ?_ | (refine qag (q:=p) (old:=Pk.zero) s.res rfl rfl ?_;intro w9 B9 g9) | fail)
     exact qam rfl rfl B9 rfl ⟨p,d,(congrArg Pv.ok V).trans ((by obtain rfl:k=1:=(by simpa using t1);exact qrh htn hk5 (by intro h;first | exact⟨rfl,rfl,rfl,rfl⟩ | cases h) (by intro h;first | (cases h;done) | exact⟨hwtp,by omega,by omega,by omega⟩) (by intro h;first | exact⟨rfl,rfl,rfl⟩ | cases h) (by intro h;first | rfl | cases h) (by decide +kernel) (by first | omega | exact Nat.zero_le _))),rfl,s.done g9⟩
   |true=>
    as_aux_lemma=>
     have c16:=(s.blk.cell 16).trans (Pk.c16 _);have z16:=Lib.frozen_of_heap s.blk 16;obtain⟨p,d,s,V⟩:=qcl (s.s16 true) (congrArg (fun v:Pv=>{ v with hu:=true }) V);have c17:=(s.blk.cell 17).trans (Pk.c17 _);have z17:=Lib.frozen_of_heap s.blk 17;obtain⟨p,d,s,V⟩:=qcl (s.s17 ⟨#[117]⟩ (by decide)) (congrArg (fun v:Pv=>{ v with us:=⟨#[117]⟩ }) V);go_wp2_with fail
     refine (qbq g ao n cap l 2 _ s.cur hn (by omega) (by omega)).mono ?_;rintro e y4_ ⟨bp,rfl,hc_,hg_⟩;replace s:=s.draw hc_ hg_;clear hc_ hg_;cases bp with
     |false=>
      as_aux_lemma=>
       go_wp2_with (first | refine qaj s.blk rfl _ rfl rfl ?_ | (refine qag (q:=p) (old:=Pk.zero) s.res rfl rfl ?_;intro w9 B9 g9) | fail)
       exact qam rfl rfl B9 rfl ⟨p,d,(congrArg Pv.ok V).trans ((by obtain rfl:k=1:=(by simpa using t1);exact qrh htn hk5 (by intro h;first | exact⟨rfl,rfl,rfl,rfl⟩ | cases h) (by intro h;first | (cases h;done) | exact⟨hwtp,by omega,by omega,by omega⟩) (by intro h;first | exact⟨rfl,rfl,rfl⟩ | cases h) (by intro h;first | rfl | cases h) (by decide +kernel) (by first | omega | exact Nat.zero_le _))),rfl,s.done g9⟩
     |true=>
      as_aux_lemma=>
       have c18:=(s.blk.cell 18).trans (Pk.c18 _);have z18:=Lib.frozen_of_heap s.blk 18;obtain⟨p,d,s,V⟩:=qcl (s.s18 true) (congrArg (fun v:Pv=>{ v with hp:=true }) V);go_wp2_with fail
       refine (qah g ao n cap l 3 _ s.cur hn (by omega) (by omega)).mono ?_;rintro e y1_ ⟨x2,hx20,hx21,rfl,hc_,hg_⟩;replace s:=s.draw hc_ hg_;clear hc_ hg_;obtain⟨m,rfl⟩:=Int.eq_ofNat_of_zero_le hx20;go_wp2_with fail
       refine (qdd g ao n cap l m _ s.cur hn (by omega)).mono ?_;rintro e y2_ ⟨ba,bc,bx,rfl,hb_,hc_,hg_⟩;have s2_:=s.draw hc_ hg_;have c19:=(s2_.blk.cell 19).trans (Pk.c19 _);have z19:=Lib.frozen_of_heap s2_.blk 19;have hbl19:=hb_.1;obtain⟨p,d,s,V⟩:=qcl (s.n19 hc_ hg_ hb_ (by omega)) (congrArg (fun v:Pv=>{ v with pa:=bx }) V);clear hc_ hg_ hb_ s2_;go_wp2_with (first | refine qaj s.blk rfl _ rfl rfl ?_ | (refine qag (q:=p) (old:=Pk.zero) s.res rfl rfl ?_;intro w9 B9 g9) | fail)
       exact qam rfl rfl B9 rfl ⟨p,d,(congrArg Pv.ok V).trans ((by obtain rfl:k=1:=(by simpa using t1);exact qrh htn hk5 (by intro h;first | exact⟨rfl,rfl,rfl,rfl⟩ | cases h) (by intro h;first | (cases h;done) | exact⟨hwtp,by omega,by omega,by omega⟩) (by intro h;first | exact⟨rfl,rfl,rfl⟩ | cases h) (by intro h;first | rfl | cases h) (by decide +kernel) (by first | omega | exact Nat.zero_le _))),rfl,s.done g9⟩

def SkV (k x:Int) (j:Nat) (d:Pd) (v:Pv):Prop:=v = { Pv.zero with ty:=k,id:=1+x,cds:=d.cds }∧(0<j∨0<d.cds.length)∧∀c∈d.cds,c∈[(0:Int),1,2,128]
theorem SkV.next {k x z:Int} {j:Nat} {p:Pk} {d:Pd} {q:Option Addr} {n c:Nat} (h:SkV k x j d (pv p d)) (hz:z∈[(0:Int),1,2,128]):SkV k x (j-1) { d with cds:=d.cds++[z] } (pv { p with cds:=⟨q,n,c⟩ } { d with cds:=d.cds++[z] }) :=
 ⟨congrArg (fun v:Pv=>{ v with cds:=d.cds++[z] }) h.1,.inr (by simp),fun c hc=>by
  rcases List.mem_append.1 hc with hc | hc
  ·exact h.2.2 c hc
  ·rw[List.mem_singleton.1 hc];exact hz⟩
theorem SkV.fin {x:Int} {j:Nat} {p:Pk} {d:Pd} (h:SkV 9 x j d (pv p d)) (h0:0≤x) (h1:x<4) (hj:j=0) (hl:d.cds.length≤4):(pv p d).ok=true:=by
 rw[h.1];refine ok_sack h0 h1 (by have:=h.2.1;omega) hl fun c hc=>?_
 have:=h.2.2 c hc;simp at this;omega
theorem l5k_sack (g:Nat) (ao:Option Addr) (n cap:Nat) (l:List UInt8) (k:Int) (w:World) (hc:Cur w g ao n cap l) (hn:n≤1048576) (t1:(k==1)=false) (t2:(k==2)=false) (t3:(k==3)=false) (t8:(k==8)=false) (t9:(k==9)=true) (t10:(k==10)=false) (t4:(k==4)=false) (t5:(k==5)=false) (t6:(k==6)=false) (t7:(k==7)=false) (t11:(k==11)=false) :
  Calls Tryz.prog 109 #[.pointer (some ⟨g,0,none⟩),.int .i64 k] w fun e w'=>∃p d,(pv p d).ok=true∧e=.returned (.agg (Pk.cells p))∧POwn w' w.heap.size p d∧Pgd 64 p d∧Cur w' g ao n cap l∧w.grownBy w' (some g):=by
 have s:=qiz g ao n cap l k w hc;clear hc;go_enter Tryz.func109,Tryz.ntmps109
 go_upto_region 2 with (first | refine qaz (p:=ofT k) rfl rfl ?_ | refine al_pk ?_ | (refine bu_pk (ofT k) (by kernel_rfl) ?_) | fail)
 change Code.wp _ _ _ Fq164 _;unfold Fq164;simp only[World.size_alloc];go_wp2_with fail
 refine (qah g ao n cap l 4 _ s.cur hn (by omega) (by omega)).mono ?_;rintro e y1_ ⟨x,hx0,hx1,rfl,hc_,hg_⟩;replace s:=s.draw hc_ hg_;clear hc_ hg_;have c4:=(s.blk.cell 4).trans (Pk.c4 _);have z4:=Lib.frozen_of_heap s.blk 4;have s0:=s.s4 (1+x);clear s;have s:=s0;clear s0;go_wp2_with fail
 refine (qah g ao n cap l 3 _ s.cur hn (by omega) (by omega)).mono ?_;rintro e y2_ ⟨x2,hx20,hx21,rfl,hc_,hg_⟩;replace s:=s.draw hc_ hg_;clear hc_ hg_;obtain⟨x3,rfl⟩:=Int.eq_ofNat_of_zero_le hx20;go_wp2
 go_loopw [8] (fun i wr=>∃(j:Nat) (p:Pk) (d:Pd),i=.int .i64 j∧p.cds.n+j≤3∧St 64 w wr g w.heap.size (w.heap.size+1) ao n cap l p d∧SkV k x j d (pv p d)) (fun i _=>(intOf i).toNat)
 case atStart=>exact⟨1+x3,_,_,by simp,by show 0+(1+x3)≤3;omega,s,⟨rfl,.inl (by omega),fun c h=>(by cases h)⟩⟩
 case round=>
  clear s;obtain⟨j,p,d,rfl,hj,s,V⟩:=hrel
  by_cases hlt:0<j
  ·as_aux_lemma=>
   have hlt':(0:Int)<j:=by omega
   go_wp2;have hgY:g<wr.heap.size:=Nat.lt_of_lt_of_le s.lt s.gro.size;have hrow:=qgv s.own.cds.2;refine qda 8 (by kernel_rfl) rfl (RR [4] 6 g (Value.slice p.cds.a p.cds.n p.cds.c).ownBlock 3 ao n cap l) (fun i v u=>match i with
    |0=>v=.pointer (some ⟨w.heap.size+1,24,none⟩)
    |1=>v=.slice p.cds.a p.cds.n p.cds.c
    |2=>v=.pointer (some ⟨g,0,none⟩)
    |3=>∃(blk:Nat) (z:Nat),v=.slice (some ⟨blk,0,none⟩) 4 4∧wr.heap.size≤blk∧u.heap[blk]? = some (.cells (List.map (Value.int .i64) [(0:Int),1,2,128]).toArray 3)
    |4=>∃x,v=.int .i64 x∧x∈[(0:Int),1,2,128]
    |5=>∃(blk:Nat) (z:Int),v=.slice (some ⟨blk,0,none⟩) 1 1∧wr.heap.size≤blk∧u.heap[blk]? = some (.cells #[.int .i64 z] 3)∧z∈[(0:Int),1,2,128]
    |6=>∃(a:Option Addr) (c:Nat) (z:Int),v=.slice a (p.cds.n+1) c∧z∈[(0:Int),1,2,128]∧IOwn u w.heap.size a (p.cds.n+1) c (d.cds++[z])
    |7=>v=.pointer (some ⟨w.heap.size+1,24,none⟩)
    |_=>True) (HH 6 8 (fun u=>St 64 w u g w.heap.size (w.heap.size+1) ao n cap l p d∧wr.heap.size≤u.heap.size) (fun u=>Sx w u g w.heap.size (w.heap.size+1) ao n cap l p { p with cds:=⟨none,0,0⟩ } { d with cds:=[] })) ?_ ?_ ?_ ?_ ?_
   ·intro i j v u x hi hj hr hne hR hG
    match j,hj,hr,hne,hG with
    |0,_,_,_,hG=>exact hG
    |1,_,_,_,hG=>exact hG
    |2,_,_,_,hG=>exact hG
    |3,_,_,_,hG=>
     obtain⟨blk,z,e1,e2,e3⟩:=hG;exact⟨blk,z,e1,e2,qoc hR hgY (fun k h=>(hrow k h).2.2) e2 e3⟩
    |4,_,_,_,hG=>exact hG
    |5,_,_,_,hG=>
     obtain⟨blk,z,e1,e2,e3,e4⟩:=hG;exact⟨blk,z,e1,e2,qoc hR hgY (fun k h=>(hrow k h).2.2) e2 e3,e4⟩
    |6,_,hr,hne,hG=>
     have hi8:i=7:=by
      match i,hi,hr,hne with
      |0,_,hr,_=>exact qzff hr
      |1,_,hr,_=>exact qzff hr
      |2,_,hr,_=>exact qzff hr
      |3,_,hr,_=>exact qzff hr
      |4,_,hr,_=>exact qzff hr
      |5,_,hr,_=>exact qzff hr
      |6,_,_,hne=>exact absurd rfl hne
      |7,_,_,_=>rfl
      |(_+8),h,_,_=>omega
     subst hi8;obtain⟨a,c,z,e1,e2,e3⟩:=hG;exact⟨a,c,z,e1,e2,e3.grown hR.1 (fun a _ he=>by cases he)⟩
    |7,_,_,_,hG=>exact hG
    |(_+8),h,_,_,_=>omega
   ·exact fun i k u x hi hk hr hne hR hH=>sH_gen (by decide) (fun k hk=>match k,hk with | 0,_=>rfl | 1,_=>rfl | 2,_=>rfl | 3,_=>rfl | 4,_=>rfl | 5,_=>rfl) wr (fun k h=>(hrow k h).2.1) (by decide) (fun u k _ ht ho=>qre ho ht (by decide) (.inl (by decide)) (.inl (by decide)) (.inr rfl)) i k u x hr hne hR hH
   ·intro k;unfold HH
    split
    ·exact⟨s.drew,Nat.le_refl _⟩
    split
    ·exact s.drew.x24
    ·trivial
   ·intro i o a u hi hk hH hdep;replace hdep:=qhdd hdep
    match i,hi with
    |0,hi=>cases hi;exact qggo rfl (z_fld (X:=⟨w.heap.size+1,0,none⟩) (Y:=⟨w.heap.size+1,24,none⟩) 28 _ 24 rfl (qevv hk 5 rfl rfl) (fun _=>by kernel_rfl) ⟨_,rfl,⟨World.grownBy.refl _ _,fun h=>h,fun h=>absurd h (by decide)⟩,rfl⟩)
    |1,hi=>cases hi;obtain⟨z0,hz0,rfl⟩:=hdep 0 rfl;have S:=HH_le hH (by decide);exact qggo rfl (z_ld 26 _ rfl (qab hz0) (by kernel_rfl) ((S.1.blk.cell 24).trans (Pk.c24 _)) ⟨_,rfl,⟨World.grownBy.refl _ _,fun h=>h,fun h=>absurd h (by decide)⟩,rfl⟩)
    |2,hi=>cases hi;exact qggo rfl (qae (v:=_) (w':=u) (by first | (simp[execOp,qab ((hk.at 0 rfl).trans rfl)];done) | (simp[execOp,qab ((hk.at 0 rfl).trans rfl)];rfl)) ⟨_,rfl,⟨World.grownBy.refl _ _,fun h=>h,fun h=>absurd h (by decide)⟩,rfl⟩)
    |3,hi=>cases hi;have S:=HH_le hH (by decide);exact qggo rfl (z_mk (vs:=#[(0,.int .i64 0),(1,.int .i64 1),(2,.int .i64 2),(3,.int .i64 128)]) _ _ rfl (by simp only[List.map_toArray,List.map_cons,List.map_nil];rfl) (mki4 0 1 2 128 u) ⟨_,rfl,⟨World.grownBy_alloc _ _ _,fun h=>h.alloc _,fun h=>absurd h (by decide)⟩,⟨_,0,rfl,S.2,heap_alloc_new _ _⟩⟩)
    |4,hi=>cases hi;obtain⟨z2,hz2,rfl⟩:=hdep 2 rfl;obtain⟨z3,hz3,⟨blk,z,e1,e2,e3⟩⟩:=hdep 3 rfl;subst e1;have S:=HH_le hH (by decide);refine qggo rfl (qal (qak _ _ _ _ _ _ _ _ cf_int (qab hz2) (qab hz3) (fun _=>rfl) _ _ _ _ _ _) ?_);refine (qez g ao n cap l blk 4 4 [(0:Int),1,2,128] u S.1.cur hn (by omega) (by omega) rfl (fun i hi=>ints_row e3 i hi) (by omega)).mono ?_;rintro e x' ⟨q,hq,rfl,hc,hg⟩;exact⟨_,rfl,_,rfl,⟨hg,fun _=>hc,fun h=>absurd h (by decide)⟩,q,rfl,hq⟩
    |5,hi=>cases hi;obtain⟨z4,hz4,⟨x4,rfl,hx4⟩⟩:=hdep 4 rfl;have S:=HH_le hH (by decide);exact qggo rfl (z_mk _ _ rfl (by simp[qab hz4]) (mki1 x4 u) ⟨_,rfl,⟨World.grownBy_alloc _ _ _,fun h=>h.alloc _,fun h=>absurd h (by decide)⟩,⟨_,x4,rfl,S.2,heap_alloc_new _ _,hx4⟩⟩)
    |6,hi=>
     cases hi;obtain⟨z1,hz1,rfl⟩:=hdep 1 rfl;obtain⟨z5,hz5,⟨blk,z,e1,e2,e3,hzz⟩⟩:=hdep 5 rfl;subst e1;have S:=HH_le hH (by decide);have hlen:p.cds.n≤64:=S.1.gd.cds;refine qggo rfl (z_cdsapp _ _ rfl w.heap.size _ _ _ d.cds (qab hz1) S.1.own.cds ⟨blk,0,none⟩ [z] 1 1 rfl (qab hz5) ?_ (by omega) S.1.gro.size ?_)
     ·intro k v hv
      match k,hv with
      |0,hv=>
       have e4:v=.int .i64 z:=by simpa[ivals] using hv.symm
       rw[e4];exact (qbr e3 0).trans rfl
     ·intro a' c' x' ho hg;exact⟨_,rfl,⟨hg,fun h=>h.keep hg (fun k e=>by have:=(qgv S.1.own.cds.2 k e).2.1;have:=S.1.lt;omega),fun _ k h=>(qgv S.1.own.cds.2 k h).1⟩,a',c',z,rfl,hzz,ho⟩
    |7,hi=>cases hi;exact qggo rfl (z_fld (X:=⟨w.heap.size+1,0,none⟩) (Y:=⟨w.heap.size+1,24,none⟩) 28 _ 24 rfl (qevv hk 5 rfl rfl) (fun _=>by kernel_rfl) ⟨_,rfl,⟨World.grownBy.refl _ _,fun h=>h,fun h=>absurd h (by decide)⟩,rfl⟩)
    |(_+8),hi=>cases hi
   intro vs y9 hX_ hG a3_ h3;have X:=HH_N hX_ (by decide);obtain⟨a6,c6,x6,e6,hx6,O6⟩:=hG 6 (by decide);have e7:=hG 7 (by decide);replace e7:vs 7=.pointer (some ⟨w.heap.size+1,24,none⟩):=e7;clear hG hX_;replace h3:puts _ 2 _ (Fq164)=_:=h3;replace h3:puts _ 4 _ (Fq164)=_:=h3;replace h3:puts _ 6 _ (Fq164)=_:=h3;replace h3:Fq164=_:=h3;unfold Fq164 at h3;subst h3;simp only[List.drop_succ_cons,List.drop_zero];simp only[e6,e7];clear e6 e7;have c24:=(X.blk.cell 24).trans (Pk.c24 _);have z24:=Lib.frozen_of_heap X.blk 24;have s2:=X.fin24 s.gd O6 (by omega);go_wp2;go_roundw
   case rel=>exact⟨j-1,_,_,by go_num,by show p.cds.n+1+(j-1)≤3;omega,s2,V.next hx6⟩
   case measure=>simp[intOf];omega
  ·as_aux_lemma=>
   have hlt':¬(0:Int)<j:=by omega
   go_wp2_with (first | refine qaj s.blk rfl _ rfl rfl ?_ | (refine qag (q:=p) (old:=Pk.zero) s.res rfl rfl ?_;intro w9 B9 g9) | fail)
   have D9:=s.done g9;have V9:(pv p d).ok=true:=by
    obtain rfl:k=9:=(by simpa using t9);have q1:=s.own.cds.1;exact V.fin hx0 hx1 (by omega) (by omega)
   first
   |exact qam rfl rfl B9 rfl ⟨p,d,V9,rfl,D9⟩
   |exact qam rfl rfl B9 rfl ⟨p,V9,rfl,d,D9⟩
   |exact qam rfl rfl B9 rfl ⟨p,d,rfl,D9⟩
   |exact qam rfl rfl B9 rfl ⟨p,rfl,d,D9⟩
   |exact qam rfl rfl B9 rfl ⟨p,rfl,⟨d,D9.1,D9.2.1⟩,D9.2.2⟩
   |(refine qam rfl rfl B9 rfl ?_;trace_state;exact⟨p,rfl,d,D9⟩)

def UnV (k x:Int) (j:Nat) (d:Pd) (v:Pv):Prop:=v = { Pv.zero with ty:=k,id:=1+x,nam:=d.nam }∧(0<j∨0<d.nam.length)∧∀c∈d.nam,flt c=true
theorem UnV.next {k x:Int} {z:ByteArray} {j:Nat} {p:Pk} {d:Pd} {q:Option Addr} {n c:Nat} (h:UnV k x j d (pv p d)) (hz:flt z=true):UnV k x (j-1) { d with nam:=d.nam++[z] } (pv { p with nam:=⟨q,n,c⟩ } { d with nam:=d.nam++[z] }) :=
 ⟨congrArg (fun v:Pv=>{ v with nam:=d.nam++[z] }) h.1,.inr (by simp),fun c hc=>by
  rcases List.mem_append.1 hc with hc | hc
  ·exact h.2.2 c hc
  ·rw[List.mem_singleton.1 hc];exact hz⟩
theorem UnV.fin {x:Int} {j:Nat} {p:Pk} {d:Pd} (h:UnV 10 x j d (pv p d)) (h0:0≤x) (h1:x<4) (hj:j=0) (hl:d.nam.length≤4):(pv p d).ok=true:=by
 rw[h.1];exact ok_uns h0 h1 (by have:=h.2.1;omega) hl h.2.2
theorem l5k_uns (g:Nat) (ao:Option Addr) (n cap:Nat) (l:List UInt8) (k:Int) (w:World) (hc:Cur w g ao n cap l) (hn:n≤1048576) (t1:(k==1)=false) (t2:(k==2)=false) (t3:(k==3)=false) (t8:(k==8)=false) (t9:(k==9)=false) (t10:(k==10)=true) (t4:(k==4)=false) (t5:(k==5)=false) (t6:(k==6)=false) (t7:(k==7)=false) (t11:(k==11)=false) :
  Calls Tryz.prog 109 #[.pointer (some ⟨g,0,none⟩),.int .i64 k] w fun e w'=>∃p d,(pv p d).ok=true∧e=.returned (.agg (Pk.cells p))∧POwn w' w.heap.size p d∧Pgd 64 p d∧Cur w' g ao n cap l∧w.grownBy w' (some g):=by
 have s:=qiz g ao n cap l k w hc;clear hc;go_enter Tryz.func109,Tryz.ntmps109
 go_upto_region 2 with (first | refine qaz (p:=ofT k) rfl rfl ?_ | refine al_pk ?_ | (refine bu_pk (ofT k) (by kernel_rfl) ?_) | fail)
 change Code.wp _ _ _ Fq164 _;unfold Fq164;simp only[World.size_alloc];go_wp2_with fail
 refine (qah g ao n cap l 4 _ s.cur hn (by omega) (by omega)).mono ?_;rintro e y3_ ⟨x,hx0,hx1,rfl,hc_,hg_⟩;replace s:=s.draw hc_ hg_;clear hc_ hg_;have c4:=(s.blk.cell 4).trans (Pk.c4 _);have z4:=Lib.frozen_of_heap s.blk 4;have s0:=s.s4 (1+x);clear s;have s:=s0;clear s0;go_wp2_with fail
 refine (qah g ao n cap l 3 _ s.cur hn (by omega) (by omega)).mono ?_;rintro e y4_ ⟨x2,hx20,hx21,rfl,hc_,hg_⟩;replace s:=s.draw hc_ hg_;clear hc_ hg_;obtain⟨x3,rfl⟩:=Int.eq_ofNat_of_zero_le hx20;go_wp2
 go_loopw [9] (fun i wr=>∃(j:Nat) (p:Pk) (d:Pd),i=.int .i64 j∧p.nam.n+j≤3∧St 64 w wr g w.heap.size (w.heap.size+1) ao n cap l p d∧UnV k x j d (pv p d)) (fun i _=>(intOf i).toNat)
 case atStart=>exact⟨1+x3,_,_,by simp,by show 0+(1+x3)≤3;omega,s,⟨rfl,.inl (by omega),fun c h=>(by cases h)⟩⟩
 case round=>
  clear s;obtain⟨j,p,d,rfl,hj,s,V⟩:=hrel
  by_cases hlt:0<j
  ·as_aux_lemma=>
   have hlt':(0:Int)<j:=by omega
   go_wp2;have hgY:g<wr.heap.size:=Nat.lt_of_lt_of_le s.lt s.gro.size;have hrow:=qgv s.own.nam.2;refine qda 7 (by kernel_rfl) rfl (RR [3] 5 g (Value.slice p.nam.a p.nam.n p.nam.c).ownBlock 9 ao n cap l) (fun i v u=>match i with
    |0=>v=.pointer (some ⟨w.heap.size+1,23,none⟩)
    |1=>v=.slice p.nam.a p.nam.n p.nam.c
    |2=>v=.pointer (some ⟨g,0,none⟩)
    |3=>∃x:ByteArray,v=.string x∧(x.size≤61∧flt x=true)
    |4=>∃(blk:Nat) (z:ByteArray),v=.slice (some ⟨blk,0,none⟩) 1 1∧(wr.heap.size≤blk∧(z.size≤61∧flt z=true))∧u.heap[blk]? = some (.cells #[.string z] 9)
    |5=>∃(a:Option Addr) (c:Nat) (z:ByteArray),v=.slice a (p.nam.n+1) c∧(z.size≤61∧flt z=true)∧SOwn u w.heap.size a (p.nam.n+1) c (d.nam++[z])
    |6=>v=.pointer (some ⟨w.heap.size+1,23,none⟩)
    |_=>True) (HH 5 7 (fun u=>St 64 w u g w.heap.size (w.heap.size+1) ao n cap l p d∧wr.heap.size≤u.heap.size) (fun u=>Sx w u g w.heap.size (w.heap.size+1) ao n cap l p { p with nam:=⟨none,0,0⟩ } { d with nam:=[] })) ?_ ?_ ?_ ?_ ?_
   ·intro i j v u x hi hj hr hne hR hG
    match j,hj,hr,hne,hG with
    |0,_,_,_,hG=>exact hG
    |1,_,_,_,hG=>exact hG
    |2,_,_,_,hG=>exact hG
    |3,_,_,_,hG=>exact hG
    |4,_,_,_,hG=>
     obtain⟨blk,z,e1,e2,e3⟩:=hG;exact⟨blk,z,e1,e2,qoc hR hgY (fun k h=>(hrow k h).2.2) e2.1 e3⟩
    |5,_,hr,hne,hG=>
     have hi8:i=6:=by
      match i,hi,hr,hne with
      |0,_,hr,_=>exact qzff hr
      |1,_,hr,_=>exact qzff hr
      |2,_,hr,_=>exact qzff hr
      |3,_,hr,_=>exact qzff hr
      |4,_,hr,_=>exact qzff hr
      |5,_,_,hne=>exact absurd rfl hne
      |6,_,_,_=>rfl
      |(_+7),h,_,_=>omega
     subst hi8;obtain⟨a,c,z,e1,e2,e3⟩:=hG;exact⟨a,c,z,e1,e2,e3.grown hR.1 (fun a _ he=>by cases he)⟩
    |6,_,_,_,hG=>exact hG
    |(_+7),h,_,_,_=>omega
   ·exact fun i k u x hi hk hr hne hR hH=>sH_gen (by decide) (fun k hk=>match k,hk with | 0,_=>rfl | 1,_=>rfl | 2,_=>rfl | 3,_=>rfl | 4,_=>rfl) wr (fun k h=>(hrow k h).2.1) (by decide) (fun u k _ ht ho=>qre ho ht (by decide) (.inl (by decide)) (.inr rfl) (.inl (by decide))) i k u x hr hne hR hH
   ·intro k;unfold HH
    split
    ·exact⟨s.drew,Nat.le_refl _⟩
    split
    ·exact s.drew.x23
    ·trivial
   ·intro i o a u hi hk hH hdep;replace hdep:=qhdd hdep
    match i,hi with
    |0,hi=>cases hi;exact qggo rfl (z_fld (X:=⟨w.heap.size+1,0,none⟩) (Y:=⟨w.heap.size+1,23,none⟩) 28 _ 23 rfl (qevv hk 5 rfl rfl) (fun _=>by kernel_rfl) ⟨_,rfl,⟨World.grownBy.refl _ _,fun h=>h,fun h=>absurd h (by decide)⟩,rfl⟩)
    |1,hi=>cases hi;obtain⟨z0,hz0,rfl⟩:=hdep 0 rfl;have S:=HH_le hH (by decide);exact qggo rfl (z_ld 25 _ rfl (qab hz0) (by kernel_rfl) ((S.1.blk.cell 23).trans (Pk.c23 _)) ⟨_,rfl,⟨World.grownBy.refl _ _,fun h=>h,fun h=>absurd h (by decide)⟩,rfl⟩)
    |2,hi=>cases hi;exact qggo rfl (qae (v:=_) (w':=u) (by first | (simp[execOp,qab ((hk.at 0 rfl).trans rfl)];done) | (simp[execOp,qab ((hk.at 0 rfl).trans rfl)];rfl)) ⟨_,rfl,⟨World.grownBy.refl _ _,fun h=>h,fun h=>absurd h (by decide)⟩,rfl⟩)
    |3,hi=>cases hi;obtain⟨z2,hz2,rfl⟩:=hdep 2 rfl;have S:=HH_le hH (by decide);refine qggo rfl (qal (qbu _ _ _ _ _ _ cf_fil (qab hz2) (fun _=>rfl) _ _ _ _ _ _) ?_);refine (qkh g ao n cap l u S.1.cur hn).mono ?_;rintro e x' ⟨q,hq,hf,rfl,hc,hg⟩;exact⟨_,rfl,_,rfl,⟨hg,fun _=>hc,fun h=>absurd h (by decide)⟩,q,rfl,⟨hq,hf⟩⟩
    |4,hi=>cases hi;obtain⟨z3,hz3,⟨x4,rfl,hx4⟩⟩:=hdep 3 rfl;have S:=HH_le hH (by decide);exact qggo rfl (z_mk _ _ rfl (by simp[qab hz3]) (mks1 x4 u) ⟨_,rfl,⟨World.grownBy_alloc _ _ _,fun h=>h.alloc _,fun h=>absurd h (by decide)⟩,⟨_,x4,rfl,⟨S.2,hx4⟩,heap_alloc_new _ _⟩⟩)
    |5,hi=>
     cases hi;obtain⟨z1,hz1,rfl⟩:=hdep 1 rfl;obtain⟨z4,hz4,⟨blk,z,e1,e2,e3⟩⟩:=hdep 4 rfl;subst e1;have S:=HH_le hH (by decide);have hlen:p.nam.n≤64:=S.1.gd.nam;refine qggo rfl (z_namapp _ _ rfl w.heap.size _ _ _ d.nam (qab hz1) S.1.own.nam ⟨blk,0,none⟩ [z] 1 1 rfl (qab hz4) ?_ (by omega) S.1.gro.size ?_)
     ·intro k v hv
      match k,hv with
      |0,hv=>
       have e4:v=.string z:=by simpa[svals] using hv.symm
       rw[e4];exact (qbr e3 0).trans rfl
     ·intro a' c' x' ho hg;exact⟨_,rfl,⟨hg,fun h=>h.keep hg (fun k e=>by have:=(qgv S.1.own.nam.2 k e).2.1;have:=S.1.lt;omega),fun _ k h=>(qgv S.1.own.nam.2 k h).1⟩,a',c',z,rfl,e2.2,ho⟩
    |6,hi=>cases hi;exact qggo rfl (z_fld (X:=⟨w.heap.size+1,0,none⟩) (Y:=⟨w.heap.size+1,23,none⟩) 28 _ 23 rfl (qevv hk 5 rfl rfl) (fun _=>by kernel_rfl) ⟨_,rfl,⟨World.grownBy.refl _ _,fun h=>h,fun h=>absurd h (by decide)⟩,rfl⟩)
    |(_+7),hi=>cases hi
   intro vs y9 hX_ hG a3_ h3;have X:=HH_N hX_ (by decide);obtain⟨a6,c6,x6,e6,hx6,O6⟩:=hG 5 (by decide);have e7:=hG 6 (by decide);replace e7:vs 6=.pointer (some ⟨w.heap.size+1,23,none⟩):=e7;clear hG hX_;replace h3:puts _ 2 _ (Fq164)=_:=h3;replace h3:puts _ 4 _ (Fq164)=_:=h3;replace h3:puts _ 6 _ (Fq164)=_:=h3;replace h3:Fq164=_:=h3;unfold Fq164 at h3;subst h3;simp only[List.drop_succ_cons,List.drop_zero];simp only[e6,e7];clear e6 e7;have c23:=(X.blk.cell 23).trans (Pk.c23 _);have z23:=Lib.frozen_of_heap X.blk 23;have s2:=X.fin23 s.gd O6 (by omega) (grow_all s.gd.nams hx6.1);go_wp2;go_roundw
   case rel=>exact⟨j-1,_,_,by go_num,by show p.nam.n+1+(j-1)≤3;omega,s2,V.next hx6.2⟩
   case measure=>simp[intOf];omega
  ·as_aux_lemma=>
   have hlt':¬(0:Int)<j:=by omega
   go_wp2_with (first | refine qaj s.blk rfl _ rfl rfl ?_ | (refine qag (q:=p) (old:=Pk.zero) s.res rfl rfl ?_;intro w9 B9 g9) | fail)
   have D9:=s.done g9;have V9:(pv p d).ok=true:=by
    obtain rfl:k=10:=(by simpa using t10);have q1:=s.own.nam.1;exact V.fin hx0 hx1 (by omega) (by omega)
   first
   |exact qam rfl rfl B9 rfl ⟨p,d,V9,rfl,D9⟩
   |exact qam rfl rfl B9 rfl ⟨p,V9,rfl,d,D9⟩
   |exact qam rfl rfl B9 rfl ⟨p,d,rfl,D9⟩
   |exact qam rfl rfl B9 rfl ⟨p,rfl,d,D9⟩
   |exact qam rfl rfl B9 rfl ⟨p,rfl,⟨d,D9.1,D9.2.1⟩,D9.2.2⟩
   |(refine qam rfl rfl B9 rfl ?_;trace_state;exact⟨p,rfl,d,D9⟩)

def SuV (k x:Int) (j:Nat) (d:Pd) (v:Pv):Prop:=v = { Pv.zero with ty:=k,id:=1+x,wan:=d.wan }∧(0<j∨0<d.wan.length)∧∀c∈d.wan,flt c.1=true∧0≤c.2∧c.2≤2
theorem SuV.next {k x:Int} {z:ByteArray×Int} {j:Nat} {p:Pk} {d:Pd} {q:Option Addr} {n c:Nat} (h:SuV k x j d (pv p d)) (hz:flt z.1=true∧0≤z.2∧z.2≤2):SuV k x (j-1) { d with wan:=d.wan++[z] } (pv { p with wan:=⟨q,n,c⟩ } { d with wan:=d.wan++[z] }) :=
 ⟨congrArg (fun v:Pv=>{ v with wan:=d.wan++[z] }) h.1,.inr (by simp),fun c hc=>by
  rcases List.mem_append.1 hc with hc | hc
  ·exact h.2.2 c hc
  ·rw[List.mem_singleton.1 hc];exact hz⟩
theorem SuV.fin {x:Int} {j:Nat} {p:Pk} {d:Pd} (h:SuV 8 x j d (pv p d)) (h0:0≤x) (h1:x<4) (hj:j=0) (hl:d.wan.length≤4):(pv p d).ok=true:=by
 rw[h.1];exact ok_sub h0 h1 (by have:=h.2.1;omega) hl h.2.2
theorem l5k_sub (g:Nat) (ao:Option Addr) (n cap:Nat) (l:List UInt8) (k:Int) (w:World) (hc:Cur w g ao n cap l) (hn:n≤1048576) (t1:(k==1)=false) (t2:(k==2)=false) (t3:(k==3)=false) (t8:(k==8)=true) (t9:(k==9)=false) (t10:(k==10)=false) (t4:(k==4)=false) (t5:(k==5)=false) (t6:(k==6)=false) (t7:(k==7)=false) (t11:(k==11)=false) :
  Calls Tryz.prog 109 #[.pointer (some ⟨g,0,none⟩),.int .i64 k] w fun e w'=>∃p d,(pv p d).ok=true∧e=.returned (.agg (Pk.cells p))∧POwn w' w.heap.size p d∧Pgd 64 p d∧Cur w' g ao n cap l∧w.grownBy w' (some g):=by
 have s:=qiz g ao n cap l k w hc;clear hc;go_enter Tryz.func109,Tryz.ntmps109
 go_upto_region 2 with (first | refine qaz (p:=ofT k) rfl rfl ?_ | refine al_pk ?_ | (refine bu_pk (ofT k) (by kernel_rfl) ?_) | fail)
 change Code.wp _ _ _ Fq164 _;unfold Fq164;simp only[World.size_alloc];go_wp2_with fail
 refine (qah g ao n cap l 4 _ s.cur hn (by omega) (by omega)).mono ?_;rintro e y5_ ⟨x,hx0,hx1,rfl,hc_,hg_⟩;replace s:=s.draw hc_ hg_;clear hc_ hg_;have c4:=(s.blk.cell 4).trans (Pk.c4 _);have z4:=Lib.frozen_of_heap s.blk 4;have s0:=s.s4 (1+x);clear s;have s:=s0;clear s0;go_wp2_with fail
 refine (qah g ao n cap l 3 _ s.cur hn (by omega) (by omega)).mono ?_;rintro e y6_ ⟨x2,hx20,hx21,rfl,hc_,hg_⟩;replace s:=s.draw hc_ hg_;clear hc_ hg_;obtain⟨x3,rfl⟩:=Int.eq_ofNat_of_zero_le hx20;go_wp2
 go_loopw [7] (fun i wr=>∃(j:Nat) (p:Pk) (d:Pd),i=.int .i64 j∧p.wan.n+j≤3∧St 64 w wr g w.heap.size (w.heap.size+1) ao n cap l p d∧SuV k x j d (pv p d)) (fun i _=>(intOf i).toNat)
 case atStart=>exact⟨1+x3,_,_,by simp,by show 0+(1+x3)≤3;omega,s,⟨rfl,.inl (by omega),fun c h=>(by cases h)⟩⟩
 case round=>
  clear s;obtain⟨j,p,d,rfl,hj,s,V⟩:=hrel
  by_cases hlt:0<j
  ·as_aux_lemma=>
   have hlt':(0:Int)<j:=by omega
   go_wp2;have hgY:g<wr.heap.size:=Nat.lt_of_lt_of_le s.lt s.gro.size;have hrow:=qgv s.own.wan.2;refine qda 10 (by kernel_rfl) rfl (RR [3,5] 8 g (Value.slice p.wan.a p.wan.n p.wan.c).ownBlock 88 ao n cap l) (fun i v u=>match i with
    |0=>v=.pointer (some ⟨w.heap.size+1,22,none⟩)
    |1=>v=.slice p.wan.a p.wan.n p.wan.c
    |2=>v=.pointer (some ⟨g,0,none⟩)
    |3=>∃x:ByteArray,v=.string x∧(x.size≤61∧flt x=true)
    |4=>v=.pointer (some ⟨g,0,none⟩)
    |5=>∃x:Int,v=.int .i64 x∧(0≤x∧x≤2)
    |6=>∃(x:ByteArray) (q:Int),v=.agg #[.string x,.int .i64 q]∧(x.size≤61∧(flt x=true∧0≤q∧q≤2))
    |7=>∃(blk:Nat) (z:ByteArray×Int),v=.slice (some ⟨blk,0,none⟩) 1 1∧(wr.heap.size≤blk∧(z.1.size≤61∧(flt z.1=true∧0≤z.2∧z.2≤2)))∧u.heap[blk]? = some (.cells #[.string z.1,.int .i64 z.2] 88)
    |8=>∃(a:Option Addr) (c:Nat) (z:ByteArray×Int),v=.slice a (p.wan.n+1) c∧(z.1.size≤61∧(flt z.1=true∧0≤z.2∧z.2≤2))∧WOwn u w.heap.size a (p.wan.n+1) c (d.wan++[z])
    |9=>v=.pointer (some ⟨w.heap.size+1,22,none⟩)
    |_=>True) (HH 8 10 (fun u=>St 64 w u g w.heap.size (w.heap.size+1) ao n cap l p d∧wr.heap.size≤u.heap.size) (fun u=>Sx w u g w.heap.size (w.heap.size+1) ao n cap l p { p with wan:=⟨none,0,0⟩ } { d with wan:=[] })) ?_ ?_ ?_ ?_ ?_
   ·intro i j v u x hi hj hr hne hR hG
    match j,hj,hr,hne,hG with
    |0,_,_,_,hG=>exact hG
    |1,_,_,_,hG=>exact hG
    |2,_,_,_,hG=>exact hG
    |3,_,_,_,hG=>exact hG
    |4,_,_,_,hG=>exact hG
    |5,_,_,_,hG=>exact hG
    |6,_,_,_,hG=>exact hG
    |7,_,_,_,hG=>
     obtain⟨blk,z,e1,e2,e3⟩:=hG;exact⟨blk,z,e1,e2,qoc hR hgY (fun k h=>(hrow k h).2.2) e2.1 e3⟩
    |8,_,hr,hne,hG=>
     have hi8:i=9:=by
      match i,hi,hr,hne with
      |0,_,hr,_=>exact qzff hr
      |1,_,hr,_=>exact qzff hr
      |2,_,hr,_=>exact qzff hr
      |3,_,hr,_=>exact qzff hr
      |4,_,hr,_=>exact qzff hr
      |5,_,hr,_=>exact qzff hr
      |6,_,hr,_=>exact qzff hr
      |7,_,hr,_=>exact qzff hr
      |8,_,_,hne=>exact absurd rfl hne
      |9,_,_,_=>rfl
      |(_+10),h,_,_=>omega
     subst hi8;obtain⟨a,c,z,e1,e2,e3⟩:=hG;exact⟨a,c,z,e1,e2,e3.grown hR.1 (fun a _ he=>by cases he)⟩
    |9,_,_,_,hG=>exact hG
    |(_+10),h,_,_,_=>omega
   ·exact fun i k u x hi hk hr hne hR hH=>sH_gen (by decide) (fun k hk=>match k,hk with | 0,_=>rfl | 1,_=>rfl | 2,_=>rfl | 3,_=>rfl | 4,_=>rfl | 5,_=>rfl | 6,_=>rfl | 7,_=>rfl) wr (fun k h=>(hrow k h).2.1) (by decide) (fun u k _ ht ho=>qre ho ht (by decide) (.inr rfl) (.inl (by decide)) (.inl (by decide))) i k u x hr hne hR hH
   ·intro k;unfold HH
    split
    ·exact⟨s.drew,Nat.le_refl _⟩
    split
    ·exact s.drew.x22
    ·trivial
   ·intro i o a u hi hk hH hdep;replace hdep:=qhdd hdep
    match i,hi with
    |0,hi=>cases hi;exact qggo rfl (z_fld (X:=⟨w.heap.size+1,0,none⟩) (Y:=⟨w.heap.size+1,22,none⟩) 28 _ 22 rfl (qevv hk 5 rfl rfl) (fun _=>by kernel_rfl) ⟨_,rfl,⟨World.grownBy.refl _ _,fun h=>h,fun h=>absurd h (by decide)⟩,rfl⟩)
    |1,hi=>cases hi;obtain⟨z0,hz0,rfl⟩:=hdep 0 rfl;have S:=HH_le hH (by decide);exact qggo rfl (z_ld 24 _ rfl (qab hz0) (by kernel_rfl) ((S.1.blk.cell 22).trans (Pk.c22 _)) ⟨_,rfl,⟨World.grownBy.refl _ _,fun h=>h,fun h=>absurd h (by decide)⟩,rfl⟩)
    |2,hi=>cases hi;exact qggo rfl (qae (v:=_) (w':=u) (by first | (simp[execOp,qab ((hk.at 0 rfl).trans rfl)];done) | (simp[execOp,qab ((hk.at 0 rfl).trans rfl)];rfl)) ⟨_,rfl,⟨World.grownBy.refl _ _,fun h=>h,fun h=>absurd h (by decide)⟩,rfl⟩)
    |3,hi=>cases hi;obtain⟨z2,hz2,rfl⟩:=hdep 2 rfl;have S:=HH_le hH (by decide);refine qggo rfl (qal (qbu _ _ _ _ _ _ cf_fil (qab hz2) (fun _=>rfl) _ _ _ _ _ _) ?_);refine (qkh g ao n cap l u S.1.cur hn).mono ?_;rintro e x' ⟨q,hq,hf,rfl,hc,hg⟩;exact⟨_,rfl,_,rfl,⟨hg,fun _=>hc,fun h=>absurd h (by decide)⟩,q,rfl,⟨hq,hf⟩⟩
    |4,hi=>cases hi;exact qggo rfl (qae (v:=_) (w':=u) (by first | (simp[execOp,qab ((hk.at 0 rfl).trans rfl)];done) | (simp[execOp,qab ((hk.at 0 rfl).trans rfl)];rfl)) ⟨_,rfl,⟨World.grownBy.refl _ _,fun h=>h,fun h=>absurd h (by decide)⟩,rfl⟩)
    |5,hi=>cases hi;obtain⟨z4,hz4,rfl⟩:=hdep 4 rfl;have S:=HH_le hH (by decide);refine qggo rfl (qal (qak _ _ _ _ _ _ _ _ cf_bel (qab hz4) rfl (fun _=>rfl) _ _ _ _ _ _) ?_);refine (qah g ao n cap l 3 u S.1.cur hn (by omega) (by omega)).mono ?_;rintro e x' ⟨q,hq0,hq1,rfl,hc,hg⟩;exact⟨_,rfl,_,rfl,⟨hg,fun _=>hc,fun h=>absurd h (by decide)⟩,q,rfl,⟨hq0,by omega⟩⟩
    |6,hi=>cases hi;obtain⟨z3,hz3,⟨x4,rfl,hx4⟩⟩:=hdep 3 rfl;obtain⟨z5,hz5,⟨x5,rfl,hx5⟩⟩:=hdep 5 rfl;exact qggo rfl (z_build (vs:=#[(0,.string x4),(1,.int .i64 x5)]) _ rfl (by simp[qab hz3,qab hz5]) (bw x4 x5 u) ⟨_,rfl,⟨World.grownBy.refl _ _,fun h=>h,fun h=>absurd h (by decide)⟩,x4,x5,rfl,⟨hx4.1,hx4.2,hx5⟩⟩)
    |7,hi=>cases hi;obtain⟨z6,hz6,⟨x6,q6,rfl,hx6⟩⟩:=hdep 6 rfl;have S:=HH_le hH (by decide);exact qggo rfl (z_mk _ _ rfl (by simp[qab hz6]) (mkw1 x6 q6 u) ⟨_,rfl,⟨World.grownBy_alloc _ _ _,fun h=>h.alloc _,fun h=>absurd h (by decide)⟩,⟨_,(x6,q6),rfl,⟨S.2,hx6⟩,heap_alloc_new _ _⟩⟩)
    |8,hi=>
     cases hi;obtain⟨z1,hz1,rfl⟩:=hdep 1 rfl;obtain⟨z7,hz7,⟨blk,z,e1,e2,e3⟩⟩:=hdep 7 rfl;subst e1;have S:=HH_le hH (by decide);have hlen:p.wan.n≤64:=S.1.gd.wan;refine qggo rfl (z_wanapp _ _ rfl w.heap.size _ _ _ d.wan (qab hz1) S.1.own.wan ⟨blk,0,none⟩ [z] 1 1 rfl (qab hz7) ?_ (by omega) S.1.gro.size ?_)
     ·intro k v hv
      match k,hv with
      |0,hv=>
       have e4:v=.string z.1:=by simpa[wvals] using hv.symm
       rw[e4];exact (qbr e3 0).trans rfl
      |1,hv=>
       have e4:v=.int .i64 z.2:=by simpa[wvals] using hv.symm
       rw[e4];exact (qbr e3 1).trans rfl
     ·intro a' c' x' ho hg;exact⟨_,rfl,⟨hg,fun h=>h.keep hg (fun k e=>by have:=(qgv S.1.own.wan.2 k e).2.1;have:=S.1.lt;omega),fun _ k h=>(qgv S.1.own.wan.2 k h).1⟩,a',c',z,rfl,e2.2,ho⟩
    |9,hi=>cases hi;exact qggo rfl (z_fld (X:=⟨w.heap.size+1,0,none⟩) (Y:=⟨w.heap.size+1,22,none⟩) 28 _ 22 rfl (qevv hk 5 rfl rfl) (fun _=>by kernel_rfl) ⟨_,rfl,⟨World.grownBy.refl _ _,fun h=>h,fun h=>absurd h (by decide)⟩,rfl⟩)
    |(_+10),hi=>cases hi
   intro vs y9 hX_ hG a3_ h3;have X:=HH_N hX_ (by decide);obtain⟨a6,c6,x6,e6,hx6,O6⟩:=hG 8 (by decide);have e7:=hG 9 (by decide);replace e7:vs 9=.pointer (some ⟨w.heap.size+1,22,none⟩):=e7;clear hG hX_;replace h3:puts _ 2 _ (Fq164)=_:=h3;replace h3:puts _ 4 _ (Fq164)=_:=h3;replace h3:puts _ 6 _ (Fq164)=_:=h3;replace h3:puts _ 8 _ (Fq164)=_:=h3;replace h3:Fq164=_:=h3;unfold Fq164 at h3;subst h3;simp only[List.drop_succ_cons,List.drop_zero];simp only[e6,e7];clear e6 e7;have c22:=(X.blk.cell 22).trans (Pk.c22 _);have z22:=Lib.frozen_of_heap X.blk 22;have s2:=X.fin22 s.gd O6 (by omega) (grow_all s.gd.wans hx6.1);go_wp2;go_roundw
   case rel=>exact⟨j-1,_,_,by go_num,by show p.wan.n+1+(j-1)≤3;omega,s2,V.next hx6.2⟩
   case measure=>simp[intOf];omega
  ·as_aux_lemma=>
   have hlt':¬(0:Int)<j:=by omega
   go_wp2_with (first | refine qaj s.blk rfl _ rfl rfl ?_ | (refine qag (q:=p) (old:=Pk.zero) s.res rfl rfl ?_;intro w9 B9 g9) | fail)
   have D9:=s.done g9;have V9:(pv p d).ok=true:=by
    obtain rfl:k=8:=(by simpa using t8);have q1:=s.own.wan.1;exact V.fin hx0 hx1 (by omega) (by omega)
   first
   |exact qam rfl rfl B9 rfl ⟨p,d,V9,rfl,D9⟩
   |exact qam rfl rfl B9 rfl ⟨p,V9,rfl,d,D9⟩
   |exact qam rfl rfl B9 rfl ⟨p,d,rfl,D9⟩
   |exact qam rfl rfl B9 rfl ⟨p,rfl,d,D9⟩
   |exact qam rfl rfl B9 rfl ⟨p,rfl,⟨d,D9.1,D9.2.1⟩,D9.2.2⟩
   |(refine qam rfl rfl B9 rfl ?_;trace_state;exact⟨p,rfl,d,D9⟩)

theorem qon (g:Nat) (ao:Option Addr) (n cap:Nat) (l:List UInt8) (k:Int) (w:World) (hc:Cur w g ao n cap l) (hn:n≤1048576) (k1:1≤k) (k14:k≤14) :
  Calls Tryz.prog 109 #[.pointer (some ⟨g,0,none⟩),.int .i64 k] w fun e w'=>∃p d,(pv p d).ok=true∧e=.returned (.agg (Pk.cells p))∧POwn w' w.heap.size p d∧Pgd 64 p d∧Cur w' g ao n cap l∧w.grownBy w' (some g):=by
 by_cases h1:k=1
 ·subst h1;exact l5k_con g ao n cap l 1 w hc hn rfl rfl rfl rfl rfl rfl rfl rfl rfl rfl rfl
 by_cases h2:k=2
 ·subst h2;exact l5k_ack g ao n cap l 2 w hc hn rfl rfl rfl rfl rfl rfl rfl rfl rfl rfl rfl
 by_cases h3:k=3
 ·subst h3;exact l5k_pub g ao n cap l 3 w hc hn rfl rfl rfl rfl rfl rfl rfl rfl rfl rfl rfl
 by_cases h8:k=8
 ·subst h8;exact l5k_sub g ao n cap l 8 w hc hn rfl rfl rfl rfl rfl rfl rfl rfl rfl rfl rfl
 by_cases h9:k=9
 ·subst h9;exact l5k_sack g ao n cap l 9 w hc hn rfl rfl rfl rfl rfl rfl rfl rfl rfl rfl rfl
 by_cases h10:k=10
 ·subst h10;exact l5k_uns g ao n cap l 10 w hc hn rfl rfl rfl rfl rfl rfl rfl rfl rfl rfl rfl
 by_cases h4:k=4
 ·subst h4;exact l5k_id4 g ao n cap l 4 w hc hn rfl rfl rfl rfl rfl rfl rfl rfl rfl rfl rfl
 by_cases h5:k=5
 ·subst h5;exact l5k_id5 g ao n cap l 5 w hc hn rfl rfl rfl rfl rfl rfl rfl rfl rfl rfl rfl
 by_cases h6:k=6
 ·subst h6;exact l5k_id6 g ao n cap l 6 w hc hn rfl rfl rfl rfl rfl rfl rfl rfl rfl rfl rfl
 by_cases h7:k=7
 ·subst h7;exact l5k_id7 g ao n cap l 7 w hc hn rfl rfl rfl rfl rfl rfl rfl rfl rfl rfl rfl
 by_cases h11:k=11
 ·subst h11;exact l5k_id11 g ao n cap l 11 w hc hn rfl rfl rfl rfl rfl rfl rfl rfl rfl rfl rfl
 exact l5k_no g ao n cap l k w hc hn (by simpa using h1) (by simpa using h2) (by simpa using h3) (by simpa using h8) (by simpa using h9) (by simpa using h10) (by simpa using h4) (by simpa using h5) (by simpa using h6) (by simpa using h7) (by simpa using h11) (by omega)

theorem POwn.mono {w:World} {B B':Nat} {p:Pk} {d:Pd} (h:POwn w B p d) (hB:B'≤B):POwn w B' p d :=
 ⟨⟨h.bod.1,qbc h.bod.2 hB⟩,⟨h.wb.1,qbc h.wb.2 hB⟩,⟨h.pa.1,qbc h.pa.2 hB⟩,⟨h.wan.1,qbc h.wan.2 hB⟩,⟨h.nam.1,qbc h.nam.2 hB⟩,⟨h.cds.1,qbc h.cds.2 hB⟩,h.dis⟩

theorem hd_two {v:Pv} (h:v.ok=true):2≤v.hd:=by
 have h340:=qlt h;have hlf:lenB v.rest.length=lenF 3 v.rest.length:=qlf (by omega);have:1≤(lenF 3 v.rest.length).length:=by
  rcases qhp v.rest.length (by omega) with ⟨_,e⟩ | ⟨_,_,e⟩ | ⟨_,_,e⟩ | ⟨_,e⟩<;>rw[e]<;>simp
 unfold Pv.hd;rw[hlf];omega

