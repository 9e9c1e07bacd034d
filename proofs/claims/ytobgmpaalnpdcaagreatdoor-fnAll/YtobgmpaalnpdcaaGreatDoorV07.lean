/- Lemmas. -/
import Derived.Test.YtobgmpaalnpdcaaGreatDoorV06
set_option linter.unusedVariables false
set_option linter.unusedSimpArgs false
set_option maxRecDepth 100000
set_option maxHeartbeats 20000000
namespace Go.Proofs.YtobgmpaalnpdcaaGreatDoor
open Go.RowKit

theorem qlv (p q:Pk) (w:World) :
  Calls Tryz.prog 74 #[.agg p.cells,.agg q.cells] w fun e w'=>e=.returned (.bool (p.ty==q.ty&&p.qos==q.qos&&p.id==q.id&&p.lev==q.lev&&p.kee==q.kee&&p.wq==q.wq&&p.cod==q.cod))∧Below w.heap.size w w':=by
 have a0:=p.c0;have b0:=q.c0;have a2:=p.c2;have b2:=q.c2;have a4:=p.c4;have b4:=q.c4;have a8:=p.c8;have b8:=q.c8;have a10:=p.c10;have b10:=q.c10;have a14:=p.c14;have b14:=q.c14;have a20:=p.c20;have b20:=q.c20;generalize p.cells=cs at *;generalize q.cells=ds at *;have hb:Below w.heap.size w ((w.alloc (.cells cs 28)).alloc (.cells ds 28)):=((Below.refl _ _).alloc (Nat.le_refl _) _).alloc (by simp) _;go_enter Tryz.func74,Tryz.ntmps74;go_wp2
 all_goals
  go_ret;exact⟨qaa (by simp[*]),hb⟩

theorem qoy (p q:Pk) (w:World) :
  Calls Tryz.prog 75 #[.agg p.cells,.agg q.cells] w fun e w'=>e=.returned (.bool (p.dup==q.dup&&p.ret==q.ret&&p.cln==q.cln&&p.hw==q.hw&&p.wr==q.wr&&p.hu==q.hu&&p.hp==q.hp&&p.pre==q.pre))∧Below w.heap.size w w':=by
 have a1:=p.c1;have b1:=q.c1;have a3:=p.c3;have b3:=q.c3;have a9:=p.c9;have b9:=q.c9;have a11:=p.c11;have b11:=q.c11;have a15:=p.c15;have b15:=q.c15;have a16:=p.c16;have b16:=q.c16;have a18:=p.c18;have b18:=q.c18;have a21:=p.c21;have b21:=q.c21;generalize p.cells=cs at *;generalize q.cells=ds at *;have hb:Below w.heap.size w ((w.alloc (.cells cs 28)).alloc (.cells ds 28)):=((Below.refl _ _).alloc (Nat.le_refl _) _).alloc (by simp) _;go_enter Tryz.func75,Tryz.ntmps75;go_wp2
 all_goals
  go_ret;exact⟨qaa (by simp[*]),hb⟩

theorem qpa (p q:Pk) (w:World) :
  Calls Tryz.prog 76 #[.agg p.cells,.agg q.cells] w fun e w'=>e=.returned (.bool (decide (p.top=q.top)&&decide (p.cli=q.cli)&&decide (p.wt=q.wt)&&decide (p.us=q.us)))∧Below w.heap.size w w':=by
 have a5:=p.c5;have b5:=q.c5;have a7:=p.c7;have b7:=q.c7;have a12:=p.c12;have b12:=q.c12;have a17:=p.c17;have b17:=q.c17;generalize p.cells=cs at *;generalize q.cells=ds at *;have hb:Below w.heap.size w ((w.alloc (.cells cs 28)).alloc (.cells ds 28)):=((Below.refl _ _).alloc (Nat.le_refl _) _).alloc (by simp) _;have s5:=qgj p.top q.top;have s7:=qgj p.cli q.cli;have s12:=qgj p.wt q.wt;have s17:=qgj p.us q.us;go_enter Tryz.func76,Tryz.ntmps76;go_wp2
 all_goals
  go_ret;exact⟨qaa (by simp[*]),hb⟩

theorem qoz (p q:Pk) (d d':Pd) (w:World) (hp:PRd w p d) (hq:PRd w q d') :
  Calls Tryz.prog 77 #[.agg p.cells,.agg q.cells] w fun e w'=>e=.returned (.bool (decide (d.bod=d'.bod)&&decide (d.wb=d'.wb)&&decide (d.pa=d'.pa)&&decide (d.wan=d'.wan)&&decide (d.nam=d'.nam)&&decide (d.cds=d'.cds)))∧Below w.heap.size w w':=by
 have a6:=p.c6;have b6:=q.c6;have a13:=p.c13;have b13:=q.c13;have a19:=p.c19;have b19:=q.c19;have a22:=p.c22;have b22:=q.c22;have a23:=p.c23;have b23:=q.c23;have a24:=p.c24;have b24:=q.c24;generalize p.cells=cs at *;generalize q.cells=ds at *;have hb:Below w.heap.size w ((w.alloc (.cells cs 28)).alloc (.cells ds 28)):=((Below.refl _ _).alloc (Nat.le_refl _) _).alloc (by simp) _;have r:=hp.below hb;have r':=hq.below hb;go_enter Tryz.func77,Tryz.ntmps77;go_wp2_with fail
 refine (qjq _ _ _ _ _ _ d.bod d'.bod _ (r).1 (r').1).mono ?_;rintro e y0 ⟨rfl,m0,rfl⟩
 by_cases h0:d.bod=d'.bod
 rotate_left
 ·have g0:decide (d.bod=d'.bod)=false:=decide_eq_false h0;simp only[g0];go_wp2;go_ret;exact⟨qaa (by simp[g0]),below_drewN hb _⟩
 have g0:decide (d.bod=d'.bod)=true:=decide_eq_true h0;simp only[g0];clear h0;go_wp2_with fail
 refine (qjq _ _ _ _ _ _ d.wb d'.wb _ (r.drewN _).2.1 (r'.drewN _).2.1).mono ?_;rintro e y1 ⟨rfl,m1,rfl⟩;simp only[World.drewN_drewN]
 by_cases h1:d.wb=d'.wb
 rotate_left
 ·have g1:decide (d.wb=d'.wb)=false:=decide_eq_false h1;simp only[g1];go_wp2;go_ret;exact⟨qaa (by simp[g1]),below_drewN hb _⟩
 have g1:decide (d.wb=d'.wb)=true:=decide_eq_true h1;simp only[g1];clear h1;go_wp2_with fail
 refine (qjq _ _ _ _ _ _ d.pa d'.pa _ (r.drewN _).2.2.1 (r'.drewN _).2.2.1).mono ?_;rintro e y2 ⟨rfl,m2,rfl⟩;simp only[World.drewN_drewN]
 by_cases h2:d.pa=d'.pa
 rotate_left
 ·have g2:decide (d.pa=d'.pa)=false:=decide_eq_false h2;simp only[g2];go_wp2;go_ret;exact⟨qaa (by simp[g2]),below_drewN hb _⟩
 have g2:decide (d.pa=d'.pa)=true:=decide_eq_true h2;simp only[g2];clear h2;go_wp2_with fail
 refine (qtm _ _ _ _ _ _ d.wan d'.wan _ (r.drewN _).2.2.2.1 (r'.drewN _).2.2.2.1).mono ?_;rintro e y3 ⟨rfl,m3,rfl⟩;simp only[World.drewN_drewN]
 by_cases h3:d.wan=d'.wan
 rotate_left
 ·have g3:decide (d.wan=d'.wan)=false:=decide_eq_false h3;simp only[g3];go_wp2;go_ret;exact⟨qaa (by simp[g3]),below_drewN hb _⟩
 have g3:decide (d.wan=d'.wan)=true:=decide_eq_true h3;simp only[g3];clear h3;go_wp2_with fail
 refine (equal_strs _ _ _ _ _ _ d.nam d'.nam _ (r.drewN _).2.2.2.2.1 (r'.drewN _).2.2.2.2.1).mono ?_;rintro e y4 ⟨rfl,m4,rfl⟩;simp only[World.drewN_drewN]
 by_cases h4:d.nam=d'.nam
 rotate_left
 ·have g4:decide (d.nam=d'.nam)=false:=decide_eq_false h4;simp only[g4];go_wp2;go_ret;exact⟨qaa (by simp[g4]),below_drewN hb _⟩
 have g4:decide (d.nam=d'.nam)=true:=decide_eq_true h4;simp only[g4];clear h4;go_wp2_with fail
 refine (equal_ints _ _ _ _ _ _ d.cds d'.cds _ (r.drewN _).2.2.2.2.2 (r'.drewN _).2.2.2.2.2).mono ?_;rintro e y5 ⟨rfl,m5,rfl⟩;simp only[World.drewN_drewN];go_wp2;go_ret;exact⟨qaa (by simp[g0,g1,g2,g3,g4]),below_drewN hb _⟩

theorem load_g {P:Program} {ops:Array Oper} {rest:List Oper} {o:Oper} {a:Act} {w:World} {Q:Exit→Act→World→Prop} (hw:Region.wanted o (yielded ops a.tmps)=true) (ty:TypeId) (x:Operand) (ho:o.op=.load ty x)
  (g:Nat) (hx:a.eval x=.pointer (some ⟨g,0,none⟩)) (t:TypeId) (cs:Array Value) (fr:Nat×Nat) (d:TypeDesc) (hg:w.heap[g]? = some (.cells cs t fr))
  (hu:P.underlying ty=some d) (hd:(match d with | .struct _ | .array _ _=>true | _=>false)=true) (hi:(P.info? ty).map (·.size)=some cs.size)
  (h:wpList P ops Q rest (a.put o.dst (.agg cs)) w):wpList P ops Q (o :: rest) a w:=by
 unfold wpList;rw[if_pos hw];exact Or.inl (wp_load_row ty x ho g hx t cs fr d hg hu hd hi h)
theorem load_pk {ops:Array Oper} {rest:List Oper} {o:Oper} {a:Act} {w:World} {Q:Exit→Act→World→Prop} {g:Nat} {p:Pk} (hB:Blk w g p) (hw:Region.wanted o (yielded ops a.tmps)=true) (x:Operand) (ho:o.op=.load 28 x)
  (hx:a.eval x=.pointer (some ⟨g,0,none⟩))
  (h:wpList Tryz.prog ops Q rest (a.put o.dst (.agg p.cells)) w):wpList Tryz.prog ops Q (o :: rest) a w :=
 load_g hw 28 x ho g hx 28 p.cells (0,0) _ hB Tryz.underlying28 rfl (infoP.trans (by rw[Pk.csize])) h
theorem same_iSamePacket (p q:Pk) (d d':Pd) (w:World) (hp:PRd w p d) (hq:PRd w q d') :
  Calls Tryz.prog 18 #[.agg p.cells,.agg q.cells] w fun e w'=>e=.returned (.bool (decide (pv p d=pv q d')))∧Below w.heap.size w w':=by
 have hb:Below w.heap.size w ((w.alloc (.cells p.cells 28)).alloc (.cells q.cells 28)):=((Below.refl _ _).alloc (Nat.le_refl _) _).alloc (by simp) _;have A:Blk ((w.alloc (.cells p.cells 28)).alloc (.cells q.cells 28)) w.heap.size p:=heap_alloc2_old _ _ _;have B:Blk ((w.alloc (.cells p.cells 28)).alloc (.cells q.cells 28)) (w.heap.size+1) q:=heap_alloc2_new _ _ _;have r:=hp.below hb;have r':=hq.below hb;go_enter Tryz.func18,Tryz.ntmps18;go_wp2_with (first | refine load_pk A rfl _ rfl rfl ?_ | refine load_pk B rfl _ rfl rfl ?_ | fail)
 refine (qlv p q _).mono ?_;rintro e y0 ⟨rfl,b0⟩;replace hb:=hb.trans (b0.mono hb.size);replace B:=B.below b0 B.lt;replace A:=A.below b0 A.lt;replace r:=r.below b0;replace r':=r'.below b0;clear b0;generalize H0:(_&&_)=x0;cases x0
 ·go_wp2;go_ret;refine⟨qaa (decide_eq_false fun e=>?_).symm,hb⟩;rw[pv_eq] at e;obtain⟨e1,e2,e3,e4,e5,e6,e7,e8,e9,e10,e11,e12,e13,e14,e15,e16,e17,e18,e19,e20,e21,e22,e23,e24,e25⟩:=e;simp[*] at H0
 replace H0:Hid (_=true):=H0;go_wp2_with (first | refine load_pk A rfl _ rfl rfl ?_ | refine load_pk B rfl _ rfl rfl ?_ | fail)
 refine (qoy p q _).mono ?_;rintro e y1 ⟨rfl,b1⟩;replace hb:=hb.trans (b1.mono hb.size);replace B:=B.below b1 B.lt;replace A:=A.below b1 A.lt;replace r:=r.below b1;replace r':=r'.below b1;clear b1;generalize H1:(_&&_)=x1;cases x1
 ·go_wp2;go_ret;refine⟨qaa (decide_eq_false fun e=>?_).symm,hb⟩;rw[pv_eq] at e;obtain⟨e1,e2,e3,e4,e5,e6,e7,e8,e9,e10,e11,e12,e13,e14,e15,e16,e17,e18,e19,e20,e21,e22,e23,e24,e25⟩:=e;simp[*] at H1
 replace H1:Hid (_=true):=H1;go_wp2_with (first | refine load_pk A rfl _ rfl rfl ?_ | refine load_pk B rfl _ rfl rfl ?_ | fail)
 refine (qpa p q _).mono ?_;rintro e y2 ⟨rfl,b2⟩;replace hb:=hb.trans (b2.mono hb.size);replace B:=B.below b2 B.lt;replace A:=A.below b2 A.lt;replace r:=r.below b2;replace r':=r'.below b2;clear b2;generalize H2:(_&&_)=x2;cases x2
 ·go_wp2;go_ret;refine⟨qaa (decide_eq_false fun e=>?_).symm,hb⟩;rw[pv_eq] at e;obtain⟨e1,e2,e3,e4,e5,e6,e7,e8,e9,e10,e11,e12,e13,e14,e15,e16,e17,e18,e19,e20,e21,e22,e23,e24,e25⟩:=e;simp[*] at H2
 replace H2:Hid (_=true):=H2;go_wp2_with (first | refine load_pk A rfl _ rfl rfl ?_ | refine load_pk B rfl _ rfl rfl ?_ | fail)
 refine (qoz p q d d' _ r r').mono ?_;rintro e y3 ⟨rfl,b3⟩;replace hb:=hb.trans (b3.mono hb.size);replace B:=B.below b3 B.lt;replace A:=A.below b3 A.lt;go_wp2;go_ret;refine⟨qaa ?_,hb⟩;have h0:=H0.out;have h1:=H1.out;have h2:=H2.out;simp only[Bool.and_eq_true,beq_iff_eq,decide_eq_true_eq] at h0 h1 h2;rw[Bool.eq_iff_iff];simp only[Bool.and_eq_true,decide_eq_true_eq];rw[pv_eq];constructor
 ·intro h;simp only[h0,h1,h2,h,and_self]
 ·intro h;simp only[h,and_self]


def moreB (n:Nat):UInt8:=UInt8.ofNat (n%128+128)
theorem qgz (n:Nat):(moreB n).toNat=n%128+128:=by
 simp[moreB];omega
def lenF:Nat→Nat→List UInt8
 |0,n=>[UInt8.ofNat n]
 |f+1,n=>if n<128 then [UInt8.ofNat n] else moreB n :: lenF f (n / 128)

def lenB (n:Int):List UInt8:=if 0≤n∧n≤268435455 then lenF 3 n.toNat else []

theorem qdk (f n:Nat) (h:n<128):lenF f n = [UInt8.ofNat n]:=by
 cases f with
 |zero=>rfl
 |succ f=>simp[lenF,h]
theorem qgw (f n:Nat) (h:¬n<128):lenF (f+1) n=moreB n :: lenF f (n / 128):=by simp[lenF,h]
theorem lenF_len (f n:Nat):1≤(lenF f n).length∧(lenF f n).length≤f+1:=by
 induction f generalizing n with
 |zero=>simp[lenF]
 |succ f ih=>
  by_cases h:n<128
  ·rw[qdk _ _ h];simp
  ·rw[qgw _ _ h];have:=ih (n / 128);simp;omega
theorem qtv {n:Int} (h:n<0∨268435455<n):lenB n = []:=by
 unfold lenB;rw[if_neg (by omega)]
theorem qkf {k:Nat} (h:k≤268435455):lenB (k:Int)=lenF 3 k:=by
 unfold lenB;rw[if_pos (by omega)];simp
theorem qlk (n:Int):(lenB n).length≤4:=by
 unfold lenB
 split
 ·exact (lenF_len 3 _).2
 ·simp

theorem or128 (x:Nat):bits .or .u8 ((x:Int)%256) 128=((x%128+128:Nat):Int):=by
 have h:∀y:Fin 256,bits .or .u8 (y.val:Int) 128=((y.val%128+128:Nat):Int):=by decide +kernel
 have:=h ⟨x%256,Nat.mod_lt _ (by omega)⟩;simp only at this;rw[show ((x%256:Nat):Int)=(x:Int)%256 from by omega] at this;rw[this];omega
theorem not128 (x:Nat) (hx:x<256):bits .andNot .u8 (x:Int) 128=((x%128:Nat):Int):=by
 have h:∀y:Fin 256,bits .andNot .u8 (y.val:Int) 128=((y.val%128:Nat):Int):=by decide +kernel
 exact h ⟨x,hx⟩
theorem qly (x:Nat) (hx:x<256):bits .and .u8 (x:Int) 128=if x<128 then 0 else 128:=by
 have h:∀y:Fin 256,bits .and .u8 (y.val:Int) 128=if y.val<128 then 0 else 128:=by decide +kernel
 exact h ⟨x,hx⟩
theorem and127 (x:Nat) (hx:x<256):bits .and .i64 (x:Int) 127=((x%128:Nat):Int):=by
 have h:∀y:Fin 256,bits .and .i64 (y.val:Int) 127=((y.val%128:Nat):Int):=by decide +kernel
 exact h ⟨x,hx⟩

theorem quf (w:World) (k:Nat) (V:Int) (hV:V=((k%256:Nat):Int)):RdIn (w.alloc (.cells #[.int .u8 V] 5)) (some ⟨w.heap.size,0,none⟩) 1 1 [UInt8.ofNat k]:=by
 subst hV;refine⟨⟨rfl,fun i hi=>⟨_,_,rfl,?_⟩⟩,Nat.le_refl _,by unfold maxLen;omega,fun h=>by simp at h⟩;obtain rfl:i=0:=by omega
 have e:((bt [UInt8.ofNat k] 0:Nat):Int)=((k%256:Nat):Int):=by
  show (((UInt8.ofNat k).toNat:Nat):Int)=_;simp
 rw[e];simp

theorem rd_more (w:World) (k:Nat) (V:Int) (hV:V=((k%128+128:Nat):Int)):RdIn (w.alloc (.cells #[.int .u8 V] 5)) (some ⟨w.heap.size,0,none⟩) 1 1 [moreB k] :=
 quf w (k%128+128) V (by omega)

theorem qrb (w:World) (B:Nat):Own w B none 0 0 []:=⟨rfl,rfl,.inl ⟨rfl,rfl⟩⟩

theorem qqu (N:Nat) (x:Int) (w:World) (hN:(lenB x).length=N) :
  Calls Tryz.prog 115 #[.int .i64 x] w fun e w'=>∃ao cap,e=.returned (.slice ao N cap)∧Own w' w.heap.size ao N cap (lenB x)∧Below w.heap.size w w':=by
 by_cases h0:x<0
 ·have HL:Hid (lenB x = []):=qtv (.inl h0);rw[HL.out] at hN;subst hN;go_enter Tryz.func115,Tryz.ntmps115;go_wp2;go_ret;exact⟨none,0,rfl,by rw[HL.out];exact qrb _ _,Below.refl _ _⟩
 by_cases h1:268435455<x
 ·have HL:Hid (lenB x = []):=qtv (.inr h1);rw[HL.out] at hN;subst hN;go_enter Tryz.func115,Tryz.ntmps115;go_wp2;go_ret;exact⟨none,0,rfl,by rw[HL.out];exact qrb _ _,Below.refl _ _⟩
 obtain⟨k,rfl⟩:=Int.eq_ofNat_of_zero_le (show 0≤x by omega);have hk:k≤268435455:=by omega
 have HB:Hid (lenB (k:Int)=lenF 3 k):=qkf hk;have HN:Hid ((lenF 3 k).length=N):=by rw[←HB.out];exact hN
 clear hN;go_enter Tryz.func115,Tryz.ntmps115;go_wp2
 go_loopw [0,3] (fun n v wr=>∃(m f j:Nat) (a:Option Addr) (c:Nat) (acc:List UInt8),n=.int .i64 m∧v=.slice a j c∧j+f=3∧m<128 ^ (f+1)∧acc++lenF f m=lenF 3 k∧Own wr w.heap.size a j c acc∧Below w.heap.size w wr) (fun n _ _=>(intOf n).toNat)
 case atStart=>exact⟨k,3,0,none,0,[],rfl,rfl,rfl,by omega,rfl,qrb _ _,Below.refl _ _⟩
 case round=>
  obtain⟨m,f,j,a,c,acc,rfl,rfl,hj,hm,hacc,ho,hb⟩:=hrel;have HA:Hid (acc++lenF f m=lenF 3 k):=hacc;have HM:Hid (m<128 ^ (f+1)):=hm;have hm4:m<268435456:=Nat.lt_of_lt_of_le hm (Nat.pow_le_pow_right (show 0<128 by omega) (show f+1≤4 by omega));clear hacc hm
  by_cases hlt:m<128
  ·have h':¬(128:Int)≤m:=by omega
   have HF:Hid (lenF f m = [UInt8.ofNat m]):=qdk f m hlt;go_wp2_with (at_builtin;refine w_app _ rfl _ _ rfl w.heap.size _ _ _ acc rfl (ho.alloc _) _ _ _ [UInt8.ofNat m] rfl (quf wr m _ (by omega)) (by omega) (by have:=hb.size;simp;omega) ?_)
   intro a2 c2 w2 ho2 hg2;have hb2:=below_grow (hb.alloc hb.size _) (by have:=hb.size;simp;omega) (ho.alloc _) hg2;rw[←HF.out,HA.out] at ho2;obtain rfl:j+1=N:=ho2.1.symm.trans HN.out;go_wp2;go_ret;exact⟨a2,c2,rfl,by rw[HB.out];exact ho2,hb2⟩
  ·have h':(128:Int)≤m:=by omega
   have hor:=or128 m;cases f with
   |zero=>have:=HM.out;omega
   |succ f=>
    have HF:Hid (lenF (f+1) m=moreB m :: lenF f (m / 128)):=qgw f m hlt;have HD:Hid (m / 128<128 ^ (f+1)):=Nat.div_lt_of_lt_mul (by have:=HM.out;rw[Nat.pow_succ] at this;omega);go_wp2_with (at_builtin;refine w_app _ rfl _ _ rfl w.heap.size _ _ _ acc rfl (ho.alloc _) _ _ _ [moreB m] rfl (rd_more wr m _ (by omega)) (by omega) (by have:=hb.size;simp;omega) ?_)
    intro a2 c2 w2 ho2 hg2;have hb2:=below_grow (hb.alloc hb.size _) (by have:=hb.size;simp;omega) (ho.alloc _) hg2;clear hg2 ho hb;go_wp2;go_roundw
    case rel=>
     refine⟨m / 128,f,j+1,a2,c2,_,by go_num,rfl,by omega,HD.out,?_,ho2,hb2⟩;rw[←HA.out,HF.out,List.append_assoc];rfl
    case measure=>simp[intOf];omega

theorem qca (ao:Option Addr) (n cap:Nat) (l:List UInt8) (ax:Option Addr) (m c:Nat) (x:List UInt8) (w:World) (hr:RdIn w ao n cap l) (hx:RdIn w ax m c x) (hn:n≤1099511627000) (hm:m≤1099511627000) :
  Calls Tryz.prog 66 #[.slice ao n cap,.slice ax m c] w fun e w'=>∃ao' cap',e=.returned (.slice ao' (n+m) cap')∧Own w' w.heap.size ao' (n+m) cap' (l++x)∧Below w.heap.size w w':=by
 go_enter Tryz.func66,Tryz.ntmps66;go_wp2_with fail
 refine (qbk _ _ _ m l _ hr (by omega) (by omega)).mono ?_;rintro e w1 ⟨a1,c1,rfl,ho1,hb1⟩;go_wp2_with (at_builtin;refine w_app _ rfl _ _ rfl w.heap.size _ _ _ l rfl ho1 _ _ _ x rfl (hx.below hb1) (by omega) hb1.size ?_)
 intro a2 c2 w2 ho2 hg2;go_wp2;go_ret;exact⟨a2,c2,rfl,ho2,below_grow hb1 hb1.size ho1 hg2⟩

theorem qub (N:Nat) (ao:Option Addr) (n cap:Nat) (x:Int) (l:List UInt8) (w:World) (hN:(lenB x).length=N) (hr:RdIn w ao n cap l) (hn:n≤1099511627000) :
  Calls Tryz.prog 64 #[.slice ao n cap,.int .i64 x] w fun e w'=>∃ao' cap',e=.returned (.slice ao' (n+N) cap')∧Own w' w.heap.size ao' (n+N) cap' (l++lenB x)∧Below w.heap.size w w':=by
 have hle:=qlk x;rw[hN] at hle;go_enter Tryz.func64,Tryz.ntmps64;go_wp2_with fail
 refine (qqu N x _ hN).mono ?_;rintro e w1 ⟨a1,c1,rfl,ho1,hb1⟩;go_wp2_with fail
 refine (qca _ _ _ l _ _ _ (lenB x) _ (hr.below hb1) ho1.rd hn (by omega)).mono ?_;rintro e w2 ⟨a2,c2,rfl,ho2,hb2⟩;go_wp2;go_ret;exact⟨a2,c2,rfl,ho2.mono hb1.size,qcg hb1 hb2⟩

theorem qoq (N:Nat) (ao:Option Addr) (n cap:Nat) (x:Int) (l:List UInt8) (w:World) (hN:(lenB x).length=N) (hr:RdIn w ao n cap l) (hn:n≤1099511627000) :
  Calls Tryz.prog 134 #[.slice ao n cap,.int .i64 x] w fun e w'=>∃ao' cap',e=.returned (.slice ao' (n+N) cap')∧Own w' w.heap.size ao' (n+N) cap' (l++lenB x)∧Below w.heap.size w w':=by
 by_cases hin:0≤x∧x≤268435455
 ·obtain⟨k,rfl⟩:=Int.eq_ofNat_of_zero_le hin.1;have hk:k≤268435455:=by omega
  have HB:Hid (lenB (k:Int)=lenF 3 k):=qkf hk;have HN:Hid ((lenF 3 k).length=N):=by rw[←HB.out];exact hN
  have hI:decide ((0:Int)≤(k:Int)∧(k:Int)≤268435455)=true:=decide_eq_true ⟨by omega,by omega⟩;have HL:Hid (l.length=n):=hr.1.1;clear hN hin;go_enter Tryz.func134,Tryz.ntmps134;go_wp2_with (at_builtin;refine w_app _ rfl _ _ rfl w.heap.size _ 0 _ [] rfl (own_lit0 w) _ _ _ l rfl (hr.alloc _) (by omega) (by simp) ?_)
  intro a1 c1 w1 ho1 hg1;have hb1:Below w.heap.size w w1:=below_grow ((Below.refl _ _).alloc (Nat.le_refl _) _) (by simp) (own_lit0 w) hg1;clear hg1;go_wp2_with fail
  refine (qan _ _ _ true _ hI).mono ?_;rintro e w2 ⟨rfl,rfl⟩;go_wp2
  go_loopw [1,5] (fun q v wr=>∃(m f j:Nat) (a:Option Addr) (c:Nat) (acc:List UInt8),q=.int .i64 m∧v=.slice a (n+j) c∧j+f=3∧m<128 ^ (f+1)∧acc++lenF f m=lenF 3 k∧Own wr w.heap.size a (n+j) c (l++acc)∧Below w.heap.size w wr) (fun q _ _=>(intOf q).toNat)
  case atStart=>exact⟨k,3,0,a1,c1,[],rfl,by simp,rfl,by omega,rfl,by simpa using ho1,hb1⟩
  case round=>
   obtain⟨m,f,j,a,c,acc,rfl,rfl,hj,hm,hacc,ho,hb⟩:=hrel;have HA:Hid (acc++lenF f m=lenF 3 k):=hacc;have HM:Hid (m<128 ^ (f+1)):=hm;have hm4:m<268435456:=Nat.lt_of_lt_of_le hm (Nat.pow_le_pow_right (show 0<128 by omega) (show f+1≤4 by omega));clear hacc hm
   by_cases hlt:m<128
   ·have h':¬(127:Int)<m:=by omega
    have HF:Hid (lenF f m = [UInt8.ofNat m]):=qdk f m hlt;go_wp2_with (at_builtin;refine w_app _ rfl _ _ rfl w.heap.size _ _ _ (l++acc) rfl (ho.alloc _) _ _ _ [UInt8.ofNat m] rfl (quf wr m _ (by omega)) (by omega) (by have:=hb.size;simp;omega) ?_)
    intro a2 c2 w2 ho2 hg2;have hb2:=below_grow (hb.alloc hb.size _) (by have:=hb.size;simp;omega) (ho.alloc _) hg2;rw[←HF.out,HA.out] at ho2;obtain rfl:j+1=N:=by
     have h1:=ho2.1;have h2:=HN.out;have h3:=HL.out;rw[List.length_append] at h1;omega
    go_wp2;go_ret;exact⟨a2,c2,rfl,by rw[HB.out];exact ho2,hb2⟩
   ·have h':(127:Int)<m:=by omega
    cases f with
    |zero=>have:=HM.out;omega
    |succ f=>
     have HF:Hid (lenF (f+1) m=moreB m :: lenF f (m / 128)):=qgw f m hlt;have HD:Hid (m / 128<128 ^ (f+1)):=Nat.div_lt_of_lt_mul (by have:=HM.out;rw[Nat.pow_succ] at this;omega);go_wp2_with (at_builtin;refine w_app _ rfl _ _ rfl w.heap.size _ _ _ (l++acc) rfl (ho.alloc _) _ _ _ [moreB m] rfl (rd_more wr m _ (by omega)) (by omega) (by have:=hb.size;simp;omega) ?_)
     intro a2 c2 w2 ho2 hg2;have hb2:=below_grow (hb.alloc hb.size _) (by have:=hb.size;simp;omega) (ho.alloc _) hg2;clear hg2 ho hb;go_wp2;go_roundw
     case rel=>
      refine⟨m / 128,f,j+1,a2,c2,_,by go_num,rfl,by omega,HD.out,?_,ho2,hb2⟩;rw[←HA.out,HF.out,List.append_assoc];rfl
     case measure=>simp[intOf];omega
 ·have HB:Hid (lenB x = []):=qtv (by omega);rw[HB.out] at hN;subst hN;have hI:decide ((0:Int)≤x∧x≤268435455)=false:=decide_eq_false hin;go_enter Tryz.func134,Tryz.ntmps134;go_wp2_with (at_builtin;refine w_app _ rfl _ _ rfl w.heap.size _ 0 _ [] rfl (own_lit0 w) _ _ _ l rfl (hr.alloc _) (by omega) (by simp) ?_)
  intro a1 c1 w1 ho1 hg1;have hb1:Below w.heap.size w w1:=below_grow ((Below.refl _ _).alloc (Nat.le_refl _) _) (by simp) (own_lit0 w) hg1;clear hg1;go_wp2_with fail
  refine (qan _ _ _ false _ hI).mono ?_;rintro e w2 ⟨rfl,rfl⟩;go_wp2;go_ret;exact⟨a1,c1,by simp,by rw[HB.out];simpa using ho1,hb1⟩


theorem exec_call1 (P:Program) (u:World) (ρ:Operand→Value) (v:Value) (x:Operand) (f:FuncId) (hf:∀(xs:Array Value) (u:World),(callFunc f xs).run P u=.ok (.enter f xs) u) (hx:ρ x=v) (hr:∀g,ρ (.func g)=.func (.func g) #[] #[]) (d:Option Tmp) (t:TypeId) (p:String) (e:Array Edge) (g:Option (Nat×Bool)) (ts:Array TypeId) :
  (execOp ρ ⟨d,.call { callee:=.value (.func f),args:=#[x],argTypes:=ts },t,p,e,g⟩).run P u=.ok (.enter f #[v]) u:=by
 simp[execOp,hx,hr,resolve,invoke,go_sem,hf]
theorem exec_call2 (P:Program) (u:World) (ρ:Operand→Value) (v v':Value) (x y:Operand) (f:FuncId) (hf:∀(xs:Array Value) (u:World),(callFunc f xs).run P u=.ok (.enter f xs) u) (hx:ρ x=v) (hy:ρ y=v') (hr:∀g,ρ (.func g)=.func (.func g) #[] #[]) (d:Option Tmp) (t:TypeId) (p:String) (e:Array Edge) (g:Option (Nat×Bool)) (ts:Array TypeId) :
  (execOp ρ ⟨d,.call { callee:=.value (.func f),args:=#[x,y],argTypes:=ts },t,p,e,g⟩).run P u=.ok (.enter f #[v,v']) u:=by
 simp[execOp,hx,hy,hr,resolve,invoke,go_sem,hf]
section
variable {P : Program} {o : Oper} {a : Act} {w : World} {K : Act → World → Prop} {Q : Exit → Act → World → Prop}
theorem qab {v:Value} {w':World} (hx:(execOp a.eval o).run P w=.ok (.value v) w') (h:K (a.put o.dst v) w'):Oper.wp P o a w K Q:=by
 unfold Oper.wp;rw[hx];exact h
theorem st_call {f:FuncId} {args:Array Value} (hx:(execOp a.eval o).run P w=.ok (.enter f args) w) (h:Calls P f args w fun e w'=>∃v,e=.returned v∧K (a.put o.dst v) w'):Oper.wp P o a w K Q:=by
 unfold Oper.wp;rw[hx];refine Calls.mono h ?_;rintro e w' ⟨v,rfl,hh⟩;exact hh
end

theorem Blk.next {w w':World} {b:Nat} {p:Pk} (h:Blk w b p) (hb:Below w.heap.size w w'):Blk w' b p:=h.below hb h.lt
theorem st_loadP {o:Oper} {a:Act} {w:World} {K:Act→World→Prop} {Q:Exit→Act→World→Prop} {g:Nat} {p:Pk} (hB:Blk w g p) (x:Operand) (ho:o.op=.load 28 x)
  (hx:a.eval x=.pointer (some ⟨g,0,none⟩)) (h:K (a.put o.dst (.agg p.cells)) w):Oper.wp Tryz.prog o a w K Q :=
 wp_load_row 28 x ho g hx 28 p.cells (0,0) _ hB Tryz.underlying28 rfl (infoP.trans (by rw[Pk.csize])) h
def Pk.zero:Pk:=⟨0,false,0,false,0,ByteArray.empty,⟨none,0,0⟩,ByteArray.empty,0,false,0,false,ByteArray.empty,⟨none,0,0⟩,0,false,false,ByteArray.empty,false,⟨none,0,0⟩,0,false,⟨none,0,0⟩,⟨none,0,0⟩,⟨none,0,0⟩⟩
theorem qne (w:World):(Instr.alloc 28 true (.tuple #[])).run Tryz.prog w=.ok (.pointer (some ⟨w.heap.size,0,none⟩)) (w.alloc (.cells Pk.zero.cells 28)):=by kernel_rfl
theorem setRow_new (w:World) (cs ds:Array Value) (t:TypeId):(w.alloc (.cells cs t)).setRow w.heap.size ds=w.alloc (.cells ds t):=by
 unfold World.setRow World.alloc
 congr 1
 apply Array.ext_getElem?
 intro i;simp only[Array.getElem?_modify,Array.getElem?_push]
 by_cases h:w.heap.size=i
 ·subst h;simp
 ·have h':¬i=w.heap.size:=fun e=>h e.symm
  simp[h,h']
theorem Pk.ones (p:Pk):p.cells.all (fun v=>v.oneCell')=true:=by
 simp[Pk.cells,Value.oneCell']
theorem var_pk {ops:Array Oper} {rest:List Oper} {a:Act} {w:World} {Q:Exit→Act→World→Prop} {p:Pk} {d:Nat} {y:Operand} {t1 t2:TypeId} {p1 p2:String} {e1 e2:Array Edge}
  (hd:decide (d<a.tmps.size)=true) (hy:(a.put (some d) (.pointer (some ⟨w.heap.size,0,none⟩))).eval y=.agg p.cells)
  (h:wpList Tryz.prog ops Q rest (a.put (some d) (.pointer (some ⟨w.heap.size,0,none⟩))) (w.alloc (.cells p.cells 28))) :
  wpList Tryz.prog ops Q (⟨some d,.alloc 28,t1,p1,e1,none⟩ :: ⟨none,.store 28 (.tmp d) y,t2,p2,e2,none⟩ :: rest) a w:=by
 refine qcf (w':=w.alloc (.cells Pk.zero.cells 28)) (v:=.pointer (some ⟨w.heap.size,0,none⟩)) (wanted_none rfl _) ?_ ?_
 ·simp only[execOp,Sem.run_bind,qne,Result.andThen_ok,Sem.run_pure]
 refine wpList_store_row rfl 28 (.tmp d) y rfl w.heap.size p.cells (eval_at (qdn _ (of_decide_eq_true hd))) hy 28 Pk.zero.cells (heap_alloc_new _ _) (infoP.trans (by rw[Pk.csize])) rfl p.ones ?_;rw[setRow_new];exact h
theorem qaf {fn:Func} {R:Ending→World→Prop} {a:Act} {w:World} {g:Nat} {p:Pk} {t:Tmp} (hr:fn.results = #[.cell t 28]) (hp:a.tmps.getD t undef=.pointer (some ⟨g,0,none⟩)) (hB:Blk w g p) (hd:a.defers = [])
  (h:R (.returned (.agg p.cells)) w):bodyPost Tryz.prog fn R .ret a w :=
 bodyPost_ret (results_cell_row hr a.tmps w g 28 p.cells (0,0) _ hp hB Tryz.underlying28 rfl (infoP.trans (by rw[Pk.csize]))) hd h
theorem bel {w w1 w2:World} (h1:Below w.heap.size w w1) (h2:Below w1.heap.size w1 w2):Below w.heap.size w w2:=h1.trans (h2.mono h1.size)
theorem bel_new (w:World) (o:Obj):Below w.heap.size w (w.alloc o):=(Below.refl _ _).alloc (Nat.le_refl _) o

theorem ld_cell {P:Program} {w:World} {τ:TypeId} {d:TypeDesc} (hu:P.underlying τ=some d) (hd:(match d with | .struct _ | .array _ _=>true | _=>false)=false) {X:Addr} {v:Value} (h:w.cell? X=some v) :
  (Instr.loadAt τ (.pointer (some X))).run P w=.ok v w:=by
 have hagg:(isAgg τ).run P w=.ok false w:=by
  unfold isAgg;rw[Sem.run_bind,run_underlying hu w];cases d<;>simp_all
 simp[Instr.loadAt,Instr.sureAddr,loadVar,Sem.run_bind,hagg,h]
section
variable {P : Program} {o : Oper} {a : Act} {w : World} {K : Act → World → Prop} {Q : Exit → Act → World → Prop}
theorem z_move {v:Value} (x:Operand) (ho:o.op=.move x) (hx:a.eval x=v) (h:K (a.put o.dst v) w):Oper.wp P o a w K Q :=
 qab (w':=w) (v:=v) (by simp only[execOp,ho,hx,Sem.run_pure]) h
theorem z_fld {X Y:Addr} (T:TypeId) (x:Operand) (i:Nat) (ho:o.op=.fieldAddr T x i) (hx:a.eval x=.pointer (some X)) (hf:∀u:World,(Instr.fieldAt T (.pointer (some X)) i).run P u=.ok (.pointer (some Y)) u) (h:K (a.put o.dst (.pointer (some Y))) w):Oper.wp P o a w K Q :=
 qab (w':=w) (by simp only[execOp,ho,hx,Sem.run_bind,hf,Result.andThen_ok,Sem.run_pure]) h
theorem z_load {X:Addr} {v:Value} {d:TypeDesc} (τ:TypeId) (x:Operand) (ho:o.op=.load τ x) (hx:a.eval x=.pointer (some X)) (hu:P.underlying τ=some d) (hd:(match d with | .struct _ | .array _ _=>true | _=>false)=false) (hc:w.cell? X=some v) (h:K (a.put o.dst v) w):Oper.wp P o a w K Q:=by
 have hl:=ld_cell (P:=P) (w:=w) hu hd hc;exact qab (w':=w) (v:=v) (by simp only[execOp,ho,hx,Sem.run_bind,hl,Result.andThen_ok,Sem.run_pure]) h
theorem z_bin {v v' r:Value} (b:BinOp) (T T':TypeId) (x y:Operand) (ho:o.op=.binOp b T x y T') (hx:a.eval x=v) (hy:a.eval y=v') (hr:(do eqGuard b T x y v v';binOp b T v v':Sem Value).run P w=.ok r w) (h:K (a.put o.dst r) w):Oper.wp P o a w K Q :=
 qab (w':=w) (v:=r) (by simp only[execOp,ho,hx,hy];rw[Sem.run_bind,hr];rfl) h
theorem qfv {v r:Value} (s t:TypeId) (x:Operand) (ho:o.op=.convert s t x) (hx:a.eval x=v) (hr:(convert s t v).run P w=.ok r w) (h:K (a.put o.dst r) w):Oper.wp P o a w K Q :=
 qab (w':=w) (v:=r) (by simp only[execOp,ho,hx,Sem.run_bind,hr,Result.andThen_ok,Sem.run_pure]) h
theorem z_not {b:Bool} (T:TypeId) (x:Operand) (ho:o.op=.unOp .not T x) (hx:a.eval x=.bool b) (h:K (a.put o.dst (.bool (!b))) w):Oper.wp P o a w K Q :=
 qab (w':=w) (v:=.bool (!b)) (by simp[execOp,ho,hx,Op.unary]) h
theorem z_mk {parts:Array (Nat×Operand)} {vs:Array (Nat×Value)} {r:Value} {w':World} (t:TypeId) (n:Nat) (ho:o.op=.buildSlice t n parts) (hx:(parts.map fun (i,x)=>(i,a.eval x))=vs) (hr:(Instr.buildSlice t n vs).run P w=.ok r w') (h:K (a.put o.dst r) w'):Oper.wp P o a w K Q :=
 qab (w':=w') (v:=r) (by simp only[execOp,ho,hx,Sem.run_bind,hr,Result.andThen_ok,Sem.run_pure]) h
end

theorem mkb2 (x y:Int) (u:World):(Instr.buildSlice 22 2 #[(0,.int .u8 x),(1,.int .u8 y)]).run Tryz.prog u=.ok (.slice (some ⟨u.heap.size,0,none⟩) 2 2) (u.alloc (.cells #[.int .u8 x,.int .u8 y] 5)):=by
 kernel_rfl
theorem mkb1 (x:Int) (u:World):(Instr.buildSlice 22 1 #[(0,.int .u8 x)]).run Tryz.prog u=.ok (.slice (some ⟨u.heap.size,0,none⟩) 1 1) (u.alloc (.cells #[.int .u8 x] 5)):=by
 kernel_rfl
theorem cvb (x:Int) (u:World):(convert 3 5 (.int .i64 x)).run Tryz.prog u=.ok (.int .u8 (x%256)) u:=by
 simp[convert,go_sem,Conv.intToInt,IntKind.wrap_u8]
theorem addi (x y:Int) (u:World) (a b:Operand) (h:IntKind.i64.wrap (x+y)=x+y):(do eqGuard .add 3 a b (.int .i64 x) (.int .i64 y);binOp .add 3 (.int .i64 x) (.int .i64 y):Sem Value).run Tryz.prog u=.ok (.int .i64 (x+y)) u:=by
 simp[eqGuard,binOp,go_sem,h]
theorem muli (x y:Int) (u:World) (a b:Operand) (h:IntKind.i64.wrap (x*y)=x*y):(do eqGuard .mul 3 a b (.int .i64 x) (.int .i64 y);binOp .mul 3 (.int .i64 x) (.int .i64 y):Sem Value).run Tryz.prog u=.ok (.int .i64 (x*y)) u:=by
 simp[eqGuard,binOp,go_sem,h]

theorem WOwn.grown {w w':World} {B:Nat} {ao:Option Addr} {n cap:Nat} {l:List (ByteArray×Int)} {row:Option Nat} (h:WOwn w B ao n cap l) (hg:w.grownBy w' row) (hne:∀a,ao=some a→some a.block≠row):WOwn w' B ao n cap l:=by
 refine⟨h.1,h.2.kept hg ?_⟩;cases ao with
 |none=>exact .inl rfl
 |some a=>exact .inr (hne a rfl)
theorem WOwn.block {w:World} {B:Nat} {ao:Option Addr} {n cap:Nat} {l:List (ByteArray×Int)} (h:WOwn w B ao n cap l) {a:Addr} (e:ao=some a):B≤a.block∧a.block<w.heap.size:=by
 subst e;exact h.2.lt _ rfl
theorem WOwn.head {w:World} {B:Nat} {ao:Option Addr} {n cap:Nat} {l:List (ByteArray×Int)} (h:WOwn w B ao n cap l) (hn:0<n):∃g,ao=some ⟨g,0,none⟩:=by
 rcases h.2.2 with ⟨e,h0⟩ | ⟨g,c,cur,e,_⟩
 ·omega
 ·simp only[Value.slice.injEq] at e;exact⟨g,e.1⟩
def Pk.has (p:Pk) (k:Nat):Prop:=∃a:Addr,some a∈[p.bod.a,p.wb.a,p.pa.a,p.wan.a,p.nam.a,p.cds.a]∧a.block=k
structure Touch (F:Nat→Prop) (w w':World):Prop where
 os:w'.os=w.os
 tape:w'.tape=w.tape
 output:w'.output=w.output
 size:w.heap.size≤w'.heap.size
 block:∀k,k<w.heap.size→¬F k→w'.heap[k]? = w.heap[k]?
theorem Touch.refl (F:Nat→Prop) (w:World):Touch F w w:=⟨rfl,rfl,rfl,Nat.le_refl _,fun _ _ _=>rfl⟩
theorem Touch.trans {F:Nat→Prop} {w w1 w2:World} (h:Touch F w w1) (g:Touch F w1 w2):Touch F w w2 :=
 ⟨g.os.trans h.os,g.tape.trans h.tape,g.output.trans h.output,Nat.le_trans h.size g.size,fun k hk hn=>(g.block k (Nat.lt_of_lt_of_le hk h.size) hn).trans (h.block k hk hn)⟩
theorem Touch.below {F:Nat→Prop} {w w':World} {B:Nat} (h:Touch F w w') (hB:B≤w.heap.size) (hF:∀k,F k→B≤k):Below B w w' :=
 ⟨h.os,h.tape,h.output,h.size,fun k hk=>h.block k (by omega) (fun hf=>by have:=hF k hf;omega)⟩
theorem POwn.lt {w:World} {B:Nat} {p:Pk} {d:Pd} (h:POwn w B p d) {k:Nat} (hk:p.has k):B≤k∧k<w.heap.size:=by
 obtain⟨a,ha,rfl⟩:=hk;simp only[List.mem_cons,List.not_mem_nil,or_false] at ha
 rcases ha with ha | ha | ha | ha | ha | ha
 ·exact h.bod.block ha.symm
 ·exact h.wb.block ha.symm
 ·exact h.pa.block ha.symm
 ·exact h.wan.block ha.symm
 ·exact h.nam.block ha.symm
 ·exact h.cds.block ha.symm
theorem POwn.below {w w':World} {B:Nat} {p:Pk} {d:Pd} (h:POwn w B p d) (hb:Below w.heap.size w w'):POwn w' B p d :=
 ⟨h.bod.below hb,h.wb.below hb,h.pa.below hb,h.wan.below hb,h.nam.below hb,h.cds.below hb,h.dis⟩
theorem Dis.symm {x y:Option Addr} (h:Dis x y):Dis y x:=fun a b ha hb e=>h b a hb ha e.symm
