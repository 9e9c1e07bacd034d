/- Lemmas. -/
import Derived.Test.YtpjkbgdkligpdaaGreatDoorX43
set_option linter.unusedVariables false
set_option linter.unusedSimpArgs false
set_option maxRecDepth 100000
set_option maxHeartbeats 20000000
namespace Go.Proofs.YtpjkbgdkligpdaaGreatDoor
open Go.RowKit

theorem mkL_at (k:Nat) (l:PL) (t:Nat) (h:t<l.length):pk (mkL k l) t=mkP (k+cntL (l.take t)) (l[t]'h).1∧pd (mkL k l) t=mkD (k+cntL (l.take t)) (l[t]'h).1:=by
 induction l generalizing k t with
 |nil=>simp at h
 |cons x r ih=>
  cases t with
  |zero=>exact⟨rfl,rfl⟩
  |succ t=>
   have e:k+cntL ((x :: r).take (t+1))=k+cntQ x.1+cntL (r.take t):=by simp[cntL];omega
   rw[e];exact ih (k+cntQ x.1) t (by simpa using h)
structure HP (w y:World) (b i:Nat) (P:Pk) (D:Pd):Prop where
 rng:y.rangeAt b i P.cells.toList
 prd:PRd y P D
 blw:Below w.heap.size w y
theorem HP.new {w y y':World} {b i:Nat} {P:Pk} {D:Pd} (s:HP w y b i P D) (hb:Below y.heap.size y y'):HP w y' b i P D :=
 ⟨qht s.rng hb,s.prd.below hb,s.blw.trans (hb.mono s.blw.size)⟩
theorem cf_mtx (xs:Array Value) (u:World):(callFunc 106 xs).run Tryz.prog u=.ok (.enter 106 xs) u:=by kernel_rfl
theorem qmx (u:World) (x y:Operand) (a:ByteArray):(do eqGuard .neq 9 x y (.string a) (.string a);binOp .neq 9 (.string a) (.string a):Sem Value).run Tryz.prog u=.ok (.bool false) u:=by
 simp[go_sem,Tryz.underlying9]
abbrev Fr258 {x0 x1 x2 x3 x4 x5 x6 x7 x8 x9 x10 x11 x12 x13 x14 x15 x16 x17 x18 x19 x20 x21 x22 x23 x24 x25 x26 x27 x28 x29 x30 x31 x32 x33 x34 x35 x36 x37 x38 x39 x40 x41 x42 x43 x44 x45 x46 x47 x48 x49 x50 x51 x52 x53 x54 x55 x56 x57 x58 x59 x60 x61 x62 x63 x64 x65 x66 x67 x68 x69 x70 x71 x72 x73 x74 x75 x76 x77 x78 x79 x80 x81 x82 x83 x84 x85 x86 x87 x88 x89 x90 x91 x92 x93 x94 x95 x96 x97 x98 x99 x100 x101 x102 x103 x104 x105 x106 x107 x108 x109 x110 x111 x112 x113 x114 x115 x116 x117 x118 x119 x120 x121 x122 x123 x124 x125 x126 x127 x128 x129 x130 x131 x132 x133 x134 x135 x136 x137 x138 x139 x140 x141 x142 x143 x144 x145 x146 x147 x148 x149 x150 x151 x152 x153 x154 x155 x156 x157 x158 x159 x160 x161 x162 x163 x164 x165 x166 x167 x168 x169 x170 x171 x172 x173 x174 x175 x176 x177 x178 x179 x180 x181 x182 x183 x184 x185 x186 x187 x188 x189 x190 x191 x192 x193 x194 x195 x196 x197 x198 x199 x200 x201 x202 x203 x204 x205 x206 x207 x208 x209 x210 x211 x212 x213 x214 x215 x216 x217 x218 x219 x220 x221 x222 x223 x224 x225 x226 x227 x228 x229 x230 x231 x232 x233 x234 x235 x236 x237 x238 x239 x240 x241 x242 x243 x244 x245 x246 x247 x248 x249 x250 x251 x252 x253 x254 x255 x256 x257:Value} : Act:=.mk #[x0,x1,x2,x3,x4,x5,x6,x7,x8,x9,x10,x11,x12,x13,x14,x15,x16,x17,x18,x19,x20,x21,x22,x23,x24,x25,x26,x27,x28,x29,x30,x31,x32,x33,x34,x35,x36,x37,x38,x39,x40,x41,x42,x43,x44,x45,x46,x47,x48,x49,x50,x51,x52,x53,x54,x55,x56,x57,x58,x59,x60,x61,x62,x63,x64,x65,x66,x67,x68,x69,x70,x71,x72,x73,x74,x75,x76,x77,x78,x79,x80,x81,x82,x83,x84,x85,x86,x87,x88,x89,x90,x91,x92,x93,x94,x95,x96,x97,x98,x99,x100,x101,x102,x103,x104,x105,x106,x107,x108,x109,x110,x111,x112,x113,x114,x115,x116,x117,x118,x119,x120,x121,x122,x123,x124,x125,x126,x127,x128,x129,x130,x131,x132,x133,x134,x135,x136,x137,x138,x139,x140,x141,x142,x143,x144,x145,x146,x147,x148,x149,x150,x151,x152,x153,x154,x155,x156,x157,x158,x159,x160,x161,x162,x163,x164,x165,x166,x167,x168,x169,x170,x171,x172,x173,x174,x175,x176,x177,x178,x179,x180,x181,x182,x183,x184,x185,x186,x187,x188,x189,x190,x191,x192,x193,x194,x195,x196,x197,x198,x199,x200,x201,x202,x203,x204,x205,x206,x207,x208,x209,x210,x211,x212,x213,x214,x215,x216,x217,x218,x219,x220,x221,x222,x223,x224,x225,x226,x227,x228,x229,x230,x231,x232,x233,x234,x235,x236,x237,x238,x239,x240,x241,x242,x243,x244,x245,x246,x247,x248,x249,x250,x251,x252,x253,x254,x255,x256,x257] []
theorem held_lheldPacketS (a:Option Addr) (n c k:Nat) (l:PL) (w:World) (hr:QRd w a n c (mkL k l)) (hk0:0<k) (hk:∀t,t≤n→k+cntL (l.take t)≤100000000000) (hn:n≤100000000) :
  Calls Tryz.prog 49 #[.slice a n c,.int .i64 k] w fun e w'=>e=.returned (.int .i64 ((k+cntL l:Nat):Int))∧Below w.heap.size w w':=by
 have HL:Hid (l.length=n):=by
  have:=hr.1.1;rw[qer] at this;exact this
 have HK:Hid (∀t,t≤n→k+cntL (l.take t)≤100000000000):=hk;clear hk;go_enter Tryz.func49,Tryz.ntmps49;go_wp2
 go_loopw [1,5] (fun kv iv wr=>∃(t K:Nat),iv=.int .i64 t∧kv=.int .i64 K∧t≤n∧K=k+cntL (l.take t)∧Below w.heap.size w wr) (fun _ iv _=>n-(intOf iv).toNat)
 case atStart=>exact⟨0,k,rfl,rfl,Nat.zero_le _,by simp[cntL],Below.refl _ _⟩
 case round=>
  obtain⟨t,K0,rfl,rfl,ht,hK0,hb⟩:=hrel
  by_cases hlt:t<n
  ·have hlt':(t:Int)<n:=by omega
   have hkl:t<l.length:=by rw[HL.out];exact hlt
   have hR:=hr.below hb;obtain⟨b,off,rfl,hrg⟩:=hR.1.2 t hlt;obtain⟨p,d,hpd⟩ : ∃p d,l[t]'hkl=(p,d):=⟨_,_,rfl⟩;have hm:=mkL_at k l t hkl;rw[hpd,←hK0] at hm;have hp0:=hR.2.1 _ (pk_mem (l:=mkL k l) (i:=t) (by rw[qer];exact hkl));rw[hm.1] at hrg;rw[hm.1,hm.2] at hp0;have s:HP w wr b (off+t*25) (mkP K0 p) (mkD K0 p):=⟨hrg,hp0,hb⟩;have hb1:=HK.out (t+1) (by omega);have HST:Hid (cntL (l.take (t+1))=cntL (l.take t)+cntQ p):=(mk_step k l t hkl p d hpd).1;rw[HST.out] at hb1;have hix:=idx_p b off n c t hlt;have HE:=mk_end K0 p;unfold cntQ Pk.cnt at hb1 HE;have hbd:0<K0∧K0+(19+p.bod.n+p.wb.n+p.pa.n+2*p.wan.n+p.nam.n+p.cds.n)≤100000000000:=⟨by omega,by omega⟩;have HK0:Hid (K0=k+cntL (l.take t)):=hK0;have q0:Hid (K0=K0):=rfl;have HR:Hid (QRd w (some ⟨b,off,none⟩) n c (mkL k l)):=hr;clear hb hb1 hK0 hR hrg hp0 hm hpd hr;have cc:wr.cell? ⟨b,off+t*25,none⟩ = some (.int .i64 (K0:Int)):=by rw[q0.out];exact s.rng 0 _ rfl
   go_upto_region 7 with fail
   clear cc;obtain⟨K1,hK1⟩ : ∃x:Nat,(K0:Int)+1=x:=⟨K0+1,rfl⟩;rw[hK1];have q1:Hid (K1=(K0+1)):=by show _=_;have:=q0.out;omega
   replace hbd:0<K1∧K1+(18+p.bod.n+p.wb.n+p.pa.n+2*p.wan.n+p.nam.n+p.cds.n)≤100000000000:=⟨by omega,by have:=hbd.2;omega⟩;clear hK1;have cc:wr.cell? ⟨b,off+t*25+1,none⟩ = some (.bool ((K1:Int)%3==0)):=by rw[q1.out];exact s.rng 1 _ rfl
   go_upto_region 10 with fail
   clear cc;obtain⟨K2,hK2⟩ : ∃x:Nat,(K1:Int)+1=x:=⟨K1+1,rfl⟩;rw[hK2];have q2:Hid (K2=(K0+2)):=by show _=_;have:=q1.out;omega
   replace hbd:0<K2∧K2+(17+p.bod.n+p.wb.n+p.pa.n+2*p.wan.n+p.nam.n+p.cds.n)≤100000000000:=⟨by omega,by have:=hbd.2;omega⟩;clear hK2;have cc:wr.cell? ⟨b,off+t*25+2,none⟩ = some (.int .i64 (K2:Int)):=by rw[q2.out];exact s.rng 2 _ rfl
   go_upto_region 13 with fail
   clear cc;obtain⟨K3,hK3⟩ : ∃x:Nat,(K2:Int)+1=x:=⟨K2+1,rfl⟩;rw[hK3];have q3:Hid (K3=(K0+3)):=by show _=_;have:=q2.out;omega
   replace hbd:0<K3∧K3+(16+p.bod.n+p.wb.n+p.pa.n+2*p.wan.n+p.nam.n+p.cds.n)≤100000000000:=⟨by omega,by have:=hbd.2;omega⟩;clear hK3;have cc:wr.cell? ⟨b,off+t*25+3,none⟩ = some (.bool ((K3:Int)%3==0)):=by rw[q3.out];exact s.rng 3 _ rfl
   go_upto_region 16 with fail
   clear cc;obtain⟨K4,hK4⟩ : ∃x:Nat,(K3:Int)+1=x:=⟨K3+1,rfl⟩;rw[hK4];have q4:Hid (K4=(K0+4)):=by show _=_;have:=q3.out;omega
   replace hbd:0<K4∧K4+(15+p.bod.n+p.wb.n+p.pa.n+2*p.wan.n+p.nam.n+p.cds.n)≤100000000000:=⟨by omega,by have:=hbd.2;omega⟩;clear hK4;have cc:wr.cell? ⟨b,off+t*25+4,none⟩ = some (.int .i64 (K4:Int)):=by rw[q4.out];exact s.rng 4 _ rfl
   go_upto_region 19 with fail
   clear cc;obtain⟨K5,hK5⟩ : ∃x:Nat,(K4:Int)+1=x:=⟨K4+1,rfl⟩;rw[hK5];have q5:Hid (K5=(K0+5)):=by show _=_;have:=q4.out;omega
   replace hbd:0<K5∧K5+(14+p.bod.n+p.wb.n+p.pa.n+2*p.wan.n+p.nam.n+p.cds.n)≤100000000000:=⟨by omega,by have:=hbd.2;omega⟩;clear hK5;have HC:Hid (wr.cell? ⟨b,off+t*25+5,none⟩ = some (.string (mtx K5))):=by show _=_;rw[q5.out];exact s.rng 5 _ rfl
   have hbk:0<K5∧K5≤100000000000:=⟨by omega,by omega⟩;refine qan (by kernel_rfl) rfl (fun i u x=>match i with
    |0=>u=.slice (some ⟨b,off,none⟩) n c
    |1=>u=.int .i64 (t:Int)
    |2=>u=.pointer (some ⟨b,off+t*25,none⟩)
    |3=>u=.pointer (some ⟨b,off+t*25+5,none⟩)
    |4=>u=.string (mtx K5)
    |5=>u=.int .i64 (K5:Int)
    |6=>u=.string (mtx K5)
    |7=>u=.bool false
    |_=>True) ?_ ?_ ?_
   ·intro i u x x' hx h
    match i,h with
    |0,h=>exact h
    |1,h=>exact h
    |2,h=>exact h
    |3,h=>exact h
    |4,h=>exact h
    |5,h=>exact h
    |6,h=>exact h
    |7,h=>exact h
    |(_+8),h=>trivial
   ·intro i o a u hi hk hbu hdep
    match i,hi with
    |0,hi=>
     cases hi;exact g_run (qab rfl _) (qax _ rfl (qaa ((hk.at 0 rfl).trans rfl)) ⟨_,rfl,Below.refl _ _,rfl⟩)
    |1,hi=>
     cases hi;exact g_run (qab rfl _) (qax _ rfl (qaa ((hk.at 5 rfl).trans rfl)) ⟨_,rfl,Below.refl _ _,rfl⟩)
    |2,hi=>
     cases hi;obtain⟨z0,hz0,rfl⟩:=hdep 0 _ _ rfl rfl rfl;obtain⟨z1,hz1,rfl⟩:=hdep 1 _ _ rfl rfl rfl;exact g_run (qab rfl _) (z_ix 44 _ _ rfl (qaa hz0) (qaa hz1) (idx_p b off n c t hlt) ⟨_,rfl,Below.refl _ _,rfl⟩)
    |3,hi=>
     cases hi;obtain⟨z2,hz2,rfl⟩:=hdep 2 _ _ rfl rfl rfl;exact g_run (qab rfl _) (z_fld (X:=⟨b,off+t*25,none⟩) (Y:=⟨b,off+t*25+5,none⟩) 28 _ 5 rfl (qaa hz2) (fun _=>by kernel_rfl) ⟨_,rfl,Below.refl _ _,rfl⟩)
    |4,hi=>
     cases hi;obtain⟨z3,hz3,rfl⟩:=hdep 3 _ _ rfl rfl rfl;exact g_run (qab rfl _) (z_ld 9 _ rfl (qaa hz3) (by kernel_rfl) ((hbu.cell (World.block_lt_of_cell? _ _ HC.out)).trans HC.out) ⟨_,rfl,Below.refl _ _,rfl⟩)
    |5,hi=>
     cases hi;exact g_run (qab rfl _) (qax _ rfl (qaa ((hk.at 1 rfl).trans rfl)) ⟨_,rfl,Below.refl _ _,rfl⟩)
    |6,hi=>
     cases hi;obtain⟨z5,hz5,rfl⟩:=hdep 5 _ _ rfl rfl rfl;refine g_run (qab rfl _) (qak (qbi _ _ _ _ _ _ cf_mtx (qaa hz5) (fun _=>rfl) _ _ _ _ _ _) ?_);refine (qdv K5 _ u rfl hbk.1 (by omega)).mono ?_;rintro e u' ⟨he,hb'⟩;exact⟨_,he,_,rfl,hb',rfl⟩
    |7,hi=>
     cases hi;obtain⟨z4,hz4,rfl⟩:=hdep 4 _ _ rfl rfl rfl;obtain⟨z6,hz6,rfl⟩:=hdep 6 _ _ rfl rfl rfl;exact g_run (qab rfl _) (z_bin _ _ _ _ _ rfl (qaa hz4) (qaa hz6) (qmx _ _ _ _) ⟨_,rfl,Below.refl _ _,rfl⟩)
    |(_+8),hi=>cases hi
   intro vs y6 hb2 hG a3 h3;have g7:vs 7=.bool false:=hG 7 (by decide);have g4:vs 4=.string (mtx K5):=hG 4 (by decide);clear hG HC hbk;replace h3:puts _ 1 _ Fr258=a3:=h3;replace h3:puts _ 2 _ Fr258=a3:=h3;replace h3:puts _ 3 _ Fr258=a3:=h3;replace h3:puts _ 4 _ Fr258=a3:=h3;replace h3:puts _ 5 _ Fr258=a3:=h3;replace h3:puts _ 6 _ Fr258=a3:=h3;replace h3:puts _ 7 _ Fr258=a3:=h3;replace h3:Fr258=a3:=h3;unfold Fr258 at h3;subst h3;simp only[g7];clear g7 g4;replace s:=s.new hb2;clear hb2
   go_upto_region 22 with fail
   obtain⟨K6,hK6⟩ : ∃x:Nat,(K5:Int)+1=x:=⟨K5+1,rfl⟩;rw[hK6];have q6:Hid (K6=(K0+6)):=by show _=_;have:=q5.out;omega
   replace hbd:0<K6∧K6+(13+p.bod.n+p.wb.n+p.pa.n+2*p.wan.n+p.nam.n+p.cds.n)≤100000000000:=⟨by omega,by have:=hbd.2;omega⟩;clear hK6;have cc:y6.cell? ⟨b,off+t*25+6,none⟩ = some (.slice p.bod.a p.bod.n p.bod.c):=s.rng 6 _ rfl;have hpo:RdIn y6 p.bod.a p.bod.n p.bod.c (marks K6 p.bod.n):=by rw[q6.out];exact s.prd.1
   go_wp2_with fail
   refine (qfs p.bod.a p.bod.n p.bod.c K6 _ hpo (by omega) (by omega)).mono ?_;clear hpo cc;rintro e y7 ⟨rfl,hy⟩;rw[hy];clear hy;obtain⟨K7,hK7⟩ : ∃x:Nat,K6+p.bod.n=x:=⟨_,rfl⟩;rw[hK7];have q7:Hid (K7=((K0+6)+p.bod.n)):=by show _=_;have:=q6.out;omega
   replace hbd:0<K7∧K7+(13+p.wb.n+p.pa.n+2*p.wan.n+p.nam.n+p.cds.n)≤100000000000:=⟨by omega,by have:=hbd.2;omega⟩;clear hK7;have n6:¬(K7:Int)<0:=by omega
   go_upto_region 25 with fail
   clear n6;have HC:Hid (y6.cell? ⟨b,off+t*25+7,none⟩ = some (.string (mtx K7))):=by show _=_;rw[q7.out];exact s.rng 7 _ rfl
   have hbk:0<K7∧K7≤100000000000:=⟨by omega,by omega⟩;refine qan (by kernel_rfl) rfl (fun i u x=>match i with
    |0=>u=.slice (some ⟨b,off,none⟩) n c
    |1=>u=.int .i64 (t:Int)
    |2=>u=.pointer (some ⟨b,off+t*25,none⟩)
    |3=>u=.pointer (some ⟨b,off+t*25+7,none⟩)
    |4=>u=.string (mtx K7)
    |5=>u=.int .i64 (K7:Int)
    |6=>u=.string (mtx K7)
    |7=>u=.bool false
    |_=>True) ?_ ?_ ?_
   ·intro i u x x' hx h
    match i,h with
    |0,h=>exact h
    |1,h=>exact h
    |2,h=>exact h
    |3,h=>exact h
    |4,h=>exact h
    |5,h=>exact h
    |6,h=>exact h
    |7,h=>exact h
    |(_+8),h=>trivial
   ·intro i o a u hi hk hbu hdep
    match i,hi with
    |0,hi=>
     cases hi;exact g_run (qab rfl _) (qax _ rfl (qaa ((hk.at 0 rfl).trans rfl)) ⟨_,rfl,Below.refl _ _,rfl⟩)
    |1,hi=>
     cases hi;exact g_run (qab rfl _) (qax _ rfl (qaa ((hk.at 5 rfl).trans rfl)) ⟨_,rfl,Below.refl _ _,rfl⟩)
    |2,hi=>
     cases hi;obtain⟨z0,hz0,rfl⟩:=hdep 0 _ _ rfl rfl rfl;obtain⟨z1,hz1,rfl⟩:=hdep 1 _ _ rfl rfl rfl;exact g_run (qab rfl _) (z_ix 44 _ _ rfl (qaa hz0) (qaa hz1) (idx_p b off n c t hlt) ⟨_,rfl,Below.refl _ _,rfl⟩)
    |3,hi=>
     cases hi;obtain⟨z2,hz2,rfl⟩:=hdep 2 _ _ rfl rfl rfl;exact g_run (qab rfl _) (z_fld (X:=⟨b,off+t*25,none⟩) (Y:=⟨b,off+t*25+7,none⟩) 28 _ 7 rfl (qaa hz2) (fun _=>by kernel_rfl) ⟨_,rfl,Below.refl _ _,rfl⟩)
    |4,hi=>
     cases hi;obtain⟨z3,hz3,rfl⟩:=hdep 3 _ _ rfl rfl rfl;exact g_run (qab rfl _) (z_ld 9 _ rfl (qaa hz3) (by kernel_rfl) ((hbu.cell (World.block_lt_of_cell? _ _ HC.out)).trans HC.out) ⟨_,rfl,Below.refl _ _,rfl⟩)
    |5,hi=>
     cases hi;exact g_run (qab rfl _) (qax _ rfl (qaa ((hk.at 1 rfl).trans rfl)) ⟨_,rfl,Below.refl _ _,rfl⟩)
    |6,hi=>
     cases hi;obtain⟨z5,hz5,rfl⟩:=hdep 5 _ _ rfl rfl rfl;refine g_run (qab rfl _) (qak (qbi _ _ _ _ _ _ cf_mtx (qaa hz5) (fun _=>rfl) _ _ _ _ _ _) ?_);refine (qdv K7 _ u rfl hbk.1 (by omega)).mono ?_;rintro e u' ⟨he,hb'⟩;exact⟨_,he,_,rfl,hb',rfl⟩
    |7,hi=>
     cases hi;obtain⟨z4,hz4,rfl⟩:=hdep 4 _ _ rfl rfl rfl;obtain⟨z6,hz6,rfl⟩:=hdep 6 _ _ rfl rfl rfl;exact g_run (qab rfl _) (z_bin _ _ _ _ _ rfl (qaa hz4) (qaa hz6) (qmx _ _ _ _) ⟨_,rfl,Below.refl _ _,rfl⟩)
    |(_+8),hi=>cases hi
   intro vs y8 hb2 hG a3 h3;have g7:vs 7=.bool false:=hG 7 (by decide);have g4:vs 4=.string (mtx K7):=hG 4 (by decide);clear hG HC hbk;replace h3:puts _ 1 _ Fr258=a3:=h3;replace h3:puts _ 2 _ Fr258=a3:=h3;replace h3:puts _ 3 _ Fr258=a3:=h3;replace h3:puts _ 4 _ Fr258=a3:=h3;replace h3:puts _ 5 _ Fr258=a3:=h3;replace h3:puts _ 6 _ Fr258=a3:=h3;replace h3:puts _ 7 _ Fr258=a3:=h3;replace h3:Fr258=a3:=h3;unfold Fr258 at h3;subst h3;simp only[g7];clear g7 g4;replace s:=s.new hb2;clear hb2
   go_upto_region 28 with fail
   obtain⟨K8,hK8⟩ : ∃x:Nat,(K7:Int)+1=x:=⟨K7+1,rfl⟩;rw[hK8];have q8:Hid (K8=(((K0+6)+p.bod.n)+1)):=by show _=_;have:=q7.out;omega
   replace hbd:0<K8∧K8+(12+p.wb.n+p.pa.n+2*p.wan.n+p.nam.n+p.cds.n)≤100000000000:=⟨by omega,by have:=hbd.2;omega⟩;clear hK8;have cc:y8.cell? ⟨b,off+t*25+8,none⟩ = some (.int .i64 (K8:Int)):=by rw[q8.out];exact s.rng 8 _ rfl
   go_upto_region 31 with fail
   clear cc;obtain⟨K9,hK9⟩ : ∃x:Nat,(K8:Int)+1=x:=⟨K8+1,rfl⟩;rw[hK9];have q9:Hid (K9=(((K0+6)+p.bod.n)+2)):=by show _=_;have:=q8.out;omega
   replace hbd:0<K9∧K9+(11+p.wb.n+p.pa.n+2*p.wan.n+p.nam.n+p.cds.n)≤100000000000:=⟨by omega,by have:=hbd.2;omega⟩;clear hK9;have cc:y8.cell? ⟨b,off+t*25+9,none⟩ = some (.bool ((K9:Int)%3==0)):=by rw[q9.out];exact s.rng 9 _ rfl
   go_upto_region 34 with fail
   clear cc;obtain⟨K10,hK10⟩ : ∃x:Nat,(K9:Int)+1=x:=⟨K9+1,rfl⟩;rw[hK10];have q10:Hid (K10=(((K0+6)+p.bod.n)+3)):=by show _=_;have:=q9.out;omega
   replace hbd:0<K10∧K10+(10+p.wb.n+p.pa.n+2*p.wan.n+p.nam.n+p.cds.n)≤100000000000:=⟨by omega,by have:=hbd.2;omega⟩;clear hK10;have cc:y8.cell? ⟨b,off+t*25+10,none⟩ = some (.int .i64 (K10:Int)):=by rw[q10.out];exact s.rng 10 _ rfl
   go_upto_region 37 with fail
   clear cc;obtain⟨K11,hK11⟩ : ∃x:Nat,(K10:Int)+1=x:=⟨K10+1,rfl⟩;rw[hK11];have q11:Hid (K11=(((K0+6)+p.bod.n)+4)):=by show _=_;have:=q10.out;omega
   replace hbd:0<K11∧K11+(9+p.wb.n+p.pa.n+2*p.wan.n+p.nam.n+p.cds.n)≤100000000000:=⟨by omega,by have:=hbd.2;omega⟩;clear hK11;have cc:y8.cell? ⟨b,off+t*25+11,none⟩ = some (.bool ((K11:Int)%3==0)):=by rw[q11.out];exact s.rng 11 _ rfl
   go_upto_region 40 with fail
   clear cc;obtain⟨K12,hK12⟩ : ∃x:Nat,(K11:Int)+1=x:=⟨K11+1,rfl⟩;rw[hK12];have q12:Hid (K12=(((K0+6)+p.bod.n)+5)):=by show _=_;have:=q11.out;omega
   replace hbd:0<K12∧K12+(8+p.wb.n+p.pa.n+2*p.wan.n+p.nam.n+p.cds.n)≤100000000000:=⟨by omega,by have:=hbd.2;omega⟩;clear hK12;have HC:Hid (y8.cell? ⟨b,off+t*25+12,none⟩ = some (.string (mtx K12))):=by show _=_;rw[q12.out];exact s.rng 12 _ rfl
   have hbk:0<K12∧K12≤100000000000:=⟨by omega,by omega⟩;refine qan (by kernel_rfl) rfl (fun i u x=>match i with
    |0=>u=.slice (some ⟨b,off,none⟩) n c
    |1=>u=.int .i64 (t:Int)
    |2=>u=.pointer (some ⟨b,off+t*25,none⟩)
    |3=>u=.pointer (some ⟨b,off+t*25+12,none⟩)
    |4=>u=.string (mtx K12)
    |5=>u=.int .i64 (K12:Int)
    |6=>u=.string (mtx K12)
    |7=>u=.bool false
    |_=>True) ?_ ?_ ?_
   ·intro i u x x' hx h
    match i,h with
    |0,h=>exact h
    |1,h=>exact h
    |2,h=>exact h
    |3,h=>exact h
    |4,h=>exact h
    |5,h=>exact h
    |6,h=>exact h
    |7,h=>exact h
    |(_+8),h=>trivial
   ·intro i o a u hi hk hbu hdep
    match i,hi with
    |0,hi=>
     cases hi;exact g_run (qab rfl _) (qax _ rfl (qaa ((hk.at 0 rfl).trans rfl)) ⟨_,rfl,Below.refl _ _,rfl⟩)
    |1,hi=>
     cases hi;exact g_run (qab rfl _) (qax _ rfl (qaa ((hk.at 5 rfl).trans rfl)) ⟨_,rfl,Below.refl _ _,rfl⟩)
    |2,hi=>
     cases hi;obtain⟨z0,hz0,rfl⟩:=hdep 0 _ _ rfl rfl rfl;obtain⟨z1,hz1,rfl⟩:=hdep 1 _ _ rfl rfl rfl;exact g_run (qab rfl _) (z_ix 44 _ _ rfl (qaa hz0) (qaa hz1) (idx_p b off n c t hlt) ⟨_,rfl,Below.refl _ _,rfl⟩)
    |3,hi=>
     cases hi;obtain⟨z2,hz2,rfl⟩:=hdep 2 _ _ rfl rfl rfl;exact g_run (qab rfl _) (z_fld (X:=⟨b,off+t*25,none⟩) (Y:=⟨b,off+t*25+12,none⟩) 28 _ 12 rfl (qaa hz2) (fun _=>by kernel_rfl) ⟨_,rfl,Below.refl _ _,rfl⟩)
    |4,hi=>
     cases hi;obtain⟨z3,hz3,rfl⟩:=hdep 3 _ _ rfl rfl rfl;exact g_run (qab rfl _) (z_ld 9 _ rfl (qaa hz3) (by kernel_rfl) ((hbu.cell (World.block_lt_of_cell? _ _ HC.out)).trans HC.out) ⟨_,rfl,Below.refl _ _,rfl⟩)
    |5,hi=>
     cases hi;exact g_run (qab rfl _) (qax _ rfl (qaa ((hk.at 1 rfl).trans rfl)) ⟨_,rfl,Below.refl _ _,rfl⟩)
    |6,hi=>
     cases hi;obtain⟨z5,hz5,rfl⟩:=hdep 5 _ _ rfl rfl rfl;refine g_run (qab rfl _) (qak (qbi _ _ _ _ _ _ cf_mtx (qaa hz5) (fun _=>rfl) _ _ _ _ _ _) ?_);refine (qdv K12 _ u rfl hbk.1 (by omega)).mono ?_;rintro e u' ⟨he,hb'⟩;exact⟨_,he,_,rfl,hb',rfl⟩
    |7,hi=>
     cases hi;obtain⟨z4,hz4,rfl⟩:=hdep 4 _ _ rfl rfl rfl;obtain⟨z6,hz6,rfl⟩:=hdep 6 _ _ rfl rfl rfl;exact g_run (qab rfl _) (z_bin _ _ _ _ _ rfl (qaa hz4) (qaa hz6) (qmx _ _ _ _) ⟨_,rfl,Below.refl _ _,rfl⟩)
    |(_+8),hi=>cases hi
   intro vs y13 hb2 hG a3 h3;have g7:vs 7=.bool false:=hG 7 (by decide);have g4:vs 4=.string (mtx K12):=hG 4 (by decide);clear hG HC hbk;replace h3:puts _ 1 _ Fr258=a3:=h3;replace h3:puts _ 2 _ Fr258=a3:=h3;replace h3:puts _ 3 _ Fr258=a3:=h3;replace h3:puts _ 4 _ Fr258=a3:=h3;replace h3:puts _ 5 _ Fr258=a3:=h3;replace h3:puts _ 6 _ Fr258=a3:=h3;replace h3:puts _ 7 _ Fr258=a3:=h3;replace h3:Fr258=a3:=h3;unfold Fr258 at h3;subst h3;simp only[g7];clear g7 g4;replace s:=s.new hb2;clear hb2
   go_upto_region 43 with fail
   obtain⟨K13,hK13⟩ : ∃x:Nat,(K12:Int)+1=x:=⟨K12+1,rfl⟩;rw[hK13];have q13:Hid (K13=(((K0+6)+p.bod.n)+6)):=by show _=_;have:=q12.out;omega
   replace hbd:0<K13∧K13+(7+p.wb.n+p.pa.n+2*p.wan.n+p.nam.n+p.cds.n)≤100000000000:=⟨by omega,by have:=hbd.2;omega⟩;clear hK13;have cc:y13.cell? ⟨b,off+t*25+13,none⟩ = some (.slice p.wb.a p.wb.n p.wb.c):=s.rng 13 _ rfl;have hpo:RdIn y13 p.wb.a p.wb.n p.wb.c (marks K13 p.wb.n):=by rw[q13.out];exact s.prd.2.1
   go_wp2_with fail
   refine (qfs p.wb.a p.wb.n p.wb.c K13 _ hpo (by omega) (by omega)).mono ?_;clear hpo cc;rintro e y14 ⟨rfl,hy⟩;rw[hy];clear hy;obtain⟨K14,hK14⟩ : ∃x:Nat,K13+p.wb.n=x:=⟨_,rfl⟩;rw[hK14];have q14:Hid (K14=((((K0+6)+p.bod.n)+6)+p.wb.n)):=by show _=_;have:=q13.out;omega
   replace hbd:0<K14∧K14+(7+p.pa.n+2*p.wan.n+p.nam.n+p.cds.n)≤100000000000:=⟨by omega,by have:=hbd.2;omega⟩;clear hK14;have n13:¬(K14:Int)<0:=by omega
   go_upto_region 46 with fail
   clear n13;have cc:y13.cell? ⟨b,off+t*25+14,none⟩ = some (.int .i64 (K14:Int)):=by rw[q14.out];exact s.rng 14 _ rfl
   go_upto_region 49 with fail
   clear cc;obtain⟨K15,hK15⟩ : ∃x:Nat,(K14:Int)+1=x:=⟨K14+1,rfl⟩;rw[hK15];have q15:Hid (K15=(((((K0+6)+p.bod.n)+6)+p.wb.n)+1)):=by show _=_;have:=q14.out;omega
   replace hbd:0<K15∧K15+(6+p.pa.n+2*p.wan.n+p.nam.n+p.cds.n)≤100000000000:=⟨by omega,by have:=hbd.2;omega⟩;clear hK15;have cc:y13.cell? ⟨b,off+t*25+15,none⟩ = some (.bool ((K15:Int)%3==0)):=by rw[q15.out];exact s.rng 15 _ rfl
   go_upto_region 52 with fail
   clear cc;obtain⟨K16,hK16⟩ : ∃x:Nat,(K15:Int)+1=x:=⟨K15+1,rfl⟩;rw[hK16];have q16:Hid (K16=(((((K0+6)+p.bod.n)+6)+p.wb.n)+2)):=by show _=_;have:=q15.out;omega
   replace hbd:0<K16∧K16+(5+p.pa.n+2*p.wan.n+p.nam.n+p.cds.n)≤100000000000:=⟨by omega,by have:=hbd.2;omega⟩;clear hK16;have cc:y13.cell? ⟨b,off+t*25+16,none⟩ = some (.bool ((K16:Int)%3==0)):=by rw[q16.out];exact s.rng 16 _ rfl
   go_upto_region 55 with fail
   clear cc;obtain⟨K17,hK17⟩ : ∃x:Nat,(K16:Int)+1=x:=⟨K16+1,rfl⟩;rw[hK17];have q17:Hid (K17=(((((K0+6)+p.bod.n)+6)+p.wb.n)+3)):=by show _=_;have:=q16.out;omega
   replace hbd:0<K17∧K17+(4+p.pa.n+2*p.wan.n+p.nam.n+p.cds.n)≤100000000000:=⟨by omega,by have:=hbd.2;omega⟩;clear hK17;have HC:Hid (y13.cell? ⟨b,off+t*25+17,none⟩ = some (.string (mtx K17))):=by show _=_;rw[q17.out];exact s.rng 17 _ rfl
   have hbk:0<K17∧K17≤100000000000:=⟨by omega,by omega⟩;refine qan (by kernel_rfl) rfl (fun i u x=>match i with
    |0=>u=.slice (some ⟨b,off,none⟩) n c
    |1=>u=.int .i64 (t:Int)
    |2=>u=.pointer (some ⟨b,off+t*25,none⟩)
    |3=>u=.pointer (some ⟨b,off+t*25+17,none⟩)
    |4=>u=.string (mtx K17)
    |5=>u=.int .i64 (K17:Int)
    |6=>u=.string (mtx K17)
    |7=>u=.bool false
    |_=>True) ?_ ?_ ?_
   ·intro i u x x' hx h
    match i,h with
    |0,h=>exact h
    |1,h=>exact h
    |2,h=>exact h
    |3,h=>exact h
    |4,h=>exact h
    |5,h=>exact h
    |6,h=>exact h
    |7,h=>exact h
    |(_+8),h=>trivial
   ·intro i o a u hi hk hbu hdep
    match i,hi with
    |0,hi=>
     cases hi;exact g_run (qab rfl _) (qax _ rfl (qaa ((hk.at 0 rfl).trans rfl)) ⟨_,rfl,Below.refl _ _,rfl⟩)
    |1,hi=>
     cases hi;exact g_run (qab rfl _) (qax _ rfl (qaa ((hk.at 5 rfl).trans rfl)) ⟨_,rfl,Below.refl _ _,rfl⟩)
    |2,hi=>
     cases hi;obtain⟨z0,hz0,rfl⟩:=hdep 0 _ _ rfl rfl rfl;obtain⟨z1,hz1,rfl⟩:=hdep 1 _ _ rfl rfl rfl;exact g_run (qab rfl _) (z_ix 44 _ _ rfl (qaa hz0) (qaa hz1) (idx_p b off n c t hlt) ⟨_,rfl,Below.refl _ _,rfl⟩)
    |3,hi=>
     cases hi;obtain⟨z2,hz2,rfl⟩:=hdep 2 _ _ rfl rfl rfl;exact g_run (qab rfl _) (z_fld (X:=⟨b,off+t*25,none⟩) (Y:=⟨b,off+t*25+17,none⟩) 28 _ 17 rfl (qaa hz2) (fun _=>by kernel_rfl) ⟨_,rfl,Below.refl _ _,rfl⟩)
    |4,hi=>
     cases hi;obtain⟨z3,hz3,rfl⟩:=hdep 3 _ _ rfl rfl rfl;exact g_run (qab rfl _) (z_ld 9 _ rfl (qaa hz3) (by kernel_rfl) ((hbu.cell (World.block_lt_of_cell? _ _ HC.out)).trans HC.out) ⟨_,rfl,Below.refl _ _,rfl⟩)
    |5,hi=>
     cases hi;exact g_run (qab rfl _) (qax _ rfl (qaa ((hk.at 1 rfl).trans rfl)) ⟨_,rfl,Below.refl _ _,rfl⟩)
    |6,hi=>
     cases hi;obtain⟨z5,hz5,rfl⟩:=hdep 5 _ _ rfl rfl rfl;refine g_run (qab rfl _) (qak (qbi _ _ _ _ _ _ cf_mtx (qaa hz5) (fun _=>rfl) _ _ _ _ _ _) ?_);refine (qdv K17 _ u rfl hbk.1 (by omega)).mono ?_;rintro e u' ⟨he,hb'⟩;exact⟨_,he,_,rfl,hb',rfl⟩
    |7,hi=>
     cases hi;obtain⟨z4,hz4,rfl⟩:=hdep 4 _ _ rfl rfl rfl;obtain⟨z6,hz6,rfl⟩:=hdep 6 _ _ rfl rfl rfl;exact g_run (qab rfl _) (z_bin _ _ _ _ _ rfl (qaa hz4) (qaa hz6) (qmx _ _ _ _) ⟨_,rfl,Below.refl _ _,rfl⟩)
    |(_+8),hi=>cases hi
   intro vs y18 hb2 hG a3 h3;have g7:vs 7=.bool false:=hG 7 (by decide);have g4:vs 4=.string (mtx K17):=hG 4 (by decide);clear hG HC hbk;replace h3:puts _ 1 _ Fr258=a3:=h3;replace h3:puts _ 2 _ Fr258=a3:=h3;replace h3:puts _ 3 _ Fr258=a3:=h3;replace h3:puts _ 4 _ Fr258=a3:=h3;replace h3:puts _ 5 _ Fr258=a3:=h3;replace h3:puts _ 6 _ Fr258=a3:=h3;replace h3:puts _ 7 _ Fr258=a3:=h3;replace h3:Fr258=a3:=h3;unfold Fr258 at h3;subst h3;simp only[g7];clear g7 g4;replace s:=s.new hb2;clear hb2
   go_upto_region 58 with fail
   obtain⟨K18,hK18⟩ : ∃x:Nat,(K17:Int)+1=x:=⟨K17+1,rfl⟩;rw[hK18];have q18:Hid (K18=(((((K0+6)+p.bod.n)+6)+p.wb.n)+4)):=by show _=_;have:=q17.out;omega
   replace hbd:0<K18∧K18+(3+p.pa.n+2*p.wan.n+p.nam.n+p.cds.n)≤100000000000:=⟨by omega,by have:=hbd.2;omega⟩;clear hK18;have cc:y18.cell? ⟨b,off+t*25+18,none⟩ = some (.bool ((K18:Int)%3==0)):=by rw[q18.out];exact s.rng 18 _ rfl
   go_upto_region 61 with fail
   clear cc;obtain⟨K19,hK19⟩ : ∃x:Nat,(K18:Int)+1=x:=⟨K18+1,rfl⟩;rw[hK19];have q19:Hid (K19=(((((K0+6)+p.bod.n)+6)+p.wb.n)+5)):=by show _=_;have:=q18.out;omega
   replace hbd:0<K19∧K19+(2+p.pa.n+2*p.wan.n+p.nam.n+p.cds.n)≤100000000000:=⟨by omega,by have:=hbd.2;omega⟩;clear hK19;have cc:y18.cell? ⟨b,off+t*25+19,none⟩ = some (.slice p.pa.a p.pa.n p.pa.c):=s.rng 19 _ rfl;have hpo:RdIn y18 p.pa.a p.pa.n p.pa.c (marks K19 p.pa.n):=by rw[q19.out];exact s.prd.2.2.1
   go_wp2_with fail
   refine (qfs p.pa.a p.pa.n p.pa.c K19 _ hpo (by omega) (by omega)).mono ?_;clear hpo cc;rintro e y20 ⟨rfl,hy⟩;rw[hy];clear hy;obtain⟨K20,hK20⟩ : ∃x:Nat,K19+p.pa.n=x:=⟨_,rfl⟩;rw[hK20];have q20:Hid (K20=((((((K0+6)+p.bod.n)+6)+p.wb.n)+5)+p.pa.n)):=by show _=_;have:=q19.out;omega
   replace hbd:0<K20∧K20+(2+2*p.wan.n+p.nam.n+p.cds.n)≤100000000000:=⟨by omega,by have:=hbd.2;omega⟩;clear hK20;have n19:¬(K20:Int)<0:=by omega
   go_upto_region 64 with fail
   clear n19;have cc:y18.cell? ⟨b,off+t*25+20,none⟩ = some (.int .i64 (K20:Int)):=by rw[q20.out];exact s.rng 20 _ rfl
   go_upto_region 67 with fail
   clear cc;obtain⟨K21,hK21⟩ : ∃x:Nat,(K20:Int)+1=x:=⟨K20+1,rfl⟩;rw[hK21];have q21:Hid (K21=(((((((K0+6)+p.bod.n)+6)+p.wb.n)+5)+p.pa.n)+1)):=by show _=_;have:=q20.out;omega
   replace hbd:0<K21∧K21+(1+2*p.wan.n+p.nam.n+p.cds.n)≤100000000000:=⟨by omega,by have:=hbd.2;omega⟩;clear hK21;have cc:y18.cell? ⟨b,off+t*25+21,none⟩ = some (.bool ((K21:Int)%3==0)):=by rw[q21.out];exact s.rng 21 _ rfl
   go_upto_region 70 with fail
   clear cc;obtain⟨K22,hK22⟩ : ∃x:Nat,(K21:Int)+1=x:=⟨K21+1,rfl⟩;rw[hK22];have q22:Hid (K22=(((((((K0+6)+p.bod.n)+6)+p.wb.n)+5)+p.pa.n)+2)):=by show _=_;have:=q21.out;omega
   replace hbd:0<K22∧K22+(0+2*p.wan.n+p.nam.n+p.cds.n)≤100000000000:=⟨by omega,by have:=hbd.2;omega⟩;clear hK22;have cc:y18.cell? ⟨b,off+t*25+22,none⟩ = some (.slice p.wan.a p.wan.n p.wan.c):=s.rng 22 _ rfl;have hpo:WRd y18 p.wan.a p.wan.n p.wan.c (wmks K22 p.wan.n):=by rw[q22.out];exact s.prd.2.2.2.1
   go_wp2_with fail
   refine (held_lW p.wan.a p.wan.n p.wan.c K22 _ hpo (by omega) (by omega) (by omega)).mono ?_;clear hpo cc;rintro e y23 ⟨rfl,hy⟩;replace s:=s.new hy;clear hy;obtain⟨K23,hK23⟩ : ∃x:Nat,K22+2*p.wan.n=x:=⟨_,rfl⟩;rw[hK23];have q23:Hid (K23=((((((((K0+6)+p.bod.n)+6)+p.wb.n)+5)+p.pa.n)+2)+2*p.wan.n)):=by show _=_;have:=q22.out;omega
   replace hbd:0<K23∧K23+(0+p.nam.n+p.cds.n)≤100000000000:=⟨by omega,by have:=hbd.2;omega⟩;clear hK23;have n22:¬(K23:Int)<0:=by omega
   go_upto_region 73 with fail
   clear n22;have cc:y23.cell? ⟨b,off+t*25+23,none⟩ = some (.slice p.nam.a p.nam.n p.nam.c):=s.rng 23 _ rfl;have hpo:SRd y23 p.nam.a p.nam.n p.nam.c (mks K23 p.nam.n):=by rw[q23.out];exact s.prd.2.2.2.2.1
   go_wp2_with fail
   refine (held_lS p.nam.a p.nam.n p.nam.c K23 _ hpo (by omega) (by omega) (by omega)).mono ?_;clear hpo cc;rintro e y24 ⟨rfl,hy⟩;replace s:=s.new hy;clear hy;obtain⟨K24,hK24⟩ : ∃x:Nat,K23+p.nam.n=x:=⟨_,rfl⟩;rw[hK24];have q24:Hid (K24=(((((((((K0+6)+p.bod.n)+6)+p.wb.n)+5)+p.pa.n)+2)+2*p.wan.n)+p.nam.n)):=by show _=_;have:=q23.out;omega
   replace hbd:0<K24∧K24+(0+p.cds.n)≤100000000000:=⟨by omega,by have:=hbd.2;omega⟩;clear hK24;have n23:¬(K24:Int)<0:=by omega
   go_upto_region 76 with fail
   clear n23;have cc:y24.cell? ⟨b,off+t*25+24,none⟩ = some (.slice p.cds.a p.cds.n p.cds.c):=s.rng 24 _ rfl;have hpo:IRd y24 p.cds.a p.cds.n p.cds.c (imks K24 p.cds.n):=by rw[q24.out];exact s.prd.2.2.2.2.2
   go_wp2_with fail
   refine (qpj p.cds.a p.cds.n p.cds.c K24 _ hpo (by omega) (by omega)).mono ?_;clear hpo cc;rintro e y25 ⟨rfl,hy⟩;rw[hy];clear hy;obtain⟨K25,hK25⟩ : ∃x:Nat,K24+p.cds.n=x:=⟨_,rfl⟩;rw[hK25];have q25:Hid (K25=((((((((((K0+6)+p.bod.n)+6)+p.wb.n)+5)+p.pa.n)+2)+2*p.wan.n)+p.nam.n)+p.cds.n)):=by show _=_;have:=q24.out;omega
   replace hbd:0<K25∧K25+(0)≤100000000000:=⟨by omega,by have:=hbd.2;omega⟩;clear hK25;have n24:¬(K25:Int)<0:=by omega
   have hF:Hid (K25=k+cntL (l.take (t+1))):=by
    show _=_;rw[HST.out,q25.out,mk_end K0 p];have:=HK0.out;omega
   have hbF:Hid (Below w.heap.size w y24):=s.blw;clear s;go_wp2;go_roundw
   case rel=>exact⟨t+1,K25,by go_num,by go_num,by omega,hF.out,hbF.out⟩
   case measure=>simp[intOf]<;>omega
  ·have hlt':¬(t:Int)<n:=by omega
   obtain rfl:t=n:=by omega
   rw[List.take_of_length_le (by rw[HL.out];omega)] at hK0;subst hK0;go_wp2;go_ret;exact⟨rfl,hb⟩

theorem manyF_ok (f:Nat) (b:List UInt8):∀v∈(manyF f b).1,v.ok=true:=by
 induction f generalizing b with
 |zero=>intro v hv;simp[manyF] at hv
 |succ f ih=>
  intro v hv;unfold manyF at hv
  split at hv
  ·simp at hv
  ·split at hv
   ·simp at hv
   ·rename_i h1 h2
    rcases List.mem_cons.1 hv with e | e
    ·rw[e];exact (qgg (Decidable.not_not.1 h2)).2.2.1
    ·exact ih _ v e
theorem many_ok (b:List UInt8):∀v∈(many b).1,v.ok=true:=manyF_ok _ b
def Pv.cnt (v:Pv):Nat:=v.bod.length+v.wb.length+v.pa.length+2*v.wan.length+v.nam.length+v.cds.length
theorem ok_cnt {v:Pv} (h:v.ok=true):v.cnt≤200:=by
 have ht:=ok_ty h;have hb:=qid h;have f (g:Pv→Nat):g v=g v.named:=congrArg g (qeg h);have b1:=f (fun v=>v.bod.length);have b2:=f (fun v=>v.wb.length);have b3:=f (fun v=>v.pa.length);have b4:=f (fun v=>v.wan.length);have b5:=f (fun v=>v.nam.length);have b6:=f (fun v=>v.cds.length);clear f h;have h14:v.ty=1∨v.ty=2∨v.ty=3∨v.ty=8∨v.ty=9∨v.ty=10∨(v.ty=4∨v.ty=5∨v.ty=6∨v.ty=7∨v.ty=11)∨(v.ty=12∨v.ty=13∨v.ty=14):=by omega
 unfold Pv.body at hb;unfold Pv.cnt;unfold Pv.named at b1 b2 b3 b4 b5 b6
 rcases h14 with h1 | h1 | h1 | h1 | h1 | h1 | h1 | h1
 ·rw[if_pos h1] at b1 b2 b3 b4 b5 b6 hb;simp only[Pv.zero,List.length_nil,Bool.and_eq_true,Bool.or_eq_true,Bool.not_eq_true',decide_eq_true_eq] at b1 b2 b3 b4 b5 b6 hb;have c2:v.wb.length≤40:=by
   cases hw:v.hw with
   |false=>rw[hw] at b2;simp at b2;simp[b2]
   |true=>
    rw[hw] at hb
    rcases hb.1 with e | e
    ·cases e
    ·exact e.2.1
  have c3:=hb.2.2.2.2.2;omega
 all_goals
  have k1:¬v.ty=1:=by omega
  rw[if_neg k1] at b1 b2 b3 b4 b5 b6 hb
 ·rw[if_pos h1] at b1 b2 b3 b4 b5 b6;simp only[Pv.zero,List.length_nil] at b1 b2 b3 b4 b5 b6;omega
 all_goals
  have k2:¬v.ty=2:=by omega
  rw[if_neg k2] at b1 b2 b3 b4 b5 b6 hb
 ·rw[if_pos h1] at b1 b2 b3 b4 b5 b6 hb;simp only[Pv.zero,List.length_nil,Bool.and_eq_true,decide_eq_true_eq] at b1 b2 b3 b4 b5 b6 hb;omega
 all_goals
  have k3:¬v.ty=3:=by omega
  rw[if_neg k3] at b1 b2 b3 b4 b5 b6 hb
 ·rw[if_neg (by omega),if_pos h1] at b1 b2 b3 b4 b5 b6 hb;simp only[Pv.zero,List.length_nil,Bool.and_eq_true,qco] at b1 b2 b3 b4 b5 b6 hb;omega
 ·rw[if_neg (by omega),if_neg (by omega),if_pos h1] at b1 b2 b3 b4 b5 b6 hb;simp only[Pv.zero,List.length_nil,Bool.and_eq_true,qco] at b1 b2 b3 b4 b5 b6 hb;omega
 ·rw[if_neg (by omega),if_neg (by omega),if_neg (by omega),if_pos h1] at b1 b2 b3 b4 b5 b6 hb;simp only[Pv.zero,List.length_nil,Bool.and_eq_true,qco] at b1 b2 b3 b4 b5 b6 hb;omega
 ·rw[if_pos h1] at b1 b2 b3 b4 b5 b6;simp only[Pv.zero,List.length_nil] at b1 b2 b3 b4 b5 b6;omega
 ·rw[if_neg (by omega),if_neg (by omega),if_neg (by omega),if_neg (by omega)] at b1 b2 b3 b4 b5 b6;simp only[Pv.zero,List.length_nil] at b1 b2 b3 b4 b5 b6;omega
theorem cntL_le {w:World} {l:PL} (hp:∀x∈l,PRd w x.1 x.2) (ho:∀v∈pvs l,v.ok=true):cntL l≤219*l.length:=by
 induction l with
 |nil=>simp[cntL]
 |cons x r ih=>
  have h1:=ok_cnt (ho (pv x.1 x.2) (by simp[pvs]));have h2:cntQ x.1≤219:=by
   obtain⟨p1,p2,p3,p4,p5,p6⟩:=hp x (by simp);have a1:=p1.1.1;have a2:=p2.1.1;have a3:=p3.1.1;have a4:=p4.1.1;have a5:=p5.1.1;have a6:=p6.1.1;unfold Pv.cnt pv at h1;simp only at h1;unfold cntQ Pk.cnt;omega
  have h3:=ih (fun y hy=>hp y (List.mem_cons_of_mem _ hy)) (fun v hv=>ho v (by simp only[pvs,List.map_cons,List.mem_cons] at hv ⊢;exact .inr hv));have e:cntL (x :: r)=cntQ x.1+cntL r:=by simp[cntL]
  rw[e,List.length_cons];omega

def RowB (w:World) (g:Nat) (a:Option Addr) (n c:Nat) (x:Bool):Prop:=w.heap[g]? = some (.cells #[.slice a n c,.bool x] 51)
theorem RowB.lt {w:World} {g:Nat} {a:Option Addr} {n c:Nat} {x:Bool} (h:RowB w g a n c x):g<w.heap.size:=(Array.getElem?_eq_some_iff.1 h).1
theorem RowB.next {w w':World} {g:Nat} {a:Option Addr} {n c:Nat} {x:Bool} (h:RowB w g a n c x) (hb:Below w.heap.size w w'):RowB w' g a n c x:=(hb.block g h.lt).trans h
def ManyL (w w':World) (v:Value) (ps:List Pv):Prop:=∃a c q,v=.slice a (List.length q) c∧QOwn w' w.heap.size a q.length c q∧pvs q=ps∧∀x∈q,Pgd 1048576 x.1 x.2
theorem Many.lst {w w':World} {v:Value} {l:List UInt8} (h:Many w w' v l):ManyL w w' v (many l).1:=h

def BsRd (w:World) (ao:Option Addr) (n cap:Nat) (L:List (List UInt8)):Prop :=
 L.length=n∧∀i,i<n→∃b off,ao=some ⟨b,off,none⟩∧∃a k c,w.cell? ⟨b,off+i,none⟩ = some (.slice a k c)∧RdIn w a k c (L.getD i [])
theorem BsRd.below {w w':World} {ao:Option Addr} {n cap:Nat} {L:List (List UInt8)} (h:BsRd w ao n cap L) (hb:Below w.heap.size w w'):BsRd w' ao n cap L:=by
 refine⟨h.1,fun i hi=>?_⟩;obtain⟨b,off,e,a,k,c,hc,hr⟩:=h.2 i hi;exact⟨b,off,e,a,k,c,(hb.cell (World.block_lt_of_cell? w _ hc)).trans hc,hr.below hb⟩
theorem many_cnt (b:List UInt8):(many b).1.length≤(many b).2.1 :=
 many_ind (P:=fun b=>(many b).1.length≤(many b).2.1) (by rw[qqu];simp) (fun b h0 h=>by rw[qqt h0 h];simp) (fun b h ih=>by
  have h1:=(qgg h).1;rw[qoe h];simp only[List.length_cons];omega) b
theorem RowB.row {u u':World} {g B:Nat} {a ao:Option Addr} {n c m cap:Nat} {x:Bool} {ps:List Pk} (h:RowB u g a n c x) (hR:POwnR u B ao m cap ps) (hg:u.grownBy u' (Value.slice ao m cap).ownBlock):RowB u' g a n c x:=by
 refine (hg.block g h.lt (fun e=>?_)).trans h;cases ao with
 |none=>simp[Value.ownBlock] at e
 |some q=>
  have e':g=q.block:=by simpa[Value.ownBlock] using e
  obtain⟨cur,hc⟩:=qbr hR.2;exact ty_ne hc h (by decide) e'.symm
theorem QOwn.drew {w:World} {B:Nat} {ao:Option Addr} {n cap:Nat} {l:PL} (h:QOwn w B ao n cap l):QOwn w.drew B ao n cap l :=
 ⟨h.row,fun x hx=>⟨(h.own x hx).bod,(h.own x hx).wb,(h.own x hx).pa,(h.own x hx).wan,(h.own x hx).nam,(h.own x hx).cds,(h.own x hx).dis⟩,h.dis⟩
def FBase (w wr u:World) (a6:Option Addr) (n6 c6:Nat) (x6:Bool) (g:Nat) (a8:Option Addr) (n8 c8:Nat) (x8:Bool) (l8:List UInt8):Prop :=
 RowB u w.heap.size a6 n6 c6 x6∧RowB u (w.heap.size+1) none 0 0 false∧RowB u g a8 n8 c8 x8∧RdIn u a8 n8 c8 l8∧Below w.heap.size w u∧w.heap.size+2≤u.heap.size
theorem FBase.row {w wr u u':World} {a6:Option Addr} {n6 c6:Nat} {x6:Bool} {g:Nat} {a8:Option Addr} {n8 c8:Nat} {x8:Bool} {l8:List UInt8} {ao:Option Addr} {m cap:Nat} {ps:List Pk} (h:FBase w wr u a6 n6 c6 x6 g a8 n8 c8 x8 l8) (hR:POwnR u (w.heap.size+2) ao m cap ps)
  (hg:u.grownBy u' (Value.slice ao m cap).ownBlock) (hlt:∀z,ao=some z→z.block<wr.heap.size) (h8:∀q,a8=some q→wr.heap.size≤q.block):FBase w wr u' a6 n6 c6 x6 g a8 n8 c8 x8 l8:=by
 obtain⟨h1,h2,h3,h4,h5,h6⟩:=h;refine⟨h1.row hR hg,h2.row hR hg,h3.row hR hg,h4.grown hg (fun q hq e=>?_),(qka h5 h5.size (show POwnR u w.heap.size ao m cap ps from ⟨hR.1,qbc hR.2 (by omega)⟩) hg),Nat.le_trans h6 hg.size⟩;cases ao with
 |none=>simp[Value.ownBlock] at e
 |some z=>
  have e':q.block=z.block:=by simpa[Value.ownBlock] using e
  have:=hlt z rfl;have:=h8 q hq;omega
