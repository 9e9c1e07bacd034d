/- Lemmas. -/
import Derived.Test.YtpjkbgdkligpdaaGreatW18
import Derived.Test.YtpjkbgdkligpdaaGreatW21
import Derived.Test.YtpjkbgdkligpdaaGreatW16
set_option linter.unusedVariables false
set_option linter.unusedSimpArgs false
set_option maxRecDepth 100000
set_option maxHeartbeats 20000000
namespace Go.Proofs.YtpjkbgdkligpdaaGreat
open Go.RowKit

abbrev Fr191 {x0 x1 x2 x3 x4 x5 x6 x7 x8 x9 x10 x11 x12 x13 x14 x15 x16 x17 x18 x19 x20 x21 x22 x23 x24 x25 x26 x27 x28 x29 x30 x31 x32 x33 x34 x35 x36 x37 x38 x39 x40 x41 x42 x43 x44 x45 x46 x47 x48 x49 x50 x51 x52 x53 x54 x55 x56 x57 x58 x59 x60 x61 x62 x63 x64 x65 x66 x67 x68 x69 x70 x71 x72 x73 x74 x75 x76 x77 x78 x79 x80 x81 x82 x83 x84 x85 x86 x87 x88 x89 x90 x91 x92 x93 x94 x95 x96 x97 x98 x99 x100 x101 x102 x103 x104 x105 x106 x107 x108 x109 x110 x111 x112 x113 x114 x115 x116 x117 x118 x119 x120 x121 x122 x123 x124 x125 x126 x127 x128 x129 x130 x131 x132 x133 x134 x135 x136 x137 x138 x139 x140 x141 x142 x143 x144 x145 x146 x147 x148 x149 x150 x151 x152 x153 x154 x155 x156 x157 x158 x159 x160 x161 x162 x163 x164 x165 x166 x167 x168 x169 x170 x171 x172 x173 x174 x175 x176 x177 x178 x179 x180 x181 x182 x183 x184 x185 x186 x187 x188 x189 x190:Value} : Act:=.mk #[x0,x1,x2,x3,x4,x5,x6,x7,x8,x9,x10,x11,x12,x13,x14,x15,x16,x17,x18,x19,x20,x21,x22,x23,x24,x25,x26,x27,x28,x29,x30,x31,x32,x33,x34,x35,x36,x37,x38,x39,x40,x41,x42,x43,x44,x45,x46,x47,x48,x49,x50,x51,x52,x53,x54,x55,x56,x57,x58,x59,x60,x61,x62,x63,x64,x65,x66,x67,x68,x69,x70,x71,x72,x73,x74,x75,x76,x77,x78,x79,x80,x81,x82,x83,x84,x85,x86,x87,x88,x89,x90,x91,x92,x93,x94,x95,x96,x97,x98,x99,x100,x101,x102,x103,x104,x105,x106,x107,x108,x109,x110,x111,x112,x113,x114,x115,x116,x117,x118,x119,x120,x121,x122,x123,x124,x125,x126,x127,x128,x129,x130,x131,x132,x133,x134,x135,x136,x137,x138,x139,x140,x141,x142,x143,x144,x145,x146,x147,x148,x149,x150,x151,x152,x153,x154,x155,x156,x157,x158,x159,x160,x161,x162,x163,x164,x165,x166,x167,x168,x169,x170,x171,x172,x173,x174,x175,x176,x177,x178,x179,x180,x181,x182,x183,x184,x185,x186,x187,x188,x189,x190] []
theorem qah {o:Oper} {k:Nat} {b:Bool} {y:Nat→Option Bool} (h:o.guard=some (k,b)) (hy:y k=some b):Region.wanted o y=true:=by
 simp[Region.wanted,h,hy]
theorem qca (P:Program) (u:World) (ρ:Operand→Value) (v v' v'':Value) (x y z:Operand) (f:FuncId) (hf:∀(xs:Array Value) (u:World),(callFunc f xs).run P u=.ok (.enter f xs) u) (hx:ρ x=v) (hy:ρ y=v') (hz:ρ z=v'') (hr:∀g,ρ (.func g)=.func (.func g) #[] #[]) (d:Option Tmp) (t:TypeId) (p:String) (e:Array Edge) (g:Option (Nat×Bool)) (ts:Array TypeId) :
  (execOp ρ ⟨d,.call { callee:=.value (.func f),args:=#[x,y,z],argTypes:=ts },t,p,e,g⟩).run P u=.ok (.enter f #[v,v',v'']) u:=by
 simp[execOp,hx,hy,hz,hr,resolve,invoke,go_sem,hf]
theorem qdw (xs:Array Value) (u:World):(callFunc 47 xs).run Tryz.prog u=.ok (.enter 47 xs) u:=by kernel_rfl
theorem qeq (xs:Array Value) (u:World):(callFunc 49 xs).run Tryz.prog u=.ok (.enter 49 xs) u:=by kernel_rfl
theorem qdk (xs:Array Value) (u:World):(callFunc 48 xs).run Tryz.prog u=.ok (.enter 48 xs) u:=by kernel_rfl
theorem qcj (p:Pk) (d:Pd) (w:World) (hp:PRd w p d) (q:Pk) (dq:Pd) (ht:1≤p.ty∧p.ty≤14)
  (hnam:∀u:World,Calls Tryz.prog 49 #[.agg p.cells] u fun e u'=>e=.returned (.agg q.cells)∧Below u.heap.size u u')
  (hq:∀u:World,PRd u p d→PRd u q dq) (hne:pv p d≠pv q dq) :
  Calls Tryz.prog 24 #[.agg p.cells] w fun e w'=>e=.returned (.bool false)∧Below w.heap.size w w':=by
 have hb:Below w.heap.size w (w.alloc (.cells p.cells 32)):=qae _ _;have A:Blk (w.alloc (.cells p.cells 32)) w.heap.size p:=heap_alloc_new _ _;replace hp:=hp.below hb;go_enter Tryz.func24,Tryz.ntmps24;go_wp2;refine qar (by kernel_rfl) rfl (fun i u x=>match i with
  |0=>u=.pointer (some ((⟨w.heap.size,0,none⟩ : Addr).add 0))
  |1=>u=.int .i64 p.ty
  |2=>u=.bool true
  |3 | 4=>u=.bool false
  |5 | 6=>u=.agg p.cells
  |7=>u=.agg q.cells
  |8=>u=.bool (decide (pv p d=pv q dq))
  |_=>u=.bool (!decide (pv p d=pv q dq))) ?_ ?_ ?_
 ·intro i u x x' hx h;exact h
 ·intro i o a u hi hk hbu hdep
  match i,hi with
  |0,hi=>
   cases hi;have e1:a.tmps[1]? = some (.pointer (some ⟨w.heap.size,0,none⟩)):=(hk.at 1 rfl).trans rfl;exact g_run (qaa rfl _) (qad (w':=u) (v:=.pointer (some ((⟨w.heap.size,0,none⟩ : Addr).add 0))) (by simp only[execOp,qab e1,Sem.run_bind,fld0,Result.andThen_ok,Sem.run_pure]) ⟨_,rfl,Below.refl _ _,rfl⟩)
  |1,hi=>
   cases hi;obtain⟨z,hz,rfl⟩:=hdep 0 _ _ rfl rfl rfl;have hl:=qaf (P:=Tryz.prog) (w:=u) Tryz.underlying3 rfl (X:=(⟨w.heap.size,0,none⟩ : Addr).add 0) (((A.next hbu).cell 0).trans p.c0);exact g_run (qaa rfl _) (qad (w':=u) (v:=.int .i64 p.ty) (by simp only[execOp,qab hz,Sem.run_bind,hl,Result.andThen_ok,Sem.run_pure]) ⟨_,rfl,Below.refl _ _,rfl⟩)
  |2,hi=>
   cases hi;obtain⟨z,hz,rfl⟩:=hdep 1 _ _ rfl rfl rfl;refine g_run (qaa rfl _) (qaj (qca _ _ _ _ _ _ _ _ _ _ qdw (qab hz) rfl rfl (fun _=>rfl) _ _ _ _ _ _) ?_);refine (qan _ _ _ true _ (decide_eq_true ht)).mono ?_;rintro e u' ⟨rfl,rfl⟩;exact⟨_,rfl,_,rfl,Below.refl _ _,rfl⟩
  |3,hi=>
   cases hi;obtain⟨z,hz,rfl⟩:=hdep 2 _ _ rfl rfl rfl;exact g_run (qaa rfl _) (qad (v:=.bool false) (w':=u) (by simp[execOp,qab hz,Op.unary]) ⟨_,rfl,Below.refl _ _,rfl⟩)
  |4,hi=>
   cases hi;obtain⟨z,hz,rfl⟩:=hdep 3 _ _ rfl rfl rfl;exact g_run (qaa rfl _) (qad (by simp[execOp,qab hz]) ⟨_,rfl,Below.refl _ _,rfl⟩)
  |5,hi=>
   cases hi;obtain⟨z,hz,rfl⟩:=hdep 4 _ _ rfl rfl rfl;exact g_run (qah rfl (qao rfl hz)) (qbk (A.next hbu) _ rfl (qab ((hk.at 1 rfl).trans rfl)) ⟨_,rfl,Below.refl _ _,rfl⟩)
  |6,hi=>
   cases hi;obtain⟨z,hz,rfl⟩:=hdep 4 _ _ rfl rfl rfl;exact g_run (qah rfl (qao rfl hz)) (qbk (A.next hbu) _ rfl (qab ((hk.at 1 rfl).trans rfl)) ⟨_,rfl,Below.refl _ _,rfl⟩)
  |7,hi=>
   cases hi;obtain⟨z,hz,rfl⟩:=hdep 4 _ _ rfl rfl rfl;obtain⟨z',hz',rfl⟩:=hdep 6 _ _ rfl rfl rfl;refine g_run (qah rfl (qao rfl hz)) (qaj (qbt _ _ _ _ _ _ qeq (qab hz') (fun _=>rfl) _ _ _ _ _ _) ?_);refine (hnam u).mono ?_;rintro e u' ⟨rfl,hb'⟩;exact⟨_,rfl,_,rfl,hb',rfl⟩
  |8,hi=>
   cases hi;obtain⟨z,hz,rfl⟩:=hdep 4 _ _ rfl rfl rfl;obtain⟨z5,hz5,rfl⟩:=hdep 5 _ _ rfl rfl rfl;obtain⟨z7,hz7,rfl⟩:=hdep 7 _ _ rfl rfl rfl;refine g_run (qah rfl (qao rfl hz)) (qaj (qag _ _ _ _ _ _ _ _ qdk (qab hz5) (qab hz7) (fun _=>rfl) _ _ _ _ _ _) ?_);refine (qay p q d dq u (hp.below hbu) (hq u (hp.below hbu))).mono ?_;rintro e u' ⟨rfl,hb'⟩;exact⟨_,rfl,_,rfl,hb',rfl⟩
  |9,hi=>
   cases hi;obtain⟨z,hz,rfl⟩:=hdep 4 _ _ rfl rfl rfl;obtain⟨z',hz',rfl⟩:=hdep 8 _ _ rfl rfl rfl;exact g_run (qah rfl (qao rfl hz)) (qad (v:=.bool (!decide (pv p d=pv q dq))) (w':=u) (by simp[execOp,qab hz',Op.unary]) ⟨_,rfl,Below.refl _ _,rfl⟩)
  |10,hi=>
   cases hi;obtain⟨z,hz,rfl⟩:=hdep 4 _ _ rfl rfl rfl;obtain⟨z',hz',rfl⟩:=hdep 9 _ _ rfl rfl rfl;exact g_run (qaa rfl _) (qad (v:=.bool (!decide (pv p d=pv q dq))) (w':=u) (by simp[execOp,qab hz,qab hz',asBool]) ⟨_,rfl,Below.refl _ _,rfl⟩)
  |(_+11),hi=>cases hi
 intro vs y b1 hG a3 h3;have g10:vs 10=.bool (!decide (pv p d=pv q dq)):=hG 10 (by decide);clear hG;replace h3:puts _ 1 _ Fr191=a3:=h3;replace h3:puts _ 2 _ Fr191=a3:=h3;replace h3:puts _ 3 _ Fr191=a3:=h3;replace h3:puts _ 4 _ Fr191=a3:=h3;replace h3:puts _ 5 _ Fr191=a3:=h3;replace h3:puts _ 6 _ Fr191=a3:=h3;replace h3:puts _ 7 _ Fr191=a3:=h3;replace h3:puts _ 8 _ Fr191=a3:=h3;replace h3:puts _ 9 _ Fr191=a3:=h3;replace h3:puts _ 10 _ Fr191=a3:=h3;replace h3:puts _ 11 _ Fr191=a3:=h3;replace h3:Fr191=_:=h3;unfold Fr191 at h3;subst h3;replace hb:=bel hb b1;replace A:=A.next b1;replace hp:=hp.below b1;clear b1;rw[decide_eq_false hne] at g10;simp only[g10];clear hnam hq;go_wp2;go_ret;exact⟨rfl,hb⟩

theorem sok_c (p:Pk) (d:Pd) (w:World) (hp:PRd w p d) (q:Pk) (dq:Pd) (ht:1≤p.ty∧p.ty≤14)
  (hnam:∀u:World,Calls Tryz.prog 49 #[.agg p.cells] u fun e u'=>e=.returned (.agg q.cells)∧Below u.heap.size u u')
  (hq:∀u:World,PRd u p d→PRd u q dq) (hk:p.ty=4∨p.ty=5∨p.ty=6∨p.ty=7∨p.ty=11) (heq:pv p d=pv q dq) :
  Calls Tryz.prog 24 #[.agg p.cells] w fun e w'=>e=.returned (.bool (inB p.id 1 65535))∧Below w.heap.size w w':=by
 have hb:Below w.heap.size w (w.alloc (.cells p.cells 32)):=qae _ _;have A:Blk (w.alloc (.cells p.cells 32)) w.heap.size p:=heap_alloc_new _ _;replace hp:=hp.below hb;go_enter Tryz.func24,Tryz.ntmps24;go_wp2;refine qar (by kernel_rfl) rfl (fun i u x=>match i with
  |0=>u=.pointer (some ((⟨w.heap.size,0,none⟩ : Addr).add 0))
  |1=>u=.int .i64 p.ty
  |2=>u=.bool true
  |3 | 4=>u=.bool false
  |5 | 6=>u=.agg p.cells
  |7=>u=.agg q.cells
  |8=>u=.bool (decide (pv p d=pv q dq))
  |_=>u=.bool (!decide (pv p d=pv q dq))) ?_ ?_ ?_
 ·intro i u x x' hx h;exact h
 ·intro i o a u hi hk hbu hdep
  match i,hi with
  |0,hi=>
   cases hi;have e1:a.tmps[1]? = some (.pointer (some ⟨w.heap.size,0,none⟩)):=(hk.at 1 rfl).trans rfl;exact g_run (qaa rfl _) (qad (w':=u) (v:=.pointer (some ((⟨w.heap.size,0,none⟩ : Addr).add 0))) (by simp only[execOp,qab e1,Sem.run_bind,fld0,Result.andThen_ok,Sem.run_pure]) ⟨_,rfl,Below.refl _ _,rfl⟩)
  |1,hi=>
   cases hi;obtain⟨z,hz,rfl⟩:=hdep 0 _ _ rfl rfl rfl;have hl:=qaf (P:=Tryz.prog) (w:=u) Tryz.underlying3 rfl (X:=(⟨w.heap.size,0,none⟩ : Addr).add 0) (((A.next hbu).cell 0).trans p.c0);exact g_run (qaa rfl _) (qad (w':=u) (v:=.int .i64 p.ty) (by simp only[execOp,qab hz,Sem.run_bind,hl,Result.andThen_ok,Sem.run_pure]) ⟨_,rfl,Below.refl _ _,rfl⟩)
  |2,hi=>
   cases hi;obtain⟨z,hz,rfl⟩:=hdep 1 _ _ rfl rfl rfl;refine g_run (qaa rfl _) (qaj (qca _ _ _ _ _ _ _ _ _ _ qdw (qab hz) rfl rfl (fun _=>rfl) _ _ _ _ _ _) ?_);refine (qan _ _ _ true _ (decide_eq_true ht)).mono ?_;rintro e u' ⟨rfl,rfl⟩;exact⟨_,rfl,_,rfl,Below.refl _ _,rfl⟩
  |3,hi=>
   cases hi;obtain⟨z,hz,rfl⟩:=hdep 2 _ _ rfl rfl rfl;exact g_run (qaa rfl _) (qad (v:=.bool false) (w':=u) (by simp[execOp,qab hz,Op.unary]) ⟨_,rfl,Below.refl _ _,rfl⟩)
  |4,hi=>
   cases hi;obtain⟨z,hz,rfl⟩:=hdep 3 _ _ rfl rfl rfl;exact g_run (qaa rfl _) (qad (by simp[execOp,qab hz]) ⟨_,rfl,Below.refl _ _,rfl⟩)
  |5,hi=>
   cases hi;obtain⟨z,hz,rfl⟩:=hdep 4 _ _ rfl rfl rfl;exact g_run (qah rfl (qao rfl hz)) (qbk (A.next hbu) _ rfl (qab ((hk.at 1 rfl).trans rfl)) ⟨_,rfl,Below.refl _ _,rfl⟩)
  |6,hi=>
   cases hi;obtain⟨z,hz,rfl⟩:=hdep 4 _ _ rfl rfl rfl;exact g_run (qah rfl (qao rfl hz)) (qbk (A.next hbu) _ rfl (qab ((hk.at 1 rfl).trans rfl)) ⟨_,rfl,Below.refl _ _,rfl⟩)
  |7,hi=>
   cases hi;obtain⟨z,hz,rfl⟩:=hdep 4 _ _ rfl rfl rfl;obtain⟨z',hz',rfl⟩:=hdep 6 _ _ rfl rfl rfl;refine g_run (qah rfl (qao rfl hz)) (qaj (qbt _ _ _ _ _ _ qeq (qab hz') (fun _=>rfl) _ _ _ _ _ _) ?_);refine (hnam u).mono ?_;rintro e u' ⟨rfl,hb'⟩;exact⟨_,rfl,_,rfl,hb',rfl⟩
  |8,hi=>
   cases hi;obtain⟨z,hz,rfl⟩:=hdep 4 _ _ rfl rfl rfl;obtain⟨z5,hz5,rfl⟩:=hdep 5 _ _ rfl rfl rfl;obtain⟨z7,hz7,rfl⟩:=hdep 7 _ _ rfl rfl rfl;refine g_run (qah rfl (qao rfl hz)) (qaj (qag _ _ _ _ _ _ _ _ qdk (qab hz5) (qab hz7) (fun _=>rfl) _ _ _ _ _ _) ?_);refine (qay p q d dq u (hp.below hbu) (hq u (hp.below hbu))).mono ?_;rintro e u' ⟨rfl,hb'⟩;exact⟨_,rfl,_,rfl,hb',rfl⟩
  |9,hi=>
   cases hi;obtain⟨z,hz,rfl⟩:=hdep 4 _ _ rfl rfl rfl;obtain⟨z',hz',rfl⟩:=hdep 8 _ _ rfl rfl rfl;exact g_run (qah rfl (qao rfl hz)) (qad (v:=.bool (!decide (pv p d=pv q dq))) (w':=u) (by simp[execOp,qab hz',Op.unary]) ⟨_,rfl,Below.refl _ _,rfl⟩)
  |10,hi=>
   cases hi;obtain⟨z,hz,rfl⟩:=hdep 4 _ _ rfl rfl rfl;obtain⟨z',hz',rfl⟩:=hdep 9 _ _ rfl rfl rfl;exact g_run (qaa rfl _) (qad (v:=.bool (!decide (pv p d=pv q dq))) (w':=u) (by simp[execOp,qab hz,qab hz',asBool]) ⟨_,rfl,Below.refl _ _,rfl⟩)
  |(_+11),hi=>cases hi
 intro vs y b1 hG a3 h3;have g10:vs 10=.bool (!decide (pv p d=pv q dq)):=hG 10 (by decide);clear hG;replace h3:puts _ 1 _ Fr191=a3:=h3;replace h3:puts _ 2 _ Fr191=a3:=h3;replace h3:puts _ 3 _ Fr191=a3:=h3;replace h3:puts _ 4 _ Fr191=a3:=h3;replace h3:puts _ 5 _ Fr191=a3:=h3;replace h3:puts _ 6 _ Fr191=a3:=h3;replace h3:puts _ 7 _ Fr191=a3:=h3;replace h3:puts _ 8 _ Fr191=a3:=h3;replace h3:puts _ 9 _ Fr191=a3:=h3;replace h3:puts _ 10 _ Fr191=a3:=h3;replace h3:puts _ 11 _ Fr191=a3:=h3;replace h3:Fr191=_:=h3;unfold Fr191 at h3;subst h3;replace hb:=bel hb b1;replace A:=A.next b1;replace hp:=hp.below b1;clear b1;rw[decide_eq_true heq] at g10;simp only[g10];clear hnam hq g10 heq;have f0:y.cell? ⟨w.heap.size,0,none⟩ = some (.int .i64 p.ty):=(A.cell 0).trans p.c0;have f4:y.cell? ⟨w.heap.size,4,none⟩ = some (.int .i64 p.id):=(A.cell 4).trans p.c4;clear A
 rcases hk with hk | hk | hk | hk | hk
 all_goals
  rw[hk] at f0;go_wp2_with fail
  refine (qan p.id 1 65535 (inB p.id 1 65535) _ rfl).mono ?_;rintro e zi ⟨rfl,hzi⟩;subst hzi;go_wp2;go_ret;exact⟨rfl,hb⟩
theorem sok_n (p:Pk) (d:Pd) (w:World) (hp:PRd w p d) (q:Pk) (dq:Pd) (ht:1≤p.ty∧p.ty≤14)
  (hnam:∀u:World,Calls Tryz.prog 49 #[.agg p.cells] u fun e u'=>e=.returned (.agg q.cells)∧Below u.heap.size u u')
  (hq:∀u:World,PRd u p d→PRd u q dq) (hk:p.ty=12∨p.ty=13∨p.ty=14) (heq:pv p d=pv q dq) :
  Calls Tryz.prog 24 #[.agg p.cells] w fun e w'=>e=.returned (.bool (true))∧Below w.heap.size w w':=by
 have hb:Below w.heap.size w (w.alloc (.cells p.cells 32)):=qae _ _;have A:Blk (w.alloc (.cells p.cells 32)) w.heap.size p:=heap_alloc_new _ _;replace hp:=hp.below hb;go_enter Tryz.func24,Tryz.ntmps24;go_wp2;refine qar (by kernel_rfl) rfl (fun i u x=>match i with
  |0=>u=.pointer (some ((⟨w.heap.size,0,none⟩ : Addr).add 0))
  |1=>u=.int .i64 p.ty
  |2=>u=.bool true
  |3 | 4=>u=.bool false
  |5 | 6=>u=.agg p.cells
  |7=>u=.agg q.cells
  |8=>u=.bool (decide (pv p d=pv q dq))
  |_=>u=.bool (!decide (pv p d=pv q dq))) ?_ ?_ ?_
 ·intro i u x x' hx h;exact h
 ·intro i o a u hi hk hbu hdep
  match i,hi with
  |0,hi=>
   cases hi;have e1:a.tmps[1]? = some (.pointer (some ⟨w.heap.size,0,none⟩)):=(hk.at 1 rfl).trans rfl;exact g_run (qaa rfl _) (qad (w':=u) (v:=.pointer (some ((⟨w.heap.size,0,none⟩ : Addr).add 0))) (by simp only[execOp,qab e1,Sem.run_bind,fld0,Result.andThen_ok,Sem.run_pure]) ⟨_,rfl,Below.refl _ _,rfl⟩)
  |1,hi=>
   cases hi;obtain⟨z,hz,rfl⟩:=hdep 0 _ _ rfl rfl rfl;have hl:=qaf (P:=Tryz.prog) (w:=u) Tryz.underlying3 rfl (X:=(⟨w.heap.size,0,none⟩ : Addr).add 0) (((A.next hbu).cell 0).trans p.c0);exact g_run (qaa rfl _) (qad (w':=u) (v:=.int .i64 p.ty) (by simp only[execOp,qab hz,Sem.run_bind,hl,Result.andThen_ok,Sem.run_pure]) ⟨_,rfl,Below.refl _ _,rfl⟩)
  |2,hi=>
   cases hi;obtain⟨z,hz,rfl⟩:=hdep 1 _ _ rfl rfl rfl;refine g_run (qaa rfl _) (qaj (qca _ _ _ _ _ _ _ _ _ _ qdw (qab hz) rfl rfl (fun _=>rfl) _ _ _ _ _ _) ?_);refine (qan _ _ _ true _ (decide_eq_true ht)).mono ?_;rintro e u' ⟨rfl,rfl⟩;exact⟨_,rfl,_,rfl,Below.refl _ _,rfl⟩
  |3,hi=>
   cases hi;obtain⟨z,hz,rfl⟩:=hdep 2 _ _ rfl rfl rfl;exact g_run (qaa rfl _) (qad (v:=.bool false) (w':=u) (by simp[execOp,qab hz,Op.unary]) ⟨_,rfl,Below.refl _ _,rfl⟩)
  |4,hi=>
   cases hi;obtain⟨z,hz,rfl⟩:=hdep 3 _ _ rfl rfl rfl;exact g_run (qaa rfl _) (qad (by simp[execOp,qab hz]) ⟨_,rfl,Below.refl _ _,rfl⟩)
  |5,hi=>
   cases hi;obtain⟨z,hz,rfl⟩:=hdep 4 _ _ rfl rfl rfl;exact g_run (qah rfl (qao rfl hz)) (qbk (A.next hbu) _ rfl (qab ((hk.at 1 rfl).trans rfl)) ⟨_,rfl,Below.refl _ _,rfl⟩)
  |6,hi=>
   cases hi;obtain⟨z,hz,rfl⟩:=hdep 4 _ _ rfl rfl rfl;exact g_run (qah rfl (qao rfl hz)) (qbk (A.next hbu) _ rfl (qab ((hk.at 1 rfl).trans rfl)) ⟨_,rfl,Below.refl _ _,rfl⟩)
  |7,hi=>
   cases hi;obtain⟨z,hz,rfl⟩:=hdep 4 _ _ rfl rfl rfl;obtain⟨z',hz',rfl⟩:=hdep 6 _ _ rfl rfl rfl;refine g_run (qah rfl (qao rfl hz)) (qaj (qbt _ _ _ _ _ _ qeq (qab hz') (fun _=>rfl) _ _ _ _ _ _) ?_);refine (hnam u).mono ?_;rintro e u' ⟨rfl,hb'⟩;exact⟨_,rfl,_,rfl,hb',rfl⟩
  |8,hi=>
   cases hi;obtain⟨z,hz,rfl⟩:=hdep 4 _ _ rfl rfl rfl;obtain⟨z5,hz5,rfl⟩:=hdep 5 _ _ rfl rfl rfl;obtain⟨z7,hz7,rfl⟩:=hdep 7 _ _ rfl rfl rfl;refine g_run (qah rfl (qao rfl hz)) (qaj (qag _ _ _ _ _ _ _ _ qdk (qab hz5) (qab hz7) (fun _=>rfl) _ _ _ _ _ _) ?_);refine (qay p q d dq u (hp.below hbu) (hq u (hp.below hbu))).mono ?_;rintro e u' ⟨rfl,hb'⟩;exact⟨_,rfl,_,rfl,hb',rfl⟩
  |9,hi=>
   cases hi;obtain⟨z,hz,rfl⟩:=hdep 4 _ _ rfl rfl rfl;obtain⟨z',hz',rfl⟩:=hdep 8 _ _ rfl rfl rfl;exact g_run (qah rfl (qao rfl hz)) (qad (v:=.bool (!decide (pv p d=pv q dq))) (w':=u) (by simp[execOp,qab hz',Op.unary]) ⟨_,rfl,Below.refl _ _,rfl⟩)
  |10,hi=>
   cases hi;obtain⟨z,hz,rfl⟩:=hdep 4 _ _ rfl rfl rfl;obtain⟨z',hz',rfl⟩:=hdep 9 _ _ rfl rfl rfl;exact g_run (qaa rfl _) (qad (v:=.bool (!decide (pv p d=pv q dq))) (w':=u) (by simp[execOp,qab hz,qab hz',asBool]) ⟨_,rfl,Below.refl _ _,rfl⟩)
  |(_+11),hi=>cases hi
 intro vs y b1 hG a3 h3;have g10:vs 10=.bool (!decide (pv p d=pv q dq)):=hG 10 (by decide);clear hG;replace h3:puts _ 1 _ Fr191=a3:=h3;replace h3:puts _ 2 _ Fr191=a3:=h3;replace h3:puts _ 3 _ Fr191=a3:=h3;replace h3:puts _ 4 _ Fr191=a3:=h3;replace h3:puts _ 5 _ Fr191=a3:=h3;replace h3:puts _ 6 _ Fr191=a3:=h3;replace h3:puts _ 7 _ Fr191=a3:=h3;replace h3:puts _ 8 _ Fr191=a3:=h3;replace h3:puts _ 9 _ Fr191=a3:=h3;replace h3:puts _ 10 _ Fr191=a3:=h3;replace h3:puts _ 11 _ Fr191=a3:=h3;replace h3:Fr191=_:=h3;unfold Fr191 at h3;subst h3;replace hb:=bel hb b1;replace A:=A.next b1;replace hp:=hp.below b1;clear b1;rw[decide_eq_true heq] at g10;simp only[g10];clear hnam hq g10 heq;have f0:y.cell? ⟨w.heap.size,0,none⟩ = some (.int .i64 p.ty):=(A.cell 0).trans p.c0;have f4:y.cell? ⟨w.heap.size,4,none⟩ = some (.int .i64 p.id):=(A.cell 4).trans p.c4;clear A
 rcases hk with hk | hk | hk
 all_goals
  rw[hk] at f0;go_wp2_with fail
  refine (qan p.id 1 65535 (inB p.id 1 65535) _ rfl).mono ?_;rintro e zi ⟨rfl,hzi⟩;subst hzi;go_wp2;go_ret;exact⟨rfl,hb⟩
theorem sok_2 (p:Pk) (d:Pd) (w:World) (hp:PRd w p d) (q:Pk) (dq:Pd) (ht:1≤p.ty∧p.ty≤14)
  (hnam:∀u:World,Calls Tryz.prog 49 #[.agg p.cells] u fun e u'=>e=.returned (.agg q.cells)∧Below u.heap.size u u')
  (hq:∀u:World,PRd u p d→PRd u q dq) (hk:p.ty=2) (heq:pv p d=pv q dq) :
  Calls Tryz.prog 24 #[.agg p.cells] w fun e w'=>e=.returned (.bool (inB p.cod 0 5))∧Below w.heap.size w w':=by
 have hb:Below w.heap.size w (w.alloc (.cells p.cells 32)):=qae _ _;have A:Blk (w.alloc (.cells p.cells 32)) w.heap.size p:=heap_alloc_new _ _;replace hp:=hp.below hb;go_enter Tryz.func24,Tryz.ntmps24;go_wp2;refine qar (by kernel_rfl) rfl (fun i u x=>match i with
  |0=>u=.pointer (some ((⟨w.heap.size,0,none⟩ : Addr).add 0))
  |1=>u=.int .i64 p.ty
  |2=>u=.bool true
  |3 | 4=>u=.bool false
  |5 | 6=>u=.agg p.cells
  |7=>u=.agg q.cells
  |8=>u=.bool (decide (pv p d=pv q dq))
  |_=>u=.bool (!decide (pv p d=pv q dq))) ?_ ?_ ?_
 ·intro i u x x' hx h;exact h
 ·intro i o a u hi hk hbu hdep
  match i,hi with
  |0,hi=>
   cases hi;have e1:a.tmps[1]? = some (.pointer (some ⟨w.heap.size,0,none⟩)):=(hk.at 1 rfl).trans rfl;exact g_run (qaa rfl _) (qad (w':=u) (v:=.pointer (some ((⟨w.heap.size,0,none⟩ : Addr).add 0))) (by simp only[execOp,qab e1,Sem.run_bind,fld0,Result.andThen_ok,Sem.run_pure]) ⟨_,rfl,Below.refl _ _,rfl⟩)
  |1,hi=>
   cases hi;obtain⟨z,hz,rfl⟩:=hdep 0 _ _ rfl rfl rfl;have hl:=qaf (P:=Tryz.prog) (w:=u) Tryz.underlying3 rfl (X:=(⟨w.heap.size,0,none⟩ : Addr).add 0) (((A.next hbu).cell 0).trans p.c0);exact g_run (qaa rfl _) (qad (w':=u) (v:=.int .i64 p.ty) (by simp only[execOp,qab hz,Sem.run_bind,hl,Result.andThen_ok,Sem.run_pure]) ⟨_,rfl,Below.refl _ _,rfl⟩)
  |2,hi=>
   cases hi;obtain⟨z,hz,rfl⟩:=hdep 1 _ _ rfl rfl rfl;refine g_run (qaa rfl _) (qaj (qca _ _ _ _ _ _ _ _ _ _ qdw (qab hz) rfl rfl (fun _=>rfl) _ _ _ _ _ _) ?_);refine (qan _ _ _ true _ (decide_eq_true ht)).mono ?_;rintro e u' ⟨rfl,rfl⟩;exact⟨_,rfl,_,rfl,Below.refl _ _,rfl⟩
  |3,hi=>
   cases hi;obtain⟨z,hz,rfl⟩:=hdep 2 _ _ rfl rfl rfl;exact g_run (qaa rfl _) (qad (v:=.bool false) (w':=u) (by simp[execOp,qab hz,Op.unary]) ⟨_,rfl,Below.refl _ _,rfl⟩)
  |4,hi=>
   cases hi;obtain⟨z,hz,rfl⟩:=hdep 3 _ _ rfl rfl rfl;exact g_run (qaa rfl _) (qad (by simp[execOp,qab hz]) ⟨_,rfl,Below.refl _ _,rfl⟩)
  |5,hi=>
   cases hi;obtain⟨z,hz,rfl⟩:=hdep 4 _ _ rfl rfl rfl;exact g_run (qah rfl (qao rfl hz)) (qbk (A.next hbu) _ rfl (qab ((hk.at 1 rfl).trans rfl)) ⟨_,rfl,Below.refl _ _,rfl⟩)
  |6,hi=>
   cases hi;obtain⟨z,hz,rfl⟩:=hdep 4 _ _ rfl rfl rfl;exact g_run (qah rfl (qao rfl hz)) (qbk (A.next hbu) _ rfl (qab ((hk.at 1 rfl).trans rfl)) ⟨_,rfl,Below.refl _ _,rfl⟩)
  |7,hi=>
   cases hi;obtain⟨z,hz,rfl⟩:=hdep 4 _ _ rfl rfl rfl;obtain⟨z',hz',rfl⟩:=hdep 6 _ _ rfl rfl rfl;refine g_run (qah rfl (qao rfl hz)) (qaj (qbt _ _ _ _ _ _ qeq (qab hz') (fun _=>rfl) _ _ _ _ _ _) ?_);refine (hnam u).mono ?_;rintro e u' ⟨rfl,hb'⟩;exact⟨_,rfl,_,rfl,hb',rfl⟩
  |8,hi=>
   cases hi;obtain⟨z,hz,rfl⟩:=hdep 4 _ _ rfl rfl rfl;obtain⟨z5,hz5,rfl⟩:=hdep 5 _ _ rfl rfl rfl;obtain⟨z7,hz7,rfl⟩:=hdep 7 _ _ rfl rfl rfl;refine g_run (qah rfl (qao rfl hz)) (qaj (qag _ _ _ _ _ _ _ _ qdk (qab hz5) (qab hz7) (fun _=>rfl) _ _ _ _ _ _) ?_);refine (qay p q d dq u (hp.below hbu) (hq u (hp.below hbu))).mono ?_;rintro e u' ⟨rfl,hb'⟩;exact⟨_,rfl,_,rfl,hb',rfl⟩
  |9,hi=>
   cases hi;obtain⟨z,hz,rfl⟩:=hdep 4 _ _ rfl rfl rfl;obtain⟨z',hz',rfl⟩:=hdep 8 _ _ rfl rfl rfl;exact g_run (qah rfl (qao rfl hz)) (qad (v:=.bool (!decide (pv p d=pv q dq))) (w':=u) (by simp[execOp,qab hz',Op.unary]) ⟨_,rfl,Below.refl _ _,rfl⟩)
  |10,hi=>
   cases hi;obtain⟨z,hz,rfl⟩:=hdep 4 _ _ rfl rfl rfl;obtain⟨z',hz',rfl⟩:=hdep 9 _ _ rfl rfl rfl;exact g_run (qaa rfl _) (qad (v:=.bool (!decide (pv p d=pv q dq))) (w':=u) (by simp[execOp,qab hz,qab hz',asBool]) ⟨_,rfl,Below.refl _ _,rfl⟩)
  |(_+11),hi=>cases hi
 intro vs y b1 hG a3 h3;have g10:vs 10=.bool (!decide (pv p d=pv q dq)):=hG 10 (by decide);clear hG;replace h3:puts _ 1 _ Fr191=a3:=h3;replace h3:puts _ 2 _ Fr191=a3:=h3;replace h3:puts _ 3 _ Fr191=a3:=h3;replace h3:puts _ 4 _ Fr191=a3:=h3;replace h3:puts _ 5 _ Fr191=a3:=h3;replace h3:puts _ 6 _ Fr191=a3:=h3;replace h3:puts _ 7 _ Fr191=a3:=h3;replace h3:puts _ 8 _ Fr191=a3:=h3;replace h3:puts _ 9 _ Fr191=a3:=h3;replace h3:puts _ 10 _ Fr191=a3:=h3;replace h3:puts _ 11 _ Fr191=a3:=h3;replace h3:Fr191=_:=h3;unfold Fr191 at h3;subst h3;replace hb:=bel hb b1;replace A:=A.next b1;replace hp:=hp.below b1;clear b1;rw[decide_eq_true heq] at g10;simp only[g10];clear hnam hq g10 heq;have f0:y.cell? ⟨w.heap.size,0,none⟩ = some (.int .i64 2):=(A.cell 0).trans (p.c0.trans (by rw[hk]));have f4:y.cell? ⟨w.heap.size,4,none⟩ = some (.int .i64 p.id):=(A.cell 4).trans p.c4;have f20:y.cell? ⟨w.heap.size,20,none⟩ = some (.int .i64 p.cod):=(A.cell 20).trans p.c20;clear A;go_wp2_with fail
 refine (qan p.id 1 65535 (inB p.id 1 65535) _ rfl).mono ?_;rintro e zi ⟨rfl,hzi⟩;subst hzi;go_wp2_with fail
 refine (qan p.cod 0 5 (inB p.cod 0 5) _ rfl).mono ?_;rintro e z2 ⟨rfl,hz2⟩;subst hz2;go_wp2;go_ret;exact⟨rfl,hb⟩
theorem sok_3 (p:Pk) (d:Pd) (w:World) (hp:PRd w p d) (q:Pk) (dq:Pd) (ht:1≤p.ty∧p.ty≤14)
  (hnam:∀u:World,Calls Tryz.prog 49 #[.agg p.cells] u fun e u'=>e=.returned (.agg q.cells)∧Below u.heap.size u u')
  (hq:∀u:World,PRd u p d→PRd u q dq) (hk:p.ty=3) (heq:pv p d=pv q dq) (hs:p.top.size≤1048576) :
  Calls Tryz.prog 24 #[.agg p.cells] w fun e w'=>e=.returned (.bool (inB p.qos 0 2&&((decide (p.qos=0) || inB p.id 1 65535)&&(topOk p.top.data.toList&&decide ((p.bod.n:Int)≤40)))))∧Below w.heap.size w w':=by
 have hb:Below w.heap.size w (w.alloc (.cells p.cells 32)):=qae _ _;have A:Blk (w.alloc (.cells p.cells 32)) w.heap.size p:=heap_alloc_new _ _;replace hp:=hp.below hb;go_enter Tryz.func24,Tryz.ntmps24;go_wp2;refine qar (by kernel_rfl) rfl (fun i u x=>match i with
  |0=>u=.pointer (some ((⟨w.heap.size,0,none⟩ : Addr).add 0))
  |1=>u=.int .i64 p.ty
  |2=>u=.bool true
  |3 | 4=>u=.bool false
  |5 | 6=>u=.agg p.cells
  |7=>u=.agg q.cells
  |8=>u=.bool (decide (pv p d=pv q dq))
  |_=>u=.bool (!decide (pv p d=pv q dq))) ?_ ?_ ?_
 ·intro i u x x' hx h;exact h
 ·intro i o a u hi hk hbu hdep
  match i,hi with
  |0,hi=>
   cases hi;have e1:a.tmps[1]? = some (.pointer (some ⟨w.heap.size,0,none⟩)):=(hk.at 1 rfl).trans rfl;exact g_run (qaa rfl _) (qad (w':=u) (v:=.pointer (some ((⟨w.heap.size,0,none⟩ : Addr).add 0))) (by simp only[execOp,qab e1,Sem.run_bind,fld0,Result.andThen_ok,Sem.run_pure]) ⟨_,rfl,Below.refl _ _,rfl⟩)
  |1,hi=>
   cases hi;obtain⟨z,hz,rfl⟩:=hdep 0 _ _ rfl rfl rfl;have hl:=qaf (P:=Tryz.prog) (w:=u) Tryz.underlying3 rfl (X:=(⟨w.heap.size,0,none⟩ : Addr).add 0) (((A.next hbu).cell 0).trans p.c0);exact g_run (qaa rfl _) (qad (w':=u) (v:=.int .i64 p.ty) (by simp only[execOp,qab hz,Sem.run_bind,hl,Result.andThen_ok,Sem.run_pure]) ⟨_,rfl,Below.refl _ _,rfl⟩)
  |2,hi=>
   cases hi;obtain⟨z,hz,rfl⟩:=hdep 1 _ _ rfl rfl rfl;refine g_run (qaa rfl _) (qaj (qca _ _ _ _ _ _ _ _ _ _ qdw (qab hz) rfl rfl (fun _=>rfl) _ _ _ _ _ _) ?_);refine (qan _ _ _ true _ (decide_eq_true ht)).mono ?_;rintro e u' ⟨rfl,rfl⟩;exact⟨_,rfl,_,rfl,Below.refl _ _,rfl⟩
  |3,hi=>
   cases hi;obtain⟨z,hz,rfl⟩:=hdep 2 _ _ rfl rfl rfl;exact g_run (qaa rfl _) (qad (v:=.bool false) (w':=u) (by simp[execOp,qab hz,Op.unary]) ⟨_,rfl,Below.refl _ _,rfl⟩)
  |4,hi=>
   cases hi;obtain⟨z,hz,rfl⟩:=hdep 3 _ _ rfl rfl rfl;exact g_run (qaa rfl _) (qad (by simp[execOp,qab hz]) ⟨_,rfl,Below.refl _ _,rfl⟩)
  |5,hi=>
   cases hi;obtain⟨z,hz,rfl⟩:=hdep 4 _ _ rfl rfl rfl;exact g_run (qah rfl (qao rfl hz)) (qbk (A.next hbu) _ rfl (qab ((hk.at 1 rfl).trans rfl)) ⟨_,rfl,Below.refl _ _,rfl⟩)
  |6,hi=>
   cases hi;obtain⟨z,hz,rfl⟩:=hdep 4 _ _ rfl rfl rfl;exact g_run (qah rfl (qao rfl hz)) (qbk (A.next hbu) _ rfl (qab ((hk.at 1 rfl).trans rfl)) ⟨_,rfl,Below.refl _ _,rfl⟩)
  |7,hi=>
   cases hi;obtain⟨z,hz,rfl⟩:=hdep 4 _ _ rfl rfl rfl;obtain⟨z',hz',rfl⟩:=hdep 6 _ _ rfl rfl rfl;refine g_run (qah rfl (qao rfl hz)) (qaj (qbt _ _ _ _ _ _ qeq (qab hz') (fun _=>rfl) _ _ _ _ _ _) ?_);refine (hnam u).mono ?_;rintro e u' ⟨rfl,hb'⟩;exact⟨_,rfl,_,rfl,hb',rfl⟩
  |8,hi=>
   cases hi;obtain⟨z,hz,rfl⟩:=hdep 4 _ _ rfl rfl rfl;obtain⟨z5,hz5,rfl⟩:=hdep 5 _ _ rfl rfl rfl;obtain⟨z7,hz7,rfl⟩:=hdep 7 _ _ rfl rfl rfl;refine g_run (qah rfl (qao rfl hz)) (qaj (qag _ _ _ _ _ _ _ _ qdk (qab hz5) (qab hz7) (fun _=>rfl) _ _ _ _ _ _) ?_);refine (qay p q d dq u (hp.below hbu) (hq u (hp.below hbu))).mono ?_;rintro e u' ⟨rfl,hb'⟩;exact⟨_,rfl,_,rfl,hb',rfl⟩
  |9,hi=>
   cases hi;obtain⟨z,hz,rfl⟩:=hdep 4 _ _ rfl rfl rfl;obtain⟨z',hz',rfl⟩:=hdep 8 _ _ rfl rfl rfl;exact g_run (qah rfl (qao rfl hz)) (qad (v:=.bool (!decide (pv p d=pv q dq))) (w':=u) (by simp[execOp,qab hz',Op.unary]) ⟨_,rfl,Below.refl _ _,rfl⟩)
  |10,hi=>
   cases hi;obtain⟨z,hz,rfl⟩:=hdep 4 _ _ rfl rfl rfl;obtain⟨z',hz',rfl⟩:=hdep 9 _ _ rfl rfl rfl;exact g_run (qaa rfl _) (qad (v:=.bool (!decide (pv p d=pv q dq))) (w':=u) (by simp[execOp,qab hz,qab hz',asBool]) ⟨_,rfl,Below.refl _ _,rfl⟩)
  |(_+11),hi=>cases hi
 intro vs y b1 hG a3 h3;have g10:vs 10=.bool (!decide (pv p d=pv q dq)):=hG 10 (by decide);clear hG;replace h3:puts _ 1 _ Fr191=a3:=h3;replace h3:puts _ 2 _ Fr191=a3:=h3;replace h3:puts _ 3 _ Fr191=a3:=h3;replace h3:puts _ 4 _ Fr191=a3:=h3;replace h3:puts _ 5 _ Fr191=a3:=h3;replace h3:puts _ 6 _ Fr191=a3:=h3;replace h3:puts _ 7 _ Fr191=a3:=h3;replace h3:puts _ 8 _ Fr191=a3:=h3;replace h3:puts _ 9 _ Fr191=a3:=h3;replace h3:puts _ 10 _ Fr191=a3:=h3;replace h3:puts _ 11 _ Fr191=a3:=h3;replace h3:Fr191=_:=h3;unfold Fr191 at h3;subst h3;replace hb:=bel hb b1;replace A:=A.next b1;replace hp:=hp.below b1;clear b1;rw[decide_eq_true heq] at g10;simp only[g10];clear hnam hq g10 heq;have f0:y.cell? ⟨w.heap.size,0,none⟩ = some (.int .i64 3):=(A.cell 0).trans (p.c0.trans (by rw[hk]));have f4:y.cell? ⟨w.heap.size,4,none⟩ = some (.int .i64 p.id):=(A.cell 4).trans p.c4;have f2:y.cell? ⟨w.heap.size,2,none⟩ = some (.int .i64 p.qos):=(A.cell 2).trans p.c2;have f5:y.cell? ⟨w.heap.size,5,none⟩ = some (.string p.top):=(A.cell 5).trans p.c5;have f6:y.cell? ⟨w.heap.size,6,none⟩ = some (.slice p.bod.a p.bod.n p.bod.c):=(A.cell 6).trans p.c6;clear A;go_wp2_with fail
 refine (qan p.id 1 65535 (inB p.id 1 65535) _ rfl).mono ?_;rintro e zi ⟨rfl,hzi⟩;subst hzi;generalize hI:inB p.id 1 65535=I;have HI:Hid (inB p.id 1 65535=I):=hI;clear hI;go_wp2_with fail
 refine (qan p.qos 0 2 (inB p.qos 0 2) _ rfl).mono ?_;rintro e z2 ⟨rfl,hz2⟩;subst hz2;cases hv:inB p.qos 0 2
 ·have V1:Hid (inB p.qos 0 2=false):=hv;clear hv;go_wp2;go_ret;exact⟨qac (by rw[V1.out];simp),hb⟩
 have V1:Hid (inB p.qos 0 2=true):=hv;clear hv
 by_cases h0:p.qos=0
 ·have V2:Hid ((decide (p.qos=0) || inB p.id 1 65535)=true):=by show _=_;rw[decide_eq_true h0,Bool.true_or]
  have q0:(p.qos==0)=true:=by simpa using h0
  clear h0;go_wp2_with fail
  refine (qfy p.top _ hs).mono ?_;rintro e z5 ⟨rfl,hz5⟩;replace f6:z5.cell? ⟨w.heap.size,6,none⟩ = some (.slice p.bod.a p.bod.n p.bod.c):=(hz5.cell (World.block_lt_of_cell? _ _ f6)).trans f6;replace hb:=bel hb hz5;clear hz5;cases hv:topOk p.top.data.toList
  ·have V3:Hid (topOk p.top.data.toList=false):=hv;clear hv;go_wp2;go_ret;exact⟨qac (by rw[V1.out];rw[V2.out];rw[V3.out];simp),hb⟩
  have V3:Hid (topOk p.top.data.toList=true):=hv;clear hv;go_wp2;go_ret;exact⟨qac (by rw[V1.out];rw[V2.out];rw[V3.out];simp),hb⟩
 have q0:(p.qos==0)=false:=by simpa using h0
 cases I
 ·have V2:Hid ((decide (p.qos=0) || inB p.id 1 65535)=false):=by show _=_;rw[decide_eq_false h0,HI.out];rfl
  clear h0;go_wp2;go_ret;exact⟨qac (by rw[V1.out];rw[V2.out];simp),hb⟩
 have V2:Hid ((decide (p.qos=0) || inB p.id 1 65535)=true):=by show _=_;rw[HI.out,Bool.or_true]
 clear h0;go_wp2_with fail
 refine (qfy p.top _ hs).mono ?_;rintro e z5 ⟨rfl,hz5⟩;replace f6:z5.cell? ⟨w.heap.size,6,none⟩ = some (.slice p.bod.a p.bod.n p.bod.c):=(hz5.cell (World.block_lt_of_cell? _ _ f6)).trans f6;replace hb:=bel hb hz5;clear hz5;cases hv:topOk p.top.data.toList
 ·have V3:Hid (topOk p.top.data.toList=false):=hv;clear hv;go_wp2;go_ret;exact⟨qac (by rw[V1.out];rw[V2.out];rw[V3.out];simp),hb⟩
 have V3:Hid (topOk p.top.data.toList=true):=hv;clear hv;go_wp2;go_ret;exact⟨qac (by rw[V1.out];rw[V2.out];rw[V3.out];simp),hb⟩
