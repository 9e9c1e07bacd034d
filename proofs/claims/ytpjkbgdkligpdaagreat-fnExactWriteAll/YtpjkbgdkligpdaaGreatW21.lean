/- Lemmas. -/
import Derived.Deep.Cut
import Derived.Test.YtpjkbgdkligpdaaGreatW14
import Derived.Test.YtpjkbgdkligpdaaGreatW01
set_option linter.unusedVariables false
set_option linter.unusedSimpArgs false
set_option maxRecDepth 100000
set_option maxHeartbeats 20000000
namespace Go.Proofs.YtpjkbgdkligpdaaGreat
open Go.RowKit

theorem qbf (w:World) (A B C:Obj):(((w.alloc A).alloc B).alloc C).heap[w.heap.size+1]? = some B :=
 (heap_alloc_old ((w.alloc A).alloc B) C (by show w.heap.size+1<((w.heap.push A).push B).size;simp)).trans (heap_alloc2_new w A B)
theorem qbg (w:World) (A B C:Obj):(((w.alloc A).alloc B).alloc C).heap[w.heap.size+1+1]? = some C:=by
 have h:=heap_alloc2_new (w.alloc A) B C;have e:(w.alloc A).heap.size=w.heap.size+1:=by
  show (w.heap.push A).size=_;simp
 rwa [e] at h
theorem Pk.set1 (q:Pk) (x:Bool):q.cells.setIfInBounds 1 (.bool x)=(Pk.mk q.ty x q.qos q.ret q.id q.top q.bod q.cli q.lev q.cln q.kee q.hw q.wt q.wb q.wq q.wr q.hu q.us q.hp q.pa q.cod q.pre q.wan q.nam q.cds).cells:=rfl
theorem Pk.set2 (q:Pk) (x:Int):q.cells.setIfInBounds 2 (.int .i64 x)=(Pk.mk q.ty q.dup x q.ret q.id q.top q.bod q.cli q.lev q.cln q.kee q.hw q.wt q.wb q.wq q.wr q.hu q.us q.hp q.pa q.cod q.pre q.wan q.nam q.cds).cells:=rfl
theorem Pk.set3 (q:Pk) (x:Bool):q.cells.setIfInBounds 3 (.bool x)=(Pk.mk q.ty q.dup q.qos x q.id q.top q.bod q.cli q.lev q.cln q.kee q.hw q.wt q.wb q.wq q.wr q.hu q.us q.hp q.pa q.cod q.pre q.wan q.nam q.cds).cells:=rfl
theorem Pk.set4 (q:Pk) (x:Int):q.cells.setIfInBounds 4 (.int .i64 x)=(Pk.mk q.ty q.dup q.qos q.ret x q.top q.bod q.cli q.lev q.cln q.kee q.hw q.wt q.wb q.wq q.wr q.hu q.us q.hp q.pa q.cod q.pre q.wan q.nam q.cds).cells:=rfl
theorem Pk.set5 (q:Pk) (x:ByteArray):q.cells.setIfInBounds 5 (.string x)=(Pk.mk q.ty q.dup q.qos q.ret q.id x q.bod q.cli q.lev q.cln q.kee q.hw q.wt q.wb q.wq q.wr q.hu q.us q.hp q.pa q.cod q.pre q.wan q.nam q.cds).cells:=rfl
theorem Pk.set6 (q:Pk) (x:Sl):q.cells.setIfInBounds 6 (.slice x.a x.n x.c)=(Pk.mk q.ty q.dup q.qos q.ret q.id q.top x q.cli q.lev q.cln q.kee q.hw q.wt q.wb q.wq q.wr q.hu q.us q.hp q.pa q.cod q.pre q.wan q.nam q.cds).cells:=rfl
theorem Pk.set7 (q:Pk) (x:ByteArray):q.cells.setIfInBounds 7 (.string x)=(Pk.mk q.ty q.dup q.qos q.ret q.id q.top q.bod x q.lev q.cln q.kee q.hw q.wt q.wb q.wq q.wr q.hu q.us q.hp q.pa q.cod q.pre q.wan q.nam q.cds).cells:=rfl
theorem Pk.set8 (q:Pk) (x:Int):q.cells.setIfInBounds 8 (.int .i64 x)=(Pk.mk q.ty q.dup q.qos q.ret q.id q.top q.bod q.cli x q.cln q.kee q.hw q.wt q.wb q.wq q.wr q.hu q.us q.hp q.pa q.cod q.pre q.wan q.nam q.cds).cells:=rfl
theorem Pk.set9 (q:Pk) (x:Bool):q.cells.setIfInBounds 9 (.bool x)=(Pk.mk q.ty q.dup q.qos q.ret q.id q.top q.bod q.cli q.lev x q.kee q.hw q.wt q.wb q.wq q.wr q.hu q.us q.hp q.pa q.cod q.pre q.wan q.nam q.cds).cells:=rfl
theorem Pk.set10 (q:Pk) (x:Int):q.cells.setIfInBounds 10 (.int .i64 x)=(Pk.mk q.ty q.dup q.qos q.ret q.id q.top q.bod q.cli q.lev q.cln x q.hw q.wt q.wb q.wq q.wr q.hu q.us q.hp q.pa q.cod q.pre q.wan q.nam q.cds).cells:=rfl
theorem Pk.set11 (q:Pk) (x:Bool):q.cells.setIfInBounds 11 (.bool x)=(Pk.mk q.ty q.dup q.qos q.ret q.id q.top q.bod q.cli q.lev q.cln q.kee x q.wt q.wb q.wq q.wr q.hu q.us q.hp q.pa q.cod q.pre q.wan q.nam q.cds).cells:=rfl
theorem Pk.set12 (q:Pk) (x:ByteArray):q.cells.setIfInBounds 12 (.string x)=(Pk.mk q.ty q.dup q.qos q.ret q.id q.top q.bod q.cli q.lev q.cln q.kee q.hw x q.wb q.wq q.wr q.hu q.us q.hp q.pa q.cod q.pre q.wan q.nam q.cds).cells:=rfl
theorem Pk.set13 (q:Pk) (x:Sl):q.cells.setIfInBounds 13 (.slice x.a x.n x.c)=(Pk.mk q.ty q.dup q.qos q.ret q.id q.top q.bod q.cli q.lev q.cln q.kee q.hw q.wt x q.wq q.wr q.hu q.us q.hp q.pa q.cod q.pre q.wan q.nam q.cds).cells:=rfl
theorem Pk.set14 (q:Pk) (x:Int):q.cells.setIfInBounds 14 (.int .i64 x)=(Pk.mk q.ty q.dup q.qos q.ret q.id q.top q.bod q.cli q.lev q.cln q.kee q.hw q.wt q.wb x q.wr q.hu q.us q.hp q.pa q.cod q.pre q.wan q.nam q.cds).cells:=rfl
theorem Pk.set15 (q:Pk) (x:Bool):q.cells.setIfInBounds 15 (.bool x)=(Pk.mk q.ty q.dup q.qos q.ret q.id q.top q.bod q.cli q.lev q.cln q.kee q.hw q.wt q.wb q.wq x q.hu q.us q.hp q.pa q.cod q.pre q.wan q.nam q.cds).cells:=rfl
theorem Pk.set16 (q:Pk) (x:Bool):q.cells.setIfInBounds 16 (.bool x)=(Pk.mk q.ty q.dup q.qos q.ret q.id q.top q.bod q.cli q.lev q.cln q.kee q.hw q.wt q.wb q.wq q.wr x q.us q.hp q.pa q.cod q.pre q.wan q.nam q.cds).cells:=rfl
theorem Pk.set17 (q:Pk) (x:ByteArray):q.cells.setIfInBounds 17 (.string x)=(Pk.mk q.ty q.dup q.qos q.ret q.id q.top q.bod q.cli q.lev q.cln q.kee q.hw q.wt q.wb q.wq q.wr q.hu x q.hp q.pa q.cod q.pre q.wan q.nam q.cds).cells:=rfl
theorem Pk.set18 (q:Pk) (x:Bool):q.cells.setIfInBounds 18 (.bool x)=(Pk.mk q.ty q.dup q.qos q.ret q.id q.top q.bod q.cli q.lev q.cln q.kee q.hw q.wt q.wb q.wq q.wr q.hu q.us x q.pa q.cod q.pre q.wan q.nam q.cds).cells:=rfl
theorem Pk.set19 (q:Pk) (x:Sl):q.cells.setIfInBounds 19 (.slice x.a x.n x.c)=(Pk.mk q.ty q.dup q.qos q.ret q.id q.top q.bod q.cli q.lev q.cln q.kee q.hw q.wt q.wb q.wq q.wr q.hu q.us q.hp x q.cod q.pre q.wan q.nam q.cds).cells:=rfl
theorem Pk.set20 (q:Pk) (x:Int):q.cells.setIfInBounds 20 (.int .i64 x)=(Pk.mk q.ty q.dup q.qos q.ret q.id q.top q.bod q.cli q.lev q.cln q.kee q.hw q.wt q.wb q.wq q.wr q.hu q.us q.hp q.pa x q.pre q.wan q.nam q.cds).cells:=rfl
theorem Pk.set21 (q:Pk) (x:Bool):q.cells.setIfInBounds 21 (.bool x)=(Pk.mk q.ty q.dup q.qos q.ret q.id q.top q.bod q.cli q.lev q.cln q.kee q.hw q.wt q.wb q.wq q.wr q.hu q.us q.hp q.pa q.cod x q.wan q.nam q.cds).cells:=rfl
theorem Pk.set22 (q:Pk) (x:Sl):q.cells.setIfInBounds 22 (.slice x.a x.n x.c)=(Pk.mk q.ty q.dup q.qos q.ret q.id q.top q.bod q.cli q.lev q.cln q.kee q.hw q.wt q.wb q.wq q.wr q.hu q.us q.hp q.pa q.cod q.pre x q.nam q.cds).cells:=rfl
theorem Pk.set23 (q:Pk) (x:Sl):q.cells.setIfInBounds 23 (.slice x.a x.n x.c)=(Pk.mk q.ty q.dup q.qos q.ret q.id q.top q.bod q.cli q.lev q.cln q.kee q.hw q.wt q.wb q.wq q.wr q.hu q.us q.hp q.pa q.cod q.pre q.wan x q.cds).cells:=rfl
theorem Pk.set24 (q:Pk) (x:Sl):q.cells.setIfInBounds 24 (.slice x.a x.n x.c)=(Pk.mk q.ty q.dup q.qos q.ret q.id q.top q.bod q.cli q.lev q.cln q.kee q.hw q.wt q.wb q.wq q.wr q.hu q.us q.hp q.pa q.cod q.pre q.wan q.nam x).cells:=rfl
def n1nnna:Pk:=(Pk.mk 1 false 0 false 0 ByteArray.empty ⟨none,0,0⟩ ByteArray.empty 0 false 0 false ByteArray.empty ⟨none,0,0⟩ 0 false false ByteArray.empty false ⟨none,0,0⟩ 0 false ⟨none,0,0⟩ ⟨none,0,0⟩ ⟨none,0,0⟩)
def n1nnn (p:Pk):Pk:=(Pk.mk 1 false 0 false 0 ByteArray.empty ⟨none,0,0⟩ p.cli p.lev p.cln p.kee false ByteArray.empty ⟨none,0,0⟩ 0 false false ByteArray.empty false ⟨none,0,0⟩ 0 false ⟨none,0,0⟩ ⟨none,0,0⟩ ⟨none,0,0⟩)
theorem snam_1nnn (p:Pk) (w:World) (ht:p.ty=1) (h1:p.hw=false) (h2:p.hu=false):Calls Tryz.prog 49 #[.agg p.cells] w fun e w'=>e=.returned (.agg (n1nnn p).cells)∧Below w.heap.size w w':=by
 have a0:=p.c0;have a7:=p.c7;have a8:=p.c8;have a9:=p.c9;have a10:=p.c10;have a11:=p.c11;have a16:=p.c16;rw[ht] at a0;rw[h1] at a11;rw[h2] at a16;have s8:=Pk.set8;have z8:=Pk.c8;have s7:=Pk.set7;have z7:=Pk.c7;have s9:=Pk.set9;have z9:=Pk.c9;have s10:=Pk.set10;have z10:=Pk.c10;have ne0:w.heap.size≠w.heap.size+1+1:=by omega
 have ne1:w.heap.size+1≠w.heap.size+1+1:=by omega
 generalize p.cells=cs at *;have A:Blk (((w.alloc (.cells cs 32)).alloc (.cells Pk.zero.cells 32)).alloc (.cells (n1nnn p).cells 32)) (w.heap.size+1) Pk.zero:=qbf _ _ _ _;have D:Blk (((w.alloc (.cells cs 32)).alloc (.cells Pk.zero.cells 32)).alloc (.cells (n1nnn p).cells 32)) (w.heap.size+1+1) (n1nnn p):=qbg _ _ _ _;have hb:Below w.heap.size w (((w.alloc (.cells cs 32)).alloc (.cells Pk.zero.cells 32)).alloc (.cells (n1nnn p).cells 32)):=(((Below.refl _ _).alloc (Nat.le_refl _) _).alloc (by simp) _).alloc (by simp;omega) _;go_enter Tryz.func49,Tryz.ntmps49
 go_upto_region 2 with (first | refine qbe (p:=n1nnna) rfl rfl ?_ | refine al_pk ?_ | (refine bu_pk n1nnna (by kernel_rfl) ?_) | fail)
 change Code.wp _ _ _ Fq120 _;unfold Fq120;simp only[World.size_alloc]
 go_upto_region 46 with fail
 go_wp2_with (first | refine qap D rfl _ rfl rfl ?_ | (refine qak (q:=(n1nnn p)) (old:=Pk.zero) A rfl rfl ?_;intro w9 B9 b9) | fail)
 exact qaw rfl rfl B9 rfl ⟨rfl,hb.trans (b9.mono (by omega))⟩
def n1nuna:Pk:=(Pk.mk 1 false 0 false 0 ByteArray.empty ⟨none,0,0⟩ ByteArray.empty 0 false 0 false ByteArray.empty ⟨none,0,0⟩ 0 false false ByteArray.empty false ⟨none,0,0⟩ 0 false ⟨none,0,0⟩ ⟨none,0,0⟩ ⟨none,0,0⟩)
def n1nun (p:Pk):Pk:=(Pk.mk 1 false 0 false 0 ByteArray.empty ⟨none,0,0⟩ p.cli p.lev p.cln p.kee false ByteArray.empty ⟨none,0,0⟩ 0 false true p.us false ⟨none,0,0⟩ 0 false ⟨none,0,0⟩ ⟨none,0,0⟩ ⟨none,0,0⟩)
theorem snam_1nun (p:Pk) (w:World) (ht:p.ty=1) (h1:p.hw=false) (h2:p.hu=true) (h3:p.hp=false):Calls Tryz.prog 49 #[.agg p.cells] w fun e w'=>e=.returned (.agg (n1nun p).cells)∧Below w.heap.size w w':=by
 have a0:=p.c0;have a7:=p.c7;have a8:=p.c8;have a9:=p.c9;have a10:=p.c10;have a11:=p.c11;have a16:=p.c16;have a17:=p.c17;have a18:=p.c18;rw[ht] at a0;rw[h1] at a11;rw[h2] at a16;rw[h3] at a18;have s8:=Pk.set8;have z8:=Pk.c8;have s7:=Pk.set7;have z7:=Pk.c7;have s9:=Pk.set9;have z9:=Pk.c9;have s10:=Pk.set10;have z10:=Pk.c10;have s16:=Pk.set16;have z16:=Pk.c16;have s17:=Pk.set17;have z17:=Pk.c17;have ne0:w.heap.size≠w.heap.size+1+1:=by omega
 have ne1:w.heap.size+1≠w.heap.size+1+1:=by omega
 generalize p.cells=cs at *;have A:Blk (((w.alloc (.cells cs 32)).alloc (.cells Pk.zero.cells 32)).alloc (.cells (n1nun p).cells 32)) (w.heap.size+1) Pk.zero:=qbf _ _ _ _;have D:Blk (((w.alloc (.cells cs 32)).alloc (.cells Pk.zero.cells 32)).alloc (.cells (n1nun p).cells 32)) (w.heap.size+1+1) (n1nun p):=qbg _ _ _ _;have hb:Below w.heap.size w (((w.alloc (.cells cs 32)).alloc (.cells Pk.zero.cells 32)).alloc (.cells (n1nun p).cells 32)):=(((Below.refl _ _).alloc (Nat.le_refl _) _).alloc (by simp) _).alloc (by simp;omega) _;go_enter Tryz.func49,Tryz.ntmps49
 go_upto_region 2 with (first | refine qbe (p:=n1nuna) rfl rfl ?_ | refine al_pk ?_ | (refine bu_pk n1nuna (by kernel_rfl) ?_) | fail)
 change Code.wp _ _ _ Fq120 _;unfold Fq120;simp only[World.size_alloc]
 go_upto_region 46 with fail
 go_wp2_with (first | refine qap D rfl _ rfl rfl ?_ | (refine qak (q:=(n1nun p)) (old:=Pk.zero) A rfl rfl ?_;intro w9 B9 b9) | fail)
 exact qaw rfl rfl B9 rfl ⟨rfl,hb.trans (b9.mono (by omega))⟩
def n1nupa:Pk:=(Pk.mk 1 false 0 false 0 ByteArray.empty ⟨none,0,0⟩ ByteArray.empty 0 false 0 false ByteArray.empty ⟨none,0,0⟩ 0 false false ByteArray.empty false ⟨none,0,0⟩ 0 false ⟨none,0,0⟩ ⟨none,0,0⟩ ⟨none,0,0⟩)
def n1nup (p:Pk):Pk:=(Pk.mk 1 false 0 false 0 ByteArray.empty ⟨none,0,0⟩ p.cli p.lev p.cln p.kee false ByteArray.empty ⟨none,0,0⟩ 0 false true p.us true p.pa 0 false ⟨none,0,0⟩ ⟨none,0,0⟩ ⟨none,0,0⟩)
theorem snam_1nup (p:Pk) (w:World) (ht:p.ty=1) (h1:p.hw=false) (h2:p.hu=true) (h3:p.hp=true):Calls Tryz.prog 49 #[.agg p.cells] w fun e w'=>e=.returned (.agg (n1nup p).cells)∧Below w.heap.size w w':=by
 have a0:=p.c0;have a7:=p.c7;have a8:=p.c8;have a9:=p.c9;have a10:=p.c10;have a11:=p.c11;have a16:=p.c16;have a17:=p.c17;have a18:=p.c18;have a19:=p.c19;rw[ht] at a0;rw[h1] at a11;rw[h2] at a16;rw[h3] at a18;have s8:=Pk.set8;have z8:=Pk.c8;have s7:=Pk.set7;have z7:=Pk.c7;have s9:=Pk.set9;have z9:=Pk.c9;have s10:=Pk.set10;have z10:=Pk.c10;have s16:=Pk.set16;have z16:=Pk.c16;have s17:=Pk.set17;have z17:=Pk.c17;have s18:=Pk.set18;have z18:=Pk.c18;have s19:=Pk.set19;have z19:=Pk.c19;have ne0:w.heap.size≠w.heap.size+1+1:=by omega
 have ne1:w.heap.size+1≠w.heap.size+1+1:=by omega
 generalize p.cells=cs at *;have A:Blk (((w.alloc (.cells cs 32)).alloc (.cells Pk.zero.cells 32)).alloc (.cells (n1nup p).cells 32)) (w.heap.size+1) Pk.zero:=qbf _ _ _ _;have D:Blk (((w.alloc (.cells cs 32)).alloc (.cells Pk.zero.cells 32)).alloc (.cells (n1nup p).cells 32)) (w.heap.size+1+1) (n1nup p):=qbg _ _ _ _;have hb:Below w.heap.size w (((w.alloc (.cells cs 32)).alloc (.cells Pk.zero.cells 32)).alloc (.cells (n1nup p).cells 32)):=(((Below.refl _ _).alloc (Nat.le_refl _) _).alloc (by simp) _).alloc (by simp;omega) _;go_enter Tryz.func49,Tryz.ntmps49
 go_upto_region 2 with (first | refine qbe (p:=n1nupa) rfl rfl ?_ | refine al_pk ?_ | (refine bu_pk n1nupa (by kernel_rfl) ?_) | fail)
 change Code.wp _ _ _ Fq120 _;unfold Fq120;simp only[World.size_alloc]
 go_upto_region 46 with fail
 go_wp2_with (first | refine qap D rfl _ rfl rfl ?_ | (refine qak (q:=(n1nup p)) (old:=Pk.zero) A rfl rfl ?_;intro w9 B9 b9) | fail)
 exact qaw rfl rfl B9 rfl ⟨rfl,hb.trans (b9.mono (by omega))⟩
def n1wnna:Pk:=(Pk.mk 1 false 0 false 0 ByteArray.empty ⟨none,0,0⟩ ByteArray.empty 0 false 0 false ByteArray.empty ⟨none,0,0⟩ 0 false false ByteArray.empty false ⟨none,0,0⟩ 0 false ⟨none,0,0⟩ ⟨none,0,0⟩ ⟨none,0,0⟩)
def n1wnn (p:Pk):Pk:=(Pk.mk 1 false 0 false 0 ByteArray.empty ⟨none,0,0⟩ p.cli p.lev p.cln p.kee true p.wt p.wb p.wq p.wr false ByteArray.empty false ⟨none,0,0⟩ 0 false ⟨none,0,0⟩ ⟨none,0,0⟩ ⟨none,0,0⟩)
theorem snam_1wnn (p:Pk) (w:World) (ht:p.ty=1) (h1:p.hw=true) (h2:p.hu=false):Calls Tryz.prog 49 #[.agg p.cells] w fun e w'=>e=.returned (.agg (n1wnn p).cells)∧Below w.heap.size w w':=by
 have a0:=p.c0;have a7:=p.c7;have a8:=p.c8;have a9:=p.c9;have a10:=p.c10;have a11:=p.c11;have a12:=p.c12;have a13:=p.c13;have a14:=p.c14;have a15:=p.c15;have a16:=p.c16;rw[ht] at a0;rw[h1] at a11;rw[h2] at a16;have s8:=Pk.set8;have z8:=Pk.c8;have s7:=Pk.set7;have z7:=Pk.c7;have s9:=Pk.set9;have z9:=Pk.c9;have s10:=Pk.set10;have z10:=Pk.c10;have s11:=Pk.set11;have z11:=Pk.c11;have s12:=Pk.set12;have z12:=Pk.c12;have s13:=Pk.set13;have z13:=Pk.c13;have s14:=Pk.set14;have z14:=Pk.c14;have s15:=Pk.set15;have z15:=Pk.c15;have ne0:w.heap.size≠w.heap.size+1+1:=by omega
 have ne1:w.heap.size+1≠w.heap.size+1+1:=by omega
 generalize p.cells=cs at *;have A:Blk (((w.alloc (.cells cs 32)).alloc (.cells Pk.zero.cells 32)).alloc (.cells (n1wnn p).cells 32)) (w.heap.size+1) Pk.zero:=qbf _ _ _ _;have D:Blk (((w.alloc (.cells cs 32)).alloc (.cells Pk.zero.cells 32)).alloc (.cells (n1wnn p).cells 32)) (w.heap.size+1+1) (n1wnn p):=qbg _ _ _ _;have hb:Below w.heap.size w (((w.alloc (.cells cs 32)).alloc (.cells Pk.zero.cells 32)).alloc (.cells (n1wnn p).cells 32)):=(((Below.refl _ _).alloc (Nat.le_refl _) _).alloc (by simp) _).alloc (by simp;omega) _;go_enter Tryz.func49,Tryz.ntmps49
 go_upto_region 2 with (first | refine qbe (p:=n1wnna) rfl rfl ?_ | refine al_pk ?_ | (refine bu_pk n1wnna (by kernel_rfl) ?_) | fail)
 change Code.wp _ _ _ Fq120 _;unfold Fq120;simp only[World.size_alloc]
 go_upto_region 46 with fail
 go_wp2_with (first | refine qap D rfl _ rfl rfl ?_ | (refine qak (q:=(n1wnn p)) (old:=Pk.zero) A rfl rfl ?_;intro w9 B9 b9) | fail)
 exact qaw rfl rfl B9 rfl ⟨rfl,hb.trans (b9.mono (by omega))⟩
def n1wuna:Pk:=(Pk.mk 1 false 0 false 0 ByteArray.empty ⟨none,0,0⟩ ByteArray.empty 0 false 0 false ByteArray.empty ⟨none,0,0⟩ 0 false false ByteArray.empty false ⟨none,0,0⟩ 0 false ⟨none,0,0⟩ ⟨none,0,0⟩ ⟨none,0,0⟩)
def n1wun (p:Pk):Pk:=(Pk.mk 1 false 0 false 0 ByteArray.empty ⟨none,0,0⟩ p.cli p.lev p.cln p.kee true p.wt p.wb p.wq p.wr true p.us false ⟨none,0,0⟩ 0 false ⟨none,0,0⟩ ⟨none,0,0⟩ ⟨none,0,0⟩)
theorem snam_1wun (p:Pk) (w:World) (ht:p.ty=1) (h1:p.hw=true) (h2:p.hu=true) (h3:p.hp=false):Calls Tryz.prog 49 #[.agg p.cells] w fun e w'=>e=.returned (.agg (n1wun p).cells)∧Below w.heap.size w w':=by
 have a0:=p.c0;have a7:=p.c7;have a8:=p.c8;have a9:=p.c9;have a10:=p.c10;have a11:=p.c11;have a12:=p.c12;have a13:=p.c13;have a14:=p.c14;have a15:=p.c15;have a16:=p.c16;have a17:=p.c17;have a18:=p.c18;rw[ht] at a0;rw[h1] at a11;rw[h2] at a16;rw[h3] at a18;have s8:=Pk.set8;have z8:=Pk.c8;have s7:=Pk.set7;have z7:=Pk.c7;have s9:=Pk.set9;have z9:=Pk.c9;have s10:=Pk.set10;have z10:=Pk.c10;have s11:=Pk.set11;have z11:=Pk.c11;have s12:=Pk.set12;have z12:=Pk.c12;have s13:=Pk.set13;have z13:=Pk.c13;have s14:=Pk.set14;have z14:=Pk.c14;have s15:=Pk.set15;have z15:=Pk.c15;have s16:=Pk.set16;have z16:=Pk.c16;have s17:=Pk.set17;have z17:=Pk.c17;have ne0:w.heap.size≠w.heap.size+1+1:=by omega
 have ne1:w.heap.size+1≠w.heap.size+1+1:=by omega
 generalize p.cells=cs at *;have A:Blk (((w.alloc (.cells cs 32)).alloc (.cells Pk.zero.cells 32)).alloc (.cells (n1wun p).cells 32)) (w.heap.size+1) Pk.zero:=qbf _ _ _ _;have D:Blk (((w.alloc (.cells cs 32)).alloc (.cells Pk.zero.cells 32)).alloc (.cells (n1wun p).cells 32)) (w.heap.size+1+1) (n1wun p):=qbg _ _ _ _;have hb:Below w.heap.size w (((w.alloc (.cells cs 32)).alloc (.cells Pk.zero.cells 32)).alloc (.cells (n1wun p).cells 32)):=(((Below.refl _ _).alloc (Nat.le_refl _) _).alloc (by simp) _).alloc (by simp;omega) _;go_enter Tryz.func49,Tryz.ntmps49
 go_upto_region 2 with (first | refine qbe (p:=n1wuna) rfl rfl ?_ | refine al_pk ?_ | (refine bu_pk n1wuna (by kernel_rfl) ?_) | fail)
 change Code.wp _ _ _ Fq120 _;unfold Fq120;simp only[World.size_alloc]
 go_upto_region 46 with fail
 go_wp2_with (first | refine qap D rfl _ rfl rfl ?_ | (refine qak (q:=(n1wun p)) (old:=Pk.zero) A rfl rfl ?_;intro w9 B9 b9) | fail)
 exact qaw rfl rfl B9 rfl ⟨rfl,hb.trans (b9.mono (by omega))⟩
def n1wupa:Pk:=(Pk.mk 1 false 0 false 0 ByteArray.empty ⟨none,0,0⟩ ByteArray.empty 0 false 0 false ByteArray.empty ⟨none,0,0⟩ 0 false false ByteArray.empty false ⟨none,0,0⟩ 0 false ⟨none,0,0⟩ ⟨none,0,0⟩ ⟨none,0,0⟩)
def n1wup (p:Pk):Pk:=(Pk.mk 1 false 0 false 0 ByteArray.empty ⟨none,0,0⟩ p.cli p.lev p.cln p.kee true p.wt p.wb p.wq p.wr true p.us true p.pa 0 false ⟨none,0,0⟩ ⟨none,0,0⟩ ⟨none,0,0⟩)
theorem snam_1wup (p:Pk) (w:World) (ht:p.ty=1) (h1:p.hw=true) (h2:p.hu=true) (h3:p.hp=true):Calls Tryz.prog 49 #[.agg p.cells] w fun e w'=>e=.returned (.agg (n1wup p).cells)∧Below w.heap.size w w':=by
 have a0:=p.c0;have a7:=p.c7;have a8:=p.c8;have a9:=p.c9;have a10:=p.c10;have a11:=p.c11;have a12:=p.c12;have a13:=p.c13;have a14:=p.c14;have a15:=p.c15;have a16:=p.c16;have a17:=p.c17;have a18:=p.c18;have a19:=p.c19;rw[ht] at a0;rw[h1] at a11;rw[h2] at a16;rw[h3] at a18;have s8:=Pk.set8;have z8:=Pk.c8;have s7:=Pk.set7;have z7:=Pk.c7;have s9:=Pk.set9;have z9:=Pk.c9;have s10:=Pk.set10;have z10:=Pk.c10;have s11:=Pk.set11;have z11:=Pk.c11;have s12:=Pk.set12;have z12:=Pk.c12;have s13:=Pk.set13;have z13:=Pk.c13;have s14:=Pk.set14;have z14:=Pk.c14;have s15:=Pk.set15;have z15:=Pk.c15;have s16:=Pk.set16;have z16:=Pk.c16;have s17:=Pk.set17;have z17:=Pk.c17;have s18:=Pk.set18;have z18:=Pk.c18;have s19:=Pk.set19;have z19:=Pk.c19;have ne0:w.heap.size≠w.heap.size+1+1:=by omega
 have ne1:w.heap.size+1≠w.heap.size+1+1:=by omega
 generalize p.cells=cs at *;have A:Blk (((w.alloc (.cells cs 32)).alloc (.cells Pk.zero.cells 32)).alloc (.cells (n1wup p).cells 32)) (w.heap.size+1) Pk.zero:=qbf _ _ _ _;have D:Blk (((w.alloc (.cells cs 32)).alloc (.cells Pk.zero.cells 32)).alloc (.cells (n1wup p).cells 32)) (w.heap.size+1+1) (n1wup p):=qbg _ _ _ _;have hb:Below w.heap.size w (((w.alloc (.cells cs 32)).alloc (.cells Pk.zero.cells 32)).alloc (.cells (n1wup p).cells 32)):=(((Below.refl _ _).alloc (Nat.le_refl _) _).alloc (by simp) _).alloc (by simp;omega) _;go_enter Tryz.func49,Tryz.ntmps49
 go_upto_region 2 with (first | refine qbe (p:=n1wupa) rfl rfl ?_ | refine al_pk ?_ | (refine bu_pk n1wupa (by kernel_rfl) ?_) | fail)
 change Code.wp _ _ _ Fq120 _;unfold Fq120;simp only[World.size_alloc]
 go_upto_region 46 with fail
 go_wp2_with (first | refine qap D rfl _ rfl rfl ?_ | (refine qak (q:=(n1wup p)) (old:=Pk.zero) A rfl rfl ?_;intro w9 B9 b9) | fail)
 exact qaw rfl rfl B9 rfl ⟨rfl,hb.trans (b9.mono (by omega))⟩
def n2na:Pk:=(Pk.mk 2 false 0 false 0 ByteArray.empty ⟨none,0,0⟩ ByteArray.empty 0 false 0 false ByteArray.empty ⟨none,0,0⟩ 0 false false ByteArray.empty false ⟨none,0,0⟩ 0 false ⟨none,0,0⟩ ⟨none,0,0⟩ ⟨none,0,0⟩)
def n2n (p:Pk):Pk:=(Pk.mk 2 false 0 false 0 ByteArray.empty ⟨none,0,0⟩ ByteArray.empty 0 false 0 false ByteArray.empty ⟨none,0,0⟩ 0 false false ByteArray.empty false ⟨none,0,0⟩ p.cod false ⟨none,0,0⟩ ⟨none,0,0⟩ ⟨none,0,0⟩)
theorem snam_2n (p:Pk) (w:World) (ht:p.ty=2) (h1:p.pre=false):Calls Tryz.prog 49 #[.agg p.cells] w fun e w'=>e=.returned (.agg (n2n p).cells)∧Below w.heap.size w w':=by
 have a0:=p.c0;have a20:=p.c20;have a21:=p.c21;rw[ht] at a0;rw[h1] at a21;have s20:=Pk.set20;have z20:=Pk.c20;have s21:=Pk.set21;have z21:=Pk.c21;have ne0:w.heap.size≠w.heap.size+1+1:=by omega
 have ne1:w.heap.size+1≠w.heap.size+1+1:=by omega
 generalize p.cells=cs at *;have A:Blk (((w.alloc (.cells cs 32)).alloc (.cells Pk.zero.cells 32)).alloc (.cells (n2n p).cells 32)) (w.heap.size+1) Pk.zero:=qbf _ _ _ _;have D:Blk (((w.alloc (.cells cs 32)).alloc (.cells Pk.zero.cells 32)).alloc (.cells (n2n p).cells 32)) (w.heap.size+1+1) (n2n p):=qbg _ _ _ _;have hb:Below w.heap.size w (((w.alloc (.cells cs 32)).alloc (.cells Pk.zero.cells 32)).alloc (.cells (n2n p).cells 32)):=(((Below.refl _ _).alloc (Nat.le_refl _) _).alloc (by simp) _).alloc (by simp;omega) _;go_enter Tryz.func49,Tryz.ntmps49
 go_upto_region 2 with (first | refine qbe (p:=n2na) rfl rfl ?_ | refine al_pk ?_ | (refine bu_pk n2na (by kernel_rfl) ?_) | fail)
 change Code.wp _ _ _ Fq120 _;unfold Fq120;simp only[World.size_alloc]
 go_upto_region 46 with fail
 go_wp2_with (first | refine qap D rfl _ rfl rfl ?_ | (refine qak (q:=(n2n p)) (old:=Pk.zero) A rfl rfl ?_;intro w9 B9 b9) | fail)
 exact qaw rfl rfl B9 rfl ⟨rfl,hb.trans (b9.mono (by omega))⟩
def n2pa:Pk:=(Pk.mk 2 false 0 false 0 ByteArray.empty ⟨none,0,0⟩ ByteArray.empty 0 false 0 false ByteArray.empty ⟨none,0,0⟩ 0 false false ByteArray.empty false ⟨none,0,0⟩ 0 false ⟨none,0,0⟩ ⟨none,0,0⟩ ⟨none,0,0⟩)
def n2p (p:Pk):Pk:=(Pk.mk 2 false 0 false 0 ByteArray.empty ⟨none,0,0⟩ ByteArray.empty 0 false 0 false ByteArray.empty ⟨none,0,0⟩ 0 false false ByteArray.empty false ⟨none,0,0⟩ p.cod (p.cod==0) ⟨none,0,0⟩ ⟨none,0,0⟩ ⟨none,0,0⟩)
theorem snam_2p (p:Pk) (w:World) (ht:p.ty=2) (h1:p.pre=true):Calls Tryz.prog 49 #[.agg p.cells] w fun e w'=>e=.returned (.agg (n2p p).cells)∧Below w.heap.size w w':=by
 have a0:=p.c0;have a20:=p.c20;have a21:=p.c21;rw[ht] at a0;rw[h1] at a21;have s20:=Pk.set20;have z20:=Pk.c20;have s21:=Pk.set21;have z21:=Pk.c21;have ne0:w.heap.size≠w.heap.size+1+1:=by omega
 have ne1:w.heap.size+1≠w.heap.size+1+1:=by omega
 generalize p.cells=cs at *;have A:Blk (((w.alloc (.cells cs 32)).alloc (.cells Pk.zero.cells 32)).alloc (.cells (n2p p).cells 32)) (w.heap.size+1) Pk.zero:=qbf _ _ _ _;have D:Blk (((w.alloc (.cells cs 32)).alloc (.cells Pk.zero.cells 32)).alloc (.cells (n2p p).cells 32)) (w.heap.size+1+1) (n2p p):=qbg _ _ _ _;have hb:Below w.heap.size w (((w.alloc (.cells cs 32)).alloc (.cells Pk.zero.cells 32)).alloc (.cells (n2p p).cells 32)):=(((Below.refl _ _).alloc (Nat.le_refl _) _).alloc (by simp) _).alloc (by simp;omega) _;go_enter Tryz.func49,Tryz.ntmps49
 go_upto_region 2 with (first | refine qbe (p:=n2pa) rfl rfl ?_ | refine al_pk ?_ | (refine bu_pk n2pa (by kernel_rfl) ?_) | fail)
 change Code.wp _ _ _ Fq120 _;unfold Fq120;simp only[World.size_alloc]
 go_upto_region 46 with fail
 go_wp2_with (first | refine qap D rfl _ rfl rfl ?_ | (refine qak (q:=(n2p p)) (old:=Pk.zero) A rfl rfl ?_;intro w9 B9 b9) | fail)
 exact qaw rfl rfl B9 rfl ⟨rfl,hb.trans (b9.mono (by omega))⟩
def n3na:Pk:=(Pk.mk 3 false 0 false 0 ByteArray.empty ⟨none,0,0⟩ ByteArray.empty 0 false 0 false ByteArray.empty ⟨none,0,0⟩ 0 false false ByteArray.empty false ⟨none,0,0⟩ 0 false ⟨none,0,0⟩ ⟨none,0,0⟩ ⟨none,0,0⟩)
def n3n (p:Pk):Pk:=(Pk.mk 3 false p.qos p.ret 0 p.top p.bod ByteArray.empty 0 false 0 false ByteArray.empty ⟨none,0,0⟩ 0 false false ByteArray.empty false ⟨none,0,0⟩ 0 false ⟨none,0,0⟩ ⟨none,0,0⟩ ⟨none,0,0⟩)
theorem snam_3n (p:Pk) (w:World) (ht:p.ty=3) (hq:¬0<p.qos):Calls Tryz.prog 49 #[.agg p.cells] w fun e w'=>e=.returned (.agg (n3n p).cells)∧Below w.heap.size w w':=by
 have a0:=p.c0;have a2:=p.c2;have a3:=p.c3;have a5:=p.c5;have a6:=p.c6;rw[ht] at a0;have s2:=Pk.set2;have z2:=Pk.c2;have s3:=Pk.set3;have z3:=Pk.c3;have s5:=Pk.set5;have z5:=Pk.c5;have s6:=Pk.set6;have z6:=Pk.c6;have ne0:w.heap.size≠w.heap.size+1+1:=by omega
 have ne1:w.heap.size+1≠w.heap.size+1+1:=by omega
 generalize p.cells=cs at *;have A:Blk (((w.alloc (.cells cs 32)).alloc (.cells Pk.zero.cells 32)).alloc (.cells (n3n p).cells 32)) (w.heap.size+1) Pk.zero:=qbf _ _ _ _;have D:Blk (((w.alloc (.cells cs 32)).alloc (.cells Pk.zero.cells 32)).alloc (.cells (n3n p).cells 32)) (w.heap.size+1+1) (n3n p):=qbg _ _ _ _;have hb:Below w.heap.size w (((w.alloc (.cells cs 32)).alloc (.cells Pk.zero.cells 32)).alloc (.cells (n3n p).cells 32)):=(((Below.refl _ _).alloc (Nat.le_refl _) _).alloc (by simp) _).alloc (by simp;omega) _;go_enter Tryz.func49,Tryz.ntmps49
 go_upto_region 2 with (first | refine qbe (p:=n3na) rfl rfl ?_ | refine al_pk ?_ | (refine bu_pk n3na (by kernel_rfl) ?_) | fail)
 change Code.wp _ _ _ Fq120 _;unfold Fq120;simp only[World.size_alloc]
 go_upto_region 46 with fail
 go_wp2_with (first | refine qap D rfl _ rfl rfl ?_ | (refine qak (q:=(n3n p)) (old:=Pk.zero) A rfl rfl ?_;intro w9 B9 b9) | fail)
 exact qaw rfl rfl B9 rfl ⟨rfl,hb.trans (b9.mono (by omega))⟩
def n3qa:Pk:=(Pk.mk 3 false 0 false 0 ByteArray.empty ⟨none,0,0⟩ ByteArray.empty 0 false 0 false ByteArray.empty ⟨none,0,0⟩ 0 false false ByteArray.empty false ⟨none,0,0⟩ 0 false ⟨none,0,0⟩ ⟨none,0,0⟩ ⟨none,0,0⟩)
def n3q (p:Pk):Pk:=(Pk.mk 3 p.dup p.qos p.ret p.id p.top p.bod ByteArray.empty 0 false 0 false ByteArray.empty ⟨none,0,0⟩ 0 false false ByteArray.empty false ⟨none,0,0⟩ 0 false ⟨none,0,0⟩ ⟨none,0,0⟩ ⟨none,0,0⟩)
theorem snam_3q (p:Pk) (w:World) (ht:p.ty=3) (hq:0<p.qos):Calls Tryz.prog 49 #[.agg p.cells] w fun e w'=>e=.returned (.agg (n3q p).cells)∧Below w.heap.size w w':=by
 have a0:=p.c0;have a1:=p.c1;have a2:=p.c2;have a3:=p.c3;have a4:=p.c4;have a5:=p.c5;have a6:=p.c6;rw[ht] at a0;have s2:=Pk.set2;have z2:=Pk.c2;have s3:=Pk.set3;have z3:=Pk.c3;have s5:=Pk.set5;have z5:=Pk.c5;have s6:=Pk.set6;have z6:=Pk.c6;have s1:=Pk.set1;have z1:=Pk.c1;have s4:=Pk.set4;have z4:=Pk.c4;have ne0:w.heap.size≠w.heap.size+1+1:=by omega
 have ne1:w.heap.size+1≠w.heap.size+1+1:=by omega
 generalize p.cells=cs at *;have A:Blk (((w.alloc (.cells cs 32)).alloc (.cells Pk.zero.cells 32)).alloc (.cells (n3q p).cells 32)) (w.heap.size+1) Pk.zero:=qbf _ _ _ _;have D:Blk (((w.alloc (.cells cs 32)).alloc (.cells Pk.zero.cells 32)).alloc (.cells (n3q p).cells 32)) (w.heap.size+1+1) (n3q p):=qbg _ _ _ _;have hb:Below w.heap.size w (((w.alloc (.cells cs 32)).alloc (.cells Pk.zero.cells 32)).alloc (.cells (n3q p).cells 32)):=(((Below.refl _ _).alloc (Nat.le_refl _) _).alloc (by simp) _).alloc (by simp;omega) _;go_enter Tryz.func49,Tryz.ntmps49
 go_upto_region 2 with (first | refine qbe (p:=n3qa) rfl rfl ?_ | refine al_pk ?_ | (refine bu_pk n3qa (by kernel_rfl) ?_) | fail)
 change Code.wp _ _ _ Fq120 _;unfold Fq120;simp only[World.size_alloc]
 go_upto_region 46 with fail
 go_wp2_with (first | refine qap D rfl _ rfl rfl ?_ | (refine qak (q:=(n3q p)) (old:=Pk.zero) A rfl rfl ?_;intro w9 B9 b9) | fail)
 exact qaw rfl rfl B9 rfl ⟨rfl,hb.trans (b9.mono (by omega))⟩
def n4a:Pk:=(Pk.mk 4 false 0 false 0 ByteArray.empty ⟨none,0,0⟩ ByteArray.empty 0 false 0 false ByteArray.empty ⟨none,0,0⟩ 0 false false ByteArray.empty false ⟨none,0,0⟩ 0 false ⟨none,0,0⟩ ⟨none,0,0⟩ ⟨none,0,0⟩)
def n4 (p:Pk):Pk:=(Pk.mk 4 false 0 false p.id ByteArray.empty ⟨none,0,0⟩ ByteArray.empty 0 false 0 false ByteArray.empty ⟨none,0,0⟩ 0 false false ByteArray.empty false ⟨none,0,0⟩ 0 false ⟨none,0,0⟩ ⟨none,0,0⟩ ⟨none,0,0⟩)
theorem snam_4 (p:Pk) (w:World) (ht:p.ty=4):Calls Tryz.prog 49 #[.agg p.cells] w fun e w'=>e=.returned (.agg (n4 p).cells)∧Below w.heap.size w w':=by
 have a0:=p.c0;have a4:=p.c4;rw[ht] at a0;have s4:=Pk.set4;have z4:=Pk.c4;have ne0:w.heap.size≠w.heap.size+1+1:=by omega
 have ne1:w.heap.size+1≠w.heap.size+1+1:=by omega
 generalize p.cells=cs at *;have A:Blk (((w.alloc (.cells cs 32)).alloc (.cells Pk.zero.cells 32)).alloc (.cells (n4 p).cells 32)) (w.heap.size+1) Pk.zero:=qbf _ _ _ _;have D:Blk (((w.alloc (.cells cs 32)).alloc (.cells Pk.zero.cells 32)).alloc (.cells (n4 p).cells 32)) (w.heap.size+1+1) (n4 p):=qbg _ _ _ _;have hb:Below w.heap.size w (((w.alloc (.cells cs 32)).alloc (.cells Pk.zero.cells 32)).alloc (.cells (n4 p).cells 32)):=(((Below.refl _ _).alloc (Nat.le_refl _) _).alloc (by simp) _).alloc (by simp;omega) _;go_enter Tryz.func49,Tryz.ntmps49
 go_upto_region 2 with (first | refine qbe (p:=n4a) rfl rfl ?_ | refine al_pk ?_ | (refine bu_pk n4a (by kernel_rfl) ?_) | fail)
 change Code.wp _ _ _ Fq120 _;unfold Fq120;simp only[World.size_alloc]
 go_upto_region 46 with fail
 go_wp2_with (first | refine qap D rfl _ rfl rfl ?_ | (refine qak (q:=(n4 p)) (old:=Pk.zero) A rfl rfl ?_;intro w9 B9 b9) | fail)
 exact qaw rfl rfl B9 rfl ⟨rfl,hb.trans (b9.mono (by omega))⟩
def n5a:Pk:=(Pk.mk 5 false 0 false 0 ByteArray.empty ⟨none,0,0⟩ ByteArray.empty 0 false 0 false ByteArray.empty ⟨none,0,0⟩ 0 false false ByteArray.empty false ⟨none,0,0⟩ 0 false ⟨none,0,0⟩ ⟨none,0,0⟩ ⟨none,0,0⟩)
def n5 (p:Pk):Pk:=(Pk.mk 5 false 0 false p.id ByteArray.empty ⟨none,0,0⟩ ByteArray.empty 0 false 0 false ByteArray.empty ⟨none,0,0⟩ 0 false false ByteArray.empty false ⟨none,0,0⟩ 0 false ⟨none,0,0⟩ ⟨none,0,0⟩ ⟨none,0,0⟩)
theorem snam_5 (p:Pk) (w:World) (ht:p.ty=5):Calls Tryz.prog 49 #[.agg p.cells] w fun e w'=>e=.returned (.agg (n5 p).cells)∧Below w.heap.size w w':=by
 have a0:=p.c0;have a4:=p.c4;rw[ht] at a0;have s4:=Pk.set4;have z4:=Pk.c4;have ne0:w.heap.size≠w.heap.size+1+1:=by omega
 have ne1:w.heap.size+1≠w.heap.size+1+1:=by omega
 generalize p.cells=cs at *;have A:Blk (((w.alloc (.cells cs 32)).alloc (.cells Pk.zero.cells 32)).alloc (.cells (n5 p).cells 32)) (w.heap.size+1) Pk.zero:=qbf _ _ _ _;have D:Blk (((w.alloc (.cells cs 32)).alloc (.cells Pk.zero.cells 32)).alloc (.cells (n5 p).cells 32)) (w.heap.size+1+1) (n5 p):=qbg _ _ _ _;have hb:Below w.heap.size w (((w.alloc (.cells cs 32)).alloc (.cells Pk.zero.cells 32)).alloc (.cells (n5 p).cells 32)):=(((Below.refl _ _).alloc (Nat.le_refl _) _).alloc (by simp) _).alloc (by simp;omega) _;go_enter Tryz.func49,Tryz.ntmps49
 go_upto_region 2 with (first | refine qbe (p:=n5a) rfl rfl ?_ | refine al_pk ?_ | (refine bu_pk n5a (by kernel_rfl) ?_) | fail)
 change Code.wp _ _ _ Fq120 _;unfold Fq120;simp only[World.size_alloc]
 go_upto_region 46 with fail
 go_wp2_with (first | refine qap D rfl _ rfl rfl ?_ | (refine qak (q:=(n5 p)) (old:=Pk.zero) A rfl rfl ?_;intro w9 B9 b9) | fail)
 exact qaw rfl rfl B9 rfl ⟨rfl,hb.trans (b9.mono (by omega))⟩
def n6a:Pk:=(Pk.mk 6 false 0 false 0 ByteArray.empty ⟨none,0,0⟩ ByteArray.empty 0 false 0 false ByteArray.empty ⟨none,0,0⟩ 0 false false ByteArray.empty false ⟨none,0,0⟩ 0 false ⟨none,0,0⟩ ⟨none,0,0⟩ ⟨none,0,0⟩)
def n6 (p:Pk):Pk:=(Pk.mk 6 false 0 false p.id ByteArray.empty ⟨none,0,0⟩ ByteArray.empty 0 false 0 false ByteArray.empty ⟨none,0,0⟩ 0 false false ByteArray.empty false ⟨none,0,0⟩ 0 false ⟨none,0,0⟩ ⟨none,0,0⟩ ⟨none,0,0⟩)
theorem snam_6 (p:Pk) (w:World) (ht:p.ty=6):Calls Tryz.prog 49 #[.agg p.cells] w fun e w'=>e=.returned (.agg (n6 p).cells)∧Below w.heap.size w w':=by
 have a0:=p.c0;have a4:=p.c4;rw[ht] at a0;have s4:=Pk.set4;have z4:=Pk.c4;have ne0:w.heap.size≠w.heap.size+1+1:=by omega
 have ne1:w.heap.size+1≠w.heap.size+1+1:=by omega
 generalize p.cells=cs at *;have A:Blk (((w.alloc (.cells cs 32)).alloc (.cells Pk.zero.cells 32)).alloc (.cells (n6 p).cells 32)) (w.heap.size+1) Pk.zero:=qbf _ _ _ _;have D:Blk (((w.alloc (.cells cs 32)).alloc (.cells Pk.zero.cells 32)).alloc (.cells (n6 p).cells 32)) (w.heap.size+1+1) (n6 p):=qbg _ _ _ _;have hb:Below w.heap.size w (((w.alloc (.cells cs 32)).alloc (.cells Pk.zero.cells 32)).alloc (.cells (n6 p).cells 32)):=(((Below.refl _ _).alloc (Nat.le_refl _) _).alloc (by simp) _).alloc (by simp;omega) _;go_enter Tryz.func49,Tryz.ntmps49
 go_upto_region 2 with (first | refine qbe (p:=n6a) rfl rfl ?_ | refine al_pk ?_ | (refine bu_pk n6a (by kernel_rfl) ?_) | fail)
 change Code.wp _ _ _ Fq120 _;unfold Fq120;simp only[World.size_alloc]
 go_upto_region 46 with fail
 go_wp2_with (first | refine qap D rfl _ rfl rfl ?_ | (refine qak (q:=(n6 p)) (old:=Pk.zero) A rfl rfl ?_;intro w9 B9 b9) | fail)
 exact qaw rfl rfl B9 rfl ⟨rfl,hb.trans (b9.mono (by omega))⟩
def n7a:Pk:=(Pk.mk 7 false 0 false 0 ByteArray.empty ⟨none,0,0⟩ ByteArray.empty 0 false 0 false ByteArray.empty ⟨none,0,0⟩ 0 false false ByteArray.empty false ⟨none,0,0⟩ 0 false ⟨none,0,0⟩ ⟨none,0,0⟩ ⟨none,0,0⟩)
def n7 (p:Pk):Pk:=(Pk.mk 7 false 0 false p.id ByteArray.empty ⟨none,0,0⟩ ByteArray.empty 0 false 0 false ByteArray.empty ⟨none,0,0⟩ 0 false false ByteArray.empty false ⟨none,0,0⟩ 0 false ⟨none,0,0⟩ ⟨none,0,0⟩ ⟨none,0,0⟩)
theorem snam_7 (p:Pk) (w:World) (ht:p.ty=7):Calls Tryz.prog 49 #[.agg p.cells] w fun e w'=>e=.returned (.agg (n7 p).cells)∧Below w.heap.size w w':=by
 have a0:=p.c0;have a4:=p.c4;rw[ht] at a0;have s4:=Pk.set4;have z4:=Pk.c4;have ne0:w.heap.size≠w.heap.size+1+1:=by omega
 have ne1:w.heap.size+1≠w.heap.size+1+1:=by omega
 generalize p.cells=cs at *;have A:Blk (((w.alloc (.cells cs 32)).alloc (.cells Pk.zero.cells 32)).alloc (.cells (n7 p).cells 32)) (w.heap.size+1) Pk.zero:=qbf _ _ _ _;have D:Blk (((w.alloc (.cells cs 32)).alloc (.cells Pk.zero.cells 32)).alloc (.cells (n7 p).cells 32)) (w.heap.size+1+1) (n7 p):=qbg _ _ _ _;have hb:Below w.heap.size w (((w.alloc (.cells cs 32)).alloc (.cells Pk.zero.cells 32)).alloc (.cells (n7 p).cells 32)):=(((Below.refl _ _).alloc (Nat.le_refl _) _).alloc (by simp) _).alloc (by simp;omega) _;go_enter Tryz.func49,Tryz.ntmps49
 go_upto_region 2 with (first | refine qbe (p:=n7a) rfl rfl ?_ | refine al_pk ?_ | (refine bu_pk n7a (by kernel_rfl) ?_) | fail)
 change Code.wp _ _ _ Fq120 _;unfold Fq120;simp only[World.size_alloc]
 go_upto_region 46 with fail
 go_wp2_with (first | refine qap D rfl _ rfl rfl ?_ | (refine qak (q:=(n7 p)) (old:=Pk.zero) A rfl rfl ?_;intro w9 B9 b9) | fail)
 exact qaw rfl rfl B9 rfl ⟨rfl,hb.trans (b9.mono (by omega))⟩
def n11a:Pk:=(Pk.mk 11 false 0 false 0 ByteArray.empty ⟨none,0,0⟩ ByteArray.empty 0 false 0 false ByteArray.empty ⟨none,0,0⟩ 0 false false ByteArray.empty false ⟨none,0,0⟩ 0 false ⟨none,0,0⟩ ⟨none,0,0⟩ ⟨none,0,0⟩)
def n11 (p:Pk):Pk:=(Pk.mk 11 false 0 false p.id ByteArray.empty ⟨none,0,0⟩ ByteArray.empty 0 false 0 false ByteArray.empty ⟨none,0,0⟩ 0 false false ByteArray.empty false ⟨none,0,0⟩ 0 false ⟨none,0,0⟩ ⟨none,0,0⟩ ⟨none,0,0⟩)
theorem snam_11 (p:Pk) (w:World) (ht:p.ty=11):Calls Tryz.prog 49 #[.agg p.cells] w fun e w'=>e=.returned (.agg (n11 p).cells)∧Below w.heap.size w w':=by
 have a0:=p.c0;have a4:=p.c4;rw[ht] at a0;have s4:=Pk.set4;have z4:=Pk.c4;have ne0:w.heap.size≠w.heap.size+1+1:=by omega
 have ne1:w.heap.size+1≠w.heap.size+1+1:=by omega
 generalize p.cells=cs at *;have A:Blk (((w.alloc (.cells cs 32)).alloc (.cells Pk.zero.cells 32)).alloc (.cells (n11 p).cells 32)) (w.heap.size+1) Pk.zero:=qbf _ _ _ _;have D:Blk (((w.alloc (.cells cs 32)).alloc (.cells Pk.zero.cells 32)).alloc (.cells (n11 p).cells 32)) (w.heap.size+1+1) (n11 p):=qbg _ _ _ _;have hb:Below w.heap.size w (((w.alloc (.cells cs 32)).alloc (.cells Pk.zero.cells 32)).alloc (.cells (n11 p).cells 32)):=(((Below.refl _ _).alloc (Nat.le_refl _) _).alloc (by simp) _).alloc (by simp;omega) _;go_enter Tryz.func49,Tryz.ntmps49
 go_upto_region 2 with (first | refine qbe (p:=n11a) rfl rfl ?_ | refine al_pk ?_ | (refine bu_pk n11a (by kernel_rfl) ?_) | fail)
 change Code.wp _ _ _ Fq120 _;unfold Fq120;simp only[World.size_alloc]
 go_upto_region 46 with fail
 go_wp2_with (first | refine qap D rfl _ rfl rfl ?_ | (refine qak (q:=(n11 p)) (old:=Pk.zero) A rfl rfl ?_;intro w9 B9 b9) | fail)
 exact qaw rfl rfl B9 rfl ⟨rfl,hb.trans (b9.mono (by omega))⟩
def n8a:Pk:=(Pk.mk 8 false 0 false 0 ByteArray.empty ⟨none,0,0⟩ ByteArray.empty 0 false 0 false ByteArray.empty ⟨none,0,0⟩ 0 false false ByteArray.empty false ⟨none,0,0⟩ 0 false ⟨none,0,0⟩ ⟨none,0,0⟩ ⟨none,0,0⟩)
def n8 (p:Pk):Pk:=(Pk.mk 8 false 0 false p.id ByteArray.empty ⟨none,0,0⟩ ByteArray.empty 0 false 0 false ByteArray.empty ⟨none,0,0⟩ 0 false false ByteArray.empty false ⟨none,0,0⟩ 0 false p.wan ⟨none,0,0⟩ ⟨none,0,0⟩)
theorem snam_8 (p:Pk) (w:World) (ht:p.ty=8):Calls Tryz.prog 49 #[.agg p.cells] w fun e w'=>e=.returned (.agg (n8 p).cells)∧Below w.heap.size w w':=by
 have a0:=p.c0;have a4:=p.c4;have a22:=p.c22;rw[ht] at a0;have s4:=Pk.set4;have z4:=Pk.c4;have s22:=Pk.set22;have z22:=Pk.c22;have ne0:w.heap.size≠w.heap.size+1+1:=by omega
 have ne1:w.heap.size+1≠w.heap.size+1+1:=by omega
 generalize p.cells=cs at *;have A:Blk (((w.alloc (.cells cs 32)).alloc (.cells Pk.zero.cells 32)).alloc (.cells (n8 p).cells 32)) (w.heap.size+1) Pk.zero:=qbf _ _ _ _;have D:Blk (((w.alloc (.cells cs 32)).alloc (.cells Pk.zero.cells 32)).alloc (.cells (n8 p).cells 32)) (w.heap.size+1+1) (n8 p):=qbg _ _ _ _;have hb:Below w.heap.size w (((w.alloc (.cells cs 32)).alloc (.cells Pk.zero.cells 32)).alloc (.cells (n8 p).cells 32)):=(((Below.refl _ _).alloc (Nat.le_refl _) _).alloc (by simp) _).alloc (by simp;omega) _;go_enter Tryz.func49,Tryz.ntmps49
 go_upto_region 2 with (first | refine qbe (p:=n8a) rfl rfl ?_ | refine al_pk ?_ | (refine bu_pk n8a (by kernel_rfl) ?_) | fail)
 change Code.wp _ _ _ Fq120 _;unfold Fq120;simp only[World.size_alloc]
 go_upto_region 46 with fail
 go_wp2_with (first | refine qap D rfl _ rfl rfl ?_ | (refine qak (q:=(n8 p)) (old:=Pk.zero) A rfl rfl ?_;intro w9 B9 b9) | fail)
 exact qaw rfl rfl B9 rfl ⟨rfl,hb.trans (b9.mono (by omega))⟩
def n9a:Pk:=(Pk.mk 9 false 0 false 0 ByteArray.empty ⟨none,0,0⟩ ByteArray.empty 0 false 0 false ByteArray.empty ⟨none,0,0⟩ 0 false false ByteArray.empty false ⟨none,0,0⟩ 0 false ⟨none,0,0⟩ ⟨none,0,0⟩ ⟨none,0,0⟩)
def n9 (p:Pk):Pk:=(Pk.mk 9 false 0 false p.id ByteArray.empty ⟨none,0,0⟩ ByteArray.empty 0 false 0 false ByteArray.empty ⟨none,0,0⟩ 0 false false ByteArray.empty false ⟨none,0,0⟩ 0 false ⟨none,0,0⟩ ⟨none,0,0⟩ p.cds)
theorem snam_9 (p:Pk) (w:World) (ht:p.ty=9):Calls Tryz.prog 49 #[.agg p.cells] w fun e w'=>e=.returned (.agg (n9 p).cells)∧Below w.heap.size w w':=by
 have a0:=p.c0;have a4:=p.c4;have a24:=p.c24;rw[ht] at a0;have s4:=Pk.set4;have z4:=Pk.c4;have s24:=Pk.set24;have z24:=Pk.c24;have ne0:w.heap.size≠w.heap.size+1+1:=by omega
 have ne1:w.heap.size+1≠w.heap.size+1+1:=by omega
 generalize p.cells=cs at *;have A:Blk (((w.alloc (.cells cs 32)).alloc (.cells Pk.zero.cells 32)).alloc (.cells (n9 p).cells 32)) (w.heap.size+1) Pk.zero:=qbf _ _ _ _;have D:Blk (((w.alloc (.cells cs 32)).alloc (.cells Pk.zero.cells 32)).alloc (.cells (n9 p).cells 32)) (w.heap.size+1+1) (n9 p):=qbg _ _ _ _;have hb:Below w.heap.size w (((w.alloc (.cells cs 32)).alloc (.cells Pk.zero.cells 32)).alloc (.cells (n9 p).cells 32)):=(((Below.refl _ _).alloc (Nat.le_refl _) _).alloc (by simp) _).alloc (by simp;omega) _;go_enter Tryz.func49,Tryz.ntmps49
 go_upto_region 2 with (first | refine qbe (p:=n9a) rfl rfl ?_ | refine al_pk ?_ | (refine bu_pk n9a (by kernel_rfl) ?_) | fail)
 change Code.wp _ _ _ Fq120 _;unfold Fq120;simp only[World.size_alloc]
 go_upto_region 46 with fail
 go_wp2_with (first | refine qap D rfl _ rfl rfl ?_ | (refine qak (q:=(n9 p)) (old:=Pk.zero) A rfl rfl ?_;intro w9 B9 b9) | fail)
 exact qaw rfl rfl B9 rfl ⟨rfl,hb.trans (b9.mono (by omega))⟩
def n10a:Pk:=(Pk.mk 10 false 0 false 0 ByteArray.empty ⟨none,0,0⟩ ByteArray.empty 0 false 0 false ByteArray.empty ⟨none,0,0⟩ 0 false false ByteArray.empty false ⟨none,0,0⟩ 0 false ⟨none,0,0⟩ ⟨none,0,0⟩ ⟨none,0,0⟩)
def n10 (p:Pk):Pk:=(Pk.mk 10 false 0 false p.id ByteArray.empty ⟨none,0,0⟩ ByteArray.empty 0 false 0 false ByteArray.empty ⟨none,0,0⟩ 0 false false ByteArray.empty false ⟨none,0,0⟩ 0 false ⟨none,0,0⟩ p.nam ⟨none,0,0⟩)
theorem snam_10 (p:Pk) (w:World) (ht:p.ty=10):Calls Tryz.prog 49 #[.agg p.cells] w fun e w'=>e=.returned (.agg (n10 p).cells)∧Below w.heap.size w w':=by
 have a0:=p.c0;have a4:=p.c4;have a23:=p.c23;rw[ht] at a0;have s4:=Pk.set4;have z4:=Pk.c4;have s23:=Pk.set23;have z23:=Pk.c23;have ne0:w.heap.size≠w.heap.size+1+1:=by omega
 have ne1:w.heap.size+1≠w.heap.size+1+1:=by omega
 generalize p.cells=cs at *;have A:Blk (((w.alloc (.cells cs 32)).alloc (.cells Pk.zero.cells 32)).alloc (.cells (n10 p).cells 32)) (w.heap.size+1) Pk.zero:=qbf _ _ _ _;have D:Blk (((w.alloc (.cells cs 32)).alloc (.cells Pk.zero.cells 32)).alloc (.cells (n10 p).cells 32)) (w.heap.size+1+1) (n10 p):=qbg _ _ _ _;have hb:Below w.heap.size w (((w.alloc (.cells cs 32)).alloc (.cells Pk.zero.cells 32)).alloc (.cells (n10 p).cells 32)):=(((Below.refl _ _).alloc (Nat.le_refl _) _).alloc (by simp) _).alloc (by simp;omega) _;go_enter Tryz.func49,Tryz.ntmps49
 go_upto_region 2 with (first | refine qbe (p:=n10a) rfl rfl ?_ | refine al_pk ?_ | (refine bu_pk n10a (by kernel_rfl) ?_) | fail)
 change Code.wp _ _ _ Fq120 _;unfold Fq120;simp only[World.size_alloc]
 go_upto_region 46 with fail
 go_wp2_with (first | refine qap D rfl _ rfl rfl ?_ | (refine qak (q:=(n10 p)) (old:=Pk.zero) A rfl rfl ?_;intro w9 B9 b9) | fail)
 exact qaw rfl rfl B9 rfl ⟨rfl,hb.trans (b9.mono (by omega))⟩
def n12a:Pk:=(Pk.mk 12 false 0 false 0 ByteArray.empty ⟨none,0,0⟩ ByteArray.empty 0 false 0 false ByteArray.empty ⟨none,0,0⟩ 0 false false ByteArray.empty false ⟨none,0,0⟩ 0 false ⟨none,0,0⟩ ⟨none,0,0⟩ ⟨none,0,0⟩)
def n12 (p:Pk):Pk:=(Pk.mk 12 false 0 false 0 ByteArray.empty ⟨none,0,0⟩ ByteArray.empty 0 false 0 false ByteArray.empty ⟨none,0,0⟩ 0 false false ByteArray.empty false ⟨none,0,0⟩ 0 false ⟨none,0,0⟩ ⟨none,0,0⟩ ⟨none,0,0⟩)
theorem snam_12 (p:Pk) (w:World) (ht:p.ty=12):Calls Tryz.prog 49 #[.agg p.cells] w fun e w'=>e=.returned (.agg (n12 p).cells)∧Below w.heap.size w w':=by
 have a0:=p.c0;rw[ht] at a0;have ne0:w.heap.size≠w.heap.size+1+1:=by omega
 have ne1:w.heap.size+1≠w.heap.size+1+1:=by omega
 generalize p.cells=cs at *;have A:Blk (((w.alloc (.cells cs 32)).alloc (.cells Pk.zero.cells 32)).alloc (.cells (n12 p).cells 32)) (w.heap.size+1) Pk.zero:=qbf _ _ _ _;have D:Blk (((w.alloc (.cells cs 32)).alloc (.cells Pk.zero.cells 32)).alloc (.cells (n12 p).cells 32)) (w.heap.size+1+1) (n12 p):=qbg _ _ _ _;have hb:Below w.heap.size w (((w.alloc (.cells cs 32)).alloc (.cells Pk.zero.cells 32)).alloc (.cells (n12 p).cells 32)):=(((Below.refl _ _).alloc (Nat.le_refl _) _).alloc (by simp) _).alloc (by simp;omega) _;go_enter Tryz.func49,Tryz.ntmps49
 go_upto_region 2 with (first | refine qbe (p:=n12a) rfl rfl ?_ | refine al_pk ?_ | (refine bu_pk n12a (by kernel_rfl) ?_) | fail)
 change Code.wp _ _ _ Fq120 _;unfold Fq120;simp only[World.size_alloc]
 go_upto_region 46 with fail
 go_wp2_with (first | refine qap D rfl _ rfl rfl ?_ | (refine qak (q:=(n12 p)) (old:=Pk.zero) A rfl rfl ?_;intro w9 B9 b9) | fail)
 exact qaw rfl rfl B9 rfl ⟨rfl,hb.trans (b9.mono (by omega))⟩
def n13a:Pk:=(Pk.mk 13 false 0 false 0 ByteArray.empty ⟨none,0,0⟩ ByteArray.empty 0 false 0 false ByteArray.empty ⟨none,0,0⟩ 0 false false ByteArray.empty false ⟨none,0,0⟩ 0 false ⟨none,0,0⟩ ⟨none,0,0⟩ ⟨none,0,0⟩)
def n13 (p:Pk):Pk:=(Pk.mk 13 false 0 false 0 ByteArray.empty ⟨none,0,0⟩ ByteArray.empty 0 false 0 false ByteArray.empty ⟨none,0,0⟩ 0 false false ByteArray.empty false ⟨none,0,0⟩ 0 false ⟨none,0,0⟩ ⟨none,0,0⟩ ⟨none,0,0⟩)
theorem snam_13 (p:Pk) (w:World) (ht:p.ty=13):Calls Tryz.prog 49 #[.agg p.cells] w fun e w'=>e=.returned (.agg (n13 p).cells)∧Below w.heap.size w w':=by
 have a0:=p.c0;rw[ht] at a0;have ne0:w.heap.size≠w.heap.size+1+1:=by omega
 have ne1:w.heap.size+1≠w.heap.size+1+1:=by omega
 generalize p.cells=cs at *;have A:Blk (((w.alloc (.cells cs 32)).alloc (.cells Pk.zero.cells 32)).alloc (.cells (n13 p).cells 32)) (w.heap.size+1) Pk.zero:=qbf _ _ _ _;have D:Blk (((w.alloc (.cells cs 32)).alloc (.cells Pk.zero.cells 32)).alloc (.cells (n13 p).cells 32)) (w.heap.size+1+1) (n13 p):=qbg _ _ _ _;have hb:Below w.heap.size w (((w.alloc (.cells cs 32)).alloc (.cells Pk.zero.cells 32)).alloc (.cells (n13 p).cells 32)):=(((Below.refl _ _).alloc (Nat.le_refl _) _).alloc (by simp) _).alloc (by simp;omega) _;go_enter Tryz.func49,Tryz.ntmps49
 go_upto_region 2 with (first | refine qbe (p:=n13a) rfl rfl ?_ | refine al_pk ?_ | (refine bu_pk n13a (by kernel_rfl) ?_) | fail)
 change Code.wp _ _ _ Fq120 _;unfold Fq120;simp only[World.size_alloc]
 go_upto_region 46 with fail
 go_wp2_with (first | refine qap D rfl _ rfl rfl ?_ | (refine qak (q:=(n13 p)) (old:=Pk.zero) A rfl rfl ?_;intro w9 B9 b9) | fail)
 exact qaw rfl rfl B9 rfl ⟨rfl,hb.trans (b9.mono (by omega))⟩
def n14a:Pk:=(Pk.mk 14 false 0 false 0 ByteArray.empty ⟨none,0,0⟩ ByteArray.empty 0 false 0 false ByteArray.empty ⟨none,0,0⟩ 0 false false ByteArray.empty false ⟨none,0,0⟩ 0 false ⟨none,0,0⟩ ⟨none,0,0⟩ ⟨none,0,0⟩)
def n14 (p:Pk):Pk:=(Pk.mk 14 false 0 false 0 ByteArray.empty ⟨none,0,0⟩ ByteArray.empty 0 false 0 false ByteArray.empty ⟨none,0,0⟩ 0 false false ByteArray.empty false ⟨none,0,0⟩ 0 false ⟨none,0,0⟩ ⟨none,0,0⟩ ⟨none,0,0⟩)
theorem snam_14 (p:Pk) (w:World) (ht:p.ty=14):Calls Tryz.prog 49 #[.agg p.cells] w fun e w'=>e=.returned (.agg (n14 p).cells)∧Below w.heap.size w w':=by
 have a0:=p.c0;rw[ht] at a0;have ne0:w.heap.size≠w.heap.size+1+1:=by omega
 have ne1:w.heap.size+1≠w.heap.size+1+1:=by omega
 generalize p.cells=cs at *;have A:Blk (((w.alloc (.cells cs 32)).alloc (.cells Pk.zero.cells 32)).alloc (.cells (n14 p).cells 32)) (w.heap.size+1) Pk.zero:=qbf _ _ _ _;have D:Blk (((w.alloc (.cells cs 32)).alloc (.cells Pk.zero.cells 32)).alloc (.cells (n14 p).cells 32)) (w.heap.size+1+1) (n14 p):=qbg _ _ _ _;have hb:Below w.heap.size w (((w.alloc (.cells cs 32)).alloc (.cells Pk.zero.cells 32)).alloc (.cells (n14 p).cells 32)):=(((Below.refl _ _).alloc (Nat.le_refl _) _).alloc (by simp) _).alloc (by simp;omega) _;go_enter Tryz.func49,Tryz.ntmps49
 go_upto_region 2 with (first | refine qbe (p:=n14a) rfl rfl ?_ | refine al_pk ?_ | (refine bu_pk n14a (by kernel_rfl) ?_) | fail)
 change Code.wp _ _ _ Fq120 _;unfold Fq120;simp only[World.size_alloc]
 go_upto_region 46 with fail
 go_wp2_with (first | refine qap D rfl _ rfl rfl ?_ | (refine qak (q:=(n14 p)) (old:=Pk.zero) A rfl rfl ?_;intro w9 B9 b9) | fail)
 exact qaw rfl rfl B9 rfl ⟨rfl,hb.trans (b9.mono (by omega))⟩
