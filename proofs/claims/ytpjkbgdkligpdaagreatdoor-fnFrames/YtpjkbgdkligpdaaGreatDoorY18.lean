/- Lemmas. -/
import Derived.Test.YtpjkbgdkligpdaaGreatDoorY08
import Derived.Test.YtpjkbgdkligpdaaGreatDoorY01
set_option linter.all false
set_option maxRecDepth 100000
set_option maxHeartbeats 20000000
namespace Go.Proofs.YtpjkbgdkligpdaaGreatDoor
open Go.RowKit

theorem qby (w:World) (A B C:Obj):(((w.alloc A).alloc B).alloc C).heap[w.heap.size+1]? = some B :=
 (heap_alloc_old ((w.alloc A).alloc B) C (by show w.heap.size+1<((w.heap.push A).push B).size;simp)).trans (heap_alloc2_new w A B)
theorem qbz (w:World) (A B C:Obj):(((w.alloc A).alloc B).alloc C).heap[w.heap.size+1+1]? = some C:=by
 have h:=heap_alloc2_new (w.alloc A) B C;have e:(w.alloc A).heap.size=w.heap.size+1:=by
  show (w.heap.push A).size=_;simp
 rwa [e] at h
theorem Pk.set1 (q:Pk) (x:Bool):q.cells.setIfInBounds 1 (.bool x)=(Pk.mk q.ty x q.qos q.ret q.id q.top q.bod q.cli q.lev q.cln q.kee q.hw q.wt q.wb q.wq q.wr q.hu q.us q.hp q.pa q.cod q.pre q.wan q.nam q.cds).cells:=rfl
theorem Pk.set2 (q:Pk) (x:Int):q.cells.setIfInBounds 2 (.int .i64 x)=(Pk.mk q.ty q.dup x q.ret q.id q.top q.bod q.cli q.lev q.cln q.kee q.hw q.wt q.wb q.wq q.wr q.hu q.us q.hp q.pa q.cod q.pre q.wan q.nam q.cds).cells:=rfl
theorem Pk.set3 (q:Pk) (x:Bool):q.cells.setIfInBounds 3 (.bool x)=(Pk.mk q.ty q.dup q.qos x q.id q.top q.bod q.cli q.lev q.cln q.kee q.hw q.wt q.wb q.wq q.wr q.hu q.us q.hp q.pa q.cod q.pre q.wan q.nam q.cds).cells:=rfl
theorem Pk.set4 (q:Pk) (x:Int):q.cells.setIfInBounds 4 (.int .i64 x)=(Pk.mk q.ty q.dup q.qos q.ret x q.top q.bod q.cli q.lev q.cln q.kee q.hw q.wt q.wb q.wq q.wr q.hu q.us q.hp q.pa q.cod q.pre q.wan q.nam q.cds).cells:=rfl
theorem Pk.set5 (q:Pk) (x:ByteArray):q.cells.setIfInBounds 5 (.string x)=(Pk.mk q.ty q.dup q.qos q.ret q.id x q.bod q.cli q.lev q.cln q.kee q.hw q.wt q.wb q.wq q.wr q.hu q.us q.hp q.pa q.cod q.pre q.wan q.nam q.cds).cells:=rfl
theorem Pk.set6 (q:Pk) (x:Sl):q.cells.setIfInBounds 6 (.slice x.a x.n x.c)=(Pk.mk q.ty q.dup q.qos q.ret q.id q.top x q.cli q.lev q.cln q.kee q.hw q.wt q.wb q.wq q.wr q.hu q.us q.hp q.pa q.cod q.pre q.wan q.nam q.cds).cells:=rfl
theorem Pk.set7 (q:Pk) (x:ByteArray):q.cells.setIfInBounds 7 (.string x)=(Pk.mk q.ty q.dup q.qos q.ret q.id q.top q.bod x q.lev q.cln q.kee q.hw q.wt q.wb q.wq q.wr q.hu q.us q.hp q.pa q.cod q.pre q.wan q.nam q.cds).cells:=rfl
theorem Pk.set8 (q:Pk) (x:Int):q.cells.setIfInBounds 8 (.int .i64 x)=(Pk.mk q.ty q.dup q.qos q.ret q.id q.top q.bod q.cli x q.cln q.kee q.hw q.wt q.wb q.wq q.wr q.hu q.us q.hp q.pa q.cod q.pre q.wan q.nam q.cds).cells:=rfl
theorem Pk.set9 (q:Pk) (x:Bool):q.cells.setIfInBounds 9 (.bool x)=(Pk.mk q.ty q.dup q.qos q.ret q.id q.top q.bod q.cli q.lev x q.kee q.hw q.wt q.wb q.wq q.wr q.hu q.us q.hp q.pa q.cod q.pre q.wan q.nam q.cds).cells:=rfl
theorem Pk.set10 (q:Pk) (x:Int):q.cells.setIfInBounds 10 (.int .i64 x)=(Pk.mk q.ty q.dup q.qos q.ret q.id q.top q.bod q.cli q.lev q.cln x q.hw q.wt q.wb q.wq q.wr q.hu q.us q.hp q.pa q.cod q.pre q.wan q.nam q.cds).cells:=rfl
theorem Pk.set11 (q:Pk) (x:Bool):q.cells.setIfInBounds 11 (.bool x)=(Pk.mk q.ty q.dup q.qos q.ret q.id q.top q.bod q.cli q.lev q.cln q.kee x q.wt q.wb q.wq q.wr q.hu q.us q.hp q.pa q.cod q.pre q.wan q.nam q.cds).cells:=rfl
theorem Pk.set12 (q:Pk) (x:ByteArray):q.cells.setIfInBounds 12 (.string x)=(Pk.mk q.ty q.dup q.qos q.ret q.id q.top q.bod q.cli q.lev q.cln q.kee q.hw x q.wb q.wq q.wr q.hu q.us q.hp q.pa q.cod q.pre q.wan q.nam q.cds).cells:=rfl
theorem Pk.set13 (q:Pk) (x:Sl):q.cells.setIfInBounds 13 (.slice x.a x.n x.c)=(Pk.mk q.ty q.dup q.qos q.ret q.id q.top q.bod q.cli q.lev q.cln q.kee q.hw q.wt x q.wq q.wr q.hu q.us q.hp q.pa q.cod q.pre q.wan q.nam q.cds).cells:=rfl
theorem Pk.set14 (q:Pk) (x:Int):q.cells.setIfInBounds 14 (.int .i64 x)=(Pk.mk q.ty q.dup q.qos q.ret q.id q.top q.bod q.cli q.lev q.cln q.kee q.hw q.wt q.wb x q.wr q.hu q.us q.hp q.pa q.cod q.pre q.wan q.nam q.cds).cells:=rfl
theorem Pk.set15 (q:Pk) (x:Bool):q.cells.setIfInBounds 15 (.bool x)=(Pk.mk q.ty q.dup q.qos q.ret q.id q.top q.bod q.cli q.lev q.cln q.kee q.hw q.wt q.wb q.wq x q.hu q.us q.hp q.pa q.cod q.pre q.wan q.nam q.cds).cells:=rfl
theorem Pk.set16 (q:Pk) (x:Bool):q.cells.setIfInBounds 16 (.bool x)=(Pk.mk q.ty q.dup q.qos q.ret q.id q.top q.bod q.cli q.lev q.cln q.kee q.hw q.wt q.wb q.wq q.wr x q.us q.hp q.pa q.cod q.pre q.wan q.nam q.cds).cells:=rfl
theorem Pk.set17 (q:Pk) (x:ByteArray):q.cells.setIfInBounds 17 (.string x)=(Pk.mk q.ty q.dup q.qos q.ret q.id q.top q.bod q.cli q.lev q.cln q.kee q.hw q.wt q.wb q.wq q.wr q.hu x q.hp q.pa q.cod q.pre q.wan q.nam q.cds).cells:=rfl
theorem Pk.set18 (q:Pk) (x:Bool):q.cells.setIfInBounds 18 (.bool x)=(Pk.mk q.ty q.dup q.qos q.ret q.id q.top q.bod q.cli q.lev q.cln q.kee q.hw q.wt q.wb q.wq q.wr q.hu q.us x q.pa q.cod q.pre q.wan q.nam q.cds).cells:=rfl
theorem Pk.set19 (q:Pk) (x:Sl):q.cells.setIfInBounds 19 (.slice x.a x.n x.c)=(Pk.mk q.ty q.dup q.qos q.ret q.id q.top q.bod q.cli q.lev q.cln q.kee q.hw q.wt q.wb q.wq q.wr q.hu q.us q.hp x q.cod q.pre q.wan q.nam q.cds).cells:=rfl
theorem Pk.set20 (q:Pk) (x:Int):q.cells.setIfInBounds 20 (.int .i64 x)=(Pk.mk q.ty q.dup q.qos q.ret q.id q.top q.bod q.cli q.lev q.cln q.kee q.hw q.wt q.wb q.wq q.wr q.hu q.us q.hp q.pa x q.pre q.wan q.nam q.cds).cells:=rfl
theorem Pk.set21 (q:Pk) (x:Bool):q.cells.setIfInBounds 21 (.bool x)=(Pk.mk q.ty q.dup q.qos q.ret q.id q.top q.bod q.cli q.lev q.cln q.kee q.hw q.wt q.wb q.wq q.wr q.hu q.us q.hp q.pa q.cod x q.wan q.nam q.cds).cells:=rfl
theorem Pk.set22 (q:Pk) (x:Sl):q.cells.setIfInBounds 22 (.slice x.a x.n x.c)=(Pk.mk q.ty q.dup q.qos q.ret q.id q.top q.bod q.cli q.lev q.cln q.kee q.hw q.wt q.wb q.wq q.wr q.hu q.us q.hp q.pa q.cod q.pre x q.nam q.cds).cells:=rfl
theorem Pk.set23 (q:Pk) (x:Sl):q.cells.setIfInBounds 23 (.slice x.a x.n x.c)=(Pk.mk q.ty q.dup q.qos q.ret q.id q.top q.bod q.cli q.lev q.cln q.kee q.hw q.wt q.wb q.wq q.wr q.hu q.us q.hp q.pa q.cod q.pre q.wan x q.cds).cells:=rfl
theorem Pk.set24 (q:Pk) (x:Sl):q.cells.setIfInBounds 24 (.slice x.a x.n x.c)=(Pk.mk q.ty q.dup q.qos q.ret q.id q.top q.bod q.cli q.lev q.cln q.kee q.hw q.wt q.wb q.wq q.wr q.hu q.us q.hp q.pa q.cod q.pre q.wan q.nam x).cells:=rfl
def n1nnna:Pk:=(Pk.mk 1 false 0 false 0 ByteArray.empty ⟨none,0,0⟩ ByteArray.empty 0 false 0 false ByteArray.empty ⟨none,0,0⟩ 0 false false ByteArray.empty false ⟨none,0,0⟩ 0 false ⟨none,0,0⟩ ⟨none,0,0⟩ ⟨none,0,0⟩)
def n1nnn (p:Pk):Pk:=(Pk.mk 1 false 0 false 0 ByteArray.empty ⟨none,0,0⟩ p.cli p.lev p.cln p.kee false ByteArray.empty ⟨none,0,0⟩ 0 false false ByteArray.empty false ⟨none,0,0⟩ 0 false ⟨none,0,0⟩ ⟨none,0,0⟩ ⟨none,0,0⟩)
theorem snam_1nnn (p:Pk) (w:World) (ht:p.ty=1) (h1:p.hw=false) (h2:p.hu=false):Calls Tryz.prog 70 #[.agg p.cells] w fun e w'=>e=.returned (.agg (n1nnn p).cells)∧Below w.heap.size w w':=by
 have a0:=p.c0;have a7:=p.c7;have a8:=p.c8;have a9:=p.c9;have a10:=p.c10;have a11:=p.c11;have a16:=p.c16;rw[ht] at a0;rw[h1] at a11;rw[h2] at a16;have s8:=Pk.set8;have z8:=Pk.c8;have s7:=Pk.set7;have z7:=Pk.c7;have s9:=Pk.set9;have z9:=Pk.c9;have s10:=Pk.set10;have z10:=Pk.c10;have ne0:w.heap.size≠w.heap.size+1+1:=by omega
 have ne1:w.heap.size+1≠w.heap.size+1+1:=by omega
 generalize p.cells=cs at *;have A:Blk (((w.alloc (.cells cs 28)).alloc (.cells Pk.zero.cells 28)).alloc (.cells (n1nnn p).cells 28)) (w.heap.size+1) Pk.zero:=qby _ _ _ _;have D:Blk (((w.alloc (.cells cs 28)).alloc (.cells Pk.zero.cells 28)).alloc (.cells (n1nnn p).cells 28)) (w.heap.size+1+1) (n1nnn p):=qbz _ _ _ _;have hb:Below w.heap.size w (((w.alloc (.cells cs 28)).alloc (.cells Pk.zero.cells 28)).alloc (.cells (n1nnn p).cells 28)):=(((Below.refl _ _).alloc (Nat.le_refl _) _).alloc (by simp) _).alloc (by simp;omega) _;go_enter Tryz.func70,Tryz.ntmps70
 go_upto_region 2 with (first | refine qaz (p:=n1nnna) rfl rfl ?_ | refine al_pk ?_ | (refine bu_pk n1nnna (by kernel_rfl) ?_) | fail)
 change Code.wp _ _ _ Fq120 _;unfold Fq120;simp only[World.size_alloc]
 go_upto_region 46 with fail
 go_wp2_with (first | refine qaj D rfl _ rfl rfl ?_ | (refine qas (q:=(n1nnn p)) (old:=Pk.zero) A rfl rfl ?_;intro w9 B9 b9) | fail)
 exact qam rfl rfl B9 rfl ⟨rfl,hb.trans (b9.mono (by omega))⟩
def n1nuna:Pk:=(Pk.mk 1 false 0 false 0 ByteArray.empty ⟨none,0,0⟩ ByteArray.empty 0 false 0 false ByteArray.empty ⟨none,0,0⟩ 0 false false ByteArray.empty false ⟨none,0,0⟩ 0 false ⟨none,0,0⟩ ⟨none,0,0⟩ ⟨none,0,0⟩)
def n1nun (p:Pk):Pk:=(Pk.mk 1 false 0 false 0 ByteArray.empty ⟨none,0,0⟩ p.cli p.lev p.cln p.kee false ByteArray.empty ⟨none,0,0⟩ 0 false true p.us false ⟨none,0,0⟩ 0 false ⟨none,0,0⟩ ⟨none,0,0⟩ ⟨none,0,0⟩)
theorem snam_1nun (p:Pk) (w:World) (ht:p.ty=1) (h1:p.hw=false) (h2:p.hu=true) (h3:p.hp=false):Calls Tryz.prog 70 #[.agg p.cells] w fun e w'=>e=.returned (.agg (n1nun p).cells)∧Below w.heap.size w w':=by
 have a0:=p.c0;have a7:=p.c7;have a8:=p.c8;have a9:=p.c9;have a10:=p.c10;have a11:=p.c11;have a16:=p.c16;have a17:=p.c17;have a18:=p.c18;rw[ht] at a0;rw[h1] at a11;rw[h2] at a16;rw[h3] at a18;have s8:=Pk.set8;have z8:=Pk.c8;have s7:=Pk.set7;have z7:=Pk.c7;have s9:=Pk.set9;have z9:=Pk.c9;have s10:=Pk.set10;have z10:=Pk.c10;have s16:=Pk.set16;have z16:=Pk.c16;have s17:=Pk.set17;have z17:=Pk.c17;have ne0:w.heap.size≠w.heap.size+1+1:=by omega
 have ne1:w.heap.size+1≠w.heap.size+1+1:=by omega
 generalize p.cells=cs at *;have A:Blk (((w.alloc (.cells cs 28)).alloc (.cells Pk.zero.cells 28)).alloc (.cells (n1nun p).cells 28)) (w.heap.size+1) Pk.zero:=qby _ _ _ _;have D:Blk (((w.alloc (.cells cs 28)).alloc (.cells Pk.zero.cells 28)).alloc (.cells (n1nun p).cells 28)) (w.heap.size+1+1) (n1nun p):=qbz _ _ _ _;have hb:Below w.heap.size w (((w.alloc (.cells cs 28)).alloc (.cells Pk.zero.cells 28)).alloc (.cells (n1nun p).cells 28)):=(((Below.refl _ _).alloc (Nat.le_refl _) _).alloc (by simp) _).alloc (by simp;omega) _;go_enter Tryz.func70,Tryz.ntmps70
 go_upto_region 2 with (first | refine qaz (p:=n1nuna) rfl rfl ?_ | refine al_pk ?_ | (refine bu_pk n1nuna (by kernel_rfl) ?_) | fail)
 change Code.wp _ _ _ Fq120 _;unfold Fq120;simp only[World.size_alloc]
 go_upto_region 46 with fail
 go_wp2_with (first | refine qaj D rfl _ rfl rfl ?_ | (refine qas (q:=(n1nun p)) (old:=Pk.zero) A rfl rfl ?_;intro w9 B9 b9) | fail)
 exact qam rfl rfl B9 rfl ⟨rfl,hb.trans (b9.mono (by omega))⟩
def n1nupa:Pk:=(Pk.mk 1 false 0 false 0 ByteArray.empty ⟨none,0,0⟩ ByteArray.empty 0 false 0 false ByteArray.empty ⟨none,0,0⟩ 0 false false ByteArray.empty false ⟨none,0,0⟩ 0 false ⟨none,0,0⟩ ⟨none,0,0⟩ ⟨none,0,0⟩)
def n1nup (p:Pk):Pk:=(Pk.mk 1 false 0 false 0 ByteArray.empty ⟨none,0,0⟩ p.cli p.lev p.cln p.kee false ByteArray.empty ⟨none,0,0⟩ 0 false true p.us true p.pa 0 false ⟨none,0,0⟩ ⟨none,0,0⟩ ⟨none,0,0⟩)
theorem snam_1nup (p:Pk) (w:World) (ht:p.ty=1) (h1:p.hw=false) (h2:p.hu=true) (h3:p.hp=true):Calls Tryz.prog 70 #[.agg p.cells] w fun e w'=>e=.returned (.agg (n1nup p).cells)∧Below w.heap.size w w':=by
 have a0:=p.c0;have a7:=p.c7;have a8:=p.c8;have a9:=p.c9;have a10:=p.c10;have a11:=p.c11;have a16:=p.c16;have a17:=p.c17;have a18:=p.c18;have a19:=p.c19;rw[ht] at a0;rw[h1] at a11;rw[h2] at a16;rw[h3] at a18;have s8:=Pk.set8;have z8:=Pk.c8;have s7:=Pk.set7;have z7:=Pk.c7;have s9:=Pk.set9;have z9:=Pk.c9;have s10:=Pk.set10;have z10:=Pk.c10;have s16:=Pk.set16;have z16:=Pk.c16;have s17:=Pk.set17;have z17:=Pk.c17;have s18:=Pk.set18;have z18:=Pk.c18;have s19:=Pk.set19;have z19:=Pk.c19;have ne0:w.heap.size≠w.heap.size+1+1:=by omega
 have ne1:w.heap.size+1≠w.heap.size+1+1:=by omega
 generalize p.cells=cs at *;have A:Blk (((w.alloc (.cells cs 28)).alloc (.cells Pk.zero.cells 28)).alloc (.cells (n1nup p).cells 28)) (w.heap.size+1) Pk.zero:=qby _ _ _ _;have D:Blk (((w.alloc (.cells cs 28)).alloc (.cells Pk.zero.cells 28)).alloc (.cells (n1nup p).cells 28)) (w.heap.size+1+1) (n1nup p):=qbz _ _ _ _;have hb:Below w.heap.size w (((w.alloc (.cells cs 28)).alloc (.cells Pk.zero.cells 28)).alloc (.cells (n1nup p).cells 28)):=(((Below.refl _ _).alloc (Nat.le_refl _) _).alloc (by simp) _).alloc (by simp;omega) _;go_enter Tryz.func70,Tryz.ntmps70
 go_upto_region 2 with (first | refine qaz (p:=n1nupa) rfl rfl ?_ | refine al_pk ?_ | (refine bu_pk n1nupa (by kernel_rfl) ?_) | fail)
 change Code.wp _ _ _ Fq120 _;unfold Fq120;simp only[World.size_alloc]
 go_upto_region 46 with fail
 go_wp2_with (first | refine qaj D rfl _ rfl rfl ?_ | (refine qas (q:=(n1nup p)) (old:=Pk.zero) A rfl rfl ?_;intro w9 B9 b9) | fail)
 exact qam rfl rfl B9 rfl ⟨rfl,hb.trans (b9.mono (by omega))⟩
def n1wnna:Pk:=(Pk.mk 1 false 0 false 0 ByteArray.empty ⟨none,0,0⟩ ByteArray.empty 0 false 0 false ByteArray.empty ⟨none,0,0⟩ 0 false false ByteArray.empty false ⟨none,0,0⟩ 0 false ⟨none,0,0⟩ ⟨none,0,0⟩ ⟨none,0,0⟩)
def n1wnn (p:Pk):Pk:=(Pk.mk 1 false 0 false 0 ByteArray.empty ⟨none,0,0⟩ p.cli p.lev p.cln p.kee true p.wt p.wb p.wq p.wr false ByteArray.empty false ⟨none,0,0⟩ 0 false ⟨none,0,0⟩ ⟨none,0,0⟩ ⟨none,0,0⟩)
theorem snam_1wnn (p:Pk) (w:World) (ht:p.ty=1) (h1:p.hw=true) (h2:p.hu=false):Calls Tryz.prog 70 #[.agg p.cells] w fun e w'=>e=.returned (.agg (n1wnn p).cells)∧Below w.heap.size w w':=by
 have a0:=p.c0;have a7:=p.c7;have a8:=p.c8;have a9:=p.c9;have a10:=p.c10;have a11:=p.c11;have a12:=p.c12;have a13:=p.c13;have a14:=p.c14;have a15:=p.c15;have a16:=p.c16;rw[ht] at a0;rw[h1] at a11;rw[h2] at a16;have s8:=Pk.set8;have z8:=Pk.c8;have s7:=Pk.set7;have z7:=Pk.c7;have s9:=Pk.set9;have z9:=Pk.c9;have s10:=Pk.set10;have z10:=Pk.c10;have s11:=Pk.set11;have z11:=Pk.c11;have s12:=Pk.set12;have z12:=Pk.c12;have s13:=Pk.set13;have z13:=Pk.c13;have s14:=Pk.set14;have z14:=Pk.c14;have s15:=Pk.set15;have z15:=Pk.c15;have ne0:w.heap.size≠w.heap.size+1+1:=by omega
 have ne1:w.heap.size+1≠w.heap.size+1+1:=by omega
 generalize p.cells=cs at *;have A:Blk (((w.alloc (.cells cs 28)).alloc (.cells Pk.zero.cells 28)).alloc (.cells (n1wnn p).cells 28)) (w.heap.size+1) Pk.zero:=qby _ _ _ _;have D:Blk (((w.alloc (.cells cs 28)).alloc (.cells Pk.zero.cells 28)).alloc (.cells (n1wnn p).cells 28)) (w.heap.size+1+1) (n1wnn p):=qbz _ _ _ _;have hb:Below w.heap.size w (((w.alloc (.cells cs 28)).alloc (.cells Pk.zero.cells 28)).alloc (.cells (n1wnn p).cells 28)):=(((Below.refl _ _).alloc (Nat.le_refl _) _).alloc (by simp) _).alloc (by simp;omega) _;go_enter Tryz.func70,Tryz.ntmps70
 go_upto_region 2 with (first | refine qaz (p:=n1wnna) rfl rfl ?_ | refine al_pk ?_ | (refine bu_pk n1wnna (by kernel_rfl) ?_) | fail)
 change Code.wp _ _ _ Fq120 _;unfold Fq120;simp only[World.size_alloc]
 go_upto_region 46 with fail
 go_wp2_with (first | refine qaj D rfl _ rfl rfl ?_ | (refine qas (q:=(n1wnn p)) (old:=Pk.zero) A rfl rfl ?_;intro w9 B9 b9) | fail)
 exact qam rfl rfl B9 rfl ⟨rfl,hb.trans (b9.mono (by omega))⟩
def n1wuna:Pk:=(Pk.mk 1 false 0 false 0 ByteArray.empty ⟨none,0,0⟩ ByteArray.empty 0 false 0 false ByteArray.empty ⟨none,0,0⟩ 0 false false ByteArray.empty false ⟨none,0,0⟩ 0 false ⟨none,0,0⟩ ⟨none,0,0⟩ ⟨none,0,0⟩)
def n1wun (p:Pk):Pk:=(Pk.mk 1 false 0 false 0 ByteArray.empty ⟨none,0,0⟩ p.cli p.lev p.cln p.kee true p.wt p.wb p.wq p.wr true p.us false ⟨none,0,0⟩ 0 false ⟨none,0,0⟩ ⟨none,0,0⟩ ⟨none,0,0⟩)
theorem snam_1wun (p:Pk) (w:World) (ht:p.ty=1) (h1:p.hw=true) (h2:p.hu=true) (h3:p.hp=false):Calls Tryz.prog 70 #[.agg p.cells] w fun e w'=>e=.returned (.agg (n1wun p).cells)∧Below w.heap.size w w':=by
 have a0:=p.c0;have a7:=p.c7;have a8:=p.c8;have a9:=p.c9;have a10:=p.c10;have a11:=p.c11;have a12:=p.c12;have a13:=p.c13;have a14:=p.c14;have a15:=p.c15;have a16:=p.c16;have a17:=p.c17;have a18:=p.c18;rw[ht] at a0;rw[h1] at a11;rw[h2] at a16;rw[h3] at a18;have s8:=Pk.set8;have z8:=Pk.c8;have s7:=Pk.set7;have z7:=Pk.c7;have s9:=Pk.set9;have z9:=Pk.c9;have s10:=Pk.set10;have z10:=Pk.c10;have s11:=Pk.set11;have z11:=Pk.c11;have s12:=Pk.set12;have z12:=Pk.c12;have s13:=Pk.set13;have z13:=Pk.c13;have s14:=Pk.set14;have z14:=Pk.c14;have s15:=Pk.set15;have z15:=Pk.c15;have s16:=Pk.set16;have z16:=Pk.c16;have s17:=Pk.set17;have z17:=Pk.c17;have ne0:w.heap.size≠w.heap.size+1+1:=by omega
 have ne1:w.heap.size+1≠w.heap.size+1+1:=by omega
 generalize p.cells=cs at *;have A:Blk (((w.alloc (.cells cs 28)).alloc (.cells Pk.zero.cells 28)).alloc (.cells (n1wun p).cells 28)) (w.heap.size+1) Pk.zero:=qby _ _ _ _;have D:Blk (((w.alloc (.cells cs 28)).alloc (.cells Pk.zero.cells 28)).alloc (.cells (n1wun p).cells 28)) (w.heap.size+1+1) (n1wun p):=qbz _ _ _ _;have hb:Below w.heap.size w (((w.alloc (.cells cs 28)).alloc (.cells Pk.zero.cells 28)).alloc (.cells (n1wun p).cells 28)):=(((Below.refl _ _).alloc (Nat.le_refl _) _).alloc (by simp) _).alloc (by simp;omega) _;go_enter Tryz.func70,Tryz.ntmps70
 go_upto_region 2 with (first | refine qaz (p:=n1wuna) rfl rfl ?_ | refine al_pk ?_ | (refine bu_pk n1wuna (by kernel_rfl) ?_) | fail)
 change Code.wp _ _ _ Fq120 _;unfold Fq120;simp only[World.size_alloc]
 go_upto_region 46 with fail
 go_wp2_with (first | refine qaj D rfl _ rfl rfl ?_ | (refine qas (q:=(n1wun p)) (old:=Pk.zero) A rfl rfl ?_;intro w9 B9 b9) | fail)
 exact qam rfl rfl B9 rfl ⟨rfl,hb.trans (b9.mono (by omega))⟩
def n1wupa:Pk:=(Pk.mk 1 false 0 false 0 ByteArray.empty ⟨none,0,0⟩ ByteArray.empty 0 false 0 false ByteArray.empty ⟨none,0,0⟩ 0 false false ByteArray.empty false ⟨none,0,0⟩ 0 false ⟨none,0,0⟩ ⟨none,0,0⟩ ⟨none,0,0⟩)
def n1wup (p:Pk):Pk:=(Pk.mk 1 false 0 false 0 ByteArray.empty ⟨none,0,0⟩ p.cli p.lev p.cln p.kee true p.wt p.wb p.wq p.wr true p.us true p.pa 0 false ⟨none,0,0⟩ ⟨none,0,0⟩ ⟨none,0,0⟩)
theorem snam_1wup (p:Pk) (w:World) (ht:p.ty=1) (h1:p.hw=true) (h2:p.hu=true) (h3:p.hp=true):Calls Tryz.prog 70 #[.agg p.cells] w fun e w'=>e=.returned (.agg (n1wup p).cells)∧Below w.heap.size w w':=by
 have a0:=p.c0;have a7:=p.c7;have a8:=p.c8;have a9:=p.c9;have a10:=p.c10;have a11:=p.c11;have a12:=p.c12;have a13:=p.c13;have a14:=p.c14;have a15:=p.c15;have a16:=p.c16;have a17:=p.c17;have a18:=p.c18;have a19:=p.c19;rw[ht] at a0;rw[h1] at a11;rw[h2] at a16;rw[h3] at a18;have s8:=Pk.set8;have z8:=Pk.c8;have s7:=Pk.set7;have z7:=Pk.c7;have s9:=Pk.set9;have z9:=Pk.c9;have s10:=Pk.set10;have z10:=Pk.c10;have s11:=Pk.set11;have z11:=Pk.c11;have s12:=Pk.set12;have z12:=Pk.c12;have s13:=Pk.set13;have z13:=Pk.c13;have s14:=Pk.set14;have z14:=Pk.c14;have s15:=Pk.set15;have z15:=Pk.c15;have s16:=Pk.set16;have z16:=Pk.c16;have s17:=Pk.set17;have z17:=Pk.c17;have s18:=Pk.set18;have z18:=Pk.c18;have s19:=Pk.set19;have z19:=Pk.c19;have ne0:w.heap.size≠w.heap.size+1+1:=by omega
 have ne1:w.heap.size+1≠w.heap.size+1+1:=by omega
 generalize p.cells=cs at *;have A:Blk (((w.alloc (.cells cs 28)).alloc (.cells Pk.zero.cells 28)).alloc (.cells (n1wup p).cells 28)) (w.heap.size+1) Pk.zero:=qby _ _ _ _;have D:Blk (((w.alloc (.cells cs 28)).alloc (.cells Pk.zero.cells 28)).alloc (.cells (n1wup p).cells 28)) (w.heap.size+1+1) (n1wup p):=qbz _ _ _ _;have hb:Below w.heap.size w (((w.alloc (.cells cs 28)).alloc (.cells Pk.zero.cells 28)).alloc (.cells (n1wup p).cells 28)):=(((Below.refl _ _).alloc (Nat.le_refl _) _).alloc (by simp) _).alloc (by simp;omega) _;go_enter Tryz.func70,Tryz.ntmps70
 go_upto_region 2 with (first | refine qaz (p:=n1wupa) rfl rfl ?_ | refine al_pk ?_ | (refine bu_pk n1wupa (by kernel_rfl) ?_) | fail)
 change Code.wp _ _ _ Fq120 _;unfold Fq120;simp only[World.size_alloc]
 go_upto_region 46 with fail
 go_wp2_with (first | refine qaj D rfl _ rfl rfl ?_ | (refine qas (q:=(n1wup p)) (old:=Pk.zero) A rfl rfl ?_;intro w9 B9 b9) | fail)
 exact qam rfl rfl B9 rfl ⟨rfl,hb.trans (b9.mono (by omega))⟩
def n2na:Pk:=(Pk.mk 2 false 0 false 0 ByteArray.empty ⟨none,0,0⟩ ByteArray.empty 0 false 0 false ByteArray.empty ⟨none,0,0⟩ 0 false false ByteArray.empty false ⟨none,0,0⟩ 0 false ⟨none,0,0⟩ ⟨none,0,0⟩ ⟨none,0,0⟩)
def n2n (p:Pk):Pk:=(Pk.mk 2 false 0 false 0 ByteArray.empty ⟨none,0,0⟩ ByteArray.empty 0 false 0 false ByteArray.empty ⟨none,0,0⟩ 0 false false ByteArray.empty false ⟨none,0,0⟩ p.cod false ⟨none,0,0⟩ ⟨none,0,0⟩ ⟨none,0,0⟩)
theorem snam_2n (p:Pk) (w:World) (ht:p.ty=2) (h1:p.pre=false):Calls Tryz.prog 70 #[.agg p.cells] w fun e w'=>e=.returned (.agg (n2n p).cells)∧Below w.heap.size w w':=by
 have a0:=p.c0;have a20:=p.c20;have a21:=p.c21;rw[ht] at a0;rw[h1] at a21;have s20:=Pk.set20;have z20:=Pk.c20;have s21:=Pk.set21;have z21:=Pk.c21;have ne0:w.heap.size≠w.heap.size+1+1:=by omega
 have ne1:w.heap.size+1≠w.heap.size+1+1:=by omega
 generalize p.cells=cs at *;have A:Blk (((w.alloc (.cells cs 28)).alloc (.cells Pk.zero.cells 28)).alloc (.cells (n2n p).cells 28)) (w.heap.size+1) Pk.zero:=qby _ _ _ _;have D:Blk (((w.alloc (.cells cs 28)).alloc (.cells Pk.zero.cells 28)).alloc (.cells (n2n p).cells 28)) (w.heap.size+1+1) (n2n p):=qbz _ _ _ _;have hb:Below w.heap.size w (((w.alloc (.cells cs 28)).alloc (.cells Pk.zero.cells 28)).alloc (.cells (n2n p).cells 28)):=(((Below.refl _ _).alloc (Nat.le_refl _) _).alloc (by simp) _).alloc (by simp;omega) _;go_enter Tryz.func70,Tryz.ntmps70
 go_upto_region 2 with (first | refine qaz (p:=n2na) rfl rfl ?_ | refine al_pk ?_ | (refine bu_pk n2na (by kernel_rfl) ?_) | fail)
 change Code.wp _ _ _ Fq120 _;unfold Fq120;simp only[World.size_alloc]
 go_upto_region 46 with fail
 go_wp2_with (first | refine qaj D rfl _ rfl rfl ?_ | (refine qas (q:=(n2n p)) (old:=Pk.zero) A rfl rfl ?_;intro w9 B9 b9) | fail)
 exact qam rfl rfl B9 rfl ⟨rfl,hb.trans (b9.mono (by omega))⟩
def n2pa:Pk:=(Pk.mk 2 false 0 false 0 ByteArray.empty ⟨none,0,0⟩ ByteArray.empty 0 false 0 false ByteArray.empty ⟨none,0,0⟩ 0 false false ByteArray.empty false ⟨none,0,0⟩ 0 false ⟨none,0,0⟩ ⟨none,0,0⟩ ⟨none,0,0⟩)
def n2p (p:Pk):Pk:=(Pk.mk 2 false 0 false 0 ByteArray.empty ⟨none,0,0⟩ ByteArray.empty 0 false 0 false ByteArray.empty ⟨none,0,0⟩ 0 false false ByteArray.empty false ⟨none,0,0⟩ p.cod (p.cod==0) ⟨none,0,0⟩ ⟨none,0,0⟩ ⟨none,0,0⟩)
theorem snam_2p (p:Pk) (w:World) (ht:p.ty=2) (h1:p.pre=true):Calls Tryz.prog 70 #[.agg p.cells] w fun e w'=>e=.returned (.agg (n2p p).cells)∧Below w.heap.size w w':=by
 have a0:=p.c0;have a20:=p.c20;have a21:=p.c21;rw[ht] at a0;rw[h1] at a21;have s20:=Pk.set20;have z20:=Pk.c20;have s21:=Pk.set21;have z21:=Pk.c21;have ne0:w.heap.size≠w.heap.size+1+1:=by omega
 have ne1:w.heap.size+1≠w.heap.size+1+1:=by omega
 generalize p.cells=cs at *;have A:Blk (((w.alloc (.cells cs 28)).alloc (.cells Pk.zero.cells 28)).alloc (.cells (n2p p).cells 28)) (w.heap.size+1) Pk.zero:=qby _ _ _ _;have D:Blk (((w.alloc (.cells cs 28)).alloc (.cells Pk.zero.cells 28)).alloc (.cells (n2p p).cells 28)) (w.heap.size+1+1) (n2p p):=qbz _ _ _ _;have hb:Below w.heap.size w (((w.alloc (.cells cs 28)).alloc (.cells Pk.zero.cells 28)).alloc (.cells (n2p p).cells 28)):=(((Below.refl _ _).alloc (Nat.le_refl _) _).alloc (by simp) _).alloc (by simp;omega) _;go_enter Tryz.func70,Tryz.ntmps70
 go_upto_region 2 with (first | refine qaz (p:=n2pa) rfl rfl ?_ | refine al_pk ?_ | (refine bu_pk n2pa (by kernel_rfl) ?_) | fail)
 change Code.wp _ _ _ Fq120 _;unfold Fq120;simp only[World.size_alloc]
 go_upto_region 46 with fail
 go_wp2_with (first | refine qaj D rfl _ rfl rfl ?_ | (refine qas (q:=(n2p p)) (old:=Pk.zero) A rfl rfl ?_;intro w9 B9 b9) | fail)
 exact qam rfl rfl B9 rfl ⟨rfl,hb.trans (b9.mono (by omega))⟩
def n3na:Pk:=(Pk.mk 3 false 0 false 0 ByteArray.empty ⟨none,0,0⟩ ByteArray.empty 0 false 0 false ByteArray.empty ⟨none,0,0⟩ 0 false false ByteArray.empty false ⟨none,0,0⟩ 0 false ⟨none,0,0⟩ ⟨none,0,0⟩ ⟨none,0,0⟩)
def n3n (p:Pk):Pk:=(Pk.mk 3 false p.qos p.ret 0 p.top p.bod ByteArray.empty 0 false 0 false ByteArray.empty ⟨none,0,0⟩ 0 false false ByteArray.empty false ⟨none,0,0⟩ 0 false ⟨none,0,0⟩ ⟨none,0,0⟩ ⟨none,0,0⟩)
theorem snam_3n (p:Pk) (w:World) (ht:p.ty=3) (hq:¬0<p.qos):Calls Tryz.prog 70 #[.agg p.cells] w fun e w'=>e=.returned (.agg (n3n p).cells)∧Below w.heap.size w w':=by
 have a0:=p.c0;have a2:=p.c2;have a3:=p.c3;have a5:=p.c5;have a6:=p.c6;rw[ht] at a0;have s2:=Pk.set2;have z2:=Pk.c2;have s3:=Pk.set3;have z3:=Pk.c3;have s5:=Pk.set5;have z5:=Pk.c5;have s6:=Pk.set6;have z6:=Pk.c6;have ne0:w.heap.size≠w.heap.size+1+1:=by omega
 have ne1:w.heap.size+1≠w.heap.size+1+1:=by omega
 generalize p.cells=cs at *;have A:Blk (((w.alloc (.cells cs 28)).alloc (.cells Pk.zero.cells 28)).alloc (.cells (n3n p).cells 28)) (w.heap.size+1) Pk.zero:=qby _ _ _ _;have D:Blk (((w.alloc (.cells cs 28)).alloc (.cells Pk.zero.cells 28)).alloc (.cells (n3n p).cells 28)) (w.heap.size+1+1) (n3n p):=qbz _ _ _ _;have hb:Below w.heap.size w (((w.alloc (.cells cs 28)).alloc (.cells Pk.zero.cells 28)).alloc (.cells (n3n p).cells 28)):=(((Below.refl _ _).alloc (Nat.le_refl _) _).alloc (by simp) _).alloc (by simp;omega) _;go_enter Tryz.func70,Tryz.ntmps70
 go_upto_region 2 with (first | refine qaz (p:=n3na) rfl rfl ?_ | refine al_pk ?_ | (refine bu_pk n3na (by kernel_rfl) ?_) | fail)
 change Code.wp _ _ _ Fq120 _;unfold Fq120;simp only[World.size_alloc]
 go_upto_region 46 with fail
 go_wp2_with (first | refine qaj D rfl _ rfl rfl ?_ | (refine qas (q:=(n3n p)) (old:=Pk.zero) A rfl rfl ?_;intro w9 B9 b9) | fail)
 exact qam rfl rfl B9 rfl ⟨rfl,hb.trans (b9.mono (by omega))⟩
def n3qa:Pk:=(Pk.mk 3 false 0 false 0 ByteArray.empty ⟨none,0,0⟩ ByteArray.empty 0 false 0 false ByteArray.empty ⟨none,0,0⟩ 0 false false ByteArray.empty false ⟨none,0,0⟩ 0 false ⟨none,0,0⟩ ⟨none,0,0⟩ ⟨none,0,0⟩)
def n3q (p:Pk):Pk:=(Pk.mk 3 p.dup p.qos p.ret p.id p.top p.bod ByteArray.empty 0 false 0 false ByteArray.empty ⟨none,0,0⟩ 0 false false ByteArray.empty false ⟨none,0,0⟩ 0 false ⟨none,0,0⟩ ⟨none,0,0⟩ ⟨none,0,0⟩)
theorem snam_3q (p:Pk) (w:World) (ht:p.ty=3) (hq:0<p.qos):Calls Tryz.prog 70 #[.agg p.cells] w fun e w'=>e=.returned (.agg (n3q p).cells)∧Below w.heap.size w w':=by
 have a0:=p.c0;have a1:=p.c1;have a2:=p.c2;have a3:=p.c3;have a4:=p.c4;have a5:=p.c5;have a6:=p.c6;rw[ht] at a0;have s2:=Pk.set2;have z2:=Pk.c2;have s3:=Pk.set3;have z3:=Pk.c3;have s5:=Pk.set5;have z5:=Pk.c5;have s6:=Pk.set6;have z6:=Pk.c6;have s1:=Pk.set1;have z1:=Pk.c1;have s4:=Pk.set4;have z4:=Pk.c4;have ne0:w.heap.size≠w.heap.size+1+1:=by omega
 have ne1:w.heap.size+1≠w.heap.size+1+1:=by omega
 generalize p.cells=cs at *;have A:Blk (((w.alloc (.cells cs 28)).alloc (.cells Pk.zero.cells 28)).alloc (.cells (n3q p).cells 28)) (w.heap.size+1) Pk.zero:=qby _ _ _ _;have D:Blk (((w.alloc (.cells cs 28)).alloc (.cells Pk.zero.cells 28)).alloc (.cells (n3q p).cells 28)) (w.heap.size+1+1) (n3q p):=qbz _ _ _ _;have hb:Below w.heap.size w (((w.alloc (.cells cs 28)).alloc (.cells Pk.zero.cells 28)).alloc (.cells (n3q p).cells 28)):=(((Below.refl _ _).alloc (Nat.le_refl _) _).alloc (by simp) _).alloc (by simp;omega) _;go_enter Tryz.func70,Tryz.ntmps70
 go_upto_region 2 with (first | refine qaz (p:=n3qa) rfl rfl ?_ | refine al_pk ?_ | (refine bu_pk n3qa (by kernel_rfl) ?_) | fail)
 change Code.wp _ _ _ Fq120 _;unfold Fq120;simp only[World.size_alloc]
 go_upto_region 46 with fail
 go_wp2_with (first | refine qaj D rfl _ rfl rfl ?_ | (refine qas (q:=(n3q p)) (old:=Pk.zero) A rfl rfl ?_;intro w9 B9 b9) | fail)
 exact qam rfl rfl B9 rfl ⟨rfl,hb.trans (b9.mono (by omega))⟩
def n4a:Pk:=(Pk.mk 4 false 0 false 0 ByteArray.empty ⟨none,0,0⟩ ByteArray.empty 0 false 0 false ByteArray.empty ⟨none,0,0⟩ 0 false false ByteArray.empty false ⟨none,0,0⟩ 0 false ⟨none,0,0⟩ ⟨none,0,0⟩ ⟨none,0,0⟩)
def n4 (p:Pk):Pk:=(Pk.mk 4 false 0 false p.id ByteArray.empty ⟨none,0,0⟩ ByteArray.empty 0 false 0 false ByteArray.empty ⟨none,0,0⟩ 0 false false ByteArray.empty false ⟨none,0,0⟩ 0 false ⟨none,0,0⟩ ⟨none,0,0⟩ ⟨none,0,0⟩)
theorem snam_4 (p:Pk) (w:World) (ht:p.ty=4):Calls Tryz.prog 70 #[.agg p.cells] w fun e w'=>e=.returned (.agg (n4 p).cells)∧Below w.heap.size w w':=by
 have a0:=p.c0;have a4:=p.c4;rw[ht] at a0;have s4:=Pk.set4;have z4:=Pk.c4;have ne0:w.heap.size≠w.heap.size+1+1:=by omega
 have ne1:w.heap.size+1≠w.heap.size+1+1:=by omega
 generalize p.cells=cs at *;have A:Blk (((w.alloc (.cells cs 28)).alloc (.cells Pk.zero.cells 28)).alloc (.cells (n4 p).cells 28)) (w.heap.size+1) Pk.zero:=qby _ _ _ _;have D:Blk (((w.alloc (.cells cs 28)).alloc (.cells Pk.zero.cells 28)).alloc (.cells (n4 p).cells 28)) (w.heap.size+1+1) (n4 p):=qbz _ _ _ _;have hb:Below w.heap.size w (((w.alloc (.cells cs 28)).alloc (.cells Pk.zero.cells 28)).alloc (.cells (n4 p).cells 28)):=(((Below.refl _ _).alloc (Nat.le_refl _) _).alloc (by simp) _).alloc (by simp;omega) _;go_enter Tryz.func70,Tryz.ntmps70
 go_upto_region 2 with (first | refine qaz (p:=n4a) rfl rfl ?_ | refine al_pk ?_ | (refine bu_pk n4a (by kernel_rfl) ?_) | fail)
 change Code.wp _ _ _ Fq120 _;unfold Fq120;simp only[World.size_alloc]
 go_upto_region 46 with fail
 go_wp2_with (first | refine qaj D rfl _ rfl rfl ?_ | (refine qas (q:=(n4 p)) (old:=Pk.zero) A rfl rfl ?_;intro w9 B9 b9) | fail)
 exact qam rfl rfl B9 rfl ⟨rfl,hb.trans (b9.mono (by omega))⟩
def n5a:Pk:=(Pk.mk 5 false 0 false 0 ByteArray.empty ⟨none,0,0⟩ ByteArray.empty 0 false 0 false ByteArray.empty ⟨none,0,0⟩ 0 false false ByteArray.empty false ⟨none,0,0⟩ 0 false ⟨none,0,0⟩ ⟨none,0,0⟩ ⟨none,0,0⟩)
def n5 (p:Pk):Pk:=(Pk.mk 5 false 0 false p.id ByteArray.empty ⟨none,0,0⟩ ByteArray.empty 0 false 0 false ByteArray.empty ⟨none,0,0⟩ 0 false false ByteArray.empty false ⟨none,0,0⟩ 0 false ⟨none,0,0⟩ ⟨none,0,0⟩ ⟨none,0,0⟩)
theorem snam_5 (p:Pk) (w:World) (ht:p.ty=5):Calls Tryz.prog 70 #[.agg p.cells] w fun e w'=>e=.returned (.agg (n5 p).cells)∧Below w.heap.size w w':=by
 have a0:=p.c0;have a4:=p.c4;rw[ht] at a0;have s4:=Pk.set4;have z4:=Pk.c4;have ne0:w.heap.size≠w.heap.size+1+1:=by omega
 have ne1:w.heap.size+1≠w.heap.size+1+1:=by omega
 generalize p.cells=cs at *;have A:Blk (((w.alloc (.cells cs 28)).alloc (.cells Pk.zero.cells 28)).alloc (.cells (n5 p).cells 28)) (w.heap.size+1) Pk.zero:=qby _ _ _ _;have D:Blk (((w.alloc (.cells cs 28)).alloc (.cells Pk.zero.cells 28)).alloc (.cells (n5 p).cells 28)) (w.heap.size+1+1) (n5 p):=qbz _ _ _ _;have hb:Below w.heap.size w (((w.alloc (.cells cs 28)).alloc (.cells Pk.zero.cells 28)).alloc (.cells (n5 p).cells 28)):=(((Below.refl _ _).alloc (Nat.le_refl _) _).alloc (by simp) _).alloc (by simp;omega) _;go_enter Tryz.func70,Tryz.ntmps70
 go_upto_region 2 with (first | refine qaz (p:=n5a) rfl rfl ?_ | refine al_pk ?_ | (refine bu_pk n5a (by kernel_rfl) ?_) | fail)
 change Code.wp _ _ _ Fq120 _;unfold Fq120;simp only[World.size_alloc]
 go_upto_region 46 with fail
 go_wp2_with (first | refine qaj D rfl _ rfl rfl ?_ | (refine qas (q:=(n5 p)) (old:=Pk.zero) A rfl rfl ?_;intro w9 B9 b9) | fail)
 exact qam rfl rfl B9 rfl ⟨rfl,hb.trans (b9.mono (by omega))⟩
def n6a:Pk:=(Pk.mk 6 false 0 false 0 ByteArray.empty ⟨none,0,0⟩ ByteArray.empty 0 false 0 false ByteArray.empty ⟨none,0,0⟩ 0 false false ByteArray.empty false ⟨none,0,0⟩ 0 false ⟨none,0,0⟩ ⟨none,0,0⟩ ⟨none,0,0⟩)
def n6 (p:Pk):Pk:=(Pk.mk 6 false 0 false p.id ByteArray.empty ⟨none,0,0⟩ ByteArray.empty 0 false 0 false ByteArray.empty ⟨none,0,0⟩ 0 false false ByteArray.empty false ⟨none,0,0⟩ 0 false ⟨none,0,0⟩ ⟨none,0,0⟩ ⟨none,0,0⟩)
theorem snam_6 (p:Pk) (w:World) (ht:p.ty=6):Calls Tryz.prog 70 #[.agg p.cells] w fun e w'=>e=.returned (.agg (n6 p).cells)∧Below w.heap.size w w':=by
 have a0:=p.c0;have a4:=p.c4;rw[ht] at a0;have s4:=Pk.set4;have z4:=Pk.c4;have ne0:w.heap.size≠w.heap.size+1+1:=by omega
 have ne1:w.heap.size+1≠w.heap.size+1+1:=by omega
 generalize p.cells=cs at *;have A:Blk (((w.alloc (.cells cs 28)).alloc (.cells Pk.zero.cells 28)).alloc (.cells (n6 p).cells 28)) (w.heap.size+1) Pk.zero:=qby _ _ _ _;have D:Blk (((w.alloc (.cells cs 28)).alloc (.cells Pk.zero.cells 28)).alloc (.cells (n6 p).cells 28)) (w.heap.size+1+1) (n6 p):=qbz _ _ _ _;have hb:Below w.heap.size w (((w.alloc (.cells cs 28)).alloc (.cells Pk.zero.cells 28)).alloc (.cells (n6 p).cells 28)):=(((Below.refl _ _).alloc (Nat.le_refl _) _).alloc (by simp) _).alloc (by simp;omega) _;go_enter Tryz.func70,Tryz.ntmps70
 go_upto_region 2 with (first | refine qaz (p:=n6a) rfl rfl ?_ | refine al_pk ?_ | (refine bu_pk n6a (by kernel_rfl) ?_) | fail)
 change Code.wp _ _ _ Fq120 _;unfold Fq120;simp only[World.size_alloc]
 go_upto_region 46 with fail
 go_wp2_with (first | refine qaj D rfl _ rfl rfl ?_ | (refine qas (q:=(n6 p)) (old:=Pk.zero) A rfl rfl ?_;intro w9 B9 b9) | fail)
 exact qam rfl rfl B9 rfl ⟨rfl,hb.trans (b9.mono (by omega))⟩
def n7a:Pk:=(Pk.mk 7 false 0 false 0 ByteArray.empty ⟨none,0,0⟩ ByteArray.empty 0 false 0 false ByteArray.empty ⟨none,0,0⟩ 0 false false ByteArray.empty false ⟨none,0,0⟩ 0 false ⟨none,0,0⟩ ⟨none,0,0⟩ ⟨none,0,0⟩)
def n7 (p:Pk):Pk:=(Pk.mk 7 false 0 false p.id ByteArray.empty ⟨none,0,0⟩ ByteArray.empty 0 false 0 false ByteArray.empty ⟨none,0,0⟩ 0 false false ByteArray.empty false ⟨none,0,0⟩ 0 false ⟨none,0,0⟩ ⟨none,0,0⟩ ⟨none,0,0⟩)
theorem snam_7 (p:Pk) (w:World) (ht:p.ty=7):Calls Tryz.prog 70 #[.agg p.cells] w fun e w'=>e=.returned (.agg (n7 p).cells)∧Below w.heap.size w w':=by
 have a0:=p.c0;have a4:=p.c4;rw[ht] at a0;have s4:=Pk.set4;have z4:=Pk.c4;have ne0:w.heap.size≠w.heap.size+1+1:=by omega
 have ne1:w.heap.size+1≠w.heap.size+1+1:=by omega
 generalize p.cells=cs at *;have A:Blk (((w.alloc (.cells cs 28)).alloc (.cells Pk.zero.cells 28)).alloc (.cells (n7 p).cells 28)) (w.heap.size+1) Pk.zero:=qby _ _ _ _;have D:Blk (((w.alloc (.cells cs 28)).alloc (.cells Pk.zero.cells 28)).alloc (.cells (n7 p).cells 28)) (w.heap.size+1+1) (n7 p):=qbz _ _ _ _;have hb:Below w.heap.size w (((w.alloc (.cells cs 28)).alloc (.cells Pk.zero.cells 28)).alloc (.cells (n7 p).cells 28)):=(((Below.refl _ _).alloc (Nat.le_refl _) _).alloc (by simp) _).alloc (by simp;omega) _;go_enter Tryz.func70,Tryz.ntmps70
 go_upto_region 2 with (first | refine qaz (p:=n7a) rfl rfl ?_ | refine al_pk ?_ | (refine bu_pk n7a (by kernel_rfl) ?_) | fail)
 change Code.wp _ _ _ Fq120 _;unfold Fq120;simp only[World.size_alloc]
 go_upto_region 46 with fail
 go_wp2_with (first | refine qaj D rfl _ rfl rfl ?_ | (refine qas (q:=(n7 p)) (old:=Pk.zero) A rfl rfl ?_;intro w9 B9 b9) | fail)
 exact qam rfl rfl B9 rfl ⟨rfl,hb.trans (b9.mono (by omega))⟩
def n11a:Pk:=(Pk.mk 11 false 0 false 0 ByteArray.empty ⟨none,0,0⟩ ByteArray.empty 0 false 0 false ByteArray.empty ⟨none,0,0⟩ 0 false false ByteArray.empty false ⟨none,0,0⟩ 0 false ⟨none,0,0⟩ ⟨none,0,0⟩ ⟨none,0,0⟩)
def n11 (p:Pk):Pk:=(Pk.mk 11 false 0 false p.id ByteArray.empty ⟨none,0,0⟩ ByteArray.empty 0 false 0 false ByteArray.empty ⟨none,0,0⟩ 0 false false ByteArray.empty false ⟨none,0,0⟩ 0 false ⟨none,0,0⟩ ⟨none,0,0⟩ ⟨none,0,0⟩)
theorem snam_11 (p:Pk) (w:World) (ht:p.ty=11):Calls Tryz.prog 70 #[.agg p.cells] w fun e w'=>e=.returned (.agg (n11 p).cells)∧Below w.heap.size w w':=by
 have a0:=p.c0;have a4:=p.c4;rw[ht] at a0;have s4:=Pk.set4;have z4:=Pk.c4;have ne0:w.heap.size≠w.heap.size+1+1:=by omega
 have ne1:w.heap.size+1≠w.heap.size+1+1:=by omega
 generalize p.cells=cs at *;have A:Blk (((w.alloc (.cells cs 28)).alloc (.cells Pk.zero.cells 28)).alloc (.cells (n11 p).cells 28)) (w.heap.size+1) Pk.zero:=qby _ _ _ _;have D:Blk (((w.alloc (.cells cs 28)).alloc (.cells Pk.zero.cells 28)).alloc (.cells (n11 p).cells 28)) (w.heap.size+1+1) (n11 p):=qbz _ _ _ _;have hb:Below w.heap.size w (((w.alloc (.cells cs 28)).alloc (.cells Pk.zero.cells 28)).alloc (.cells (n11 p).cells 28)):=(((Below.refl _ _).alloc (Nat.le_refl _) _).alloc (by simp) _).alloc (by simp;omega) _;go_enter Tryz.func70,Tryz.ntmps70
 go_upto_region 2 with (first | refine qaz (p:=n11a) rfl rfl ?_ | refine al_pk ?_ | (refine bu_pk n11a (by kernel_rfl) ?_) | fail)
 change Code.wp _ _ _ Fq120 _;unfold Fq120;simp only[World.size_alloc]
 go_upto_region 46 with fail
 go_wp2_with (first | refine qaj D rfl _ rfl rfl ?_ | (refine qas (q:=(n11 p)) (old:=Pk.zero) A rfl rfl ?_;intro w9 B9 b9) | fail)
 exact qam rfl rfl B9 rfl ⟨rfl,hb.trans (b9.mono (by omega))⟩
def n8a:Pk:=(Pk.mk 8 false 0 false 0 ByteArray.empty ⟨none,0,0⟩ ByteArray.empty 0 false 0 false ByteArray.empty ⟨none,0,0⟩ 0 false false ByteArray.empty false ⟨none,0,0⟩ 0 false ⟨none,0,0⟩ ⟨none,0,0⟩ ⟨none,0,0⟩)
def n8 (p:Pk):Pk:=(Pk.mk 8 false 0 false p.id ByteArray.empty ⟨none,0,0⟩ ByteArray.empty 0 false 0 false ByteArray.empty ⟨none,0,0⟩ 0 false false ByteArray.empty false ⟨none,0,0⟩ 0 false p.wan ⟨none,0,0⟩ ⟨none,0,0⟩)
theorem snam_8 (p:Pk) (w:World) (ht:p.ty=8):Calls Tryz.prog 70 #[.agg p.cells] w fun e w'=>e=.returned (.agg (n8 p).cells)∧Below w.heap.size w w':=by
 have a0:=p.c0;have a4:=p.c4;have a22:=p.c22;rw[ht] at a0;have s4:=Pk.set4;have z4:=Pk.c4;have s22:=Pk.set22;have z22:=Pk.c22;have ne0:w.heap.size≠w.heap.size+1+1:=by omega
 have ne1:w.heap.size+1≠w.heap.size+1+1:=by omega
 generalize p.cells=cs at *;have A:Blk (((w.alloc (.cells cs 28)).alloc (.cells Pk.zero.cells 28)).alloc (.cells (n8 p).cells 28)) (w.heap.size+1) Pk.zero:=qby _ _ _ _;have D:Blk (((w.alloc (.cells cs 28)).alloc (.cells Pk.zero.cells 28)).alloc (.cells (n8 p).cells 28)) (w.heap.size+1+1) (n8 p):=qbz _ _ _ _;have hb:Below w.heap.size w (((w.alloc (.cells cs 28)).alloc (.cells Pk.zero.cells 28)).alloc (.cells (n8 p).cells 28)):=(((Below.refl _ _).alloc (Nat.le_refl _) _).alloc (by simp) _).alloc (by simp;omega) _;go_enter Tryz.func70,Tryz.ntmps70
 go_upto_region 2 with (first | refine qaz (p:=n8a) rfl rfl ?_ | refine al_pk ?_ | (refine bu_pk n8a (by kernel_rfl) ?_) | fail)
 change Code.wp _ _ _ Fq120 _;unfold Fq120;simp only[World.size_alloc]
 go_upto_region 46 with fail
 go_wp2_with (first | refine qaj D rfl _ rfl rfl ?_ | (refine qas (q:=(n8 p)) (old:=Pk.zero) A rfl rfl ?_;intro w9 B9 b9) | fail)
 exact qam rfl rfl B9 rfl ⟨rfl,hb.trans (b9.mono (by omega))⟩
def n9a:Pk:=(Pk.mk 9 false 0 false 0 ByteArray.empty ⟨none,0,0⟩ ByteArray.empty 0 false 0 false ByteArray.empty ⟨none,0,0⟩ 0 false false ByteArray.empty false ⟨none,0,0⟩ 0 false ⟨none,0,0⟩ ⟨none,0,0⟩ ⟨none,0,0⟩)
def n9 (p:Pk):Pk:=(Pk.mk 9 false 0 false p.id ByteArray.empty ⟨none,0,0⟩ ByteArray.empty 0 false 0 false ByteArray.empty ⟨none,0,0⟩ 0 false false ByteArray.empty false ⟨none,0,0⟩ 0 false ⟨none,0,0⟩ ⟨none,0,0⟩ p.cds)
theorem snam_9 (p:Pk) (w:World) (ht:p.ty=9):Calls Tryz.prog 70 #[.agg p.cells] w fun e w'=>e=.returned (.agg (n9 p).cells)∧Below w.heap.size w w':=by
 have a0:=p.c0;have a4:=p.c4;have a24:=p.c24;rw[ht] at a0;have s4:=Pk.set4;have z4:=Pk.c4;have s24:=Pk.set24;have z24:=Pk.c24;have ne0:w.heap.size≠w.heap.size+1+1:=by omega
 have ne1:w.heap.size+1≠w.heap.size+1+1:=by omega
 generalize p.cells=cs at *;have A:Blk (((w.alloc (.cells cs 28)).alloc (.cells Pk.zero.cells 28)).alloc (.cells (n9 p).cells 28)) (w.heap.size+1) Pk.zero:=qby _ _ _ _;have D:Blk (((w.alloc (.cells cs 28)).alloc (.cells Pk.zero.cells 28)).alloc (.cells (n9 p).cells 28)) (w.heap.size+1+1) (n9 p):=qbz _ _ _ _;have hb:Below w.heap.size w (((w.alloc (.cells cs 28)).alloc (.cells Pk.zero.cells 28)).alloc (.cells (n9 p).cells 28)):=(((Below.refl _ _).alloc (Nat.le_refl _) _).alloc (by simp) _).alloc (by simp;omega) _;go_enter Tryz.func70,Tryz.ntmps70
 go_upto_region 2 with (first | refine qaz (p:=n9a) rfl rfl ?_ | refine al_pk ?_ | (refine bu_pk n9a (by kernel_rfl) ?_) | fail)
 change Code.wp _ _ _ Fq120 _;unfold Fq120;simp only[World.size_alloc]
 go_upto_region 46 with fail
 go_wp2_with (first | refine qaj D rfl _ rfl rfl ?_ | (refine qas (q:=(n9 p)) (old:=Pk.zero) A rfl rfl ?_;intro w9 B9 b9) | fail)
 exact qam rfl rfl B9 rfl ⟨rfl,hb.trans (b9.mono (by omega))⟩
def n10a:Pk:=(Pk.mk 10 false 0 false 0 ByteArray.empty ⟨none,0,0⟩ ByteArray.empty 0 false 0 false ByteArray.empty ⟨none,0,0⟩ 0 false false ByteArray.empty false ⟨none,0,0⟩ 0 false ⟨none,0,0⟩ ⟨none,0,0⟩ ⟨none,0,0⟩)
def n10 (p:Pk):Pk:=(Pk.mk 10 false 0 false p.id ByteArray.empty ⟨none,0,0⟩ ByteArray.empty 0 false 0 false ByteArray.empty ⟨none,0,0⟩ 0 false false ByteArray.empty false ⟨none,0,0⟩ 0 false ⟨none,0,0⟩ p.nam ⟨none,0,0⟩)
theorem snam_10 (p:Pk) (w:World) (ht:p.ty=10):Calls Tryz.prog 70 #[.agg p.cells] w fun e w'=>e=.returned (.agg (n10 p).cells)∧Below w.heap.size w w':=by
 have a0:=p.c0;have a4:=p.c4;have a23:=p.c23;rw[ht] at a0;have s4:=Pk.set4;have z4:=Pk.c4;have s23:=Pk.set23;have z23:=Pk.c23;have ne0:w.heap.size≠w.heap.size+1+1:=by omega
 have ne1:w.heap.size+1≠w.heap.size+1+1:=by omega
 generalize p.cells=cs at *;have A:Blk (((w.alloc (.cells cs 28)).alloc (.cells Pk.zero.cells 28)).alloc (.cells (n10 p).cells 28)) (w.heap.size+1) Pk.zero:=qby _ _ _ _;have D:Blk (((w.alloc (.cells cs 28)).alloc (.cells Pk.zero.cells 28)).alloc (.cells (n10 p).cells 28)) (w.heap.size+1+1) (n10 p):=qbz _ _ _ _;have hb:Below w.heap.size w (((w.alloc (.cells cs 28)).alloc (.cells Pk.zero.cells 28)).alloc (.cells (n10 p).cells 28)):=(((Below.refl _ _).alloc (Nat.le_refl _) _).alloc (by simp) _).alloc (by simp;omega) _;go_enter Tryz.func70,Tryz.ntmps70
 go_upto_region 2 with (first | refine qaz (p:=n10a) rfl rfl ?_ | refine al_pk ?_ | (refine bu_pk n10a (by kernel_rfl) ?_) | fail)
 change Code.wp _ _ _ Fq120 _;unfold Fq120;simp only[World.size_alloc]
 go_upto_region 46 with fail
 go_wp2_with (first | refine qaj D rfl _ rfl rfl ?_ | (refine qas (q:=(n10 p)) (old:=Pk.zero) A rfl rfl ?_;intro w9 B9 b9) | fail)
 exact qam rfl rfl B9 rfl ⟨rfl,hb.trans (b9.mono (by omega))⟩
def n12a:Pk:=(Pk.mk 12 false 0 false 0 ByteArray.empty ⟨none,0,0⟩ ByteArray.empty 0 false 0 false ByteArray.empty ⟨none,0,0⟩ 0 false false ByteArray.empty false ⟨none,0,0⟩ 0 false ⟨none,0,0⟩ ⟨none,0,0⟩ ⟨none,0,0⟩)
def n12 (p:Pk):Pk:=(Pk.mk 12 false 0 false 0 ByteArray.empty ⟨none,0,0⟩ ByteArray.empty 0 false 0 false ByteArray.empty ⟨none,0,0⟩ 0 false false ByteArray.empty false ⟨none,0,0⟩ 0 false ⟨none,0,0⟩ ⟨none,0,0⟩ ⟨none,0,0⟩)
theorem snam_12 (p:Pk) (w:World) (ht:p.ty=12):Calls Tryz.prog 70 #[.agg p.cells] w fun e w'=>e=.returned (.agg (n12 p).cells)∧Below w.heap.size w w':=by
 have a0:=p.c0;rw[ht] at a0;have ne0:w.heap.size≠w.heap.size+1+1:=by omega
 have ne1:w.heap.size+1≠w.heap.size+1+1:=by omega
 generalize p.cells=cs at *;have A:Blk (((w.alloc (.cells cs 28)).alloc (.cells Pk.zero.cells 28)).alloc (.cells (n12 p).cells 28)) (w.heap.size+1) Pk.zero:=qby _ _ _ _;have D:Blk (((w.alloc (.cells cs 28)).alloc (.cells Pk.zero.cells 28)).alloc (.cells (n12 p).cells 28)) (w.heap.size+1+1) (n12 p):=qbz _ _ _ _;have hb:Below w.heap.size w (((w.alloc (.cells cs 28)).alloc (.cells Pk.zero.cells 28)).alloc (.cells (n12 p).cells 28)):=(((Below.refl _ _).alloc (Nat.le_refl _) _).alloc (by simp) _).alloc (by simp;omega) _;go_enter Tryz.func70,Tryz.ntmps70
 go_upto_region 2 with (first | refine qaz (p:=n12a) rfl rfl ?_ | refine al_pk ?_ | (refine bu_pk n12a (by kernel_rfl) ?_) | fail)
 change Code.wp _ _ _ Fq120 _;unfold Fq120;simp only[World.size_alloc]
 go_upto_region 46 with fail
 go_wp2_with (first | refine qaj D rfl _ rfl rfl ?_ | (refine qas (q:=(n12 p)) (old:=Pk.zero) A rfl rfl ?_;intro w9 B9 b9) | fail)
 exact qam rfl rfl B9 rfl ⟨rfl,hb.trans (b9.mono (by omega))⟩
def n13a:Pk:=(Pk.mk 13 false 0 false 0 ByteArray.empty ⟨none,0,0⟩ ByteArray.empty 0 false 0 false ByteArray.empty ⟨none,0,0⟩ 0 false false ByteArray.empty false ⟨none,0,0⟩ 0 false ⟨none,0,0⟩ ⟨none,0,0⟩ ⟨none,0,0⟩)
def n13 (p:Pk):Pk:=(Pk.mk 13 false 0 false 0 ByteArray.empty ⟨none,0,0⟩ ByteArray.empty 0 false 0 false ByteArray.empty ⟨none,0,0⟩ 0 false false ByteArray.empty false ⟨none,0,0⟩ 0 false ⟨none,0,0⟩ ⟨none,0,0⟩ ⟨none,0,0⟩)
theorem snam_13 (p:Pk) (w:World) (ht:p.ty=13):Calls Tryz.prog 70 #[.agg p.cells] w fun e w'=>e=.returned (.agg (n13 p).cells)∧Below w.heap.size w w':=by
 have a0:=p.c0;rw[ht] at a0;have ne0:w.heap.size≠w.heap.size+1+1:=by omega
 have ne1:w.heap.size+1≠w.heap.size+1+1:=by omega
 generalize p.cells=cs at *;have A:Blk (((w.alloc (.cells cs 28)).alloc (.cells Pk.zero.cells 28)).alloc (.cells (n13 p).cells 28)) (w.heap.size+1) Pk.zero:=qby _ _ _ _;have D:Blk (((w.alloc (.cells cs 28)).alloc (.cells Pk.zero.cells 28)).alloc (.cells (n13 p).cells 28)) (w.heap.size+1+1) (n13 p):=qbz _ _ _ _;have hb:Below w.heap.size w (((w.alloc (.cells cs 28)).alloc (.cells Pk.zero.cells 28)).alloc (.cells (n13 p).cells 28)):=(((Below.refl _ _).alloc (Nat.le_refl _) _).alloc (by simp) _).alloc (by simp;omega) _;go_enter Tryz.func70,Tryz.ntmps70
 go_upto_region 2 with (first | refine qaz (p:=n13a) rfl rfl ?_ | refine al_pk ?_ | (refine bu_pk n13a (by kernel_rfl) ?_) | fail)
 change Code.wp _ _ _ Fq120 _;unfold Fq120;simp only[World.size_alloc]
 go_upto_region 46 with fail
 go_wp2_with (first | refine qaj D rfl _ rfl rfl ?_ | (refine qas (q:=(n13 p)) (old:=Pk.zero) A rfl rfl ?_;intro w9 B9 b9) | fail)
 exact qam rfl rfl B9 rfl ⟨rfl,hb.trans (b9.mono (by omega))⟩
def n14a:Pk:=(Pk.mk 14 false 0 false 0 ByteArray.empty ⟨none,0,0⟩ ByteArray.empty 0 false 0 false ByteArray.empty ⟨none,0,0⟩ 0 false false ByteArray.empty false ⟨none,0,0⟩ 0 false ⟨none,0,0⟩ ⟨none,0,0⟩ ⟨none,0,0⟩)
def n14 (p:Pk):Pk:=(Pk.mk 14 false 0 false 0 ByteArray.empty ⟨none,0,0⟩ ByteArray.empty 0 false 0 false ByteArray.empty ⟨none,0,0⟩ 0 false false ByteArray.empty false ⟨none,0,0⟩ 0 false ⟨none,0,0⟩ ⟨none,0,0⟩ ⟨none,0,0⟩)
theorem snam_14 (p:Pk) (w:World) (ht:p.ty=14):Calls Tryz.prog 70 #[.agg p.cells] w fun e w'=>e=.returned (.agg (n14 p).cells)∧Below w.heap.size w w':=by
 have a0:=p.c0;rw[ht] at a0;have ne0:w.heap.size≠w.heap.size+1+1:=by omega
 have ne1:w.heap.size+1≠w.heap.size+1+1:=by omega
 generalize p.cells=cs at *;have A:Blk (((w.alloc (.cells cs 28)).alloc (.cells Pk.zero.cells 28)).alloc (.cells (n14 p).cells 28)) (w.heap.size+1) Pk.zero:=qby _ _ _ _;have D:Blk (((w.alloc (.cells cs 28)).alloc (.cells Pk.zero.cells 28)).alloc (.cells (n14 p).cells 28)) (w.heap.size+1+1) (n14 p):=qbz _ _ _ _;have hb:Below w.heap.size w (((w.alloc (.cells cs 28)).alloc (.cells Pk.zero.cells 28)).alloc (.cells (n14 p).cells 28)):=(((Below.refl _ _).alloc (Nat.le_refl _) _).alloc (by simp) _).alloc (by simp;omega) _;go_enter Tryz.func70,Tryz.ntmps70
 go_upto_region 2 with (first | refine qaz (p:=n14a) rfl rfl ?_ | refine al_pk ?_ | (refine bu_pk n14a (by kernel_rfl) ?_) | fail)
 change Code.wp _ _ _ Fq120 _;unfold Fq120;simp only[World.size_alloc]
 go_upto_region 46 with fail
 go_wp2_with (first | refine qaj D rfl _ rfl rfl ?_ | (refine qas (q:=(n14 p)) (old:=Pk.zero) A rfl rfl ?_;intro w9 B9 b9) | fail)
 exact qam rfl rfl B9 rfl ⟨rfl,hb.trans (b9.mono (by omega))⟩

abbrev Fr191 {x0 x1 x2 x3 x4 x5 x6 x7 x8 x9 x10 x11 x12 x13 x14 x15 x16 x17 x18 x19 x20 x21 x22 x23 x24 x25 x26 x27 x28 x29 x30 x31 x32 x33 x34 x35 x36 x37 x38 x39 x40 x41 x42 x43 x44 x45 x46 x47 x48 x49 x50 x51 x52 x53 x54 x55 x56 x57 x58 x59 x60 x61 x62 x63 x64 x65 x66 x67 x68 x69 x70 x71 x72 x73 x74 x75 x76 x77 x78 x79 x80 x81 x82 x83 x84 x85 x86 x87 x88 x89 x90 x91 x92 x93 x94 x95 x96 x97 x98 x99 x100 x101 x102 x103 x104 x105 x106 x107 x108 x109 x110 x111 x112 x113 x114 x115 x116 x117 x118 x119 x120 x121 x122 x123 x124 x125 x126 x127 x128 x129 x130 x131 x132 x133 x134 x135 x136 x137 x138 x139 x140 x141 x142 x143 x144 x145 x146 x147 x148 x149 x150 x151 x152 x153 x154 x155 x156 x157 x158 x159 x160 x161 x162 x163 x164 x165 x166 x167 x168 x169 x170 x171 x172 x173 x174 x175 x176 x177 x178 x179 x180 x181 x182 x183 x184 x185 x186 x187 x188 x189 x190:Value} : Act:=.mk #[x0,x1,x2,x3,x4,x5,x6,x7,x8,x9,x10,x11,x12,x13,x14,x15,x16,x17,x18,x19,x20,x21,x22,x23,x24,x25,x26,x27,x28,x29,x30,x31,x32,x33,x34,x35,x36,x37,x38,x39,x40,x41,x42,x43,x44,x45,x46,x47,x48,x49,x50,x51,x52,x53,x54,x55,x56,x57,x58,x59,x60,x61,x62,x63,x64,x65,x66,x67,x68,x69,x70,x71,x72,x73,x74,x75,x76,x77,x78,x79,x80,x81,x82,x83,x84,x85,x86,x87,x88,x89,x90,x91,x92,x93,x94,x95,x96,x97,x98,x99,x100,x101,x102,x103,x104,x105,x106,x107,x108,x109,x110,x111,x112,x113,x114,x115,x116,x117,x118,x119,x120,x121,x122,x123,x124,x125,x126,x127,x128,x129,x130,x131,x132,x133,x134,x135,x136,x137,x138,x139,x140,x141,x142,x143,x144,x145,x146,x147,x148,x149,x150,x151,x152,x153,x154,x155,x156,x157,x158,x159,x160,x161,x162,x163,x164,x165,x166,x167,x168,x169,x170,x171,x172,x173,x174,x175,x176,x177,x178,x179,x180,x181,x182,x183,x184,x185,x186,x187,x188,x189,x190] []
theorem qao {o:Oper} {k:Nat} {b:Bool} {y:Nat→Option Bool} (h:o.guard=some (k,b)) (hy:y k=some b):Region.wanted o y=true:=by
 simp[Region.wanted,h,hy]
theorem qde (P:Program) (u:World) (ρ:Operand→Value) (v v' v'':Value) (x y z:Operand) (f:FuncId) (hf:∀(xs:Array Value) (u:World),(callFunc f xs).run P u=.ok (.enter f xs) u) (hx:ρ x=v) (hy:ρ y=v') (hz:ρ z=v'') (hr:∀g,ρ (.func g)=.func (.func g) #[] #[]) (d:Option Tmp) (t:TypeId) (p:String) (e:Array Edge) (g:Option (Nat×Bool)) (ts:Array TypeId) :
  (execOp ρ ⟨d,.call { callee:=.value (.func f),args:=#[x,y,z],argTypes:=ts },t,p,e,g⟩).run P u=.ok (.enter f #[v,v',v'']) u:=by
 simp[execOp,hx,hy,hz,hr,resolve,invoke,go_sem,hf]
theorem qgz (xs:Array Value) (u:World):(callFunc 68 xs).run Tryz.prog u=.ok (.enter 68 xs) u:=by kernel_rfl
theorem qie (xs:Array Value) (u:World):(callFunc 70 xs).run Tryz.prog u=.ok (.enter 70 xs) u:=by kernel_rfl
theorem qga (xs:Array Value) (u:World):(callFunc 69 xs).run Tryz.prog u=.ok (.enter 69 xs) u:=by kernel_rfl
theorem qdu (p:Pk) (d:Pd) (w:World) (hp:PRd w p d) (q:Pk) (dq:Pd) (ht:1≤p.ty∧p.ty≤14)
  (hnam:∀u:World,Calls Tryz.prog 70 #[.agg p.cells] u fun e u'=>e=.returned (.agg q.cells)∧Below u.heap.size u u')
  (hq:∀u:World,PRd u p d→PRd u q dq) (hne:pv p d≠pv q dq) :
  Calls Tryz.prog 17 #[.agg p.cells] w fun e w'=>e=.returned (.bool false)∧Below w.heap.size w w':=by
 have hb:Below w.heap.size w (w.alloc (.cells p.cells 28)):=qac _ _;have A:Blk (w.alloc (.cells p.cells 28)) w.heap.size p:=heap_alloc_new _ _;replace hp:=hp.below hb;go_enter Tryz.func17,Tryz.ntmps17;go_wp2;refine qaw (by kernel_rfl) rfl (fun i u x=>match i with
  |0=>u=.pointer (some ((⟨w.heap.size,0,none⟩ : Addr).add 0))
  |1=>u=.int .i64 p.ty
  |2=>u=.bool true
  |3 | 4=>u=.bool false
  |5 | 6=>u=.agg p.cells
  |7=>u=.agg q.cells
  |8=>u=.bool (decide (pv p d=pv q dq))
  |_=>u=.bool (!decide (pv p d=pv q dq))) ?_ ?_ ?_
 ·intro i u x x' hx h;exact h
 ·intro i o a u hi hk hbu hdep;replace hdep:=qhdd hdep
  match i,hi with
  |0,hi=>cases hi;have e1:a.tmps[1]? = some (.pointer (some ⟨w.heap.size,0,none⟩)):=(hk.at 1 rfl).trans rfl;exact qggo rfl (qae (w':=u) (v:=.pointer (some ((⟨w.heap.size,0,none⟩ : Addr).add 0))) (by simp only[execOp,qab e1,Sem.run_bind,fld0,Result.andThen_ok,Sem.run_pure]) (qzqq rfl))
  |1,hi=>cases hi;obtain⟨z,hz,rfl⟩:=hdep 0 rfl;have hl:=qan (P:=Tryz.prog) (w:=u) Tryz.underlying3 rfl (X:=(⟨w.heap.size,0,none⟩ : Addr).add 0) (((A.next hbu).cell 0).trans p.c0);exact qggo rfl (qae (w':=u) (v:=.int .i64 p.ty) (by simp only[execOp,qab hz,Sem.run_bind,hl,Result.andThen_ok,Sem.run_pure]) (qzqq rfl))
  |2,hi=>cases hi;obtain⟨z,hz,rfl⟩:=hdep 1 rfl;refine qggo rfl (qal (qde _ _ _ _ _ _ _ _ _ _ qgz (qab hz) rfl rfl (fun _=>rfl) _ _ _ _ _ _) ?_);refine (qax _ _ _ true _ (decide_eq_true ht)).mono ?_;rintro e u' ⟨rfl,rfl⟩;exact⟨_,rfl,_,rfl,Below.refl _ _,rfl⟩
  |3,hi=>cases hi;obtain⟨z,hz,rfl⟩:=hdep 2 rfl;exact qggo rfl (qae (v:=.bool false) (w':=u) (by simp[execOp,qab hz,Op.unary]) (qzqq rfl))
  |4,hi=>cases hi;obtain⟨z,hz,rfl⟩:=hdep 3 rfl;exact qggo rfl (qae (by simp[execOp,qab hz]) (qzqq rfl))
  |5,hi=>cases hi;obtain⟨z,hz,rfl⟩:=hdep 4 rfl;exact g_run (qao rfl (qaq rfl hz)) (qbg (A.next hbu) _ rfl (qevv hk 1 rfl rfl) (qzqq rfl))
  |6,hi=>cases hi;obtain⟨z,hz,rfl⟩:=hdep 4 rfl;exact g_run (qao rfl (qaq rfl hz)) (qbg (A.next hbu) _ rfl (qevv hk 1 rfl rfl) (qzqq rfl))
  |7,hi=>cases hi;obtain⟨z,hz,rfl⟩:=hdep 4 rfl;obtain⟨z',hz',rfl⟩:=hdep 6 rfl;refine g_run (qao rfl (qaq rfl hz)) (qal (qbu _ _ _ _ _ _ qie (qab hz') (fun _=>rfl) _ _ _ _ _ _) ?_);refine (hnam u).mono ?_;rintro e u' ⟨rfl,hb'⟩;exact⟨_,rfl,_,rfl,hb',rfl⟩
  |8,hi=>cases hi;obtain⟨z,hz,rfl⟩:=hdep 4 rfl;obtain⟨z5,hz5,rfl⟩:=hdep 5 rfl;obtain⟨z7,hz7,rfl⟩:=hdep 7 rfl;refine g_run (qao rfl (qaq rfl hz)) (qal (qak _ _ _ _ _ _ _ _ qga (qab hz5) (qab hz7) (fun _=>rfl) _ _ _ _ _ _) ?_);refine (qbo p q d dq u (hp.below hbu) (hq u (hp.below hbu))).mono ?_;rintro e u' ⟨rfl,hb'⟩;exact⟨_,rfl,_,rfl,hb',rfl⟩
  |9,hi=>cases hi;obtain⟨z,hz,rfl⟩:=hdep 4 rfl;obtain⟨z',hz',rfl⟩:=hdep 8 rfl;exact g_run (qao rfl (qaq rfl hz)) (qae (v:=.bool (!decide (pv p d=pv q dq))) (w':=u) (by simp[execOp,qab hz',Op.unary]) (qzqq rfl))
  |10,hi=>cases hi;obtain⟨z,hz,rfl⟩:=hdep 4 rfl;obtain⟨z',hz',rfl⟩:=hdep 9 rfl;exact qggo rfl (qae (v:=.bool (!decide (pv p d=pv q dq))) (w':=u) (by simp[execOp,qab hz,qab hz',asBool]) (qzqq rfl))
  |(_+11),hi=>cases hi
 intro vs y b1 hG a3 h3;have g10:vs 10=.bool (!decide (pv p d=pv q dq)):=hG 10 (by decide);clear hG;replace h3:puts _ 2 _ Fr191=a3:=h3;replace h3:puts _ 4 _ Fr191=a3:=h3;replace h3:puts _ 6 _ Fr191=a3:=h3;replace h3:puts _ 8 _ Fr191=a3:=h3;replace h3:puts _ 10 _ Fr191=a3:=h3;replace h3:Fr191=_:=h3;unfold Fr191 at h3;subst h3;replace hb:=bel hb b1;replace A:=A.next b1;replace hp:=hp.below b1;clear b1;rw[decide_eq_false hne] at g10;simp only[g10];clear hnam hq;go_wp2;go_ret;exact⟨rfl,hb⟩
