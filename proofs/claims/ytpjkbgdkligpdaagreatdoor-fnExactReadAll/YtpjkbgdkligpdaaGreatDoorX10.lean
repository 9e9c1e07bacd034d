/- Lemmas. -/
import Derived.Great.BuildSlice
import Derived.OneCell
import Derived.Deep.RegionHeld3
import Derived.Test.YtpjkbgdkligpdaaGreatDoorX08
import Derived.Test.YtpjkbgdkligpdaaGreatDoorX09
set_option linter.unusedVariables false
set_option linter.unusedSimpArgs false
set_option maxRecDepth 100000
set_option maxHeartbeats 20000000
namespace Go.Proofs.YtpjkbgdkligpdaaGreatDoor
open Go.RowKit

def pubC (dup:Bool) (qos:Int) (ret:Bool) (id:Int) (top:ByteArray) (b:Sl):Array Value:=#[.bool dup,.int .i64 qos,.bool ret,.int .i64 id,.string top,.slice b.a b.n b.c]
def conC (lev:Int) (cli:ByteArray) (cln:Bool) (kee:Int) (hw:Bool) (wt:ByteArray) (wb:Sl) (wq:Int) (wr:Bool) (hu:Bool) (us:ByteArray) (hp:Bool) (pa:Sl):Array Value :=
 #[.int .i64 lev,.string cli,.bool cln,.int .i64 kee,.bool hw,.string wt,.slice wb.a wb.n wb.c,.int .i64 wq,.bool wr,.bool hu,.string us,.bool hp,.slice pa.a pa.n pa.c]
def noSl:Sl:=⟨none,0,0⟩

theorem pub_of0 (p:Pk) (w:World) (h:¬0<p.qos) :
  Calls Tryz.prog 114 #[.agg p.cells] w fun e w'=>e=.returned (.agg (pubC false p.qos p.ret 0 p.top p.bod))∧Below w.heap.size w w':=by
 have a2:=p.c2;have a3:=p.c3;have a5:=p.c5;have a6:=p.c6;generalize p.cells=cs at *;unfold pubC;go_enter Tryz.func114,Tryz.ntmps114;go_wp2
 go_returns
 refine⟨rfl,?_⟩
 go_grown
theorem pub_of1 (p:Pk) (w:World) (h:0<p.qos) :
  Calls Tryz.prog 114 #[.agg p.cells] w fun e w'=>e=.returned (.agg (pubC p.dup p.qos p.ret p.id p.top p.bod))∧Below w.heap.size w w':=by
 have a1:=p.c1;have a2:=p.c2;have a3:=p.c3;have a4:=p.c4;have a5:=p.c5;have a6:=p.c6;generalize p.cells=cs at *;unfold pubC;go_enter Tryz.func114,Tryz.ntmps114;go_wp2
 go_region
 all_goals
  go_wp2
  go_returns
  refine⟨rfl,?_⟩
  go_grown
theorem con_nnn (p:Pk) (w:World) (h1:p.hw=false) (h2:p.hu=false) :
  Calls Tryz.prog 113 #[.agg p.cells] w fun e w'=>e=.returned (.agg (conC p.lev p.cli p.cln p.kee false ByteArray.empty noSl 0 false false ByteArray.empty false noSl))∧Below w.heap.size w w':=by
 have a7:=p.c7;have a8:=p.c8;have a9:=p.c9;have a10:=p.c10;have a11:=p.c11;have a16:=p.c16;rw[h1] at a11;rw[h2] at a16;clear h1 h2;generalize p.cells=cs at *;unfold conC;go_enter Tryz.func113,Tryz.ntmps113;go_wp2
 go_returns
 refine⟨rfl,?_⟩
 go_grown

theorem con_nun (p:Pk) (w:World) (h1:p.hw=false) (h2:p.hu=true) (h3:p.hp=false) :
  Calls Tryz.prog 113 #[.agg p.cells] w fun e w'=>e=.returned (.agg (conC p.lev p.cli p.cln p.kee false ByteArray.empty noSl 0 false true p.us false noSl))∧Below w.heap.size w w':=by
 have a7:=p.c7;have a8:=p.c8;have a9:=p.c9;have a10:=p.c10;have a11:=p.c11;have a16:=p.c16;have a17:=p.c17;have a18:=p.c18;rw[h1] at a11;rw[h2] at a16;rw[h3] at a18;clear h1 h2 h3;generalize p.cells=cs at *;unfold conC;go_enter Tryz.func113,Tryz.ntmps113;go_wp2
 go_region
 all_goals
  go_wp2
  go_returns
  refine⟨rfl,?_⟩
  go_grown

theorem con_nup (p:Pk) (w:World) (h1:p.hw=false) (h2:p.hu=true) (h3:p.hp=true) :
  Calls Tryz.prog 113 #[.agg p.cells] w fun e w'=>e=.returned (.agg (conC p.lev p.cli p.cln p.kee false ByteArray.empty noSl 0 false true p.us true p.pa))∧Below w.heap.size w w':=by
 have a7:=p.c7;have a8:=p.c8;have a9:=p.c9;have a10:=p.c10;have a11:=p.c11;have a16:=p.c16;have a17:=p.c17;have a18:=p.c18;have a19:=p.c19;rw[h1] at a11;rw[h2] at a16;rw[h3] at a18;clear h1 h2 h3;generalize p.cells=cs at *;unfold conC;go_enter Tryz.func113,Tryz.ntmps113;go_wp2
 go_region
 all_goals
  go_wp2
  go_returns
  refine⟨rfl,?_⟩
  go_grown

theorem con_wnn (p:Pk) (w:World) (h1:p.hw=true) (h2:p.hu=false) :
  Calls Tryz.prog 113 #[.agg p.cells] w fun e w'=>e=.returned (.agg (conC p.lev p.cli p.cln p.kee true p.wt p.wb p.wq p.wr false ByteArray.empty false noSl))∧Below w.heap.size w w':=by
 have a7:=p.c7;have a8:=p.c8;have a9:=p.c9;have a10:=p.c10;have a11:=p.c11;have a16:=p.c16;have a12:=p.c12;have a13:=p.c13;have a14:=p.c14;have a15:=p.c15;rw[h1] at a11;rw[h2] at a16;clear h1 h2;generalize p.cells=cs at *;unfold conC;go_enter Tryz.func113,Tryz.ntmps113;go_wp2
 go_returns
 refine⟨rfl,?_⟩
 go_grown

theorem con_wun (p:Pk) (w:World) (h1:p.hw=true) (h2:p.hu=true) (h3:p.hp=false) :
  Calls Tryz.prog 113 #[.agg p.cells] w fun e w'=>e=.returned (.agg (conC p.lev p.cli p.cln p.kee true p.wt p.wb p.wq p.wr true p.us false noSl))∧Below w.heap.size w w':=by
 have a7:=p.c7;have a8:=p.c8;have a9:=p.c9;have a10:=p.c10;have a11:=p.c11;have a16:=p.c16;have a12:=p.c12;have a13:=p.c13;have a14:=p.c14;have a15:=p.c15;have a17:=p.c17;have a18:=p.c18;rw[h1] at a11;rw[h2] at a16;rw[h3] at a18;clear h1 h2 h3;generalize p.cells=cs at *;unfold conC;go_enter Tryz.func113,Tryz.ntmps113;go_wp2
 go_region
 all_goals
  go_wp2
  go_returns
  refine⟨rfl,?_⟩
  go_grown

theorem con_wup (p:Pk) (w:World) (h1:p.hw=true) (h2:p.hu=true) (h3:p.hp=true) :
  Calls Tryz.prog 113 #[.agg p.cells] w fun e w'=>e=.returned (.agg (conC p.lev p.cli p.cln p.kee true p.wt p.wb p.wq p.wr true p.us true p.pa))∧Below w.heap.size w w':=by
 have a7:=p.c7;have a8:=p.c8;have a9:=p.c9;have a10:=p.c10;have a11:=p.c11;have a16:=p.c16;have a12:=p.c12;have a13:=p.c13;have a14:=p.c14;have a15:=p.c15;have a17:=p.c17;have a18:=p.c18;have a19:=p.c19;rw[h1] at a11;rw[h2] at a16;rw[h3] at a18;clear h1 h2 h3;generalize p.cells=cs at *;unfold conC;go_enter Tryz.func113,Tryz.ntmps113;go_wp2
 go_region
 all_goals
  go_wp2
  go_returns
  refine⟨rfl,?_⟩
  go_grown
def conOf (p:Pk):Array Value:=conC p.lev p.cli p.cln p.kee p.hw (if p.hw then p.wt else ByteArray.empty) (if p.hw then p.wb else noSl) (if p.hw then p.wq else 0) (if p.hw then p.wr else false) p.hu (if p.hu then p.us else ByteArray.empty) (p.hu&&p.hp) (if p.hu&&p.hp then p.pa else noSl)
theorem con_of (p:Pk) (w:World):Calls Tryz.prog 113 #[.agg p.cells] w fun e w'=>e=.returned (.agg (conOf p))∧Below w.heap.size w w':=by
 unfold conOf;cases h1:p.hw<;>cases h2:p.hu<;>cases h3:p.hp
 ·exact con_nnn p w h1 h2
 ·exact con_nnn p w h1 h2
 ·exact con_nun p w h1 h2 h3
 ·exact con_nup p w h1 h2 h3
 ·exact con_wnn p w h1 h2
 ·exact con_wnn p w h1 h2
 ·exact con_wun p w h1 h2 h3
 ·exact con_wup p w h1 h2 h3
def pubOf (p:Pk):Array Value:=pubC (if 0<p.qos then p.dup else false) p.qos p.ret (if 0<p.qos then p.id else 0) p.top p.bod
theorem pub_of (p:Pk) (w:World):Calls Tryz.prog 114 #[.agg p.cells] w fun e w'=>e=.returned (.agg (pubOf p))∧Below w.heap.size w w':=by
 unfold pubOf
 by_cases h:0<p.qos
 ·rw[if_pos h,if_pos h];exact pub_of1 p w h
 ·rw[if_neg h,if_neg h];exact pub_of0 p w h

theorem qfg (p:Pk) (w:World) (ht:p.ty=1):Calls Tryz.prog 63 #[.agg p.cells] w fun e w'=>e=.returned (.iface 124 (.agg (conOf p)))∧Below w.heap.size w w':=by
 have a0:=p.c0;rw[ht] at a0;clear ht;have hb:Below w.heap.size w (w.alloc (.cells p.cells 28)):=qac _ _;have A:Blk (w.alloc (.cells p.cells 28)) w.heap.size p:=heap_alloc_new _ _;go_enter Tryz.func63,Tryz.ntmps63;go_wp2_with (first | refine qal A rfl _ rfl rfl ?_ | fail)
 refine (con_of p _).mono ?_;rintro e w2 ⟨rfl,hb2⟩;go_wp2;go_ret;exact⟨rfl,bel hb hb2⟩
theorem ret_ack {n:Int} {a b:Bool} (h:a=b):Ending.returned (.iface 127 (.agg #[.int .i64 n,.bool a]))=.returned (.iface 127 (.agg #[.int .i64 n,.bool b])):=by rw[h]
theorem qff (p:Pk) (w:World) (ht:p.ty=2):Calls Tryz.prog 63 #[.agg p.cells] w fun e w'=>e=.returned (.iface 127 (.agg #[.int .i64 p.cod,.bool (p.pre&&decide (p.cod=0))]))∧Below w.heap.size w w':=by
 have a0:=p.c0;rw[ht] at a0;have a20:=p.c20;have a21:=p.c21;clear ht;generalize p.cells=cs at *;cases hp:p.pre
 ·rw[hp] at a21;clear hp;go_enter Tryz.func63,Tryz.ntmps63;go_wp2;go_ret;exact⟨rfl,qac _ _⟩
 ·rw[hp] at a21;clear hp;go_enter Tryz.func63,Tryz.ntmps63;go_wp2;go_ret;exact⟨ret_ack (by rw[Bool.eq_iff_iff];simp),qac _ _⟩
theorem qfj (p:Pk) (w:World) (ht:p.ty=3):Calls Tryz.prog 63 #[.agg p.cells] w fun e w'=>e=.returned (.iface 129 (.agg (pubOf p)))∧Below w.heap.size w w':=by
 have a0:=p.c0;rw[ht] at a0;clear ht;have hb:Below w.heap.size w (w.alloc (.cells p.cells 28)):=qac _ _;have A:Blk (w.alloc (.cells p.cells 28)) w.heap.size p:=heap_alloc_new _ _;go_enter Tryz.func63,Tryz.ntmps63;go_wp2_with (first | refine qal A rfl _ rfl rfl ?_ | fail)
 refine (pub_of p _).mono ?_;rintro e w2 ⟨rfl,hb2⟩;go_wp2;go_ret;exact⟨rfl,bel hb hb2⟩
theorem qfu (p:Pk) (w:World) (ht:p.ty=4):Calls Tryz.prog 63 #[.agg p.cells] w fun e w'=>e=.returned (.iface 134 (.agg #[.int .i64 p.id]))∧Below w.heap.size w w':=by
 have a0:=p.c0;rw[ht] at a0;have a4:=p.c4;clear ht;generalize p.cells=cs at *;go_enter Tryz.func63,Tryz.ntmps63;go_wp2;go_ret;exact⟨rfl,qac _ _⟩
theorem qfv (p:Pk) (w:World) (ht:p.ty=5):Calls Tryz.prog 63 #[.agg p.cells] w fun e w'=>e=.returned (.iface 135 (.agg #[.int .i64 p.id]))∧Below w.heap.size w w':=by
 have a0:=p.c0;rw[ht] at a0;have a4:=p.c4;clear ht;generalize p.cells=cs at *;go_enter Tryz.func63,Tryz.ntmps63;go_wp2;go_ret;exact⟨rfl,qac _ _⟩
theorem qfw (p:Pk) (w:World) (ht:p.ty=6):Calls Tryz.prog 63 #[.agg p.cells] w fun e w'=>e=.returned (.iface 136 (.agg #[.int .i64 p.id]))∧Below w.heap.size w w':=by
 have a0:=p.c0;rw[ht] at a0;have a4:=p.c4;clear ht;generalize p.cells=cs at *;go_enter Tryz.func63,Tryz.ntmps63;go_wp2;go_ret;exact⟨rfl,qac _ _⟩
theorem qfi (p:Pk) (w:World) (ht:p.ty=7):Calls Tryz.prog 63 #[.agg p.cells] w fun e w'=>e=.returned (.iface 137 (.agg #[.int .i64 p.id]))∧Below w.heap.size w w':=by
 have a0:=p.c0;rw[ht] at a0;have a4:=p.c4;clear ht;generalize p.cells=cs at *;go_enter Tryz.func63,Tryz.ntmps63;go_wp2;go_ret;exact⟨rfl,qac _ _⟩
theorem qed (p:Pk) (w:World) (ht:p.ty=8):Calls Tryz.prog 63 #[.agg p.cells] w fun e w'=>e=.returned (.iface 139 (.agg #[.int .i64 p.id,.slice p.wan.a p.wan.n p.wan.c]))∧Below w.heap.size w w':=by
 have a0:=p.c0;rw[ht] at a0;have a4:=p.c4;have a22:=p.c22;clear ht;generalize p.cells=cs at *;go_enter Tryz.func63,Tryz.ntmps63;go_wp2;go_ret;exact⟨rfl,qac _ _⟩
theorem qfx (p:Pk) (w:World) (ht:p.ty=9):Calls Tryz.prog 63 #[.agg p.cells] w fun e w'=>e=.returned (.iface 141 (.agg #[.int .i64 p.id,.slice p.cds.a p.cds.n p.cds.c]))∧Below w.heap.size w w':=by
 have a0:=p.c0;rw[ht] at a0;have a4:=p.c4;have a24:=p.c24;clear ht;generalize p.cells=cs at *;go_enter Tryz.func63,Tryz.ntmps63;go_wp2;go_ret;exact⟨rfl,qac _ _⟩
theorem qdk (p:Pk) (w:World) (ht:p.ty=10):Calls Tryz.prog 63 #[.agg p.cells] w fun e w'=>e=.returned (.iface 143 (.agg #[.int .i64 p.id,.slice p.nam.a p.nam.n p.nam.c]))∧Below w.heap.size w w':=by
 have a0:=p.c0;rw[ht] at a0;have a4:=p.c4;have a23:=p.c23;clear ht;generalize p.cells=cs at *;go_enter Tryz.func63,Tryz.ntmps63;go_wp2;go_ret;exact⟨rfl,qac _ _⟩
theorem qeq (p:Pk) (w:World) (ht:p.ty=11):Calls Tryz.prog 63 #[.agg p.cells] w fun e w'=>e=.returned (.iface 144 (.agg #[.int .i64 p.id]))∧Below w.heap.size w w':=by
 have a0:=p.c0;rw[ht] at a0;have a4:=p.c4;clear ht;generalize p.cells=cs at *;go_enter Tryz.func63,Tryz.ntmps63;go_wp2;go_ret;exact⟨rfl,qac _ _⟩
theorem qfh (p:Pk) (w:World) (ht:p.ty=12):Calls Tryz.prog 63 #[.agg p.cells] w fun e w'=>e=.returned (.iface 148 (.agg #[]))∧Below w.heap.size w w':=by
 have a0:=p.c0;rw[ht] at a0;clear ht;generalize p.cells=cs at *;go_enter Tryz.func63,Tryz.ntmps63;go_wp2;go_ret;exact⟨rfl,qac _ _⟩
theorem qep (p:Pk) (w:World) (ht:p.ty=13):Calls Tryz.prog 63 #[.agg p.cells] w fun e w'=>e=.returned (.iface 149 (.agg #[]))∧Below w.heap.size w w':=by
 have a0:=p.c0;rw[ht] at a0;clear ht;generalize p.cells=cs at *;go_enter Tryz.func63,Tryz.ntmps63;go_wp2;go_ret;exact⟨rfl,qac _ _⟩
theorem qdr (p:Pk) (w:World) (ht:p.ty=14):Calls Tryz.prog 63 #[.agg p.cells] w fun e w'=>e=.returned (.iface 150 (.agg #[]))∧Below w.heap.size w w':=by
 have a0:=p.c0;rw[ht] at a0;clear ht;generalize p.cells=cs at *;go_enter Tryz.func63,Tryz.ntmps63;go_wp2;go_ret;exact⟨rfl,qac _ _⟩
theorem qsf (p:Pk) (w:World) (ht:¬(1≤p.ty∧p.ty≤14)):Calls Tryz.prog 63 #[.agg p.cells] w fun e w'=>e=.returned .nilIface∧Below w.heap.size w w':=by
 have a0:=p.c0;have n1:(p.ty==1)=false:=by simp;omega
 have n2:(p.ty==2)=false:=by simp;omega
 have n3:(p.ty==3)=false:=by simp;omega
 have n4:(p.ty==4)=false:=by simp;omega
 have n5:(p.ty==5)=false:=by simp;omega
 have n6:(p.ty==6)=false:=by simp;omega
 have n7:(p.ty==7)=false:=by simp;omega
 have n8:(p.ty==8)=false:=by simp;omega
 have n9:(p.ty==9)=false:=by simp;omega
 have n10:(p.ty==10)=false:=by simp;omega
 have n11:(p.ty==11)=false:=by simp;omega
 have n12:(p.ty==12)=false:=by simp;omega
 have n13:(p.ty==13)=false:=by simp;omega
 have n14:(p.ty==14)=false:=by simp;omega
 clear ht;generalize p.cells=cs at *;go_enter Tryz.func63,Tryz.ntmps63;go_wp2;go_ret;exact⟨rfl,qac _ _⟩

section
variable {ops : Array Oper} {rest : List Oper} {a : Act} {w : World} {Q : Exit → Act → World → Prop}
theorem al_pk {d:Nat} {t:TypeId} {p:String} {e:Array Edge} (h:wpList Tryz.prog ops Q rest (a.put (some d) (.pointer (some ⟨w.heap.size,0,none⟩))) (w.alloc (.cells Pk.zero.cells 28))) :
  wpList Tryz.prog ops Q (⟨some d,.alloc 28,t,p,e,none⟩ :: rest) a w:=by
 refine qcu (w':=w.alloc (.cells Pk.zero.cells 28)) (v:=.pointer (some ⟨w.heap.size,0,none⟩)) (qab rfl _) ?_ h;simp only[execOp,Sem.run_bind,qnc,Result.andThen_ok,Sem.run_pure]
theorem bu_pk (q:Pk) {d:Nat} {t:TypeId} {p:String} {e:Array Edge} {parts:Array (Nat×Operand)} (hf:Tryz.prog.built 28 (parts.map fun (i,x)=>(i,a.eval x)).toList=some q.cells)
  (h:wpList Tryz.prog ops Q rest (a.put (some d) (.agg q.cells)) w):wpList Tryz.prog ops Q (⟨some d,.build 28 parts,t,p,e,none⟩ :: rest) a w :=
 wpList_buildTo rfl 28 parts rfl (some d) rfl q.cells hf h
theorem qaq {q old:Pk} {g:Nat} (hB:Blk w g old) {t:TypeId} {p:String} {e:Array Edge} {x y:Operand} (hx:a.eval x=.pointer (some ⟨g,0,none⟩)) (hy:a.eval y=.agg q.cells)
  (h:∀w',Blk w' g q→Below g w w'→wpList Tryz.prog ops Q rest a w'):wpList Tryz.prog ops Q (⟨none,.store 28 x y,t,p,e,none⟩ :: rest) a w:=by
 refine wpList_store_rowTo rfl 28 x y rfl rfl g q.cells hx hy 28 old.cells hB (infoP.trans (by rw[Pk.csize])) rfl q.ones ?_;refine h _ (setRow_heap w g old.cells q.cells 28 (0,0) hB) ⟨rfl,rfl,rfl,by simp,fun k hk=>setRow_other w g k _ (by omega)⟩
end
def conP (lev:Int) (cli:ByteArray) (cln:Bool) (kee:Int) (hw:Bool) (wt:ByteArray) (wb:Sl) (wq:Int) (wr:Bool) (hu:Bool) (us:ByteArray) (hp:Bool) (pa:Sl):Pk:={ Pk.zero with lev:=lev,cli:=cli,cln:=cln,kee:=kee,hw:=hw,wt:=wt,wb:=wb,wq:=wq,wr:=wr,hu:=hu,us:=us,hp:=hp,pa:=pa }
theorem named_con (lev:Int) (cli:ByteArray) (cln:Bool) (kee:Int) (hw:Bool) (wt:ByteArray) (wb:Sl) (wq:Int) (wr:Bool) (hu:Bool) (us:ByteArray) (hp:Bool) (pa:Sl) (w:World):Calls Tryz.prog 227 #[.agg (conC lev cli cln kee hw wt wb wq wr hu us hp pa)] w fun e w'=>e=.returned (.agg (conP lev cli cln kee hw wt wb wq wr hu us hp pa).cells)∧Below w.heap.size w w':=by
 unfold conC;go_enter Tryz.func227,Tryz.ntmps227;go_wp2_with (first | refine al_pk ?_ | (refine bu_pk (conP lev cli cln kee hw wt wb wq wr hu us hp pa) (by kernel_rfl) ?_) | (refine qaq (q:=conP lev cli cln kee hw wt wb wq wr hu us hp pa) (old:=Pk.zero) (heap_alloc2_new _ _ _) rfl rfl ?_;intro w9 B9 b9) | (refine qaq (q:=conP lev cli cln kee hw wt wb wq wr hu us hp pa) (old:=Pk.zero) (heap_alloc_new _ _) rfl rfl ?_;intro w9 B9 b9) | fail)
 refine qau rfl rfl B9 rfl ⟨rfl,?_⟩;exact (((Below.refl _ _).alloc (Nat.le_refl _) _).alloc (by simp) _).trans (b9.mono (by first | omega | simp))
def ackP (cod:Int) (pre:Bool):Pk:={ Pk.zero with cod:=cod,pre:=pre }
theorem named_ack (cod:Int) (pre:Bool) (w:World):Calls Tryz.prog 235 #[.agg (#[.int .i64 cod,.bool pre])] w fun e w'=>e=.returned (.agg (ackP cod pre).cells)∧Below w.heap.size w w':=by
 go_enter Tryz.func235,Tryz.ntmps235;go_wp2_with (first | refine al_pk ?_ | (refine bu_pk (ackP cod pre) (by kernel_rfl) ?_) | (refine qaq (q:=ackP cod pre) (old:=Pk.zero) (heap_alloc2_new _ _ _) rfl rfl ?_;intro w9 B9 b9) | (refine qaq (q:=ackP cod pre) (old:=Pk.zero) (heap_alloc_new _ _) rfl rfl ?_;intro w9 B9 b9) | fail)
 refine qau rfl rfl B9 rfl ⟨rfl,?_⟩;exact (((Below.refl _ _).alloc (Nat.le_refl _) _).alloc (by simp) _).trans (b9.mono (by first | omega | simp))
def pubP (dup:Bool) (qos:Int) (ret:Bool) (id:Int) (top:ByteArray) (b:Sl):Pk:={ Pk.zero with dup:=dup,qos:=qos,ret:=ret,id:=id,top:=top,bod:=b }
theorem named_pub (dup:Bool) (qos:Int) (ret:Bool) (id:Int) (top:ByteArray) (b:Sl) (w:World):Calls Tryz.prog 238 #[.agg (pubC dup qos ret id top b)] w fun e w'=>e=.returned (.agg (pubP dup qos ret id top b).cells)∧Below w.heap.size w w':=by
 unfold pubC;go_enter Tryz.func238,Tryz.ntmps238;go_wp2_with (first | refine al_pk ?_ | (refine bu_pk (pubP dup qos ret id top b) (by kernel_rfl) ?_) | (refine qaq (q:=pubP dup qos ret id top b) (old:=Pk.zero) (heap_alloc2_new _ _ _) rfl rfl ?_;intro w9 B9 b9) | (refine qaq (q:=pubP dup qos ret id top b) (old:=Pk.zero) (heap_alloc_new _ _) rfl rfl ?_;intro w9 B9 b9) | fail)
 refine qau rfl rfl B9 rfl ⟨rfl,?_⟩;exact (((Below.refl _ _).alloc (Nat.le_refl _) _).alloc (by simp) _).trans (b9.mono (by first | omega | simp))
def idP (id:Int):Pk:={ Pk.zero with id:=id }
theorem qki (id:Int) (w:World):Calls Tryz.prog 242 #[.agg (#[.int .i64 id])] w fun e w'=>e=.returned (.agg (idP id).cells)∧Below w.heap.size w w':=by
 go_enter Tryz.func242,Tryz.ntmps242;go_wp2_with (first | refine al_pk ?_ | (refine bu_pk (idP id) (by kernel_rfl) ?_) | (refine qaq (q:=idP id) (old:=Pk.zero) (heap_alloc2_new _ _ _) rfl rfl ?_;intro w9 B9 b9) | (refine qaq (q:=idP id) (old:=Pk.zero) (heap_alloc_new _ _) rfl rfl ?_;intro w9 B9 b9) | fail)
 refine qau rfl rfl B9 rfl ⟨rfl,?_⟩;exact (((Below.refl _ _).alloc (Nat.le_refl _) _).alloc (by simp) _).trans (b9.mono (by first | omega | simp))
def subP (id:Int) (b:Sl):Pk:={ Pk.zero with id:=id,wan:=b }
theorem named_sub (id:Int) (b:Sl) (w:World):Calls Tryz.prog 245 #[.agg (#[.int .i64 id,.slice b.a b.n b.c])] w fun e w'=>e=.returned (.agg (subP id b).cells)∧Below w.heap.size w w':=by
 go_enter Tryz.func245,Tryz.ntmps245;go_wp2_with (first | refine al_pk ?_ | (refine bu_pk (subP id b) (by kernel_rfl) ?_) | (refine qaq (q:=subP id b) (old:=Pk.zero) (heap_alloc2_new _ _ _) rfl rfl ?_;intro w9 B9 b9) | (refine qaq (q:=subP id b) (old:=Pk.zero) (heap_alloc_new _ _) rfl rfl ?_;intro w9 B9 b9) | fail)
 refine qau rfl rfl B9 rfl ⟨rfl,?_⟩;exact (((Below.refl _ _).alloc (Nat.le_refl _) _).alloc (by simp) _).trans (b9.mono (by first | omega | simp))
def sackP (id:Int) (b:Sl):Pk:={ Pk.zero with id:=id,cds:=b }
theorem named_sack (id:Int) (b:Sl) (w:World):Calls Tryz.prog 253 #[.agg (#[.int .i64 id,.slice b.a b.n b.c])] w fun e w'=>e=.returned (.agg (sackP id b).cells)∧Below w.heap.size w w':=by
 go_enter Tryz.func253,Tryz.ntmps253;go_wp2_with (first | refine al_pk ?_ | (refine bu_pk (sackP id b) (by kernel_rfl) ?_) | (refine qaq (q:=sackP id b) (old:=Pk.zero) (heap_alloc2_new _ _ _) rfl rfl ?_;intro w9 B9 b9) | (refine qaq (q:=sackP id b) (old:=Pk.zero) (heap_alloc_new _ _) rfl rfl ?_;intro w9 B9 b9) | fail)
 refine qau rfl rfl B9 rfl ⟨rfl,?_⟩;exact (((Below.refl _ _).alloc (Nat.le_refl _) _).alloc (by simp) _).trans (b9.mono (by first | omega | simp))
def unsP (id:Int) (b:Sl):Pk:={ Pk.zero with id:=id,nam:=b }
theorem named_uns (id:Int) (b:Sl) (w:World):Calls Tryz.prog 259 #[.agg (#[.int .i64 id,.slice b.a b.n b.c])] w fun e w'=>e=.returned (.agg (unsP id b).cells)∧Below w.heap.size w w':=by
 go_enter Tryz.func259,Tryz.ntmps259;go_wp2_with (first | refine al_pk ?_ | (refine bu_pk (unsP id b) (by kernel_rfl) ?_) | (refine qaq (q:=unsP id b) (old:=Pk.zero) (heap_alloc2_new _ _ _) rfl rfl ?_;intro w9 B9 b9) | (refine qaq (q:=unsP id b) (old:=Pk.zero) (heap_alloc_new _ _) rfl rfl ?_;intro w9 B9 b9) | fail)
 refine qau rfl rfl B9 rfl ⟨rfl,?_⟩;exact (((Below.refl _ _).alloc (Nat.le_refl _) _).alloc (by simp) _).trans (b9.mono (by first | omega | simp))
def noP  : Pk:=Pk.zero
theorem qqv  (w:World):Calls Tryz.prog 264 #[.agg (#[])] w fun e w'=>e=.returned (.agg (noP ).cells)∧Below w.heap.size w w':=by
 go_enter Tryz.func264,Tryz.ntmps264;go_wp2_with (first | refine al_pk ?_ | (refine bu_pk (noP ) (by kernel_rfl) ?_) | (refine qaq (q:=noP ) (old:=Pk.zero) (heap_alloc2_new _ _ _) rfl rfl ?_;intro w9 B9 b9) | (refine qaq (q:=noP ) (old:=Pk.zero) (heap_alloc_new _ _) rfl rfl ?_;intro w9 B9 b9) | fail)
 refine qau rfl rfl B9 rfl ⟨rfl,?_⟩;exact (((Below.refl _ _).alloc (Nat.le_refl _) _).alloc (by simp) _).trans (b9.mono (by first | omega | simp))

def Cur (w:World) (g:Nat) (ao:Option Addr) (n cap:Nat) (l:List UInt8):Prop :=
 ∃i h:Int,w.heap[g]? = some (.cells #[.slice ao n cap,.int .i64 i,.int .i64 h] 117 (0,0))∧0≤i∧i≤n∧RdIn w ao n cap l∧(0<n→∀a,ao=some a→a.block<g)

theorem qql {w:World} {g:Nat} {cs:Array Value} {t:TypeId} {fz:Nat×Nat} (h:w.heap[g]? = some (.cells cs t fz)) (j:Nat):w.cell? ⟨g,j,none⟩ = cs[j]?:=by
 simp[World.cell?,h]

theorem qaf {w:World} {g:Nat} {cs:Array Value} {t:TypeId} {fz:Nat×Nat} (h:w.heap[g]? = some (.cells cs t fz)) (j:Nat) (u:Value) :
  (w.setCell ⟨g,j,none⟩ u).heap[g]? = some (.cells (cs.setIfInBounds j u) t fz):=by
 simp[World.setCell,Array.getElem?_modify,h]

theorem RdIn.grown' {w w':World} {ao:Option Addr} {n cap:Nat} {l:List UInt8} {row:Option Nat} (h:RdIn w ao n cap l) (hg:w.grownBy w' row) (hne:0<n→∀a,ao=some a→some a.block≠row):RdIn w' ao n cap l:=by
 refine⟨⟨h.1.1,fun i hi=>?_⟩,h.2⟩;obtain⟨b,off,e,hc⟩:=h.1.2 i hi;exact⟨b,off,e,hg.cell hc (show some b≠row from hne (by omega) ⟨b,off,none⟩ e)⟩

theorem qah (w:World) (g j:Nat) (u:Value):w.grownBy (w.setCell ⟨g,j,none⟩ u) (some g) :=
 ⟨rfl,rfl,rfl,by simp[World.setCell],fun q hq hne=>Below.heap_setCell _ _ _ q (fun e=>hne (by rw[e]))⟩
theorem qct {a b c:World} {row:Option Nat} (h:a.grownBy b row) (k:b.grownBy c row):a.grownBy c row :=
 ⟨k.os.trans h.os,k.tape.trans h.tape,k.output.trans h.output,Nat.le_trans h.size k.size,fun q hq hne=>(k.block q (Nat.lt_of_lt_of_le hq h.size) hne).trans (h.block q hq hne)⟩
theorem Cur.keep {w w':World} {g:Nat} {ao:Option Addr} {n cap:Nat} {l:List UInt8} {row:Option Nat} (h:Cur w g ao n cap l) (hg:w.grownBy w' row) (hrow:∀k,row=some k→g<k):Cur w' g ao n cap l:=by
 obtain⟨i,z,hh,h0,h1,hr,hne⟩:=h;have hlt:g<w.heap.size:=(Array.getElem?_eq_some_iff.1 hh).1;refine⟨i,z,?_,h0,h1,hr.grown' hg (fun hn a e he=>by have:=hne hn a e;have:=hrow _ he.symm;omega),hne⟩;rw[hg.block g hlt (fun e=>by have:=hrow g e.symm;omega)];exact hh
theorem Cur.lt {w:World} {g:Nat} {ao:Option Addr} {n cap:Nat} {l:List UInt8} (h:Cur w g ao n cap l):g<w.heap.size:=by
 obtain⟨i,z,hh,_⟩:=h;exact (Array.getElem?_eq_some_iff.1 hh).1
theorem Cur.alloc {w:World} {g:Nat} {ao:Option Addr} {n cap:Nat} {l:List UInt8} (h:Cur w g ao n cap l) (o:Obj):Cur (w.alloc o) g ao n cap l:=h.keep (World.grownBy_alloc w o none) (fun k e=>by cases e)
theorem Cur.own {w w':World} {g B:Nat} {ao:Option Addr} {n cap:Nat} {l:List UInt8} {a:Option Addr} {m c:Nat} {x:List UInt8} (h:Cur w g ao n cap l) (ho:Own w B a m c x) (hB:g<B) (hg:w.grownBy w' (Value.slice a m c).ownBlock):Cur w' g ao n cap l :=
 h.keep hg (fun k e=>by have:=(ho.2.lt k e).1;omega)
theorem Own.cur {w w':World} {g B:Nat} {a:Option Addr} {m c:Nat} {x:List UInt8} (h:Own w B a m c x) (hB:g<B) (hg:w.grownBy w' (some g)):Own w' B a m c x :=
 h.grown hg (fun d e he=>by have:=h.block e;simp at he;omega)

theorem qcj {w u u':World} {g:Nat} (h:w.grownBy u (some g)) (hb:Below u.heap.size u u'):w.grownBy u' (some g) :=
 ⟨hb.os.trans h.os,hb.tape.trans h.tape,hb.output.trans h.output,Nat.le_trans h.size hb.size,fun k hk hne=>(hb.block k (Nat.lt_of_lt_of_le hk h.size)).trans (h.block k hk hne)⟩
theorem Cur.below {w w':World} {g:Nat} {ao:Option Addr} {n cap:Nat} {l:List UInt8} (h:Cur w g ao n cap l) (hb:Below w.heap.size w w'):Cur w' g ao n cap l :=
 h.keep (row:=none) ⟨hb.os,hb.tape,hb.output,hb.size,fun k hk _=>hb.block k hk⟩ (fun k e=>by cases e)


theorem Own.cut {w:World} {B:Nat} {a:Option Addr} {n c:Nat} {x:List UInt8} (h:Own w B a n c x) (k:Nat) (hk:k≤n):Own w B a k c (x.take k):=by
 obtain⟨hl,h1,h2⟩:=h;refine⟨by simp;omega,by rw[qim];simp;omega,?_⟩
 rcases h2 with ⟨e,h0⟩ | ⟨g,c',cur,e,hB,hg,hc,hm,hs,ht⟩
 ·simp only[Value.slice.injEq] at e;obtain⟨rfl,_,rfl⟩:=e;obtain rfl:k=0:=by omega
  exact .inl ⟨rfl,rfl⟩
 ·simp only[Value.slice.injEq] at e;obtain⟨rfl,_,rfl⟩:=e;refine .inr ⟨g,c,cur,rfl,hB,hg,by omega,hm,hs,?_⟩;have e2:bvals (x.take k)=(bvals x).take k:=by simp[bvals,List.map_take]
  rw[e2,←ht,List.take_take]
  congr 1
  omega

theorem qqd (ao:Option Addr) (n cap j:Nat) (h:j≤cap) (w':World):(Instr.slice 22 (.slice ao n cap) none (some (.int .i64 (j:Int))) none).run Tryz.prog w'=.ok (.slice ao j cap) w':=by
 obtain⟨i0,hi,hz0,hz1,hz2⟩:=info_parts info5;have he:Tryz.prog.elem 22=5:=by kernel_rfl
 have ht:Tryz.prog.underlying 22=some (.slice (Tryz.prog.elem 22)):=by rw[he];exact Tryz.underlying22
 have hs:=run_slice_h (P:=Tryz.prog) w' 22 ao n cap ht .i64 (j:Int) (by omega) (by omega);rw[hs,he];simp only[sizeOf,typeInfo,Sem.run_bind,Sem.run_pure,hi,hz1,Result.andThen_ok,sliced,Int.toNat_natCast];simp[hi,hz1,Result.andThen,sliced]
 by_cases hc:cap=0
 ·simp[hc]
 ·cases ao<;>simp[hc,Addr.add]

theorem Cur.drew {w:World} {g:Nat} {ao:Option Addr} {n cap:Nat} {l:List UInt8} (h:Cur w g ao n cap l):Cur w.drew g ao n cap l:=h
theorem Own.drew {w:World} {B:Nat} {a:Option Addr} {n c:Nat} {x:List UInt8} (h:Own w B a n c x):Own w.drew B a n c x:=h

theorem RdIn.cur {w w':World} {g:Nat} {a:Option Addr} {m c:Nat} {x:List UInt8} (h:RdIn w a m c x) (hne:∀d,a=some d→g<d.block) (hg:w.grownBy w' (some g)):RdIn w' a m c x :=
 h.grown hg (fun d e he=>by have:=hne d e;simp at he;omega)

