/- Lemmas. -/
import Derived.Great.BuildSlice
import Derived.Test.YtpjkbgdkligpdaaGreatW13
set_option linter.unusedVariables false
set_option linter.unusedSimpArgs false
set_option maxRecDepth 100000
set_option maxHeartbeats 20000000
namespace Go.Proofs.YtpjkbgdkligpdaaGreat
open Go.RowKit

section
variable {ops : Array Oper} {rest : List Oper} {a : Act} {w : World} {Q : Exit → Act → World → Prop}
theorem al_pk {d:Nat} {t:TypeId} {p:String} {e:Array Edge} (h:wpList Tryz.prog ops Q rest (a.put (some d) (.pointer (some ⟨w.heap.size,0,none⟩))) (w.alloc (.cells Pk.zero.cells 32))) :
  wpList Tryz.prog ops Q (⟨some d,.alloc 32,t,p,e,none⟩ :: rest) a w:=by
 refine qbx (w':=w.alloc (.cells Pk.zero.cells 32)) (v:=.pointer (some ⟨w.heap.size,0,none⟩)) (qaa rfl _) ?_ h;simp only[execOp,Sem.run_bind,qnp,Result.andThen_ok,Sem.run_pure]
theorem bu_pk (q:Pk) {d:Nat} {t:TypeId} {p:String} {e:Array Edge} {parts:Array (Nat×Operand)} (hf:Tryz.prog.built 32 (parts.map fun (i,x)=>(i,a.eval x)).toList=some q.cells)
  (h:wpList Tryz.prog ops Q rest (a.put (some d) (.agg q.cells)) w):wpList Tryz.prog ops Q (⟨some d,.build 32 parts,t,p,e,none⟩ :: rest) a w :=
 wpList_buildTo rfl 32 parts rfl (some d) rfl q.cells hf h
theorem qak {q old:Pk} {g:Nat} (hB:Blk w g old) {t:TypeId} {p:String} {e:Array Edge} {x y:Operand} (hx:a.eval x=.pointer (some ⟨g,0,none⟩)) (hy:a.eval y=.agg q.cells)
  (h:∀w',Blk w' g q→Below g w w'→wpList Tryz.prog ops Q rest a w'):wpList Tryz.prog ops Q (⟨none,.store 32 x y,t,p,e,none⟩ :: rest) a w:=by
 refine wpList_store_rowTo rfl 32 x y rfl rfl g q.cells hx hy 32 old.cells hB (infoP.trans (by rw[Pk.csize])) rfl q.ones ?_;refine h _ (setRow_heap w g old.cells q.cells 32 (0,0) hB) ⟨rfl,rfl,rfl,by simp,fun k hk=>setRow_other w g k _ (by omega)⟩
end
def conP (lev:Int) (cli:ByteArray) (cln:Bool) (kee:Int) (hw:Bool) (wt:ByteArray) (wb:Sl) (wq:Int) (wr:Bool) (hu:Bool) (us:ByteArray) (hp:Bool) (pa:Sl):Pk:={ Pk.zero with lev:=lev,cli:=cli,cln:=cln,kee:=kee,hw:=hw,wt:=wt,wb:=wb,wq:=wq,wr:=wr,hu:=hu,us:=us,hp:=hp,pa:=pa }
theorem named_con (lev:Int) (cli:ByteArray) (cln:Bool) (kee:Int) (hw:Bool) (wt:ByteArray) (wb:Sl) (wq:Int) (wr:Bool) (hu:Bool) (us:ByteArray) (hp:Bool) (pa:Sl) (w:World):Calls Tryz.prog 130 #[.agg (conC lev cli cln kee hw wt wb wq wr hu us hp pa)] w fun e w'=>e=.returned (.agg (conP lev cli cln kee hw wt wb wq wr hu us hp pa).cells)∧Below w.heap.size w w':=by
 unfold conC;go_enter Tryz.func130,Tryz.ntmps130;go_wp2_with (first | refine al_pk ?_ | (refine bu_pk (conP lev cli cln kee hw wt wb wq wr hu us hp pa) (by kernel_rfl) ?_) | (refine qak (q:=conP lev cli cln kee hw wt wb wq wr hu us hp pa) (old:=Pk.zero) (heap_alloc2_new _ _ _) rfl rfl ?_;intro w9 B9 b9) | (refine qak (q:=conP lev cli cln kee hw wt wb wq wr hu us hp pa) (old:=Pk.zero) (heap_alloc_new _ _) rfl rfl ?_;intro w9 B9 b9) | fail)
 refine qaw rfl rfl B9 rfl ⟨rfl,?_⟩;exact (((Below.refl _ _).alloc (Nat.le_refl _) _).alloc (by simp) _).trans (b9.mono (by first | omega | simp))
def ackP (cod:Int) (pre:Bool):Pk:={ Pk.zero with cod:=cod,pre:=pre }
theorem named_ack (cod:Int) (pre:Bool) (w:World):Calls Tryz.prog 138 #[.agg (#[.int .i64 cod,.bool pre])] w fun e w'=>e=.returned (.agg (ackP cod pre).cells)∧Below w.heap.size w w':=by
 go_enter Tryz.func138,Tryz.ntmps138;go_wp2_with (first | refine al_pk ?_ | (refine bu_pk (ackP cod pre) (by kernel_rfl) ?_) | (refine qak (q:=ackP cod pre) (old:=Pk.zero) (heap_alloc2_new _ _ _) rfl rfl ?_;intro w9 B9 b9) | (refine qak (q:=ackP cod pre) (old:=Pk.zero) (heap_alloc_new _ _) rfl rfl ?_;intro w9 B9 b9) | fail)
 refine qaw rfl rfl B9 rfl ⟨rfl,?_⟩;exact (((Below.refl _ _).alloc (Nat.le_refl _) _).alloc (by simp) _).trans (b9.mono (by first | omega | simp))
def pubP (dup:Bool) (qos:Int) (ret:Bool) (id:Int) (top:ByteArray) (b:Sl):Pk:={ Pk.zero with dup:=dup,qos:=qos,ret:=ret,id:=id,top:=top,bod:=b }
theorem named_pub (dup:Bool) (qos:Int) (ret:Bool) (id:Int) (top:ByteArray) (b:Sl) (w:World):Calls Tryz.prog 141 #[.agg (pubC dup qos ret id top b)] w fun e w'=>e=.returned (.agg (pubP dup qos ret id top b).cells)∧Below w.heap.size w w':=by
 unfold pubC;go_enter Tryz.func141,Tryz.ntmps141;go_wp2_with (first | refine al_pk ?_ | (refine bu_pk (pubP dup qos ret id top b) (by kernel_rfl) ?_) | (refine qak (q:=pubP dup qos ret id top b) (old:=Pk.zero) (heap_alloc2_new _ _ _) rfl rfl ?_;intro w9 B9 b9) | (refine qak (q:=pubP dup qos ret id top b) (old:=Pk.zero) (heap_alloc_new _ _) rfl rfl ?_;intro w9 B9 b9) | fail)
 refine qaw rfl rfl B9 rfl ⟨rfl,?_⟩;exact (((Below.refl _ _).alloc (Nat.le_refl _) _).alloc (by simp) _).trans (b9.mono (by first | omega | simp))
def idP (id:Int):Pk:={ Pk.zero with id:=id }
theorem qhj (id:Int) (w:World):Calls Tryz.prog 145 #[.agg (#[.int .i64 id])] w fun e w'=>e=.returned (.agg (idP id).cells)∧Below w.heap.size w w':=by
 go_enter Tryz.func145,Tryz.ntmps145;go_wp2_with (first | refine al_pk ?_ | (refine bu_pk (idP id) (by kernel_rfl) ?_) | (refine qak (q:=idP id) (old:=Pk.zero) (heap_alloc2_new _ _ _) rfl rfl ?_;intro w9 B9 b9) | (refine qak (q:=idP id) (old:=Pk.zero) (heap_alloc_new _ _) rfl rfl ?_;intro w9 B9 b9) | fail)
 refine qaw rfl rfl B9 rfl ⟨rfl,?_⟩;exact (((Below.refl _ _).alloc (Nat.le_refl _) _).alloc (by simp) _).trans (b9.mono (by first | omega | simp))
def subP (id:Int) (b:Sl):Pk:={ Pk.zero with id:=id,wan:=b }
theorem named_sub (id:Int) (b:Sl) (w:World):Calls Tryz.prog 148 #[.agg (#[.int .i64 id,.slice b.a b.n b.c])] w fun e w'=>e=.returned (.agg (subP id b).cells)∧Below w.heap.size w w':=by
 go_enter Tryz.func148,Tryz.ntmps148;go_wp2_with (first | refine al_pk ?_ | (refine bu_pk (subP id b) (by kernel_rfl) ?_) | (refine qak (q:=subP id b) (old:=Pk.zero) (heap_alloc2_new _ _ _) rfl rfl ?_;intro w9 B9 b9) | (refine qak (q:=subP id b) (old:=Pk.zero) (heap_alloc_new _ _) rfl rfl ?_;intro w9 B9 b9) | fail)
 refine qaw rfl rfl B9 rfl ⟨rfl,?_⟩;exact (((Below.refl _ _).alloc (Nat.le_refl _) _).alloc (by simp) _).trans (b9.mono (by first | omega | simp))
def sackP (id:Int) (b:Sl):Pk:={ Pk.zero with id:=id,cds:=b }
theorem named_sack (id:Int) (b:Sl) (w:World):Calls Tryz.prog 156 #[.agg (#[.int .i64 id,.slice b.a b.n b.c])] w fun e w'=>e=.returned (.agg (sackP id b).cells)∧Below w.heap.size w w':=by
 go_enter Tryz.func156,Tryz.ntmps156;go_wp2_with (first | refine al_pk ?_ | (refine bu_pk (sackP id b) (by kernel_rfl) ?_) | (refine qak (q:=sackP id b) (old:=Pk.zero) (heap_alloc2_new _ _ _) rfl rfl ?_;intro w9 B9 b9) | (refine qak (q:=sackP id b) (old:=Pk.zero) (heap_alloc_new _ _) rfl rfl ?_;intro w9 B9 b9) | fail)
 refine qaw rfl rfl B9 rfl ⟨rfl,?_⟩;exact (((Below.refl _ _).alloc (Nat.le_refl _) _).alloc (by simp) _).trans (b9.mono (by first | omega | simp))
def unsP (id:Int) (b:Sl):Pk:={ Pk.zero with id:=id,nam:=b }
theorem named_uns (id:Int) (b:Sl) (w:World):Calls Tryz.prog 162 #[.agg (#[.int .i64 id,.slice b.a b.n b.c])] w fun e w'=>e=.returned (.agg (unsP id b).cells)∧Below w.heap.size w w':=by
 go_enter Tryz.func162,Tryz.ntmps162;go_wp2_with (first | refine al_pk ?_ | (refine bu_pk (unsP id b) (by kernel_rfl) ?_) | (refine qak (q:=unsP id b) (old:=Pk.zero) (heap_alloc2_new _ _ _) rfl rfl ?_;intro w9 B9 b9) | (refine qak (q:=unsP id b) (old:=Pk.zero) (heap_alloc_new _ _) rfl rfl ?_;intro w9 B9 b9) | fail)
 refine qaw rfl rfl B9 rfl ⟨rfl,?_⟩;exact (((Below.refl _ _).alloc (Nat.le_refl _) _).alloc (by simp) _).trans (b9.mono (by first | omega | simp))
def noP  : Pk:=Pk.zero
theorem qnc  (w:World):Calls Tryz.prog 167 #[.agg (#[])] w fun e w'=>e=.returned (.agg (noP ).cells)∧Below w.heap.size w w':=by
 go_enter Tryz.func167,Tryz.ntmps167;go_wp2_with (first | refine al_pk ?_ | (refine bu_pk (noP ) (by kernel_rfl) ?_) | (refine qak (q:=noP ) (old:=Pk.zero) (heap_alloc2_new _ _ _) rfl rfl ?_;intro w9 B9 b9) | (refine qak (q:=noP ) (old:=Pk.zero) (heap_alloc_new _ _) rfl rfl ?_;intro w9 B9 b9) | fail)
 refine qaw rfl rfl B9 rfl ⟨rfl,?_⟩;exact (((Below.refl _ _).alloc (Nat.le_refl _) _).alloc (by simp) _).trans (b9.mono (by first | omega | simp))

theorem qho (lev:Int) (cli:ByteArray) (cln:Bool) (kee:Int) (hw:Bool) (wt:ByteArray) (wb:Sl) (wq:Int) (wr:Bool) (hu:Bool) (us:ByteArray) (hp:Bool) (pa:Sl) (w:World):Calls Tryz.prog 55 #[.iface 84 (.agg (conC lev cli cln kee hw wt wb wq wr hu us hp pa))] w fun e w'=>e=.returned (.agg ({ conP lev cli cln kee hw wt wb wq wr hu us hp pa with ty:=1 } : Pk).cells)∧Below w.heap.size w w':=by
 have A:Blk (w.alloc (.cells Pk.zero.cells 32)) w.heap.size Pk.zero:=heap_alloc_new _ _;go_enter Tryz.func55,Tryz.ntmps55;go_wp2_with (first | refine al_pk ?_ | fail)
 refine (named_con lev cli cln kee hw wt wb wq wr hu us hp pa _).mono ?_;rintro e y ⟨rfl,b1⟩;replace A:=A.next b1;have b2:=bel (qae _ _) b1;have D:Blk (y.alloc (.cells ((conP lev cli cln kee hw wt wb wq wr hu us hp pa).cells.setIfInBounds 0 (.int .i64 1)) 32)) y.heap.size ({ conP lev cli cln kee hw wt wb wq wr hu us hp pa with ty:=1 } : Pk):=heap_alloc_new _ _;have A2:Blk (y.alloc (.cells ((conP lev cli cln kee hw wt wb wq wr hu us hp pa).cells.setIfInBounds 0 (.int .i64 1)) 32)) w.heap.size Pk.zero:=A.next (qae _ _);replace b2:=bel b2 (qae y (.cells ((conP lev cli cln kee hw wt wb wq wr hu us hp pa).cells.setIfInBounds 0 (.int .i64 1)) 32));go_wp2_with (first | refine qbe (p:=(conP lev cli cln kee hw wt wb wq wr hu us hp pa)) rfl rfl ?_ | fail)
 refine (qfc _ _).mono ?_;rintro e z ⟨rfl,hz⟩;subst hz;go_wp2_with (first | refine qap D rfl _ rfl rfl ?_ | (refine qak (q:=({ conP lev cli cln kee hw wt wb wq wr hu us hp pa with ty:=1 } : Pk)) (old:=Pk.zero) A2 rfl rfl ?_;intro w9 B9 b9) | fail)
 exact qaw rfl rfl B9 rfl ⟨rfl,b2.trans b9⟩
theorem qhn (cod:Int) (pre:Bool) (w:World):Calls Tryz.prog 55 #[.iface 87 (.agg #[.int .i64 cod,.bool pre])] w fun e w'=>e=.returned (.agg ({ ackP cod pre with ty:=2 } : Pk).cells)∧Below w.heap.size w w':=by
 have A:Blk (w.alloc (.cells Pk.zero.cells 32)) w.heap.size Pk.zero:=heap_alloc_new _ _;go_enter Tryz.func55,Tryz.ntmps55;go_wp2_with (first | refine al_pk ?_ | fail)
 refine (named_ack cod pre _).mono ?_;rintro e y ⟨rfl,b1⟩;replace A:=A.next b1;have b2:=bel (qae _ _) b1;have D:Blk (y.alloc (.cells ((ackP cod pre).cells.setIfInBounds 0 (.int .i64 2)) 32)) y.heap.size ({ ackP cod pre with ty:=2 } : Pk):=heap_alloc_new _ _;have A2:Blk (y.alloc (.cells ((ackP cod pre).cells.setIfInBounds 0 (.int .i64 2)) 32)) w.heap.size Pk.zero:=A.next (qae _ _);replace b2:=bel b2 (qae y (.cells ((ackP cod pre).cells.setIfInBounds 0 (.int .i64 2)) 32));go_wp2_with (first | refine qbe (p:=(ackP cod pre)) rfl rfl ?_ | fail)
 refine (qfb _ _).mono ?_;rintro e z ⟨rfl,hz⟩;subst hz;go_wp2_with (first | refine qap D rfl _ rfl rfl ?_ | (refine qak (q:=({ ackP cod pre with ty:=2 } : Pk)) (old:=Pk.zero) A2 rfl rfl ?_;intro w9 B9 b9) | fail)
 exact qaw rfl rfl B9 rfl ⟨rfl,b2.trans b9⟩
theorem qhr (dup:Bool) (qos:Int) (ret:Bool) (id:Int) (top:ByteArray) (b:Sl) (w:World):Calls Tryz.prog 55 #[.iface 89 (.agg (pubC dup qos ret id top b))] w fun e w'=>e=.returned (.agg ({ pubP dup qos ret id top b with ty:=3 } : Pk).cells)∧Below w.heap.size w w':=by
 have A:Blk (w.alloc (.cells Pk.zero.cells 32)) w.heap.size Pk.zero:=heap_alloc_new _ _;go_enter Tryz.func55,Tryz.ntmps55;go_wp2_with (first | refine al_pk ?_ | fail)
 refine (named_pub dup qos ret id top b _).mono ?_;rintro e y ⟨rfl,b1⟩;replace A:=A.next b1;have b2:=bel (qae _ _) b1;have D:Blk (y.alloc (.cells ((pubP dup qos ret id top b).cells.setIfInBounds 0 (.int .i64 3)) 32)) y.heap.size ({ pubP dup qos ret id top b with ty:=3 } : Pk):=heap_alloc_new _ _;have A2:Blk (y.alloc (.cells ((pubP dup qos ret id top b).cells.setIfInBounds 0 (.int .i64 3)) 32)) w.heap.size Pk.zero:=A.next (qae _ _);replace b2:=bel b2 (qae y (.cells ((pubP dup qos ret id top b).cells.setIfInBounds 0 (.int .i64 3)) 32));go_wp2_with (first | refine qbe (p:=(pubP dup qos ret id top b)) rfl rfl ?_ | fail)
 refine (qff _ _).mono ?_;rintro e z ⟨rfl,hz⟩;subst hz;go_wp2_with (first | refine qap D rfl _ rfl rfl ?_ | (refine qak (q:=({ pubP dup qos ret id top b with ty:=3 } : Pk)) (old:=Pk.zero) A2 rfl rfl ?_;intro w9 B9 b9) | fail)
 exact qaw rfl rfl B9 rfl ⟨rfl,b2.trans b9⟩
theorem qik (id:Int) (w:World):Calls Tryz.prog 55 #[.iface 94 (.agg #[.int .i64 id])] w fun e w'=>e=.returned (.agg ({ idP id with ty:=4 } : Pk).cells)∧Below w.heap.size w w':=by
 have A:Blk (w.alloc (.cells Pk.zero.cells 32)) w.heap.size Pk.zero:=heap_alloc_new _ _;go_enter Tryz.func55,Tryz.ntmps55;go_wp2_with (first | refine al_pk ?_ | fail)
 refine (qhj id _).mono ?_;rintro e y ⟨rfl,b1⟩;replace A:=A.next b1;have b2:=bel (qae _ _) b1;have D:Blk (y.alloc (.cells ((idP id).cells.setIfInBounds 0 (.int .i64 4)) 32)) y.heap.size ({ idP id with ty:=4 } : Pk):=heap_alloc_new _ _;have A2:Blk (y.alloc (.cells ((idP id).cells.setIfInBounds 0 (.int .i64 4)) 32)) w.heap.size Pk.zero:=A.next (qae _ _);replace b2:=bel b2 (qae y (.cells ((idP id).cells.setIfInBounds 0 (.int .i64 4)) 32));go_wp2_with (first | refine qbe (p:=(idP id)) rfl rfl ?_ | fail)
 refine (qfz _ _).mono ?_;rintro e z ⟨rfl,hz⟩;subst hz;go_wp2_with (first | refine qap D rfl _ rfl rfl ?_ | (refine qak (q:=({ idP id with ty:=4 } : Pk)) (old:=Pk.zero) A2 rfl rfl ?_;intro w9 B9 b9) | fail)
 exact qaw rfl rfl B9 rfl ⟨rfl,b2.trans b9⟩
theorem qil (id:Int) (w:World):Calls Tryz.prog 55 #[.iface 95 (.agg #[.int .i64 id])] w fun e w'=>e=.returned (.agg ({ idP id with ty:=5 } : Pk).cells)∧Below w.heap.size w w':=by
 have A:Blk (w.alloc (.cells Pk.zero.cells 32)) w.heap.size Pk.zero:=heap_alloc_new _ _;go_enter Tryz.func55,Tryz.ntmps55;go_wp2_with (first | refine al_pk ?_ | fail)
 refine (qhj id _).mono ?_;rintro e y ⟨rfl,b1⟩;replace A:=A.next b1;have b2:=bel (qae _ _) b1;have D:Blk (y.alloc (.cells ((idP id).cells.setIfInBounds 0 (.int .i64 5)) 32)) y.heap.size ({ idP id with ty:=5 } : Pk):=heap_alloc_new _ _;have A2:Blk (y.alloc (.cells ((idP id).cells.setIfInBounds 0 (.int .i64 5)) 32)) w.heap.size Pk.zero:=A.next (qae _ _);replace b2:=bel b2 (qae y (.cells ((idP id).cells.setIfInBounds 0 (.int .i64 5)) 32));go_wp2_with (first | refine qbe (p:=(idP id)) rfl rfl ?_ | fail)
 refine (qga _ _).mono ?_;rintro e z ⟨rfl,hz⟩;subst hz;go_wp2_with (first | refine qap D rfl _ rfl rfl ?_ | (refine qak (q:=({ idP id with ty:=5 } : Pk)) (old:=Pk.zero) A2 rfl rfl ?_;intro w9 B9 b9) | fail)
 exact qaw rfl rfl B9 rfl ⟨rfl,b2.trans b9⟩
theorem qim (id:Int) (w:World):Calls Tryz.prog 55 #[.iface 96 (.agg #[.int .i64 id])] w fun e w'=>e=.returned (.agg ({ idP id with ty:=6 } : Pk).cells)∧Below w.heap.size w w':=by
 have A:Blk (w.alloc (.cells Pk.zero.cells 32)) w.heap.size Pk.zero:=heap_alloc_new _ _;go_enter Tryz.func55,Tryz.ntmps55;go_wp2_with (first | refine al_pk ?_ | fail)
 refine (qhj id _).mono ?_;rintro e y ⟨rfl,b1⟩;replace A:=A.next b1;have b2:=bel (qae _ _) b1;have D:Blk (y.alloc (.cells ((idP id).cells.setIfInBounds 0 (.int .i64 6)) 32)) y.heap.size ({ idP id with ty:=6 } : Pk):=heap_alloc_new _ _;have A2:Blk (y.alloc (.cells ((idP id).cells.setIfInBounds 0 (.int .i64 6)) 32)) w.heap.size Pk.zero:=A.next (qae _ _);replace b2:=bel b2 (qae y (.cells ((idP id).cells.setIfInBounds 0 (.int .i64 6)) 32));go_wp2_with (first | refine qbe (p:=(idP id)) rfl rfl ?_ | fail)
 refine (qgb _ _).mono ?_;rintro e z ⟨rfl,hz⟩;subst hz;go_wp2_with (first | refine qap D rfl _ rfl rfl ?_ | (refine qak (q:=({ idP id with ty:=6 } : Pk)) (old:=Pk.zero) A2 rfl rfl ?_;intro w9 B9 b9) | fail)
 exact qaw rfl rfl B9 rfl ⟨rfl,b2.trans b9⟩
theorem qhq (id:Int) (w:World):Calls Tryz.prog 55 #[.iface 97 (.agg #[.int .i64 id])] w fun e w'=>e=.returned (.agg ({ idP id with ty:=7 } : Pk).cells)∧Below w.heap.size w w':=by
 have A:Blk (w.alloc (.cells Pk.zero.cells 32)) w.heap.size Pk.zero:=heap_alloc_new _ _;go_enter Tryz.func55,Tryz.ntmps55;go_wp2_with (first | refine al_pk ?_ | fail)
 refine (qhj id _).mono ?_;rintro e y ⟨rfl,b1⟩;replace A:=A.next b1;have b2:=bel (qae _ _) b1;have D:Blk (y.alloc (.cells ((idP id).cells.setIfInBounds 0 (.int .i64 7)) 32)) y.heap.size ({ idP id with ty:=7 } : Pk):=heap_alloc_new _ _;have A2:Blk (y.alloc (.cells ((idP id).cells.setIfInBounds 0 (.int .i64 7)) 32)) w.heap.size Pk.zero:=A.next (qae _ _);replace b2:=bel b2 (qae y (.cells ((idP id).cells.setIfInBounds 0 (.int .i64 7)) 32));go_wp2_with (first | refine qbe (p:=(idP id)) rfl rfl ?_ | fail)
 refine (qfe _ _).mono ?_;rintro e z ⟨rfl,hz⟩;subst hz;go_wp2_with (first | refine qap D rfl _ rfl rfl ?_ | (refine qak (q:=({ idP id with ty:=7 } : Pk)) (old:=Pk.zero) A2 rfl rfl ?_;intro w9 B9 b9) | fail)
 exact qaw rfl rfl B9 rfl ⟨rfl,b2.trans b9⟩
theorem qgk (id:Int) (b:Sl) (w:World):Calls Tryz.prog 55 #[.iface 99 (.agg #[.int .i64 id,.slice b.a b.n b.c])] w fun e w'=>e=.returned (.agg ({ subP id b with ty:=8 } : Pk).cells)∧Below w.heap.size w w':=by
 have A:Blk (w.alloc (.cells Pk.zero.cells 32)) w.heap.size Pk.zero:=heap_alloc_new _ _;go_enter Tryz.func55,Tryz.ntmps55;go_wp2_with (first | refine al_pk ?_ | fail)
 refine (named_sub id b _).mono ?_;rintro e y ⟨rfl,b1⟩;replace A:=A.next b1;have b2:=bel (qae _ _) b1;have D:Blk (y.alloc (.cells ((subP id b).cells.setIfInBounds 0 (.int .i64 8)) 32)) y.heap.size ({ subP id b with ty:=8 } : Pk):=heap_alloc_new _ _;have A2:Blk (y.alloc (.cells ((subP id b).cells.setIfInBounds 0 (.int .i64 8)) 32)) w.heap.size Pk.zero:=A.next (qae _ _);replace b2:=bel b2 (qae y (.cells ((subP id b).cells.setIfInBounds 0 (.int .i64 8)) 32));go_wp2_with (first | refine qbe (p:=(subP id b)) rfl rfl ?_ | fail)
 refine (qdv _ _).mono ?_;rintro e z ⟨rfl,hz⟩;subst hz;go_wp2_with (first | refine qap D rfl _ rfl rfl ?_ | (refine qak (q:=({ subP id b with ty:=8 } : Pk)) (old:=Pk.zero) A2 rfl rfl ?_;intro w9 B9 b9) | fail)
 exact qaw rfl rfl B9 rfl ⟨rfl,b2.trans b9⟩
theorem qin (id:Int) (b:Sl) (w:World):Calls Tryz.prog 55 #[.iface 101 (.agg #[.int .i64 id,.slice b.a b.n b.c])] w fun e w'=>e=.returned (.agg ({ sackP id b with ty:=9 } : Pk).cells)∧Below w.heap.size w w':=by
 have A:Blk (w.alloc (.cells Pk.zero.cells 32)) w.heap.size Pk.zero:=heap_alloc_new _ _;go_enter Tryz.func55,Tryz.ntmps55;go_wp2_with (first | refine al_pk ?_ | fail)
 refine (named_sack id b _).mono ?_;rintro e y ⟨rfl,b1⟩;replace A:=A.next b1;have b2:=bel (qae _ _) b1;have D:Blk (y.alloc (.cells ((sackP id b).cells.setIfInBounds 0 (.int .i64 9)) 32)) y.heap.size ({ sackP id b with ty:=9 } : Pk):=heap_alloc_new _ _;have A2:Blk (y.alloc (.cells ((sackP id b).cells.setIfInBounds 0 (.int .i64 9)) 32)) w.heap.size Pk.zero:=A.next (qae _ _);replace b2:=bel b2 (qae y (.cells ((sackP id b).cells.setIfInBounds 0 (.int .i64 9)) 32));go_wp2_with (first | refine qbe (p:=(sackP id b)) rfl rfl ?_ | fail)
 refine (qgc _ _).mono ?_;rintro e z ⟨rfl,hz⟩;subst hz;go_wp2_with (first | refine qap D rfl _ rfl rfl ?_ | (refine qak (q:=({ sackP id b with ty:=9 } : Pk)) (old:=Pk.zero) A2 rfl rfl ?_;intro w9 B9 b9) | fail)
 exact qaw rfl rfl B9 rfl ⟨rfl,b2.trans b9⟩
theorem qfg (id:Int) (b:Sl) (w:World):Calls Tryz.prog 55 #[.iface 103 (.agg #[.int .i64 id,.slice b.a b.n b.c])] w fun e w'=>e=.returned (.agg ({ unsP id b with ty:=10 } : Pk).cells)∧Below w.heap.size w w':=by
 have A:Blk (w.alloc (.cells Pk.zero.cells 32)) w.heap.size Pk.zero:=heap_alloc_new _ _;go_enter Tryz.func55,Tryz.ntmps55;go_wp2_with (first | refine al_pk ?_ | fail)
 refine (named_uns id b _).mono ?_;rintro e y ⟨rfl,b1⟩;replace A:=A.next b1;have b2:=bel (qae _ _) b1;have D:Blk (y.alloc (.cells ((unsP id b).cells.setIfInBounds 0 (.int .i64 10)) 32)) y.heap.size ({ unsP id b with ty:=10 } : Pk):=heap_alloc_new _ _;have A2:Blk (y.alloc (.cells ((unsP id b).cells.setIfInBounds 0 (.int .i64 10)) 32)) w.heap.size Pk.zero:=A.next (qae _ _);replace b2:=bel b2 (qae y (.cells ((unsP id b).cells.setIfInBounds 0 (.int .i64 10)) 32));go_wp2_with (first | refine qbe (p:=(unsP id b)) rfl rfl ?_ | fail)
 refine (qdj _ _).mono ?_;rintro e z ⟨rfl,hz⟩;subst hz;go_wp2_with (first | refine qap D rfl _ rfl rfl ?_ | (refine qak (q:=({ unsP id b with ty:=10 } : Pk)) (old:=Pk.zero) A2 rfl rfl ?_;intro w9 B9 b9) | fail)
 exact qaw rfl rfl B9 rfl ⟨rfl,b2.trans b9⟩
theorem qgx (id:Int) (w:World):Calls Tryz.prog 55 #[.iface 104 (.agg #[.int .i64 id])] w fun e w'=>e=.returned (.agg ({ idP id with ty:=11 } : Pk).cells)∧Below w.heap.size w w':=by
 have A:Blk (w.alloc (.cells Pk.zero.cells 32)) w.heap.size Pk.zero:=heap_alloc_new _ _;go_enter Tryz.func55,Tryz.ntmps55;go_wp2_with (first | refine al_pk ?_ | fail)
 refine (qhj id _).mono ?_;rintro e y ⟨rfl,b1⟩;replace A:=A.next b1;have b2:=bel (qae _ _) b1;have D:Blk (y.alloc (.cells ((idP id).cells.setIfInBounds 0 (.int .i64 11)) 32)) y.heap.size ({ idP id with ty:=11 } : Pk):=heap_alloc_new _ _;have A2:Blk (y.alloc (.cells ((idP id).cells.setIfInBounds 0 (.int .i64 11)) 32)) w.heap.size Pk.zero:=A.next (qae _ _);replace b2:=bel b2 (qae y (.cells ((idP id).cells.setIfInBounds 0 (.int .i64 11)) 32));go_wp2_with (first | refine qbe (p:=(idP id)) rfl rfl ?_ | fail)
 refine (qem _ _).mono ?_;rintro e z ⟨rfl,hz⟩;subst hz;go_wp2_with (first | refine qap D rfl _ rfl rfl ?_ | (refine qak (q:=({ idP id with ty:=11 } : Pk)) (old:=Pk.zero) A2 rfl rfl ?_;intro w9 B9 b9) | fail)
 exact qaw rfl rfl B9 rfl ⟨rfl,b2.trans b9⟩
theorem qhp  (w:World):Calls Tryz.prog 55 #[.iface 108 (.agg #[])] w fun e w'=>e=.returned (.agg ({ noP  with ty:=12 } : Pk).cells)∧Below w.heap.size w w':=by
 have A:Blk (w.alloc (.cells Pk.zero.cells 32)) w.heap.size Pk.zero:=heap_alloc_new _ _;go_enter Tryz.func55,Tryz.ntmps55;go_wp2_with (first | refine al_pk ?_ | fail)
 refine (qnc  _).mono ?_;rintro e y ⟨rfl,b1⟩;replace A:=A.next b1;have b2:=bel (qae _ _) b1;have D:Blk (y.alloc (.cells ((noP).cells.setIfInBounds 0 (.int .i64 12)) 32)) y.heap.size ({ noP  with ty:=12 } : Pk):=heap_alloc_new _ _;have A2:Blk (y.alloc (.cells ((noP).cells.setIfInBounds 0 (.int .i64 12)) 32)) w.heap.size Pk.zero:=A.next (qae _ _);replace b2:=bel b2 (qae y (.cells ((noP).cells.setIfInBounds 0 (.int .i64 12)) 32));go_wp2_with (first | refine qbe (p:=(noP)) rfl rfl ?_ | fail)
 refine (qfd _ _).mono ?_;rintro e z ⟨rfl,hz⟩;subst hz;go_wp2_with (first | refine qap D rfl _ rfl rfl ?_ | (refine qak (q:=({ noP  with ty:=12 } : Pk)) (old:=Pk.zero) A2 rfl rfl ?_;intro w9 B9 b9) | fail)
 exact qaw rfl rfl B9 rfl ⟨rfl,b2.trans b9⟩
theorem qgw  (w:World):Calls Tryz.prog 55 #[.iface 109 (.agg #[])] w fun e w'=>e=.returned (.agg ({ noP  with ty:=13 } : Pk).cells)∧Below w.heap.size w w':=by
 have A:Blk (w.alloc (.cells Pk.zero.cells 32)) w.heap.size Pk.zero:=heap_alloc_new _ _;go_enter Tryz.func55,Tryz.ntmps55;go_wp2_with (first | refine al_pk ?_ | fail)
 refine (qnc  _).mono ?_;rintro e y ⟨rfl,b1⟩;replace A:=A.next b1;have b2:=bel (qae _ _) b1;have D:Blk (y.alloc (.cells ((noP).cells.setIfInBounds 0 (.int .i64 13)) 32)) y.heap.size ({ noP  with ty:=13 } : Pk):=heap_alloc_new _ _;have A2:Blk (y.alloc (.cells ((noP).cells.setIfInBounds 0 (.int .i64 13)) 32)) w.heap.size Pk.zero:=A.next (qae _ _);replace b2:=bel b2 (qae y (.cells ((noP).cells.setIfInBounds 0 (.int .i64 13)) 32));go_wp2_with (first | refine qbe (p:=(noP)) rfl rfl ?_ | fail)
 refine (qel _ _).mono ?_;rintro e z ⟨rfl,hz⟩;subst hz;go_wp2_with (first | refine qap D rfl _ rfl rfl ?_ | (refine qak (q:=({ noP  with ty:=13 } : Pk)) (old:=Pk.zero) A2 rfl rfl ?_;intro w9 B9 b9) | fail)
 exact qaw rfl rfl B9 rfl ⟨rfl,b2.trans b9⟩
theorem qfu  (w:World):Calls Tryz.prog 55 #[.iface 110 (.agg #[])] w fun e w'=>e=.returned (.agg ({ noP  with ty:=14 } : Pk).cells)∧Below w.heap.size w w':=by
 have A:Blk (w.alloc (.cells Pk.zero.cells 32)) w.heap.size Pk.zero:=heap_alloc_new _ _;go_enter Tryz.func55,Tryz.ntmps55;go_wp2_with (first | refine al_pk ?_ | fail)
 refine (qnc  _).mono ?_;rintro e y ⟨rfl,b1⟩;replace A:=A.next b1;have b2:=bel (qae _ _) b1;have D:Blk (y.alloc (.cells ((noP).cells.setIfInBounds 0 (.int .i64 14)) 32)) y.heap.size ({ noP  with ty:=14 } : Pk):=heap_alloc_new _ _;have A2:Blk (y.alloc (.cells ((noP).cells.setIfInBounds 0 (.int .i64 14)) 32)) w.heap.size Pk.zero:=A.next (qae _ _);replace b2:=bel b2 (qae y (.cells ((noP).cells.setIfInBounds 0 (.int .i64 14)) 32));go_wp2_with (first | refine qbe (p:=(noP)) rfl rfl ?_ | fail)
 refine (qds _ _).mono ?_;rintro e z ⟨rfl,hz⟩;subst hz;go_wp2_with (first | refine qap D rfl _ rfl rfl ?_ | (refine qak (q:=({ noP  with ty:=14 } : Pk)) (old:=Pk.zero) A2 rfl rfl ?_;intro w9 B9 b9) | fail)
 exact qaw rfl rfl B9 rfl ⟨rfl,b2.trans b9⟩
