/- Lemmas. -/
import Derived.Great.BuildSlice
import Derived.OneCell
import Derived.Deep.RegionHeld3
import Derived.Test.YtobgmpaalnpdcaaGreatDoorV08
set_option linter.unusedVariables false
set_option linter.unusedSimpArgs false
set_option maxRecDepth 100000
set_option maxHeartbeats 20000000
namespace Go.Proofs.YtobgmpaalnpdcaaGreatDoor
open Go.RowKit

section
variable {ops : Array Oper} {rest : List Oper} {a : Act} {w : World} {Q : Exit → Act → World → Prop}
theorem al_pk {d:Nat} {t:TypeId} {p:String} {e:Array Edge} (h:wpList Tryz.prog ops Q rest (a.put (some d) (.pointer (some ⟨w.heap.size,0,none⟩))) (w.alloc (.cells Pk.zero.cells 28))) :
  wpList Tryz.prog ops Q (⟨some d,.alloc 28,t,p,e,none⟩ :: rest) a w:=by
 refine qcf (w':=w.alloc (.cells Pk.zero.cells 28)) (v:=.pointer (some ⟨w.heap.size,0,none⟩)) (wanted_none rfl _) ?_ h;simp only[execOp,Sem.run_bind,qne,Result.andThen_ok,Sem.run_pure]
theorem bu_pk (q:Pk) {d:Nat} {t:TypeId} {p:String} {e:Array Edge} {parts:Array (Nat×Operand)} (hf:Tryz.prog.built 28 (parts.map fun (i,x)=>(i,a.eval x)).toList=some q.cells)
  (h:wpList Tryz.prog ops Q rest (a.put (some d) (.agg q.cells)) w):wpList Tryz.prog ops Q (⟨some d,.build 28 parts,t,p,e,none⟩ :: rest) a w :=
 wpList_buildTo rfl 28 parts rfl (some d) rfl q.cells hf h
theorem qak {q old:Pk} {g:Nat} (hB:Blk w g old) {t:TypeId} {p:String} {e:Array Edge} {x y:Operand} (hx:a.eval x=.pointer (some ⟨g,0,none⟩)) (hy:a.eval y=.agg q.cells)
  (h:∀w',Blk w' g q→Below g w w'→wpList Tryz.prog ops Q rest a w'):wpList Tryz.prog ops Q (⟨none,.store 28 x y,t,p,e,none⟩ :: rest) a w:=by
 refine wpList_store_rowTo rfl 28 x y rfl rfl g q.cells hx hy 28 old.cells hB (infoP.trans (by rw[Pk.csize])) rfl q.ones ?_;refine h _ (setRow_heap w g old.cells q.cells 28 (0,0) hB) ⟨rfl,rfl,rfl,by simp,fun k hk=>setRow_other w g k _ (by omega)⟩
end
def conP (lev:Int) (cli:ByteArray) (cln:Bool) (kee:Int) (hw:Bool) (wt:ByteArray) (wb:Sl) (wq:Int) (wr:Bool) (hu:Bool) (us:ByteArray) (hp:Bool) (pa:Sl):Pk:={ Pk.zero with lev:=lev,cli:=cli,cln:=cln,kee:=kee,hw:=hw,wt:=wt,wb:=wb,wq:=wq,wr:=wr,hu:=hu,us:=us,hp:=hp,pa:=pa }
theorem named_con (lev:Int) (cli:ByteArray) (cln:Bool) (kee:Int) (hw:Bool) (wt:ByteArray) (wb:Sl) (wq:Int) (wr:Bool) (hu:Bool) (us:ByteArray) (hp:Bool) (pa:Sl) (w:World):Calls Tryz.prog 227 #[.agg (conC lev cli cln kee hw wt wb wq wr hu us hp pa)] w fun e w'=>e=.returned (.agg (conP lev cli cln kee hw wt wb wq wr hu us hp pa).cells)∧Below w.heap.size w w':=by
 unfold conC;go_enter Tryz.func227,Tryz.ntmps227;go_wp2_with (first | refine al_pk ?_ | (refine bu_pk (conP lev cli cln kee hw wt wb wq wr hu us hp pa) (by kernel_rfl) ?_) | (refine qak (q:=conP lev cli cln kee hw wt wb wq wr hu us hp pa) (old:=Pk.zero) (heap_alloc2_new _ _ _) rfl rfl ?_;intro w9 B9 b9) | (refine qak (q:=conP lev cli cln kee hw wt wb wq wr hu us hp pa) (old:=Pk.zero) (heap_alloc_new _ _) rfl rfl ?_;intro w9 B9 b9) | fail)
 refine qaf rfl rfl B9 rfl ⟨rfl,?_⟩;exact (((Below.refl _ _).alloc (Nat.le_refl _) _).alloc (by simp) _).trans (b9.mono (by first | omega | simp))
def ackP (cod:Int) (pre:Bool):Pk:={ Pk.zero with cod:=cod,pre:=pre }
theorem named_ack (cod:Int) (pre:Bool) (w:World):Calls Tryz.prog 235 #[.agg (#[.int .i64 cod,.bool pre])] w fun e w'=>e=.returned (.agg (ackP cod pre).cells)∧Below w.heap.size w w':=by
 go_enter Tryz.func235,Tryz.ntmps235;go_wp2_with (first | refine al_pk ?_ | (refine bu_pk (ackP cod pre) (by kernel_rfl) ?_) | (refine qak (q:=ackP cod pre) (old:=Pk.zero) (heap_alloc2_new _ _ _) rfl rfl ?_;intro w9 B9 b9) | (refine qak (q:=ackP cod pre) (old:=Pk.zero) (heap_alloc_new _ _) rfl rfl ?_;intro w9 B9 b9) | fail)
 refine qaf rfl rfl B9 rfl ⟨rfl,?_⟩;exact (((Below.refl _ _).alloc (Nat.le_refl _) _).alloc (by simp) _).trans (b9.mono (by first | omega | simp))
def pubP (dup:Bool) (qos:Int) (ret:Bool) (id:Int) (top:ByteArray) (b:Sl):Pk:={ Pk.zero with dup:=dup,qos:=qos,ret:=ret,id:=id,top:=top,bod:=b }
theorem named_pub (dup:Bool) (qos:Int) (ret:Bool) (id:Int) (top:ByteArray) (b:Sl) (w:World):Calls Tryz.prog 238 #[.agg (pubC dup qos ret id top b)] w fun e w'=>e=.returned (.agg (pubP dup qos ret id top b).cells)∧Below w.heap.size w w':=by
 unfold pubC;go_enter Tryz.func238,Tryz.ntmps238;go_wp2_with (first | refine al_pk ?_ | (refine bu_pk (pubP dup qos ret id top b) (by kernel_rfl) ?_) | (refine qak (q:=pubP dup qos ret id top b) (old:=Pk.zero) (heap_alloc2_new _ _ _) rfl rfl ?_;intro w9 B9 b9) | (refine qak (q:=pubP dup qos ret id top b) (old:=Pk.zero) (heap_alloc_new _ _) rfl rfl ?_;intro w9 B9 b9) | fail)
 refine qaf rfl rfl B9 rfl ⟨rfl,?_⟩;exact (((Below.refl _ _).alloc (Nat.le_refl _) _).alloc (by simp) _).trans (b9.mono (by first | omega | simp))
def idP (id:Int):Pk:={ Pk.zero with id:=id }
theorem qkj (id:Int) (w:World):Calls Tryz.prog 242 #[.agg (#[.int .i64 id])] w fun e w'=>e=.returned (.agg (idP id).cells)∧Below w.heap.size w w':=by
 go_enter Tryz.func242,Tryz.ntmps242;go_wp2_with (first | refine al_pk ?_ | (refine bu_pk (idP id) (by kernel_rfl) ?_) | (refine qak (q:=idP id) (old:=Pk.zero) (heap_alloc2_new _ _ _) rfl rfl ?_;intro w9 B9 b9) | (refine qak (q:=idP id) (old:=Pk.zero) (heap_alloc_new _ _) rfl rfl ?_;intro w9 B9 b9) | fail)
 refine qaf rfl rfl B9 rfl ⟨rfl,?_⟩;exact (((Below.refl _ _).alloc (Nat.le_refl _) _).alloc (by simp) _).trans (b9.mono (by first | omega | simp))
def subP (id:Int) (b:Sl):Pk:={ Pk.zero with id:=id,wan:=b }
theorem named_sub (id:Int) (b:Sl) (w:World):Calls Tryz.prog 245 #[.agg (#[.int .i64 id,.slice b.a b.n b.c])] w fun e w'=>e=.returned (.agg (subP id b).cells)∧Below w.heap.size w w':=by
 go_enter Tryz.func245,Tryz.ntmps245;go_wp2_with (first | refine al_pk ?_ | (refine bu_pk (subP id b) (by kernel_rfl) ?_) | (refine qak (q:=subP id b) (old:=Pk.zero) (heap_alloc2_new _ _ _) rfl rfl ?_;intro w9 B9 b9) | (refine qak (q:=subP id b) (old:=Pk.zero) (heap_alloc_new _ _) rfl rfl ?_;intro w9 B9 b9) | fail)
 refine qaf rfl rfl B9 rfl ⟨rfl,?_⟩;exact (((Below.refl _ _).alloc (Nat.le_refl _) _).alloc (by simp) _).trans (b9.mono (by first | omega | simp))
def sackP (id:Int) (b:Sl):Pk:={ Pk.zero with id:=id,cds:=b }
theorem named_sack (id:Int) (b:Sl) (w:World):Calls Tryz.prog 253 #[.agg (#[.int .i64 id,.slice b.a b.n b.c])] w fun e w'=>e=.returned (.agg (sackP id b).cells)∧Below w.heap.size w w':=by
 go_enter Tryz.func253,Tryz.ntmps253;go_wp2_with (first | refine al_pk ?_ | (refine bu_pk (sackP id b) (by kernel_rfl) ?_) | (refine qak (q:=sackP id b) (old:=Pk.zero) (heap_alloc2_new _ _ _) rfl rfl ?_;intro w9 B9 b9) | (refine qak (q:=sackP id b) (old:=Pk.zero) (heap_alloc_new _ _) rfl rfl ?_;intro w9 B9 b9) | fail)
 refine qaf rfl rfl B9 rfl ⟨rfl,?_⟩;exact (((Below.refl _ _).alloc (Nat.le_refl _) _).alloc (by simp) _).trans (b9.mono (by first | omega | simp))
def unsP (id:Int) (b:Sl):Pk:={ Pk.zero with id:=id,nam:=b }
theorem named_uns (id:Int) (b:Sl) (w:World):Calls Tryz.prog 259 #[.agg (#[.int .i64 id,.slice b.a b.n b.c])] w fun e w'=>e=.returned (.agg (unsP id b).cells)∧Below w.heap.size w w':=by
 go_enter Tryz.func259,Tryz.ntmps259;go_wp2_with (first | refine al_pk ?_ | (refine bu_pk (unsP id b) (by kernel_rfl) ?_) | (refine qak (q:=unsP id b) (old:=Pk.zero) (heap_alloc2_new _ _ _) rfl rfl ?_;intro w9 B9 b9) | (refine qak (q:=unsP id b) (old:=Pk.zero) (heap_alloc_new _ _) rfl rfl ?_;intro w9 B9 b9) | fail)
 refine qaf rfl rfl B9 rfl ⟨rfl,?_⟩;exact (((Below.refl _ _).alloc (Nat.le_refl _) _).alloc (by simp) _).trans (b9.mono (by first | omega | simp))
def noP  : Pk:=Pk.zero
theorem qqx  (w:World):Calls Tryz.prog 264 #[.agg (#[])] w fun e w'=>e=.returned (.agg (noP ).cells)∧Below w.heap.size w w':=by
 go_enter Tryz.func264,Tryz.ntmps264;go_wp2_with (first | refine al_pk ?_ | (refine bu_pk (noP ) (by kernel_rfl) ?_) | (refine qak (q:=noP ) (old:=Pk.zero) (heap_alloc2_new _ _ _) rfl rfl ?_;intro w9 B9 b9) | (refine qak (q:=noP ) (old:=Pk.zero) (heap_alloc_new _ _) rfl rfl ?_;intro w9 B9 b9) | fail)
 refine qaf rfl rfl B9 rfl ⟨rfl,?_⟩;exact (((Below.refl _ _).alloc (Nat.le_refl _) _).alloc (by simp) _).trans (b9.mono (by first | omega | simp))

def Cur (w:World) (g:Nat) (ao:Option Addr) (n cap:Nat) (l:List UInt8):Prop :=
 ∃i h:Int,w.heap[g]? = some (.cells #[.slice ao n cap,.int .i64 i,.int .i64 h] 117 (0,0))∧0≤i∧i≤n∧RdIn w ao n cap l∧(0<n→∀a,ao=some a→a.block<g)

theorem qcl {w:World} {g:Nat} {cs:Array Value} {t:TypeId} {fz:Nat×Nat} (h:w.heap[g]? = some (.cells cs t fz)) (j:Nat):w.cell? ⟨g,j,none⟩ = cs[j]?:=by
 simp[World.cell?,h]

theorem cur_new {ao:Option Addr} {n cap:Nat} {l:List UInt8} (w:World) (hr:RdIn w ao n cap l) (h:Int):Cur (w.alloc (.cells #[.slice ao n cap,.int .i64 0,.int .i64 h] 117)) w.heap.size ao n cap l:=by
 refine⟨0,h,heap_alloc_new w _,Int.le_refl _,by omega,hr.alloc _,fun hn a e=>?_⟩;obtain⟨b,off,e',hc⟩:=hr.1.2 0 hn;rw[e] at e';simp at e';subst e';exact World.block_lt_of_cell? w _ hc

theorem qae {w:World} {g:Nat} {cs:Array Value} {t:TypeId} {fz:Nat×Nat} (h:w.heap[g]? = some (.cells cs t fz)) (j:Nat) (u:Value) :
  (w.setCell ⟨g,j,none⟩ u).heap[g]? = some (.cells (cs.setIfInBounds j u) t fz):=by
 simp[World.setCell,Array.getElem?_modify,h]

theorem RdIn.grown' {w w':World} {ao:Option Addr} {n cap:Nat} {l:List UInt8} {row:Option Nat} (h:RdIn w ao n cap l) (hg:w.grownBy w' row) (hne:0<n→∀a,ao=some a→some a.block≠row):RdIn w' ao n cap l:=by
 refine⟨⟨h.1.1,fun i hi=>?_⟩,h.2⟩;obtain⟨b,off,e,hc⟩:=h.1.2 i hi;exact⟨b,off,e,hg.cell hc (show some b≠row from hne (by omega) ⟨b,off,none⟩ e)⟩

theorem qah (w:World) (g j:Nat) (u:Value):w.grownBy (w.setCell ⟨g,j,none⟩ u) (some g) :=
 ⟨rfl,rfl,rfl,by simp[World.setCell],fun q hq hne=>Below.heap_setCell _ _ _ q (fun e=>hne (by rw[e]))⟩
theorem qad {a b c:World} {row:Option Nat} (h:a.grownBy b row) (k:b.grownBy c row):a.grownBy c row :=
 ⟨k.os.trans h.os,k.tape.trans h.tape,k.output.trans h.output,Nat.le_trans h.size k.size,fun q hq hne=>(k.block q (Nat.lt_of_lt_of_le hq h.size) hne).trans (h.block q hq hne)⟩
theorem qhl {a b:World} {row:Option Nat} (h:a.grownBy b row) (q:Nat):a.grownBy (b.drewN q) row:=by
 have e:=below_drewN (B:=b.heap.size) (Below.refl _ b) q;exact⟨e.os.trans h.os,e.tape.trans h.tape,e.output.trans h.output,Nat.le_trans h.size e.size,fun k hk hne=>(e.block k (Nat.lt_of_lt_of_le hk h.size)).trans (h.block k hk hne)⟩

theorem cur_step {w w':World} {g:Nat} {ao:Option Addr} {n cap:Nat} {l:List UInt8} {i h:Int} (hg:w.grownBy w' (some g)) (hr:RdIn w ao n cap l) (hne:0<n→∀a,ao=some a→a.block<g)
  (hh:w'.heap[g]? = some (.cells #[.slice ao n cap,.int .i64 i,.int .i64 h] 117 (0,0))) (h0:0≤i) (h1:i≤n):Cur w' g ao n cap l :=
 ⟨i,h,hh,h0,h1,hr.grown' hg (fun hn a e he=>by have:=hne hn a e;simp at he;omega),hne⟩

theorem qlg (w:World) (q g:Nat):(w.drewN q).heap[g]? = w.heap[g]?:=by
 induction q generalizing w with
 |zero=>rfl
 |succ q ih=>exact ih w.drew

theorem qjc (ao:Option Addr) (n cap:Nat) (l:List UInt8) (w:World) (hr:RdIn w ao n cap l) (hn:n≤1048576) :
  Calls Tryz.prog 61 #[.slice ao n cap] w fun e w'=>e=.returned (.pointer (some ⟨w.heap.size,0,none⟩))∧Cur w' w.heap.size ao n cap l∧Below w.heap.size w w':=by
 go_enter Tryz.func61,Tryz.ntmps61;go_wp2
 go_loop [3,4] (fun h i=>∃(k:Nat) (z:Int),i=.int .i64 k∧h=.int .i64 z∧k≤n) (fun _ i=>n-(intOf i).toNat)
 case atStart=>exact⟨0,_,rfl,rfl,Nat.zero_le _⟩
 case round=>
  obtain⟨k,z,rfl,rfl,hk⟩:=hrel
  by_cases hlt:k<n
  ·by_cases h4:k<4000
   ·obtain⟨b,off,e,hc⟩:=hr.1.2 k hlt;subst e;have h1:(k:Int)<n:=by omega
    have h2:(k:Int)<4000:=by omega
    go_wp2
    go_round
    case rel=>exact⟨k+1,_,by go_num,rfl,by omega⟩
    case measure=>simp[intOf];omega
   ·have h1:(k:Int)<n:=by omega
    have h2:¬(k:Int)<4000:=by omega
    go_wp2;go_ret;exact⟨rfl,cur_new w hr _,(Below.refl _ _).alloc (Nat.le_refl _) _⟩
  ·have h1:¬(k:Int)<n:=by omega
   go_wp2;go_ret;exact⟨rfl,cur_new w hr _,(Below.refl _ _).alloc (Nat.le_refl _) _⟩

theorem cur_end1 {w:World} {g:Nat} {ao:Option Addr} {n cap:Nat} {l:List UInt8} {i h:Int} (hg:w.heap[g]? = some (.cells #[.slice ao n cap,.int .i64 i,.int .i64 h] 117 (0,0))) (hr:RdIn w ao n cap l)
  (hne:0<n→∀a,ao=some a→a.block<g) (h0:0≤i) (h1:i≤n) (V:Int) (q q':Nat) :
  Cur (((w.setCell ⟨g,2,none⟩ (.int .i64 V)).drewN q).drewN q') g ao n cap l∧w.grownBy (((w.setCell ⟨g,2,none⟩ (.int .i64 V)).drewN q).drewN q') (some g):=by
 have k1:w.grownBy (((w.setCell ⟨g,2,none⟩ (.int .i64 V)).drewN q).drewN q') (some g):=qhl (qhl (qah _ _ _ _) _) _;refine⟨cur_step (i:=i) (h:=V) k1 hr hne ?_ h0 h1,k1⟩;rw[qlg,qlg];exact qae hg 2 _

theorem cur_end2 {w:World} {g:Nat} {ao:Option Addr} {n cap:Nat} {l:List UInt8} {i h:Int} (hg:w.heap[g]? = some (.cells #[.slice ao n cap,.int .i64 i,.int .i64 h] 117 (0,0))) (hr:RdIn w ao n cap l)
  (hne:0<n→∀a,ao=some a→a.block<g) (V i':Int) (h0:0≤i') (h1:i'≤n) (q:Nat) :
  Cur (((w.setCell ⟨g,2,none⟩ (.int .i64 V)).drewN q).setCell ⟨g,1,none⟩ (.int .i64 i')) g ao n cap l∧w.grownBy (((w.setCell ⟨g,2,none⟩ (.int .i64 V)).drewN q).setCell ⟨g,1,none⟩ (.int .i64 i')) (some g):=by
 have k1:w.grownBy (((w.setCell ⟨g,2,none⟩ (.int .i64 V)).drewN q).setCell ⟨g,1,none⟩ (.int .i64 i')) (some g):=qad (qhl (qah _ _ _ _) _) (qah _ _ _ _);refine⟨cur_step (i:=i') (h:=V) k1 hr hne ?_ h0 h1,k1⟩;have k2:((w.setCell ⟨g,2,none⟩ (.int .i64 V)).drewN q).heap[g]? = some (.cells #[.slice ao n cap,.int .i64 i,.int .i64 V] 117 (0,0)):=by
  rw[qlg];exact qae hg 2 _
 exact qae k2 1 _

theorem qcu (g:Nat) (ao:Option Addr) (n cap:Nat) (l:List UInt8) (w:World) (hc:Cur w g ao n cap l) (hn:n≤1048576) :
  Calls Tryz.prog 126 #[.pointer (some ⟨g,0,none⟩)] w fun e w'=>∃x:Int,0≤x∧x<256∧e=.returned (.int .i64 x)∧Cur w' g ao n cap l∧w.grownBy w' (some g):=by
 obtain⟨i,h,hg,hi0,hin,hr,hne⟩:=hc;have c0:w.cell? ⟨g,0,none⟩ = some (.slice ao n cap):=by rw[qcl hg];rfl
 have c1:w.cell? ⟨g,1,none⟩ = some (.int .i64 i):=by rw[qcl hg];rfl
 have c2:w.cell? ⟨g,2,none⟩ = some (.int .i64 h):=by rw[qcl hg];rfl
 have f1:w.frozen? ⟨g,1,none⟩ = false:=by simp[World.frozen?,hg]
 have f2:w.frozen? ⟨g,2,none⟩ = false:=by simp[World.frozen?,hg]
 have HG:Hid (w.heap[g]? = some (.cells #[.slice ao n cap,.int .i64 i,.int .i64 h] 117 (0,0))):=hg;clear hg;have hm:=qtw
 by_cases hlt:i<n
 ·obtain⟨k,rfl⟩:=Int.eq_ofNat_of_zero_le hi0;obtain⟨b,off,e,hcb⟩:=hr.1.2 k (by omega);subst e;have hbg:b≠g:=fun e=>by have:b<g:=hne (by omega) _ rfl;omega
  have hcs:∀j v,(w.setCell ⟨g,j,none⟩ v).cell? ⟨b,off+k,none⟩ = some (.int .u8 (bt l k)):=fun j v=>by
   rw[World.cell?_setCell_other _ _ _ _ (fun e=>hbg (by simpa using (congrArg Addr.block e).symm))];exact hcb
  have hlt':(k:Int)<(n:Int):=hlt;have k0:(0:Int)≤(k:Int):=by omega
  go_enter Tryz.func126,Tryz.ntmps126;go_wp2
  go_quiet (fail)
  go_wp2
  go_quiet (fail)
  go_wp2
  go_quiet (fail)
  go_wp2;go_ret;exact⟨_,Int.emod_nonneg _ (by decide),Int.emod_lt_of_pos _ (by decide),rfl,cur_end2 HG.out hr hne _ _ (by omega) (by omega) _⟩
 ·have hlt':¬i<(n:Int):=hlt;go_enter Tryz.func126,Tryz.ntmps126;go_wp2
  go_quiet (fail)
  go_wp2
  go_quiet (fail)
  go_wp2;go_ret;exact⟨_,Int.emod_nonneg _ (by decide),Int.emod_lt_of_pos _ (by decide),rfl,cur_end1 HG.out hr hne hi0 hin _ _ _⟩

theorem qag (g:Nat) (ao:Option Addr) (n cap:Nat) (l:List UInt8) (m:Int) (w:World) (hc:Cur w g ao n cap l) (hn:n≤1048576) (h0:0<m) (h1:m≤1048576) :
  Calls Tryz.prog 78 #[.pointer (some ⟨g,0,none⟩),.int .i64 m] w fun e w'=>∃x:Int,0≤x∧x<m∧e=.returned (.int .i64 x)∧Cur w' g ao n cap l∧w.grownBy w' (some g):=by
 have hm0:¬m≤0:=by omega
 by_cases h256:m≤256
 ·go_enter Tryz.func78,Tryz.ntmps78;go_wp2_with fail
  refine (qcu g ao n cap l _ hc hn).mono ?_;rintro e w1 ⟨x,hx0,hx1,rfl,hc1,hg1⟩;have hz:(m==0)=false:=by simp;omega
  go_wp2;go_ret;exact⟨x%m,Int.emod_nonneg _ (by omega),Int.emod_lt_of_pos _ h0,rfl,hc1,hg1⟩
 ·have hz:(m==0)=false:=by simp;omega
  go_enter Tryz.func78,Tryz.ntmps78;go_wp2_with fail
  refine (qcu g ao n cap l _ hc hn).mono ?_;rintro e w1 ⟨x,hx0,hx1,rfl,hc1,hg1⟩;go_wp2_with fail
  refine (qcu g ao n cap l _ hc1 hn).mono ?_;rintro e w2 ⟨y,hy0,hy1,rfl,hc2,hg2⟩;go_wp2_with fail
  refine (qcu g ao n cap l _ hc2 hn).mono ?_;rintro e w3 ⟨z,hz0,hz1,rfl,hc3,hg3⟩;go_wp2;go_ret;exact⟨(x*65536+y*256+z)%m,Int.emod_nonneg _ (by omega),Int.emod_lt_of_pos _ h0,rfl,hc3,qad hg1 (qad hg2 hg3)⟩

theorem qax (g:Nat) (ao:Option Addr) (n cap:Nat) (l:List UInt8) (m:Int) (w:World) (hc:Cur w g ao n cap l) (hn:n≤1048576) (h0:0<m) (h1:m≤1048576) :
  Calls Tryz.prog 84 #[.pointer (some ⟨g,0,none⟩),.int .i64 m] w fun e w'=>∃b:Bool,e=.returned (.bool b)∧Cur w' g ao n cap l∧w.grownBy w' (some g):=by
 go_enter Tryz.func84,Tryz.ntmps84;go_wp2_with fail
 refine (qag g ao n cap l m _ hc hn h0 h1).mono ?_;rintro e w1 ⟨x,hx0,hx1,rfl,hc1,hg1⟩;go_wp2;go_ret;exact⟨_,rfl,hc1,hg1⟩

theorem qbd (g:Nat) (ao:Option Addr) (n cap:Nat) (l:List UInt8) (b m c:Nat) (zs:List Int) (w:World) (hc:Cur w g ao n cap l) (hn:n≤1048576) (h0:0<m) (h1:m≤1048576) (hz:zs.length=m)
  (hcell:∀i,i<m→w.cell? ⟨b,i,none⟩ = some (.int .i64 (zs.getD i 0))) (hbg:b≠g) :
  Calls Tryz.prog 79 #[.pointer (some ⟨g,0,none⟩),.slice (some ⟨b,0,none⟩) m c] w fun e w'=>∃x:Int,x∈zs∧e=.returned (.int .i64 x)∧Cur w' g ao n cap l∧w.grownBy w' (some g):=by
 have HC:Hid (∀i,i<m→w.cell? ⟨b,i,none⟩ = some (.int .i64 (zs.getD i 0))):=hcell;clear hcell;have HZ:Hid (zs.length=m):=hz;clear hz;go_enter Tryz.func79,Tryz.ntmps79;go_wp2_with fail
 refine (qag g ao n cap l m _ hc hn (by omega) (by omega)).mono ?_;rintro e w1 ⟨x,hx0,hx1,rfl,hc1,hg1⟩;obtain⟨k,rfl⟩:=Int.eq_ofNat_of_zero_le hx0;have hk:k<m:=by omega
 have hck:w1.cell? ⟨b,k,none⟩ = some (.int .i64 (zs.getD k 0)):=hg1.cell (HC.out k hk) (show some b≠some g from fun e=>hbg (by simpa using e));obtain⟨z,hz⟩ : ∃z,zs.getD k 0=z:=⟨_,rfl⟩;rw[hz] at hck;have HM:Hid (z∈zs):=by
  have e:zs.getD k 0=zs[k]'(by rw[HZ.out];exact hk):=by simp[List.getD_eq_getElem?_getD,List.getElem?_eq_getElem (show k<zs.length by rw[HZ.out];exact hk)]
  rw[←hz,e];exact List.getElem_mem _
 clear hz;go_wp2;go_ret;exact⟨z,HM.out,rfl,hc1,hg1⟩

theorem qem (g:Nat) (ao:Option Addr) (n cap:Nat) (l:List UInt8) (b m c:Nat) (zs:List ByteArray) (w:World) (hc:Cur w g ao n cap l) (hn:n≤1048576) (h0:0<m) (h1:m≤1048576) (hz:zs.length=m)
  (hcell:∀i,i<m→w.cell? ⟨b,i,none⟩ = some (.string (zs.getD i ByteArray.empty))) (hbg:b≠g) :
  Calls Tryz.prog 146 #[.pointer (some ⟨g,0,none⟩),.slice (some ⟨b,0,none⟩) m c] w fun e w'=>∃x:ByteArray,x∈zs∧e=.returned (.string x)∧Cur w' g ao n cap l∧w.grownBy w' (some g):=by
 have HC:Hid (∀i,i<m→w.cell? ⟨b,i,none⟩ = some (.string (zs.getD i ByteArray.empty))):=hcell;clear hcell;have HZ:Hid (zs.length=m):=hz;clear hz;go_enter Tryz.func146,Tryz.ntmps146;go_wp2_with fail
 refine (qag g ao n cap l m _ hc hn (by omega) (by omega)).mono ?_;rintro e w1 ⟨x,hx0,hx1,rfl,hc1,hg1⟩;obtain⟨k,rfl⟩:=Int.eq_ofNat_of_zero_le hx0;have hk:k<m:=by omega
 have hck:w1.cell? ⟨b,k,none⟩ = some (.string (zs.getD k ByteArray.empty)):=hg1.cell (HC.out k hk) (show some b≠some g from fun e=>hbg (by simpa using e));obtain⟨z,hz⟩ : ∃z,zs.getD k ByteArray.empty=z:=⟨_,rfl⟩;rw[hz] at hck;have HM:Hid (z∈zs):=by
  have e:zs.getD k ByteArray.empty=zs[k]'(by rw[HZ.out];exact hk):=by simp[List.getD_eq_getElem?_getD,List.getElem?_eq_getElem (show k<zs.length by rw[HZ.out];exact hk)]
  rw[←hz,e];exact List.getElem_mem _
 clear hz;go_wp2;go_ret;exact⟨z,HM.out,rfl,hc1,hg1⟩

theorem Cur.keep {w w':World} {g:Nat} {ao:Option Addr} {n cap:Nat} {l:List UInt8} {row:Option Nat} (h:Cur w g ao n cap l) (hg:w.grownBy w' row) (hrow:∀k,row=some k→g<k):Cur w' g ao n cap l:=by
 obtain⟨i,z,hh,h0,h1,hr,hne⟩:=h;have hlt:g<w.heap.size:=(Array.getElem?_eq_some_iff.1 hh).1;refine⟨i,z,?_,h0,h1,hr.grown' hg (fun hn a e he=>by have:=hne hn a e;have:=hrow _ he.symm;omega),hne⟩;rw[hg.block g hlt (fun e=>by have:=hrow g e.symm;omega)];exact hh
theorem Cur.lt {w:World} {g:Nat} {ao:Option Addr} {n cap:Nat} {l:List UInt8} (h:Cur w g ao n cap l):g<w.heap.size:=by
 obtain⟨i,z,hh,_⟩:=h;exact (Array.getElem?_eq_some_iff.1 hh).1
theorem Cur.alloc {w:World} {g:Nat} {ao:Option Addr} {n cap:Nat} {l:List UInt8} (h:Cur w g ao n cap l) (o:Obj):Cur (w.alloc o) g ao n cap l:=h.keep (World.grownBy_alloc w o none) (fun k e=>by cases e)
theorem Cur.own {w w':World} {g B:Nat} {ao:Option Addr} {n cap:Nat} {l:List UInt8} {a:Option Addr} {m c:Nat} {x:List UInt8} (h:Cur w g ao n cap l) (ho:Own w B a m c x) (hB:g<B) (hg:w.grownBy w' (Value.slice a m c).ownBlock):Cur w' g ao n cap l :=
 h.keep hg (fun k e=>by have:=(ho.2.lt k e).1;omega)
theorem Own.cur {w w':World} {g B:Nat} {a:Option Addr} {m c:Nat} {x:List UInt8} (h:Own w B a m c x) (hB:g<B) (hg:w.grownBy w' (some g)):Own w' B a m c x :=
 h.grown hg (fun d e he=>by have:=h.block e;simp at he;omega)

theorem qeg {w u:World} {g:Nat} (h:w.grownBy u (some g)) (o:Obj):w.grownBy (u.alloc o) (some g) :=
 ⟨h.os,h.tape,h.output,by have:=h.size;simp;omega,fun k hk hne=>(Below.heap_alloc u o k (Nat.lt_of_lt_of_le hk h.size)).trans (h.block k hk hne)⟩
theorem qcm {w u u':World} {g B:Nat} {a:Option Addr} {m c:Nat} {x:List UInt8} (h:w.grownBy u (some g)) (ho:Own u B a m c x) (hB:w.heap.size≤B) (hg:u.grownBy u' (Value.slice a m c).ownBlock):w.grownBy u' (some g) :=
 ⟨hg.os.trans h.os,hg.tape.trans h.tape,hg.output.trans h.output,Nat.le_trans h.size hg.size,fun k hk hne=>(hg.block k (Nat.lt_of_lt_of_le hk h.size) (fun e=>by have:=(ho.2.lt k e.symm).1;omega)).trans (h.block k hk hne)⟩
theorem qbg {w u u':World} {g:Nat} (h:w.grownBy u (some g)) (hb:Below u.heap.size u u'):w.grownBy u' (some g) :=
 ⟨hb.os.trans h.os,hb.tape.trans h.tape,hb.output.trans h.output,Nat.le_trans h.size hb.size,fun k hk hne=>(hb.block k (Nat.lt_of_lt_of_le hk h.size)).trans (h.block k hk hne)⟩
theorem Cur.below {w w':World} {g:Nat} {ao:Option Addr} {n cap:Nat} {l:List UInt8} (h:Cur w g ao n cap l) (hb:Below w.heap.size w w'):Cur w' g ao n cap l :=
 h.keep (row:=none) ⟨hb.os,hb.tape,hb.output,hb.size,fun k hk _=>hb.block k hk⟩ (fun k e=>by cases e)

theorem rd_one (w:World) (x:Int) (h0:0≤x) (h1:x<256):∃y:List UInt8,y.length=1∧RdIn (w.alloc (.cells #[.int .u8 x] 5)) (some ⟨w.heap.size,0,none⟩) 1 1 y:=by
 refine⟨[UInt8.ofNat x.toNat],rfl,⟨rfl,fun i hi=>⟨_,_,rfl,?_⟩⟩,Nat.le_refl _,by unfold maxLen;omega,fun h=>by simp at h⟩;obtain rfl:i=0:=by omega
 have e:((bt [UInt8.ofNat x.toNat] 0:Nat):Int)=x:=by
  show (((UInt8.ofNat x.toNat).toNat:Nat):Int)=x;simp;omega
 rw[e];simp

theorem qcb (g:Nat) (ao:Option Addr) (n cap:Nat) (l:List UInt8) (m:Nat) (w:World) (hc:Cur w g ao n cap l) (hn:n≤1048576) (hm:m≤1048576) :
  Calls Tryz.prog 111 #[.pointer (some ⟨g,0,none⟩),.int .i64 m] w fun e w'=>∃a c x,e=.returned (.slice a m c)∧Own w' w.heap.size a m c x∧Cur w' g ao n cap l∧w.grownBy w' (some g):=by
 have hlt:=hc.lt;go_enter Tryz.func111,Tryz.ntmps111;go_wp2
 go_loopw [5,6] (fun v i wr=>∃(k:Nat) (a:Option Addr) (c:Nat) (x:List UInt8),i=.int .i64 k∧v=.slice a k c∧k≤m∧Own wr w.heap.size a k c x∧Cur wr g ao n cap l∧w.grownBy wr (some g)) (fun _ i _=>m-(intOf i).toNat)
 case atStart=>exact⟨0,_,_,[],rfl,rfl,Nat.zero_le _,own_lit0 w,hc.alloc _,World.grownBy_alloc _ _ _⟩
 case round=>
  obtain⟨k,a,c,x,rfl,rfl,hk,ho,hcu,hg⟩:=hrel
  by_cases hlm:k<m
  ·have h1:(k:Int)<m:=by omega
   go_wp2_with fail
   refine (qcu g ao n cap l _ hcu hn).mono ?_;rintro e w1 ⟨y,hy0,hy1,rfl,hc1,hg1⟩;have ho1:=ho.cur hlt hg1;have hG1:=qad hg hg1;obtain⟨z,hzl,hrz⟩:=rd_one w1 y hy0 hy1;clear ho hcu hg hg1;go_wp2_with (at_builtin;refine w_app _ rfl _ _ rfl w.heap.size _ _ _ x rfl (ho1.alloc _) _ _ _ z rfl hrz (by omega) (by have:=hG1.size;simp;omega) ?_)
   intro a2 c2 w2 ho2 hg2;have hc2:=(hc1.alloc _).own (ho1.alloc _) hlt hg2;have hG2:=qcm (qeg hG1 _) (ho1.alloc _) (Nat.le_refl _) hg2;clear hg2 hrz ho1 hG1 hc1;go_wp2;go_roundw
   case rel=>exact⟨k+1,a2,c2,_,by go_num,rfl,by omega,ho2,hc2,hG2⟩
   case measure=>simp[intOf];omega
  ·have h1:¬(k:Int)<m:=by omega
   obtain rfl:k=m:=by omega
   go_wp2;go_ret;exact⟨a,c,rfl,⟨x,ho⟩,hcu,hg⟩


theorem qen (w:World) (zs:List ByteArray) (t:TypeId) (i:Nat) (h:i<zs.length):(w.alloc (.cells (zs.map Value.string).toArray t)).cell? ⟨w.heap.size,i,none⟩ = some (.string (zs.getD i ByteArray.empty)):=by
 rw[qcl (heap_alloc_new w _)];simp[List.getD_eq_getElem?_getD,List.getElem?_eq_getElem h]
theorem ints_cells (w:World) (zs:List Int) (t:TypeId) (i:Nat) (h:i<zs.length):(w.alloc (.cells (zs.map (Value.int .i64)).toArray t)).cell? ⟨w.heap.size,i,none⟩ = some (.int .i64 (zs.getD i 0)):=by
 rw[qcl (heap_alloc_new w _)];simp[List.getD_eq_getElem?_getD,List.getElem?_eq_getElem h]

theorem Own.cut {w:World} {B:Nat} {a:Option Addr} {n c:Nat} {x:List UInt8} (h:Own w B a n c x) (k:Nat) (hk:k≤n):Own w B a k c (x.take k):=by
 obtain⟨hl,h1,h2⟩:=h;refine⟨by simp;omega,by rw[qii];simp;omega,?_⟩
 rcases h2 with ⟨e,h0⟩ | ⟨g,c',cur,e,hB,hg,hc,hm,hs,ht⟩
 ·simp only[Value.slice.injEq] at e;obtain⟨rfl,_,rfl⟩:=e;obtain rfl:k=0:=by omega
  exact .inl ⟨rfl,rfl⟩
 ·simp only[Value.slice.injEq] at e;obtain⟨rfl,_,rfl⟩:=e;refine .inr ⟨g,c,cur,rfl,hB,hg,by omega,hm,hs,?_⟩;have e2:bvals (x.take k)=(bvals x).take k:=by simp[bvals,List.map_take]
  rw[e2,←ht,List.take_take]
  congr 1
  omega

theorem qte (a b:Int):0≤bits .xor .u8 a b∧bits .xor .u8 a b<256:=by
 show 0≤IntKind.u8.wrap _∧IntKind.u8.wrap _<256;rw[IntKind.wrap_u8];exact⟨Int.emod_nonneg _ (by decide),Int.emod_lt_of_pos _ (by decide)⟩

theorem Own.storeI {w:World} {B:Nat} {g n cap:Nat} {l:List UInt8} (h:Own w B (some ⟨g,0,none⟩) n cap l) (j:Nat) (V:Int) (h0:0≤V) (h1:V<256) :
  Own (w.setCell ⟨g,j,none⟩ (.int .u8 V)) B (some ⟨g,0,none⟩) n cap (l.set j (UInt8.ofNat V.toNat)):=by
 have:=h.store j (UInt8.ofNat V.toNat);have e:(((UInt8.ofNat V.toNat).toNat:Nat):Int)=V:=by simp;omega
 rw[e] at this;exact this

theorem slice_head (ao:Option Addr) (n cap j:Nat) (h:j≤cap) (w':World):(Instr.slice 22 (.slice ao n cap) none (some (.int .i64 (j:Int))) none).run Tryz.prog w'=.ok (.slice ao j cap) w':=by
 obtain⟨i0,hi,hz0,hz1,hz2⟩:=info_parts info5;have he:Tryz.prog.elem 22=5:=by kernel_rfl
 have ht:Tryz.prog.underlying 22=some (.slice (Tryz.prog.elem 22)):=by rw[he];exact Tryz.underlying22
 have hs:=run_slice_h (P:=Tryz.prog) w' 22 ao n cap ht .i64 (j:Int) (by omega) (by omega);rw[hs,he];simp only[sizeOf,typeInfo,Sem.run_bind,Sem.run_pure,hi,hz1,Result.andThen_ok,sliced,Int.toNat_natCast];simp[hi,hz1,Result.andThen,sliced]
 by_cases hc:cap=0
 ·simp[hc]
 ·cases ao<;>simp[hc,Addr.add]

theorem Cur.drew {w:World} {g:Nat} {ao:Option Addr} {n cap:Nat} {l:List UInt8} (h:Cur w g ao n cap l):Cur w.drew g ao n cap l:=h
theorem Own.drew {w:World} {B:Nat} {a:Option Addr} {n c:Nat} {x:List UInt8} (h:Own w B a n c x):Own w.drew B a n c x:=h
theorem qfz {w w':World} {row:Option Nat} (h:w.drew.grownBy w' row):w.grownBy w' row:=⟨h.os,h.tape,h.output,h.size,h.block⟩

theorem qro (g:Nat) (ao:Option Addr) (n cap:Nat) (l:List UInt8) (a:Option Addr) (m c:Nat) (x:List UInt8) (w:World) (hc:Cur w g ao n cap l) (hn:n≤1048576) (hx:RdIn w a m c x) (hm:m≤1048575) :
  Calls Tryz.prog 85 #[.pointer (some ⟨g,0,none⟩),.slice a m c] w fun e w'=>∃a' m' c' x',m'≤m+1∧e=.returned (.slice a' m' c')∧Own w' w.heap.size a' m' c' x'∧Cur w' g ao n cap l∧w.grownBy w' (some g):=by
 have hlt:=hc.lt;go_enter Tryz.func85,Tryz.ntmps85;go_wp2_with (at_builtin;refine w_app _ rfl _ _ rfl w.heap.size _ 0 _ [] rfl (own_lit0 w) _ _ _ x rfl (hx.alloc _) (by omega) (by simp) ?_)
 intro a1 c1 w1 ho1 hg1;have hc1:Cur w1 g ao n cap l:=(hc.alloc _).own (own_lit0 w) hlt hg1;have hG1:w.grownBy w1 (some g):=qcm (World.grownBy_alloc _ _ _) (own_lit0 w) (Nat.le_refl _) hg1;clear hg1;go_wp2_with fail
 refine (qag g ao n cap l 8 _ hc1 hn (by omega) (by omega)).mono ?_;rintro e w2 ⟨k,hk0,hk1,rfl,hc2,hg2⟩;have ho2:=ho1.cur hlt hg2;have hG2:=qad hG1 hg2;clear ho1 hc1 hG1 hg2
 by_cases q0:k=0
 ·subst q0
  by_cases hm0:0<m
  ·have hm1:(0:Int)<m:=by omega
   go_wp2_with fail
   refine (qag g ao n cap l m _ hc2 hn (by omega) (by omega)).mono ?_;rintro e w3 ⟨i,hi0,hi1,rfl,hc3,hg3⟩;have ho3:=ho2.cur hlt hg3;have hG3:=qad hG2 hg3;clear ho2 hc2 hG2 hg3;obtain⟨j,rfl⟩:=Int.eq_ofNat_of_zero_le hi0;obtain⟨g',e⟩ : ∃g',a1=some ⟨g',0,none⟩:=by
    rcases ho3.2.2 with ⟨_,h0⟩ | ⟨g',c',cur,e,_⟩
    ·omega
    ·simp only[Value.slice.injEq] at e;exact⟨g',e.1⟩
   subst e;have hgB:w.heap.size≤g':=(ho3.block rfl).1;have hz:=ho3.cell j (by omega);have hf:=ho3.frozen j;go_wp2
   go_region_with (go_at_call 78;refine (qag g ao n cap l 255 _ (by exact hc3.drew) hn (by omega) (by omega)).mono ?_;rintro e w4 ⟨y,hy0,hy1,rfl,hc4,hg4⟩;have ho4:=ho3.cur hlt (qfz hg4);have hG4:=qad hG3 (qfz hg4);have hz4:=ho4.cell j (by omega);have hf4:=ho4.frozen j)
   all_goals
    go_wp2;go_ret;refine⟨_,m,c1,_,by omega,rfl,ho4.storeI j _ (qte _ _).1 (qte _ _).2,(hc4.own ho4 hlt (by simpa[Value.ownBlock] using qah _ _ _ _)),qcm hG4 ho4 (Nat.le_refl _) (by simpa[Value.ownBlock] using qah _ _ _ _)⟩
  ·have hm1:¬(0:Int)<m:=by omega
   go_wp2;go_ret;exact⟨a1,m,c1,x,by omega,rfl,ho2,hc2,hG2⟩
 have n0:(k==0)=false:=by simp;omega
 by_cases q1:k=1
 ·subst q1
  by_cases hm0:0<m
  ·have hm1:(0:Int)<m:=by omega
   go_wp2_with fail
   refine (qag g ao n cap l m _ hc2 hn (by omega) (by omega)).mono ?_;rintro e w3 ⟨i,hi0,hi1,rfl,hc3,hg3⟩;have ho3:=ho2.cur hlt hg3;have hG3:=qad hG2 hg3;clear ho2 hc2 hG2 hg3;obtain⟨j,rfl⟩:=Int.eq_ofNat_of_zero_le hi0;have hcm:=ho3.rd.2.1;have hsl:∀w',(Instr.slice 22 (.slice a1 m c1) none (some (.int .i64 (j:Int))) none).run Tryz.prog w'=.ok (.slice a1 j c1) w':=fun w'=>slice_head a1 m c1 j (by omega) w'
   have ho4:=ho3.cut j (by omega);go_wp2;go_ret;exact⟨a1,j,c1,_,by omega,rfl,ho4,hc3,hG3⟩
  ·have hm1:¬(0:Int)<m:=by omega
   go_wp2;go_ret;exact⟨a1,m,c1,x,by omega,rfl,ho2,hc2,hG2⟩
 have n1:(k==1)=false:=by simp;omega
 by_cases q2:k=2
 ·subst q2;go_wp2_with fail
  refine (qcu g ao n cap l _ hc2 hn).mono ?_;rintro e w3 ⟨y,hy0,hy1,rfl,hc3,hg3⟩;have ho3:=ho2.cur hlt hg3;have hG3:=qad hG2 hg3;obtain⟨z,hzl,hrz⟩:=rd_one w3 y hy0 hy1;clear ho2 hc2 hG2 hg3;go_wp2_with (at_builtin;refine w_app _ rfl _ _ rfl w.heap.size _ _ _ x rfl (ho3.alloc _) _ _ _ z rfl hrz (by omega) (by have:=hG3.size;simp;omega) ?_)
  intro a4 c4 w4 ho4 hg4;have hc4:=(hc3.alloc _).own (ho3.alloc _) hlt hg4;have hG4:=qcm (qeg hG3 _) (ho3.alloc _) (Nat.le_refl _) hg4;clear hg4 hrz ho3 hG3 hc3;go_wp2;go_ret;exact⟨a4,m+1,c4,_,by omega,rfl,ho4,hc4,hG4⟩
 ·have n2:(k==2)=false:=by simp;omega
  go_wp2;go_ret;exact⟨a1,m,c1,x,by omega,rfl,ho2,hc2,hG2⟩


def texts:List ByteArray:=[⟨#[]⟩,⟨#[97]⟩,⟨#[104,101,108,108,111]⟩,⟨#[195,169]⟩,⟨#[226,130,172]⟩,⟨#[240,159,152,128]⟩,⟨#[97,47,98]⟩,⟨#[0]⟩,⟨#[255]⟩,⟨#[192,128]⟩,⟨#[237,160,128]⟩,⟨#[226,130]⟩,⟨#[244,144,128,128]⟩,⟨#[49,50,51,52,53,54,55,56,57,48,49,50,51,52,53,54,55,56,57,48,49,50,51,52,53,54,55,56,57,48,49,50,51,52,53,54,55,56,57,48,49,50,51,52,53,54,55,56,57,48,49,50,51,52,53,54,55,56,57,48]⟩,⟨#[49,50,51,52,53,54,55,56,57,48,49,50,51,52,53,54,55,56,57,48,49,50,51,52,53,54,55,56,57,48,49,50,51,52,53,54,55,56,57,48,49,50,51,52,53,54,55,56,57,48,49,50,51,52,53,54,55,56,57,48,49]⟩,⟨#[120,223,191,121,224,160,128]⟩]
theorem texts_size:∀s∈texts,s.size≤61:=by decide +kernel
theorem qsz (g:Nat) (ao:Option Addr) (n cap:Nat) (l:List UInt8) (w:World) (hc:Cur w g ao n cap l) (hn:n≤1048576) :
  Calls Tryz.prog 112 #[.pointer (some ⟨g,0,none⟩)] w fun e w'=>∃s:ByteArray,s.size≤61∧e=.returned (.string s)∧Cur w' g ao n cap l∧w.grownBy w' (some g):=by
 have hlt:=hc.lt;go_enter Tryz.func112,Tryz.ntmps112;go_wp2_with fail
 refine (qem g ao n cap l w.heap.size 16 16 texts _ (hc.alloc _) hn (by omega) (by omega) rfl (fun i hi=>qen w texts 9 i hi) (by omega)).mono ?_;rintro e w1 ⟨s,hs,rfl,hc1,hg1⟩;have hz:=texts_size s hs;clear hs;go_wp2;go_ret;exact⟨s,hz,rfl,hc1,qad (World.grownBy_alloc _ _ _) hg1⟩

theorem qih {w w1 w':World} {g:Nat} (hb:Below g w w1) (hg:w1.grownBy w' (some g)) (hsz:g≤w1.heap.size):Below g w w' :=
 hb.grown hg hsz (fun k hk=>by simp at hk;omega)

theorem RdIn.cur {w w':World} {g:Nat} {a:Option Addr} {m c:Nat} {x:List UInt8} (h:RdIn w a m c x) (hne:∀d,a=some d→g<d.block) (hg:w.grownBy w' (some g)):RdIn w' a m c x :=
 h.grown hg (fun d e he=>by have:=hne d e;simp at he;omega)

theorem big_lbig (ao:Option Addr) (n cap:Nat) (b:Bool) (w:World) (h:decide (1048576<n)=b) :
  Calls Tryz.prog 13 #[.slice ao n cap] w fun e w'=>e=.returned (.bool b)∧w'=w:=by
 subst h;go_enter Tryz.func13,Tryz.ntmps13;go_wp2;go_ret;exact⟨qaa (by simp;omega),rfl⟩

theorem same_lsame (a b:Option Addr) (m c m' c':Nat) (x:List UInt8) (w:World) (h1:RdIn w a m c x) (h2:RdIn w b m' c' x) :
  Calls Tryz.prog 28 #[.slice a m c,.slice b m' c'] w fun e w'=>e=.returned (.bool true)∧w'=w:=by
 have e1:=qee h1;have e2:=qee h2;go_enter Tryz.func28,Tryz.ntmps28;go_wp2;go_ret;exact⟨by simp,rfl⟩

