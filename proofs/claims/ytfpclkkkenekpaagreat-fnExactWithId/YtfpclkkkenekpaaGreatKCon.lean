/- What a connect and a publish name. -/
import Derived.Test.YtfpclkkkenekpaaGreatPRow
import Derived.Test.YtfpclkkkenekpaaGreatKTyp
set_option linter.unusedVariables false
set_option linter.unusedSimpArgs false
namespace Go.Proofs.YtfpclkkkenekpaaGreat
open Go.RowKit

/-- A publish kind's parts. -/
def pubC (dup : Bool) (qos : Int) (ret : Bool) (id : Int) (top : ByteArray) (b : Sl) : Array Value := #[.bool dup, .int .i64 qos, .bool ret, .int .i64 id, .string top, .slice b.a b.n b.c]
/-- A connect kind's parts. -/
def conC (lev : Int) (cli : ByteArray) (cln : Bool) (kee : Int) (hw : Bool) (wt : ByteArray) (wb : Sl) (wq : Int) (wr : Bool) (hu : Bool) (us : ByteArray) (hp : Bool) (pa : Sl) : Array Value :=
  #[.int .i64 lev, .string cli, .bool cln, .int .i64 kee, .bool hw, .string wt, .slice wb.a wb.n wb.c, .int .i64 wq, .bool wr, .bool hu, .string us, .bool hp, .slice pa.a pa.n pa.c]
def noSl : Sl := ⟨none, 0, 0⟩

set_option maxRecDepth 100000 in
set_option maxHeartbeats 1000000 in
theorem pub_of0 (p : Pk) (w : World) (h : ¬ 0 < p.qos) :
    Calls Tryz.prog 65 #[.agg p.cells] w fun e w' => e = .returned (.agg (pubC false p.qos p.ret 0 p.top p.bod)) ∧ Below w.heap.size w w' := by
  have a2 := p.c2
  have a3 := p.c3
  have a5 := p.c5
  have a6 := p.c6
  generalize p.cells = cs at *
  unfold pubC
  go_enter Tryz.func65, Tryz.ntmps65
  go_wp2
  go_returns
  refine ⟨rfl, ?_⟩
  go_grown
set_option maxRecDepth 100000 in
set_option maxHeartbeats 1000000 in
theorem pub_of1 (p : Pk) (w : World) (h : 0 < p.qos) :
    Calls Tryz.prog 65 #[.agg p.cells] w fun e w' => e = .returned (.agg (pubC p.dup p.qos p.ret p.id p.top p.bod)) ∧ Below w.heap.size w w' := by
  have a1 := p.c1
  have a2 := p.c2
  have a3 := p.c3
  have a4 := p.c4
  have a5 := p.c5
  have a6 := p.c6
  generalize p.cells = cs at *
  unfold pubC
  go_enter Tryz.func65, Tryz.ntmps65
  go_wp2
  go_region
  all_goals
    go_wp2
    go_returns
    refine ⟨rfl, ?_⟩
    go_grown
/- impl.connectOf -/
set_option maxRecDepth 100000 in
set_option maxHeartbeats 2000000 in
theorem con_nnn (p : Pk) (w : World) (h1 : p.hw = false) (h2 : p.hu = false) :
    Calls Tryz.prog 64 #[.agg p.cells] w fun e w' => e = .returned (.agg (conC p.lev p.cli p.cln p.kee false ByteArray.empty noSl 0 false false ByteArray.empty false noSl)) ∧ Below w.heap.size w w' := by
  have a7 := p.c7
  have a8 := p.c8
  have a9 := p.c9
  have a10 := p.c10
  have a11 := p.c11
  have a16 := p.c16
  rw [h1] at a11
  rw [h2] at a16
  clear h1 h2
  generalize p.cells = cs at *
  unfold conC
  go_enter Tryz.func64, Tryz.ntmps64
  go_wp2
  go_returns
  refine ⟨rfl, ?_⟩
  go_grown

set_option maxRecDepth 100000 in
set_option maxHeartbeats 2000000 in
theorem con_nun (p : Pk) (w : World) (h1 : p.hw = false) (h2 : p.hu = true) (h3 : p.hp = false) :
    Calls Tryz.prog 64 #[.agg p.cells] w fun e w' => e = .returned (.agg (conC p.lev p.cli p.cln p.kee false ByteArray.empty noSl 0 false true p.us false noSl)) ∧ Below w.heap.size w w' := by
  have a7 := p.c7
  have a8 := p.c8
  have a9 := p.c9
  have a10 := p.c10
  have a11 := p.c11
  have a16 := p.c16
  have a17 := p.c17
  have a18 := p.c18
  rw [h1] at a11
  rw [h2] at a16
  rw [h3] at a18
  clear h1 h2 h3
  generalize p.cells = cs at *
  unfold conC
  go_enter Tryz.func64, Tryz.ntmps64
  go_wp2
  go_region
  all_goals
    go_wp2
    go_returns
    refine ⟨rfl, ?_⟩
    go_grown

set_option maxRecDepth 100000 in
set_option maxHeartbeats 2000000 in
theorem con_nup (p : Pk) (w : World) (h1 : p.hw = false) (h2 : p.hu = true) (h3 : p.hp = true) :
    Calls Tryz.prog 64 #[.agg p.cells] w fun e w' => e = .returned (.agg (conC p.lev p.cli p.cln p.kee false ByteArray.empty noSl 0 false true p.us true p.pa)) ∧ Below w.heap.size w w' := by
  have a7 := p.c7
  have a8 := p.c8
  have a9 := p.c9
  have a10 := p.c10
  have a11 := p.c11
  have a16 := p.c16
  have a17 := p.c17
  have a18 := p.c18
  have a19 := p.c19
  rw [h1] at a11
  rw [h2] at a16
  rw [h3] at a18
  clear h1 h2 h3
  generalize p.cells = cs at *
  unfold conC
  go_enter Tryz.func64, Tryz.ntmps64
  go_wp2
  go_region
  all_goals
    go_wp2
    go_returns
    refine ⟨rfl, ?_⟩
    go_grown

set_option maxRecDepth 100000 in
set_option maxHeartbeats 2000000 in
theorem con_wnn (p : Pk) (w : World) (h1 : p.hw = true) (h2 : p.hu = false) :
    Calls Tryz.prog 64 #[.agg p.cells] w fun e w' => e = .returned (.agg (conC p.lev p.cli p.cln p.kee true p.wt p.wb p.wq p.wr false ByteArray.empty false noSl)) ∧ Below w.heap.size w w' := by
  have a7 := p.c7
  have a8 := p.c8
  have a9 := p.c9
  have a10 := p.c10
  have a11 := p.c11
  have a16 := p.c16
  have a12 := p.c12
  have a13 := p.c13
  have a14 := p.c14
  have a15 := p.c15
  rw [h1] at a11
  rw [h2] at a16
  clear h1 h2
  generalize p.cells = cs at *
  unfold conC
  go_enter Tryz.func64, Tryz.ntmps64
  go_wp2
  go_returns
  refine ⟨rfl, ?_⟩
  go_grown

set_option maxRecDepth 100000 in
set_option maxHeartbeats 2000000 in
theorem con_wun (p : Pk) (w : World) (h1 : p.hw = true) (h2 : p.hu = true) (h3 : p.hp = false) :
    Calls Tryz.prog 64 #[.agg p.cells] w fun e w' => e = .returned (.agg (conC p.lev p.cli p.cln p.kee true p.wt p.wb p.wq p.wr true p.us false noSl)) ∧ Below w.heap.size w w' := by
  have a7 := p.c7
  have a8 := p.c8
  have a9 := p.c9
  have a10 := p.c10
  have a11 := p.c11
  have a16 := p.c16
  have a12 := p.c12
  have a13 := p.c13
  have a14 := p.c14
  have a15 := p.c15
  have a17 := p.c17
  have a18 := p.c18
  rw [h1] at a11
  rw [h2] at a16
  rw [h3] at a18
  clear h1 h2 h3
  generalize p.cells = cs at *
  unfold conC
  go_enter Tryz.func64, Tryz.ntmps64
  go_wp2
  go_region
  all_goals
    go_wp2
    go_returns
    refine ⟨rfl, ?_⟩
    go_grown

set_option maxRecDepth 100000 in
set_option maxHeartbeats 2000000 in
theorem con_wup (p : Pk) (w : World) (h1 : p.hw = true) (h2 : p.hu = true) (h3 : p.hp = true) :
    Calls Tryz.prog 64 #[.agg p.cells] w fun e w' => e = .returned (.agg (conC p.lev p.cli p.cln p.kee true p.wt p.wb p.wq p.wr true p.us true p.pa)) ∧ Below w.heap.size w w' := by
  have a7 := p.c7
  have a8 := p.c8
  have a9 := p.c9
  have a10 := p.c10
  have a11 := p.c11
  have a16 := p.c16
  have a12 := p.c12
  have a13 := p.c13
  have a14 := p.c14
  have a15 := p.c15
  have a17 := p.c17
  have a18 := p.c18
  have a19 := p.c19
  rw [h1] at a11
  rw [h2] at a16
  rw [h3] at a18
  clear h1 h2 h3
  generalize p.cells = cs at *
  unfold conC
  go_enter Tryz.func64, Tryz.ntmps64
  go_wp2
  go_region
  all_goals
    go_wp2
    go_returns
    refine ⟨rfl, ?_⟩
    go_grown
/-- What a connect names, of what it says. -/
def conOf (p : Pk) : Array Value := conC p.lev p.cli p.cln p.kee p.hw (if p.hw then p.wt else ByteArray.empty) (if p.hw then p.wb else noSl) (if p.hw then p.wq else 0) (if p.hw then p.wr else false) p.hu (if p.hu then p.us else ByteArray.empty) (p.hu && p.hp) (if p.hu && p.hp then p.pa else noSl)
theorem con_of (p : Pk) (w : World) : Calls Tryz.prog 64 #[.agg p.cells] w fun e w' => e = .returned (.agg (conOf p)) ∧ Below w.heap.size w w' := by
  unfold conOf
  cases h1 : p.hw <;> cases h2 : p.hu <;> cases h3 : p.hp
  · exact con_nnn p w h1 h2
  · exact con_nnn p w h1 h2
  · exact con_nun p w h1 h2 h3
  · exact con_nup p w h1 h2 h3
  · exact con_wnn p w h1 h2
  · exact con_wnn p w h1 h2
  · exact con_wun p w h1 h2 h3
  · exact con_wup p w h1 h2 h3
/-- What a publish names, of what it says. -/
def pubOf (p : Pk) : Array Value := pubC (if 0 < p.qos then p.dup else false) p.qos p.ret (if 0 < p.qos then p.id else 0) p.top p.bod
theorem pub_of (p : Pk) (w : World) : Calls Tryz.prog 65 #[.agg p.cells] w fun e w' => e = .returned (.agg (pubOf p)) ∧ Below w.heap.size w w' := by
  unfold pubOf
  by_cases h : 0 < p.qos
  · rw [if_pos h, if_pos h]
    exact pub_of1 p w h
  · rw [if_neg h, if_neg h]
    exact pub_of0 p w h
end Go.Proofs.YtfpclkkkenekpaaGreat
