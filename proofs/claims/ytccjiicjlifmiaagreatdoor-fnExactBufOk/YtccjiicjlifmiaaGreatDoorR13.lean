/- Texts that the law FnExactBufOk uses. -/
import Derived.Shelf.Small.Utf8
import Derived.Shelf.Small.Strs
import Derived.Shelf.LaysM
import Derived.Shelf.Strconv.Clone
import Derived.Shelf.Strings.Search3
import Derived.Shelf.Strings.Count
import Derived.Shelf.Strings.Split
import Derived.Shelf.Strings.IndexAnyAll
import Derived.Test.YtccjiicjlifmiaaGreatDoorProg
import Derived.Test.YtccjiicjlifmiaaGreatDoorR12
set_option linter.unusedVariables false
set_option linter.unusedSimpArgs false
set_option maxRecDepth 100000
set_option maxHeartbeats 20000000
namespace Go.Proofs.YtccjiicjlifmiaaGreatDoor
open Go.RowKit

theorem qjw (lev : Int) (cli : ByteArray) (cln : Bool) (kee : Int) (hw : Bool) (wt : ByteArray) (wb : Sl) (wq : Int) (wr : Bool) (hu : Bool) (us : ByteArray) (hp : Bool) (pa : Sl) (w : World) : Calls Tryz.prog 67 #[.iface 124 (.agg (conC lev cli cln kee hw wt wb wq wr hu us hp pa))] w fun e w' => e = .returned (.agg ({ conP lev cli cln kee hw wt wb wq wr hu us hp pa with ty := 1 } : Pk).cells) ∧ Below w.heap.size w w' := by
 have A : Blk (w.alloc (.cells Pk.zero.cells 28)) w.heap.size Pk.zero := heap_alloc_new _ _
 go_enter Tryz.func67, Tryz.ntmps67
 go_wp2_with (first | refine al_pk ?_ | fail)
 refine (named_con lev cli cln kee hw wt wb wq wr hu us hp pa _).mono ?_
 rintro e y ⟨rfl, b1⟩
 replace A := A.next b1
 have b2 := bel (bel_new _ _) b1
 have D : Blk (y.alloc (.cells ((conP lev cli cln kee hw wt wb wq wr hu us hp pa).cells.setIfInBounds 0 (.int .i64 1)) 28)) y.heap.size ({ conP lev cli cln kee hw wt wb wq wr hu us hp pa with ty := 1 } : Pk) := heap_alloc_new _ _
 have A2 : Blk (y.alloc (.cells ((conP lev cli cln kee hw wt wb wq wr hu us hp pa).cells.setIfInBounds 0 (.int .i64 1)) 28)) w.heap.size Pk.zero := A.next (bel_new _ _)
 replace b2 := bel b2 (bel_new y (.cells ((conP lev cli cln kee hw wt wb wq wr hu us hp pa).cells.setIfInBounds 0 (.int .i64 1)) 28))
 go_wp2_with (first | refine qax (p := (conP lev cli cln kee hw wt wb wq wr hu us hp pa)) rfl rfl ?_ | fail)
 refine (qhq _ _).mono ?_
 rintro e z ⟨rfl, hz⟩
 subst hz
 go_wp2_with (first | refine qai D rfl _ rfl rfl ?_ | (refine qal (q := ({ conP lev cli cln kee hw wt wb wq wr hu us hp pa with ty := 1 } : Pk)) (old := Pk.zero) A2 rfl rfl ?_; intro w9 B9 b9) | fail)
 exact qap rfl rfl B9 rfl ⟨rfl, b2.trans b9⟩
theorem qjv (cod : Int) (pre : Bool) (w : World) : Calls Tryz.prog 67 #[.iface 127 (.agg #[.int .i64 cod, .bool pre])] w fun e w' => e = .returned (.agg ({ ackP cod pre with ty := 2 } : Pk).cells) ∧ Below w.heap.size w w' := by
 have A : Blk (w.alloc (.cells Pk.zero.cells 28)) w.heap.size Pk.zero := heap_alloc_new _ _
 go_enter Tryz.func67, Tryz.ntmps67
 go_wp2_with (first | refine al_pk ?_ | fail)
 refine (named_ack cod pre _).mono ?_
 rintro e y ⟨rfl, b1⟩
 replace A := A.next b1
 have b2 := bel (bel_new _ _) b1
 have D : Blk (y.alloc (.cells ((ackP cod pre).cells.setIfInBounds 0 (.int .i64 2)) 28)) y.heap.size ({ ackP cod pre with ty := 2 } : Pk) := heap_alloc_new _ _
 have A2 : Blk (y.alloc (.cells ((ackP cod pre).cells.setIfInBounds 0 (.int .i64 2)) 28)) w.heap.size Pk.zero := A.next (bel_new _ _)
 replace b2 := bel b2 (bel_new y (.cells ((ackP cod pre).cells.setIfInBounds 0 (.int .i64 2)) 28))
 go_wp2_with (first | refine qax (p := (ackP cod pre)) rfl rfl ?_ | fail)
 refine (qhp _ _).mono ?_
 rintro e z ⟨rfl, hz⟩
 subst hz
 go_wp2_with (first | refine qai D rfl _ rfl rfl ?_ | (refine qal (q := ({ ackP cod pre with ty := 2 } : Pk)) (old := Pk.zero) A2 rfl rfl ?_; intro w9 B9 b9) | fail)
 exact qap rfl rfl B9 rfl ⟨rfl, b2.trans b9⟩
theorem qjz (dup : Bool) (qos : Int) (ret : Bool) (id : Int) (top : ByteArray) (b : Sl) (w : World) : Calls Tryz.prog 67 #[.iface 129 (.agg (pubC dup qos ret id top b))] w fun e w' => e = .returned (.agg ({ pubP dup qos ret id top b with ty := 3 } : Pk).cells) ∧ Below w.heap.size w w' := by
 have A : Blk (w.alloc (.cells Pk.zero.cells 28)) w.heap.size Pk.zero := heap_alloc_new _ _
 go_enter Tryz.func67, Tryz.ntmps67
 go_wp2_with (first | refine al_pk ?_ | fail)
 refine (named_pub dup qos ret id top b _).mono ?_
 rintro e y ⟨rfl, b1⟩
 replace A := A.next b1
 have b2 := bel (bel_new _ _) b1
 have D : Blk (y.alloc (.cells ((pubP dup qos ret id top b).cells.setIfInBounds 0 (.int .i64 3)) 28)) y.heap.size ({ pubP dup qos ret id top b with ty := 3 } : Pk) := heap_alloc_new _ _
 have A2 : Blk (y.alloc (.cells ((pubP dup qos ret id top b).cells.setIfInBounds 0 (.int .i64 3)) 28)) w.heap.size Pk.zero := A.next (bel_new _ _)
 replace b2 := bel b2 (bel_new y (.cells ((pubP dup qos ret id top b).cells.setIfInBounds 0 (.int .i64 3)) 28))
 go_wp2_with (first | refine qax (p := (pubP dup qos ret id top b)) rfl rfl ?_ | fail)
 refine (qez _ _).mono ?_
 rintro e z ⟨rfl, hz⟩
 subst hz
 go_wp2_with (first | refine qai D rfl _ rfl rfl ?_ | (refine qal (q := ({ pubP dup qos ret id top b with ty := 3 } : Pk)) (old := Pk.zero) A2 rfl rfl ?_; intro w9 B9 b9) | fail)
 exact qap rfl rfl B9 rfl ⟨rfl, b2.trans b9⟩
theorem qkr (id : Int) (w : World) : Calls Tryz.prog 67 #[.iface 134 (.agg #[.int .i64 id])] w fun e w' => e = .returned (.agg ({ idP id with ty := 4 } : Pk).cells) ∧ Below w.heap.size w w' := by
 have A : Blk (w.alloc (.cells Pk.zero.cells 28)) w.heap.size Pk.zero := heap_alloc_new _ _
 go_enter Tryz.func67, Tryz.ntmps67
 go_wp2_with (first | refine al_pk ?_ | fail)
 refine (qjs id _).mono ?_
 rintro e y ⟨rfl, b1⟩
 replace A := A.next b1
 have b2 := bel (bel_new _ _) b1
 have D : Blk (y.alloc (.cells ((idP id).cells.setIfInBounds 0 (.int .i64 4)) 28)) y.heap.size ({ idP id with ty := 4 } : Pk) := heap_alloc_new _ _
 have A2 : Blk (y.alloc (.cells ((idP id).cells.setIfInBounds 0 (.int .i64 4)) 28)) w.heap.size Pk.zero := A.next (bel_new _ _)
 replace b2 := bel b2 (bel_new y (.cells ((idP id).cells.setIfInBounds 0 (.int .i64 4)) 28))
 go_wp2_with (first | refine qax (p := (idP id)) rfl rfl ?_ | fail)
 refine (qij _ _).mono ?_
 rintro e z ⟨rfl, hz⟩
 subst hz
 go_wp2_with (first | refine qai D rfl _ rfl rfl ?_ | (refine qal (q := ({ idP id with ty := 4 } : Pk)) (old := Pk.zero) A2 rfl rfl ?_; intro w9 B9 b9) | fail)
 exact qap rfl rfl B9 rfl ⟨rfl, b2.trans b9⟩
theorem qks (id : Int) (w : World) : Calls Tryz.prog 67 #[.iface 135 (.agg #[.int .i64 id])] w fun e w' => e = .returned (.agg ({ idP id with ty := 5 } : Pk).cells) ∧ Below w.heap.size w w' := by
 have A : Blk (w.alloc (.cells Pk.zero.cells 28)) w.heap.size Pk.zero := heap_alloc_new _ _
 go_enter Tryz.func67, Tryz.ntmps67
 go_wp2_with (first | refine al_pk ?_ | fail)
 refine (qjs id _).mono ?_
 rintro e y ⟨rfl, b1⟩
 replace A := A.next b1
 have b2 := bel (bel_new _ _) b1
 have D : Blk (y.alloc (.cells ((idP id).cells.setIfInBounds 0 (.int .i64 5)) 28)) y.heap.size ({ idP id with ty := 5 } : Pk) := heap_alloc_new _ _
 have A2 : Blk (y.alloc (.cells ((idP id).cells.setIfInBounds 0 (.int .i64 5)) 28)) w.heap.size Pk.zero := A.next (bel_new _ _)
 replace b2 := bel b2 (bel_new y (.cells ((idP id).cells.setIfInBounds 0 (.int .i64 5)) 28))
 go_wp2_with (first | refine qax (p := (idP id)) rfl rfl ?_ | fail)
 refine (qik _ _).mono ?_
 rintro e z ⟨rfl, hz⟩
 subst hz
 go_wp2_with (first | refine qai D rfl _ rfl rfl ?_ | (refine qal (q := ({ idP id with ty := 5 } : Pk)) (old := Pk.zero) A2 rfl rfl ?_; intro w9 B9 b9) | fail)
 exact qap rfl rfl B9 rfl ⟨rfl, b2.trans b9⟩
theorem qkt (id : Int) (w : World) : Calls Tryz.prog 67 #[.iface 136 (.agg #[.int .i64 id])] w fun e w' => e = .returned (.agg ({ idP id with ty := 6 } : Pk).cells) ∧ Below w.heap.size w w' := by
 have A : Blk (w.alloc (.cells Pk.zero.cells 28)) w.heap.size Pk.zero := heap_alloc_new _ _
 go_enter Tryz.func67, Tryz.ntmps67
 go_wp2_with (first | refine al_pk ?_ | fail)
 refine (qjs id _).mono ?_
 rintro e y ⟨rfl, b1⟩
 replace A := A.next b1
 have b2 := bel (bel_new _ _) b1
 have D : Blk (y.alloc (.cells ((idP id).cells.setIfInBounds 0 (.int .i64 6)) 28)) y.heap.size ({ idP id with ty := 6 } : Pk) := heap_alloc_new _ _
 have A2 : Blk (y.alloc (.cells ((idP id).cells.setIfInBounds 0 (.int .i64 6)) 28)) w.heap.size Pk.zero := A.next (bel_new _ _)
 replace b2 := bel b2 (bel_new y (.cells ((idP id).cells.setIfInBounds 0 (.int .i64 6)) 28))
 go_wp2_with (first | refine qax (p := (idP id)) rfl rfl ?_ | fail)
 refine (qil _ _).mono ?_
 rintro e z ⟨rfl, hz⟩
 subst hz
 go_wp2_with (first | refine qai D rfl _ rfl rfl ?_ | (refine qal (q := ({ idP id with ty := 6 } : Pk)) (old := Pk.zero) A2 rfl rfl ?_; intro w9 B9 b9) | fail)
 exact qap rfl rfl B9 rfl ⟨rfl, b2.trans b9⟩
theorem qjy (id : Int) (w : World) : Calls Tryz.prog 67 #[.iface 137 (.agg #[.int .i64 id])] w fun e w' => e = .returned (.agg ({ idP id with ty := 7 } : Pk).cells) ∧ Below w.heap.size w w' := by
 have A : Blk (w.alloc (.cells Pk.zero.cells 28)) w.heap.size Pk.zero := heap_alloc_new _ _
 go_enter Tryz.func67, Tryz.ntmps67
 go_wp2_with (first | refine al_pk ?_ | fail)
 refine (qjs id _).mono ?_
 rintro e y ⟨rfl, b1⟩
 replace A := A.next b1
 have b2 := bel (bel_new _ _) b1
 have D : Blk (y.alloc (.cells ((idP id).cells.setIfInBounds 0 (.int .i64 7)) 28)) y.heap.size ({ idP id with ty := 7 } : Pk) := heap_alloc_new _ _
 have A2 : Blk (y.alloc (.cells ((idP id).cells.setIfInBounds 0 (.int .i64 7)) 28)) w.heap.size Pk.zero := A.next (bel_new _ _)
 replace b2 := bel b2 (bel_new y (.cells ((idP id).cells.setIfInBounds 0 (.int .i64 7)) 28))
 go_wp2_with (first | refine qax (p := (idP id)) rfl rfl ?_ | fail)
 refine (qhs _ _).mono ?_
 rintro e z ⟨rfl, hz⟩
 subst hz
 go_wp2_with (first | refine qai D rfl _ rfl rfl ?_ | (refine qal (q := ({ idP id with ty := 7 } : Pk)) (old := Pk.zero) A2 rfl rfl ?_; intro w9 B9 b9) | fail)
 exact qap rfl rfl B9 rfl ⟨rfl, b2.trans b9⟩
theorem qiw (id : Int) (b : Sl) (w : World) : Calls Tryz.prog 67 #[.iface 139 (.agg #[.int .i64 id, .slice b.a b.n b.c])] w fun e w' => e = .returned (.agg ({ subP id b with ty := 8 } : Pk).cells) ∧ Below w.heap.size w w' := by
 have A : Blk (w.alloc (.cells Pk.zero.cells 28)) w.heap.size Pk.zero := heap_alloc_new _ _
 go_enter Tryz.func67, Tryz.ntmps67
 go_wp2_with (first | refine al_pk ?_ | fail)
 refine (named_sub id b _).mono ?_
 rintro e y ⟨rfl, b1⟩
 replace A := A.next b1
 have b2 := bel (bel_new _ _) b1
 have D : Blk (y.alloc (.cells ((subP id b).cells.setIfInBounds 0 (.int .i64 8)) 28)) y.heap.size ({ subP id b with ty := 8 } : Pk) := heap_alloc_new _ _
 have A2 : Blk (y.alloc (.cells ((subP id b).cells.setIfInBounds 0 (.int .i64 8)) 28)) w.heap.size Pk.zero := A.next (bel_new _ _)
 replace b2 := bel b2 (bel_new y (.cells ((subP id b).cells.setIfInBounds 0 (.int .i64 8)) 28))
 go_wp2_with (first | refine qax (p := (subP id b)) rfl rfl ?_ | fail)
 refine (qfx _ _).mono ?_
 rintro e z ⟨rfl, hz⟩
 subst hz
 go_wp2_with (first | refine qai D rfl _ rfl rfl ?_ | (refine qal (q := ({ subP id b with ty := 8 } : Pk)) (old := Pk.zero) A2 rfl rfl ?_; intro w9 B9 b9) | fail)
 exact qap rfl rfl B9 rfl ⟨rfl, b2.trans b9⟩
theorem qku (id : Int) (b : Sl) (w : World) : Calls Tryz.prog 67 #[.iface 141 (.agg #[.int .i64 id, .slice b.a b.n b.c])] w fun e w' => e = .returned (.agg ({ sackP id b with ty := 9 } : Pk).cells) ∧ Below w.heap.size w w' := by
 have A : Blk (w.alloc (.cells Pk.zero.cells 28)) w.heap.size Pk.zero := heap_alloc_new _ _
 go_enter Tryz.func67, Tryz.ntmps67
 go_wp2_with (first | refine al_pk ?_ | fail)
 refine (named_sack id b _).mono ?_
 rintro e y ⟨rfl, b1⟩
 replace A := A.next b1
 have b2 := bel (bel_new _ _) b1
 have D : Blk (y.alloc (.cells ((sackP id b).cells.setIfInBounds 0 (.int .i64 9)) 28)) y.heap.size ({ sackP id b with ty := 9 } : Pk) := heap_alloc_new _ _
 have A2 : Blk (y.alloc (.cells ((sackP id b).cells.setIfInBounds 0 (.int .i64 9)) 28)) w.heap.size Pk.zero := A.next (bel_new _ _)
 replace b2 := bel b2 (bel_new y (.cells ((sackP id b).cells.setIfInBounds 0 (.int .i64 9)) 28))
 go_wp2_with (first | refine qax (p := (sackP id b)) rfl rfl ?_ | fail)
 refine (qim _ _).mono ?_
 rintro e z ⟨rfl, hz⟩
 subst hz
 go_wp2_with (first | refine qai D rfl _ rfl rfl ?_ | (refine qal (q := ({ sackP id b with ty := 9 } : Pk)) (old := Pk.zero) A2 rfl rfl ?_; intro w9 B9 b9) | fail)
 exact qap rfl rfl B9 rfl ⟨rfl, b2.trans b9⟩
theorem qht (id : Int) (b : Sl) (w : World) : Calls Tryz.prog 67 #[.iface 143 (.agg #[.int .i64 id, .slice b.a b.n b.c])] w fun e w' => e = .returned (.agg ({ unsP id b with ty := 10 } : Pk).cells) ∧ Below w.heap.size w w' := by
 have A : Blk (w.alloc (.cells Pk.zero.cells 28)) w.heap.size Pk.zero := heap_alloc_new _ _
 go_enter Tryz.func67, Tryz.ntmps67
 go_wp2_with (first | refine al_pk ?_ | fail)
 refine (named_uns id b _).mono ?_
 rintro e y ⟨rfl, b1⟩
 replace A := A.next b1
 have b2 := bel (bel_new _ _) b1
 have D : Blk (y.alloc (.cells ((unsP id b).cells.setIfInBounds 0 (.int .i64 10)) 28)) y.heap.size ({ unsP id b with ty := 10 } : Pk) := heap_alloc_new _ _
 have A2 : Blk (y.alloc (.cells ((unsP id b).cells.setIfInBounds 0 (.int .i64 10)) 28)) w.heap.size Pk.zero := A.next (bel_new _ _)
 replace b2 := bel b2 (bel_new y (.cells ((unsP id b).cells.setIfInBounds 0 (.int .i64 10)) 28))
 go_wp2_with (first | refine qax (p := (unsP id b)) rfl rfl ?_ | fail)
 refine (qfb _ _).mono ?_
 rintro e z ⟨rfl, hz⟩
 subst hz
 go_wp2_with (first | refine qai D rfl _ rfl rfl ?_ | (refine qal (q := ({ unsP id b with ty := 10 } : Pk)) (old := Pk.zero) A2 rfl rfl ?_; intro w9 B9 b9) | fail)
 exact qap rfl rfl B9 rfl ⟨rfl, b2.trans b9⟩
theorem qji (id : Int) (w : World) : Calls Tryz.prog 67 #[.iface 144 (.agg #[.int .i64 id])] w fun e w' => e = .returned (.agg ({ idP id with ty := 11 } : Pk).cells) ∧ Below w.heap.size w w' := by
 have A : Blk (w.alloc (.cells Pk.zero.cells 28)) w.heap.size Pk.zero := heap_alloc_new _ _
 go_enter Tryz.func67, Tryz.ntmps67
 go_wp2_with (first | refine al_pk ?_ | fail)
 refine (qjs id _).mono ?_
 rintro e y ⟨rfl, b1⟩
 replace A := A.next b1
 have b2 := bel (bel_new _ _) b1
 have D : Blk (y.alloc (.cells ((idP id).cells.setIfInBounds 0 (.int .i64 11)) 28)) y.heap.size ({ idP id with ty := 11 } : Pk) := heap_alloc_new _ _
 have A2 : Blk (y.alloc (.cells ((idP id).cells.setIfInBounds 0 (.int .i64 11)) 28)) w.heap.size Pk.zero := A.next (bel_new _ _)
 replace b2 := bel b2 (bel_new y (.cells ((idP id).cells.setIfInBounds 0 (.int .i64 11)) 28))
 go_wp2_with (first | refine qax (p := (idP id)) rfl rfl ?_ | fail)
 refine (qgt _ _).mono ?_
 rintro e z ⟨rfl, hz⟩
 subst hz
 go_wp2_with (first | refine qai D rfl _ rfl rfl ?_ | (refine qal (q := ({ idP id with ty := 11 } : Pk)) (old := Pk.zero) A2 rfl rfl ?_; intro w9 B9 b9) | fail)
 exact qap rfl rfl B9 rfl ⟨rfl, b2.trans b9⟩
theorem qjx  (w : World) : Calls Tryz.prog 67 #[.iface 148 (.agg #[])] w fun e w' => e = .returned (.agg ({ noP  with ty := 12 } : Pk).cells) ∧ Below w.heap.size w w' := by
 have A : Blk (w.alloc (.cells Pk.zero.cells 28)) w.heap.size Pk.zero := heap_alloc_new _ _
 go_enter Tryz.func67, Tryz.ntmps67
 go_wp2_with (first | refine al_pk ?_ | fail)
 refine (qps  _).mono ?_
 rintro e y ⟨rfl, b1⟩
 replace A := A.next b1
 have b2 := bel (bel_new _ _) b1
 have D : Blk (y.alloc (.cells ((noP).cells.setIfInBounds 0 (.int .i64 12)) 28)) y.heap.size ({ noP  with ty := 12 } : Pk) := heap_alloc_new _ _
 have A2 : Blk (y.alloc (.cells ((noP).cells.setIfInBounds 0 (.int .i64 12)) 28)) w.heap.size Pk.zero := A.next (bel_new _ _)
 replace b2 := bel b2 (bel_new y (.cells ((noP).cells.setIfInBounds 0 (.int .i64 12)) 28))
 go_wp2_with (first | refine qax (p := (noP)) rfl rfl ?_ | fail)
 refine (qhr _ _).mono ?_
 rintro e z ⟨rfl, hz⟩
 subst hz
 go_wp2_with (first | refine qai D rfl _ rfl rfl ?_ | (refine qal (q := ({ noP  with ty := 12 } : Pk)) (old := Pk.zero) A2 rfl rfl ?_; intro w9 B9 b9) | fail)
 exact qap rfl rfl B9 rfl ⟨rfl, b2.trans b9⟩
theorem qjh  (w : World) : Calls Tryz.prog 67 #[.iface 149 (.agg #[])] w fun e w' => e = .returned (.agg ({ noP  with ty := 13 } : Pk).cells) ∧ Below w.heap.size w w' := by
 have A : Blk (w.alloc (.cells Pk.zero.cells 28)) w.heap.size Pk.zero := heap_alloc_new _ _
 go_enter Tryz.func67, Tryz.ntmps67
 go_wp2_with (first | refine al_pk ?_ | fail)
 refine (qps  _).mono ?_
 rintro e y ⟨rfl, b1⟩
 replace A := A.next b1
 have b2 := bel (bel_new _ _) b1
 have D : Blk (y.alloc (.cells ((noP).cells.setIfInBounds 0 (.int .i64 13)) 28)) y.heap.size ({ noP  with ty := 13 } : Pk) := heap_alloc_new _ _
 have A2 : Blk (y.alloc (.cells ((noP).cells.setIfInBounds 0 (.int .i64 13)) 28)) w.heap.size Pk.zero := A.next (bel_new _ _)
 replace b2 := bel b2 (bel_new y (.cells ((noP).cells.setIfInBounds 0 (.int .i64 13)) 28))
 go_wp2_with (first | refine qax (p := (noP)) rfl rfl ?_ | fail)
 refine (qgs _ _).mono ?_
 rintro e z ⟨rfl, hz⟩
 subst hz
 go_wp2_with (first | refine qai D rfl _ rfl rfl ?_ | (refine qal (q := ({ noP  with ty := 13 } : Pk)) (old := Pk.zero) A2 rfl rfl ?_; intro w9 B9 b9) | fail)
 exact qap rfl rfl B9 rfl ⟨rfl, b2.trans b9⟩
theorem qif  (w : World) : Calls Tryz.prog 67 #[.iface 150 (.agg #[])] w fun e w' => e = .returned (.agg ({ noP  with ty := 14 } : Pk).cells) ∧ Below w.heap.size w w' := by
 have A : Blk (w.alloc (.cells Pk.zero.cells 28)) w.heap.size Pk.zero := heap_alloc_new _ _
 go_enter Tryz.func67, Tryz.ntmps67
 go_wp2_with (first | refine al_pk ?_ | fail)
 refine (qps  _).mono ?_
 rintro e y ⟨rfl, b1⟩
 replace A := A.next b1
 have b2 := bel (bel_new _ _) b1
 have D : Blk (y.alloc (.cells ((noP).cells.setIfInBounds 0 (.int .i64 14)) 28)) y.heap.size ({ noP  with ty := 14 } : Pk) := heap_alloc_new _ _
 have A2 : Blk (y.alloc (.cells ((noP).cells.setIfInBounds 0 (.int .i64 14)) 28)) w.heap.size Pk.zero := A.next (bel_new _ _)
 replace b2 := bel b2 (bel_new y (.cells ((noP).cells.setIfInBounds 0 (.int .i64 14)) 28))
 go_wp2_with (first | refine qax (p := (noP)) rfl rfl ?_ | fail)
 refine (qfp _ _).mono ?_
 rintro e z ⟨rfl, hz⟩
 subst hz
 go_wp2_with (first | refine qai D rfl _ rfl rfl ?_ | (refine qal (q := ({ noP  with ty := 14 } : Pk)) (old := Pk.zero) A2 rfl rfl ?_; intro w9 B9 b9) | fail)
 exact qap rfl rfl B9 rfl ⟨rfl, b2.trans b9⟩
end Go.Proofs.YtccjiicjlifmiaaGreatDoor
namespace Go.Proofs
open Go.Shelf
def Tryz.lays119_ren : Go.Shelf.Ren := ⟨fun | 119 => 213 | n => n, fun | 21 => 21 | 4 => 4 | n => n, fun | n => n⟩
theorem Tryz.lays119 : Go.Proofs.Lays.n119 Tryz.prog Tryz.lays119_ren := {
 mixed := by kernel_rfl
 f119 := Tryz.func213.trans (congrArg some (by kernel_rfl))
 t4 := Tryz.underlying4
 a4 := Tryz.isAgg4
 z4 := Tryz.sizeOf4
 v4 := Tryz.zeroValue4
 t21 := Tryz.underlying21
 a21 := Tryz.isAgg21
 z21 := Tryz.sizeOf21
 v21 := Tryz.zeroValue21 }
def Tryz.lays137_ren : Go.Shelf.Ren := ⟨fun | 137 => 212 | 217 => 220 | 266 => 223 | n => n, fun | 9 => 9 | 5 => 5 | 3 => 3 | n => n, fun | n => n⟩
theorem Tryz.lays137 : Go.Proofs.Lays.n137 Tryz.prog Tryz.lays137_ren := {
 mixed := by kernel_rfl
 f137 := Tryz.func212.trans (congrArg some (by kernel_rfl))
 f217 := Tryz.func220.trans (congrArg some (by kernel_rfl))
 f266 := Tryz.func223.trans (congrArg some (by kernel_rfl))
 t3 := Tryz.underlying3
 a3 := Tryz.isAgg3
 z3 := Tryz.sizeOf3
 v3 := Tryz.zeroValue3
 t5 := Tryz.underlying5
 a5 := Tryz.isAgg5
 z5 := Tryz.sizeOf5
 v5 := Tryz.zeroValue5
 t9 := Tryz.underlying9
 a9 := Tryz.isAgg9
 z9 := Tryz.sizeOf9
 v9 := Tryz.zeroValue9 }
def Tryz.laysM316_ren : Go.Shelf.Ren := ⟨fun | 316 => 204 | n => n, fun | 9 => 9 | 3 => 3 | 4 => 4 | 37 => 22 | 0 => 0 | 127 => 228 | 5 => 5 | n => n, fun | n => n⟩
theorem Tryz.laysM316 : Go.Proofs.LaysM.n316 Tryz.prog Tryz.laysM316_ren := {
 mixed := by kernel_rfl
 f316 := Tryz.func204.trans (congrArg some (by kernel_rfl))
 t0 := Tryz.underlying0
 a0 := Tryz.isAgg0
 z0 := Tryz.sizeOf0
 v0 := Tryz.zeroValue0
 t3 := Tryz.underlying3
 a3 := Tryz.isAgg3
 z3 := Tryz.sizeOf3
 v3 := Tryz.zeroValue3
 t4 := Tryz.underlying4
 a4 := Tryz.isAgg4
 z4 := Tryz.sizeOf4
 v4 := Tryz.zeroValue4
 t9 := Tryz.underlying9
 a9 := Tryz.isAgg9
 z9 := Tryz.sizeOf9
 v9 := Tryz.zeroValue9
 t37 := Tryz.underlying22
 a37 := Tryz.isAgg22
 z37 := Tryz.sizeOf22
 v37 := Tryz.zeroValue22
 t127 := Tryz.underlying228
 a127 := Tryz.isAgg228
 z127 := Tryz.sizeOf228
 v127 := Tryz.zeroValue228
 t5 := Tryz.underlying5
 a5 := Tryz.isAgg5
 z5 := Tryz.sizeOf5
 v5 := Tryz.zeroValue5
 i0 := by kernel_rfl
 i3 := by kernel_rfl
 i4 := by kernel_rfl
 i5 := by kernel_rfl
 i9 := by kernel_rfl
 i37 := by kernel_rfl
 i127 := by kernel_rfl }
def Tryz.lays221_ren : Go.Shelf.Ren := ⟨fun | 221 => 203 | 268 => 209 | 138 => 210 | 143 => 211 | 195 => 216 | 197 => 217 | 218 => 218 | 219 => 219 | 260 => 221 | 217 => 220 | 225 => 215 | 224 => 214 | 267 => 222 | 266 => 223 | 314 => 224 | n => n, fun | 9 => 9 | 3 => 3 | 31 => 25 | 4 => 4 | 0 => 0 | 105 => 248 | 21 => 21 | 5 => 5 | 46 => 153 | 119 => 250 | 139 => 253 | 138 => 252 | 146 => 254 | 51 => 225 | n => n, fun | 1 => 2 | 3 => 3 | 4 => 4 | n => n⟩
theorem Tryz.lays221 : Go.Proofs.Lays.n221 Tryz.prog Tryz.lays221_ren := {
 mixed := by kernel_rfl
 f138 := Tryz.func210.trans (congrArg some (by kernel_rfl))
 f143 := Tryz.func211.trans (congrArg some (by kernel_rfl))
 f195 := Tryz.func216.trans (congrArg some (by kernel_rfl))
 f197 := Tryz.func217.trans (congrArg some (by kernel_rfl))
 f217 := Tryz.func220.trans (congrArg some (by kernel_rfl))
 f218 := Tryz.func218.trans (congrArg some (by kernel_rfl))
 f219 := Tryz.func219.trans (congrArg some (by kernel_rfl))
 f221 := Tryz.func203.trans (congrArg some (by kernel_rfl))
 f224 := Tryz.func214.trans (congrArg some (by kernel_rfl))
 f225 := Tryz.func215.trans (congrArg some (by kernel_rfl))
 f260 := Tryz.func221.trans (congrArg some (by kernel_rfl))
 f266 := Tryz.func223.trans (congrArg some (by kernel_rfl))
 f267 := Tryz.func222.trans (congrArg some (by kernel_rfl))
 f268 := Tryz.func209.trans (congrArg some (by kernel_rfl))
 f314 := Tryz.func224.trans (congrArg some (by kernel_rfl))
 t0 := Tryz.underlying0
 a0 := Tryz.isAgg0
 z0 := Tryz.sizeOf0
 v0 := Tryz.zeroValue0
 t3 := Tryz.underlying3
 a3 := Tryz.isAgg3
 z3 := Tryz.sizeOf3
 v3 := Tryz.zeroValue3
 t4 := Tryz.underlying4
 a4 := Tryz.isAgg4
 z4 := Tryz.sizeOf4
 v4 := Tryz.zeroValue4
 t5 := Tryz.underlying5
 a5 := Tryz.isAgg5
 z5 := Tryz.sizeOf5
 v5 := Tryz.zeroValue5
 t9 := Tryz.underlying9
 a9 := Tryz.isAgg9
 z9 := Tryz.sizeOf9
 v9 := Tryz.zeroValue9
 t21 := Tryz.underlying21
 a21 := Tryz.isAgg21
 z21 := Tryz.sizeOf21
 v21 := Tryz.zeroValue21
 t31 := Tryz.underlying25
 a31 := Tryz.isAgg25
 z31 := Tryz.sizeOf25
 v31 := Tryz.zeroValue25
 t46 := Tryz.underlying153
 a46 := Tryz.isAgg153
 z46 := Tryz.sizeOf153
 v46 := Tryz.zeroValue153
 t51 := Tryz.underlying225
 a51 := Tryz.isAgg225
 z51 := Tryz.sizeOf225
 v51 := Tryz.zeroValue225
 t105 := Tryz.underlying248
 a105 := Tryz.isAgg248
 z105 := Tryz.sizeOf248
 v105 := Tryz.zeroValue248
 t119 := Tryz.underlying250
 a119 := Tryz.isAgg250
 z119 := Tryz.sizeOf250
 t138 := Tryz.underlying252
 a138 := Tryz.isAgg252
 z138 := Tryz.sizeOf252
 v138 := Tryz.zeroValue252
 t139 := Tryz.underlying253
 a139 := Tryz.isAgg253
 z139 := Tryz.sizeOf253
 v139 := Tryz.zeroValue253
 t146 := Tryz.underlying254
 a146 := Tryz.isAgg254
 z146 := Tryz.sizeOf254
 v146 := Tryz.zeroValue254
 g1 := by kernel_rfl
 g3 := by kernel_rfl
 g4 := by kernel_rfl }
def Tryz.lays152_ren : Go.Shelf.Ren := ⟨fun | 152 => 205 | 137 => 212 | 119 => 213 | 224 => 214 | 225 => 215 | 217 => 220 | 266 => 223 | n => n, fun | 9 => 9 | 21 => 21 | 3 => 3 | 4 => 4 | 5 => 5 | 0 => 0 | 46 => 153 | n => n, fun | n => n⟩
theorem Tryz.lays152 : Go.Proofs.Lays.n152 Tryz.prog Tryz.lays152_ren := {
 mixed := by kernel_rfl
 f119 := Tryz.func213.trans (congrArg some (by kernel_rfl))
 f137 := Tryz.func212.trans (congrArg some (by kernel_rfl))
 f152 := Tryz.func205.trans (congrArg some (by kernel_rfl))
 f217 := Tryz.func220.trans (congrArg some (by kernel_rfl))
 f224 := Tryz.func214.trans (congrArg some (by kernel_rfl))
 f225 := Tryz.func215.trans (congrArg some (by kernel_rfl))
 f266 := Tryz.func223.trans (congrArg some (by kernel_rfl))
 t0 := Tryz.underlying0
 a0 := Tryz.isAgg0
 z0 := Tryz.sizeOf0
 v0 := Tryz.zeroValue0
 t3 := Tryz.underlying3
 a3 := Tryz.isAgg3
 z3 := Tryz.sizeOf3
 v3 := Tryz.zeroValue3
 t4 := Tryz.underlying4
 a4 := Tryz.isAgg4
 z4 := Tryz.sizeOf4
 v4 := Tryz.zeroValue4
 t5 := Tryz.underlying5
 a5 := Tryz.isAgg5
 z5 := Tryz.sizeOf5
 v5 := Tryz.zeroValue5
 t9 := Tryz.underlying9
 a9 := Tryz.isAgg9
 z9 := Tryz.sizeOf9
 v9 := Tryz.zeroValue9
 t21 := Tryz.underlying21
 a21 := Tryz.isAgg21
 z21 := Tryz.sizeOf21
 v21 := Tryz.zeroValue21
 t46 := Tryz.underlying153
 a46 := Tryz.isAgg153
 z46 := Tryz.sizeOf153
 v46 := Tryz.zeroValue153 }
def Tryz.lays226_ren : Go.Shelf.Ren := ⟨fun | 226 => 206 | n => n, fun | 3 => 3 | 4 => 4 | n => n, fun | n => n⟩
theorem Tryz.lays226 : Go.Proofs.Lays.n226 Tryz.prog Tryz.lays226_ren := {
 mixed := by kernel_rfl
 f226 := Tryz.func206.trans (congrArg some (by kernel_rfl))
 t3 := Tryz.underlying3
 a3 := Tryz.isAgg3
 z3 := Tryz.sizeOf3
 v3 := Tryz.zeroValue3
 t4 := Tryz.underlying4
 a4 := Tryz.isAgg4
 z4 := Tryz.sizeOf4
 v4 := Tryz.zeroValue4 }
def Tryz.lays153_ren : Go.Shelf.Ren := ⟨fun | 153 => 202 | 152 => 205 | 226 => 206 | 227 => 207 | 228 => 208 | 137 => 212 | 119 => 213 | 224 => 214 | 225 => 215 | 217 => 220 | 266 => 223 | n => n, fun | 9 => 9 | 3 => 3 | 4 => 4 | 5 => 5 | 21 => 21 | 117 => 240 | 116 => 239 | 0 => 0 | 46 => 153 | 124 => 247 | n => n, fun | n => n⟩
theorem Tryz.lays153 : Go.Proofs.Lays.n153 Tryz.prog Tryz.lays153_ren := {
 mixed := by kernel_rfl
 f119 := Tryz.func213.trans (congrArg some (by kernel_rfl))
 f137 := Tryz.func212.trans (congrArg some (by kernel_rfl))
 f152 := Tryz.func205.trans (congrArg some (by kernel_rfl))
 f153 := Tryz.func202.trans (congrArg some (by kernel_rfl))
 f217 := Tryz.func220.trans (congrArg some (by kernel_rfl))
 f224 := Tryz.func214.trans (congrArg some (by kernel_rfl))
 f225 := Tryz.func215.trans (congrArg some (by kernel_rfl))
 f226 := Tryz.func206.trans (congrArg some (by kernel_rfl))
 f227 := Tryz.func207.trans (congrArg some (by kernel_rfl))
 f228 := Tryz.func208.trans (congrArg some (by kernel_rfl))
 f266 := Tryz.func223.trans (congrArg some (by kernel_rfl))
 t0 := Tryz.underlying0
 a0 := Tryz.isAgg0
 z0 := Tryz.sizeOf0
 v0 := Tryz.zeroValue0
 t3 := Tryz.underlying3
 a3 := Tryz.isAgg3
 z3 := Tryz.sizeOf3
 v3 := Tryz.zeroValue3
 t4 := Tryz.underlying4
 a4 := Tryz.isAgg4
 z4 := Tryz.sizeOf4
 v4 := Tryz.zeroValue4
 t5 := Tryz.underlying5
 a5 := Tryz.isAgg5
 z5 := Tryz.sizeOf5
 v5 := Tryz.zeroValue5
 t9 := Tryz.underlying9
 a9 := Tryz.isAgg9
 z9 := Tryz.sizeOf9
 v9 := Tryz.zeroValue9
 t21 := Tryz.underlying21
 a21 := Tryz.isAgg21
 z21 := Tryz.sizeOf21
 v21 := Tryz.zeroValue21
 t46 := Tryz.underlying153
 a46 := Tryz.isAgg153
 z46 := Tryz.sizeOf153
 v46 := Tryz.zeroValue153
 t116 := Tryz.underlying239
 a116 := Tryz.isAgg239
 z116 := Tryz.sizeOf239
 t117 := Tryz.underlying240
 a117 := Tryz.isAgg240
 z117 := Tryz.sizeOf240
 v117 := Tryz.zeroValue240
 t124 := Tryz.underlying247
 a124 := Tryz.isAgg247
 z124 := Tryz.sizeOf247
 v124 := Tryz.zeroValue247 }
end Go.Proofs
