/- The program's packetOf at each kind. -/
import Derived.Test.YtccjiicjlifmiaaGreatDoorKNam
set_option linter.unusedVariables false
set_option linter.unusedSimpArgs false
namespace Go.Proofs.YtccjiicjlifmiaaGreatDoor
open Go.RowKit

set_option maxRecDepth 100000 in
set_option maxHeartbeats 1000000 in
theorem packet_connectKind (lev : Int) (cli : ByteArray) (cln : Bool) (kee : Int) (hw : Bool) (wt : ByteArray) (wb : Sl) (wq : Int) (wr : Bool) (hu : Bool) (us : ByteArray) (hp : Bool) (pa : Sl) (w : World) : Calls Tryz.prog 67 #[.iface 124 (.agg (conC lev cli cln kee hw wt wb wq wr hu us hp pa))] w fun e w' => e = .returned (.agg ({ conP lev cli cln kee hw wt wb wq wr hu us hp pa with ty := 1 } : Pk).cells) ∧ Below w.heap.size w w' := by
  have A : Blk (w.alloc (.cells Pk.zero.cells 28)) w.heap.size Pk.zero := heap_alloc_new _ _
  go_enter Tryz.func67, Tryz.ntmps67
  go_wp2_with (first | refine al_pk ?_ | fail)
  refine (named_con lev cli cln kee hw wt wb wq wr hu us hp pa _).mono ?_
  rintro e y ⟨rfl, b1⟩
  replace A := A.next b1
  have b2 := bel (bel_new _ _) b1
  have D : Blk (y.alloc (.cells ((conP lev cli cln kee hw wt wb wq wr hu us hp pa).cells.setIfInBounds 0 (.int .i64 1)) 28)) y.heap.size ({ conP lev cli cln kee hw wt wb wq wr hu us hp pa with ty := 1 } : Pk) := heap_alloc_new _ _
  have A2 : Blk (y.alloc (.cells ((conP lev cli cln kee hw wt wb wq wr hu us hp pa).cells.setIfInBounds 0 (.int .i64 1)) 28)) w.heap.size Pk.zero := A.next (bel_new _ _)
  replace b2 := bel b2 (bel_new y (.cells ((conP lev cli cln kee hw wt wb wq wr hu us hp pa).cells.setIfInBounds 0 (.int .i64 1)) 28))
  go_wp2_with (first | refine var_pk (p := (conP lev cli cln kee hw wt wb wq wr hu us hp pa)) rfl rfl ?_ | fail)
  refine (type_connectKind _ _).mono ?_
  rintro e z ⟨rfl, hz⟩
  subst hz
  go_wp2_with (first | refine load_pk D rfl _ rfl rfl ?_ | (refine store_pk (q := ({ conP lev cli cln kee hw wt wb wq wr hu us hp pa with ty := 1 } : Pk)) (old := Pk.zero) A2 rfl rfl ?_; intro w9 B9 b9) | fail)
  exact ret_pk rfl rfl B9 rfl ⟨rfl, b2.trans b9⟩
set_option maxRecDepth 100000 in
set_option maxHeartbeats 1000000 in
theorem packet_connAckKind (cod : Int) (pre : Bool) (w : World) : Calls Tryz.prog 67 #[.iface 127 (.agg #[.int .i64 cod, .bool pre])] w fun e w' => e = .returned (.agg ({ ackP cod pre with ty := 2 } : Pk).cells) ∧ Below w.heap.size w w' := by
  have A : Blk (w.alloc (.cells Pk.zero.cells 28)) w.heap.size Pk.zero := heap_alloc_new _ _
  go_enter Tryz.func67, Tryz.ntmps67
  go_wp2_with (first | refine al_pk ?_ | fail)
  refine (named_ack cod pre _).mono ?_
  rintro e y ⟨rfl, b1⟩
  replace A := A.next b1
  have b2 := bel (bel_new _ _) b1
  have D : Blk (y.alloc (.cells ((ackP cod pre).cells.setIfInBounds 0 (.int .i64 2)) 28)) y.heap.size ({ ackP cod pre with ty := 2 } : Pk) := heap_alloc_new _ _
  have A2 : Blk (y.alloc (.cells ((ackP cod pre).cells.setIfInBounds 0 (.int .i64 2)) 28)) w.heap.size Pk.zero := A.next (bel_new _ _)
  replace b2 := bel b2 (bel_new y (.cells ((ackP cod pre).cells.setIfInBounds 0 (.int .i64 2)) 28))
  go_wp2_with (first | refine var_pk (p := (ackP cod pre)) rfl rfl ?_ | fail)
  refine (type_connAckKind _ _).mono ?_
  rintro e z ⟨rfl, hz⟩
  subst hz
  go_wp2_with (first | refine load_pk D rfl _ rfl rfl ?_ | (refine store_pk (q := ({ ackP cod pre with ty := 2 } : Pk)) (old := Pk.zero) A2 rfl rfl ?_; intro w9 B9 b9) | fail)
  exact ret_pk rfl rfl B9 rfl ⟨rfl, b2.trans b9⟩
set_option maxRecDepth 100000 in
set_option maxHeartbeats 1000000 in
theorem packet_publishKind (dup : Bool) (qos : Int) (ret : Bool) (id : Int) (top : ByteArray) (b : Sl) (w : World) : Calls Tryz.prog 67 #[.iface 129 (.agg (pubC dup qos ret id top b))] w fun e w' => e = .returned (.agg ({ pubP dup qos ret id top b with ty := 3 } : Pk).cells) ∧ Below w.heap.size w w' := by
  have A : Blk (w.alloc (.cells Pk.zero.cells 28)) w.heap.size Pk.zero := heap_alloc_new _ _
  go_enter Tryz.func67, Tryz.ntmps67
  go_wp2_with (first | refine al_pk ?_ | fail)
  refine (named_pub dup qos ret id top b _).mono ?_
  rintro e y ⟨rfl, b1⟩
  replace A := A.next b1
  have b2 := bel (bel_new _ _) b1
  have D : Blk (y.alloc (.cells ((pubP dup qos ret id top b).cells.setIfInBounds 0 (.int .i64 3)) 28)) y.heap.size ({ pubP dup qos ret id top b with ty := 3 } : Pk) := heap_alloc_new _ _
  have A2 : Blk (y.alloc (.cells ((pubP dup qos ret id top b).cells.setIfInBounds 0 (.int .i64 3)) 28)) w.heap.size Pk.zero := A.next (bel_new _ _)
  replace b2 := bel b2 (bel_new y (.cells ((pubP dup qos ret id top b).cells.setIfInBounds 0 (.int .i64 3)) 28))
  go_wp2_with (first | refine var_pk (p := (pubP dup qos ret id top b)) rfl rfl ?_ | fail)
  refine (type_publishKind _ _).mono ?_
  rintro e z ⟨rfl, hz⟩
  subst hz
  go_wp2_with (first | refine load_pk D rfl _ rfl rfl ?_ | (refine store_pk (q := ({ pubP dup qos ret id top b with ty := 3 } : Pk)) (old := Pk.zero) A2 rfl rfl ?_; intro w9 B9 b9) | fail)
  exact ret_pk rfl rfl B9 rfl ⟨rfl, b2.trans b9⟩
set_option maxRecDepth 100000 in
set_option maxHeartbeats 1000000 in
theorem packet_pubAckKind (id : Int) (w : World) : Calls Tryz.prog 67 #[.iface 134 (.agg #[.int .i64 id])] w fun e w' => e = .returned (.agg ({ idP id with ty := 4 } : Pk).cells) ∧ Below w.heap.size w w' := by
  have A : Blk (w.alloc (.cells Pk.zero.cells 28)) w.heap.size Pk.zero := heap_alloc_new _ _
  go_enter Tryz.func67, Tryz.ntmps67
  go_wp2_with (first | refine al_pk ?_ | fail)
  refine (named_id id _).mono ?_
  rintro e y ⟨rfl, b1⟩
  replace A := A.next b1
  have b2 := bel (bel_new _ _) b1
  have D : Blk (y.alloc (.cells ((idP id).cells.setIfInBounds 0 (.int .i64 4)) 28)) y.heap.size ({ idP id with ty := 4 } : Pk) := heap_alloc_new _ _
  have A2 : Blk (y.alloc (.cells ((idP id).cells.setIfInBounds 0 (.int .i64 4)) 28)) w.heap.size Pk.zero := A.next (bel_new _ _)
  replace b2 := bel b2 (bel_new y (.cells ((idP id).cells.setIfInBounds 0 (.int .i64 4)) 28))
  go_wp2_with (first | refine var_pk (p := (idP id)) rfl rfl ?_ | fail)
  refine (type_pubAckKind _ _).mono ?_
  rintro e z ⟨rfl, hz⟩
  subst hz
  go_wp2_with (first | refine load_pk D rfl _ rfl rfl ?_ | (refine store_pk (q := ({ idP id with ty := 4 } : Pk)) (old := Pk.zero) A2 rfl rfl ?_; intro w9 B9 b9) | fail)
  exact ret_pk rfl rfl B9 rfl ⟨rfl, b2.trans b9⟩
set_option maxRecDepth 100000 in
set_option maxHeartbeats 1000000 in
theorem packet_pubRecKind (id : Int) (w : World) : Calls Tryz.prog 67 #[.iface 135 (.agg #[.int .i64 id])] w fun e w' => e = .returned (.agg ({ idP id with ty := 5 } : Pk).cells) ∧ Below w.heap.size w w' := by
  have A : Blk (w.alloc (.cells Pk.zero.cells 28)) w.heap.size Pk.zero := heap_alloc_new _ _
  go_enter Tryz.func67, Tryz.ntmps67
  go_wp2_with (first | refine al_pk ?_ | fail)
  refine (named_id id _).mono ?_
  rintro e y ⟨rfl, b1⟩
  replace A := A.next b1
  have b2 := bel (bel_new _ _) b1
  have D : Blk (y.alloc (.cells ((idP id).cells.setIfInBounds 0 (.int .i64 5)) 28)) y.heap.size ({ idP id with ty := 5 } : Pk) := heap_alloc_new _ _
  have A2 : Blk (y.alloc (.cells ((idP id).cells.setIfInBounds 0 (.int .i64 5)) 28)) w.heap.size Pk.zero := A.next (bel_new _ _)
  replace b2 := bel b2 (bel_new y (.cells ((idP id).cells.setIfInBounds 0 (.int .i64 5)) 28))
  go_wp2_with (first | refine var_pk (p := (idP id)) rfl rfl ?_ | fail)
  refine (type_pubRecKind _ _).mono ?_
  rintro e z ⟨rfl, hz⟩
  subst hz
  go_wp2_with (first | refine load_pk D rfl _ rfl rfl ?_ | (refine store_pk (q := ({ idP id with ty := 5 } : Pk)) (old := Pk.zero) A2 rfl rfl ?_; intro w9 B9 b9) | fail)
  exact ret_pk rfl rfl B9 rfl ⟨rfl, b2.trans b9⟩
set_option maxRecDepth 100000 in
set_option maxHeartbeats 1000000 in
theorem packet_pubRelKind (id : Int) (w : World) : Calls Tryz.prog 67 #[.iface 136 (.agg #[.int .i64 id])] w fun e w' => e = .returned (.agg ({ idP id with ty := 6 } : Pk).cells) ∧ Below w.heap.size w w' := by
  have A : Blk (w.alloc (.cells Pk.zero.cells 28)) w.heap.size Pk.zero := heap_alloc_new _ _
  go_enter Tryz.func67, Tryz.ntmps67
  go_wp2_with (first | refine al_pk ?_ | fail)
  refine (named_id id _).mono ?_
  rintro e y ⟨rfl, b1⟩
  replace A := A.next b1
  have b2 := bel (bel_new _ _) b1
  have D : Blk (y.alloc (.cells ((idP id).cells.setIfInBounds 0 (.int .i64 6)) 28)) y.heap.size ({ idP id with ty := 6 } : Pk) := heap_alloc_new _ _
  have A2 : Blk (y.alloc (.cells ((idP id).cells.setIfInBounds 0 (.int .i64 6)) 28)) w.heap.size Pk.zero := A.next (bel_new _ _)
  replace b2 := bel b2 (bel_new y (.cells ((idP id).cells.setIfInBounds 0 (.int .i64 6)) 28))
  go_wp2_with (first | refine var_pk (p := (idP id)) rfl rfl ?_ | fail)
  refine (type_pubRelKind _ _).mono ?_
  rintro e z ⟨rfl, hz⟩
  subst hz
  go_wp2_with (first | refine load_pk D rfl _ rfl rfl ?_ | (refine store_pk (q := ({ idP id with ty := 6 } : Pk)) (old := Pk.zero) A2 rfl rfl ?_; intro w9 B9 b9) | fail)
  exact ret_pk rfl rfl B9 rfl ⟨rfl, b2.trans b9⟩
set_option maxRecDepth 100000 in
set_option maxHeartbeats 1000000 in
theorem packet_pubCompKind (id : Int) (w : World) : Calls Tryz.prog 67 #[.iface 137 (.agg #[.int .i64 id])] w fun e w' => e = .returned (.agg ({ idP id with ty := 7 } : Pk).cells) ∧ Below w.heap.size w w' := by
  have A : Blk (w.alloc (.cells Pk.zero.cells 28)) w.heap.size Pk.zero := heap_alloc_new _ _
  go_enter Tryz.func67, Tryz.ntmps67
  go_wp2_with (first | refine al_pk ?_ | fail)
  refine (named_id id _).mono ?_
  rintro e y ⟨rfl, b1⟩
  replace A := A.next b1
  have b2 := bel (bel_new _ _) b1
  have D : Blk (y.alloc (.cells ((idP id).cells.setIfInBounds 0 (.int .i64 7)) 28)) y.heap.size ({ idP id with ty := 7 } : Pk) := heap_alloc_new _ _
  have A2 : Blk (y.alloc (.cells ((idP id).cells.setIfInBounds 0 (.int .i64 7)) 28)) w.heap.size Pk.zero := A.next (bel_new _ _)
  replace b2 := bel b2 (bel_new y (.cells ((idP id).cells.setIfInBounds 0 (.int .i64 7)) 28))
  go_wp2_with (first | refine var_pk (p := (idP id)) rfl rfl ?_ | fail)
  refine (type_pubCompKind _ _).mono ?_
  rintro e z ⟨rfl, hz⟩
  subst hz
  go_wp2_with (first | refine load_pk D rfl _ rfl rfl ?_ | (refine store_pk (q := ({ idP id with ty := 7 } : Pk)) (old := Pk.zero) A2 rfl rfl ?_; intro w9 B9 b9) | fail)
  exact ret_pk rfl rfl B9 rfl ⟨rfl, b2.trans b9⟩
set_option maxRecDepth 100000 in
set_option maxHeartbeats 1000000 in
theorem packet_subscribeKind (id : Int) (b : Sl) (w : World) : Calls Tryz.prog 67 #[.iface 139 (.agg #[.int .i64 id, .slice b.a b.n b.c])] w fun e w' => e = .returned (.agg ({ subP id b with ty := 8 } : Pk).cells) ∧ Below w.heap.size w w' := by
  have A : Blk (w.alloc (.cells Pk.zero.cells 28)) w.heap.size Pk.zero := heap_alloc_new _ _
  go_enter Tryz.func67, Tryz.ntmps67
  go_wp2_with (first | refine al_pk ?_ | fail)
  refine (named_sub id b _).mono ?_
  rintro e y ⟨rfl, b1⟩
  replace A := A.next b1
  have b2 := bel (bel_new _ _) b1
  have D : Blk (y.alloc (.cells ((subP id b).cells.setIfInBounds 0 (.int .i64 8)) 28)) y.heap.size ({ subP id b with ty := 8 } : Pk) := heap_alloc_new _ _
  have A2 : Blk (y.alloc (.cells ((subP id b).cells.setIfInBounds 0 (.int .i64 8)) 28)) w.heap.size Pk.zero := A.next (bel_new _ _)
  replace b2 := bel b2 (bel_new y (.cells ((subP id b).cells.setIfInBounds 0 (.int .i64 8)) 28))
  go_wp2_with (first | refine var_pk (p := (subP id b)) rfl rfl ?_ | fail)
  refine (type_subscribeKind _ _).mono ?_
  rintro e z ⟨rfl, hz⟩
  subst hz
  go_wp2_with (first | refine load_pk D rfl _ rfl rfl ?_ | (refine store_pk (q := ({ subP id b with ty := 8 } : Pk)) (old := Pk.zero) A2 rfl rfl ?_; intro w9 B9 b9) | fail)
  exact ret_pk rfl rfl B9 rfl ⟨rfl, b2.trans b9⟩
set_option maxRecDepth 100000 in
set_option maxHeartbeats 1000000 in
theorem packet_subAckKind (id : Int) (b : Sl) (w : World) : Calls Tryz.prog 67 #[.iface 141 (.agg #[.int .i64 id, .slice b.a b.n b.c])] w fun e w' => e = .returned (.agg ({ sackP id b with ty := 9 } : Pk).cells) ∧ Below w.heap.size w w' := by
  have A : Blk (w.alloc (.cells Pk.zero.cells 28)) w.heap.size Pk.zero := heap_alloc_new _ _
  go_enter Tryz.func67, Tryz.ntmps67
  go_wp2_with (first | refine al_pk ?_ | fail)
  refine (named_sack id b _).mono ?_
  rintro e y ⟨rfl, b1⟩
  replace A := A.next b1
  have b2 := bel (bel_new _ _) b1
  have D : Blk (y.alloc (.cells ((sackP id b).cells.setIfInBounds 0 (.int .i64 9)) 28)) y.heap.size ({ sackP id b with ty := 9 } : Pk) := heap_alloc_new _ _
  have A2 : Blk (y.alloc (.cells ((sackP id b).cells.setIfInBounds 0 (.int .i64 9)) 28)) w.heap.size Pk.zero := A.next (bel_new _ _)
  replace b2 := bel b2 (bel_new y (.cells ((sackP id b).cells.setIfInBounds 0 (.int .i64 9)) 28))
  go_wp2_with (first | refine var_pk (p := (sackP id b)) rfl rfl ?_ | fail)
  refine (type_subAckKind _ _).mono ?_
  rintro e z ⟨rfl, hz⟩
  subst hz
  go_wp2_with (first | refine load_pk D rfl _ rfl rfl ?_ | (refine store_pk (q := ({ sackP id b with ty := 9 } : Pk)) (old := Pk.zero) A2 rfl rfl ?_; intro w9 B9 b9) | fail)
  exact ret_pk rfl rfl B9 rfl ⟨rfl, b2.trans b9⟩
set_option maxRecDepth 100000 in
set_option maxHeartbeats 1000000 in
theorem packet_unsubscribeKind (id : Int) (b : Sl) (w : World) : Calls Tryz.prog 67 #[.iface 143 (.agg #[.int .i64 id, .slice b.a b.n b.c])] w fun e w' => e = .returned (.agg ({ unsP id b with ty := 10 } : Pk).cells) ∧ Below w.heap.size w w' := by
  have A : Blk (w.alloc (.cells Pk.zero.cells 28)) w.heap.size Pk.zero := heap_alloc_new _ _
  go_enter Tryz.func67, Tryz.ntmps67
  go_wp2_with (first | refine al_pk ?_ | fail)
  refine (named_uns id b _).mono ?_
  rintro e y ⟨rfl, b1⟩
  replace A := A.next b1
  have b2 := bel (bel_new _ _) b1
  have D : Blk (y.alloc (.cells ((unsP id b).cells.setIfInBounds 0 (.int .i64 10)) 28)) y.heap.size ({ unsP id b with ty := 10 } : Pk) := heap_alloc_new _ _
  have A2 : Blk (y.alloc (.cells ((unsP id b).cells.setIfInBounds 0 (.int .i64 10)) 28)) w.heap.size Pk.zero := A.next (bel_new _ _)
  replace b2 := bel b2 (bel_new y (.cells ((unsP id b).cells.setIfInBounds 0 (.int .i64 10)) 28))
  go_wp2_with (first | refine var_pk (p := (unsP id b)) rfl rfl ?_ | fail)
  refine (type_unsubscribeKind _ _).mono ?_
  rintro e z ⟨rfl, hz⟩
  subst hz
  go_wp2_with (first | refine load_pk D rfl _ rfl rfl ?_ | (refine store_pk (q := ({ unsP id b with ty := 10 } : Pk)) (old := Pk.zero) A2 rfl rfl ?_; intro w9 B9 b9) | fail)
  exact ret_pk rfl rfl B9 rfl ⟨rfl, b2.trans b9⟩
set_option maxRecDepth 100000 in
set_option maxHeartbeats 1000000 in
theorem packet_unsubAckKind (id : Int) (w : World) : Calls Tryz.prog 67 #[.iface 144 (.agg #[.int .i64 id])] w fun e w' => e = .returned (.agg ({ idP id with ty := 11 } : Pk).cells) ∧ Below w.heap.size w w' := by
  have A : Blk (w.alloc (.cells Pk.zero.cells 28)) w.heap.size Pk.zero := heap_alloc_new _ _
  go_enter Tryz.func67, Tryz.ntmps67
  go_wp2_with (first | refine al_pk ?_ | fail)
  refine (named_id id _).mono ?_
  rintro e y ⟨rfl, b1⟩
  replace A := A.next b1
  have b2 := bel (bel_new _ _) b1
  have D : Blk (y.alloc (.cells ((idP id).cells.setIfInBounds 0 (.int .i64 11)) 28)) y.heap.size ({ idP id with ty := 11 } : Pk) := heap_alloc_new _ _
  have A2 : Blk (y.alloc (.cells ((idP id).cells.setIfInBounds 0 (.int .i64 11)) 28)) w.heap.size Pk.zero := A.next (bel_new _ _)
  replace b2 := bel b2 (bel_new y (.cells ((idP id).cells.setIfInBounds 0 (.int .i64 11)) 28))
  go_wp2_with (first | refine var_pk (p := (idP id)) rfl rfl ?_ | fail)
  refine (type_unsubAckKind _ _).mono ?_
  rintro e z ⟨rfl, hz⟩
  subst hz
  go_wp2_with (first | refine load_pk D rfl _ rfl rfl ?_ | (refine store_pk (q := ({ idP id with ty := 11 } : Pk)) (old := Pk.zero) A2 rfl rfl ?_; intro w9 B9 b9) | fail)
  exact ret_pk rfl rfl B9 rfl ⟨rfl, b2.trans b9⟩
set_option maxRecDepth 100000 in
set_option maxHeartbeats 1000000 in
theorem packet_pingReqKind  (w : World) : Calls Tryz.prog 67 #[.iface 148 (.agg #[])] w fun e w' => e = .returned (.agg ({ noP  with ty := 12 } : Pk).cells) ∧ Below w.heap.size w w' := by
  have A : Blk (w.alloc (.cells Pk.zero.cells 28)) w.heap.size Pk.zero := heap_alloc_new _ _
  go_enter Tryz.func67, Tryz.ntmps67
  go_wp2_with (first | refine al_pk ?_ | fail)
  refine (named_no  _).mono ?_
  rintro e y ⟨rfl, b1⟩
  replace A := A.next b1
  have b2 := bel (bel_new _ _) b1
  have D : Blk (y.alloc (.cells ((noP).cells.setIfInBounds 0 (.int .i64 12)) 28)) y.heap.size ({ noP  with ty := 12 } : Pk) := heap_alloc_new _ _
  have A2 : Blk (y.alloc (.cells ((noP).cells.setIfInBounds 0 (.int .i64 12)) 28)) w.heap.size Pk.zero := A.next (bel_new _ _)
  replace b2 := bel b2 (bel_new y (.cells ((noP).cells.setIfInBounds 0 (.int .i64 12)) 28))
  go_wp2_with (first | refine var_pk (p := (noP)) rfl rfl ?_ | fail)
  refine (type_pingReqKind _ _).mono ?_
  rintro e z ⟨rfl, hz⟩
  subst hz
  go_wp2_with (first | refine load_pk D rfl _ rfl rfl ?_ | (refine store_pk (q := ({ noP  with ty := 12 } : Pk)) (old := Pk.zero) A2 rfl rfl ?_; intro w9 B9 b9) | fail)
  exact ret_pk rfl rfl B9 rfl ⟨rfl, b2.trans b9⟩
set_option maxRecDepth 100000 in
set_option maxHeartbeats 1000000 in
theorem packet_pingRespKind  (w : World) : Calls Tryz.prog 67 #[.iface 149 (.agg #[])] w fun e w' => e = .returned (.agg ({ noP  with ty := 13 } : Pk).cells) ∧ Below w.heap.size w w' := by
  have A : Blk (w.alloc (.cells Pk.zero.cells 28)) w.heap.size Pk.zero := heap_alloc_new _ _
  go_enter Tryz.func67, Tryz.ntmps67
  go_wp2_with (first | refine al_pk ?_ | fail)
  refine (named_no  _).mono ?_
  rintro e y ⟨rfl, b1⟩
  replace A := A.next b1
  have b2 := bel (bel_new _ _) b1
  have D : Blk (y.alloc (.cells ((noP).cells.setIfInBounds 0 (.int .i64 13)) 28)) y.heap.size ({ noP  with ty := 13 } : Pk) := heap_alloc_new _ _
  have A2 : Blk (y.alloc (.cells ((noP).cells.setIfInBounds 0 (.int .i64 13)) 28)) w.heap.size Pk.zero := A.next (bel_new _ _)
  replace b2 := bel b2 (bel_new y (.cells ((noP).cells.setIfInBounds 0 (.int .i64 13)) 28))
  go_wp2_with (first | refine var_pk (p := (noP)) rfl rfl ?_ | fail)
  refine (type_pingRespKind _ _).mono ?_
  rintro e z ⟨rfl, hz⟩
  subst hz
  go_wp2_with (first | refine load_pk D rfl _ rfl rfl ?_ | (refine store_pk (q := ({ noP  with ty := 13 } : Pk)) (old := Pk.zero) A2 rfl rfl ?_; intro w9 B9 b9) | fail)
  exact ret_pk rfl rfl B9 rfl ⟨rfl, b2.trans b9⟩
set_option maxRecDepth 100000 in
set_option maxHeartbeats 1000000 in
theorem packet_disconnectKind  (w : World) : Calls Tryz.prog 67 #[.iface 150 (.agg #[])] w fun e w' => e = .returned (.agg ({ noP  with ty := 14 } : Pk).cells) ∧ Below w.heap.size w w' := by
  have A : Blk (w.alloc (.cells Pk.zero.cells 28)) w.heap.size Pk.zero := heap_alloc_new _ _
  go_enter Tryz.func67, Tryz.ntmps67
  go_wp2_with (first | refine al_pk ?_ | fail)
  refine (named_no  _).mono ?_
  rintro e y ⟨rfl, b1⟩
  replace A := A.next b1
  have b2 := bel (bel_new _ _) b1
  have D : Blk (y.alloc (.cells ((noP).cells.setIfInBounds 0 (.int .i64 14)) 28)) y.heap.size ({ noP  with ty := 14 } : Pk) := heap_alloc_new _ _
  have A2 : Blk (y.alloc (.cells ((noP).cells.setIfInBounds 0 (.int .i64 14)) 28)) w.heap.size Pk.zero := A.next (bel_new _ _)
  replace b2 := bel b2 (bel_new y (.cells ((noP).cells.setIfInBounds 0 (.int .i64 14)) 28))
  go_wp2_with (first | refine var_pk (p := (noP)) rfl rfl ?_ | fail)
  refine (type_disconnectKind _ _).mono ?_
  rintro e z ⟨rfl, hz⟩
  subst hz
  go_wp2_with (first | refine load_pk D rfl _ rfl rfl ?_ | (refine store_pk (q := ({ noP  with ty := 14 } : Pk)) (old := Pk.zero) A2 rfl rfl ?_; intro w9 B9 b9) | fail)
  exact ret_pk rfl rfl B9 rfl ⟨rfl, b2.trans b9⟩
end Go.Proofs.YtccjiicjlifmiaaGreatDoor
