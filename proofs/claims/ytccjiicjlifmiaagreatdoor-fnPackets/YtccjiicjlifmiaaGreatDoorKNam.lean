/- What a kind names, put back into a packet: the program's side. -/
import Derived.Test.YtccjiicjlifmiaaGreatDoorKCon
import Derived.Great.BuildSlice
set_option linter.unusedVariables false
set_option linter.unusedSimpArgs false
namespace Go.Proofs.YtccjiicjlifmiaaGreatDoor
open Go.RowKit

section
variable {ops : Array Oper} {rest : List Oper} {a : Act} {w : World} {Q : Exit → Act → World → Prop}
/-- A new packet's block. -/
theorem al_pk {d : Nat} {t : TypeId} {p : String} {e : Array Edge} (h : wpList Tryz.prog ops Q rest (a.put (some d) (.pointer (some ⟨w.heap.size, 0, none⟩))) (w.alloc (.cells Pk.zero.cells 28))) :
    wpList Tryz.prog ops Q (⟨some d, .alloc 28, t, p, e, none⟩ :: rest) a w := by
  refine op_value (w' := w.alloc (.cells Pk.zero.cells 28)) (v := .pointer (some ⟨w.heap.size, 0, none⟩)) (wanted_none rfl _) ?_ h
  simp only [execOp, Sem.run_bind, alloc_run, Result.andThen_ok, Sem.run_pure]
/-- A packet written out. -/
theorem bu_pk (q : Pk) {d : Nat} {t : TypeId} {p : String} {e : Array Edge} {parts : Array (Nat × Operand)} (hf : Tryz.prog.built 28 (parts.map fun (i, x) => (i, a.eval x)).toList = some q.cells)
    (h : wpList Tryz.prog ops Q rest (a.put (some d) (.agg q.cells)) w) : wpList Tryz.prog ops Q (⟨some d, .build 28 parts, t, p, e, none⟩ :: rest) a w :=
  wpList_buildTo rfl 28 parts rfl (some d) rfl q.cells hf h
/-- A packet stored over another. -/
theorem store_pk {q old : Pk} {g : Nat} (hB : Blk w g old) {t : TypeId} {p : String} {e : Array Edge} {x y : Operand} (hx : a.eval x = .pointer (some ⟨g, 0, none⟩)) (hy : a.eval y = .agg q.cells)
    (h : ∀ w', Blk w' g q → Below g w w' → wpList Tryz.prog ops Q rest a w') : wpList Tryz.prog ops Q (⟨none, .store 28 x y, t, p, e, none⟩ :: rest) a w := by
  refine wpList_store_rowTo rfl 28 x y rfl rfl g q.cells hx hy 28 old.cells hB (infoP.trans (by rw [Pk.csize])) rfl q.ones ?_
  refine h _ (setRow_heap w g old.cells q.cells 28 (0, 0) hB) ⟨rfl, rfl, rfl, by simp, fun k hk => setRow_other w g k _ (by omega)⟩
end
/-- What a connectKind names. -/
def conP (lev : Int) (cli : ByteArray) (cln : Bool) (kee : Int) (hw : Bool) (wt : ByteArray) (wb : Sl) (wq : Int) (wr : Bool) (hu : Bool) (us : ByteArray) (hp : Bool) (pa : Sl) : Pk := { Pk.zero with lev := lev, cli := cli, cln := cln, kee := kee, hw := hw, wt := wt, wb := wb, wq := wq, wr := wr, hu := hu, us := us, hp := hp, pa := pa }
set_option maxRecDepth 100000 in
set_option maxHeartbeats 1000000 in
theorem named_con (lev : Int) (cli : ByteArray) (cln : Bool) (kee : Int) (hw : Bool) (wt : ByteArray) (wb : Sl) (wq : Int) (wr : Bool) (hu : Bool) (us : ByteArray) (hp : Bool) (pa : Sl) (w : World) : Calls Tryz.prog 227 #[.agg (conC lev cli cln kee hw wt wb wq wr hu us hp pa)] w fun e w' => e = .returned (.agg (conP lev cli cln kee hw wt wb wq wr hu us hp pa).cells) ∧ Below w.heap.size w w' := by
  unfold conC
  go_enter Tryz.func227, Tryz.ntmps227
  go_wp2_with (first | refine al_pk ?_ | (refine bu_pk (conP lev cli cln kee hw wt wb wq wr hu us hp pa) (by kernel_rfl) ?_) | (refine store_pk (q := conP lev cli cln kee hw wt wb wq wr hu us hp pa) (old := Pk.zero) (heap_alloc2_new _ _ _) rfl rfl ?_; intro w9 B9 b9) | (refine store_pk (q := conP lev cli cln kee hw wt wb wq wr hu us hp pa) (old := Pk.zero) (heap_alloc_new _ _) rfl rfl ?_; intro w9 B9 b9) | fail)
  refine ret_pk rfl rfl B9 rfl ⟨rfl, ?_⟩
  exact (((Below.refl _ _).alloc (Nat.le_refl _) _).alloc (by simp) _).trans (b9.mono (by first | omega | simp))
/-- What a connAckKind names. -/
def ackP (cod : Int) (pre : Bool) : Pk := { Pk.zero with cod := cod, pre := pre }
set_option maxRecDepth 100000 in
set_option maxHeartbeats 1000000 in
theorem named_ack (cod : Int) (pre : Bool) (w : World) : Calls Tryz.prog 235 #[.agg (#[.int .i64 cod, .bool pre])] w fun e w' => e = .returned (.agg (ackP cod pre).cells) ∧ Below w.heap.size w w' := by
  go_enter Tryz.func235, Tryz.ntmps235
  go_wp2_with (first | refine al_pk ?_ | (refine bu_pk (ackP cod pre) (by kernel_rfl) ?_) | (refine store_pk (q := ackP cod pre) (old := Pk.zero) (heap_alloc2_new _ _ _) rfl rfl ?_; intro w9 B9 b9) | (refine store_pk (q := ackP cod pre) (old := Pk.zero) (heap_alloc_new _ _) rfl rfl ?_; intro w9 B9 b9) | fail)
  refine ret_pk rfl rfl B9 rfl ⟨rfl, ?_⟩
  exact (((Below.refl _ _).alloc (Nat.le_refl _) _).alloc (by simp) _).trans (b9.mono (by first | omega | simp))
/-- What a publishKind names. -/
def pubP (dup : Bool) (qos : Int) (ret : Bool) (id : Int) (top : ByteArray) (b : Sl) : Pk := { Pk.zero with dup := dup, qos := qos, ret := ret, id := id, top := top, bod := b }
set_option maxRecDepth 100000 in
set_option maxHeartbeats 1000000 in
theorem named_pub (dup : Bool) (qos : Int) (ret : Bool) (id : Int) (top : ByteArray) (b : Sl) (w : World) : Calls Tryz.prog 238 #[.agg (pubC dup qos ret id top b)] w fun e w' => e = .returned (.agg (pubP dup qos ret id top b).cells) ∧ Below w.heap.size w w' := by
  unfold pubC
  go_enter Tryz.func238, Tryz.ntmps238
  go_wp2_with (first | refine al_pk ?_ | (refine bu_pk (pubP dup qos ret id top b) (by kernel_rfl) ?_) | (refine store_pk (q := pubP dup qos ret id top b) (old := Pk.zero) (heap_alloc2_new _ _ _) rfl rfl ?_; intro w9 B9 b9) | (refine store_pk (q := pubP dup qos ret id top b) (old := Pk.zero) (heap_alloc_new _ _) rfl rfl ?_; intro w9 B9 b9) | fail)
  refine ret_pk rfl rfl B9 rfl ⟨rfl, ?_⟩
  exact (((Below.refl _ _).alloc (Nat.le_refl _) _).alloc (by simp) _).trans (b9.mono (by first | omega | simp))
/-- What a idPart names. -/
def idP (id : Int) : Pk := { Pk.zero with id := id }
set_option maxRecDepth 100000 in
set_option maxHeartbeats 1000000 in
theorem named_id (id : Int) (w : World) : Calls Tryz.prog 242 #[.agg (#[.int .i64 id])] w fun e w' => e = .returned (.agg (idP id).cells) ∧ Below w.heap.size w w' := by
  go_enter Tryz.func242, Tryz.ntmps242
  go_wp2_with (first | refine al_pk ?_ | (refine bu_pk (idP id) (by kernel_rfl) ?_) | (refine store_pk (q := idP id) (old := Pk.zero) (heap_alloc2_new _ _ _) rfl rfl ?_; intro w9 B9 b9) | (refine store_pk (q := idP id) (old := Pk.zero) (heap_alloc_new _ _) rfl rfl ?_; intro w9 B9 b9) | fail)
  refine ret_pk rfl rfl B9 rfl ⟨rfl, ?_⟩
  exact (((Below.refl _ _).alloc (Nat.le_refl _) _).alloc (by simp) _).trans (b9.mono (by first | omega | simp))
/-- What a subscribeKind names. -/
def subP (id : Int) (b : Sl) : Pk := { Pk.zero with id := id, wan := b }
set_option maxRecDepth 100000 in
set_option maxHeartbeats 1000000 in
theorem named_sub (id : Int) (b : Sl) (w : World) : Calls Tryz.prog 245 #[.agg (#[.int .i64 id, .slice b.a b.n b.c])] w fun e w' => e = .returned (.agg (subP id b).cells) ∧ Below w.heap.size w w' := by
  go_enter Tryz.func245, Tryz.ntmps245
  go_wp2_with (first | refine al_pk ?_ | (refine bu_pk (subP id b) (by kernel_rfl) ?_) | (refine store_pk (q := subP id b) (old := Pk.zero) (heap_alloc2_new _ _ _) rfl rfl ?_; intro w9 B9 b9) | (refine store_pk (q := subP id b) (old := Pk.zero) (heap_alloc_new _ _) rfl rfl ?_; intro w9 B9 b9) | fail)
  refine ret_pk rfl rfl B9 rfl ⟨rfl, ?_⟩
  exact (((Below.refl _ _).alloc (Nat.le_refl _) _).alloc (by simp) _).trans (b9.mono (by first | omega | simp))
/-- What a subAckKind names. -/
def sackP (id : Int) (b : Sl) : Pk := { Pk.zero with id := id, cds := b }
set_option maxRecDepth 100000 in
set_option maxHeartbeats 1000000 in
theorem named_sack (id : Int) (b : Sl) (w : World) : Calls Tryz.prog 252 #[.agg (#[.int .i64 id, .slice b.a b.n b.c])] w fun e w' => e = .returned (.agg (sackP id b).cells) ∧ Below w.heap.size w w' := by
  go_enter Tryz.func252, Tryz.ntmps252
  go_wp2_with (first | refine al_pk ?_ | (refine bu_pk (sackP id b) (by kernel_rfl) ?_) | (refine store_pk (q := sackP id b) (old := Pk.zero) (heap_alloc2_new _ _ _) rfl rfl ?_; intro w9 B9 b9) | (refine store_pk (q := sackP id b) (old := Pk.zero) (heap_alloc_new _ _) rfl rfl ?_; intro w9 B9 b9) | fail)
  refine ret_pk rfl rfl B9 rfl ⟨rfl, ?_⟩
  exact (((Below.refl _ _).alloc (Nat.le_refl _) _).alloc (by simp) _).trans (b9.mono (by first | omega | simp))
/-- What a unsubscribeKind names. -/
def unsP (id : Int) (b : Sl) : Pk := { Pk.zero with id := id, nam := b }
set_option maxRecDepth 100000 in
set_option maxHeartbeats 1000000 in
theorem named_uns (id : Int) (b : Sl) (w : World) : Calls Tryz.prog 257 #[.agg (#[.int .i64 id, .slice b.a b.n b.c])] w fun e w' => e = .returned (.agg (unsP id b).cells) ∧ Below w.heap.size w w' := by
  go_enter Tryz.func257, Tryz.ntmps257
  go_wp2_with (first | refine al_pk ?_ | (refine bu_pk (unsP id b) (by kernel_rfl) ?_) | (refine store_pk (q := unsP id b) (old := Pk.zero) (heap_alloc2_new _ _ _) rfl rfl ?_; intro w9 B9 b9) | (refine store_pk (q := unsP id b) (old := Pk.zero) (heap_alloc_new _ _) rfl rfl ?_; intro w9 B9 b9) | fail)
  refine ret_pk rfl rfl B9 rfl ⟨rfl, ?_⟩
  exact (((Below.refl _ _).alloc (Nat.le_refl _) _).alloc (by simp) _).trans (b9.mono (by first | omega | simp))
/-- What a noPart names. -/
def noP  : Pk := Pk.zero
set_option maxRecDepth 100000 in
set_option maxHeartbeats 1000000 in
theorem named_no  (w : World) : Calls Tryz.prog 261 #[.agg (#[])] w fun e w' => e = .returned (.agg (noP ).cells) ∧ Below w.heap.size w w' := by
  go_enter Tryz.func261, Tryz.ntmps261
  go_wp2_with (first | refine al_pk ?_ | (refine bu_pk (noP ) (by kernel_rfl) ?_) | (refine store_pk (q := noP ) (old := Pk.zero) (heap_alloc2_new _ _ _) rfl rfl ?_; intro w9 B9 b9) | (refine store_pk (q := noP ) (old := Pk.zero) (heap_alloc_new _ _) rfl rfl ?_; intro w9 B9 b9) | fail)
  refine ret_pk rfl rfl B9 rfl ⟨rfl, ?_⟩
  exact (((Below.refl _ _).alloc (Nat.le_refl _) _).alloc (by simp) _).trans (b9.mono (by first | omega | simp))
end Go.Proofs.YtccjiicjlifmiaaGreatDoor
