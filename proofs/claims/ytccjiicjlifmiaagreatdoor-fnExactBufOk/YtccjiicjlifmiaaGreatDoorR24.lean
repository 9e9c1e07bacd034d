/- Texts that the law FnExactBufOk uses. -/
import Derived.Laws.CopyOwn
import Derived.Test.YtccjiicjlifmiaaGreatDoorR23
set_option linter.unusedVariables false
set_option linter.unusedSimpArgs false
set_option maxRecDepth 100000
set_option maxHeartbeats 20000000
namespace Go.Proofs.YtccjiicjlifmiaaGreatDoor
open Go.RowKit

def xV {α : Type} (d : α) (o : Option (α × Nat)) : α := match o with
 | some (x, _) => x
 | none => d
def xK {α : Type} (o : Option (α × Nat)) : Nat := match o with
 | some (_, k) => k
 | none => 0
def rInt (o : Option (Int × Nat)) : Value := .tuple #[.int .i64 (xV 0 o), .int .i64 (xK o : Nat), .bool o.isSome]
def rTxt (o : Option (ByteArray × Nat)) : Value := .tuple #[.string (xV ByteArray.empty o), .int .i64 (xK o : Nat), .bool o.isSome]
def rWan (o : Option ((ByteArray × Int) × Nat)) : Value := .tuple #[.agg #[.string (xV (ByteArray.empty, 0) o).1, .int .i64 (xV (ByteArray.empty, 0) o).2], .int .i64 (xK o : Nat), .bool o.isSome]
theorem qsi (ao : Option Addr) (n cap p : Nat) (l : List UInt8) (w : World) (hr : RdIn w ao n cap l) (hn : n ≤ 1048576) :
  Calls Tryz.prog 154 #[.slice ao n cap, .int .i64 p] w fun e w' => e = .returned (rInt (gW l p)) ∧ Below w.heap.size w w' := by
 have hl := hr.1.1
 unfold gW
 by_cases h : p + 2 ≤ n
 ·rw [if_pos (by omega)]
  exact qdr ao n cap p l w hr h (by omega)
 ·rw [if_neg (by omega)]
  exact qhl ao n cap p w (by omega) (.inr (by omega))
theorem qhd (ao : Option Addr) (n cap p : Nat) (l : List UInt8) (w : World) (hr : RdIn w ao n cap l) (hn : n ≤ 1048576) :
  Calls Tryz.prog 159 #[.slice ao n cap, .int .i64 p] w fun e w' => e = .returned (rTxt (gT l p)) ∧ Below w.heap.size w w' := by
 have h := qqo ao n cap p l w hr (by omega)
 have e : ansT l (p : Int) = .returned (rTxt (gT l p)) := by
  unfold ansT gT
  cases getT l (p : Int) with
  | none => rfl
  | some x => rfl
 rw [e] at h
 exact h
theorem qjd (ao : Option Addr) (n cap p : Nat) (l : List UInt8) (w : World) (hr : RdIn w ao n cap l) (hn : n ≤ 1048576) :
  Calls Tryz.prog 152 #[.slice ao n cap, .int .i64 p] w fun e w' => e = .returned (rInt (gB l p)) ∧ Below w.heap.size w w' := by
 have hl := hr.1.1
 unfold gB
 by_cases h : p < n
 ·rw [if_pos (by omega)]
  obtain ⟨b, off, rfl, hc⟩ := hr.1.at (show 0 < n by omega)
  have c0 := hc p h
  have q0 := bt_lt l p
  have h1 : ¬ (n : Int) ≤ p := by omega
  clear hl hr hc
  go_enter Tryz.func152, Tryz.ntmps152
  go_wp2
  go_ret3
  exact ⟨by simp [rInt, xV, xK], Below.refl _ _⟩
 ·rw [if_neg (by omega)]
  have h1 : (n : Int) ≤ p := by omega
  clear hl hr
  go_enter Tryz.func152, Tryz.ntmps152
  go_wp2
  go_ret3
  exact ⟨by simp [rInt, xV, xK], Below.refl _ _⟩
theorem qsj (ao : Option Addr) (n cap p : Nat) (l : List UInt8) (w : World) (hr : RdIn w ao n cap l) (hn : n ≤ 1048576) (hp : p ≤ n) :
  Calls Tryz.prog 169 #[.slice ao n cap, .int .i64 p] w fun e w' => ∃ a c, e = .returned (.tuple #[.slice a (n - p) c, .int .i64 n, .bool true]) ∧ Own w' w.heap.size a (n - p) c (l.drop p) ∧ Below w.heap.size w w' := by
 obtain ⟨ax, cx, hsl, hx⟩ := qit hr p hp
 obtain ⟨m, hm⟩ : ∃ m, n - p = m := ⟨_, rfl⟩
 rw [hm] at hsl hx ⊢
 have hm' : m ≤ 1048576 := by omega
 clear hm
 go_enter Tryz.func169, Tryz.ntmps169
 go_wp2_with fail
 refine (qbp _ _ _ 0 _ _ hx (by omega) (by omega)).mono ?_
 rintro e w1 ⟨a1, c1, rfl, ho1, hb1⟩
 go_wp2
 go_ret3
 exact ⟨a1, c1, by simp, ho1, hb1⟩
theorem qqs (ao : Option Addr) (n cap p : Nat) (l : List UInt8) (w : World) (hr : RdIn w ao n cap l) (hn : n ≤ 1048576) :
  Calls Tryz.prog 168 #[.slice ao n cap, .int .i64 p] w fun e w' => ∃ a c, e = .returned (.tuple #[.slice a (xV [] (gL l p)).length c, .int .i64 (xK (gL l p) : Nat), .bool (gL l p).isSome]) ∧ Own w' w.heap.size a (xV [] (gL l p)).length c (xV [] (gL l p)) ∧ Below w.heap.size w w' := by
 cases h : getL l (p : Int) with
 | none =>
  have hg : gL l p = none := h
  rw [hg]
  refine (qlo ao n cap p l w hr (by omega) h).mono ?_
  rintro e w' ⟨rfl, hb⟩
  exact ⟨none, 0, rfl, ⟨rfl, World.ownsRow_nil _ _ _ _⟩, hb⟩
 | some xk =>
  obtain ⟨x, k⟩ := xk
  have hg : gL l p = some (x, k) := h
  rw [hg]
  exact qkk ao n cap p l x k w hr (by omega) h
theorem qqt (ao : Option Addr) (n cap p : Nat) (l : List UInt8) (w : World) (hr : RdIn w ao n cap l) (hn : n ≤ 1048576) (hp : p ≤ n) :
  Calls Tryz.prog 169 #[.slice ao n cap, .int .i64 p] w fun e w' => ∃ a c, e = .returned (.tuple #[.slice a (xV [] (gR l p)).length c, .int .i64 (xK (gR l p) : Nat), .bool (gR l p).isSome]) ∧ Own w' w.heap.size a (xV [] (gR l p)).length c (xV [] (gR l p)) ∧ Below w.heap.size w w' := by
 have hl := hr.1.1
 have e1 : (xV [] (gR l p)).length = n - p := by show (l.drop p).length = _; rw [List.length_drop, hl]
 have e2 : xK (gR l p) = n := hl
 rw [e1, e2]
 exact qsj ao n cap p l w hr hn hp
theorem qsk (ao : Option Addr) (n cap p : Nat) (l : List UInt8) (w : World) (hr : RdIn w ao n cap l) (hn : n ≤ 1048576) :
  Calls Tryz.prog 156 #[.slice ao n cap, .int .i64 p] w fun e w' => e = .returned (rWan (gN l p)) ∧ Below w.heap.size w w' := by
 have hA : Row (w.alloc (.cells #[.string ByteArray.empty, .int .i64 0] 88)) w.heap.size #[.string ByteArray.empty, .int .i64 0] 88 := Row.new _ _ _
 have hr0 := hr.below (bel_new w (.cells #[.string ByteArray.empty, .int .i64 0] 88))
 cases h1 : gT l p with
 | none =>
  have hN : Hid (gN l p = none) := by unfold Hid gN; rw [h1]
  go_enter Tryz.func156, Tryz.ntmps156
  go_wp2_with fail
  refine (qhd ao n cap p l _ hr0 hn).mono ?_
  rintro e w1 ⟨rfl, hb⟩
  rw [h1]
  have B1 := hA.next hb
  simp only [rTxt, xV, xK, Option.isSome_none]
  clear h1 hr hr0
  have c0 := B1.cell 0 rfl
  have c1 := B1.cell 1 rfl
  have z0 := Lib.frozen_of_heap B1 0
  have z1 := Lib.frozen_of_heap B1 1
  go_wp2
  have D2 : Row ((w1.setCell ⟨w.heap.size, 0, none⟩ (.string ⟨#[]⟩)).setCell ⟨w.heap.size, 1, none⟩ (.int .i64 0)) w.heap.size #[.string ⟨#[]⟩, .int .i64 0] 88 := qad (qad B1 0 _) 1 _
  have d0 := D2.cell 0 rfl
  have d1 := D2.cell 1 rfl
  refine bodyPost_ret (v := rWan none) ?_ rfl ⟨by rw [hN.out], ?_⟩
  ·simp [results, Tryz.results156, go_sem, d0, d1, rWan, xV, xK]
   rfl
  ·exact (((bel_new w _).trans (hb.mono (by simp))).setCell (Nat.le_refl _) _).setCell (Nat.le_refl _) _
 | some sk =>
  obtain ⟨s, q⟩ := sk
  cases h2 : gB l q with
  | none =>
   have hN : Hid (gN l p = none) := by unfold Hid gN; rw [h1]; simp only [h2]
   go_enter Tryz.func156, Tryz.ntmps156
   go_wp2_with fail
   refine (qhd ao n cap p l _ hr0 hn).mono ?_
   rintro e w1 ⟨rfl, hb1⟩
   rw [h1]
   simp only [rTxt, xV, xK, Option.isSome_some]
   have hr1 := hr0.below hb1
   go_wp2_with fail
   refine (qjd ao n cap q l _ hr1 hn).mono ?_
   rintro e w2 ⟨rfl, hb2⟩
   rw [h2]
   simp only [rInt, xV, xK, Option.isSome_none]
   have hb := bel hb1 hb2
   have B1 := hA.next hb
   clear h1 h2 hr hr0 hr1 hb1 hb2
   have c0 := B1.cell 0 rfl
   have c1 := B1.cell 1 rfl
   have z0 := Lib.frozen_of_heap B1 0
   have z1 := Lib.frozen_of_heap B1 1
   go_wp2
   have D2 : Row ((w2.setCell ⟨w.heap.size, 0, none⟩ (.string ⟨#[]⟩)).setCell ⟨w.heap.size, 1, none⟩ (.int .i64 0)) w.heap.size #[.string ⟨#[]⟩, .int .i64 0] 88 := qad (qad B1 0 _) 1 _
   have d0 := D2.cell 0 rfl
   have d1 := D2.cell 1 rfl
   refine bodyPost_ret (v := rWan none) ?_ rfl ⟨by rw [hN.out], ?_⟩
   ·simp [results, Tryz.results156, go_sem, d0, d1, rWan, xV, xK]
    rfl
   ·exact (((bel_new w _).trans (hb.mono (by simp))).setCell (Nat.le_refl _) _).setCell (Nat.le_refl _) _
  | some xr =>
   obtain ⟨x, r⟩ := xr
   have hN : Hid (gN l p = some ((s, x), r)) := by unfold Hid gN; rw [h1]; simp only [h2]
   go_enter Tryz.func156, Tryz.ntmps156
   go_wp2_with fail
   refine (qhd ao n cap p l _ hr0 hn).mono ?_
   rintro e w1 ⟨rfl, hb1⟩
   rw [h1]
   simp only [rTxt, xV, xK, Option.isSome_some]
   have hr1 := hr0.below hb1
   go_wp2_with fail
   refine (qjd ao n cap q l _ hr1 hn).mono ?_
   rintro e w2 ⟨rfl, hb2⟩
   rw [h2]
   simp only [rInt, xV, xK, Option.isSome_some]
   have hb := bel hb1 hb2
   have B1 := hA.next hb
   clear h1 h2 hr hr0 hr1 hb1 hb2
   have c0 := B1.cell 0 rfl
   have c1 := B1.cell 1 rfl
   have z0 := Lib.frozen_of_heap B1 0
   have z1 := Lib.frozen_of_heap B1 1
   go_wp2
   have D2 : Row ((w2.setCell ⟨w.heap.size, 0, none⟩ (.string s)).setCell ⟨w.heap.size, 1, none⟩ (.int .i64 x)) w.heap.size #[.string s, .int .i64 x] 88 := qad (qad B1 0 _) 1 _
   have d0 := D2.cell 0 rfl
   have d1 := D2.cell 1 rfl
   refine bodyPost_ret (v := rWan (some ((s, x), r))) ?_ rfl ⟨by rw [hN.out], ?_⟩
   ·simp [results, Tryz.results156, go_sem, d0, d1, rWan, xV, xK]
   ·exact (((bel_new w _).trans (hb.mono (by simp))).setCell (Nat.le_refl _) _).setCell (Nat.le_refl _) _

section
variable {P : Program} {ops : Array Oper} {Q : Exit → Act → World → Prop}
theorem qrr (N : Nat) (hNs : N < ops.size) (hlt : ∀ (i : Nat) (o : Oper), ops[i]? = some o → ∀ e ∈ o.after, e.on < i)
  (hch : ∀ (k : Nat) (o : Oper), N < k → ops[k]? = some o → ∃ e ∈ o.after, Region.binds .any e = true ∧ e.on + 1 = k)
  (hre : ∀ i, i < N → reach ops ops.size N i = true)
  (I : Act → World → Prop) (F : Nat → Act → World → Prop) (H : Nat → World → Prop)
  (step : ∀ (i : Nat) (o : Oper) (a : Act) (w : World), i < N → ops[i]? = some o → I a w → H i w → (∀ e ∈ o.after, Region.binds .any e = true → F e.on a w) →
   wpOp P ops Q i (fun a' w' => I a' w' ∧ F i a' w' ∧ (∀ j, j ≠ i → reach ops ops.size j i = false → F j a w → F j a' w') ∧ ∀ k, k ≠ i → reach ops ops.size i k = false → H k w → H k w') a w)
  (fin : ∀ (a : Act) (w : World), I a w → (∀ i, i < N → F i a w) → H N w → wpList P ops Q (ops.toList.drop N) a w) :
  ∀ (fuel : Nat) (listed : Array Bool) (a : Act) (w : World), listed.size = ops.size → unl ops.size listed ≤ fuel → ops.size - N ≤ fuel →
   (∀ i, N ≤ i → i < ops.size → listed.getD i true = false) → (∀ j o, ops[j]? = some o → listed.getD j true = true → ∀ e ∈ o.after, Region.binds .any e = true → listed.getD e.on true = true) →
   I a w → (∀ i, i < N → listed.getD i true = true → F i a w) → (∀ k, k ≤ N → listed.getD k true = false → H k w) → wpAny P .any ops Q fuel listed a w := by
 intro fuel
 induction fuel with
 | zero => intro listed a w hs hu hf; omega
 | succ fuel ih =>
  intro listed a w hs hu hf h2 hc hI hF hH
  by_cases hall : ∀ i, i < N → listed.getD i true = true
  ·exact qph hlt hch (ops.size - N) N (fuel + 1) listed a w (by omega) (Nat.le_refl _) hs hf hall h2 (fin a w hI (fun i hi => hF i hi (hall i hi)) (hH N (Nat.le_refl _) (h2 N (Nat.le_refl _) hNs)))
  refine ⟨fun h0 => ?_, fun i hi => ?_⟩
  ·have := qkh hlt hs h0 N hNs
   rw [h2 N (Nat.le_refl _) hNs] at this
   cases this
  ·obtain ⟨hi1, hi2, hi3⟩ := qkv hlt hs hi
   have ho := Array.getElem?_eq_getElem hi1
   have hiN : i < N := by
    rcases Nat.lt_trichotomy i N with c | c | c
    ·exact c
    ·exfalso
     subst c
     exact hall fun j hj => qnr hc (hre j hj) hi3
    ·exfalso
     obtain ⟨e, he, hb, hon⟩ := hch i _ c ho
     have := hi3 _ ho e he hb
     rw [h2 e.on (by omega) (by omega)] at this
     cases this
   refine wpOp_mono (fun a' w' hh => ?_) (step i _ a w hiN ho hI (hH i (Nat.le_of_lt hiN) hi2) fun e he hb => hF e.on (by have := hlt i _ ho e he; omega) (hi3 _ ho e he hb))
   obtain ⟨hI', hFi, hst, hsh⟩ := hh
   have hul := qqf hs hi1 hi2
   refine ih _ a' w' (by simpa using hs) (by omega) ?_ (fun j hj hjs => ?_) ?_ hI' (fun j hj hl => ?_) (fun k hk hl => ?_)
   ·-- the rest is still to come
    have hsub : ops.size - N ≤ unl ops.size (listed.setIfInBounds i true) := by
     have e1 : List.range ops.size = List.range N ++ List.range' N (ops.size - N) := by
      have := List.range'_append (s := 0) (m := N) (n := ops.size - N) (step := 1)
      rw [Nat.one_mul, Nat.zero_add, show N + (ops.size - N) = ops.size by omega] at this
      rw [List.range_eq_range', List.range_eq_range']
      exact this.symm
     have e2 : ((List.range' N (ops.size - N)).filter fun i' => !(listed.setIfInBounds i true).getD i' true) = List.range' N (ops.size - N) := by
      rw [List.filter_eq_self]
      intro x hx
      rw [List.mem_range'_1] at hx
      rw [qbh (by omega), h2 x (by omega) (by omega)]
      rfl
     unfold unl
     rw [e1, List.filter_append, e2, List.length_append, List.length_range']
     omega
    omega
   ·rw [qbh (by omega)]; exact h2 j hj hjs
   ·intro j o hoj hl e he hb
    by_cases ej : j = i
    ·subst ej
     have := hi3 o hoj e he hb
     have hne : e.on ≠ j := by have := hlt j o hoj e he; omega
     rw [qbh hne]; exact this
    ·rw [qbh ej] at hl
     have := hc j o hoj hl e he hb
     by_cases ee : e.on = i
     ·rw [ee]; exact qhc
     ·rw [qbh ee]; exact this
   ·by_cases e : j = i
    ·subst e
     exact hFi
    ·rw [qbh e] at hl
     refine hst j e ?_ (hF j hj hl)
     cases hr : reach ops ops.size j i with
     | false => rfl
     | true =>
      have := qlk hc _ j i hr hl
      rw [hi2] at this
      cases this
   ·have e : k ≠ i := by
     rintro rfl
     rw [qhc] at hl
     cases hl
    rw [qbh e] at hl
    refine hsh k e ?_ (hH k hk hl)
    cases hr : reach ops ops.size i k with
    | false => rfl
    | true =>
     have := qnr hc hr hi3
     rw [hl] at this
     cases this

theorem qqb {id : Nat} {l t : List Oper} {a0 : Act} {w0 : World} (hm : P.follows .mixedOrders = true) (hshape : qoc a0.tmps.size l t = true)
  (R : Nat → World → World → Prop) (G : Nat → Value → World → Prop) (H : Nat → World → Prop)
  (sG : ∀ (i j : Nat) (v : Value) (w w' : World), i < l.length → j < l.length → reach (l ++ t).toArray (l ++ t).length j i = false → j ≠ i → R i w w' → G j v w → G j v w')
  (sH : ∀ (i k : Nat) (w w' : World), i < l.length → k ≤ l.length → reach (l ++ t).toArray (l ++ t).length i k = false → k ≠ i → R i w w' → H k w → H k w')
  (init : ∀ k, H k w0.drew)
  (step : ∀ (i : Nat) (o : Oper) (a : Act) (w : World), l[i]? = some o → KeepD l.toArray a0 a → H i w → (∀ j oj d, (o.after.toList.any fun e => e.on == j && Region.binds .any e) = true → l[j]? = some oj → oj.dst = some d → ∃ v, a.tmps[d]? = some v ∧ G j v w) →
   if Region.wanted o (yielded (l ++ t).toArray a.tmps) = true then Oper.wp P o a w (fun a' w' => ∃ v, a' = a.put o.dst v ∧ R i w w' ∧ G i v w') Q else R i w w ∧ G i undef w)
  (fin : ∀ (vs : Nat → Value) (w : World), H l.length w → (∀ i, i < l.length → G i (vs i) w) → ∀ a, puts vs 0 l a0 = a → wpList P (l ++ t).toArray Q t a w) :
  (Code.region id (l ++ t).toArray true).wp P Q a0 w0 := by
 simp only [qoc, Bool.and_eq_true, decide_eq_true_eq, List.all_eq_true, Bool.or_eq_true] at hshape
 obtain ⟨hsg, ht, h5, h6, h7⟩ := hshape
 simp only [qob, Bool.and_eq_true, decide_eq_true_eq, List.all_eq_true] at hsg
 obtain ⟨⟨h1, hnd⟩, h3⟩ := hsg
 have hd : ∀ o ∈ l, ∃ d, o.dst = some d ∧ d < a0.tmps.size := by
  intro o ho
  have := h1 o ho
  cases e : o.dst with
  | none => simp [e] at this
  | some d => exact ⟨d, rfl, by simpa [e] using this⟩
 have hlt : ∀ (i : Nat) (o : Oper), (l ++ t).toArray[i]? = some o → ∀ e ∈ o.after, e.on < i := by
  intro i o ho
  have ho' : (l ++ t)[i]? = some o := by simpa using ho
  have hi : i < (l ++ t).length := (List.getElem?_eq_some_iff.1 ho').1
  have := h5 i (List.mem_range.2 hi)
  rw [ho'] at this
  simp only [List.all_eq_true, decide_eq_true_eq] at this
  exact fun e he => this e (Array.mem_toList_iff.2 he)
 have hat : ∀ i o, i < l.length → (l ++ t).toArray[i]? = some o → l[i]? = some o := by
  intro i o hi ho
  have ho' : (l ++ t)[i]? = some o := by simpa using ho
  rwa [List.getElem?_append_left hi] at ho'
 have hsz : (l ++ t).toArray.size = l.length + t.length := by simp
 refine wp_region_any hm ?_
 refine qrr (ops := (l ++ t).toArray) l.length (by omega) hlt ?_ ?_ (fun a w => KeepD l.toArray a0 a) (fun i a w => ∀ o d, l[i]? = some o → o.dst = some d → ∃ v, a.tmps[d]? = some v ∧ G i v w) (fun k w => k ≤ l.length → H k w) ?_ ?_ _ _ _ _ ?_ ?_ ?_ ?_ ?_ ?_ ?_ ?_
 ·intro k o hk ho
  have ho' : (l ++ t)[k]? = some o := by simpa using ho
  have hi : k < (l ++ t).length := (List.getElem?_eq_some_iff.1 ho').1
  have := h6 k (List.mem_range.2 hi)
  rw [ho'] at this
  rcases this with c | c
  ·omega
  ·simp only [List.any_eq_true, Bool.and_eq_true, decide_eq_true_eq] at c
   obtain ⟨e, he, hb, hon⟩ := c
   exact ⟨e, Array.mem_toList_iff.1 he, hb, hon⟩
 ·intro i hi
  have := h7 i (List.mem_range.2 hi)
  simpa using this
 ·intro i o a w hil hi hk hHi hdeps
  have hi' : l[i]? = some o := hat i o hil hi
  obtain ⟨d, hdd, hds⟩ := hd o (List.mem_of_getElem? hi')
  refine wpOp_step hi fun K' hK' => ?_
  have fin1 : ∀ (a' : Act) (w' : World), (∃ v, a' = a.put o.dst v ∧ R i w w' ∧ G i v w') → K' a' w' := by
   intro a' w' hh
   refine hK' a' w' ?_
   obtain ⟨v, rfl, hb', hG⟩ := hh
   refine ⟨⟨by rw [qco, hk.size], by rw [qfd, hk.defers], fun s hs => ?_⟩, ?_, ?_, ?_⟩
   ·rw [qcp _ _ _ _ (hs o (by simpa using List.mem_of_getElem? hi')), hk.slot s hs]
   ·intro o2 d2 ho2 hd2
    obtain rfl : o2 = o := Option.some.inj (ho2.symm.trans hi')
    refine ⟨v, ?_, hG⟩
    rw [hd2]
    exact qdg v (by rw [hk.size]; obtain rfl : d = d2 := Option.some.inj (hdd.symm.trans hd2); exact hds)
   ·intro j hj hrj hF o2 d2 ho2 hd2
    obtain ⟨u, hu, hg⟩ := hF o2 d2 ho2 hd2
    have hjl : j < l.length := (List.getElem?_eq_some_iff.1 ho2).1
    refine ⟨u, ?_, sG i j u w w' hil hjl (by simpa using hrj) hj hb' hg⟩
    rw [qcp _ _ _ _ ?_]
    ·exact hu
    ·intro e
     refine hj ?_
     have hi1 : i < l.length := (List.getElem?_eq_some_iff.1 hi').1
     have hj1 : j < l.length := (List.getElem?_eq_some_iff.1 ho2).1
     have q1 : (l.map (fun o => o.dst))[i]? = some (some d2) := by rw [List.getElem?_map, hi', Option.map_some, e]
     have q2 : (l.map (fun o => o.dst))[j]? = some (some d2) := by rw [List.getElem?_map, ho2, Option.map_some, hd2]
     exact (List.getElem?_inj (by simpa using hj1) hnd).1 (q2.trans q1.symm)
   ·intro k hki hrk hHk hkl
    exact sH i k w w' hil hkl (by simpa using hrk) hki hb' (hHk hkl)
  have st := step i o a w hi' hk (hHi (Nat.le_of_lt hil)) (by
   intro j oj dj hj hoj hdj
   rw [List.any_eq_true] at hj
   obtain ⟨e, he, hej⟩ := hj
   rw [Bool.and_eq_true] at hej
   obtain rfl : e.on = j := by simpa using hej.1
   exact hdeps e (Array.mem_toList_iff.1 he) hej.2 oj dj hoj hdj)
  split at st
  ·rename_i hw
   rw [if_pos hw]
   exact Oper.wp_mono fin1 st
  ·rename_i hw
   rw [if_neg hw]
   exact fin1 _ _ ⟨undef, rfl, st.1, st.2⟩
 ·intro a w hk hF hHN
  have hvs : ∀ i : Nat, ∃ v, ∀ o d, l[i]? = some o → o.dst = some d → a.tmps[d]? = some v ∧ G i v w := by
   intro i
   by_cases hi : i < l.length
   ·obtain ⟨d, hdd, _⟩ := hd l[i] (List.getElem_mem hi)
    obtain ⟨v, hv, hg⟩ := hF i hi _ d (List.getElem?_eq_getElem hi) hdd
    refine ⟨v, fun o d' ho hd' => ?_⟩
    obtain rfl : l[i] = o := Option.some.inj ((List.getElem?_eq_getElem hi).symm.trans ho)
    obtain rfl : d = d' := Option.some.inj (hdd.symm.trans hd')
    exact ⟨hv, hg⟩
   ·refine ⟨undef, fun o d ho _ => ?_⟩
    rw [List.getElem?_eq_none (by omega)] at ho
    cases ho
  have hch := fun i => Classical.choose_spec (hvs i)
  have e := qpz (ops := l.toArray) (a := a0) (a' := a) hk (by simpa using hnd) (by simpa using hd) (fun i => Classical.choose (hvs i)) (fun i o d ho hdd => (hch i o d (by simpa using ho) hdd).1)
  rw [e]
  have := fin _ w (hHN (Nat.le_refl _)) (fun i hi => by
   obtain ⟨d, hdd, _⟩ := hd l[i] (List.getElem_mem hi)
   exact (hch i _ d (List.getElem?_eq_getElem hi) hdd).2) _ rfl
  simpa using this
 ·simp
 ·have : unl (l ++ t).toArray.size (Array.replicate (l ++ t).toArray.size false) ≤ (List.range (l ++ t).toArray.size).length := List.length_filter_le _ _
  simpa using this
 ·omega
 ·intro i _ hi
  have hi' : i < (Array.replicate (l ++ t).toArray.size false).size := by simpa using hi
  rw [Array.getD_eq_getD_getElem?, Array.getElem?_eq_getElem hi']
  simp
 ·intro j o ho hl
  have hj : j < (l ++ t).toArray.size := (Array.getElem?_eq_some_iff.1 ho).1
  have hj' : j < (Array.replicate (l ++ t).toArray.size false).size := by simpa using hj
  rw [Array.getD_eq_getD_getElem?, Array.getElem?_eq_getElem hj'] at hl
  simp at hl
 ·exact ⟨rfl, rfl, fun _ _ => rfl⟩
 ·intro i hi hl
  have hi' : i < (Array.replicate (l ++ t).toArray.size false).size := by simp; omega
  rw [Array.getD_eq_getD_getElem?, Array.getElem?_eq_getElem hi'] at hl
  simp at hl
 ·intro k _ _ _
  exact init k
theorem qns (n : Nat) {id : Nat} {ll : List Oper} {a0 : Act} {w0 : World} (hm : P.follows .mixedOrders = true) (hshape : qoc a0.tmps.size (ll.take n) (ll.drop n) = true)
  (R : Nat → World → World → Prop) (G : Nat → Value → World → Prop) (H : Nat → World → Prop)
  (sG : ∀ (i j : Nat) (v : Value) (w w' : World), i < n → j < n → reach ll.toArray ll.length j i = false → j ≠ i → R i w w' → G j v w → G j v w')
  (sH : ∀ (i k : Nat) (w w' : World), i < n → k ≤ n → reach ll.toArray ll.length i k = false → k ≠ i → R i w w' → H k w → H k w')
  (init : ∀ k, H k w0.drew)
  (step : ∀ (i : Nat) (o : Oper) (a : Act) (w : World), (ll.take n)[i]? = some o → KeepD (ll.take n).toArray a0 a → H i w → (∀ j oj d, (o.after.toList.any fun e => e.on == j && Region.binds .any e) = true → (ll.take n)[j]? = some oj → oj.dst = some d → ∃ v, a.tmps[d]? = some v ∧ G j v w) →
   if Region.wanted o (yielded ll.toArray a.tmps) = true then Oper.wp P o a w (fun a' w' => ∃ v, a' = a.put o.dst v ∧ R i w w' ∧ G i v w') Q else R i w w ∧ G i undef w)
  (fin : ∀ (vs : Nat → Value) (w : World), H n w → (∀ i, i < n → G i (vs i) w) → ∀ a, puts vs 0 (ll.take n) a0 = a → wpList P ll.toArray Q (ll.drop n) a w) :
  (Code.region id ll.toArray true).wp P Q a0 w0 := by
 have e : ll.take n ++ ll.drop n = ll := List.take_append_drop n ll
 by_cases hn : n ≤ ll.length
 ·have hl : (ll.take n).length = n := by simp [hn]
  have := qqb (id := id) (l := ll.take n) (t := ll.drop n) (a0 := a0) (w0 := w0) (Q := Q) hm hshape R G H (by rw [e, hl]; exact sG) (by rw [e, hl]; exact sH) init (by rw [e]; exact step) (by rw [e, hl]; exact fin)
  rwa [e] at this
 ·simp only [qoc, Bool.and_eq_true, decide_eq_true_eq] at hshape
  have h := hshape.2.1
  simp at h
  omega
end

theorem qaz {w : World} {B B' : Nat} {t : TypeId} {k : Nat} {v : Value} {n : Nat} {l : List Value} (h : w.ownsRow B t k v n l) (hB : B' ≤ B) : w.ownsRow B' t k v n l := by
 refine ⟨h.1, ?_⟩
 rcases h.2 with hn | ⟨b, c, cur, e, hb, rest⟩
 ·exact .inl hn
 ·exact .inr ⟨b, c, cur, e, by omega, rest⟩
def Dis (x y : Option Addr) : Prop := ∀ a b, x = some a → y = some b → a.block ≠ b.block
structure POwn (w : World) (B : Nat) (p : Pk) (d : Pd) : Prop where
 bod : Own w B p.bod.a p.bod.n p.bod.c d.bod
 wb : Own w B p.wb.a p.wb.n p.wb.c d.wb
 pa : Own w B p.pa.a p.pa.n p.pa.c d.pa
 wan : WOwn w B p.wan.a p.wan.n p.wan.c d.wan
 nam : SOwn w B p.nam.a p.nam.n p.nam.c d.nam
 cds : IOwn w B p.cds.a p.cds.n p.cds.c d.cds
 dis : List.Pairwise Dis [p.bod.a, p.wb.a, p.pa.a, p.wan.a, p.nam.a, p.cds.a]
theorem POwn.rd {w : World} {B : Nat} {p : Pk} {d : Pd} (h : POwn w B p d) : PRd w p d := ⟨h.bod.rd, h.wb.rd, h.pa.rd, h.wan.rd, h.nam.rd, h.cds.rd⟩

theorem WOwn.grown {w w' : World} {B : Nat} {ao : Option Addr} {n cap : Nat} {l : List (ByteArray × Int)} {row : Option Nat} (h : WOwn w B ao n cap l) (hg : w.grownBy w' row) (hne : ∀ a, ao = some a → some a.block ≠ row) : WOwn w' B ao n cap l := by
 refine ⟨h.1, h.2.kept hg ?_⟩
 cases ao with
 | none => exact .inl rfl
 | some a => exact .inr (hne a rfl)
theorem WOwn.block {w : World} {B : Nat} {ao : Option Addr} {n cap : Nat} {l : List (ByteArray × Int)} (h : WOwn w B ao n cap l) {a : Addr} (e : ao = some a) : B ≤ a.block ∧ a.block < w.heap.size := by
 subst e
 exact h.2.lt _ rfl
theorem WOwn.head {w : World} {B : Nat} {ao : Option Addr} {n cap : Nat} {l : List (ByteArray × Int)} (h : WOwn w B ao n cap l) (hn : 0 < n) : ∃ g, ao = some ⟨g, 0, none⟩ := by
 rcases h.2.2 with ⟨e, h0⟩ | ⟨g, c, cur, e, _⟩
 ·omega
 ·simp only [Value.slice.injEq] at e
  exact ⟨g, e.1⟩
def Pk.has (p : Pk) (k : Nat) : Prop := ∃ a : Addr, some a ∈ [p.bod.a, p.wb.a, p.pa.a, p.wan.a, p.nam.a, p.cds.a] ∧ a.block = k
structure Touch (F : Nat → Prop) (w w' : World) : Prop where
 os : w'.os = w.os
 tape : w'.tape = w.tape
 output : w'.output = w.output
 size : w.heap.size ≤ w'.heap.size
 block : ∀ k, k < w.heap.size → ¬ F k → w'.heap[k]? = w.heap[k]?
theorem Touch.refl (F : Nat → Prop) (w : World) : Touch F w w := ⟨rfl, rfl, rfl, Nat.le_refl _, fun _ _ _ => rfl⟩
theorem Touch.trans {F : Nat → Prop} {w w1 w2 : World} (h : Touch F w w1) (g : Touch F w1 w2) : Touch F w w2 :=
 ⟨g.os.trans h.os, g.tape.trans h.tape, g.output.trans h.output, Nat.le_trans h.size g.size, fun k hk hn => (g.block k (Nat.lt_of_lt_of_le hk h.size) hn).trans (h.block k hk hn)⟩
theorem Touch.below {F : Nat → Prop} {w w' : World} {B : Nat} (h : Touch F w w') (hB : B ≤ w.heap.size) (hF : ∀ k, F k → B ≤ k) : Below B w w' :=
 ⟨h.os, h.tape, h.output, h.size, fun k hk => h.block k (by omega) (fun hf => by have := hF k hf; omega)⟩
theorem POwn.lt {w : World} {B : Nat} {p : Pk} {d : Pd} (h : POwn w B p d) {k : Nat} (hk : p.has k) : B ≤ k ∧ k < w.heap.size := by
 obtain ⟨a, ha, rfl⟩ := hk
 simp only [List.mem_cons, List.not_mem_nil, or_false] at ha
 rcases ha with ha | ha | ha | ha | ha | ha
 ·exact h.bod.block ha.symm
 ·exact h.wb.block ha.symm
 ·exact h.pa.block ha.symm
 ·exact h.wan.block ha.symm
 ·exact h.nam.block ha.symm
 ·exact h.cds.block ha.symm
theorem POwn.below {w w' : World} {B : Nat} {p : Pk} {d : Pd} (h : POwn w B p d) (hb : Below w.heap.size w w') : POwn w' B p d :=
 ⟨h.bod.below hb, h.wb.below hb, h.pa.below hb, h.wan.below hb, h.nam.below hb, h.cds.below hb, h.dis⟩
theorem Dis.symm {x y : Option Addr} (h : Dis x y) : Dis y x := fun a b ha hb e => h b a hb ha e.symm
end Go.Proofs.YtccjiicjlifmiaaGreatDoor
