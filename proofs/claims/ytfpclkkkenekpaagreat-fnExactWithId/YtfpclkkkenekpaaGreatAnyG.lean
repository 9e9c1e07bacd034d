/- A region whose order is drawn and some of whose operations are guarded, by what each of them leaves. No Go text is run here. -/
import Derived.Test.YtfpclkkkenekpaaGreatAnyO
set_option linter.unusedVariables false
set_option linter.unusedSimpArgs false
namespace Go.Proofs.YtfpclkkkenekpaaGreat
open Go.RowKit

section
variable {P : Program} {ops : Array Oper} {Q : Exit → Act → World → Prop}
/-- The shape that the law asks: each operation writes a slot of its own, and hangs on earlier ones. -/
def shapeG (n : Nat) (l : List Oper) : Bool :=
  (l.all fun o => match o.dst with | some d => decide (d < n) | none => false) && decide ((l.map (fun o => o.dst)).Nodup) && ((List.range l.length).all fun i => match l[i]? with | some o => o.after.toList.all (fun e => decide (e.on < i)) | none => true)

/-- A REGION WHOSE ORDER IS DRAWN, some of it guarded, by what each operation leaves ('G i v w': operation i's value is v, and of the world this holds: it stays while old blocks stay). -/
theorem region_facts_g {id : Nat} {l : List Oper} {a0 : Act} {w0 : World} (hm : P.follows .mixedOrders = true) (hshape : shapeG a0.tmps.size l = true)
    (G : Nat → Value → World → Prop) (stable : ∀ (i : Nat) (v : Value) (w w' : World), Below w.heap.size w w' → G i v w → G i v w')
    (step : ∀ (i : Nat) (o : Oper) (a : Act) (w : World), l[i]? = some o → KeepD l.toArray a0 a → Below w0.heap.size w0 w → (∀ j oj d, (o.after.toList.any fun e => e.on == j && Region.binds .any e) = true → l[j]? = some oj → oj.dst = some d → ∃ v, a.tmps[d]? = some v ∧ G j v w) →
      if Region.wanted o (yielded l.toArray a.tmps) = true then Oper.wp P o a w (fun a' w' => ∃ v, a' = a.put o.dst v ∧ Below w.heap.size w w' ∧ G i v w') Q else G i undef w)
    (fin : ∀ (vs : Nat → Value) (w : World), Below w0.heap.size w0 w → (∀ i, i < l.length → G i (vs i) w) → ∀ a, puts vs 0 l a0 = a → Q .normal a w) :
    (Code.region id l.toArray true).wp P Q a0 w0 := by
  simp only [shapeG, Bool.and_eq_true, decide_eq_true_eq, List.all_eq_true] at hshape
  obtain ⟨⟨h1, hnd⟩, h3⟩ := hshape
  have hd : ∀ o ∈ l, ∃ d, o.dst = some d ∧ d < a0.tmps.size := by
    intro o ho
    have := h1 o ho
    cases e : o.dst with
    | none => simp [e] at this
    | some d => exact ⟨d, rfl, by simpa [e] using this⟩
  have h4 : ∀ (i : Nat) (o : Oper), l[i]? = some o → (∀ e ∈ o.after, e.on < i) := by
    intro i o ho
    have hi : i < l.length := (List.getElem?_eq_some_iff.1 ho).1
    have := h3 i (List.mem_range.2 hi)
    rw [ho] at this
    simp only [List.all_eq_true, decide_eq_true_eq] at this
    exact fun e he => this e (Array.mem_toList_iff.2 he)
  refine wp_region_any hm ?_
  refine wpAny_facts (fun i o ho => h4 i o (by simpa using ho)) (fun a w => KeepD l.toArray a0 a ∧ Below w0.heap.size w0 w) (fun i a w => ∀ o d, l[i]? = some o → o.dst = some d → ∃ v, a.tmps[d]? = some v ∧ G i v w) ?_ ?_ _ _ _ _ ?_ ?_ ?_ ?_
  · intro i o a w hi hI hdeps
    have hi' : l[i]? = some o := by simpa using hi
    obtain ⟨hk, hb⟩ := hI
    obtain ⟨d, hdd, hds⟩ := hd o (List.mem_of_getElem? hi')
    refine wpOp_step hi fun K' hK' => ?_
    have fin1 : ∀ (a' : Act) (w' : World), (∃ v, a' = a.put o.dst v ∧ Below w.heap.size w w' ∧ G i v w') → K' a' w' := by
      intro a' w' hh
      refine hK' a' w' ?_
      obtain ⟨v, rfl, hb', hG⟩ := hh
      refine ⟨⟨⟨by rw [put_tmps_size, hk.size], by rw [put_defers, hk.defers], fun s hs => ?_⟩, hb.trans (hb'.mono hb.size)⟩, ?_, ?_⟩
      · rw [put_other _ _ _ _ (hs o (by simpa using List.mem_of_getElem? hi')), hk.slot s hs]
      · intro o2 d2 ho2 hd2
        obtain rfl : o2 = o := Option.some.inj (ho2.symm.trans hi')
        refine ⟨v, ?_, hG⟩
        rw [hd2]
        exact put_at v (by rw [hk.size]; obtain rfl : d = d2 := Option.some.inj (hdd.symm.trans hd2); exact hds)
      · intro j hj hF o2 d2 ho2 hd2
        obtain ⟨u, hu, hg⟩ := hF o2 d2 ho2 hd2
        refine ⟨u, ?_, stable j u w w' hb' hg⟩
        rw [put_other _ _ _ _ ?_]
        · exact hu
        · intro e
          refine hj ?_
          have hi1 : i < l.length := (List.getElem?_eq_some_iff.1 hi').1
          have hj1 : j < l.length := (List.getElem?_eq_some_iff.1 ho2).1
          have q1 : (l.map (fun o => o.dst))[i]? = some (some d2) := by rw [List.getElem?_map, hi', Option.map_some, e]
          have q2 : (l.map (fun o => o.dst))[j]? = some (some d2) := by rw [List.getElem?_map, ho2, Option.map_some, hd2]
          exact (List.getElem?_inj (by simpa using hj1) hnd).1 (q2.trans q1.symm)
    have st := step i o a w hi' hk hb (by
      intro j oj dj hj hoj hdj
      rw [List.any_eq_true] at hj
      obtain ⟨e, he, hej⟩ := hj
      rw [Bool.and_eq_true] at hej
      obtain rfl : e.on = j := by simpa using hej.1
      exact hdeps e (Array.mem_toList_iff.1 he) hej.2 oj dj hoj hdj)
    split at st
    · rename_i hw
      rw [if_pos hw]
      exact Oper.wp_mono fin1 st
    · rename_i hw
      rw [if_neg hw]
      exact fin1 _ _ ⟨undef, rfl, Below.refl _ _, st⟩
  · intro a w hI hF
    obtain ⟨hk, hb⟩ := hI
    have hvs : ∀ i : Nat, ∃ v, ∀ o d, l[i]? = some o → o.dst = some d → a.tmps[d]? = some v ∧ G i v w := by
      intro i
      by_cases hi : i < l.length
      · obtain ⟨d, hdd, _⟩ := hd l[i] (List.getElem_mem hi)
        obtain ⟨v, hv, hg⟩ := hF i (by simpa using hi) _ d (List.getElem?_eq_getElem hi) hdd
        refine ⟨v, fun o d' ho hd' => ?_⟩
        obtain rfl : l[i] = o := Option.some.inj ((List.getElem?_eq_getElem hi).symm.trans ho)
        obtain rfl : d = d' := Option.some.inj (hdd.symm.trans hd')
        exact ⟨hv, hg⟩
      · refine ⟨undef, fun o d ho _ => ?_⟩
        rw [List.getElem?_eq_none (by omega)] at ho
        cases ho
    have hch := fun i => Classical.choose_spec (hvs i)
    have e := puts_is (ops := l.toArray) (a := a0) (a' := a) hk (by simpa using hnd) (by simpa using hd) (fun i => Classical.choose (hvs i)) (fun i o d ho hdd => (hch i o d (by simpa using ho) hdd).1)
    rw [e]
    refine fin _ w hb (fun i hi => ?_) _ rfl
    obtain ⟨d, hdd, _⟩ := hd l[i] (List.getElem_mem hi)
    exact (hch i _ d (List.getElem?_eq_getElem hi) hdd).2
  · simp
  · have : unl l.toArray.size (Array.replicate l.toArray.size false) ≤ (List.range l.toArray.size).length := List.length_filter_le _ _
    simpa using this
  · exact ⟨⟨rfl, rfl, fun _ _ => rfl⟩, ⟨rfl, rfl, rfl, Nat.le_refl _, fun _ _ => rfl⟩⟩
  · intro i hi hl
    have hi' : i < (Array.replicate l.toArray.size false).size := by simpa using hi
    rw [Array.getD_eq_getD_getElem?, Array.getElem?_eq_getElem hi'] at hl
    simp at hl
theorem g_run {o : Oper} {y : Nat → Option Bool} {A B : Prop} (hw : Region.wanted o y = true) (h : A) : if Region.wanted o y = true then A else B := by rw [if_pos hw]; exact h
theorem g_skip {o : Oper} {y : Nat → Option Bool} {A B : Prop} (hw : Region.wanted o y = false) (h : B) : if Region.wanted o y = true then A else B := by rw [if_neg (by rw [hw]; decide)]; exact h
theorem puts_slot {vs : Nat → Value} {l : List Oper} {a0 a3 : Act} (h3 : puts vs 0 l a0 = a3) (hsh : shapeG a0.tmps.size l = true) (j : Nat) {o : Oper} {s : Nat} (hj : l[j]? = some o) (hd : o.dst = some s) : a3.tmps[s]? = some (vs j) := by
  simp only [shapeG, Bool.and_eq_true, decide_eq_true_eq, List.all_eq_true] at hsh
  obtain ⟨⟨h1, hnd⟩, _⟩ := hsh
  have := h1 o (List.mem_of_getElem? hj)
  rw [hd] at this
  rw [← h3, puts_at vs s l 0 j a0 o hnd hj hd (of_decide_eq_true this), Nat.zero_add]
theorem puts_def {vs : Nat → Value} {l : List Oper} {a0 a3 : Act} (h3 : puts vs 0 l a0 = a3) : a3.defers = a0.defers := by rw [← h3, puts_defers]
end
end Go.Proofs.YtfpclkkkenekpaaGreat
