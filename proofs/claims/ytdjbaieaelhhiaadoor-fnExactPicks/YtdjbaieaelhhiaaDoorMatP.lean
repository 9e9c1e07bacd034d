/- What fits what, both cut to one length. No Go in it. -/
import Derived.Test.YtdjbaieaelhhiaaDoorFits
set_option linter.unusedVariables false
set_option linter.unusedSimpArgs false
namespace Go.Proofs.YtdjbaieaelhhiaaDoor

/-- Level by level, both to their ends. -/
def eqF : List (List UInt8) → List (List UInt8) → Bool
  | [], [] => true
  | x :: f, y :: g => fit1 x y && eqF f g
  | _, _ => false
theorem eqF_len : ∀ f g : List (List UInt8), f.length ≠ g.length → eqF f g = false
  | [], [], h => absurd rfl h
  | [], y :: g, _ => rfl
  | x :: f, [], _ => rfl
  | x :: f, y :: g, h => by
    rw [eqF, eqF_len f g (fun e => h (by simp [e])), Bool.and_false]
theorem eqF_step (f g : List (List UInt8)) (k : Nat) (hk : k < f.length) (hg : k < g.length) : eqF (f.drop k) (g.drop k) = (fit1 (f.getD k []) (g.getD k []) && eqF (f.drop (k + 1)) (g.drop (k + 1))) := by
  have e : f.drop k = f.getD k [] :: f.drop (k + 1) := by
    rw [List.drop_eq_getElem_cons hk]
    simp [List.getD_eq_getElem?_getD, List.getElem?_eq_getElem hk]
  have e2 : g.drop k = g.getD k [] :: g.drop (k + 1) := by
    rw [List.drop_eq_getElem_cons hg]
    simp [List.getD_eq_getElem?_getD, List.getElem?_eq_getElem hg]
  rw [e, e2, eqF]
theorem eqF_end (f g : List (List UInt8)) (k : Nat) (hf : f.length ≤ k) (hg : g.length ≤ k) : eqF (f.drop k) (g.drop k) = true := by
  rw [List.drop_eq_nil_of_le hf, List.drop_eq_nil_of_le hg]
  rfl

theorem fits_eqF : ∀ f g : List (List UInt8), (∀ x ∈ f, x ≠ [35]) → fits f g = eqF f g
  | [], [], _ => rfl
  | [], y :: g, _ => rfl
  | x :: f, [], h => by rw [fits_cons0 (h x (by simp))]; rfl
  | x :: f, y :: g, h => by rw [fits_cons (h x (by simp)), fits_eqF f g (fun z hz => h z (by simp [hz])), eqF]
theorem fits_cutF : ∀ f g : List (List UInt8), (∀ x ∈ f, x ≠ [35]) → fits (f ++ [[35]]) g = (decide (f.length ≤ g.length) && eqF f (g.take f.length))
  | [], g, _ => by
    rw [List.nil_append, fits_hash rfl]
    simp [eqF]
  | x :: f, [], h => by rw [List.cons_append, fits_cons0 (h x (by simp))]; rfl
  | x :: f, y :: g, h => by
    rw [List.cons_append, fits_cons (h x (by simp)), fits_cutF f g (fun z hz => h z (by simp [hz])), List.length_cons, List.length_cons, List.take_succ_cons, eqF]
    simp only [Nat.add_le_add_iff_right]
    cases fit1 x y <;> cases decide (f.length ≤ g.length) <;> simp

/-- In a filter only the last level is all that is left. -/
theorem may_front : ∀ (ls : List (List UInt8)) (k : Nat), mayAll ls = true → k + 1 < ls.length → ls.getD k [] ≠ [35]
  | [], _, _, h => by simp at h
  | x :: r, 0, hm, h => by
    rw [mayAll_cons, Bool.and_eq_true] at hm
    intro e
    have ex : x = [35] := e
    have hr : r.isEmpty = false := by
      cases r with
      | nil => simp at h
      | cons a t => rfl
    have := hm.1
    rw [hr, ex] at this
    simp [may] at this
  | x :: r, k + 1, hm, h => by
    rw [mayAll_cons, Bool.and_eq_true] at hm
    have := may_front r k hm.2 (by simpa using h)
    simpa using this
theorem take_front {ls : List (List UInt8)} {n : Nat} (hm : mayAll ls = true) (hn : ls.length = n + 1) : ∀ x ∈ ls.take n, x ≠ [35] := by
  intro x hx
  obtain ⟨k, hk, e⟩ := List.mem_iff_getElem.1 hx
  rw [List.length_take] at hk
  have := may_front ls k hm (by omega)
  rw [List.getElem_take] at e
  rw [← e]
  simpa [List.getD_eq_getElem?_getD, List.getElem?_eq_getElem (show k < ls.length by omega)] using this
theorem split_last {ls : List (List UInt8)} {n : Nat} (hn : ls.length = n + 1) : ls = ls.take n ++ [ls.getD n []] := by
  have h : n < ls.length := by omega
  have e := List.take_append_drop n ls
  rw [List.drop_eq_getElem_cons h, List.drop_eq_nil_of_le (by omega)] at e
  rw [show ls.getD n [] = ls[n] by simp [List.getD_eq_getElem?_getD, List.getElem?_eq_getElem h]]
  exact e.symm
theorem fits_last {ls : List (List UInt8)} {n : Nat} (g : List (List UInt8)) (hm : mayAll ls = true) (hn : ls.length = n + 1) (h : ls.getD n [] = [35]) : fits ls g = (decide (n ≤ g.length) && eqF (ls.take n) (g.take n)) := by
  have e := split_last hn
  rw [h] at e
  have hl : (ls.take n).length = n := by rw [List.length_take]; omega
  have := fits_cutF (ls.take n) g (take_front hm hn)
  rw [hl, ← e] at this
  exact this
theorem fits_full {ls : List (List UInt8)} {n : Nat} (g : List (List UInt8)) (hm : mayAll ls = true) (hn : ls.length = n + 1) (h : ls.getD n [] ≠ [35]) : fits ls g = eqF ls g := by
  refine fits_eqF _ _ fun x hx => ?_
  rw [split_last hn] at hx
  rcases List.mem_append.1 hx with hx | hx
  · exact take_front hm hn x hx
  · simp at hx
    rw [hx]
    simpa using h
theorem fit1_or (x y : List UInt8) : fit1 x y = (decide (x = y) || (decide (x = [43]) && decide (y ≠ [35]))) := by
  unfold fit1
  by_cases h : x = [43]
  · subst h
    by_cases h2 : y = [35]
    · subst h2; rfl
    · simp [h2]
  · simp [h]

end Go.Proofs.YtdjbaieaelhhiaaDoor
