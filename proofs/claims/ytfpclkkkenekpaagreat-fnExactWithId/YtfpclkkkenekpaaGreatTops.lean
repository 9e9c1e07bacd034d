/- Topics as lists of bytes: their levels, the levels put together again, signs that are wild. No Go in it. -/
import Derived.Test.YtfpclkkkenekpaaGreatPlain
set_option linter.unusedVariables false
set_option linter.unusedSimpArgs false
namespace Go.Proofs.YtfpclkkkenekpaaGreat

/-- p ahead of the first. -/
def pre (p : List UInt8) : List (List UInt8) → List (List UInt8)
  | [] => [p]
  | h :: t => (p ++ h) :: t

/-- The levels: cut at each stroke. -/
def lvl : List UInt8 → List (List UInt8)
  | [] => [[]]
  | c :: r => if c = 47 then [] :: lvl r else pre [c] (lvl r)

/-- Put together, with strokes between. -/
def glue : List (List UInt8) → List UInt8
  | [] => []
  | [x] => x
  | x :: y :: r => x ++ 47 :: glue (y :: r)

theorem pre_nil {ls : List (List UInt8)} (h : ls ≠ []) : pre [] ls = ls := by
  cases ls with
  | nil => exact absurd rfl h
  | cons a t => rfl
theorem pre_pre (p q : List UInt8) (ls : List (List UInt8)) : pre p (pre q ls) = pre (p ++ q) ls := by cases ls <;> simp [pre]
theorem pre_ne (p : List UInt8) (ls : List (List UInt8)) : pre p ls ≠ [] := by cases ls <;> simp [pre]
theorem pre_length (p : List UInt8) {ls : List (List UInt8)} (h : ls ≠ []) : (pre p ls).length = ls.length := by
  cases ls with
  | nil => exact absurd rfl h
  | cons a t => rfl
theorem lvl_nil : lvl [] = [[]] := rfl
theorem lvl_stroke (r : List UInt8) : lvl (47 :: r) = [] :: lvl r := by simp [lvl]
theorem lvl_other {c : UInt8} (h : c ≠ 47) (r : List UInt8) : lvl (c :: r) = pre [c] (lvl r) := by simp [lvl, h]
theorem lvl_ne : ∀ l, lvl l ≠ []
  | [] => by simp [lvl]
  | c :: r => by
    by_cases h : c = 47
    · subst h; rw [lvl_stroke]; simp
    · rw [lvl_other h]; exact pre_ne _ _
theorem lvl_pos (l : List UInt8) : 1 ≤ (lvl l).length := List.length_pos_iff.2 (lvl_ne l)

/-- A part without a stroke, then a stroke. -/
theorem lvl_cut : ∀ (a r : List UInt8), (∀ c ∈ a, c ≠ 47) → lvl (a ++ 47 :: r) = a :: lvl r
  | [], r, _ => by rw [List.nil_append, lvl_stroke]
  | c :: a, r, h => by
    rw [List.cons_append, lvl_other (h c (by simp)), lvl_cut a r (fun x hx => h x (by simp [hx]))]
    rfl
theorem lvl_whole : ∀ (a : List UInt8), (∀ c ∈ a, c ≠ 47) → lvl a = [a]
  | [], _ => rfl
  | c :: a, h => by
    rw [lvl_other (h c (by simp)), lvl_whole a (fun x hx => h x (by simp [hx]))]
    rfl

/-- No level has a stroke. -/
theorem lvl_plain : ∀ (l x : List UInt8), x ∈ lvl l → ∀ c ∈ x, c ≠ 47
  | [], x, hx, c, hc => by
    simp [lvl] at hx
    subst hx
    simp at hc
  | d :: r, x, hx, c, hc => by
    by_cases h : d = 47
    · subst h
      rw [lvl_stroke] at hx
      rcases List.mem_cons.1 hx with rfl | hx
      · simp at hc
      · exact lvl_plain r x hx c hc
    · rw [lvl_other h] at hx
      cases hl : lvl r with
      | nil => exact absurd hl (lvl_ne r)
      | cons a t =>
        rw [hl] at hx
        simp only [pre, List.mem_cons] at hx
        rcases hx with rfl | hx
        · simp only [List.cons_append, List.nil_append, List.mem_cons] at hc
          rcases hc with rfl | hc
          · exact h
          · exact lvl_plain r a (by rw [hl]; simp) c hc
        · exact lvl_plain r x (by rw [hl]; simp [hx]) c hc
theorem lvl_level {l x : List UInt8} (h : x ∈ lvl l) : lvl x = [x] := lvl_whole x (lvl_plain l x h)

theorem glue_cons (x : List UInt8) {ls : List (List UInt8)} (h : ls ≠ []) : glue (x :: ls) = x ++ 47 :: glue ls := by
  cases ls with
  | nil => exact absurd rfl h
  | cons a t => rfl
theorem glue_pre (p : List UInt8) : ∀ (ls : List (List UInt8)), ls ≠ [] → glue (pre p ls) = p ++ glue ls
  | [], h => absurd rfl h
  | [x], _ => rfl
  | x :: y :: r, _ => by simp [pre, glue]
/-- The levels put together again. -/
theorem glue_lvl : ∀ l, glue (lvl l) = l
  | [] => rfl
  | c :: r => by
    by_cases h : c = 47
    · subst h
      rw [lvl_stroke, glue_cons _ (lvl_ne r), glue_lvl r]
      rfl
    · rw [lvl_other h, glue_pre _ _ (lvl_ne r), glue_lvl r]
      rfl
theorem glue_snoc (x : List UInt8) : ∀ (ls : List (List UInt8)), ls ≠ [] → glue (ls ++ [x]) = glue ls ++ 47 :: x
  | [], h => absurd rfl h
  | [a], _ => rfl
  | a :: b :: r, _ => by
    have := glue_snoc x (b :: r) (by simp)
    simp only [List.cons_append] at this ⊢
    rw [glue_cons a (show b :: (r ++ [x]) ≠ [] by simp), this, glue_cons a (show b :: r ≠ [] by simp)]
    simp

/-- It has the sign. -/
def has (l : List UInt8) (c : UInt8) : Bool := l.contains c
theorem has_nil (c : UInt8) : has [] c = false := rfl
theorem has_cons (a : UInt8) (l : List UInt8) (c : UInt8) : has (a :: l) c = (c == a || has l c) := by unfold has; rw [List.contains_cons]
theorem has_append (a l : List UInt8) (c : UInt8) : has (a ++ l) c = (has a c || has l c) := by
  induction a with
  | nil => simp [has]
  | cons x r ih => simp [has_cons, ih, Bool.or_assoc]
/-- In some level, or in none. -/
theorem has_lvl {c : UInt8} (hc : c ≠ 47) : ∀ l, has l c = (lvl l).any (fun x => has x c)
  | [] => by simp [lvl, has]
  | a :: r => by
    rw [has_cons, has_lvl hc r]
    by_cases h : a = 47
    · subst h
      rw [lvl_stroke, List.any_cons, has_nil, Bool.false_or]
      have : (c == 47) = false := beq_eq_false_iff_ne.2 hc
      rw [this, Bool.false_or]
    · rw [lvl_other h]
      cases hl : lvl r with
      | nil => exact absurd hl (lvl_ne r)
      | cons x t => simp [pre, has_cons, Bool.or_assoc]

def wildB (l : List UInt8) : Bool := has l 43 || has l 35
/-- A level that a filter may have, last or not. -/
def may (x : List UInt8) (last : Bool) : Bool := if x = [43] then true else if x = [35] then last else !wildB x
/-- All levels may be. -/
def mayAll : List (List UInt8) → Bool
  | [] => true
  | [x] => may x true
  | x :: y :: r => may x false && mayAll (y :: r)
def levOk (l : List UInt8) : Bool := decide (l ≠ []) && (okT l && decide ((lvl l).length ≤ 6))
def topOk (l : List UInt8) : Bool := levOk l && !wildB l
def filOk (l : List UInt8) : Bool := levOk l && mayAll (lvl l)
def wildOk (l : List UInt8) : Bool := filOk l && wildB l

/-- What the specification asks of a level that is not the last, or is. -/
theorem may_spec (x : List UInt8) (last : Bool) : may x last = !((has x 43 && decide (x ≠ [43])) || (has x 35 && (decide (x ≠ [35]) || !last))) := by
  unfold may wildB
  by_cases h1 : x = [43]
  · subst h1; cases last <;> rfl
  · rw [if_neg h1]
    by_cases h2 : x = [35]
    · subst h2; cases last <;> rfl
    · rw [if_neg h2]
      simp [h1, h2]

theorem mayAll_cons (x : List UInt8) (r : List (List UInt8)) : mayAll (x :: r) = (may x r.isEmpty && mayAll r) := by
  cases r <;> simp [mayAll]
/-- Level by level, from the front. -/
theorem mayAll_drop (ls : List (List UInt8)) (k : Nat) (hk : k < ls.length) : mayAll (ls.drop k) = (may (ls.getD k []) (decide (k + 1 = ls.length)) && mayAll (ls.drop (k + 1))) := by
  rw [List.drop_eq_getElem_cons hk, mayAll_cons]
  congr 2
  · simp [List.getD_eq_getElem?_getD, List.getElem?_eq_getElem hk]
  · rw [Bool.eq_iff_iff]
    simp only [List.isEmpty_iff, List.drop_eq_nil_iff, decide_eq_true_eq]
    omega
theorem mayAll_end (ls : List (List UInt8)) (k : Nat) (hk : ls.length ≤ k) : mayAll (ls.drop k) = true := by
  rw [List.drop_eq_nil_of_le hk]; rfl

theorem mayAll_of_plain : ∀ ls : List (List UInt8), (∀ x ∈ ls, wildB x = false) → mayAll ls = true
  | [], _ => rfl
  | x :: r, h => by
    rw [mayAll_cons, mayAll_of_plain r (fun y hy => h y (by simp [hy])), Bool.and_true]
    have hx := h x (by simp)
    unfold may
    by_cases h1 : x = [43]
    · subst h1; rfl
    · rw [if_neg h1]
      by_cases h2 : x = [35]
      · subst h2; cases hx
      · rw [if_neg h2, hx]; rfl

/-- A topic that may be told of may be wanted. -/
theorem topOk_fil {l : List UInt8} (h : topOk l = true) : filOk l = true := by
  simp only [topOk, Bool.and_eq_true, Bool.not_eq_true'] at h
  simp only [filOk, Bool.and_eq_true]
  refine ⟨h.1, mayAll_of_plain _ fun x hx => ?_⟩
  have hw := h.2
  simp only [wildB, Bool.or_eq_false_iff] at hw ⊢
  rw [has_lvl (by decide), has_lvl (by decide)] at hw
  exact ⟨by simpa using List.any_eq_false.1 hw.1 x hx, by simpa using List.any_eq_false.1 hw.2 x hx⟩
theorem topOk_plain {l : List UInt8} (h : topOk l = true) : wildOk l = false := by
  simp only [topOk, Bool.and_eq_true, Bool.not_eq_true'] at h
  simp [wildOk, h.2]
/-- Of what may be wanted: wild, or to be told of. -/
theorem filOk_wild {l : List UInt8} (h : filOk l = true) : wildOk l = !topOk l := by
  have h' := h
  simp only [filOk, Bool.and_eq_true] at h
  simp [wildOk, topOk, h', h.1]
theorem filOk_six {l : List UInt8} (h : filOk l = true) : (lvl l).length ≤ 6 := by
  simp only [filOk, levOk, Bool.and_eq_true, decide_eq_true_eq] at h
  exact h.1.2.2

end Go.Proofs.YtfpclkkkenekpaaGreat
