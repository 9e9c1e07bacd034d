/- Hidden of both sides: the first byte is a dollar. Topics as lists of bytes: their levels, the levels put together again, signs that are wild. No Go in it. What fits what, as lists of bytes. No Go in it. A packet as a value: what its kind names, and when it is right. No Go in it. -/
import Derived.Test.YtccjiicjlifmiaaGreatDoorPlain
set_option linter.unusedVariables false
set_option linter.unusedSimpArgs false
namespace Go.Proofs.YtccjiicjlifmiaaGreatDoor
open Go.RowKit

theorem at_data (s : ByteArray) (i : Nat) (h : i < s.size) : s.data.toList[i]? = some (s[i]'h) := by
  have e1 : s.size = s.data.toList.length := rfl
  rw [List.getElem?_eq_getElem (by omega)]
  rfl

theorem starts_one (s : ByteArray) (h : 0 < s.size) : starts s.data.toList [36] = (((s[0]'h).toNat : Int) == 36) := by
  have hl : s.data.toList[0]? = some (s[0]'h) := at_data s 0 h
  generalize s[0]'h = x at hl
  generalize s.data.toList = l at hl
  match l, hl with
  | y :: r, hl =>
    simp at hl
    subst hl
    simp only [starts, List.length_cons, List.length_nil, List.take_succ_cons, List.take_zero]
    rw [decide_eq_true (by omega), Bool.true_and]
    by_cases hx : y = 36
    · subst hx; rfl
    · have h1 : ([y] == [36]) = false := by simp [hx]
      have h2 : ((y.toNat : Int) == 36) = false := by
        simp only [beq_eq_false_iff_ne, ne_eq]
        intro e
        apply hx
        apply UInt8.toNat_inj.1
        simpa using (show y.toNat = 36 by omega)
      rw [h1, h2]

theorem starts_empty (s : ByteArray) (h : ¬ 0 < s.size) : starts s.data.toList [36] = false := by
  have e1 : s.size = s.data.toList.length := rfl
  have : s.data.toList = [] := List.eq_nil_of_length_eq_zero (by omega)
  rw [this]
  rfl

end Go.Proofs.YtccjiicjlifmiaaGreatDoor
set_option linter.unusedVariables false
set_option linter.unusedSimpArgs false
namespace Go.Proofs.YtccjiicjlifmiaaGreatDoor

/-- p ahead of the first. -/
def pre (p : List UInt8) : List (List UInt8) → List (List UInt8)
  | [] => [p]
  | h :: t => (p ++ h) :: t

/-- The levels: cut at each stroke. -/
def lvl : List UInt8 → List (List UInt8)
  | [] => [[]]
  | c :: r => if c = 47 then [] :: lvl r else pre [c] (lvl r)

/-- Put together, with strokes between. -/
def glue : List (List UInt8) → List UInt8
  | [] => []
  | [x] => x
  | x :: y :: r => x ++ 47 :: glue (y :: r)

theorem pre_nil {ls : List (List UInt8)} (h : ls ≠ []) : pre [] ls = ls := by
  cases ls with
  | nil => exact absurd rfl h
  | cons a t => rfl
theorem pre_pre (p q : List UInt8) (ls : List (List UInt8)) : pre p (pre q ls) = pre (p ++ q) ls := by cases ls <;> simp [pre]
theorem pre_ne (p : List UInt8) (ls : List (List UInt8)) : pre p ls ≠ [] := by cases ls <;> simp [pre]
theorem pre_length (p : List UInt8) {ls : List (List UInt8)} (h : ls ≠ []) : (pre p ls).length = ls.length := by
  cases ls with
  | nil => exact absurd rfl h
  | cons a t => rfl
theorem lvl_nil : lvl [] = [[]] := rfl
theorem lvl_stroke (r : List UInt8) : lvl (47 :: r) = [] :: lvl r := by simp [lvl]
theorem lvl_other {c : UInt8} (h : c ≠ 47) (r : List UInt8) : lvl (c :: r) = pre [c] (lvl r) := by simp [lvl, h]
theorem lvl_ne : ∀ l, lvl l ≠ []
  | [] => by simp [lvl]
  | c :: r => by
    by_cases h : c = 47
    · subst h; rw [lvl_stroke]; simp
    · rw [lvl_other h]; exact pre_ne _ _
theorem lvl_pos (l : List UInt8) : 1 ≤ (lvl l).length := List.length_pos_iff.2 (lvl_ne l)

/-- A part without a stroke, then a stroke. -/
theorem lvl_cut : ∀ (a r : List UInt8), (∀ c ∈ a, c ≠ 47) → lvl (a ++ 47 :: r) = a :: lvl r
  | [], r, _ => by rw [List.nil_append, lvl_stroke]
  | c :: a, r, h => by
    rw [List.cons_append, lvl_other (h c (by simp)), lvl_cut a r (fun x hx => h x (by simp [hx]))]
    rfl
theorem lvl_whole : ∀ (a : List UInt8), (∀ c ∈ a, c ≠ 47) → lvl a = [a]
  | [], _ => rfl
  | c :: a, h => by
    rw [lvl_other (h c (by simp)), lvl_whole a (fun x hx => h x (by simp [hx]))]
    rfl

/-- No level has a stroke. -/
theorem lvl_plain : ∀ (l x : List UInt8), x ∈ lvl l → ∀ c ∈ x, c ≠ 47
  | [], x, hx, c, hc => by
    simp [lvl] at hx
    subst hx
    simp at hc
  | d :: r, x, hx, c, hc => by
    by_cases h : d = 47
    · subst h
      rw [lvl_stroke] at hx
      rcases List.mem_cons.1 hx with rfl | hx
      · simp at hc
      · exact lvl_plain r x hx c hc
    · rw [lvl_other h] at hx
      cases hl : lvl r with
      | nil => exact absurd hl (lvl_ne r)
      | cons a t =>
        rw [hl] at hx
        simp only [pre, List.mem_cons] at hx
        rcases hx with rfl | hx
        · simp only [List.cons_append, List.nil_append, List.mem_cons] at hc
          rcases hc with rfl | hc
          · exact h
          · exact lvl_plain r a (by rw [hl]; simp) c hc
        · exact lvl_plain r x (by rw [hl]; simp [hx]) c hc
theorem lvl_level {l x : List UInt8} (h : x ∈ lvl l) : lvl x = [x] := lvl_whole x (lvl_plain l x h)

theorem glue_cons (x : List UInt8) {ls : List (List UInt8)} (h : ls ≠ []) : glue (x :: ls) = x ++ 47 :: glue ls := by
  cases ls with
  | nil => exact absurd rfl h
  | cons a t => rfl
theorem glue_pre (p : List UInt8) : ∀ (ls : List (List UInt8)), ls ≠ [] → glue (pre p ls) = p ++ glue ls
  | [], h => absurd rfl h
  | [x], _ => rfl
  | x :: y :: r, _ => by simp [pre, glue]
/-- The levels put together again. -/
theorem glue_lvl : ∀ l, glue (lvl l) = l
  | [] => rfl
  | c :: r => by
    by_cases h : c = 47
    · subst h
      rw [lvl_stroke, glue_cons _ (lvl_ne r), glue_lvl r]
      rfl
    · rw [lvl_other h, glue_pre _ _ (lvl_ne r), glue_lvl r]
      rfl
theorem glue_snoc (x : List UInt8) : ∀ (ls : List (List UInt8)), ls ≠ [] → glue (ls ++ [x]) = glue ls ++ 47 :: x
  | [], h => absurd rfl h
  | [a], _ => rfl
  | a :: b :: r, _ => by
    have := glue_snoc x (b :: r) (by simp)
    simp only [List.cons_append] at this ⊢
    rw [glue_cons a (show b :: (r ++ [x]) ≠ [] by simp), this, glue_cons a (show b :: r ≠ [] by simp)]
    simp

/-- It has the sign. -/
def has (l : List UInt8) (c : UInt8) : Bool := l.contains c
theorem has_nil (c : UInt8) : has [] c = false := rfl
theorem has_cons (a : UInt8) (l : List UInt8) (c : UInt8) : has (a :: l) c = (c == a || has l c) := by unfold has; rw [List.contains_cons]
theorem has_append (a l : List UInt8) (c : UInt8) : has (a ++ l) c = (has a c || has l c) := by
  induction a with
  | nil => simp [has]
  | cons x r ih => simp [has_cons, ih, Bool.or_assoc]
/-- In some level, or in none. -/
theorem has_lvl {c : UInt8} (hc : c ≠ 47) : ∀ l, has l c = (lvl l).any (fun x => has x c)
  | [] => by simp [lvl, has]
  | a :: r => by
    rw [has_cons, has_lvl hc r]
    by_cases h : a = 47
    · subst h
      rw [lvl_stroke, List.any_cons, has_nil, Bool.false_or]
      have : (c == 47) = false := beq_eq_false_iff_ne.2 hc
      rw [this, Bool.false_or]
    · rw [lvl_other h]
      cases hl : lvl r with
      | nil => exact absurd hl (lvl_ne r)
      | cons x t => simp [pre, has_cons, Bool.or_assoc]

def wildB (l : List UInt8) : Bool := has l 43 || has l 35
/-- A level that a filter may have, last or not. -/
def may (x : List UInt8) (last : Bool) : Bool := if x = [43] then true else if x = [35] then last else !wildB x
/-- All levels may be. -/
def mayAll : List (List UInt8) → Bool
  | [] => true
  | [x] => may x true
  | x :: y :: r => may x false && mayAll (y :: r)
def levOk (l : List UInt8) : Bool := decide (l ≠ []) && (okT l && decide ((lvl l).length ≤ 6))
def topOk (l : List UInt8) : Bool := levOk l && !wildB l
def filOk (l : List UInt8) : Bool := levOk l && mayAll (lvl l)
def wildOk (l : List UInt8) : Bool := filOk l && wildB l

/-- What the specification asks of a level that is not the last, or is. -/
theorem may_spec (x : List UInt8) (last : Bool) : may x last = !((has x 43 && decide (x ≠ [43])) || (has x 35 && (decide (x ≠ [35]) || !last))) := by
  unfold may wildB
  by_cases h1 : x = [43]
  · subst h1; cases last <;> rfl
  · rw [if_neg h1]
    by_cases h2 : x = [35]
    · subst h2; cases last <;> rfl
    · rw [if_neg h2]
      simp [h1, h2]

theorem mayAll_cons (x : List UInt8) (r : List (List UInt8)) : mayAll (x :: r) = (may x r.isEmpty && mayAll r) := by
  cases r <;> simp [mayAll]
/-- Level by level, from the front. -/
theorem mayAll_drop (ls : List (List UInt8)) (k : Nat) (hk : k < ls.length) : mayAll (ls.drop k) = (may (ls.getD k []) (decide (k + 1 = ls.length)) && mayAll (ls.drop (k + 1))) := by
  rw [List.drop_eq_getElem_cons hk, mayAll_cons]
  congr 2
  · simp [List.getD_eq_getElem?_getD, List.getElem?_eq_getElem hk]
  · rw [Bool.eq_iff_iff]
    simp only [List.isEmpty_iff, List.drop_eq_nil_iff, decide_eq_true_eq]
    omega
theorem mayAll_end (ls : List (List UInt8)) (k : Nat) (hk : ls.length ≤ k) : mayAll (ls.drop k) = true := by
  rw [List.drop_eq_nil_of_le hk]; rfl

theorem mayAll_of_plain : ∀ ls : List (List UInt8), (∀ x ∈ ls, wildB x = false) → mayAll ls = true
  | [], _ => rfl
  | x :: r, h => by
    rw [mayAll_cons, mayAll_of_plain r (fun y hy => h y (by simp [hy])), Bool.and_true]
    have hx := h x (by simp)
    unfold may
    by_cases h1 : x = [43]
    · subst h1; rfl
    · rw [if_neg h1]
      by_cases h2 : x = [35]
      · subst h2; cases hx
      · rw [if_neg h2, hx]; rfl

/-- A topic that may be told of may be wanted. -/
theorem topOk_fil {l : List UInt8} (h : topOk l = true) : filOk l = true := by
  simp only [topOk, Bool.and_eq_true, Bool.not_eq_true'] at h
  simp only [filOk, Bool.and_eq_true]
  refine ⟨h.1, mayAll_of_plain _ fun x hx => ?_⟩
  have hw := h.2
  simp only [wildB, Bool.or_eq_false_iff] at hw ⊢
  rw [has_lvl (by decide), has_lvl (by decide)] at hw
  exact ⟨by simpa using List.any_eq_false.1 hw.1 x hx, by simpa using List.any_eq_false.1 hw.2 x hx⟩
theorem topOk_plain {l : List UInt8} (h : topOk l = true) : wildOk l = false := by
  simp only [topOk, Bool.and_eq_true, Bool.not_eq_true'] at h
  simp [wildOk, h.2]
/-- Of what may be wanted: wild, or to be told of. -/
theorem filOk_wild {l : List UInt8} (h : filOk l = true) : wildOk l = !topOk l := by
  have h' := h
  simp only [filOk, Bool.and_eq_true] at h
  simp [wildOk, topOk, h', h.1]
theorem filOk_six {l : List UInt8} (h : filOk l = true) : (lvl l).length ≤ 6 := by
  simp only [filOk, levOk, Bool.and_eq_true, decide_eq_true_eq] at h
  exact h.1.2.2

end Go.Proofs.YtccjiicjlifmiaaGreatDoor
set_option linter.unusedVariables false
set_option linter.unusedSimpArgs false
namespace Go.Proofs.YtccjiicjlifmiaaGreatDoor

/-- Level x of one against level y of the other, x not all that is left. -/
def fit1 (x y : List UInt8) : Bool := if x = [43] then decide (y ≠ [35]) else decide (x = y)
/-- Level by level. -/
def fits : List (List UInt8) → List (List UInt8) → Bool
  | [], g => g.isEmpty
  | x :: f, g => if x = [35] then true else match g with
    | [] => false
    | y :: g => fit1 x y && fits f g
theorem fits_nil (g : List (List UInt8)) : fits [] g = g.isEmpty := by cases g <;> rfl
theorem fits_hash {x : List UInt8} (h : x = [35]) (f g : List (List UInt8)) : fits (x :: f) g = true := by cases g <;> simp [fits, h]
theorem fits_cons0 {x : List UInt8} (h : x ≠ [35]) (f : List (List UInt8)) : fits (x :: f) [] = false := by simp [fits, h]
theorem fits_cons {x : List UInt8} (h : x ≠ [35]) (f : List (List UInt8)) (y : List UInt8) (g : List (List UInt8)) : fits (x :: f) (y :: g) = (fit1 x y && fits f g) := by simp [fits, h]
/-- It begins with a wild sign. -/
def looseB (l : List UInt8) : Bool := match l with
  | c :: _ => c == 43 || c == 35
  | [] => false
/-- It begins with a dollar. -/
def hidB (l : List UInt8) : Bool := match l with
  | c :: _ => c == 36
  | [] => false
def matchB (f t : List UInt8) : Bool := filOk f && (topOk t && (!(looseB f && hidB t) && fits (lvl f) (lvl t)))
def covB (f g : List UInt8) : Bool := filOk f && (filOk g && (!(looseB f && hidB g) && fits (lvl f) (lvl g)))

theorem hidB_starts (l : List UInt8) : starts l [36] = hidB l := by
  cases l with
  | nil => rfl
  | cons a r =>
    simp only [starts, hidB, List.length_cons, List.length_nil, List.take_succ_cons, List.take_zero]
    rw [decide_eq_true (by omega), Bool.true_and]
    by_cases h : a = 36
    · subst h; rfl
    · have e1 : (a == (36 : UInt8)) = false := beq_eq_false_iff_ne.2 h
      rw [e1]
      simp [h]

/-- At place k of both. -/
theorem fits_end (f g : List (List UInt8)) (k : Nat) (hk : f.length ≤ k) : fits (f.drop k) (g.drop k) = decide (g.length ≤ k) := by
  rw [List.drop_eq_nil_of_le hk, fits_nil, Bool.eq_iff_iff]
  simp
theorem fits_all (f g : List (List UInt8)) (k : Nat) (hk : k < f.length) (h : f.getD k [] = [35]) : fits (f.drop k) (g.drop k) = true := by
  have e : f.drop k = [35] :: f.drop (k + 1) := by
    rw [List.drop_eq_getElem_cons hk, ← h]
    simp [List.getD_eq_getElem?_getD, List.getElem?_eq_getElem hk]
  rw [e, fits_hash rfl]
theorem fits_short (f g : List (List UInt8)) (k : Nat) (hk : k < f.length) (h : f.getD k [] ≠ [35]) (hg : g.length ≤ k) : fits (f.drop k) (g.drop k) = false := by
  have e : f.drop k = f.getD k [] :: f.drop (k + 1) := by
    rw [List.drop_eq_getElem_cons hk]
    simp [List.getD_eq_getElem?_getD, List.getElem?_eq_getElem hk]
  rw [e, List.drop_eq_nil_of_le hg, fits_cons0 h]
theorem fits_step (f g : List (List UInt8)) (k : Nat) (hk : k < f.length) (h : f.getD k [] ≠ [35]) (hg : k < g.length) : fits (f.drop k) (g.drop k) = (fit1 (f.getD k []) (g.getD k []) && fits (f.drop (k + 1)) (g.drop (k + 1))) := by
  have e : f.drop k = f.getD k [] :: f.drop (k + 1) := by
    rw [List.drop_eq_getElem_cons hk]
    simp [List.getD_eq_getElem?_getD, List.getElem?_eq_getElem hk]
  have e2 : g.drop k = g.getD k [] :: g.drop (k + 1) := by
    rw [List.drop_eq_getElem_cons hg]
    simp [List.getD_eq_getElem?_getD, List.getElem?_eq_getElem hg]
  rw [e, e2, fits_cons h]

theorem fits_self : ∀ f : List (List UInt8), fits f f = true
  | [] => rfl
  | x :: f => by
    by_cases h : x = [35]
    · exact fits_hash h _ _
    · rw [fits_cons h, fits_self f, Bool.and_true]
      unfold fit1
      by_cases h2 : x = [43]
      · rw [if_pos h2]; simp [h]
      · rw [if_neg h2]; simp
theorem fits_trans : ∀ f g h : List (List UInt8), fits f g = true → fits g h = true → fits f h = true
  | [], g, h, h1, h2 => by
    rw [fits_nil] at h1
    have : g = [] := by simpa using h1
    subst this
    exact h2
  | x :: f, g, h, h1, h2 => by
    by_cases hx : x = [35]
    · exact fits_hash hx _ _
    · cases g with
      | nil => rw [fits_cons0 hx] at h1; cases h1
      | cons y g =>
        rw [fits_cons hx, Bool.and_eq_true] at h1
        have hy : y ≠ [35] := fun e => by
          have := h1.1
          unfold fit1 at this
          by_cases h3 : x = [43]
          · rw [if_pos h3] at this; simp [e] at this
          · rw [if_neg h3] at this; simp at this; exact hx (this.trans e)
        cases h with
        | nil => rw [fits_cons0 hy] at h2; cases h2
        | cons z h =>
          rw [fits_cons hy, Bool.and_eq_true] at h2
          rw [fits_cons hx, Bool.and_eq_true]
          refine ⟨?_, fits_trans f g h h1.2 h2.2⟩
          have a := h1.1
          have b := h2.1
          unfold fit1 at a b ⊢
          by_cases h3 : x = [43]
          · rw [if_pos h3] at a ⊢
            by_cases h4 : y = [43]
            · rw [if_pos h4] at b; exact b
            · rw [if_neg h4] at b
              simp at b
              subst b
              exact a
          · rw [if_neg h3] at a ⊢
            simp at a
            subst a
            rw [if_neg h3] at b
            exact b

/-- A list without wild levels fits just itself. -/
theorem fits_plain : ∀ f g : List (List UInt8), (∀ x ∈ f, x ≠ [43] ∧ x ≠ [35]) → fits f g = decide (f = g)
  | [], g, _ => by
    rw [fits_nil]
    cases g <;> simp
  | x :: f, g, h => by
    have hx := h x (by simp)
    cases g with
    | nil => rw [fits_cons0 hx.2]; simp
    | cons y g =>
      rw [fits_cons hx.2, fits_plain f g (fun z hz => h z (by simp [hz]))]
      unfold fit1
      rw [if_neg hx.1, Bool.eq_iff_iff]
      simp

theorem lvl_inj {a b : List UInt8} (h : lvl a = lvl b) : a = b := by rw [← glue_lvl a, ← glue_lvl b, h]

/-- The first level begins as the whole does. -/
theorem head_hid (l : List UInt8) : ∃ x r, lvl l = x :: r ∧ hidB l = hidB x ∧ (looseB l = looseB x) := by
  cases l with
  | nil => exact ⟨[], [], rfl, rfl, rfl⟩
  | cons c r =>
    by_cases h : c = 47
    · subst h
      exact ⟨[], lvl r, lvl_stroke r, rfl, rfl⟩
    · cases hl : lvl r with
      | nil => exact absurd hl (lvl_ne r)
      | cons a t => exact ⟨c :: a, t, by rw [lvl_other h, hl]; rfl, rfl, rfl⟩

theorem loose_hid (l : List UInt8) : (looseB l && hidB l) = false := by
  cases l with
  | nil => rfl
  | cons c r =>
    simp only [looseB, hidB]
    by_cases h : c = 36
    · subst h; rfl
    · have : (c == (36 : UInt8)) = false := beq_eq_false_iff_ne.2 h
      rw [this, Bool.and_false]

theorem loose_wild {l : List UInt8} (h : wildB l = false) : looseB l = false := by
  cases l with
  | nil => rfl
  | cons c r =>
    simp only [wildB, has_cons, Bool.or_eq_false_iff] at h
    simp only [looseB, Bool.or_eq_false_iff]
    refine ⟨?_, ?_⟩
    · have := h.1.1
      simp at this ⊢
      exact fun e => this e.symm
    · have := h.2.1
      simp at this ⊢
      exact fun e => this e.symm

theorem topOk_wild {l : List UInt8} (h : topOk l = true) : wildB l = false := by
  simp only [topOk, Bool.and_eq_true, Bool.not_eq_true'] at h
  exact h.2

/-- What is hidden is not reached by way of what lies between. -/
theorem between {f g h : List UInt8} (h1 : (looseB f && hidB g) = false) (h2 : (looseB g && hidB h) = false) (hfit : fits (lvl g) (lvl h) = true) : (looseB f && hidB h) = false := by
  cases hf : looseB f with
  | false => rfl
  | true =>
    cases hh : hidB h with
    | false => rfl
    | true =>
      exfalso
      rw [hf, Bool.true_and] at h1
      rw [hh, Bool.and_true] at h2
      obtain ⟨x, r, hx, hx1, hx2⟩ := head_hid g
      obtain ⟨y, q, hy, hy1, hy2⟩ := head_hid h
      rw [h2] at hx2
      rw [h1] at hx1
      rw [hh] at hy1
      rw [hx, hy] at hfit
      have hn : x ≠ [35] := fun e => by rw [e] at hx2; simp [looseB] at hx2
      have hp : x ≠ [43] := fun e => by rw [e] at hx2; simp [looseB] at hx2
      rw [fits_cons hn, Bool.and_eq_true] at hfit
      have := hfit.1
      unfold fit1 at this
      rw [if_neg hp] at this
      simp at this
      subst this
      rw [← hx1] at hy1
      cases hy1

theorem matchB_parts {f t : List UInt8} (h : matchB f t = true) : filOk f = true ∧ topOk t = true := by
  simp only [matchB, Bool.and_eq_true] at h
  exact ⟨h.1, h.2.1⟩
theorem matchB_self {t : List UInt8} (h : topOk t = true) : matchB t t = true := by
  unfold matchB
  rw [topOk_fil h, h, loose_hid, fits_self]
  rfl
theorem matchB_hash {t : List UInt8} (h : topOk t = true) : matchB [35] t = !hidB t := by
  unfold matchB
  have e1 : filOk [35] = true := by decide
  have e2 : looseB [35] = true := rfl
  have e3 : fits (lvl [35]) (lvl t) = true := rfl
  rw [e1, e2, e3, h]
  simp
theorem matchB_plain {f t : List UInt8} (h : topOk t = true) (hw : wildOk f = false) : matchB f t = decide (f = t) := by
  cases hf : filOk f with
  | false =>
    have hne : f ≠ t := fun e => by rw [e, topOk_fil h] at hf; cases hf
    unfold matchB
    rw [hf]
    simp [hne]
  | true =>
    have hwb : wildB f = false := by
      unfold wildOk at hw
      rw [hf] at hw
      simpa using hw
    have hl := loose_wild hwb
    have hp : ∀ x ∈ lvl f, x ≠ [43] ∧ x ≠ [35] := fun x hx => by
      have hw2 := hwb
      simp only [wildB, Bool.or_eq_false_iff] at hw2
      rw [has_lvl (by decide), has_lvl (by decide)] at hw2
      have a := List.any_eq_false.1 hw2.1 x hx
      have b := List.any_eq_false.1 hw2.2 x hx
      exact ⟨fun e => by rw [e] at a; exact a rfl, fun e => by rw [e] at b; exact b rfl⟩
    unfold matchB
    rw [hf, h, hl, fits_plain _ _ hp]
    simp only [Bool.true_and, Bool.false_and, Bool.not_false]
    rw [Bool.eq_iff_iff]
    simp
    exact ⟨lvl_inj, fun e => by rw [e]⟩
theorem covB_self (f : List UInt8) : covB f f = filOk f := by
  unfold covB
  rw [loose_hid, fits_self]
  simp
theorem covB_match {f g t : List UInt8} (h1 : covB f g = true) (h2 : matchB g t = true) : matchB f t = true := by
  simp only [covB, matchB, Bool.and_eq_true, Bool.not_eq_true'] at h1 h2 ⊢
  exact ⟨h1.1, h2.2.1, between h1.2.2.1 h2.2.2.1 h2.2.2.2, fits_trans _ _ _ h1.2.2.2 h2.2.2.2⟩
theorem covB_cov {f g h : List UInt8} (h1 : covB f g = true) (h2 : covB g h = true) : covB f h = true := by
  simp only [covB, Bool.and_eq_true, Bool.not_eq_true'] at h1 h2 ⊢
  exact ⟨h1.1, h2.2.1, between h1.2.2.1 h2.2.2.1 h2.2.2.2, fits_trans _ _ _ h1.2.2.2 h2.2.2.2⟩

end Go.Proofs.YtccjiicjlifmiaaGreatDoor
set_option linter.unusedVariables false
set_option linter.unusedSimpArgs false
namespace Go.Proofs.YtccjiicjlifmiaaGreatDoor

/-- All that a packet says. -/
structure Pv where
  ty : Int
  dup : Bool
  qos : Int
  ret : Bool
  id : Int
  top : ByteArray
  bod : List UInt8
  cli : ByteArray
  lev : Int
  cln : Bool
  kee : Int
  hw : Bool
  wt : ByteArray
  wb : List UInt8
  wq : Int
  wr : Bool
  hu : Bool
  us : ByteArray
  hp : Bool
  pa : List UInt8
  cod : Int
  pre : Bool
  wan : List (ByteArray × Int)
  nam : List ByteArray
  cds : List Int
  deriving DecidableEq

def Pv.zero : Pv := ⟨0, false, 0, false, 0, ByteArray.empty, [], ByteArray.empty, 0, false, 0, false, ByteArray.empty, [], 0, false, false, ByteArray.empty, false, [], 0, false, [], [], []⟩
/-- Nothing but what its kind names. -/
def Pv.named (v : Pv) : Pv :=
  if v.ty = 1 then { Pv.zero with
    ty := v.ty, lev := v.lev, cli := v.cli, cln := v.cln, kee := v.kee, hw := v.hw
    wt := if v.hw then v.wt else ByteArray.empty
    wb := if v.hw then v.wb else []
    wq := if v.hw then v.wq else 0
    wr := if v.hw then v.wr else false
    hu := v.hu
    us := if v.hu then v.us else ByteArray.empty
    hp := v.hu && v.hp
    pa := if v.hu && v.hp then v.pa else [] }
  else if v.ty = 2 then { Pv.zero with ty := v.ty, cod := v.cod, pre := v.pre && decide (v.cod = 0) }
  else if v.ty = 3 then { Pv.zero with ty := v.ty, qos := v.qos, ret := v.ret, top := v.top, bod := v.bod, dup := if 0 < v.qos then v.dup else false, id := if 0 < v.qos then v.id else 0 }
  else if v.ty = 4 ∨ v.ty = 5 ∨ v.ty = 6 ∨ v.ty = 7 ∨ v.ty = 11 then { Pv.zero with ty := v.ty, id := v.id }
  else if v.ty = 8 then { Pv.zero with ty := v.ty, id := v.id, wan := v.wan }
  else if v.ty = 9 then { Pv.zero with ty := v.ty, id := v.id, cds := v.cds }
  else if v.ty = 10 then { Pv.zero with ty := v.ty, id := v.id, nam := v.nam }
  else { Pv.zero with ty := v.ty }
/-- A number from lo to hi. -/
def inB (x lo hi : Int) : Bool := decide (lo ≤ x ∧ x ≤ hi)
def txt (s : ByteArray) : Bool := okT s.data.toList
def tpc (s : ByteArray) : Bool := topOk s.data.toList
def flt (s : ByteArray) : Bool := filOk s.data.toList
/-- What its kind asks of what it names. -/
def Pv.body (v : Pv) : Bool :=
  if v.ty = 1 then (!v.hw || (tpc v.wt && (decide (v.wb.length ≤ 40) && inB v.wq 0 2))) && (inB v.lev 0 255 && (txt v.cli && (inB v.kee 0 65535 && (txt v.us && decide (v.pa.length ≤ 60)))))
  else if v.ty = 2 then inB v.cod 0 5
  else if v.ty = 3 then inB v.qos 0 2 && ((decide (v.qos = 0) || inB v.id 1 65535) && (tpc v.top && decide (v.bod.length ≤ 40)))
  else if v.ty = 12 ∨ v.ty = 13 ∨ v.ty = 14 then true
  else if v.ty = 8 then v.wan.all (fun x => flt x.1 && inB x.2 0 2) && (inB v.id 1 65535 && inB v.wan.length 1 4)
  else if v.ty = 9 then v.cds.all (fun c => inB c 0 2 || decide (c = 128)) && (inB v.id 1 65535 && inB v.cds.length 1 4)
  else if v.ty = 10 then v.nam.all (fun s => flt s) && (inB v.id 1 65535 && inB v.nam.length 1 4)
  else inB v.id 1 65535
/-- It is right. -/
def Pv.ok (v : Pv) : Bool := inB v.ty 1 14 && (decide (v = v.named) && v.body)

theorem inB_yes {x lo hi : Int} (h1 : lo ≤ x) (h2 : x ≤ hi) : inB x lo hi = true := decide_eq_true ⟨h1, h2⟩
theorem inB_lo {x lo hi : Int} (h : x < lo) : inB x lo hi = false := decide_eq_false (fun e => by omega)
theorem inB_hi {x lo hi : Int} (h : hi < x) : inB x lo hi = false := decide_eq_false (fun e => by omega)
theorem inB_iff {x lo hi : Int} : inB x lo hi = true ↔ lo ≤ x ∧ x ≤ hi := decide_eq_true_iff
theorem inB_not {x lo hi : Int} : inB x lo hi = false ↔ ¬ (lo ≤ x ∧ x ≤ hi) := decide_eq_false_iff_not

end Go.Proofs.YtccjiicjlifmiaaGreatDoor
