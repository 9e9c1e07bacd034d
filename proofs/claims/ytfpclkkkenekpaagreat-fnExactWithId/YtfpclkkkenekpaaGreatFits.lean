/- What fits what, as lists of bytes. No Go in it. -/
import Derived.Test.YtfpclkkkenekpaaGreatTops
set_option linter.unusedVariables false
set_option linter.unusedSimpArgs false
namespace Go.Proofs.YtfpclkkkenekpaaGreat

/-- Level x of one against level y of the other, x not all that is left. -/
def fit1 (x y : List UInt8) : Bool := if x = [43] then decide (y ≠ [35]) else decide (x = y)
/-- Level by level. -/
def fits : List (List UInt8) → List (List UInt8) → Bool
  | [], g => g.isEmpty
  | x :: f, g => if x = [35] then true else match g with
    | [] => false
    | y :: g => fit1 x y && fits f g
theorem fits_nil (g : List (List UInt8)) : fits [] g = g.isEmpty := by cases g <;> rfl
theorem fits_hash {x : List UInt8} (h : x = [35]) (f g : List (List UInt8)) : fits (x :: f) g = true := by cases g <;> simp [fits, h]
theorem fits_cons0 {x : List UInt8} (h : x ≠ [35]) (f : List (List UInt8)) : fits (x :: f) [] = false := by simp [fits, h]
theorem fits_cons {x : List UInt8} (h : x ≠ [35]) (f : List (List UInt8)) (y : List UInt8) (g : List (List UInt8)) : fits (x :: f) (y :: g) = (fit1 x y && fits f g) := by simp [fits, h]
/-- It begins with a wild sign. -/
def looseB (l : List UInt8) : Bool := match l with
  | c :: _ => c == 43 || c == 35
  | [] => false
/-- It begins with a dollar. -/
def hidB (l : List UInt8) : Bool := match l with
  | c :: _ => c == 36
  | [] => false
def matchB (f t : List UInt8) : Bool := filOk f && (topOk t && (!(looseB f && hidB t) && fits (lvl f) (lvl t)))
def covB (f g : List UInt8) : Bool := filOk f && (filOk g && (!(looseB f && hidB g) && fits (lvl f) (lvl g)))

theorem hidB_starts (l : List UInt8) : starts l [36] = hidB l := by
  cases l with
  | nil => rfl
  | cons a r =>
    simp only [starts, hidB, List.length_cons, List.length_nil, List.take_succ_cons, List.take_zero]
    rw [decide_eq_true (by omega), Bool.true_and]
    by_cases h : a = 36
    · subst h; rfl
    · have e1 : (a == (36 : UInt8)) = false := beq_eq_false_iff_ne.2 h
      rw [e1]
      simp [h]

/-- At place k of both. -/
theorem fits_end (f g : List (List UInt8)) (k : Nat) (hk : f.length ≤ k) : fits (f.drop k) (g.drop k) = decide (g.length ≤ k) := by
  rw [List.drop_eq_nil_of_le hk, fits_nil, Bool.eq_iff_iff]
  simp
theorem fits_all (f g : List (List UInt8)) (k : Nat) (hk : k < f.length) (h : f.getD k [] = [35]) : fits (f.drop k) (g.drop k) = true := by
  have e : f.drop k = [35] :: f.drop (k + 1) := by
    rw [List.drop_eq_getElem_cons hk, ← h]
    simp [List.getD_eq_getElem?_getD, List.getElem?_eq_getElem hk]
  rw [e, fits_hash rfl]
theorem fits_short (f g : List (List UInt8)) (k : Nat) (hk : k < f.length) (h : f.getD k [] ≠ [35]) (hg : g.length ≤ k) : fits (f.drop k) (g.drop k) = false := by
  have e : f.drop k = f.getD k [] :: f.drop (k + 1) := by
    rw [List.drop_eq_getElem_cons hk]
    simp [List.getD_eq_getElem?_getD, List.getElem?_eq_getElem hk]
  rw [e, List.drop_eq_nil_of_le hg, fits_cons0 h]
theorem fits_step (f g : List (List UInt8)) (k : Nat) (hk : k < f.length) (h : f.getD k [] ≠ [35]) (hg : k < g.length) : fits (f.drop k) (g.drop k) = (fit1 (f.getD k []) (g.getD k []) && fits (f.drop (k + 1)) (g.drop (k + 1))) := by
  have e : f.drop k = f.getD k [] :: f.drop (k + 1) := by
    rw [List.drop_eq_getElem_cons hk]
    simp [List.getD_eq_getElem?_getD, List.getElem?_eq_getElem hk]
  have e2 : g.drop k = g.getD k [] :: g.drop (k + 1) := by
    rw [List.drop_eq_getElem_cons hg]
    simp [List.getD_eq_getElem?_getD, List.getElem?_eq_getElem hg]
  rw [e, e2, fits_cons h]

theorem fits_self : ∀ f : List (List UInt8), fits f f = true
  | [] => rfl
  | x :: f => by
    by_cases h : x = [35]
    · exact fits_hash h _ _
    · rw [fits_cons h, fits_self f, Bool.and_true]
      unfold fit1
      by_cases h2 : x = [43]
      · rw [if_pos h2]; simp [h]
      · rw [if_neg h2]; simp
theorem fits_trans : ∀ f g h : List (List UInt8), fits f g = true → fits g h = true → fits f h = true
  | [], g, h, h1, h2 => by
    rw [fits_nil] at h1
    have : g = [] := by simpa using h1
    subst this
    exact h2
  | x :: f, g, h, h1, h2 => by
    by_cases hx : x = [35]
    · exact fits_hash hx _ _
    · cases g with
      | nil => rw [fits_cons0 hx] at h1; cases h1
      | cons y g =>
        rw [fits_cons hx, Bool.and_eq_true] at h1
        have hy : y ≠ [35] := fun e => by
          have := h1.1
          unfold fit1 at this
          by_cases h3 : x = [43]
          · rw [if_pos h3] at this; simp [e] at this
          · rw [if_neg h3] at this; simp at this; exact hx (this.trans e)
        cases h with
        | nil => rw [fits_cons0 hy] at h2; cases h2
        | cons z h =>
          rw [fits_cons hy, Bool.and_eq_true] at h2
          rw [fits_cons hx, Bool.and_eq_true]
          refine ⟨?_, fits_trans f g h h1.2 h2.2⟩
          have a := h1.1
          have b := h2.1
          unfold fit1 at a b ⊢
          by_cases h3 : x = [43]
          · rw [if_pos h3] at a ⊢
            by_cases h4 : y = [43]
            · rw [if_pos h4] at b; exact b
            · rw [if_neg h4] at b
              simp at b
              subst b
              exact a
          · rw [if_neg h3] at a ⊢
            simp at a
            subst a
            rw [if_neg h3] at b
            exact b

/-- A list without wild levels fits just itself. -/
theorem fits_plain : ∀ f g : List (List UInt8), (∀ x ∈ f, x ≠ [43] ∧ x ≠ [35]) → fits f g = decide (f = g)
  | [], g, _ => by
    rw [fits_nil]
    cases g <;> simp
  | x :: f, g, h => by
    have hx := h x (by simp)
    cases g with
    | nil => rw [fits_cons0 hx.2]; simp
    | cons y g =>
      rw [fits_cons hx.2, fits_plain f g (fun z hz => h z (by simp [hz]))]
      unfold fit1
      rw [if_neg hx.1, Bool.eq_iff_iff]
      simp

theorem lvl_inj {a b : List UInt8} (h : lvl a = lvl b) : a = b := by rw [← glue_lvl a, ← glue_lvl b, h]

/-- The first level begins as the whole does. -/
theorem head_hid (l : List UInt8) : ∃ x r, lvl l = x :: r ∧ hidB l = hidB x ∧ (looseB l = looseB x) := by
  cases l with
  | nil => exact ⟨[], [], rfl, rfl, rfl⟩
  | cons c r =>
    by_cases h : c = 47
    · subst h
      exact ⟨[], lvl r, lvl_stroke r, rfl, rfl⟩
    · cases hl : lvl r with
      | nil => exact absurd hl (lvl_ne r)
      | cons a t => exact ⟨c :: a, t, by rw [lvl_other h, hl]; rfl, rfl, rfl⟩

theorem loose_hid (l : List UInt8) : (looseB l && hidB l) = false := by
  cases l with
  | nil => rfl
  | cons c r =>
    simp only [looseB, hidB]
    by_cases h : c = 36
    · subst h; rfl
    · have : (c == (36 : UInt8)) = false := beq_eq_false_iff_ne.2 h
      rw [this, Bool.and_false]

theorem loose_wild {l : List UInt8} (h : wildB l = false) : looseB l = false := by
  cases l with
  | nil => rfl
  | cons c r =>
    simp only [wildB, has_cons, Bool.or_eq_false_iff] at h
    simp only [looseB, Bool.or_eq_false_iff]
    refine ⟨?_, ?_⟩
    · have := h.1.1
      simp at this ⊢
      exact fun e => this e.symm
    · have := h.2.1
      simp at this ⊢
      exact fun e => this e.symm

theorem topOk_wild {l : List UInt8} (h : topOk l = true) : wildB l = false := by
  simp only [topOk, Bool.and_eq_true, Bool.not_eq_true'] at h
  exact h.2

/-- What is hidden is not reached by way of what lies between. -/
theorem between {f g h : List UInt8} (h1 : (looseB f && hidB g) = false) (h2 : (looseB g && hidB h) = false) (hfit : fits (lvl g) (lvl h) = true) : (looseB f && hidB h) = false := by
  cases hf : looseB f with
  | false => rfl
  | true =>
    cases hh : hidB h with
    | false => rfl
    | true =>
      exfalso
      rw [hf, Bool.true_and] at h1
      rw [hh, Bool.and_true] at h2
      obtain ⟨x, r, hx, hx1, hx2⟩ := head_hid g
      obtain ⟨y, q, hy, hy1, hy2⟩ := head_hid h
      rw [h2] at hx2
      rw [h1] at hx1
      rw [hh] at hy1
      rw [hx, hy] at hfit
      have hn : x ≠ [35] := fun e => by rw [e] at hx2; simp [looseB] at hx2
      have hp : x ≠ [43] := fun e => by rw [e] at hx2; simp [looseB] at hx2
      rw [fits_cons hn, Bool.and_eq_true] at hfit
      have := hfit.1
      unfold fit1 at this
      rw [if_neg hp] at this
      simp at this
      subst this
      rw [← hx1] at hy1
      cases hy1

theorem matchB_parts {f t : List UInt8} (h : matchB f t = true) : filOk f = true ∧ topOk t = true := by
  simp only [matchB, Bool.and_eq_true] at h
  exact ⟨h.1, h.2.1⟩
theorem matchB_self {t : List UInt8} (h : topOk t = true) : matchB t t = true := by
  unfold matchB
  rw [topOk_fil h, h, loose_hid, fits_self]
  rfl
theorem matchB_hash {t : List UInt8} (h : topOk t = true) : matchB [35] t = !hidB t := by
  unfold matchB
  have e1 : filOk [35] = true := by decide
  have e2 : looseB [35] = true := rfl
  have e3 : fits (lvl [35]) (lvl t) = true := rfl
  rw [e1, e2, e3, h]
  simp
theorem matchB_plain {f t : List UInt8} (h : topOk t = true) (hw : wildOk f = false) : matchB f t = decide (f = t) := by
  cases hf : filOk f with
  | false =>
    have hne : f ≠ t := fun e => by rw [e, topOk_fil h] at hf; cases hf
    unfold matchB
    rw [hf]
    simp [hne]
  | true =>
    have hwb : wildB f = false := by
      unfold wildOk at hw
      rw [hf] at hw
      simpa using hw
    have hl := loose_wild hwb
    have hp : ∀ x ∈ lvl f, x ≠ [43] ∧ x ≠ [35] := fun x hx => by
      have hw2 := hwb
      simp only [wildB, Bool.or_eq_false_iff] at hw2
      rw [has_lvl (by decide), has_lvl (by decide)] at hw2
      have a := List.any_eq_false.1 hw2.1 x hx
      have b := List.any_eq_false.1 hw2.2 x hx
      exact ⟨fun e => by rw [e] at a; exact a rfl, fun e => by rw [e] at b; exact b rfl⟩
    unfold matchB
    rw [hf, h, hl, fits_plain _ _ hp]
    simp only [Bool.true_and, Bool.false_and, Bool.not_false]
    rw [Bool.eq_iff_iff]
    simp
    exact ⟨lvl_inj, fun e => by rw [e]⟩
theorem covB_self (f : List UInt8) : covB f f = filOk f := by
  unfold covB
  rw [loose_hid, fits_self]
  simp
theorem covB_match {f g t : List UInt8} (h1 : covB f g = true) (h2 : matchB g t = true) : matchB f t = true := by
  simp only [covB, matchB, Bool.and_eq_true, Bool.not_eq_true'] at h1 h2 ⊢
  exact ⟨h1.1, h2.2.1, between h1.2.2.1 h2.2.2.1 h2.2.2.2, fits_trans _ _ _ h1.2.2.2 h2.2.2.2⟩
theorem covB_cov {f g h : List UInt8} (h1 : covB f g = true) (h2 : covB g h = true) : covB f h = true := by
  simp only [covB, Bool.and_eq_true, Bool.not_eq_true'] at h1 h2 ⊢
  exact ⟨h1.1, h2.2.1, between h1.2.2.1 h2.2.2.1 h2.2.2.2, fits_trans _ _ _ h1.2.2.2 h2.2.2.2⟩

end Go.Proofs.YtfpclkkkenekpaaGreat
