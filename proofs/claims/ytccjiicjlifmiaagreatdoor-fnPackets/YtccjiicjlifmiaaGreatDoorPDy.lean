/- A drawn region in which a cursor goes on and a list of a packet grows: what each operation does to the world, and what is wanted of it till the append has come. -/
import Derived.Test.YtccjiicjlifmiaaGreatDoorPDx
set_option linter.unusedVariables false
set_option linter.unusedSimpArgs false
namespace Go.Proofs.YtccjiicjlifmiaaGreatDoor
open Go.RowKit

/-- The old block that an operation writes into: the cursor's (the draws Ds), the list's (the append A), or none. -/
def rowR (Ds : List Nat) (A g : Nat) (row : Option Nat) (i : Nat) : Option Nat := if Ds.contains i then some g else if i = A then row else none
theorem rowR_no {Ds : List Nat} {A g i : Nat} {row : Option Nat} (h : i ≠ A) : rowR Ds A g row i = none ∨ rowR Ds A g row i = some g := by
  unfold rowR
  split
  · exact .inr rfl
  · first
    | exact .inl rfl
    | (rw [if_neg h]; exact .inl rfl)
theorem rowR_is {Ds : List Nat} {A g i k : Nat} {row : Option Nat} (h : rowR Ds A g row i = some k) : k = g ∨ row = some k := by
  unfold rowR at h
  split at h
  · exact .inl (by cases h; rfl)
  · split at h
    · exact .inr h
    · cases h
section
variable {m : Nat} {w0 y y' : World} {g r b : Nat} {ao : Option Addr} {n cap : Nat} {l : List UInt8} {p q : Pk} {d dq : Pd}
def RR (Ds : List Nat) (A g : Nat) (row : Option Nat) (e : TypeId) (ao : Option Addr) (n cap : Nat) (l : List UInt8) (i : Nat) (u u' : World) : Prop :=
  u.grownBy u' (rowR Ds A g row i) ∧ (Cur u g ao n cap l → Cur u' g ao n cap l) ∧ (i = A → ∀ k, row = some k → w_ty u k e)
where w_ty (u : World) (k : Nat) (e : TypeId) : Prop := ∃ cur, u.heap[k]? = some (.cells cur e)
def HH (A N : Nat) (S X : World → Prop) (k : Nat) (u : World) : Prop := if k ≤ A then S u else if k = N then X u else True
/-- What is wanted stays till it is done. -/
theorem sH_gen {Ds : List Nat} {A N : Nat} {row : Option Nat} {e : TypeId} {ops : Array Oper} {len : Nat} (hA : A < N) (hreach : ∀ k, k < A → reach ops len A k = true) (Y : World)
    (hxr : ∀ k, row = some k → w0.heap.size ≤ k) (he : e ≠ 28) (hq : ∀ (u : World) (k : Nat), row = some k → RR.w_ty u k e → POwn u w0.heap.size q dq → ¬ q.has k)
    (i k : Nat) (u u' : World) (hr : reach ops len i k = false) (hne : k ≠ i) (hR : RR Ds A g row e ao n cap l i u u')
    (hH : HH A N (fun u => St m w0 u g r b ao n cap l p d ∧ Y.heap.size ≤ u.heap.size) (fun u => Sx w0 u g r b ao n cap l p q dq) k u) :
    HH A N (fun u => St m w0 u g r b ao n cap l p d ∧ Y.heap.size ≤ u.heap.size) (fun u => Sx w0 u g r b ao n cap l p q dq) k u' := by
  unfold HH at *
  obtain ⟨h1, h2, h3⟩ := hR
  by_cases hkA : k ≤ A
  · rw [if_pos hkA] at hH ⊢
    have hi : i ≠ A := by
      rintro rfl
      have := hreach k (by omega)
      rw [hr] at this
      cases this
    exact ⟨hH.1.any h1 (rowR_no hi) (h2 hH.1.cur), Nat.le_trans hH.2 h1.size⟩
  · rw [if_neg hkA] at hH ⊢
    split
    · rename_i hk
      rw [if_pos hk] at hH
      by_cases hi : i = A
      · refine hH.move h1 (h2 hH.cur) (fun z hz => ?_)
        rcases rowR_is hz with rfl | hrow
        · have a1 := hH.lt
          have a2 := hH.bn
          have a3 := hH.rn
          exact ⟨by omega, by omega, fun hk => by have := (hH.own.lt hk).1; omega, .inl rfl⟩
        · have ht := h3 hi z hrow
          have ht' := ht
          obtain ⟨cur, hc⟩ := ht
          exact ⟨ty_ne hc hH.blk he, ty_ne hc hH.res he, hq u z hrow ht' hH.own, .inr (hxr z hrow)⟩
      · rcases rowR_no (Ds := Ds) (g := g) (row := row) hi with h | h
        · rw [h] at h1
          exact hH.draw (grown_any h1) (h2 hH.cur)
        · rw [h] at h1
          exact hH.draw h1 (h2 hH.cur)
    · trivial
/-- A block made in the region stays. -/
theorem new_kept {Ds : List Nat} {A : Nat} {row : Option Nat} {e : TypeId} {i blk : Nat} {u u' Y : World} {o : Obj} (hR : RR Ds A g row e ao n cap l i u u') (hg : g < Y.heap.size) (hrow : ∀ k, row = some k → k < Y.heap.size) (hb : Y.heap.size ≤ blk) (h : u.heap[blk]? = some o) : u'.heap[blk]? = some o := by
  refine (hR.1.block blk (Array.getElem?_eq_some_iff.1 h).1 (fun e => ?_)).trans h
  rcases rowR_is e.symm with h1 | h1
  · omega
  · have := hrow _ h1; omega
theorem has_ty {u : World} {B : Nat} {k : Nat} {e : TypeId} (ho : POwn u B q d) (ht : RR.w_ty u k e) (h5 : e ≠ 5) (hw : e ≠ 88 ∨ q.wan.a = none) (hs : e ≠ 9 ∨ q.nam.a = none) (hi : e ≠ 3 ∨ q.cds.a = none) : ¬ q.has k := by
  rintro ⟨a, ha, rfl⟩
  obtain ⟨cur, hc⟩ := ht
  simp only [List.mem_cons, List.not_mem_nil, or_false] at ha
  rcases ha with ha | ha | ha | ha | ha | ha
  · have hh := ho.bod.2
    rw [← ha] at hh
    obtain ⟨_, h1⟩ := own_ty hh
    exact ty_ne hc h1 h5 rfl
  · have hh := ho.wb.2
    rw [← ha] at hh
    obtain ⟨_, h1⟩ := own_ty hh
    exact ty_ne hc h1 h5 rfl
  · have hh := ho.pa.2
    rw [← ha] at hh
    obtain ⟨_, h1⟩ := own_ty hh
    exact ty_ne hc h1 h5 rfl
  · rcases hw with hw | hw
    · have hh := ho.wan.2
      rw [← ha] at hh
      obtain ⟨_, h1⟩ := own_ty hh
      exact ty_ne hc h1 hw rfl
    · rw [hw] at ha; cases ha
  · rcases hs with hw | hw
    · have hh := ho.nam.2
      rw [← ha] at hh
      obtain ⟨_, h1⟩ := own_ty hh
      exact ty_ne hc h1 hw rfl
    · rw [hw] at ha; cases ha
  · rcases hi with hw | hw
    · have hh := ho.cds.2
      rw [← ha] at hh
      obtain ⟨_, h1⟩ := own_ty hh
      exact ty_ne hc h1 hw rfl
    · rw [hw] at ha; cases ha
/-- An owned list's block: its type, and where it lies. -/
theorem row_ty {u : World} {B : Nat} {e : TypeId} {s : Nat} {a : Option Addr} {k c x : Nat} {xs : List Value} (h : u.ownsRow B e s (.slice a k c) x xs) : ∀ z, (Value.slice a k c).ownBlock = some z → RR.w_ty u z e ∧ B ≤ z ∧ z < u.heap.size := by
  intro z hz
  have hlt := h.lt z hz
  cases a with
  | none => simp [Value.ownBlock] at hz
  | some q =>
    obtain rfl : q.block = z := by simpa [Value.ownBlock] using hz
    exact ⟨own_ty h, hlt⟩
end
end Go.Proofs.YtccjiicjlifmiaaGreatDoor
