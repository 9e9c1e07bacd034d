/- Texts that the law FnExactBufOk uses. -/
import Derived.Test.YtccjiicjlifmiaaGreatDoorR28
set_option linter.unusedVariables false
set_option linter.unusedSimpArgs false
set_option maxRecDepth 100000
set_option maxHeartbeats 20000000
namespace Go.Proofs.YtccjiicjlifmiaaGreatDoor
open Go.RowKit

theorem qrp {w : World} {B : Nat} {v : Value} {n : Nat} {zs : List (ByteArray × Int)} (hl : zs.length = n) (h : w.ownsRow B 88 2 v n (wvals zs)) : ∃ ao cap, v = .slice ao n cap ∧ WOwn w B ao n cap zs := by
 rcases h.2 with ⟨rfl, rfl⟩ | ⟨g, c, cur, rfl, _⟩
 ·exact ⟨none, 0, rfl, hl, h⟩
 ·exact ⟨_, _, rfl, hl, h⟩
theorem qrs (a b : List (ByteArray × Int)) : wvals a ++ wvals b = wvals (a ++ b) := by simp [wvals]
theorem ivals_app (a b : List Int) : ivals a ++ ivals b = ivals (a ++ b) := by simp [ivals]
theorem qpi (a : List (ByteArray × Int)) : ∀ u ∈ wvals a, u.oneCell' = true := by
 intro u hu
 simp only [wvals, List.mem_flatMap] at hu
 obtain ⟨x, _, hx⟩ := hu
 simp at hx
 rcases hx with rfl | rfl <;> rfl
theorem ivals_one1 (a : List Int) : ∀ u ∈ ivals a, u.oneCell' = true := by
 intro u hu
 simp only [ivals, List.mem_map] at hu
 obtain ⟨x, _, rfl⟩ := hu
 rfl
theorem wvals_len (a : List (ByteArray × Int)) : (wvals a).length = a.length * 2 := by rw [qrt]; omega
theorem ivals_len (a : List Int) : (ivals a).length = a.length * 1 := by simp [ivals]
structure Sx (w0 y : World) (g r b : Nat) (ao : Option Addr) (n cap : Nat) (l : List UInt8) (p q : Pk) (d : Pd) : Prop where
 cur : Cur y g ao n cap l
 blk : Blk y b p
 res : Blk y r Pk.zero
 own : POwn y w0.heap.size q d
 gro : w0.grownBy y (some g)
 lt : g < w0.heap.size
 bn : w0.heap.size ≤ b
 rn : w0.heap.size ≤ r
 rb : r ≠ b
section
variable {m : Nat} {w0 y y' : World} {g r b : Nat} {ao : Option Addr} {n cap : Nat} {l : List UInt8} {p q : Pk} {d : Pd}
theorem Sx.move (s : Sx w0 y g r b ao n cap l p q d) {row : Option Nat} (hg : y.grownBy y' row) (hc : Cur y' g ao n cap l) (hr : ∀ k, row = some k → k ≠ b ∧ k ≠ r ∧ ¬ q.has k ∧ (k = g ∨ w0.heap.size ≤ k)) : Sx w0 y' g r b ao n cap l p q d :=
 ⟨hc, (hg.block b s.blk.lt (fun e => (hr b e.symm).1 rfl)).trans s.blk, (hg.block r s.res.lt (fun e => (hr r e.symm).2.1 rfl)).trans s.res, s.own.grown hg (fun k e => (hr k e).2.2.1),
  ⟨hg.os.trans s.gro.os, hg.tape.trans s.gro.tape, hg.output.trans s.gro.output, Nat.le_trans s.gro.size hg.size, fun k hk hne => (hg.block k (Nat.lt_of_lt_of_le hk s.gro.size) (fun e => by
   rcases (hr k e.symm).2.2.2 with h | h
   ·exact hne (by rw [h])
   ·omega)).trans (s.gro.block k hk hne)⟩, s.lt, s.bn, s.rn, s.rb⟩
theorem Sx.draw (s : Sx w0 y g r b ao n cap l p q d) (hg : y.grownBy y' (some g)) (hc : Cur y' g ao n cap l) : Sx w0 y' g r b ao n cap l p q d :=
 s.move hg hc (fun k e => by
  cases e
  have h1 := s.lt
  have h2 := s.bn
  have h3 := s.rn
  exact ⟨by omega, by omega, fun hk => by have := (s.own.lt hk).1; omega, .inl rfl⟩)
theorem St.any (s : St m w0 y g r b ao n cap l p d) {row : Option Nat} (hg : y.grownBy y' row) (hr : row = none ∨ row = some g) (hc : Cur y' g ao n cap l) : St m w0 y' g r b ao n cap l p d := by
 rcases hr with rfl | rfl
 ·exact s.draw hc (qqr hg)
 ·exact s.draw hc hg
theorem qbb (x : Option Addr) : Dis none x := fun a b h => by cases h
theorem qaw (x : Option Addr) : Dis x none := fun a b _ h => by cases h
theorem St.x22 (s : St m w0 y g r b ao n cap l p d) : Sx w0 y g r b ao n cap l p { p with wan := ⟨none, 0, 0⟩ } { d with wan := [] } := by
 refine ⟨s.cur, s.blk, s.res, ⟨s.own.bod, s.own.wb, s.own.pa, ⟨rfl, World.ownsRow_nil _ _ _ _⟩, s.own.nam, s.own.cds, ?_⟩, s.gro, s.lt, s.bn, s.rn, s.rb⟩
 obtain ⟨⟨q12, q13, q14, q15, q16⟩, ⟨q23, q24, q25, q26⟩, ⟨q34, q35, q36⟩, ⟨q45, q46⟩, q56⟩ := pw6.1 s.own.dis
 exact pw6.2 ⟨⟨q12, q13, qaw _, q15, q16⟩, ⟨q23, qaw _, q25, q26⟩, ⟨qaw _, q35, q36⟩, ⟨qbb _, qbb _⟩, q56⟩
theorem Sx.fin22 (s : Sx w0 y g r b ao n cap l p { p with wan := ⟨none, 0, 0⟩ } { d with wan := [] }) (hd : Pgd m p d) {a : Option Addr} {k c : Nat} {x : List (ByteArray × Int)} (hx : WOwn y w0.heap.size a k c x) (hm : k ≤ m) (hX : ∀ z ∈ x, z.1.size ≤ 61) :
  St m w0 (y.setCell ⟨b, 22, none⟩ (.slice a k c)) g r b ao n cap l { p with wan := ⟨a, k, c⟩ } { d with wan := x } := by
 have hg : y.grownBy (y.setCell ⟨b, 22, none⟩ (.slice a k c)) (some b) := qae y b 22 _
 have ho := s.own.grown hg (fun k e => by cases e; exact s.own.ne s.blk)
 have hx' := hx.grown hg (fun q e he => by
  subst e
  obtain ⟨_, h1⟩ := qci hx.2
  exact ty_ne h1 s.blk (by decide) (by simpa using he))
 refine ⟨s.cur.keep hg (fun k e => by have := s.lt; have := s.bn; cases e; omega), qad s.blk 22 _, (hg.block r s.res.lt (fun e => by have := s.rb; simp at e; omega)).trans s.res, ⟨ho.bod, ho.wb, ho.pa, hx', ho.nam, ho.cds, ?_⟩, qch s.gro hg s.bn, s.lt, s.bn, s.rn, s.rb, ⟨hd.top, hd.cli, hd.wt, hd.us, hd.bod, hd.wb, hd.pa, hm, hd.nam, hd.cds, hX, hd.nams⟩⟩
 obtain ⟨⟨q12, q13, q14, q15, q16⟩, ⟨q23, q24, q25, q26⟩, ⟨q34, q35, q36⟩, ⟨q45, q46⟩, q56⟩ := pw6.1 s.own.dis
 exact pw6.2 ⟨⟨q12, q13, (qbw s.own.bod.2 hx.2 (by decide)), q15, q16⟩, ⟨q23, (qbw s.own.wb.2 hx.2 (by decide)), q25, q26⟩, ⟨(qbw s.own.pa.2 hx.2 (by decide)), q35, q36⟩, ⟨(qbw hx.2 s.own.nam.2 (by decide)), (qbw hx.2 s.own.cds.2 (by decide))⟩, q56⟩
theorem z_wanapp {o : Oper} {a : Act} {w : World} {K : Act → World → Prop} {Q : Exit → Act → World → Prop} (s x : Operand) (ho : o.op = .call { callee := .builtin .append, args := #[s, x], argTypes := #[24, 24] })
  (B : Nat) (ao : Option Addr) (n cap : Nat) (zs : List (ByteArray × Int)) (hs : a.eval s = .slice ao n cap) (hown : WOwn w B ao n cap zs)
  (ad : Addr) (us : List (ByteArray × Int)) (m c : Nat) (hm : us.length = m) (hx : a.eval x = .slice (some ad) m c) (hc : ∀ (j : Nat) (v : Value), (wvals us)[j]? = some v → w.cell? (ad.add j) = some v) (hb : n + m ≤ 1000000) (hB : B ≤ w.heap.size)
  (h : ∀ ao' cap' w', WOwn w' B ao' (n + m) cap' (zs ++ us) → w.grownBy w' (Value.slice ao n cap).ownBlock → K (a.put o.dst (.slice ao' (n + m) cap')) w') : Oper.wp Tryz.prog o a w K Q := by
 obtain ⟨i0, hi, hz0, hz1, hz2⟩ := info_parts infoW
 have hlen : (zs ++ us).length = n + m := by rw [List.length_append, hown.1, hm]
 refine wp_append_own w s x 24 ho B 88 i0 (.agg #[.string ByteArray.empty, .int .i64 0]) 2 24 Tryz.underlying24 hi hz0 hz1 hz2 rfl (by decide) (.slice ao n cap) n (wvals zs) hs hown.2 ad m c (wvals us) hx (by rw [wvals_len, hm]) hc (qpi us) (by unfold maxLen; omega) (by omega) hB ?_
 intro v' w' hv hg _
 rw [qrs] at hv
 obtain ⟨ao', cap', rfl, hown'⟩ := qrp hlen hv
 exact h ao' cap' w' hown' hg
theorem St.x23 (s : St m w0 y g r b ao n cap l p d) : Sx w0 y g r b ao n cap l p { p with nam := ⟨none, 0, 0⟩ } { d with nam := [] } := by
 refine ⟨s.cur, s.blk, s.res, ⟨s.own.bod, s.own.wb, s.own.pa, s.own.wan, ⟨rfl, World.ownsRow_nil _ _ _ _⟩, s.own.cds, ?_⟩, s.gro, s.lt, s.bn, s.rn, s.rb⟩
 obtain ⟨⟨q12, q13, q14, q15, q16⟩, ⟨q23, q24, q25, q26⟩, ⟨q34, q35, q36⟩, ⟨q45, q46⟩, q56⟩ := pw6.1 s.own.dis
 exact pw6.2 ⟨⟨q12, q13, q14, qaw _, q16⟩, ⟨q23, q24, qaw _, q26⟩, ⟨q34, qaw _, q36⟩, ⟨qaw _, q46⟩, qbb _⟩
theorem Sx.fin23 (s : Sx w0 y g r b ao n cap l p { p with nam := ⟨none, 0, 0⟩ } { d with nam := [] }) (hd : Pgd m p d) {a : Option Addr} {k c : Nat} {x : List ByteArray} (hx : SOwn y w0.heap.size a k c x) (hm : k ≤ m) (hX : ∀ z ∈ x, z.size ≤ 61) :
  St m w0 (y.setCell ⟨b, 23, none⟩ (.slice a k c)) g r b ao n cap l { p with nam := ⟨a, k, c⟩ } { d with nam := x } := by
 have hg : y.grownBy (y.setCell ⟨b, 23, none⟩ (.slice a k c)) (some b) := qae y b 23 _
 have ho := s.own.grown hg (fun k e => by cases e; exact s.own.ne s.blk)
 have hx' := hx.grown hg (fun q e he => by
  subst e
  obtain ⟨_, h1⟩ := qci hx.2
  exact ty_ne h1 s.blk (by decide) (by simpa using he))
 refine ⟨s.cur.keep hg (fun k e => by have := s.lt; have := s.bn; cases e; omega), qad s.blk 23 _, (hg.block r s.res.lt (fun e => by have := s.rb; simp at e; omega)).trans s.res, ⟨ho.bod, ho.wb, ho.pa, ho.wan, hx', ho.cds, ?_⟩, qch s.gro hg s.bn, s.lt, s.bn, s.rn, s.rb, ⟨hd.top, hd.cli, hd.wt, hd.us, hd.bod, hd.wb, hd.pa, hd.wan, hm, hd.cds, hd.wans, hX⟩⟩
 obtain ⟨⟨q12, q13, q14, q15, q16⟩, ⟨q23, q24, q25, q26⟩, ⟨q34, q35, q36⟩, ⟨q45, q46⟩, q56⟩ := pw6.1 s.own.dis
 exact pw6.2 ⟨⟨q12, q13, q14, (qbw s.own.bod.2 hx.2 (by decide)), q16⟩, ⟨q23, q24, (qbw s.own.wb.2 hx.2 (by decide)), q26⟩, ⟨q34, (qbw s.own.pa.2 hx.2 (by decide)), q36⟩, ⟨(qbw s.own.wan.2 hx.2 (by decide)), q46⟩, (qbw hx.2 s.own.cds.2 (by decide))⟩
theorem St.x24 (s : St m w0 y g r b ao n cap l p d) : Sx w0 y g r b ao n cap l p { p with cds := ⟨none, 0, 0⟩ } { d with cds := [] } := by
 refine ⟨s.cur, s.blk, s.res, ⟨s.own.bod, s.own.wb, s.own.pa, s.own.wan, s.own.nam, ⟨rfl, World.ownsRow_nil _ _ _ _⟩, ?_⟩, s.gro, s.lt, s.bn, s.rn, s.rb⟩
 obtain ⟨⟨q12, q13, q14, q15, q16⟩, ⟨q23, q24, q25, q26⟩, ⟨q34, q35, q36⟩, ⟨q45, q46⟩, q56⟩ := pw6.1 s.own.dis
 exact pw6.2 ⟨⟨q12, q13, q14, q15, qaw _⟩, ⟨q23, q24, q25, qaw _⟩, ⟨q34, q35, qaw _⟩, ⟨q45, qaw _⟩, qaw _⟩
theorem Sx.fin24 (s : Sx w0 y g r b ao n cap l p { p with cds := ⟨none, 0, 0⟩ } { d with cds := [] }) (hd : Pgd m p d) {a : Option Addr} {k c : Nat} {x : List Int} (hx : IOwn y w0.heap.size a k c x) (hm : k ≤ m) :
  St m w0 (y.setCell ⟨b, 24, none⟩ (.slice a k c)) g r b ao n cap l { p with cds := ⟨a, k, c⟩ } { d with cds := x } := by
 have hg : y.grownBy (y.setCell ⟨b, 24, none⟩ (.slice a k c)) (some b) := qae y b 24 _
 have ho := s.own.grown hg (fun k e => by cases e; exact s.own.ne s.blk)
 have hx' := hx.grown hg (fun q e he => by
  subst e
  obtain ⟨_, h1⟩ := qci hx.2
  exact ty_ne h1 s.blk (by decide) (by simpa using he))
 refine ⟨s.cur.keep hg (fun k e => by have := s.lt; have := s.bn; cases e; omega), qad s.blk 24 _, (hg.block r s.res.lt (fun e => by have := s.rb; simp at e; omega)).trans s.res, ⟨ho.bod, ho.wb, ho.pa, ho.wan, ho.nam, hx', ?_⟩, qch s.gro hg s.bn, s.lt, s.bn, s.rn, s.rb, ⟨hd.top, hd.cli, hd.wt, hd.us, hd.bod, hd.wb, hd.pa, hd.wan, hd.nam, hm, hd.wans, hd.nams⟩⟩
 obtain ⟨⟨q12, q13, q14, q15, q16⟩, ⟨q23, q24, q25, q26⟩, ⟨q34, q35, q36⟩, ⟨q45, q46⟩, q56⟩ := pw6.1 s.own.dis
 exact pw6.2 ⟨⟨q12, q13, q14, q15, (qbw s.own.bod.2 hx.2 (by decide))⟩, ⟨q23, q24, q25, (qbw s.own.wb.2 hx.2 (by decide))⟩, ⟨q34, q35, (qbw s.own.pa.2 hx.2 (by decide))⟩, ⟨q45, (qbw s.own.wan.2 hx.2 (by decide))⟩, (qbw s.own.nam.2 hx.2 (by decide))⟩
theorem z_cdsapp {o : Oper} {a : Act} {w : World} {K : Act → World → Prop} {Q : Exit → Act → World → Prop} (s x : Operand) (ho : o.op = .call { callee := .builtin .append, args := #[s, x], argTypes := #[26, 26] })
  (B : Nat) (ao : Option Addr) (n cap : Nat) (zs : List Int) (hs : a.eval s = .slice ao n cap) (hown : IOwn w B ao n cap zs)
  (ad : Addr) (us : List Int) (m c : Nat) (hm : us.length = m) (hx : a.eval x = .slice (some ad) m c) (hc : ∀ (j : Nat) (v : Value), (ivals us)[j]? = some v → w.cell? (ad.add j) = some v) (hb : n + m ≤ 1000000) (hB : B ≤ w.heap.size)
  (h : ∀ ao' cap' w', IOwn w' B ao' (n + m) cap' (zs ++ us) → w.grownBy w' (Value.slice ao n cap).ownBlock → K (a.put o.dst (.slice ao' (n + m) cap')) w') : Oper.wp Tryz.prog o a w K Q := by
 obtain ⟨i0, hi, hz0, hz1, hz2⟩ := info_parts info3
 have hlen : (zs ++ us).length = n + m := by rw [List.length_append, hown.1, hm]
 refine wp_append_own w s x 26 ho B 3 i0 (.int .i64 0) 1 8 Tryz.underlying26 hi hz0 hz1 hz2 rfl (by decide) (.slice ao n cap) n (ivals zs) hs hown.2 ad m c (ivals us) hx (by rw [ivals_len, hm]) hc (ivals_one1 us) (by unfold maxLen; omega) (by omega) hB ?_
 intro v' w' hv hg _
 rw [ivals_app] at hv
 obtain ⟨ao', cap', rfl, hown'⟩ := qqv hlen hv
 exact h ao' cap' w' hown' hg
end

def Onw {α : Type} (g : List UInt8 → Nat → Option (α × Nat)) : Prop := ∀ l p x k, g l p = some (x, k) → p < k ∧ k ≤ l.length
theorem onw_B : Onw gB := by
 intro l p x k h
 unfold gB at h
 split at h
 ·simp only [Option.some.injEq, Prod.mk.injEq] at h; omega
 ·cases h
theorem onw_T : Onw gT := by
 intro l p x k h
 unfold gT getT at h
 cases e : getL l (p : Int) with
 | none => rw [e] at h; cases h
 | some z =>
  obtain ⟨y, q⟩ := z
  obtain ⟨p', m, e1, e2, e3, e4, e5, e6, e7, e8⟩ := qen e
  rw [e] at h
  simp only at h
  split at h
  ·rename_i z2 h2
   split at h2
   ·simp only [Option.some.injEq, Prod.mk.injEq] at h h2; omega
   ·cases h2
  ·cases h
theorem onw_N : Onw gN := by
 intro l p x k h
 unfold gN at h
 cases e : gT l p with
 | none => rw [e] at h; cases h
 | some z =>
  obtain ⟨s, q⟩ := z
  have h1 := onw_T l p s q e
  rw [e] at h
  simp only at h
  cases e2 : gB l q with
  | none => rw [e2] at h; cases h
  | some y =>
   obtain ⟨y, r⟩ := y
   have h2 := onw_B l q y r e2
   rw [e2] at h
   simp only [Option.some.injEq, Prod.mk.injEq] at h
   omega
theorem qsu {α : Type} {g : List UInt8 → Nat → Option (α × Nat)} (hg : Onw g) (d : α) (l : List UInt8) (p : Nat) (e : Bool) (hp : p < l.length) : p < (rd g d l (p, e)).2.1 ∧ (rd g d l (p, e)).2.1 ≤ l.length := by
 cases h : g l p with
 | none => rw [rd_no h]; exact ⟨hp, Nat.le_refl _⟩
 | some xk =>
  obtain ⟨x, k⟩ := xk
  rw [qcb h]
  exact hg l p x k h
theorem qsr {α : Type} {g : List UInt8 → Nat → Option (α × Nat)} (d : α) (l : List UInt8) (f : Nat) (s : Nat × Bool) (h : ¬ s.1 < l.length) : rdL g d l f s = ([], s) := by
 cases f with
 | zero => rfl
 | succ f => simp only [rdL]; rw [if_neg h]
theorem qqa {α : Type} {g : List UInt8 → Nat → Option (α × Nat)} (d : α) (l : List UInt8) (f p : Nat) (e : Bool) (h : p < l.length) (hf : l.length ≤ p + f) : ∃ f', f = f' + 1 ∧ rdL g d l f (p, e) = ((rd g d l (p, e)).1 :: (rdL g d l f' (rd g d l (p, e)).2).1, (rdL g d l f' (rd g d l (p, e)).2).2) := by
 cases f with
 | zero => omega
 | succ f => exact ⟨f, rfl, by simp only [rdL]; rw [if_pos h]⟩
theorem qmt {w0 y y' : World} {g : Nat} {row : Option Nat} (h : w0.grownBy y (some g)) (hg : y.grownBy y' row) (hb : ∀ k, row = some k → w0.heap.size ≤ k) : w0.grownBy y' (some g) :=
 ⟨hg.os.trans h.os, hg.tape.trans h.tape, hg.output.trans h.output, Nat.le_trans h.size hg.size, fun k hk hne => (hg.block k (Nat.lt_of_lt_of_le hk h.size) (fun e => by have := hb k e.symm; omega)).trans (h.block k hk hne)⟩
def qis (v : Value) : Nat := match v with
 | .slice _ n _ => n
 | _ => 0
theorem w_wapp {ops : Array Oper} {rest : List Oper} {o : Oper} {a : Act} {Q : Exit → Act → World → Prop} (w : World) (hgd : o.guard = none) (s x : Operand)
  (ho : o.op = .call { callee := .builtin .append, args := #[s, x], argTypes := #[24, 24] })
  (B : Nat) (ao : Option Addr) (n cap : Nat) (zs : List (ByteArray × Int)) (hs : a.eval s = .slice ao n cap) (hown : WOwn w B ao n cap zs)
  (ad : Nat) (u : ByteArray × Int) (hx : a.eval x = .slice (some ⟨ad, 0, none⟩) 1 1) (hc : w.cell? ⟨ad, 0, none⟩ = some (.string u.1)) (hc' : w.cell? ⟨ad, 1, none⟩ = some (.int .i64 u.2)) (hb : n < 1099511627776) (hB : B ≤ w.heap.size)
  (h : ∀ ao' cap' w', WOwn w' B ao' (n + 1) cap' (zs ++ [u]) → w.grownBy w' (Value.slice ao n cap).ownBlock → wpList Tryz.prog ops Q rest (a.put o.dst (.slice ao' (n + 1) cap')) w') :
  wpList Tryz.prog ops Q (o :: rest) a w := by
 obtain ⟨i0, hi, hz0, hz1, hz2⟩ := info_parts infoW
 have hlen : (zs ++ [u]).length = n + 1 := by rw [List.length_append, hown.1]; rfl
 refine wpList_append_own w hgd s x 24 ho B 88 i0 (.agg #[.string ByteArray.empty, .int .i64 0]) 2 24 Tryz.underlying24 hi hz0 hz1 hz2 rfl (by decide) (.slice ao n cap) n (wvals zs) hs hown.2 ⟨ad, 0, none⟩ 1 1 (wvals [u]) hx rfl ?_ (qpi [u]) (by unfold maxLen; omega) (by omega) hB ?_
 ·intro j v hv
  match j, hv with
  | 0, hv =>
   have e4 : v = .string u.1 := by simpa [wvals] using hv.symm
   rw [e4]
   exact hc
  | 1, hv =>
   have e4 : v = .int .i64 u.2 := by simpa [wvals] using hv.symm
   rw [e4]
   exact hc'
 ·intro v' w' hv hg _
  rw [qrs] at hv
  obtain ⟨ao', cap', rfl, hown'⟩ := qrp hlen hv
  exact h ao' cap' w' hown' hg
theorem qra (q : Nat) (ao : Option Addr) (n cap p : Nat) (e : Bool) (l : List UInt8) (w : World) (hR : RB w q ao n cap p e) (hr : RdIn w ao n cap l) (hn : n ≤ 1048576) (hp : p ≤ n) :
  Calls Tryz.prog 157 #[.pointer (some ⟨q, 0, none⟩), .func (.func 152) #[] #[]] w fun e' w' => ∃ a c, e' = .returned (.slice a (rdL gB 0 l n (p, e)).1.length c) ∧ IOwn w' w.heap.size a (rdL gB 0 l n (p, e)).1.length c (rdL gB 0 l n (p, e)).1 ∧ RB w' q ao n cap (rdL gB 0 l n (p, e)).2.1 (rdL gB 0 l n (p, e)).2.2 ∧ w.grownBy w' (some q) := by
 have hl := hr.1.1
 have hq := hR.lt
 have HRD : Hid (∀ w', w.grownBy w' (some q) → RdIn w' ao n cap l) := fun w' hg => qst hr hR hg
 clear hr
 go_enter Tryz.func157, Tryz.ntmps157
 go_wp2
 go_loopw [5] (fun v wr => ∃ (a : Option Addr) (c : Nat) (ys : List Int) (p' f : Nat) (e' : Bool), v = .slice a ys.length c ∧ IOwn wr w.heap.size a ys.length c ys ∧ RB wr q ao n cap p' e' ∧ w.grownBy wr (some q) ∧ ys.length ≤ p' ∧ p' ≤ n ∧ l.length ≤ p' + f ∧ Hid (rdL gB 0 l n (p, e) = (ys ++ (rdL gB 0 l f (p', e')).1, (rdL gB 0 l f (p', e')).2))) (fun v _ => n - qis v)
 case atStart => exact ⟨none, 0, [], p, n, e, rfl, ⟨rfl, World.ownsRow_nil _ _ _ _⟩, hR, World.grownBy.refl _ _, Nat.zero_le _, hp, by omega, by simp [Hid]⟩
 case round =>
  obtain ⟨a, c, ys, p', f, e', rfl, O, R, hg, hy, hp', hf, HF⟩ := hrel
  have c0 := R.cell 0 rfl
  have c1 := R.cell 1 rfl
  by_cases hlt : p' < n
  ·have hlt' : (p' : Int) < n := by omega
   go_wp2
   go_quiet (fail)
   have hbq : Below wr.heap.size wr (wr.drewN nq) := below_drewN (Below.refl _ _) nq
   have R1 := R.next hbq
   have O1 := O.below hbq
   have hg1 : w.grownBy (wr.drewN nq) (some q) := qcd hg hbq
   have hr1 := HRD.out _ hg1
   have hnx := qsu onw_B 0 l p' e' (by omega)
   obtain ⟨f', rfl, hstep⟩ := qqa (g := gB) 0 l f p' e' (by omega) hf
   have HS : Hid (rdL gB 0 l n (p, e) = (ys ++ ((rd gB 0 l (p', e')).1 :: (rdL gB 0 l f' (rd gB 0 l (p', e')).2).1), (rdL gB 0 l f' (rd gB 0 l (p', e')).2).2)) := by
    unfold Hid
    rw [HF.out, hstep]
   clear HF hstep hbq O hg
   generalize wr.drewN nq = w1 at *
   clear R c0 c1
   go_wp2_with fail
   refine (qer q ao n cap p' e' l _ R1 hr1 hn).mono ?_
   rintro e1 w2 ⟨rfl, R2, g2⟩
   have O2 : IOwn w2 w.heap.size a ys.length c ys := O1.grown g2 (fun z hz => fun e => by have := (O1.2.lt z.block (by rw [hz]; rfl)).1; have := hq; simp at e; omega)
   have hg2 : w.grownBy w2 (some q) := qcn hg1 g2
   clear O1 hr1 hg1 R1
   generalize hrd : rd gB 0 l (p', e') = r at *
   obtain ⟨x, p2, e2⟩ := r
   simp only at R2 hnx HS ⊢
   clear hrd
   go_wp2_with (at_builtin; refine w_iapp _ rfl _ _ rfl w.heap.size _ _ _ ys rfl (O2.below (bel_new _ _)) _ x rfl ?_ (by omega) (by have := hg2.size; simp; omega) ?_; (simp))
   intro a3 c3 w3 O3 g3
   have R3 : RB w3 q ao n cap p2 e2 := (g3.block q (by have := R2.lt; simp; omega) (fun e => by have := (O2.2.lt q e.symm).1; omega)).trans (R2.next (bel_new _ _))
   have hg3 : w.grownBy w3 (some q) := qmt (qcd hg2 (bel_new _ _)) g3 (fun k e => (O2.2.lt k e).1)
   go_wp2
   go_roundw
   case rel => exact ⟨a3, c3, ys ++ [x], p2, f', e2, by simp, by simpa using O3, R3, hg3, by simp; omega, by omega, by omega, by unfold Hid; rw [HS.out]; simp⟩
   case measure => simp [qis]; omega
  ·have hlt' : ¬ (p' : Int) < n := by omega
   have he := qsr (g := gB) 0 l f (p', e') (by simp; omega)
   have HS : Hid (rdL gB 0 l n (p, e) = (ys, (p', e'))) := by
    unfold Hid
    rw [HF.out, he]
    simp
   clear HF he
   go_wp2
   go_quiet (fail)
   have hbq : Below wr.heap.size wr (wr.drewN nq) := below_drewN (Below.refl _ _) nq
   have R1 := R.next hbq
   have O1 := O.below hbq
   have hg1 : w.grownBy (wr.drewN nq) (some q) := qcd hg hbq
   go_wp2
   go_ret
   rw [HS.out]
   exact ⟨a, c, rfl, O1, R1, hg1⟩
theorem qqz (q : Nat) (ao : Option Addr) (n cap p : Nat) (e : Bool) (l : List UInt8) (w : World) (hR : RB w q ao n cap p e) (hr : RdIn w ao n cap l) (hn : n ≤ 1048576) (hp : p ≤ n) :
  Calls Tryz.prog 158 #[.pointer (some ⟨q, 0, none⟩), .func (.func 159) #[] #[]] w fun e' w' => ∃ a c, e' = .returned (.slice a (rdL gT ByteArray.empty l n (p, e)).1.length c) ∧ SOwn w' w.heap.size a (rdL gT ByteArray.empty l n (p, e)).1.length c (rdL gT ByteArray.empty l n (p, e)).1 ∧ RB w' q ao n cap (rdL gT ByteArray.empty l n (p, e)).2.1 (rdL gT ByteArray.empty l n (p, e)).2.2 ∧ w.grownBy w' (some q) := by
 have hl := hr.1.1
 have hq := hR.lt
 have HRD : Hid (∀ w', w.grownBy w' (some q) → RdIn w' ao n cap l) := fun w' hg => qst hr hR hg
 clear hr
 go_enter Tryz.func158, Tryz.ntmps158
 go_wp2
 go_loopw [5] (fun v wr => ∃ (a : Option Addr) (c : Nat) (ys : List ByteArray) (p' f : Nat) (e' : Bool), v = .slice a ys.length c ∧ SOwn wr w.heap.size a ys.length c ys ∧ RB wr q ao n cap p' e' ∧ w.grownBy wr (some q) ∧ ys.length ≤ p' ∧ p' ≤ n ∧ l.length ≤ p' + f ∧ Hid (rdL gT ByteArray.empty l n (p, e) = (ys ++ (rdL gT ByteArray.empty l f (p', e')).1, (rdL gT ByteArray.empty l f (p', e')).2))) (fun v _ => n - qis v)
 case atStart => exact ⟨none, 0, [], p, n, e, rfl, ⟨rfl, World.ownsRow_nil _ _ _ _⟩, hR, World.grownBy.refl _ _, Nat.zero_le _, hp, by omega, by simp [Hid]⟩
 case round =>
  obtain ⟨a, c, ys, p', f, e', rfl, O, R, hg, hy, hp', hf, HF⟩ := hrel
  have c0 := R.cell 0 rfl
  have c1 := R.cell 1 rfl
  by_cases hlt : p' < n
  ·have hlt' : (p' : Int) < n := by omega
   go_wp2
   go_quiet (fail)
   have hbq : Below wr.heap.size wr (wr.drewN nq) := below_drewN (Below.refl _ _) nq
   have R1 := R.next hbq
   have O1 := O.below hbq
   have hg1 : w.grownBy (wr.drewN nq) (some q) := qcd hg hbq
   have hr1 := HRD.out _ hg1
   have hnx := qsu onw_T ByteArray.empty l p' e' (by omega)
   obtain ⟨f', rfl, hstep⟩ := qqa (g := gT) ByteArray.empty l f p' e' (by omega) hf
   have HS : Hid (rdL gT ByteArray.empty l n (p, e) = (ys ++ ((rd gT ByteArray.empty l (p', e')).1 :: (rdL gT ByteArray.empty l f' (rd gT ByteArray.empty l (p', e')).2).1), (rdL gT ByteArray.empty l f' (rd gT ByteArray.empty l (p', e')).2).2)) := by
    unfold Hid
    rw [HF.out, hstep]
   clear HF hstep hbq O hg
   generalize wr.drewN nq = w1 at *
   clear R c0 c1
   go_wp2_with fail
   refine (qdb q ao n cap p' e' l _ R1 hr1 hn).mono ?_
   rintro e1 w2 ⟨rfl, R2, g2⟩
   have O2 : SOwn w2 w.heap.size a ys.length c ys := O1.grown g2 (fun z hz => fun e => by have := (O1.2.lt z.block (by rw [hz]; rfl)).1; have := hq; simp at e; omega)
   have hg2 : w.grownBy w2 (some q) := qcn hg1 g2
   clear O1 hr1 hg1 R1
   generalize hrd : rd gT ByteArray.empty l (p', e') = r at *
   obtain ⟨x, p2, e2⟩ := r
   simp only at R2 hnx HS ⊢
   clear hrd
   go_wp2_with (at_builtin; refine w_sapp _ rfl _ _ rfl w.heap.size _ _ _ ys rfl (O2.below (bel_new _ _)) _ x rfl ?_ (by omega) (by have := hg2.size; simp; omega) ?_; (simp))
   intro a3 c3 w3 O3 g3
   have R3 : RB w3 q ao n cap p2 e2 := (g3.block q (by have := R2.lt; simp; omega) (fun e => by have := (O2.2.lt q e.symm).1; omega)).trans (R2.next (bel_new _ _))
   have hg3 : w.grownBy w3 (some q) := qmt (qcd hg2 (bel_new _ _)) g3 (fun k e => (O2.2.lt k e).1)
   go_wp2
   go_roundw
   case rel => exact ⟨a3, c3, ys ++ [x], p2, f', e2, by simp, by simpa using O3, R3, hg3, by simp; omega, by omega, by omega, by unfold Hid; rw [HS.out]; simp⟩
   case measure => simp [qis]; omega
  ·have hlt' : ¬ (p' : Int) < n := by omega
   have he := qsr (g := gT) ByteArray.empty l f (p', e') (by simp; omega)
   have HS : Hid (rdL gT ByteArray.empty l n (p, e) = (ys, (p', e'))) := by
    unfold Hid
    rw [HF.out, he]
    simp
   clear HF he
   go_wp2
   go_quiet (fail)
   have hbq : Below wr.heap.size wr (wr.drewN nq) := below_drewN (Below.refl _ _) nq
   have R1 := R.next hbq
   have O1 := O.below hbq
   have hg1 : w.grownBy (wr.drewN nq) (some q) := qcd hg hbq
   go_wp2
   go_ret
   rw [HS.out]
   exact ⟨a, c, rfl, O1, R1, hg1⟩
theorem qrb (q : Nat) (ao : Option Addr) (n cap p : Nat) (e : Bool) (l : List UInt8) (w : World) (hR : RB w q ao n cap p e) (hr : RdIn w ao n cap l) (hn : n ≤ 1048576) (hp : p ≤ n) :
  Calls Tryz.prog 155 #[.pointer (some ⟨q, 0, none⟩), .func (.func 156) #[] #[]] w fun e' w' => ∃ a c, e' = .returned (.slice a (rdL gN (ByteArray.empty, 0) l n (p, e)).1.length c) ∧ WOwn w' w.heap.size a (rdL gN (ByteArray.empty, 0) l n (p, e)).1.length c (rdL gN (ByteArray.empty, 0) l n (p, e)).1 ∧ RB w' q ao n cap (rdL gN (ByteArray.empty, 0) l n (p, e)).2.1 (rdL gN (ByteArray.empty, 0) l n (p, e)).2.2 ∧ w.grownBy w' (some q) := by
 have hl := hr.1.1
 have hq := hR.lt
 have HRD : Hid (∀ w', w.grownBy w' (some q) → RdIn w' ao n cap l) := fun w' hg => qst hr hR hg
 clear hr
 go_enter Tryz.func155, Tryz.ntmps155
 go_wp2
 go_loopw [5] (fun v wr => ∃ (a : Option Addr) (c : Nat) (ys : List (ByteArray × Int)) (p' f : Nat) (e' : Bool), v = .slice a ys.length c ∧ WOwn wr w.heap.size a ys.length c ys ∧ RB wr q ao n cap p' e' ∧ w.grownBy wr (some q) ∧ ys.length ≤ p' ∧ p' ≤ n ∧ l.length ≤ p' + f ∧ Hid (rdL gN (ByteArray.empty, 0) l n (p, e) = (ys ++ (rdL gN (ByteArray.empty, 0) l f (p', e')).1, (rdL gN (ByteArray.empty, 0) l f (p', e')).2))) (fun v _ => n - qis v)
 case atStart => exact ⟨none, 0, [], p, n, e, rfl, ⟨rfl, World.ownsRow_nil _ _ _ _⟩, hR, World.grownBy.refl _ _, Nat.zero_le _, hp, by omega, by simp [Hid]⟩
 case round =>
  obtain ⟨a, c, ys, p', f, e', rfl, O, R, hg, hy, hp', hf, HF⟩ := hrel
  have c0 := R.cell 0 rfl
  have c1 := R.cell 1 rfl
  by_cases hlt : p' < n
  ·have hlt' : (p' : Int) < n := by omega
   go_wp2
   go_quiet (fail)
   have hbq : Below wr.heap.size wr (wr.drewN nq) := below_drewN (Below.refl _ _) nq
   have R1 := R.next hbq
   have O1 := O.below hbq
   have hg1 : w.grownBy (wr.drewN nq) (some q) := qcd hg hbq
   have hr1 := HRD.out _ hg1
   have hnx := qsu onw_N (ByteArray.empty, 0) l p' e' (by omega)
   obtain ⟨f', rfl, hstep⟩ := qqa (g := gN) (ByteArray.empty, 0) l f p' e' (by omega) hf
   have HS : Hid (rdL gN (ByteArray.empty, 0) l n (p, e) = (ys ++ ((rd gN (ByteArray.empty, 0) l (p', e')).1 :: (rdL gN (ByteArray.empty, 0) l f' (rd gN (ByteArray.empty, 0) l (p', e')).2).1), (rdL gN (ByteArray.empty, 0) l f' (rd gN (ByteArray.empty, 0) l (p', e')).2).2)) := by
    unfold Hid
    rw [HF.out, hstep]
   clear HF hstep hbq O hg
   generalize wr.drewN nq = w1 at *
   clear R c0 c1
   go_wp2_with fail
   refine (qrg q ao n cap p' e' l _ R1 hr1 hn).mono ?_
   rintro e1 w2 ⟨rfl, R2, g2⟩
   have O2 : WOwn w2 w.heap.size a ys.length c ys := O1.grown g2 (fun z hz => fun e => by have := (O1.2.lt z.block (by rw [hz]; rfl)).1; have := hq; simp at e; omega)
   have hg2 : w.grownBy w2 (some q) := qcn hg1 g2
   clear O1 hr1 hg1 R1
   generalize hrd : rd gN (ByteArray.empty, 0) l (p', e') = r at *
   obtain ⟨x, p2, e2⟩ := r
   simp only at R2 hnx HS ⊢
   clear hrd
   go_wp2_with (at_builtin; refine w_wapp _ rfl _ _ rfl w.heap.size _ _ _ ys rfl (O2.below (bel_new _ _)) _ x rfl ?_ ?_ (by omega) (by have := hg2.size; simp; omega) ?_; (simp); (simp))
   intro a3 c3 w3 O3 g3
   have R3 : RB w3 q ao n cap p2 e2 := (g3.block q (by have := R2.lt; simp; omega) (fun e => by have := (O2.2.lt q e.symm).1; omega)).trans (R2.next (bel_new _ _))
   have hg3 : w.grownBy w3 (some q) := qmt (qcd hg2 (bel_new _ _)) g3 (fun k e => (O2.2.lt k e).1)
   go_wp2
   go_roundw
   case rel => exact ⟨a3, c3, ys ++ [x], p2, f', e2, by simp, by simpa using O3, R3, hg3, by simp; omega, by omega, by omega, by unfold Hid; rw [HS.out]; simp⟩
   case measure => simp [qis]; omega
  ·have hlt' : ¬ (p' : Int) < n := by omega
   have he := qsr (g := gN) (ByteArray.empty, 0) l f (p', e') (by simp; omega)
   have HS : Hid (rdL gN (ByteArray.empty, 0) l n (p, e) = (ys, (p', e'))) := by
    unfold Hid
    rw [HF.out, he]
    simp
   clear HF he
   go_wp2
   go_quiet (fail)
   have hbq : Below wr.heap.size wr (wr.drewN nq) := below_drewN (Below.refl _ _) nq
   have R1 := R.next hbq
   have O1 := O.below hbq
   have hg1 : w.grownBy (wr.drewN nq) (some q) := qcd hg hbq
   go_wp2
   go_ret
   rw [HS.out]
   exact ⟨a, c, rfl, O1, R1, hg1⟩
end Go.Proofs.YtccjiicjlifmiaaGreatDoor
