/- A packet in the making, one of whose lists grows. -/
import Derived.Test.YtccjiicjlifmiaaGreatDoorPDr
set_option linter.unusedVariables false
set_option linter.unusedSimpArgs false
namespace Go.Proofs.YtccjiicjlifmiaaGreatDoor
open Go.RowKit

theorem wown_open {w : World} {B : Nat} {v : Value} {n : Nat} {zs : List (ByteArray × Int)} (hl : zs.length = n) (h : w.ownsRow B 88 2 v n (wvals zs)) : ∃ ao cap, v = .slice ao n cap ∧ WOwn w B ao n cap zs := by
  rcases h.2 with ⟨rfl, rfl⟩ | ⟨g, c, cur, rfl, _⟩
  · exact ⟨none, 0, rfl, hl, h⟩
  · exact ⟨_, _, rfl, hl, h⟩
theorem wvals_app (a b : List (ByteArray × Int)) : wvals a ++ wvals b = wvals (a ++ b) := by simp [wvals]
theorem svals_app (a b : List ByteArray) : svals a ++ svals b = svals (a ++ b) := by simp [svals]
theorem ivals_app (a b : List Int) : ivals a ++ ivals b = ivals (a ++ b) := by simp [ivals]
theorem wvals_one1 (a : List (ByteArray × Int)) : ∀ u ∈ wvals a, u.oneCell' = true := by
  intro u hu
  simp only [wvals, List.mem_flatMap] at hu
  obtain ⟨x, _, hx⟩ := hu
  simp at hx
  rcases hx with rfl | rfl <;> rfl
theorem svals_one1 (a : List ByteArray) : ∀ u ∈ svals a, u.oneCell' = true := by
  intro u hu
  simp only [svals, List.mem_map] at hu
  obtain ⟨x, _, rfl⟩ := hu
  rfl
theorem ivals_one1 (a : List Int) : ∀ u ∈ ivals a, u.oneCell' = true := by
  intro u hu
  simp only [ivals, List.mem_map] at hu
  obtain ⟨x, _, rfl⟩ := hu
  rfl
theorem wvals_len (a : List (ByteArray × Int)) : (wvals a).length = a.length * 2 := by rw [wvals_length]; omega
theorem svals_len (a : List ByteArray) : (svals a).length = a.length * 1 := by simp [svals]
theorem ivals_len (a : List Int) : (ivals a).length = a.length * 1 := by simp [ivals]
/-- A packet in the making, of whose lists q's alone are spoken of. -/
structure Sx (w0 y : World) (g r b : Nat) (ao : Option Addr) (n cap : Nat) (l : List UInt8) (p q : Pk) (d : Pd) : Prop where
  cur : Cur y g ao n cap l
  blk : Blk y b p
  res : Blk y r Pk.zero
  own : POwn y w0.heap.size q d
  gro : w0.grownBy y (some g)
  lt : g < w0.heap.size
  bn : w0.heap.size ≤ b
  rn : w0.heap.size ≤ r
  rb : r ≠ b
section
variable {m : Nat} {w0 y y' : World} {g r b : Nat} {ao : Option Addr} {n cap : Nat} {l : List UInt8} {p q : Pk} {d : Pd}
theorem Sx.move (s : Sx w0 y g r b ao n cap l p q d) {row : Option Nat} (hg : y.grownBy y' row) (hc : Cur y' g ao n cap l) (hr : ∀ k, row = some k → k ≠ b ∧ k ≠ r ∧ ¬ q.has k ∧ (k = g ∨ w0.heap.size ≤ k)) : Sx w0 y' g r b ao n cap l p q d :=
  ⟨hc, (hg.block b s.blk.lt (fun e => (hr b e.symm).1 rfl)).trans s.blk, (hg.block r s.res.lt (fun e => (hr r e.symm).2.1 rfl)).trans s.res, s.own.grown hg (fun k e => (hr k e).2.2.1),
    ⟨hg.os.trans s.gro.os, hg.tape.trans s.gro.tape, hg.output.trans s.gro.output, Nat.le_trans s.gro.size hg.size, fun k hk hne => (hg.block k (Nat.lt_of_lt_of_le hk s.gro.size) (fun e => by
      rcases (hr k e.symm).2.2.2 with h | h
      · exact hne (by rw [h])
      · omega)).trans (s.gro.block k hk hne)⟩, s.lt, s.bn, s.rn, s.rb⟩
theorem Sx.draw (s : Sx w0 y g r b ao n cap l p q d) (hg : y.grownBy y' (some g)) (hc : Cur y' g ao n cap l) : Sx w0 y' g r b ao n cap l p q d :=
  s.move hg hc (fun k e => by
    cases e
    have h1 := s.lt
    have h2 := s.bn
    have h3 := s.rn
    exact ⟨by omega, by omega, fun hk => by have := (s.own.lt hk).1; omega, .inl rfl⟩)
/-- A step that writes into no old block but the cursor's. -/
theorem St.any (s : St m w0 y g r b ao n cap l p d) {row : Option Nat} (hg : y.grownBy y' row) (hr : row = none ∨ row = some g) (hc : Cur y' g ao n cap l) : St m w0 y' g r b ao n cap l p d := by
  rcases hr with rfl | rfl
  · exact s.draw hc (grown_any hg)
  · exact s.draw hc hg
theorem dis_none_l (x : Option Addr) : Dis none x := fun a b h => by cases h
theorem dis_none_r (x : Option Addr) : Dis x none := fun a b _ h => by cases h
theorem St.x22 (s : St m w0 y g r b ao n cap l p d) : Sx w0 y g r b ao n cap l p { p with wan := ⟨none, 0, 0⟩ } { d with wan := [] } := by
  refine ⟨s.cur, s.blk, s.res, ⟨s.own.bod, s.own.wb, s.own.pa, ⟨rfl, World.ownsRow_nil _ _ _ _⟩, s.own.nam, s.own.cds, ?_⟩, s.gro, s.lt, s.bn, s.rn, s.rb⟩
  obtain ⟨⟨q12, q13, q14, q15, q16⟩, ⟨q23, q24, q25, q26⟩, ⟨q34, q35, q36⟩, ⟨q45, q46⟩, q56⟩ := pw6.1 s.own.dis
  exact pw6.2 ⟨⟨q12, q13, dis_none_r _, q15, q16⟩, ⟨q23, dis_none_r _, q25, q26⟩, ⟨dis_none_r _, q35, q36⟩, ⟨dis_none_l _, dis_none_l _⟩, q56⟩
theorem Sx.fin22 (s : Sx w0 y g r b ao n cap l p { p with wan := ⟨none, 0, 0⟩ } { d with wan := [] }) (hd : Pgd m p d) {a : Option Addr} {k c : Nat} {x : List (ByteArray × Int)} (hx : WOwn y w0.heap.size a k c x) (hm : k ≤ m) (hX : ∀ z ∈ x, z.1.size ≤ 61) :
    St m w0 (y.setCell ⟨b, 22, none⟩ (.slice a k c)) g r b ao n cap l { p with wan := ⟨a, k, c⟩ } { d with wan := x } := by
  have hg : y.grownBy (y.setCell ⟨b, 22, none⟩ (.slice a k c)) (some b) := grown_set y b 22 _
  have ho := s.own.grown hg (fun k e => by cases e; exact s.own.ne s.blk)
  have hx' := hx.grown hg (fun q e he => by
    subst e
    obtain ⟨_, h1⟩ := own_ty hx.2
    exact ty_ne h1 s.blk (by decide) (by simpa using he))
  refine ⟨s.cur.keep hg (fun k e => by have := s.lt; have := s.bn; cases e; omega), heap_setCell_at s.blk 22 _, (hg.block r s.res.lt (fun e => by have := s.rb; simp at e; omega)).trans s.res, ⟨ho.bod, ho.wb, ho.pa, hx', ho.nam, ho.cds, ?_⟩, grown_new s.gro hg s.bn, s.lt, s.bn, s.rn, s.rb, ⟨hd.top, hd.cli, hd.wt, hd.us, hd.bod, hd.wb, hd.pa, hm, hd.nam, hd.cds, hX, hd.nams⟩⟩
  obtain ⟨⟨q12, q13, q14, q15, q16⟩, ⟨q23, q24, q25, q26⟩, ⟨q34, q35, q36⟩, ⟨q45, q46⟩, q56⟩ := pw6.1 s.own.dis
  exact pw6.2 ⟨⟨q12, q13, (dis_ty s.own.bod.2 hx.2 (by decide)), q15, q16⟩, ⟨q23, (dis_ty s.own.wb.2 hx.2 (by decide)), q25, q26⟩, ⟨(dis_ty s.own.pa.2 hx.2 (by decide)), q35, q36⟩, ⟨(dis_ty hx.2 s.own.nam.2 (by decide)), (dis_ty hx.2 s.own.cds.2 (by decide))⟩, q56⟩
/-- An append as a single operation. -/
theorem z_wanapp {o : Oper} {a : Act} {w : World} {K : Act → World → Prop} {Q : Exit → Act → World → Prop} (s x : Operand) (ho : o.op = .call { callee := .builtin .append, args := #[s, x], argTypes := #[24, 24] })
    (B : Nat) (ao : Option Addr) (n cap : Nat) (zs : List (ByteArray × Int)) (hs : a.eval s = .slice ao n cap) (hown : WOwn w B ao n cap zs)
    (ad : Addr) (us : List (ByteArray × Int)) (m c : Nat) (hm : us.length = m) (hx : a.eval x = .slice (some ad) m c) (hc : ∀ (j : Nat) (v : Value), (wvals us)[j]? = some v → w.cell? (ad.add j) = some v) (hb : n + m ≤ 1000000) (hB : B ≤ w.heap.size)
    (h : ∀ ao' cap' w', WOwn w' B ao' (n + m) cap' (zs ++ us) → w.grownBy w' (Value.slice ao n cap).ownBlock → K (a.put o.dst (.slice ao' (n + m) cap')) w') : Oper.wp Tryz.prog o a w K Q := by
  obtain ⟨i0, hi, hz0, hz1, hz2⟩ := info_parts infoW
  have hlen : (zs ++ us).length = n + m := by rw [List.length_append, hown.1, hm]
  refine wp_append_own w s x 24 ho B 88 i0 (.agg #[.string ByteArray.empty, .int .i64 0]) 2 24 Tryz.underlying24 hi hz0 hz1 hz2 rfl (by decide) (.slice ao n cap) n (wvals zs) hs hown.2 ad m c (wvals us) hx (by rw [wvals_len, hm]) hc (wvals_one1 us) (by unfold maxLen; omega) (by omega) hB ?_
  intro v' w' hv hg _
  rw [wvals_app] at hv
  obtain ⟨ao', cap', rfl, hown'⟩ := wown_open hlen hv
  exact h ao' cap' w' hown' hg
theorem St.x23 (s : St m w0 y g r b ao n cap l p d) : Sx w0 y g r b ao n cap l p { p with nam := ⟨none, 0, 0⟩ } { d with nam := [] } := by
  refine ⟨s.cur, s.blk, s.res, ⟨s.own.bod, s.own.wb, s.own.pa, s.own.wan, ⟨rfl, World.ownsRow_nil _ _ _ _⟩, s.own.cds, ?_⟩, s.gro, s.lt, s.bn, s.rn, s.rb⟩
  obtain ⟨⟨q12, q13, q14, q15, q16⟩, ⟨q23, q24, q25, q26⟩, ⟨q34, q35, q36⟩, ⟨q45, q46⟩, q56⟩ := pw6.1 s.own.dis
  exact pw6.2 ⟨⟨q12, q13, q14, dis_none_r _, q16⟩, ⟨q23, q24, dis_none_r _, q26⟩, ⟨q34, dis_none_r _, q36⟩, ⟨dis_none_r _, q46⟩, dis_none_l _⟩
theorem Sx.fin23 (s : Sx w0 y g r b ao n cap l p { p with nam := ⟨none, 0, 0⟩ } { d with nam := [] }) (hd : Pgd m p d) {a : Option Addr} {k c : Nat} {x : List ByteArray} (hx : SOwn y w0.heap.size a k c x) (hm : k ≤ m) (hX : ∀ z ∈ x, z.size ≤ 61) :
    St m w0 (y.setCell ⟨b, 23, none⟩ (.slice a k c)) g r b ao n cap l { p with nam := ⟨a, k, c⟩ } { d with nam := x } := by
  have hg : y.grownBy (y.setCell ⟨b, 23, none⟩ (.slice a k c)) (some b) := grown_set y b 23 _
  have ho := s.own.grown hg (fun k e => by cases e; exact s.own.ne s.blk)
  have hx' := hx.grown hg (fun q e he => by
    subst e
    obtain ⟨_, h1⟩ := own_ty hx.2
    exact ty_ne h1 s.blk (by decide) (by simpa using he))
  refine ⟨s.cur.keep hg (fun k e => by have := s.lt; have := s.bn; cases e; omega), heap_setCell_at s.blk 23 _, (hg.block r s.res.lt (fun e => by have := s.rb; simp at e; omega)).trans s.res, ⟨ho.bod, ho.wb, ho.pa, ho.wan, hx', ho.cds, ?_⟩, grown_new s.gro hg s.bn, s.lt, s.bn, s.rn, s.rb, ⟨hd.top, hd.cli, hd.wt, hd.us, hd.bod, hd.wb, hd.pa, hd.wan, hm, hd.cds, hd.wans, hX⟩⟩
  obtain ⟨⟨q12, q13, q14, q15, q16⟩, ⟨q23, q24, q25, q26⟩, ⟨q34, q35, q36⟩, ⟨q45, q46⟩, q56⟩ := pw6.1 s.own.dis
  exact pw6.2 ⟨⟨q12, q13, q14, (dis_ty s.own.bod.2 hx.2 (by decide)), q16⟩, ⟨q23, q24, (dis_ty s.own.wb.2 hx.2 (by decide)), q26⟩, ⟨q34, (dis_ty s.own.pa.2 hx.2 (by decide)), q36⟩, ⟨(dis_ty s.own.wan.2 hx.2 (by decide)), q46⟩, (dis_ty hx.2 s.own.cds.2 (by decide))⟩
/-- An append as a single operation. -/
theorem z_namapp {o : Oper} {a : Act} {w : World} {K : Act → World → Prop} {Q : Exit → Act → World → Prop} (s x : Operand) (ho : o.op = .call { callee := .builtin .append, args := #[s, x], argTypes := #[25, 25] })
    (B : Nat) (ao : Option Addr) (n cap : Nat) (zs : List ByteArray) (hs : a.eval s = .slice ao n cap) (hown : SOwn w B ao n cap zs)
    (ad : Addr) (us : List ByteArray) (m c : Nat) (hm : us.length = m) (hx : a.eval x = .slice (some ad) m c) (hc : ∀ (j : Nat) (v : Value), (svals us)[j]? = some v → w.cell? (ad.add j) = some v) (hb : n + m ≤ 1000000) (hB : B ≤ w.heap.size)
    (h : ∀ ao' cap' w', SOwn w' B ao' (n + m) cap' (zs ++ us) → w.grownBy w' (Value.slice ao n cap).ownBlock → K (a.put o.dst (.slice ao' (n + m) cap')) w') : Oper.wp Tryz.prog o a w K Q := by
  obtain ⟨i0, hi, hz0, hz1, hz2⟩ := info_parts info9
  have hlen : (zs ++ us).length = n + m := by rw [List.length_append, hown.1, hm]
  refine wp_append_own w s x 25 ho B 9 i0 (.string ByteArray.empty) 1 16 Tryz.underlying25 hi hz0 hz1 hz2 rfl (by decide) (.slice ao n cap) n (svals zs) hs hown.2 ad m c (svals us) hx (by rw [svals_len, hm]) hc (svals_one1 us) (by unfold maxLen; omega) (by omega) hB ?_
  intro v' w' hv hg _
  rw [svals_app] at hv
  obtain ⟨ao', cap', rfl, hown'⟩ := sown_open hlen hv
  exact h ao' cap' w' hown' hg
theorem St.x24 (s : St m w0 y g r b ao n cap l p d) : Sx w0 y g r b ao n cap l p { p with cds := ⟨none, 0, 0⟩ } { d with cds := [] } := by
  refine ⟨s.cur, s.blk, s.res, ⟨s.own.bod, s.own.wb, s.own.pa, s.own.wan, s.own.nam, ⟨rfl, World.ownsRow_nil _ _ _ _⟩, ?_⟩, s.gro, s.lt, s.bn, s.rn, s.rb⟩
  obtain ⟨⟨q12, q13, q14, q15, q16⟩, ⟨q23, q24, q25, q26⟩, ⟨q34, q35, q36⟩, ⟨q45, q46⟩, q56⟩ := pw6.1 s.own.dis
  exact pw6.2 ⟨⟨q12, q13, q14, q15, dis_none_r _⟩, ⟨q23, q24, q25, dis_none_r _⟩, ⟨q34, q35, dis_none_r _⟩, ⟨q45, dis_none_r _⟩, dis_none_r _⟩
theorem Sx.fin24 (s : Sx w0 y g r b ao n cap l p { p with cds := ⟨none, 0, 0⟩ } { d with cds := [] }) (hd : Pgd m p d) {a : Option Addr} {k c : Nat} {x : List Int} (hx : IOwn y w0.heap.size a k c x) (hm : k ≤ m) :
    St m w0 (y.setCell ⟨b, 24, none⟩ (.slice a k c)) g r b ao n cap l { p with cds := ⟨a, k, c⟩ } { d with cds := x } := by
  have hg : y.grownBy (y.setCell ⟨b, 24, none⟩ (.slice a k c)) (some b) := grown_set y b 24 _
  have ho := s.own.grown hg (fun k e => by cases e; exact s.own.ne s.blk)
  have hx' := hx.grown hg (fun q e he => by
    subst e
    obtain ⟨_, h1⟩ := own_ty hx.2
    exact ty_ne h1 s.blk (by decide) (by simpa using he))
  refine ⟨s.cur.keep hg (fun k e => by have := s.lt; have := s.bn; cases e; omega), heap_setCell_at s.blk 24 _, (hg.block r s.res.lt (fun e => by have := s.rb; simp at e; omega)).trans s.res, ⟨ho.bod, ho.wb, ho.pa, ho.wan, ho.nam, hx', ?_⟩, grown_new s.gro hg s.bn, s.lt, s.bn, s.rn, s.rb, ⟨hd.top, hd.cli, hd.wt, hd.us, hd.bod, hd.wb, hd.pa, hd.wan, hd.nam, hm, hd.wans, hd.nams⟩⟩
  obtain ⟨⟨q12, q13, q14, q15, q16⟩, ⟨q23, q24, q25, q26⟩, ⟨q34, q35, q36⟩, ⟨q45, q46⟩, q56⟩ := pw6.1 s.own.dis
  exact pw6.2 ⟨⟨q12, q13, q14, q15, (dis_ty s.own.bod.2 hx.2 (by decide))⟩, ⟨q23, q24, q25, (dis_ty s.own.wb.2 hx.2 (by decide))⟩, ⟨q34, q35, (dis_ty s.own.pa.2 hx.2 (by decide))⟩, ⟨q45, (dis_ty s.own.wan.2 hx.2 (by decide))⟩, (dis_ty s.own.nam.2 hx.2 (by decide))⟩
/-- An append as a single operation. -/
theorem z_cdsapp {o : Oper} {a : Act} {w : World} {K : Act → World → Prop} {Q : Exit → Act → World → Prop} (s x : Operand) (ho : o.op = .call { callee := .builtin .append, args := #[s, x], argTypes := #[26, 26] })
    (B : Nat) (ao : Option Addr) (n cap : Nat) (zs : List Int) (hs : a.eval s = .slice ao n cap) (hown : IOwn w B ao n cap zs)
    (ad : Addr) (us : List Int) (m c : Nat) (hm : us.length = m) (hx : a.eval x = .slice (some ad) m c) (hc : ∀ (j : Nat) (v : Value), (ivals us)[j]? = some v → w.cell? (ad.add j) = some v) (hb : n + m ≤ 1000000) (hB : B ≤ w.heap.size)
    (h : ∀ ao' cap' w', IOwn w' B ao' (n + m) cap' (zs ++ us) → w.grownBy w' (Value.slice ao n cap).ownBlock → K (a.put o.dst (.slice ao' (n + m) cap')) w') : Oper.wp Tryz.prog o a w K Q := by
  obtain ⟨i0, hi, hz0, hz1, hz2⟩ := info_parts info3
  have hlen : (zs ++ us).length = n + m := by rw [List.length_append, hown.1, hm]
  refine wp_append_own w s x 26 ho B 3 i0 (.int .i64 0) 1 8 Tryz.underlying26 hi hz0 hz1 hz2 rfl (by decide) (.slice ao n cap) n (ivals zs) hs hown.2 ad m c (ivals us) hx (by rw [ivals_len, hm]) hc (ivals_one1 us) (by unfold maxLen; omega) (by omega) hB ?_
  intro v' w' hv hg _
  rw [ivals_app] at hv
  obtain ⟨ao', cap', rfl, hown'⟩ := iown_open hlen hv
  exact h ao' cap' w' hown' hg
end
end Go.Proofs.YtccjiicjlifmiaaGreatDoor
