/- What fits what: the program's side. -/
import Derived.Test.YtdjbaieaelhhiaaDoorMatD
import Derived.Test.YtdjbaieaelhhiaaDoorSMark
import Derived.Test.YtdjbaieaelhhiaaDoorMatP
set_option linter.unusedVariables false
set_option linter.unusedSimpArgs false
namespace Go.Proofs.YtdjbaieaelhhiaaDoor
open Go.RowKit

/-- A wanted level against another. -/
theorem fit_ifits (x y : ByteArray) (w : World) :
    Calls Tryd.prog 54 #[.string x, .string y] w fun e w' => e = .returned (.bool (fit1 x.data.toList y.data.toList)) ∧ w' = w := by
  have HF : Hid (fit1 x.data.toList y.data.toList = _) := fit1_or _ _
  by_cases hxy : x.data.toList = y.data.toList
  · have F : Hid (fit1 x.data.toList y.data.toList = true) := by unfold Hid; rw [HF.out, decide_eq_true hxy]; rfl
    have e4 : (x.toList == y.toList) = true := by rw [ByteArray.toList_eq, ByteArray.toList_eq, hxy]; simp
    clear hxy
    go_enter Tryd.func54, Tryd.ntmps54
    go_wp2
    go_ret
    exact ⟨ret_bool F.out.symm, rfl⟩
  · have e4 : (x.toList == y.toList) = false := by rw [ByteArray.toList_eq, ByteArray.toList_eq]; exact beq_eq_false_iff_ne.2 hxy
    by_cases h43 : x.data.toList = [43]
    · have e3 := text_is h43
      by_cases hy : y.data.toList = [35]
      · have F : Hid (fit1 x.data.toList y.data.toList = false) := by unfold Hid; rw [HF.out, decide_eq_false hxy, decide_eq_true h43]; simp [hy]
        have e5 := text_is hy
        clear hxy h43 hy
        go_enter Tryd.func54, Tryd.ntmps54
        go_wp2
        go_ret
        exact ⟨ret_bool F.out.symm, rfl⟩
      · have F : Hid (fit1 x.data.toList y.data.toList = true) := by unfold Hid; rw [HF.out, decide_eq_false hxy, decide_eq_true h43]; simp [hy]
        have e5 := text_not hy
        clear hxy h43 hy
        go_enter Tryd.func54, Tryd.ntmps54
        go_wp2
        go_ret
        exact ⟨ret_bool F.out.symm, rfl⟩
    · have e3 := text_not h43
      have F : Hid (fit1 x.data.toList y.data.toList = false) := by unfold Hid; rw [HF.out, decide_eq_false hxy, decide_eq_false h43]; rfl
      clear hxy h43
      go_enter Tryd.func54, Tryd.ntmps54
      go_wp2
      go_ret
      exact ⟨ret_bool F.out.symm, rfl⟩

theorem infoW : (Tryd.prog.info? 52).map (fun i => (i.zero, i.size, i.bytes)) = some (some (.string ByteArray.empty), 1, 16) := by kernel_rfl

/-- The wanted levels, owned. -/
def LOwn (w : World) (B : Nat) (ao : Option Addr) (n cap : Nat) (ss : List ByteArray) : Prop := ss.length = n ∧ w.ownsRow B 52 1 (.slice ao n cap) n (svals ss)
theorem LOwn.nil (w : World) (B : Nat) : LOwn w B none 0 0 [] := ⟨rfl, rfl, .inl ⟨rfl, rfl⟩⟩
theorem LOwn.rd {w : World} {B : Nat} {ao : Option Addr} {n cap : Nat} {ss : List ByteArray} (h : LOwn w B ao n cap ss) : SRd w ao n cap ss := by
  obtain ⟨hl, h1, h2⟩ := h
  rcases h2 with ⟨e, rfl⟩ | ⟨g, c, cur, e, hb, hg, hc, hm, hs, ht⟩
  · simp only [Value.slice.injEq] at e
    obtain ⟨rfl, _, rfl⟩ := e
    exact ⟨⟨hl, fun i hi => by omega⟩, Nat.le_refl _, Nat.zero_le _, fun _ => rfl⟩
  · simp only [Value.slice.injEq] at e
    obtain ⟨rfl, _, rfl⟩ := e
    refine ⟨⟨hl, fun i hi => ⟨g, 0, rfl, ?_⟩⟩, hc, hm, fun h => by simp at h⟩
    have own : w.ownsRow B 52 1 (.slice (some ⟨g, 0, none⟩) n cap) n (svals ss) := ⟨h1, .inr ⟨g, cap, cur, rfl, hb, hg, hc, hm, hs, ht⟩⟩
    rw [Nat.zero_add, own.cellAt i (by omega), svals_at ss i (by omega)]
theorem LOwn.below {w w' : World} {B : Nat} {ao : Option Addr} {n cap : Nat} {ss : List ByteArray} (h : LOwn w B ao n cap ss) (hb : Below w.heap.size w w') : LOwn w' B ao n cap ss := by
  refine ⟨h.1, h.2.1, ?_⟩
  rcases h.2.2 with hn | ⟨g, c, cur, e, hB, hg, rest⟩
  · exact .inl hn
  · exact .inr ⟨g, c, cur, e, hB, by rw [hb.block g (Array.getElem?_eq_some_iff.1 hg).1]; exact hg, rest⟩
theorem LOwn.head {w : World} {B : Nat} {ao : Option Addr} {n cap : Nat} {ss : List ByteArray} (h : LOwn w B ao n cap ss) (hn : 0 < n) : ∃ g, ao = some ⟨g, 0, none⟩ := by
  rcases h.2.2 with ⟨_, h0⟩ | ⟨g, c, cur, e, _⟩
  · omega
  · simp only [Value.slice.injEq] at e; exact ⟨g, e.1⟩
theorem lown_open {w : World} {B : Nat} {v : Value} {n : Nat} {ss : List ByteArray} (hl : ss.length = n) (h : w.ownsRow B 52 1 v n (svals ss)) : ∃ ao cap, v = .slice ao n cap ∧ LOwn w B ao n cap ss := by
  rcases h.2 with ⟨rfl, rfl⟩ | ⟨g, c, cur, rfl, _⟩
  · exact ⟨none, 0, rfl, hl, h⟩
  · exact ⟨_, _, rfl, hl, h⟩
theorem lbelow_grow {w w1 w2 : World} {B : Nat} {ao : Option Addr} {n cap : Nat} {ss : List ByteArray} (hb : Below B w w1) (hB : B ≤ w1.heap.size) (ho : LOwn w1 B ao n cap ss) (hg : w1.grownBy w2 (Value.slice ao n cap).ownBlock) : Below B w w2 :=
  hb.grown hg hB (fun k hk => by
    cases ao with
    | none => cases hk
    | some a => cases hk; exact (ho.2.lt _ rfl).1)

/-- 'append(s, x)', s owned, x in a row of one wanted level of its own. -/
theorem w_lapp {ops : Array Oper} {rest : List Oper} {o : Oper} {a : Act} {Q : Exit → Act → World → Prop} (w : World) (hgd : o.guard = none) (s x : Operand)
    (ho : o.op = .call { callee := .builtin .append, args := #[s, x], argTypes := #[50, 50] })
    (B : Nat) (ao : Option Addr) (n cap : Nat) (ss : List ByteArray) (hs : a.eval s = .slice ao n cap) (hown : LOwn w B ao n cap ss)
    (ad : Nat) (u : ByteArray) (hx : a.eval x = .slice (some ⟨ad, 0, none⟩) 1 1) (hc : w.cell? ⟨ad, 0, none⟩ = some (.string u)) (hb : n < 1099511627776) (hB : B ≤ w.heap.size)
    (h : ∀ ao' cap' w', LOwn w' B ao' (n + 1) cap' (ss ++ [u]) → w.grownBy w' (Value.slice ao n cap).ownBlock → wpList Tryd.prog ops Q rest (a.put o.dst (.slice ao' (n + 1) cap')) w') :
    wpList Tryd.prog ops Q (o :: rest) a w := by
  obtain ⟨i0, hi, hz0, hz1, hz2⟩ := info_parts infoW
  have hlen : (ss ++ [u]).length = n + 1 := by rw [List.length_append, hown.1]; rfl
  refine wpList_append_own w hgd s x 50 ho B 52 i0 (.string ByteArray.empty) 1 16 Tryd.underlying50 hi hz0 hz1 hz2 rfl (by decide) (.slice ao n cap) n (svals ss) hs hown.2 ⟨ad, 0, none⟩ 1 1 [.string u] hx rfl ?_ (by intro v hv; simp at hv; subst hv; rfl) (by unfold maxLen; omega) (by omega) hB ?_
  · intro j v hv
    match j, hv with
    | 0, hv =>
      simp at hv
      subst hv
      exact hc
  · intro v' w' hv hg _
    have e : svals ss ++ [.string u] = svals (ss ++ [u]) := by simp [svals]
    rw [e] at hv
    obtain ⟨ao', cap', rfl, hown'⟩ := lown_open hlen hv
    exact h ao' cap' w' hown' hg

theorem take_snoc_st (ss : List ByteArray) (k : Nat) (h : k < ss.length) : ss.take k ++ [st ss k] = ss.take (k + 1) := by
  rw [List.take_succ_eq_append_getElem h]
  simp [st, List.getD_eq_getElem?_getD, List.getElem?_eq_getElem h]

set_option maxHeartbeats 1000000 in
/-- impl.wantedLevels. -/
theorem wan_iwantedLevels (s : ByteArray) (n : Nat) (w : World) (hs : s.size ≤ 1048576) (hN : (lvl s.data.toList).length = n) :
    Calls Tryd.prog 52 #[.string s] w fun e w' => ∃ ao cap, e = .returned (.slice ao n cap) ∧ SRd w' ao n cap (lvs s.data.toList) ∧ Below w.heap.size w w' := by
  have hle : n ≤ s.size + 1 := by rw [← hN]; exact lvl_length_le s.data.toList
  have HV : Hid ((lvs s.data.toList).length = n) := by unfold Hid; rw [lvs_length]; exact hN
  have c := lev_iLevels s n w hs hN
  clear hN
  generalize lvs s.data.toList = ss at *
  go_enter Tryd.func52, Tryd.ntmps52
  go_wp2_with fail
  refine c.mono ?_
  rintro e w1 ⟨rfl, ho1, hb1⟩
  have hr1 := ho1.rd
  clear c ho1
  go_wp2
  go_loopw [3, 9] (fun o i wr => ∃ (k c : Nat) (a : Option Addr), i = .int .i64 k ∧ o = .slice a k c ∧ k ≤ n ∧ LOwn wr w1.heap.size a k c (ss.take k) ∧ Below w1.heap.size w1 wr) (fun _ i _ => n - (intOf i).toNat)
  case atStart => exact ⟨0, 0, none, rfl, rfl, Nat.zero_le _, LOwn.nil _ _, Below.refl _ _⟩
  case round =>
    obtain ⟨k, c, a, rfl, rfl, hk, ho, hb⟩ := hrel
    have hsz := hb1.size
    have hsz2 := hb.size
    by_cases hlt : k < n
    · obtain ⟨b, off, e, hc⟩ := hr1.1.2 k hlt
      have e := e
      simp only [Option.some.injEq, Addr.mk.injEq, and_true] at e
      obtain ⟨rfl, rfl⟩ := e
      have hck := (hb.cell (World.block_lt_of_cell? w1 _ hc)).trans hc
      rw [Nat.zero_add] at hck
      have hlt' : (k : Int) < n := by omega
      have HT : Hid (ss.take k ++ [st ss k] = ss.take (k + 1)) := take_snoc_st ss k (by rw [HV.out]; exact hlt)
      generalize st ss k = x at hck HT
      clear hc
      go_wp2_with (at_builtin; refine w_lapp _ rfl _ _ rfl w1.heap.size a k c (ss.take k) rfl (ho.below ((Below.refl _ _).alloc (Nat.le_refl _) _)) wr.heap.size x rfl (new_cell _ _ _) (by omega) (by simp; omega) ?_)
      intro a' c' w' ho' hg'
      rw [HT.out] at ho'
      have hb' : Below w1.heap.size w1 w' := lbelow_grow (hb.alloc hb.size _) (by have := hb.size; simp; omega) (ho.below ((Below.refl _ _).alloc (Nat.le_refl _) _)) hg'
      clear hg'
      go_wp2
      go_roundw
      case rel => exact ⟨k + 1, c', a', by go_num, rfl, by omega, ho', hb'⟩
      case measure => simp [intOf] <;> omega
    · have hlt' : ¬ (k : Int) < n := by omega
      obtain rfl : k = n := by omega
      rw [List.take_of_length_le (by rw [HV.out]; exact Nat.le_refl _)] at ho
      go_wp2
      go_ret
      exact ⟨a, c, rfl, ho.rd, bel2 hb1 hb⟩

set_option maxHeartbeats 1000000 in
/-- slices.EqualFunc of wanted levels and levels. -/
theorem equ_x (ao a1 : Option Addr) (n cap m cap1 : Nat) (fs gs : List ByteArray) (w : World) (hr : SRd w ao n cap fs) (h1 : SRd w a1 m cap1 gs) (hn : n ≤ 1048577) (hm : m ≤ 1048577) :
    Calls Tryd.prog 53 #[.slice ao n cap, .slice a1 m cap1, .func (.func 54) #[] #[]] w fun e w' => e = .returned (.bool (eqF (dats fs) (dats gs))) ∧ Below w.heap.size w w' := by
  have HF : Hid (fs.length = n) := hr.1.1
  have HG : Hid (gs.length = m) := h1.1.1
  by_cases hnm : n = m
  · subst hnm
    have hne : ((n : Int) != n) = false := by simp
    go_enter Tryd.func53, Tryd.ntmps53
    go_wp2
    go_loopw [17] (fun i wr => ∃ k : Nat, i = .int .i64 k ∧ k ≤ n ∧ eqF (dats fs) (dats gs) = eqF ((dats fs).drop k) ((dats gs).drop k) ∧ Below w.heap.size w wr) (fun i _ => n - (intOf i).toNat)
    case atStart => exact ⟨0, rfl, Nat.zero_le _, rfl, Below.refl _ _⟩
    case round =>
      obtain ⟨k, rfl, hk, hfit, hb⟩ := hrel
      have HK : Hid (eqF (dats fs) (dats gs) = eqF ((dats fs).drop k) ((dats gs).drop k)) := hfit
      clear hfit
      by_cases hlt : k < n
      · obtain ⟨b, off, e, hc⟩ := hr.1.2 k hlt
        subst e
        obtain ⟨b1, off1, e1, hc1⟩ := h1.1.2 k hlt
        subst e1
        have hck : wr.cell? ⟨b, off + k, none⟩ = some (.string (st fs k)) := (hb.cell (World.block_lt_of_cell? w _ hc)).trans hc
        have hck1 : wr.cell? ⟨b1, off1 + k, none⟩ = some (.string (st gs k)) := (hb.cell (World.block_lt_of_cell? w _ hc1)).trans hc1
        have hlt' : (k : Int) < n := by omega
        have k0 : (0 : Int) ≤ k := by omega
        have hx := dats_nth HF.out hlt
        have hy := dats_nth HG.out hlt
        have hstep := eqF_step (dats fs) (dats gs) k (by rw [dats_length, HF.out]; exact hlt) (by rw [dats_length, HG.out]; exact hlt)
        rw [hx, hy] at hstep
        have HS : Hid (eqF ((dats fs).drop k) ((dats gs).drop k) = (fit1 (st fs k).data.toList (st gs k).data.toList && eqF ((dats fs).drop (k + 1)) ((dats gs).drop (k + 1)))) := hstep
        have cm := fit_ifits (st fs k) (st gs k) wr
        clear hc hc1 hx hy hstep
        cases hv : fit1 (st fs k).data.toList (st gs k).data.toList with
        | false =>
          rw [hv] at cm
          have F : Hid (eqF (dats fs) (dats gs) = false) := by unfold Hid; rw [HK.out, HS.out, hv]; rfl
          clear hv
          go_wp2_with fail
          refine cm.mono ?_
          rintro e w3 ⟨rfl, hw3⟩
          rw [hw3]
          go_wp2
          go_ret
          exact ⟨ret_bool F.out.symm, hb⟩
        | true =>
          rw [hv] at cm
          have G : Hid (eqF (dats fs) (dats gs) = eqF ((dats fs).drop (k + 1)) ((dats gs).drop (k + 1))) := by unfold Hid; rw [HK.out, HS.out, hv]; rfl
          clear hv
          go_wp2_with fail
          refine cm.mono ?_
          rintro e w3 ⟨rfl, hw3⟩
          rw [hw3]
          go_wp2
          go_roundw
          case rel => exact ⟨k + 1, by go_num, by omega, G.out, hb⟩
          case measure => simp [intOf] <;> omega
      · have hlt' : ¬ (k : Int) < n := by omega
        obtain rfl : k = n := by omega
        have F : Hid (eqF (dats fs) (dats gs) = true) := by unfold Hid; rw [HK.out]; exact eqF_end _ _ _ (by rw [dats_length, HF.out]; exact Nat.le_refl _) (by rw [dats_length, HG.out]; exact Nat.le_refl _)
        go_wp2
        go_ret
        exact ⟨ret_bool F.out.symm, hb⟩
  · have hne : ((n : Int) != m) = true := by simp [bne_iff_ne]; omega
    have F : Hid (eqF (dats fs) (dats gs) = false) := eqF_len _ _ (by rw [dats_length, dats_length, HF.out, HG.out]; exact hnm)
    go_enter Tryd.func53, Tryd.ntmps53
    go_wp2
    go_ret
    exact ⟨ret_bool F.out.symm, Below.refl _ _⟩

/-- impl.beginsWild. -/
theorem beg_ibeginsWild (s : ByteArray) (w : World) (hs : s.size ≤ 1048576) :
    Calls Tryd.prog 51 #[.string s] w fun e w' => e = .returned (.bool (looseB s.data.toList)) ∧ Below w.heap.size w w' := by
  go_enter Tryd.func51, Tryd.ntmps51
  go_wp2_with fail
  refine (any_all s w hs).mono ?_
  rintro e w1 ⟨q, rfl, _, hq, hb⟩
  have HQ : Hid ((q == 0) = looseB s.data.toList) := hq
  clear hq
  go_wp2
  go_ret
  exact ⟨ret_bool HQ.out, hb⟩

theorem SRd.front {w : World} {ao : Option Addr} {n cap : Nat} {ss : List ByteArray} (h : SRd w ao n cap ss) (k : Nat) (hk : k ≤ n) : SRd w ao k cap (ss.take k) := by
  obtain ⟨⟨hl, hc⟩, h2, h3, h4⟩ := h
  refine ⟨⟨by rw [List.length_take]; omega, fun i hi => ?_⟩, by omega, h3, h4⟩
  obtain ⟨b, off, e, hcell⟩ := hc i (by omega)
  refine ⟨b, off, e, ?_⟩
  rw [hcell]
  simp only [st, List.getD_eq_getElem?_getD, List.getElem?_take, hi, if_true]
theorem dats_take (ss : List ByteArray) (k : Nat) : dats (ss.take k) = (dats ss).take k := by simp [dats, List.map_take]

/-- s[:k] of wanted levels, and of levels. -/
theorem cut_wanted (ao : Option Addr) (n cap k : Nat) (h : k ≤ cap) (w' : World) : (Instr.slice 50 (.slice ao n cap) none (some (.int .i64 (k : Int))) none).run Tryd.prog w' = .ok (.slice ao k cap) w' := by
  have he : Tryd.prog.elem 50 = 52 := by kernel_rfl
  have ht : Tryd.prog.underlying 50 = some (.slice (Tryd.prog.elem 50)) := by rw [he]; exact Tryd.underlying50
  obtain ⟨i0, hi, hz0, hz1, hz2⟩ := info_parts infoW
  have h := run_slice_h (P := Tryd.prog) w' 50 ao n cap ht .i64 (k : Int) (by omega) (by omega)
  rw [h, he]
  simp [sizeOf, typeInfo, Sem.run_bind, Sem.run_pure, hi, hz1, Result.andThen, sliced]
  intro _
  cases ao with
  | none => rfl
  | some a => obtain ⟨b, off, sp⟩ := a; simp [Addr.add]
theorem cut_levels (ao : Option Addr) (n cap k : Nat) (h : k ≤ cap) (w' : World) : (Instr.slice 28 (.slice ao n cap) none (some (.int .i64 (k : Int))) none).run Tryd.prog w' = .ok (.slice ao k cap) w' := by
  have he : Tryd.prog.elem 28 = 9 := by kernel_rfl
  have ht : Tryd.prog.underlying 28 = some (.slice (Tryd.prog.elem 28)) := by rw [he]; exact Tryd.underlying28
  obtain ⟨i0, hi, hz0, hz1, hz2⟩ := info_parts info9
  have h := run_slice_h (P := Tryd.prog) w' 28 ao n cap ht .i64 (k : Int) (by omega) (by omega)
  rw [h, he]
  simp [sizeOf, typeInfo, Sem.run_bind, Sem.run_pure, hi, hz1, Result.andThen, sliced]
  intro _
  cases ao with
  | none => rfl
  | some a => obtain ⟨b, off, sp⟩ := a; simp [Addr.add]

set_option maxHeartbeats 2000000 in
/-- impl.fitsLevels, of a filter. -/
theorem fit_ifitsLevels (f t : ByteArray) (w : World) (hf : f.size ≤ 1048576) (ht : t.size ≤ 1048576) (hm : mayAll (lvl f.data.toList) = true) :
    Calls Tryd.prog 36 #[.string f, .string t] w fun e w' => e = .returned (.bool (!(looseB f.data.toList && hidB t.data.toList) && fits (lvl f.data.toList) (lvl t.data.toList))) ∧ Below w.heap.size w w' := by
  obtain ⟨n, hN⟩ : ∃ n, (lvl f.data.toList).length = n := ⟨_, rfl⟩
  obtain ⟨m, hM⟩ : ∃ m, (lvl t.data.toList).length = m := ⟨_, rfl⟩
  have hn : n ≤ f.size + 1 := by rw [← hN]; exact lvl_length_le _
  have hm' : m ≤ t.size + 1 := by rw [← hM]; exact lvl_length_le _
  have hn0 : 0 < n := by rw [← hN]; exact List.length_pos_iff.2 (lvl_ne _)
  obtain ⟨q, hq⟩ : ∃ q, n = q + 1 := ⟨n - 1, by omega⟩
  have hq1 : (n : Int) - 1 = (q : Int) := by omega
  have HQ : Hid ((lvl f.data.toList).length = q + 1) := hN.trans hq
  have hqn : q < n := by omega
  have HN : Hid ((lvl f.data.toList).length = n) := hN
  have HM : Hid ((lvl t.data.toList).length = m) := hM
  have HX : Hid ((st (lvs f.data.toList) q).data.toList = (lvl f.data.toList).getD q []) := lvs_at _ _ (by rw [hN]; exact hqn)
  clear hN hM hq
  have cL := fun w => beg_ibeginsWild f w hf
  have cH := fun w => hid_iHidden' t w
  obtain ⟨A, hA⟩ : ∃ A, (!(looseB f.data.toList && hidB t.data.toList) && fits (lvl f.data.toList) (lvl t.data.toList)) = A := ⟨_, rfl⟩
  rw [hA]
  cases h4 : looseB f.data.toList with
  | false =>
    rw [h4] at cL hA
    have HA : Hid (fits (lvl f.data.toList) (lvl t.data.toList) = A) := hA
    clear h4 hA cH
    go_enter Tryd.func36, Tryd.ntmps36
    go_wp2_with fail
    refine (cL w).mono ?_
    rintro e w2 ⟨rfl, hb2⟩
    go_wp2_with fail
    refine (wan_iwantedLevels f n w2 hf HN.out).mono ?_
    rintro e w3 ⟨ao, cap, rfl, hr3, hb3⟩
    go_wp2_with fail
    refine (lev_iLevels t m w3 ht HM.out).mono ?_
    rintro e w4 ⟨rfl, ho4, hb4⟩
    have hr5 := hr3.below hb4
    have hr4 := ho4.rd
    have hb24 := bel2 hb2 (bel2 hb3 hb4)
    clear hr3 ho4 hb3 hb4 hb2
    obtain ⟨b, off, e, hc⟩ := hr5.1.2 q (by omega)
    subst e
    have hcq := hr5.2.1
    by_cases h35 : (lvl f.data.toList).getD q [] = [35]
    · have e1 := text_is (HX.out.trans h35)
      have FL := fits_last (lvl t.data.toList) hm HQ.out h35
      rw [HM.out] at FL
      by_cases hmq : m < q
      · have hmq' : (m : Int) < q := by omega
        have F : Hid (A = false) := by unfold Hid; rw [← HA.out, FL, decide_eq_false (by omega)]; rfl
        clear FL h35
        go_wp2
        go_ret
        exact ⟨ret_bool F.out.symm, hb24⟩
      · have hmq' : ¬ (m : Int) < q := by omega
        have F : Hid (eqF (dats ((lvs f.data.toList).take q)) (dats ((lvs t.data.toList).take q)) = A) := by unfold Hid; rw [← HA.out, FL, decide_eq_true (by omega), dats_take, dats_take, dats_lvs, dats_lvs]; rfl
        have hs1 := cut_wanted (some ⟨b, off, none⟩) n cap q (by omega)
        have hs2 := cut_levels (some ⟨w3.heap.size, 0, none⟩) m m q (by omega)
        have hf1 := hr5.front q (by omega)
        have hf2 := hr4.front q (by omega)
        clear FL h35
        go_wp2
        go_quiet (fail)
        go_wp2_with fail
        refine (equ_x _ _ q cap q m _ _ _ (hf1.below (below_drewN (Below.refl _ _) _)) (hf2.below (below_drewN (Below.refl _ _) _)) (by omega) (by omega)).mono ?_
        rintro e w7 ⟨he, hb7⟩
        rw [F.out] at he
        subst he
        go_wp2
        go_ret
        exact ⟨rfl, bel2 hb24 (bel2 (below_drewN (Below.refl _ _) _) hb7)⟩
    · have e1 := text_not (fun e => h35 (HX.out.symm.trans e))
      have F : Hid (eqF (dats (lvs f.data.toList)) (dats (lvs t.data.toList)) = A) := by unfold Hid; rw [← HA.out, fits_full (lvl t.data.toList) hm HQ.out h35, dats_lvs, dats_lvs]
      clear h35
      go_wp2_with fail
      refine (equ_x _ _ n cap m m _ _ w4 hr5 hr4 (by omega) (by omega)).mono ?_
      rintro e w7 ⟨he, hb7⟩
      rw [F.out] at he
      subst he
      go_wp2
      go_ret
      exact ⟨rfl, bel2 hb24 hb7⟩
  | true =>
    rw [h4] at cL hA
    cases h5 : hidB t.data.toList with
    | true =>
      rw [h5] at cH hA
      have HA : Hid (A = false) := hA.symm
      clear h4 h5 hA
      go_enter Tryd.func36, Tryd.ntmps36
      go_wp2_with fail
      refine (cL w).mono ?_
      rintro e w1 ⟨rfl, hb1⟩
      go_wp2_with fail
      refine (cH w1).mono ?_
      rintro e w2 ⟨rfl, hw2⟩
      rw [hw2]
      go_wp2
      go_ret
      exact ⟨ret_bool HA.out.symm, hb1⟩
    | false =>
      rw [h5] at cH hA
      have HA : Hid (fits (lvl f.data.toList) (lvl t.data.toList) = A) := hA
      clear h4 h5 hA
      go_enter Tryd.func36, Tryd.ntmps36
      go_wp2_with fail
      refine (cL w).mono ?_
      rintro e w2 ⟨rfl, hb2⟩
      go_wp2_with fail
      refine (cH w2).mono ?_
      rintro e w2' ⟨rfl, hw2⟩
      rw [hw2]
      go_wp2_with fail
      refine (wan_iwantedLevels f n w2 hf HN.out).mono ?_
      rintro e w3 ⟨ao, cap, rfl, hr3, hb3⟩
      go_wp2_with fail
      refine (lev_iLevels t m w3 ht HM.out).mono ?_
      rintro e w4 ⟨rfl, ho4, hb4⟩
      have hr5 := hr3.below hb4
      have hr4 := ho4.rd
      have hb24 := bel2 hb2 (bel2 hb3 hb4)
      clear hr3 ho4 hb3 hb4 hb2
      obtain ⟨b, off, e, hc⟩ := hr5.1.2 q (by omega)
      subst e
      have hcq := hr5.2.1
      by_cases h35 : (lvl f.data.toList).getD q [] = [35]
      · have e1 := text_is (HX.out.trans h35)
        have FL := fits_last (lvl t.data.toList) hm HQ.out h35
        rw [HM.out] at FL
        by_cases hmq : m < q
        · have hmq' : (m : Int) < q := by omega
          have F : Hid (A = false) := by unfold Hid; rw [← HA.out, FL, decide_eq_false (by omega)]; rfl
          clear FL h35
          go_wp2
          go_ret
          exact ⟨ret_bool F.out.symm, hb24⟩
        · have hmq' : ¬ (m : Int) < q := by omega
          have F : Hid (eqF (dats ((lvs f.data.toList).take q)) (dats ((lvs t.data.toList).take q)) = A) := by unfold Hid; rw [← HA.out, FL, decide_eq_true (by omega), dats_take, dats_take, dats_lvs, dats_lvs]; rfl
          have hs1 := cut_wanted (some ⟨b, off, none⟩) n cap q (by omega)
          have hs2 := cut_levels (some ⟨w3.heap.size, 0, none⟩) m m q (by omega)
          have hf1 := hr5.front q (by omega)
          have hf2 := hr4.front q (by omega)
          clear FL h35
          go_wp2
          go_quiet (fail)
          go_wp2_with fail
          refine (equ_x _ _ q cap q m _ _ _ (hf1.below (below_drewN (Below.refl _ _) _)) (hf2.below (below_drewN (Below.refl _ _) _)) (by omega) (by omega)).mono ?_
          rintro e w7 ⟨he, hb7⟩
          rw [F.out] at he
          subst he
          go_wp2
          go_ret
          exact ⟨rfl, bel2 hb24 (bel2 (below_drewN (Below.refl _ _) _) hb7)⟩
      · have e1 := text_not (fun e => h35 (HX.out.symm.trans e))
        have F : Hid (eqF (dats (lvs f.data.toList)) (dats (lvs t.data.toList)) = A) := by unfold Hid; rw [← HA.out, fits_full (lvl t.data.toList) hm HQ.out h35, dats_lvs, dats_lvs]
        clear h35
        go_wp2_with fail
        refine (equ_x _ _ n cap m m _ _ w4 hr5 hr4 (by omega) (by omega)).mono ?_
        rintro e w7 ⟨he, hb7⟩
        rw [F.out] at he
        subst he
        go_wp2
        go_ret
        exact ⟨rfl, bel2 hb24 hb7⟩

/-- impl.Match. -/
theorem mat_iMatch (f t : ByteArray) (w : World) (hf : f.size ≤ 1048576) (ht : t.size ≤ 1048576) :
    Calls Tryd.prog 11 #[.string f, .string t] w fun e w' => e = .returned (.bool (matchB f.data.toList t.data.toList)) ∧ Below w.heap.size w w' := by
  have HM : Hid (matchB f.data.toList t.data.toList = (filOk f.data.toList && (topOk t.data.toList && (!(looseB f.data.toList && hidB t.data.toList) && fits (lvl f.data.toList) (lvl t.data.toList))))) := rfl
  have cF := fun w => fil_iFilterOk f w hf
  have cT := fun w => top_iTopicOk t w ht
  cases h1 : filOk f.data.toList with
  | false =>
    have F : Hid (matchB f.data.toList t.data.toList = false) := by unfold Hid; rw [HM.out, h1]; rfl
    rw [h1] at cF
    clear h1
    go_enter Tryd.func11, Tryd.ntmps11
    go_wp2_with fail
    refine (cF w).mono ?_
    rintro e w1 ⟨rfl, hb1⟩
    go_wp2
    go_ret
    exact ⟨ret_bool F.out.symm, hb1⟩
  | true =>
    rw [h1] at cF
    cases h2 : topOk t.data.toList with
    | false =>
      have F : Hid (matchB f.data.toList t.data.toList = false) := by unfold Hid; rw [HM.out, h1, h2]; rfl
      rw [h2] at cT
      clear h1 h2
      go_enter Tryd.func11, Tryd.ntmps11
      go_wp2_with fail
      refine (cF w).mono ?_
      rintro e w1 ⟨rfl, hb1⟩
      go_wp2_with fail
      refine (cT w1).mono ?_
      rintro e w2 ⟨rfl, hb2⟩
      go_wp2
      go_ret
      exact ⟨ret_bool F.out.symm, bel2 hb1 hb2⟩
    | true =>
      have hm : mayAll (lvl f.data.toList) = true := by
        have := h1
        simp only [filOk, Bool.and_eq_true] at this
        exact this.2
      have F : Hid ((!(looseB f.data.toList && hidB t.data.toList) && fits (lvl f.data.toList) (lvl t.data.toList)) = matchB f.data.toList t.data.toList) := by unfold Hid; rw [HM.out, h1, h2]; rfl
      have cI := fun w => fit_ifitsLevels f t w hf ht hm
      rw [F.out] at cI
      rw [h2] at cT
      clear h1 h2 hm
      generalize matchB f.data.toList t.data.toList = A at *
      go_enter Tryd.func11, Tryd.ntmps11
      go_wp2_with fail
      refine (cF w).mono ?_
      rintro e w1 ⟨rfl, hb1⟩
      go_wp2_with fail
      refine (cT w1).mono ?_
      rintro e w2 ⟨rfl, hb2⟩
      go_wp2_with fail
      refine (cI w2).mono ?_
      rintro e w3 ⟨rfl, hb3⟩
      go_wp2
      go_ret
      exact ⟨rfl, bel2 hb1 (bel2 hb2 hb3)⟩

/-- impl.Covers. -/
theorem cov_iCovers (f t : ByteArray) (w : World) (hf : f.size ≤ 1048576) (ht : t.size ≤ 1048576) :
    Calls Tryd.prog 18 #[.string f, .string t] w fun e w' => e = .returned (.bool (covB f.data.toList t.data.toList)) ∧ Below w.heap.size w w' := by
  have HM : Hid (covB f.data.toList t.data.toList = (filOk f.data.toList && (filOk t.data.toList && (!(looseB f.data.toList && hidB t.data.toList) && fits (lvl f.data.toList) (lvl t.data.toList))))) := rfl
  have cF := fun w => fil_iFilterOk f w hf
  have cT := fun w => fil_iFilterOk t w ht
  cases h1 : filOk f.data.toList with
  | false =>
    have F : Hid (covB f.data.toList t.data.toList = false) := by unfold Hid; rw [HM.out, h1]; rfl
    rw [h1] at cF
    clear h1
    go_enter Tryd.func18, Tryd.ntmps18
    go_wp2_with fail
    refine (cF w).mono ?_
    rintro e w1 ⟨rfl, hb1⟩
    go_wp2
    go_ret
    exact ⟨ret_bool F.out.symm, hb1⟩
  | true =>
    rw [h1] at cF
    cases h2 : filOk t.data.toList with
    | false =>
      have F : Hid (covB f.data.toList t.data.toList = false) := by unfold Hid; rw [HM.out, h1, h2]; rfl
      rw [h2] at cT
      clear h1 h2
      go_enter Tryd.func18, Tryd.ntmps18
      go_wp2_with fail
      refine (cF w).mono ?_
      rintro e w1 ⟨rfl, hb1⟩
      go_wp2_with fail
      refine (cT w1).mono ?_
      rintro e w2 ⟨rfl, hb2⟩
      go_wp2
      go_ret
      exact ⟨ret_bool F.out.symm, bel2 hb1 hb2⟩
    | true =>
      have hm : mayAll (lvl f.data.toList) = true := by
        have := h1
        simp only [filOk, Bool.and_eq_true] at this
        exact this.2
      have F : Hid ((!(looseB f.data.toList && hidB t.data.toList) && fits (lvl f.data.toList) (lvl t.data.toList)) = covB f.data.toList t.data.toList) := by unfold Hid; rw [HM.out, h1, h2]; rfl
      have cI := fun w => fit_ifitsLevels f t w hf ht hm
      rw [F.out] at cI
      rw [h2] at cT
      clear h1 h2 hm
      generalize covB f.data.toList t.data.toList = A at *
      go_enter Tryd.func18, Tryd.ntmps18
      go_wp2_with fail
      refine (cF w).mono ?_
      rintro e w1 ⟨rfl, hb1⟩
      go_wp2_with fail
      refine (cT w1).mono ?_
      rintro e w2 ⟨rfl, hb2⟩
      go_wp2_with fail
      refine (cI w2).mono ?_
      rintro e w3 ⟨rfl, hb3⟩
      go_wp2
      go_ret
      exact ⟨rfl, bel2 hb1 (bel2 hb2 hb3)⟩

set_option maxHeartbeats 1000000 in
/-- impl.Picks. -/
theorem pick_iPicks (ao : Option Addr) (n cap m : Nat) (ss : List ByteArray) (t : ByteArray) (w : World) (hr : SRd w ao n cap ss) (hn : n ≤ 1048576) (hs : ∀ k, k < n → (st ss k).size ≤ 1048576) (ht : t.size ≤ 1048576) (hM : (picksB (dats ss) t.data.toList).length = m) :
    Calls Tryd.prog 21 #[.slice ao n cap, .string t] w fun e w' => ∃ ao' cap', e = .returned (.slice ao' m cap') ∧ IOwn w' w.heap.size ao' m cap' (picksB (dats ss) t.data.toList) ∧ Below w.heap.size w w' := by
  have HF : Hid (ss.length = n) := hr.1.1
  have HS : Hid (∀ k, k < n → (st ss k).size ≤ 1048576) := hs
  have HM : Hid ((picksB (dats ss) t.data.toList).length = m) := hM
  clear hs hM
  go_enter Tryd.func21, Tryd.ntmps21
  go_wp2
  have ho0 := iown_lit0 w
  have hb0 : Below w.heap.size w (w.alloc (.cells #[] 3)) := (Below.refl _ _).alloc (Nat.le_refl _) _
  go_loopw [5, 11] (fun o i wr => ∃ (k q c : Nat) (a : Option Addr), i = .int .i64 k ∧ o = .slice a q c ∧ k ≤ n ∧ IOwn wr w.heap.size a q c (picksN (dats ss) t.data.toList k) ∧ Below w.heap.size w wr) (fun _ i _ => n - (intOf i).toNat)
  case atStart => exact ⟨0, 0, 0, _, rfl, rfl, Nat.zero_le _, ho0, hb0⟩
  case round =>
    obtain ⟨k, q, c, a, rfl, rfl, hk, ho, hb⟩ := hrel
    clear ho0 hb0
    have hq : q ≤ k := by rw [← ho.1]; exact picksN_le _ _ _
    by_cases hlt : k < n
    · obtain ⟨b, off, e, hc⟩ := hr.1.2 k hlt
      subst e
      have hck : wr.cell? ⟨b, off + k, none⟩ = some (.string (st ss k)) := (hb.cell (World.block_lt_of_cell? w _ hc)).trans hc
      have hlt' : (k : Int) < n := by omega
      have hx := dats_nth HF.out hlt
      have cm := mat_iMatch (st ss k) t wr (HS.out k hlt) ht
      rw [← hx] at cm
      have HY : Hid (matchB ((dats ss).getD k []) t.data.toList = true → picksN (dats ss) t.data.toList (k + 1) = picksN (dats ss) t.data.toList k ++ [((k : Nat) : Int)]) := picksN_yes
      have HNo : Hid (matchB ((dats ss).getD k []) t.data.toList = false → picksN (dats ss) t.data.toList (k + 1) = picksN (dats ss) t.data.toList k) := picksN_no
      generalize st ss k = x at hck cm hx
      clear hc hx
      cases hmat : matchB ((dats ss).getD k []) t.data.toList with
      | false =>
        rw [hmat] at cm
        have HP : Hid (picksN (dats ss) t.data.toList (k + 1) = picksN (dats ss) t.data.toList k) := HNo.out hmat
        clear hmat
        go_wp2_with fail
        refine cm.mono ?_
        rintro e w3 ⟨rfl, hb3⟩
        go_wp2
        go_roundw
        case rel => exact ⟨k + 1, q, c, a, by go_num, rfl, by omega, by rw [HP.out]; exact ho.below hb3, hb.trans (hb3.mono hb.size)⟩
        case measure => simp [intOf] <;> omega
      | true =>
        rw [hmat] at cm
        have HP : Hid (picksN (dats ss) t.data.toList (k + 1) = picksN (dats ss) t.data.toList k ++ [((k : Nat) : Int)]) := HY.out hmat
        clear hmat
        go_wp2_with fail
        refine cm.mono ?_
        rintro e w3 ⟨rfl, hb3⟩
        have ho3 := ho.below hb3
        have hb4 := hb.trans (hb3.mono hb.size)
        clear ho hb hb3
        go_wp2_with (at_builtin; refine w_iapp _ rfl _ _ rfl w.heap.size a q c (picksN (dats ss) t.data.toList k) rfl (ho3.below ((Below.refl _ _).alloc (Nat.le_refl _) _)) w3.heap.size (k : Int) rfl (new_cell _ _ _) (by omega) (by have := hb4.size; simp; omega) ?_)
        intro a' c' w' ho' hg'
        have hb' := ibelow_grow (hb4.alloc hb4.size _) (by have := hb4.size; simp; omega) (ho3.below ((Below.refl _ _).alloc (Nat.le_refl _) _)) hg'
        clear hg' ho3 hb4
        go_wp2
        go_roundw
        case rel => exact ⟨k + 1, q + 1, c', a', by go_num, rfl, by omega, by rw [HP.out]; exact ho', hb'⟩
        case measure => simp [intOf] <;> omega
    · have hlt' : ¬ (k : Int) < n := by omega
      obtain rfl : k = n := by omega
      have hq2 : q = m := by rw [← ho.1, ← HM.out]; unfold picksB; rw [dats_length, HF.out]
      subst hq2
      go_wp2
      go_ret
      refine ⟨a, c, rfl, ?_, hb⟩
      unfold picksB
      rw [dats_length, HF.out]
      exact ho

end Go.Proofs.YtdjbaieaelhhiaaDoor
