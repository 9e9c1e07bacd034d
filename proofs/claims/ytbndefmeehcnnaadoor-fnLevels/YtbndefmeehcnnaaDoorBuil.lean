/- The strings.Builder that impl.Join fills: what it checks, what it writes. -/
import Derived.Test.YtbndefmeehcnnaaDoorSJoin
import Derived.Test.YtbndefmeehcnnaaDoorShelf
import Derived.Shelf.Strings.BuilderX
import Derived.Lib.Builder
import Derived.Lib.AppendStr
import Derived.Lib.UnsafeStr
import Derived.Laws.Externs
set_option linter.unusedVariables false
set_option linter.unusedSimpArgs false
namespace Go.Proofs.YtbndefmeehcnnaaDoor
open Go.RowKit

theorem infoByte : (Tryd.prog.info? 5).map (fun i => (i.zero, i.size, i.bytes)) = some (some (.int .u8 0), 1, 1) := by kernel_rfl
theorem sizeBuilder : (Tryd.prog.info? 38).map (·.size) = some 2 := by kernel_rfl
theorem liesBuilder : liesAt Tryd.prog Tryd.prog.depth 38 (2 / Tryd.prog.cellsOf 38) 0 38 1 = true := by kernel_rfl

set_option maxHeartbeats 1000000 in
set_option maxRecDepth 100000 in
/-- copyCheck of a builder that was written to. -/
theorem check_used (b : Nat) (w : World) (h0 : w.cell? ⟨b, 0, none⟩ = some (.pointer (some ⟨b, 0, none⟩))) :
    Calls Tryd.prog 41 #[.pointer (some ⟨b, 0, none⟩)] w fun e w' => e = .returned (.tuple #[]) ∧ w' = w := by
  obtain ⟨j, hj, _⟩ := Option.map_eq_some_iff.1 sizeBuilder
  go_enter Tryd.func41, Tryd.ntmps41
  go_wp2
  rw [Lib.run_neq_ptr_same w _ Tryd.underlying36 hj]
  go_wp2
  go_end0
  exact ⟨rfl, rfl⟩

set_option maxHeartbeats 1000000 in
set_option maxRecDepth 100000 in
/-- copyCheck of a builder that is new. -/
theorem check_fresh (b : Nat) (w : World) (h0 : w.cell? ⟨b, 0, none⟩ = some (.pointer none)) (hsh : w.shape? b = some (38, 2)) (hfz : w.frozen? ⟨b, 0, none⟩ = false) :
    Calls Tryd.prog 41 #[.pointer (some ⟨b, 0, none⟩)] w fun e w' => e = .returned (.tuple #[]) ∧ w' = w.setCell ⟨b, 0, none⟩ (.pointer (some ⟨b, 0, none⟩)) := by
  obtain ⟨j, hj, hjs⟩ := Option.map_eq_some_iff.1 sizeBuilder
  go_enter Tryd.func41, Tryd.ntmps41
  go_wp2
  rw [Lib.run_to_unsafe w ⟨b, 0, none⟩ Tryd.underlying36 Tryd.underlying60 hj (by rw [hjs]; decide) hsh (Nat.zero_lt_succ 1)]
  simp only [Result.andThen]
  rw [Oper.upon_value]
  go_wp2
  rw [run_callFunc_extern Tryd.func50 (by kernel_rfl) (by kernel_rfl) (by kernel_rfl) (e := Extern.AbiNoEscape.same) (by kernel_rfl)]
  rw [Lib.run_noEscape]
  simp only [Result.andThen]
  rw [Oper.upon_value]
  go_wp2
  rw [Lib.run_from_unsafe w ⟨b, 0, none⟩ Tryd.underlying60 Tryd.underlying36 hj hsh liesBuilder]
  simp only [Result.andThen]
  rw [Oper.upon_value]
  go_wp2
  go_end0
  exact ⟨rfl, rfl⟩

/-- copyCheck: behind it the builder knows its own place; what it holds stays. -/
theorem check_builder (B b : Nat) (bs : List Value) (w : World) (h : Lib.IsBuilder 38 5 B b bs w) :
    Calls Tryd.prog 41 #[.pointer (some ⟨b, 0, none⟩)] w fun e w' => e = .returned (.tuple #[]) ∧ (Lib.BuilderAt 38 5 B b (.pointer (some ⟨b, 0, none⟩)) bs w' ∧ Below B w w') := by
  rcases h with h | h
  · refine (check_fresh b w h.cell0 h.shape h.frozen0).mono ?_
    rintro e w' ⟨rfl, rfl⟩
    exact ⟨rfl, h.used _, (Below.refl B w).setCell (p := ⟨b, 0, none⟩) h.1 _⟩
  · refine (check_used b w h.cell0).mono ?_
    rintro e w' ⟨rfl, rfl⟩
    exact ⟨rfl, h, Below.refl B _⟩

set_option maxHeartbeats 2000000 in
set_option maxRecDepth 100000 in
/-- WriteString: what it held, then the text. -/
theorem write_builder (B b : Nat) (bs : List Value) (s : ByteArray) (w : World) (h : Lib.IsBuilder 38 5 B b bs w) (hlen : bs.length + s.size ≤ 140737488355328) (hBw : B ≤ w.heap.size) :
    Calls Tryd.prog 27 #[.pointer (some ⟨b, 0, none⟩), .string s] w fun e w' => e = .returned (.tuple #[.int .i64 s.size, .nilIface]) ∧ (Lib.BuilderAt 38 5 B b (.pointer (some ⟨b, 0, none⟩)) (bs ++ Lib.strCells s) w' ∧ Below B w w') := by
  obtain ⟨i0, hi, hz0, hz1, hz2⟩ := info_parts infoByte
  go_enter Tryd.func27, Tryd.ntmps27
  go_wp2_with (go_at_call 41; refine (check_builder B b bs _ h).mono ?_)
  rintro e w1 ⟨rfl, h1, hb1⟩
  obtain ⟨hB, v, hbk, hown, hne⟩ := h1
  have c0 : w1.cell? ⟨b, 0, none⟩ = some (.pointer (some ⟨b, 0, none⟩)) := by rw [Lib.cell_of_heap hbk]; rfl
  have c1 : w1.cell? ⟨b, 1, none⟩ = some v := by rw [Lib.cell_of_heap hbk]; rfl
  go_wp2_with (at_builtin; refine Lib.wpList_append_own_string _ rfl _ _ 22 9 rfl B 5 i0 Tryd.underlying22 Tryd.underlying9 hi hz0 hz1 hz2 _ _ _ rfl hown s rfl ?c3 ?c4 ?c5 ?_)
  case c3 => unfold maxLen; omega
  case c4 => omega
  case c5 => have := hb1.size; omega
  intro v' w2 hown' hgrow _
  have hlt : b < w1.heap.size := (Array.getElem?_eq_some_iff.1 hbk).1
  have hb2 : w2.heap[b]? = some (.cells #[.pointer (some ⟨b, 0, none⟩), v] 38 (0, 0)) := by
    rw [hgrow.block b hlt (fun e => hne e.symm)]
    exact hbk
  have d0 : w2.cell? ⟨b, 0, none⟩ = some (.pointer (some ⟨b, 0, none⟩)) := by rw [Lib.cell_of_heap hb2]; rfl
  have d1 : w2.cell? ⟨b, 1, none⟩ = some v := by rw [Lib.cell_of_heap hb2]; rfl
  have f1 : w2.frozen? ⟨b, 1, none⟩ = false := Lib.frozen_of_heap hb2 1
  obtain ⟨ao, n', cap, rfl⟩ : ∃ ao n' cap, v' = .slice ao n' cap := by
    rcases hown'.2 with ⟨hv, _⟩ | ⟨g, cap, cur, hv, _⟩
    · exact ⟨_, _, _, hv⟩
    · exact ⟨_, _, _, hv⟩
  go_wp2
  go_ret2
  refine ⟨rfl, ?_, ?_⟩
  · exact Lib.BuilderAt.put (T := 38) (e := 5) hB hb2 (bs' := bs ++ Lib.strCells s) (by simpa [Lib.strCells_length] using hown') (by decide)
  · exact (hb1.grown hgrow (by have := hb1.size; omega) (fun k hk => (hown.lt k hk).1)).setCell (p := ⟨b, 1, none⟩) hB _

theorem byteCells_append (a b : List UInt8) : Lib.byteCells (a ++ b) = Lib.byteCells a ++ Lib.byteCells b := by simp [Lib.byteCells]

/-- String of what it holds. -/
theorem string_builder (B b : Nat) (l : List UInt8) (w : World) (h : Lib.IsBuilder 38 5 B b (Lib.byteCells l) w) (hBw : B ≤ w.heap.size) :
    Calls Tryd.prog 28 #[.pointer (some ⟨b, 0, none⟩)] w fun e w' => e = .returned (.string ⟨l.toArray⟩) ∧ Below B w w' := Any.Builder_String_any Tryd.lays169 Tryd.Builder_Extra_169 B b l w h hBw

set_option maxHeartbeats 1000000 in
/-- impl.tellLevels, telling a builder of the call's own. -/
theorem tell_itellLevels (B b : Nat) (ao : Option Addr) (n cap : Nat) (l : List ByteArray) (w : World) (h : Lib.IsBuilder 38 5 B b [] w) (hr : SRd w ao n cap l) (hn : n + tot l ≤ 1099511627776) (hBw : B ≤ w.heap.size) (hab : ∀ a, ao = some a → a.block < B) :
    Calls Tryd.prog 26 #[.slice ao n cap, .func (.func 27) #[.pointer (some ⟨b, 0, none⟩)] #[]] w fun e w' => e = .returned (.tuple #[]) ∧ Lib.IsBuilder 38 5 B b (Lib.byteCells (glue (dats l))) w' ∧ Below B w w' := by
  have HL : Hid (l.length = n) := hr.1.1
  go_enter Tryd.func26, Tryd.ntmps26
  go_wp2
  go_loopw [8] (fun i wr => ∃ k : Nat, i = .int .i64 k ∧ k ≤ n ∧ (glue (dats (l.take k))).length ≤ k + tot (l.take k) ∧ Lib.IsBuilder 38 5 B b (Lib.byteCells (glue (dats (l.take k)))) wr ∧ Below B w wr) (fun i _ => n - (intOf i).toNat)
  case atStart => exact ⟨0, rfl, Nat.zero_le _, Nat.zero_le _, h, Below.refl _ _⟩
  case round =>
    obtain ⟨k, rfl, hk, hz, hB, hb⟩ := hrel
    clear h
    by_cases hlt : k < n
    · obtain ⟨bl, off, e, hc⟩ := hr.1.2 k hlt
      subst e
      have hbl : bl < B := hab ⟨bl, off, none⟩ rfl
      have hck : wr.cell? ⟨bl, off + k, none⟩ = some (.string (st l k)) := (hb.cell hbl).trans hc
      have hlt' : (k : Int) < n := by omega
      have HX : Hid (k < l.length) := by unfold Hid; rw [HL.out]; exact hlt
      have HT : Hid (tot (l.take (k + 1)) = tot (l.take k) + (st l k).size) := tot_take l k HX.out
      have hq : (glue (dats (l.take k))).length + (st l k).size ≤ 1099511627776 + 1099511627776 := by have h1 := HT.out; have h2 := tot_le l (k + 1); omega
      clear hc
      by_cases h0 : 0 < k
      · have h0' : (0 : Int) < k := by omega
        have HG : Hid (glue (dats (l.take (k + 1))) = glue (dats (l.take k)) ++ 47 :: (st l k).data.toList) := glue_step l k h0 HX.out
        generalize glue (dats (l.take k)) = G at *
        go_wp2_with fail
        refine (write_builder B b (Lib.byteCells G) ⟨#[47]⟩ wr hB (by rw [Lib.byteCells_length]; show G.length + 1 ≤ _; omega) (by have := hb.size; omega)).mono ?_
        rintro e w1 ⟨rfl, hB1, hb1⟩
        have hb2 := hb.trans hb1
        have hck1 : w1.cell? ⟨bl, off + k, none⟩ = some (.string (st l k)) := (hb1.cell hbl).trans hck
        have eB : Lib.byteCells G ++ Lib.strCells ⟨#[47]⟩ = Lib.byteCells (G ++ [47]) := by rw [byteCells_append]; rfl
        rw [eB] at hB1
        go_wp2_with fail
        refine (write_builder B b (Lib.byteCells (G ++ [47])) (st l k) w1 (.inr hB1) (by rw [Lib.byteCells_length, List.length_append]; show G.length + 1 + _ ≤ _; omega) (by have := hb2.size; omega)).mono ?_
        rintro e w2 ⟨rfl, hB2, hb3⟩
        have eB2 : Lib.byteCells (G ++ [47]) ++ Lib.strCells (st l k) = Lib.byteCells (glue (dats (l.take (k + 1)))) := by
          rw [HG.out, show G ++ 47 :: (st l k).data.toList = (G ++ [47]) ++ (st l k).data.toList by simp, byteCells_append (G ++ [47])]; rfl
        rw [eB2] at hB2
        have hb4 := hb2.trans hb3
        clear hb hb1 hb2 hb3 hB hB1 hck hck1 eB eB2
        go_wp2
        go_roundw
        case rel =>
          refine ⟨k + 1, by go_num, by omega, ?_, .inr hB2, hb4⟩
          rw [HG.out, List.length_append, List.length_cons]
          have := HT.out
          have e1 : (st l k).size = (st l k).data.toList.length := rfl
          omega
        case measure => simp [intOf]; omega
      · have h0' : ¬ (0 : Int) < k := by omega
        obtain rfl : k = 0 := by omega
        rw [Nat.add_zero] at hck
        have HG : Hid (glue (dats (l.take (0 + 1))) = (st l 0).data.toList) := glue_first l HX.out
        have HG0 : Hid (glue (dats (l.take 0)) = []) := rfl
        generalize glue (dats (l.take 0)) = G at *
        go_wp2_with fail
        refine (write_builder B b (Lib.byteCells G) (st l 0) wr hB (by rw [Lib.byteCells_length]; omega) (by have := hb.size; omega)).mono ?_
        rintro e w1 ⟨rfl, hB1, hb1⟩
        have hb2 := hb.trans hb1
        have eB : Lib.byteCells G ++ Lib.strCells (st l 0) = Lib.byteCells (glue (dats (l.take (0 + 1)))) := by rw [HG.out, HG0.out]; rfl
        rw [eB] at hB1
        clear hb hb1 hB hck eB
        go_wp2
        go_roundw
        case rel =>
          refine ⟨0 + 1, by go_num, by omega, ?_, .inr hB1, hb2⟩
          rw [HG.out]
          have := HT.out
          have e1 : (st l 0).size = (st l 0).data.toList.length := rfl
          omega
        case measure => simp [intOf]; omega
    · have hlt' : ¬ (k : Int) < n := by omega
      obtain rfl : k = n := by omega
      rw [List.take_of_length_le (by rw [HL.out]; exact Nat.le_refl _)] at hB
      go_wp2
      go_end0
      exact ⟨rfl, hB, hb⟩

set_option maxHeartbeats 1000000 in
/-- impl.Join. -/
theorem join_iJoin (ao : Option Addr) (n cap : Nat) (l : List ByteArray) (w : World) (hr : SRd w ao n cap l) (hn : n + tot l ≤ 1099511627776) (hab : ∀ a, ao = some a → a.block < w.heap.size) :
    Calls Tryd.prog 11 #[.slice ao n cap] w fun e w' => e = .returned (.string ⟨(glue (dats l)).toArray⟩) ∧ Below w.heap.size w w' := by
  have hr1 : SRd (w.alloc (.cells #[.pointer none, .slice none 0 0] 38)) ao n cap l := hr.below ((Below.refl _ _).alloc (Nat.le_refl _) _)
  have hB0 := Lib.fresh_isBuilder 38 5 w
  go_enter Tryd.func11, Tryd.ntmps11
  go_wp2_with fail
  refine (tell_itellLevels w.heap.size w.heap.size ao n cap l _ hB0 hr1 hn (by simp) hab).mono ?_
  rintro e w1 ⟨rfl, hB1, hb1⟩
  have hb2 := ((Below.refl w.heap.size w).alloc (Nat.le_refl _) (.cells #[.pointer none, .slice none 0 0] 38)).trans hb1
  go_wp2_with fail
  refine (string_builder w.heap.size w.heap.size _ w1 hB1 hb2.size).mono ?_
  rintro e w2 ⟨rfl, hb3⟩
  go_wp2
  go_ret
  exact ⟨rfl, hb2.trans hb3⟩

end Go.Proofs.YtbndefmeehcnnaaDoor
