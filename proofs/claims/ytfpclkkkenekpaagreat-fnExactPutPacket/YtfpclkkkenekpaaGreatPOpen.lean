/- A packet that comes in as an argument of a law, opened: what its cells hold, what its lists read as. -/
import Derived.Test.YtfpclkkkenekpaaGreatWMem
import Derived.Test.YtfpclkkkenekpaaGreatEqs
import Derived.WalkKit
import Derived.ProofKit
import Derived.OpenShut
import Derived.ShutString
import Derived.ChangeOld
import Derived.Below
import Derived.Deep.Strs
import Derived.Deep.SlicePairs
set_option linter.unusedVariables false
set_option linter.unusedSimpArgs false
namespace Go.Proofs.YtfpclkkkenekpaaGreat
open Go.ChangeShapes Go.WideShapes Go.ChangeAt Go.RowKit
open Go.ChangeMaps (open_string shut_string)

theorem take_one {cs : List Value} {i : Nat} {v : Value} (h : (cs.drop i).take 1 = [v]) : cs[i]? = some v := by
  have := congrArg (fun l => l[0]?) h
  simpa [List.getElem?_take] using this
theorem IRd.of_ints {w : World} {x : Addr} {len cap : Nat} {zs : List Int} (hl : len ≤ cap) (hm : cap ≤ maxLen) (hz : len ≤ zs.length)
    (hcell : ∀ i, i < zs.length → w.cell? (x.add i) = some (.int .i64 (zs.getD i 0))) : IRd w (some x) len cap (zs.take len) := by
  refine ⟨⟨by simp; omega, fun i hi => ?_⟩, hl, hm, fun h => by simp at h⟩
  obtain ⟨b, off, spot⟩ := x
  have hc0 := hcell 0 (by omega)
  have hspot : spot = none := by simpa [Addr.add] using World.cell?_spot hc0
  subst hspot
  have hc := hcell i (by omega)
  refine ⟨b, off, rfl, ?_⟩
  rw [Addr.add_lit] at hc
  rw [hc]
  simp [nt, List.getD_eq_getElem?_getD, List.getElem?_take, hi]
def strVOf : Value → ByteArray | .string s => s | _ => ByteArray.empty
section
variable {H : Type} {enc : TypeId × Value → H} {W : World} {fuel : Nat} {cs : List Value} {x : DataW H × List MemPlace}
theorem open_bytes (h : DataW.trod enc Tryz.prog W 0 (fun _ => true) true fuel 22 cs = some x) : ∃ ao n cap l, cs = [.slice ao n cap] ∧ RdIn W ao n cap l := by
  rcases open_ints Tryz.underlying22 Tryz.underlying5 (by kernel_rfl) h with ⟨hcs, _⟩ | ⟨y, l, c, zs, hcs, _, hl, hm, hz, _, hcell, hwz⟩
  · exact ⟨_, _, _, [], hcs, RdIn.nil _⟩
  · obtain ⟨r, hr⟩ := RdIn.of_ints hl hm (by simpa using hz) hcell hwz
    exact ⟨_, _, _, r, hcs, hr⟩
theorem open_nums (h : DataW.trod enc Tryz.prog W 0 (fun _ => true) true fuel 25 cs = some x) : ∃ ao n cap l, cs = [.slice ao n cap] ∧ IRd W ao n cap l := by
  rcases open_ints Tryz.underlying25 Tryz.underlying3 (by kernel_rfl) h with ⟨hcs, _⟩ | ⟨y, l, c, zs, hcs, _, hl, hm, hz, _, hcell, hwz⟩
  · exact ⟨_, _, _, [], hcs, IRd.nil _⟩
  · exact ⟨_, _, _, _, hcs, IRd.of_ints hl hm (by rw [hz]; simpa using hl) hcell⟩
theorem open_texts (h : DataW.trod enc Tryz.prog W 0 (fun _ => true) true fuel 24 cs = some x) : ∃ ao n cap l, cs = [.slice ao n cap] ∧ SRd W ao n cap l ∧ ∀ s ∈ l, s.size ≤ maxLen := by
  rcases Go.Deep.open_strs Tryz.underlying24 Tryz.underlying9 (by kernel_rfl) h with ⟨hcs, _⟩ | ⟨y, l, c, m, Sx, hcs, _, hl, hm, hmm, _, hcell⟩
  · exact ⟨_, _, _, [], hcs, SRd.nil _, fun s hs => by simp at hs⟩
  · obtain ⟨r, hr, hs⟩ := SRd.of_cells hl hm (by rw [hmm]; split <;> omega) hcell
    exact ⟨_, _, _, r, hcs, hr, hs⟩
theorem open_wants (h : DataW.trod enc Tryz.prog W 0 (fun _ => true) true fuel 23 cs = some x) : ∃ ao n cap l, cs = [.slice ao n cap] ∧ WRd W ao n cap l ∧ ∀ y ∈ l, y.1.size ≤ maxLen := by
  rcases Go.Deep.open_slice_pairs Tryz.underlying23 Tryz.underlying77 (by kernel_rfl) rfl rfl (by kernel_rfl) (by kernel_rfl) h with ⟨hcs, _⟩ | ⟨a, len, cap, m, n, V0, V1, D0, D1, P0, P1, hcs, _, hl, hm, hmm, _, hc⟩
  · exact ⟨none, 0, 0, [], hcs, ⟨⟨rfl, fun i hi => by omega⟩, Nat.le_refl _, Nat.zero_le _, fun _ => rfl⟩, fun y hy => by simp at hy⟩
  · have hlm : len ≤ m := by rw [hmm]; simpa using hl
    have hv : ∀ i, i < m → V0 i = .string (strVOf (V0 i)) ∧ V1 i = .int .i64 (intOf (V1 i)) ∧ (strVOf (V0 i)).size ≤ maxLen := by
      intro i hi
      obtain ⟨_, _, t0, t1⟩ := hc i hi
      obtain ⟨s, e0, _, hs⟩ := DataW.trod_string Tryz.underlying9 t0
      obtain ⟨q, e1, _, _⟩ := DataW.trod_int Tryz.underlying3 t1
      simp only [List.cons.injEq, and_true] at e0 e1
      rw [e0, e1]
      exact ⟨rfl, rfl, hs⟩
    refine ⟨some a, len, cap, (List.range len).map fun i => (strVOf (V0 i), intOf (V1 i)), hcs, ⟨⟨by simp, fun i hi => ?_⟩, hl, hm, fun h => by simp at h⟩, fun y hy => ?_⟩
    · obtain ⟨b, off, spot⟩ := a
      have hc0 := (hc 0 (by omega)).1
      have hspot : spot = none := by simpa [Addr.add] using World.cell?_spot hc0
      subst hspot
      obtain ⟨k0, k1, _, _⟩ := hc i (by omega)
      obtain ⟨e0, e1, _⟩ := hv i (by omega)
      rw [Addr.add_lit] at k0 k1
      refine ⟨b, off, rfl, ?_, ?_⟩
      · rw [k0, e0]
        simp [wf, List.getD_eq_getElem?_getD, List.getElem?_map, List.getElem?_range hi, strVOf]
      · rw [Nat.add_assoc, k1, e1]
        simp [wq, List.getD_eq_getElem?_getD, List.getElem?_map, List.getElem?_range hi, intOf]
    · simp only [List.mem_map, List.mem_range] at hy
      obtain ⟨i, hi, rfl⟩ := hy
      exact (hv i (by omega)).2.2
set_option maxHeartbeats 2000000 in
set_option maxRecDepth 100000 in
theorem open_packet {base : Nat} {v : Value} {d : DataW H} {ps : List MemPlace} (hval : Value.okWide Tryz.prog W .any base 27 v) (h : DataW.Trod enc Tryz.prog W 0 (fun _ => true) true 27 v d ps) :
    ∃ (p : Pk) (dd : Pd), v = .agg p.cells ∧ PRd W p dd ∧ Pok p dd := by
  obtain ⟨cs, rfl, hsz⟩ := okWide_struct Tryz.underlying27 hval
  have h25 : cs.size = 25 := hsz.trans (by kernel_rfl)
  obtain ⟨fuel, hf⟩ := h
  obtain ⟨xs, n, _, _, _, hlen, hfs⟩ := DataW.trod_struct Tryz.underlying27 hf
  have hxs : xs.length = 25 := hlen
  have hx : ∀ i, i < 25 → ∃ y, xs[i]? = some y := fun i hi => ⟨_, List.getElem?_eq_getElem (by omega)⟩
  clear hf hlen hsz hval
  obtain ⟨y0, hy0⟩ := hx 0 (by decide)
  have q0 : DataW.trod enc Tryz.prog W 0 (fun _ => true) true n 3 ((cs.toList.drop 0).take 1) = some y0 := (hfs 0 _ rfl).trans hy0
  obtain ⟨f0, g0, _, _⟩ := DataW.trod_int Tryz.underlying3 q0
  replace g0 := take_one g0
  clear q0 hy0
  obtain ⟨y1, hy1⟩ := hx 1 (by decide)
  have q1 : DataW.trod enc Tryz.prog W 0 (fun _ => true) true n 4 ((cs.toList.drop 1).take 1) = some y1 := (hfs 1 _ rfl).trans hy1
  obtain ⟨f1, g1, _⟩ := DataW.trod_bool Tryz.underlying4 q1
  replace g1 := take_one g1
  clear q1 hy1
  obtain ⟨y2, hy2⟩ := hx 2 (by decide)
  have q2 : DataW.trod enc Tryz.prog W 0 (fun _ => true) true n 3 ((cs.toList.drop 2).take 1) = some y2 := (hfs 2 _ rfl).trans hy2
  obtain ⟨f2, g2, _, _⟩ := DataW.trod_int Tryz.underlying3 q2
  replace g2 := take_one g2
  clear q2 hy2
  obtain ⟨y3, hy3⟩ := hx 3 (by decide)
  have q3 : DataW.trod enc Tryz.prog W 0 (fun _ => true) true n 4 ((cs.toList.drop 3).take 1) = some y3 := (hfs 3 _ rfl).trans hy3
  obtain ⟨f3, g3, _⟩ := DataW.trod_bool Tryz.underlying4 q3
  replace g3 := take_one g3
  clear q3 hy3
  obtain ⟨y4, hy4⟩ := hx 4 (by decide)
  have q4 : DataW.trod enc Tryz.prog W 0 (fun _ => true) true n 3 ((cs.toList.drop 4).take 1) = some y4 := (hfs 4 _ rfl).trans hy4
  obtain ⟨f4, g4, _, _⟩ := DataW.trod_int Tryz.underlying3 q4
  replace g4 := take_one g4
  clear q4 hy4
  obtain ⟨y5, hy5⟩ := hx 5 (by decide)
  have q5 : DataW.trod enc Tryz.prog W 0 (fun _ => true) true n 9 ((cs.toList.drop 5).take 1) = some y5 := (hfs 5 _ rfl).trans hy5
  obtain ⟨f5, g5, _, z5⟩ := DataW.trod_string Tryz.underlying9 q5
  replace g5 := take_one g5
  clear q5 hy5
  obtain ⟨y6, hy6⟩ := hx 6 (by decide)
  have q6 : DataW.trod enc Tryz.prog W 0 (fun _ => true) true n 22 ((cs.toList.drop 6).take 1) = some y6 := (hfs 6 _ rfl).trans hy6
  obtain ⟨A6, N6, C6, L6, g6, r6⟩ := open_bytes q6
  replace g6 := take_one g6
  clear q6 hy6
  obtain ⟨y7, hy7⟩ := hx 7 (by decide)
  have q7 : DataW.trod enc Tryz.prog W 0 (fun _ => true) true n 9 ((cs.toList.drop 7).take 1) = some y7 := (hfs 7 _ rfl).trans hy7
  obtain ⟨f7, g7, _, z7⟩ := DataW.trod_string Tryz.underlying9 q7
  replace g7 := take_one g7
  clear q7 hy7
  obtain ⟨y8, hy8⟩ := hx 8 (by decide)
  have q8 : DataW.trod enc Tryz.prog W 0 (fun _ => true) true n 3 ((cs.toList.drop 8).take 1) = some y8 := (hfs 8 _ rfl).trans hy8
  obtain ⟨f8, g8, _, _⟩ := DataW.trod_int Tryz.underlying3 q8
  replace g8 := take_one g8
  clear q8 hy8
  obtain ⟨y9, hy9⟩ := hx 9 (by decide)
  have q9 : DataW.trod enc Tryz.prog W 0 (fun _ => true) true n 4 ((cs.toList.drop 9).take 1) = some y9 := (hfs 9 _ rfl).trans hy9
  obtain ⟨f9, g9, _⟩ := DataW.trod_bool Tryz.underlying4 q9
  replace g9 := take_one g9
  clear q9 hy9
  obtain ⟨y10, hy10⟩ := hx 10 (by decide)
  have q10 : DataW.trod enc Tryz.prog W 0 (fun _ => true) true n 3 ((cs.toList.drop 10).take 1) = some y10 := (hfs 10 _ rfl).trans hy10
  obtain ⟨f10, g10, _, _⟩ := DataW.trod_int Tryz.underlying3 q10
  replace g10 := take_one g10
  clear q10 hy10
  obtain ⟨y11, hy11⟩ := hx 11 (by decide)
  have q11 : DataW.trod enc Tryz.prog W 0 (fun _ => true) true n 4 ((cs.toList.drop 11).take 1) = some y11 := (hfs 11 _ rfl).trans hy11
  obtain ⟨f11, g11, _⟩ := DataW.trod_bool Tryz.underlying4 q11
  replace g11 := take_one g11
  clear q11 hy11
  obtain ⟨y12, hy12⟩ := hx 12 (by decide)
  have q12 : DataW.trod enc Tryz.prog W 0 (fun _ => true) true n 9 ((cs.toList.drop 12).take 1) = some y12 := (hfs 12 _ rfl).trans hy12
  obtain ⟨f12, g12, _, z12⟩ := DataW.trod_string Tryz.underlying9 q12
  replace g12 := take_one g12
  clear q12 hy12
  obtain ⟨y13, hy13⟩ := hx 13 (by decide)
  have q13 : DataW.trod enc Tryz.prog W 0 (fun _ => true) true n 22 ((cs.toList.drop 13).take 1) = some y13 := (hfs 13 _ rfl).trans hy13
  obtain ⟨A13, N13, C13, L13, g13, r13⟩ := open_bytes q13
  replace g13 := take_one g13
  clear q13 hy13
  obtain ⟨y14, hy14⟩ := hx 14 (by decide)
  have q14 : DataW.trod enc Tryz.prog W 0 (fun _ => true) true n 3 ((cs.toList.drop 14).take 1) = some y14 := (hfs 14 _ rfl).trans hy14
  obtain ⟨f14, g14, _, _⟩ := DataW.trod_int Tryz.underlying3 q14
  replace g14 := take_one g14
  clear q14 hy14
  obtain ⟨y15, hy15⟩ := hx 15 (by decide)
  have q15 : DataW.trod enc Tryz.prog W 0 (fun _ => true) true n 4 ((cs.toList.drop 15).take 1) = some y15 := (hfs 15 _ rfl).trans hy15
  obtain ⟨f15, g15, _⟩ := DataW.trod_bool Tryz.underlying4 q15
  replace g15 := take_one g15
  clear q15 hy15
  obtain ⟨y16, hy16⟩ := hx 16 (by decide)
  have q16 : DataW.trod enc Tryz.prog W 0 (fun _ => true) true n 4 ((cs.toList.drop 16).take 1) = some y16 := (hfs 16 _ rfl).trans hy16
  obtain ⟨f16, g16, _⟩ := DataW.trod_bool Tryz.underlying4 q16
  replace g16 := take_one g16
  clear q16 hy16
  obtain ⟨y17, hy17⟩ := hx 17 (by decide)
  have q17 : DataW.trod enc Tryz.prog W 0 (fun _ => true) true n 9 ((cs.toList.drop 17).take 1) = some y17 := (hfs 17 _ rfl).trans hy17
  obtain ⟨f17, g17, _, z17⟩ := DataW.trod_string Tryz.underlying9 q17
  replace g17 := take_one g17
  clear q17 hy17
  obtain ⟨y18, hy18⟩ := hx 18 (by decide)
  have q18 : DataW.trod enc Tryz.prog W 0 (fun _ => true) true n 4 ((cs.toList.drop 18).take 1) = some y18 := (hfs 18 _ rfl).trans hy18
  obtain ⟨f18, g18, _⟩ := DataW.trod_bool Tryz.underlying4 q18
  replace g18 := take_one g18
  clear q18 hy18
  obtain ⟨y19, hy19⟩ := hx 19 (by decide)
  have q19 : DataW.trod enc Tryz.prog W 0 (fun _ => true) true n 22 ((cs.toList.drop 19).take 1) = some y19 := (hfs 19 _ rfl).trans hy19
  obtain ⟨A19, N19, C19, L19, g19, r19⟩ := open_bytes q19
  replace g19 := take_one g19
  clear q19 hy19
  obtain ⟨y20, hy20⟩ := hx 20 (by decide)
  have q20 : DataW.trod enc Tryz.prog W 0 (fun _ => true) true n 3 ((cs.toList.drop 20).take 1) = some y20 := (hfs 20 _ rfl).trans hy20
  obtain ⟨f20, g20, _, _⟩ := DataW.trod_int Tryz.underlying3 q20
  replace g20 := take_one g20
  clear q20 hy20
  obtain ⟨y21, hy21⟩ := hx 21 (by decide)
  have q21 : DataW.trod enc Tryz.prog W 0 (fun _ => true) true n 4 ((cs.toList.drop 21).take 1) = some y21 := (hfs 21 _ rfl).trans hy21
  obtain ⟨f21, g21, _⟩ := DataW.trod_bool Tryz.underlying4 q21
  replace g21 := take_one g21
  clear q21 hy21
  obtain ⟨y22, hy22⟩ := hx 22 (by decide)
  have q22 : DataW.trod enc Tryz.prog W 0 (fun _ => true) true n 23 ((cs.toList.drop 22).take 1) = some y22 := (hfs 22 _ rfl).trans hy22
  obtain ⟨A22, N22, C22, L22, g22, r22, z22⟩ := open_wants q22
  replace g22 := take_one g22
  clear q22 hy22
  obtain ⟨y23, hy23⟩ := hx 23 (by decide)
  have q23 : DataW.trod enc Tryz.prog W 0 (fun _ => true) true n 24 ((cs.toList.drop 23).take 1) = some y23 := (hfs 23 _ rfl).trans hy23
  obtain ⟨A23, N23, C23, L23, g23, r23, z23⟩ := open_texts q23
  replace g23 := take_one g23
  clear q23 hy23
  obtain ⟨y24, hy24⟩ := hx 24 (by decide)
  have q24 : DataW.trod enc Tryz.prog W 0 (fun _ => true) true n 25 ((cs.toList.drop 24).take 1) = some y24 := (hfs 24 _ rfl).trans hy24
  obtain ⟨A24, N24, C24, L24, g24, r24⟩ := open_nums q24
  replace g24 := take_one g24
  clear q24 hy24
  clear hfs hx
  refine ⟨⟨f0, f1, f2, f3, f4, f5, ⟨A6, N6, C6⟩, f7, f8, f9, f10, f11, f12, ⟨A13, N13, C13⟩, f14, f15, f16, f17, f18, ⟨A19, N19, C19⟩, f20, f21, ⟨A22, N22, C22⟩, ⟨A23, N23, C23⟩, ⟨A24, N24, C24⟩⟩, ⟨L6, L13, L19, L22, L23, L24⟩, ?_, ⟨r6, r13, r19, r22, r23, r24⟩, ⟨z5, z7, z12, z17, z22, z23⟩⟩
  congr 1
  apply Array.ext_getElem?
  intro i
  simp only [Array.getElem?_toList] at *
  by_cases hi : i < 25
  · have : i = 0 ∨ i = 1 ∨ i = 2 ∨ i = 3 ∨ i = 4 ∨ i = 5 ∨ i = 6 ∨ i = 7 ∨ i = 8 ∨ i = 9 ∨ i = 10 ∨ i = 11 ∨ i = 12 ∨ i = 13 ∨ i = 14 ∨ i = 15 ∨ i = 16 ∨ i = 17 ∨ i = 18 ∨ i = 19 ∨ i = 20 ∨ i = 21 ∨ i = 22 ∨ i = 23 ∨ i = 24 := by omega
    rcases this with rfl | rfl | rfl | rfl | rfl | rfl | rfl | rfl | rfl | rfl | rfl | rfl | rfl | rfl | rfl | rfl | rfl | rfl | rfl | rfl | rfl | rfl | rfl | rfl | rfl
    · exact g0
    · exact g1
    · exact g2
    · exact g3
    · exact g4
    · exact g5
    · exact g6
    · exact g7
    · exact g8
    · exact g9
    · exact g10
    · exact g11
    · exact g12
    · exact g13
    · exact g14
    · exact g15
    · exact g16
    · exact g17
    · exact g18
    · exact g19
    · exact g20
    · exact g21
    · exact g22
    · exact g23
    · exact g24
  · rw [Array.getElem?_eq_none (by omega), Array.getElem?_eq_none (by rw [Pk.csize]; omega)]
end
end Go.Proofs.YtfpclkkkenekpaaGreat
