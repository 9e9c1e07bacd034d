/- The draws of packets: those of the kinds without a list that grows. -/
import Derived.Test.YtccjiicjlifmiaaGreatDoorPDr
import Derived.Deep.CutBlock
import Derived.Deep.DeepCutAuto
set_option linter.unusedVariables false
set_option linter.unusedSimpArgs false
namespace Go.Proofs.YtccjiicjlifmiaaGreatDoor
open Go.RowKit

def dnil : Pd := ⟨[], [], [], [], [], []⟩
def ofT (k : Int) : Pk := { Pk.zero with ty := k }
theorem al2_old (w : World) (A C : Obj) : ((w.alloc A).alloc C).heap[w.heap.size]? = some A := (Below.heap_alloc _ _ _ (by simp)).trans (heap_alloc_new w A)
theorem al2_new (w : World) (A C : Obj) : ((w.alloc A).alloc C).heap[w.heap.size + 1]? = some C := by
  have e := heap_alloc_new (w.alloc A) C
  rw [show (w.alloc A).heap.size = w.heap.size + 1 from by simp] at e
  exact e
theorem ints_at (yy : World) (zs : List Int) (N : Nat) (hN : yy.heap.size = N) (i : Nat) (h : i < zs.length) : (yy.alloc (.cells (zs.map (Value.int .i64)).toArray 3)).cell? ⟨N, i, none⟩ = some (.int .i64 (zs.getD i 0)) := by
  subst hN
  exact ints_cells yy zs 3 i h
theorem st_ex {m : Nat} {w0 y : World} {g r b : Nat} {ao : Option Addr} {n cap : Nat} {l : List UInt8} {p : Pk} {d : Pd} (s : St m w0 y g r b ao n cap l p d) : ∃ p d, St m w0 y g r b ao n cap l p d := ⟨p, d, s⟩
theorem st_new (g : Nat) (ao : Option Addr) (n cap : Nat) (l : List UInt8) (k : Int) (w : World) (hc : Cur w g ao n cap l) : St 64 w ((w.alloc (.cells Pk.zero.cells 28)).alloc (.cells (ofT k).cells 28)) g w.heap.size (w.heap.size + 1) ao n cap l (ofT k) dnil :=
  ⟨(hc.alloc _).alloc _, al2_new _ _ _, al2_old _ _ _, ⟨⟨rfl, World.ownsRow_nil _ _ _ _⟩, ⟨rfl, World.ownsRow_nil _ _ _ _⟩, ⟨rfl, World.ownsRow_nil _ _ _ _⟩, ⟨rfl, World.ownsRow_nil _ _ _ _⟩, ⟨rfl, World.ownsRow_nil _ _ _ _⟩, ⟨rfl, World.ownsRow_nil _ _ _ _⟩, by simp [ofT, Pk.zero, Dis]⟩,
    grown_alloc (grown_alloc (World.grownBy.refl _ _) _) _, hc.lt, by omega, Nat.le_refl _, by omega, ⟨Nat.zero_le _, Nat.zero_le _, Nat.zero_le _, Nat.zero_le _, Nat.zero_le _, Nat.zero_le _, Nat.zero_le _, Nat.zero_le _, Nat.zero_le _, Nat.zero_le _, fun x h => (by cases h), fun x h => (by cases h)⟩⟩
def names5 : List ByteArray := [⟨#[97, 110, 110]⟩, ⟨#[98, 111, 98]⟩, ⟨#[99, 105, 100]⟩, ⟨#[100, 111, 116]⟩, ⟨#[101, 118, 101]⟩]
theorem names5_size : ∀ s ∈ names5, s.size ≤ 61 := by decide +kernel
set_option maxRecDepth 100000 in
/-- spec.l5Name. -/
theorem nam_sl5Name (g : Nat) (ao : Option Addr) (n cap : Nat) (l : List UInt8) (w : World) (hc : Cur w g ao n cap l) (hn : n ≤ 1048576) :
    Calls Tryz.prog 143 #[.pointer (some ⟨g, 0, none⟩)] w fun e w' => ∃ s : ByteArray, s.size ≤ 61 ∧ e = .returned (.string s) ∧ Cur w' g ao n cap l ∧ w.grownBy w' (some g) := by
  have hlt := hc.lt
  go_enter Tryz.func143, Tryz.ntmps143
  go_wp2_with fail
  refine (str_sl1Str g ao n cap l w.heap.size 5 5 names5 _ (hc.alloc _) hn (by omega) (by omega) rfl (fun i hi => strs_cells w names5 9 i hi) (by omega)).mono ?_
  rintro e w1 ⟨s, hs, rfl, hc1, hg1⟩
  have hz := names5_size s hs
  clear hs
  go_wp2
  go_ret
  exact ⟨s, hz, rfl, hc1, grownBy_trans (World.grownBy_alloc _ _ _) hg1⟩
set_option maxRecDepth 100000 in
set_option maxHeartbeats 4000000 in
theorem l5d_con (g : Nat) (ao : Option Addr) (n cap : Nat) (l : List UInt8) (k : Int) (w : World) (hc : Cur w g ao n cap l) (hn : n ≤ 1048576) (t1 : (k == 1) = true) (t2 : (k == 2) = false) (t3 : (k == 3) = false) (t8 : (k == 8) = false) (t9 : (k == 9) = false) (t10 : (k == 10) = false) (t4 : (k == 4) = false) (t5 : (k == 5) = false) (t6 : (k == 6) = false) (t7 : (k == 7) = false) (t11 : (k == 11) = false) :
    Calls Tryz.prog 109 #[.pointer (some ⟨g, 0, none⟩), .int .i64 k] w fun e w' => ∃ p d, e = .returned (.agg (Pk.cells p)) ∧ POwn w' w.heap.size p d ∧ Pgd 64 p d ∧ Cur w' g ao n cap l ∧ w.grownBy w' (some g) := by
  have s := st_new g ao n cap l k w hc
  clear hc
  go_enter Tryz.func109, Tryz.ntmps109
  go_upto_region 2 with (first | refine var_pk (p := ofT k) rfl rfl ?_ | refine al_pk ?_ | (refine bu_pk (ofT k) (by kernel_rfl) ?_) | fail)
  change Code.wp _ _ _ (Act.mk #[_, _, _, _, _, _, _, _, _, _, _, _, _, _, _, _, _, _, _, _, _, _, _, _, _, _, _, _, _, _, _, _, _, _, _, _, _, _, _, _, _, _, _, _, _, _, _, _, _, _, _, _, _, _, _, _, _, _, _, _, _, _, _, _, _, _, _, _, _, _, _, _, _, _, _, _, _, _, _, _, _, _, _, _, _, _, _, _, _, _, _, _, _, _, _, _, _, _, _, _, _, _, _, _, _, _, _, _, _, _, _, _, _, _, _, _, _, _, _, _, _, _, _, _, _, _, _, _, _, _, _, _, _, _, _, _, _, _, _, _, _, _, _, _, _, _, _, _, _, _, _, _, _, _, _, _, _, _, _, _, _, _, _, _] []) _
  simp only [World.size_alloc]
  go_wp2_with fail
  refine (below_sl1Below g ao n cap l 4 _ s.cur hn (by omega) (by omega)).mono ?_
  rintro e y10_ ⟨x, hx0, hx1, rfl, hc_, hg_⟩
  replace s := s.draw hc_ hg_
  clear hc_ hg_
  have c8 := (s.blk.cell 8).trans (Pk.c8 _)
  have z8 := Lib.frozen_of_heap s.blk 8
  obtain ⟨p, d, s⟩ := st_ex (s.s8 4)
  go_wp2_with fail
  refine (nam_sl5Name g ao n cap l _ s.cur hn).mono ?_
  rintro e y11_ ⟨nm, hnm, rfl, hc_, hg_⟩
  replace s := s.draw hc_ hg_
  clear hc_ hg_
  have c7 := (s.blk.cell 7).trans (Pk.c7 _)
  have z7 := Lib.frozen_of_heap s.blk 7
  obtain ⟨p, d, s⟩ := st_ex (s.s7 nm hnm)
  go_wp2_with fail
  refine (once_sl1Once g ao n cap l 2 _ s.cur hn (by omega) (by omega)).mono ?_
  rintro e y12_ ⟨bc_, rfl, hc_, hg_⟩
  replace s := s.draw hc_ hg_
  clear hc_ hg_
  have c9 := (s.blk.cell 9).trans (Pk.c9 _)
  have z9 := Lib.frozen_of_heap s.blk 9
  obtain ⟨p, d, s⟩ := st_ex (s.s9 bc_)
  have sn := s.new (bel_new _ (.cells (List.map (Value.int .i64) [(0 : Int), (0 : Int), (2 : Int), (10 : Int), (65535 : Int)]).toArray 3))
  have lts := s.cur.lt
  go_wp2_with fail
  refine (int_sl1Int g ao n cap l _ 5 5 [(0 : Int), (0 : Int), (2 : Int), (10 : Int), (65535 : Int)] _ sn.cur hn (by omega) (by omega) rfl (fun i hi => ints_at _ [(0 : Int), (0 : Int), (2 : Int), (10 : Int), (65535 : Int)] _ (by simp) i hi) (by (try simp at lts); omega)).mono ?_
  rintro e y13_ ⟨kk, hkk, rfl, hc_, hg_⟩
  replace s := sn.draw hc_ hg_
  clear hc_ hg_
  clear sn lts
  have c10 := (s.blk.cell 10).trans (Pk.c10 _)
  have z10 := Lib.frozen_of_heap s.blk 10
  obtain ⟨p, d, s⟩ := st_ex (s.s10 kk)
  go_wp2_with fail
  refine (once_sl1Once g ao n cap l 2 _ s.cur hn (by omega) (by omega)).mono ?_
  rintro e y14_ ⟨bw, rfl, hc_, hg_⟩
  replace s := s.draw hc_ hg_
  clear hc_ hg_
  cases bw with
  | false =>
    as_aux_lemma =>
      go_wp2_with fail
      refine (once_sl1Once g ao n cap l 4 _ s.cur hn (by omega) (by omega)).mono ?_
      rintro e y3_ ⟨bu, rfl, hc_, hg_⟩
      replace s := s.draw hc_ hg_
      clear hc_ hg_
      cases bu with
      | false =>
        as_aux_lemma =>
          go_wp2_with (first | refine load_pk s.blk rfl _ rfl rfl ?_ | (refine store_pk2 (q := p) (old := Pk.zero) s.res rfl rfl ?_; intro w9 B9 g9) | fail)
          exact ret_pk rfl rfl B9 rfl ⟨p, d, rfl, s.done g9⟩
      | true =>
        as_aux_lemma =>
          have c16 := (s.blk.cell 16).trans (Pk.c16 _)
          have z16 := Lib.frozen_of_heap s.blk 16
          obtain ⟨p, d, s⟩ := st_ex (s.s16 true)
          have c17 := (s.blk.cell 17).trans (Pk.c17 _)
          have z17 := Lib.frozen_of_heap s.blk 17
          obtain ⟨p, d, s⟩ := st_ex (s.s17 ⟨#[117]⟩ (by decide))
          go_wp2_with fail
          refine (once_sl1Once g ao n cap l 2 _ s.cur hn (by omega) (by omega)).mono ?_
          rintro e y4_ ⟨bp, rfl, hc_, hg_⟩
          replace s := s.draw hc_ hg_
          clear hc_ hg_
          cases bp with
          | false =>
            as_aux_lemma =>
              go_wp2_with (first | refine load_pk s.blk rfl _ rfl rfl ?_ | (refine store_pk2 (q := p) (old := Pk.zero) s.res rfl rfl ?_; intro w9 B9 g9) | fail)
              exact ret_pk rfl rfl B9 rfl ⟨p, d, rfl, s.done g9⟩
          | true =>
            as_aux_lemma =>
              have c18 := (s.blk.cell 18).trans (Pk.c18 _)
              have z18 := Lib.frozen_of_heap s.blk 18
              obtain ⟨p, d, s⟩ := st_ex (s.s18 true)
              go_wp2_with fail
              refine (below_sl1Below g ao n cap l 3 _ s.cur hn (by omega) (by omega)).mono ?_
              rintro e y1_ ⟨x2, hx20, hx21, rfl, hc_, hg_⟩
              replace s := s.draw hc_ hg_
              clear hc_ hg_
              obtain ⟨m, rfl⟩ := Int.eq_ofNat_of_zero_le hx20
              go_wp2_with fail
              refine (bytes_sl1Bytes g ao n cap l m _ s.cur hn (by omega)).mono ?_
              rintro e y2_ ⟨ba, bc, bx, rfl, hb_, hc_, hg_⟩
              have s2_ := s.draw hc_ hg_
              have c19 := (s2_.blk.cell 19).trans (Pk.c19 _)
              have z19 := Lib.frozen_of_heap s2_.blk 19
              obtain ⟨p, d, s⟩ := st_ex (s.n19 hc_ hg_ hb_ (by omega))
              clear hc_ hg_ hb_ s2_
              go_wp2_with (first | refine load_pk s.blk rfl _ rfl rfl ?_ | (refine store_pk2 (q := p) (old := Pk.zero) s.res rfl rfl ?_; intro w9 B9 g9) | fail)
              exact ret_pk rfl rfl B9 rfl ⟨p, d, rfl, s.done g9⟩
  | true =>
    as_aux_lemma =>
      have c11 := (s.blk.cell 11).trans (Pk.c11 _)
      have z11 := Lib.frozen_of_heap s.blk 11
      obtain ⟨p, d, s⟩ := st_ex (s.s11 true)
      go_wp2_with fail
      refine (top_sl3Topic g ao n cap l _ s.cur hn).mono ?_
      rintro e y5_ ⟨wt, hwt, rfl, hc_, hg_⟩
      replace s := s.draw hc_ hg_
      clear hc_ hg_
      have c12 := (s.blk.cell 12).trans (Pk.c12 _)
      have z12 := Lib.frozen_of_heap s.blk 12
      obtain ⟨p, d, s⟩ := st_ex (s.s12 wt hwt)
      go_wp2_with fail
      refine (below_sl1Below g ao n cap l 4 _ s.cur hn (by omega) (by omega)).mono ?_
      rintro e y6_ ⟨x3, hx30, hx31, rfl, hc_, hg_⟩
      replace s := s.draw hc_ hg_
      clear hc_ hg_
      obtain ⟨m, rfl⟩ := Int.eq_ofNat_of_zero_le hx30
      go_wp2_with fail
      refine (bytes_sl1Bytes g ao n cap l m _ s.cur hn (by omega)).mono ?_
      rintro e y7_ ⟨ba, bc, bx, rfl, hb_, hc_, hg_⟩
      have s2_ := s.draw hc_ hg_
      have c13 := (s2_.blk.cell 13).trans (Pk.c13 _)
      have z13 := Lib.frozen_of_heap s2_.blk 13
      obtain ⟨p, d, s⟩ := st_ex (s.n13 hc_ hg_ hb_ (by omega))
      clear hc_ hg_ hb_ s2_
      go_wp2_with fail
      refine (below_sl1Below g ao n cap l 3 _ s.cur hn (by omega) (by omega)).mono ?_
      rintro e y8_ ⟨q, hq0, hq1, rfl, hc_, hg_⟩
      replace s := s.draw hc_ hg_
      clear hc_ hg_
      have c14 := (s.blk.cell 14).trans (Pk.c14 _)
      have z14 := Lib.frozen_of_heap s.blk 14
      obtain ⟨p, d, s⟩ := st_ex (s.s14 q)
      go_wp2_with fail
      refine (once_sl1Once g ao n cap l 3 _ s.cur hn (by omega) (by omega)).mono ?_
      rintro e y9_ ⟨br, rfl, hc_, hg_⟩
      replace s := s.draw hc_ hg_
      clear hc_ hg_
      have c15 := (s.blk.cell 15).trans (Pk.c15 _)
      have z15 := Lib.frozen_of_heap s.blk 15
      obtain ⟨p, d, s⟩ := st_ex (s.s15 br)
      go_wp2_with fail
      refine (once_sl1Once g ao n cap l 4 _ s.cur hn (by omega) (by omega)).mono ?_
      rintro e y3_ ⟨bu, rfl, hc_, hg_⟩
      replace s := s.draw hc_ hg_
      clear hc_ hg_
      cases bu with
      | false =>
        as_aux_lemma =>
          go_wp2_with (first | refine load_pk s.blk rfl _ rfl rfl ?_ | (refine store_pk2 (q := p) (old := Pk.zero) s.res rfl rfl ?_; intro w9 B9 g9) | fail)
          exact ret_pk rfl rfl B9 rfl ⟨p, d, rfl, s.done g9⟩
      | true =>
        as_aux_lemma =>
          have c16 := (s.blk.cell 16).trans (Pk.c16 _)
          have z16 := Lib.frozen_of_heap s.blk 16
          obtain ⟨p, d, s⟩ := st_ex (s.s16 true)
          have c17 := (s.blk.cell 17).trans (Pk.c17 _)
          have z17 := Lib.frozen_of_heap s.blk 17
          obtain ⟨p, d, s⟩ := st_ex (s.s17 ⟨#[117]⟩ (by decide))
          go_wp2_with fail
          refine (once_sl1Once g ao n cap l 2 _ s.cur hn (by omega) (by omega)).mono ?_
          rintro e y4_ ⟨bp, rfl, hc_, hg_⟩
          replace s := s.draw hc_ hg_
          clear hc_ hg_
          cases bp with
          | false =>
            as_aux_lemma =>
              go_wp2_with (first | refine load_pk s.blk rfl _ rfl rfl ?_ | (refine store_pk2 (q := p) (old := Pk.zero) s.res rfl rfl ?_; intro w9 B9 g9) | fail)
              exact ret_pk rfl rfl B9 rfl ⟨p, d, rfl, s.done g9⟩
          | true =>
            as_aux_lemma =>
              have c18 := (s.blk.cell 18).trans (Pk.c18 _)
              have z18 := Lib.frozen_of_heap s.blk 18
              obtain ⟨p, d, s⟩ := st_ex (s.s18 true)
              go_wp2_with fail
              refine (below_sl1Below g ao n cap l 3 _ s.cur hn (by omega) (by omega)).mono ?_
              rintro e y1_ ⟨x2, hx20, hx21, rfl, hc_, hg_⟩
              replace s := s.draw hc_ hg_
              clear hc_ hg_
              obtain ⟨m, rfl⟩ := Int.eq_ofNat_of_zero_le hx20
              go_wp2_with fail
              refine (bytes_sl1Bytes g ao n cap l m _ s.cur hn (by omega)).mono ?_
              rintro e y2_ ⟨ba, bc, bx, rfl, hb_, hc_, hg_⟩
              have s2_ := s.draw hc_ hg_
              have c19 := (s2_.blk.cell 19).trans (Pk.c19 _)
              have z19 := Lib.frozen_of_heap s2_.blk 19
              obtain ⟨p, d, s⟩ := st_ex (s.n19 hc_ hg_ hb_ (by omega))
              clear hc_ hg_ hb_ s2_
              go_wp2_with (first | refine load_pk s.blk rfl _ rfl rfl ?_ | (refine store_pk2 (q := p) (old := Pk.zero) s.res rfl rfl ?_; intro w9 B9 g9) | fail)
              exact ret_pk rfl rfl B9 rfl ⟨p, d, rfl, s.done g9⟩
set_option maxRecDepth 100000 in
set_option maxHeartbeats 4000000 in
theorem l5d_ack (g : Nat) (ao : Option Addr) (n cap : Nat) (l : List UInt8) (k : Int) (w : World) (hc : Cur w g ao n cap l) (hn : n ≤ 1048576) (t1 : (k == 1) = false) (t2 : (k == 2) = true) (t3 : (k == 3) = false) (t8 : (k == 8) = false) (t9 : (k == 9) = false) (t10 : (k == 10) = false) (t4 : (k == 4) = false) (t5 : (k == 5) = false) (t6 : (k == 6) = false) (t7 : (k == 7) = false) (t11 : (k == 11) = false) :
    Calls Tryz.prog 109 #[.pointer (some ⟨g, 0, none⟩), .int .i64 k] w fun e w' => ∃ p d, e = .returned (.agg (Pk.cells p)) ∧ POwn w' w.heap.size p d ∧ Pgd 64 p d ∧ Cur w' g ao n cap l ∧ w.grownBy w' (some g) := by
  have s := st_new g ao n cap l k w hc
  clear hc
  go_enter Tryz.func109, Tryz.ntmps109
  go_upto_region 2 with (first | refine var_pk (p := ofT k) rfl rfl ?_ | refine al_pk ?_ | (refine bu_pk (ofT k) (by kernel_rfl) ?_) | fail)
  change Code.wp _ _ _ (Act.mk #[_, _, _, _, _, _, _, _, _, _, _, _, _, _, _, _, _, _, _, _, _, _, _, _, _, _, _, _, _, _, _, _, _, _, _, _, _, _, _, _, _, _, _, _, _, _, _, _, _, _, _, _, _, _, _, _, _, _, _, _, _, _, _, _, _, _, _, _, _, _, _, _, _, _, _, _, _, _, _, _, _, _, _, _, _, _, _, _, _, _, _, _, _, _, _, _, _, _, _, _, _, _, _, _, _, _, _, _, _, _, _, _, _, _, _, _, _, _, _, _, _, _, _, _, _, _, _, _, _, _, _, _, _, _, _, _, _, _, _, _, _, _, _, _, _, _, _, _, _, _, _, _, _, _, _, _, _, _, _, _, _, _, _, _] []) _
  simp only [World.size_alloc]
  go_wp2_with fail
  refine (below_sl1Below g ao n cap l 4 _ s.cur hn (by omega) (by omega)).mono ?_
  rintro e y15_ ⟨x, hx0, hx1, rfl, hc_, hg_⟩
  replace s := s.draw hc_ hg_
  clear hc_ hg_
  have sn := s.new (bel_new _ (.cells (List.map (Value.int .i64) [(0 : Int), (0 : Int), (0 : Int), (1 : Int), (2 : Int), (5 : Int)]).toArray 3))
  have lts := s.cur.lt
  go_wp2_with fail
  refine (int_sl1Int g ao n cap l _ 6 6 [(0 : Int), (0 : Int), (0 : Int), (1 : Int), (2 : Int), (5 : Int)] _ sn.cur hn (by omega) (by omega) rfl (fun i hi => ints_at _ [(0 : Int), (0 : Int), (0 : Int), (1 : Int), (2 : Int), (5 : Int)] _ (by simp) i hi) (by (try simp at lts); omega)).mono ?_
  rintro e y16_ ⟨cc, hcc, rfl, hc_, hg_⟩
  replace s := sn.draw hc_ hg_
  clear hc_ hg_
  clear sn lts
  have c20 := (s.blk.cell 20).trans (Pk.c20 _)
  have z20 := Lib.frozen_of_heap s.blk 20
  obtain ⟨p, d, s⟩ := st_ex (s.s20 cc)
  clear hcc
  by_cases h0 : cc = 0
  · have e0 : (cc == 0) = true := by simpa using h0
    clear h0
    have c21 := (s.blk.cell 21).trans (Pk.c21 _)
    go_wp2_with fail
    refine (once_sl1Once g ao n cap l 2 _ s.cur hn (by omega) (by omega)).mono ?_
    rintro e y17_ ⟨bb, rfl, hc_, hg_⟩
    replace s := s.draw hc_ hg_
    clear hc_ hg_
    have c21 := (s.blk.cell 21).trans (Pk.c21 _)
    have z21 := Lib.frozen_of_heap s.blk 21
    obtain ⟨p, d, s⟩ := st_ex (s.s21 bb)
    go_wp2_with (first | refine load_pk s.blk rfl _ rfl rfl ?_ | (refine store_pk2 (q := p) (old := Pk.zero) s.res rfl rfl ?_; intro w9 B9 g9) | fail)
    exact ret_pk rfl rfl B9 rfl ⟨p, d, rfl, s.done g9⟩
  · have e0 : (cc == 0) = false := by simpa using h0
    clear h0
    have c21 := (s.blk.cell 21).trans (Pk.c21 _)
    have z21 := Lib.frozen_of_heap s.blk 21
    obtain ⟨p, d, s⟩ := st_ex (s.s21 false)
    go_wp2_with (first | refine load_pk s.blk rfl _ rfl rfl ?_ | (refine store_pk2 (q := p) (old := Pk.zero) s.res rfl rfl ?_; intro w9 B9 g9) | fail)
    exact ret_pk rfl rfl B9 rfl ⟨p, d, rfl, s.done g9⟩
set_option maxRecDepth 100000 in
set_option maxHeartbeats 4000000 in
theorem l5d_pub (g : Nat) (ao : Option Addr) (n cap : Nat) (l : List UInt8) (k : Int) (w : World) (hc : Cur w g ao n cap l) (hn : n ≤ 1048576) (t1 : (k == 1) = false) (t2 : (k == 2) = false) (t3 : (k == 3) = true) (t8 : (k == 8) = false) (t9 : (k == 9) = false) (t10 : (k == 10) = false) (t4 : (k == 4) = false) (t5 : (k == 5) = false) (t6 : (k == 6) = false) (t7 : (k == 7) = false) (t11 : (k == 11) = false) :
    Calls Tryz.prog 109 #[.pointer (some ⟨g, 0, none⟩), .int .i64 k] w fun e w' => ∃ p d, e = .returned (.agg (Pk.cells p)) ∧ POwn w' w.heap.size p d ∧ Pgd 64 p d ∧ Cur w' g ao n cap l ∧ w.grownBy w' (some g) := by
  have s := st_new g ao n cap l k w hc
  clear hc
  go_enter Tryz.func109, Tryz.ntmps109
  go_upto_region 2 with (first | refine var_pk (p := ofT k) rfl rfl ?_ | refine al_pk ?_ | (refine bu_pk (ofT k) (by kernel_rfl) ?_) | fail)
  change Code.wp _ _ _ (Act.mk #[_, _, _, _, _, _, _, _, _, _, _, _, _, _, _, _, _, _, _, _, _, _, _, _, _, _, _, _, _, _, _, _, _, _, _, _, _, _, _, _, _, _, _, _, _, _, _, _, _, _, _, _, _, _, _, _, _, _, _, _, _, _, _, _, _, _, _, _, _, _, _, _, _, _, _, _, _, _, _, _, _, _, _, _, _, _, _, _, _, _, _, _, _, _, _, _, _, _, _, _, _, _, _, _, _, _, _, _, _, _, _, _, _, _, _, _, _, _, _, _, _, _, _, _, _, _, _, _, _, _, _, _, _, _, _, _, _, _, _, _, _, _, _, _, _, _, _, _, _, _, _, _, _, _, _, _, _, _, _, _, _, _, _, _] []) _
  simp only [World.size_alloc]
  go_wp2_with fail
  refine (below_sl1Below g ao n cap l 4 _ s.cur hn (by omega) (by omega)).mono ?_
  rintro e y18_ ⟨x, hx0, hx1, rfl, hc_, hg_⟩
  replace s := s.draw hc_ hg_
  clear hc_ hg_
  go_wp2_with fail
  refine (below_sl1Below g ao n cap l 3 _ s.cur hn (by omega) (by omega)).mono ?_
  rintro e y19_ ⟨q, hq0, hq1, rfl, hc_, hg_⟩
  replace s := s.draw hc_ hg_
  clear hc_ hg_
  have c2 := (s.blk.cell 2).trans (Pk.c2 _)
  have z2 := Lib.frozen_of_heap s.blk 2
  obtain ⟨p, d, s⟩ := st_ex (s.s2 q)
  go_wp2_with fail
  refine (once_sl1Once g ao n cap l 4 _ s.cur hn (by omega) (by omega)).mono ?_
  rintro e y20_ ⟨br, rfl, hc_, hg_⟩
  replace s := s.draw hc_ hg_
  clear hc_ hg_
  have c3 := (s.blk.cell 3).trans (Pk.c3 _)
  have z3 := Lib.frozen_of_heap s.blk 3
  obtain ⟨p, d, s⟩ := st_ex (s.s3 br)
  go_wp2_with fail
  refine (top_sl3Topic g ao n cap l _ s.cur hn).mono ?_
  rintro e y21_ ⟨tt, htt, rfl, hc_, hg_⟩
  replace s := s.draw hc_ hg_
  clear hc_ hg_
  have c5 := (s.blk.cell 5).trans (Pk.c5 _)
  have z5 := Lib.frozen_of_heap s.blk 5
  obtain ⟨p, d, s⟩ := st_ex (s.s5 tt htt)
  have sn := s.new (bel_new _ (.cells (List.map (Value.int .i64) [(0 : Int), (1 : Int), (2 : Int), (40 : Int)]).toArray 3))
  have lts := s.cur.lt
  go_wp2_with fail
  refine (int_sl1Int g ao n cap l _ 4 4 [(0 : Int), (1 : Int), (2 : Int), (40 : Int)] _ sn.cur hn (by omega) (by omega) rfl (fun i hi => ints_at _ [(0 : Int), (1 : Int), (2 : Int), (40 : Int)] _ (by simp) i hi) (by (try simp at lts); omega)).mono ?_
  rintro e y22_ ⟨mm, hmm, rfl, hc_, hg_⟩
  replace s := sn.draw hc_ hg_
  clear hc_ hg_
  clear sn lts
  have hmm2 : 0 ≤ mm ∧ mm ≤ 40 := by simp at hmm; omega
  obtain ⟨m, rfl⟩ := Int.eq_ofNat_of_zero_le hmm2.1
  go_wp2_with fail
  refine (bytes_sl1Bytes g ao n cap l m _ s.cur hn (by omega)).mono ?_
  rintro e y23_ ⟨ba, bc, bx, rfl, hb_, hc_, hg_⟩
  have s2_ := s.draw hc_ hg_
  have c6 := (s2_.blk.cell 6).trans (Pk.c6 _)
  have z6 := Lib.frozen_of_heap s2_.blk 6
  obtain ⟨p, d, s⟩ := st_ex (s.n6 hc_ hg_ hb_ (by omega))
  clear hc_ hg_ hb_ s2_
  have c2 := (s.blk.cell 2).trans (Pk.c2 _)
  by_cases h0 : 0 < p.qos
  · have c4 := (s.blk.cell 4).trans (Pk.c4 _)
    have z4 := Lib.frozen_of_heap s.blk 4
    obtain ⟨p, d, s⟩ := st_ex (s.s4 (1 + x))
    go_wp2_with fail
    refine (once_sl1Once g ao n cap l 4 _ s.cur hn (by omega) (by omega)).mono ?_
    rintro e y24_ ⟨bd, rfl, hc_, hg_⟩
    replace s := s.draw hc_ hg_
    clear hc_ hg_
    have c1 := (s.blk.cell 1).trans (Pk.c1 _)
    have z1 := Lib.frozen_of_heap s.blk 1
    obtain ⟨p, d, s⟩ := st_ex (s.s1 bd)
    go_wp2_with (first | refine load_pk s.blk rfl _ rfl rfl ?_ | (refine store_pk2 (q := p) (old := Pk.zero) s.res rfl rfl ?_; intro w9 B9 g9) | fail)
    exact ret_pk rfl rfl B9 rfl ⟨p, d, rfl, s.done g9⟩
  · go_wp2_with (first | refine load_pk s.blk rfl _ rfl rfl ?_ | (refine store_pk2 (q := p) (old := Pk.zero) s.res rfl rfl ?_; intro w9 B9 g9) | fail)
    exact ret_pk rfl rfl B9 rfl ⟨p, d, rfl, s.done g9⟩
set_option maxRecDepth 100000 in
set_option maxHeartbeats 4000000 in
theorem l5d_id4 (g : Nat) (ao : Option Addr) (n cap : Nat) (l : List UInt8) (k : Int) (w : World) (hc : Cur w g ao n cap l) (hn : n ≤ 1048576) (t1 : (k == 1) = false) (t2 : (k == 2) = false) (t3 : (k == 3) = false) (t8 : (k == 8) = false) (t9 : (k == 9) = false) (t10 : (k == 10) = false) (t4 : (k == 4) = true) (t5 : (k == 5) = false) (t6 : (k == 6) = false) (t7 : (k == 7) = false) (t11 : (k == 11) = false) :
    Calls Tryz.prog 109 #[.pointer (some ⟨g, 0, none⟩), .int .i64 k] w fun e w' => ∃ p d, e = .returned (.agg (Pk.cells p)) ∧ POwn w' w.heap.size p d ∧ Pgd 64 p d ∧ Cur w' g ao n cap l ∧ w.grownBy w' (some g) := by
  have s := st_new g ao n cap l k w hc
  clear hc
  go_enter Tryz.func109, Tryz.ntmps109
  go_upto_region 2 with (first | refine var_pk (p := ofT k) rfl rfl ?_ | refine al_pk ?_ | (refine bu_pk (ofT k) (by kernel_rfl) ?_) | fail)
  change Code.wp _ _ _ (Act.mk #[_, _, _, _, _, _, _, _, _, _, _, _, _, _, _, _, _, _, _, _, _, _, _, _, _, _, _, _, _, _, _, _, _, _, _, _, _, _, _, _, _, _, _, _, _, _, _, _, _, _, _, _, _, _, _, _, _, _, _, _, _, _, _, _, _, _, _, _, _, _, _, _, _, _, _, _, _, _, _, _, _, _, _, _, _, _, _, _, _, _, _, _, _, _, _, _, _, _, _, _, _, _, _, _, _, _, _, _, _, _, _, _, _, _, _, _, _, _, _, _, _, _, _, _, _, _, _, _, _, _, _, _, _, _, _, _, _, _, _, _, _, _, _, _, _, _, _, _, _, _, _, _, _, _, _, _, _, _, _, _, _, _, _, _] []) _
  simp only [World.size_alloc]
  go_wp2_with fail
  refine (below_sl1Below g ao n cap l 4 _ s.cur hn (by omega) (by omega)).mono ?_
  rintro e y25_ ⟨x, hx0, hx1, rfl, hc_, hg_⟩
  replace s := s.draw hc_ hg_
  clear hc_ hg_
  have c4 := (s.blk.cell 4).trans (Pk.c4 _)
  have z4 := Lib.frozen_of_heap s.blk 4
  obtain ⟨p, d, s⟩ := st_ex (s.s4 (1 + x))
  go_wp2_with (first | refine load_pk s.blk rfl _ rfl rfl ?_ | (refine store_pk2 (q := p) (old := Pk.zero) s.res rfl rfl ?_; intro w9 B9 g9) | fail)
  exact ret_pk rfl rfl B9 rfl ⟨p, d, rfl, s.done g9⟩
set_option maxRecDepth 100000 in
set_option maxHeartbeats 4000000 in
theorem l5d_id5 (g : Nat) (ao : Option Addr) (n cap : Nat) (l : List UInt8) (k : Int) (w : World) (hc : Cur w g ao n cap l) (hn : n ≤ 1048576) (t1 : (k == 1) = false) (t2 : (k == 2) = false) (t3 : (k == 3) = false) (t8 : (k == 8) = false) (t9 : (k == 9) = false) (t10 : (k == 10) = false) (t4 : (k == 4) = false) (t5 : (k == 5) = true) (t6 : (k == 6) = false) (t7 : (k == 7) = false) (t11 : (k == 11) = false) :
    Calls Tryz.prog 109 #[.pointer (some ⟨g, 0, none⟩), .int .i64 k] w fun e w' => ∃ p d, e = .returned (.agg (Pk.cells p)) ∧ POwn w' w.heap.size p d ∧ Pgd 64 p d ∧ Cur w' g ao n cap l ∧ w.grownBy w' (some g) := by
  have s := st_new g ao n cap l k w hc
  clear hc
  go_enter Tryz.func109, Tryz.ntmps109
  go_upto_region 2 with (first | refine var_pk (p := ofT k) rfl rfl ?_ | refine al_pk ?_ | (refine bu_pk (ofT k) (by kernel_rfl) ?_) | fail)
  change Code.wp _ _ _ (Act.mk #[_, _, _, _, _, _, _, _, _, _, _, _, _, _, _, _, _, _, _, _, _, _, _, _, _, _, _, _, _, _, _, _, _, _, _, _, _, _, _, _, _, _, _, _, _, _, _, _, _, _, _, _, _, _, _, _, _, _, _, _, _, _, _, _, _, _, _, _, _, _, _, _, _, _, _, _, _, _, _, _, _, _, _, _, _, _, _, _, _, _, _, _, _, _, _, _, _, _, _, _, _, _, _, _, _, _, _, _, _, _, _, _, _, _, _, _, _, _, _, _, _, _, _, _, _, _, _, _, _, _, _, _, _, _, _, _, _, _, _, _, _, _, _, _, _, _, _, _, _, _, _, _, _, _, _, _, _, _, _, _, _, _, _, _] []) _
  simp only [World.size_alloc]
  go_wp2_with fail
  refine (below_sl1Below g ao n cap l 4 _ s.cur hn (by omega) (by omega)).mono ?_
  rintro e y26_ ⟨x, hx0, hx1, rfl, hc_, hg_⟩
  replace s := s.draw hc_ hg_
  clear hc_ hg_
  have c4 := (s.blk.cell 4).trans (Pk.c4 _)
  have z4 := Lib.frozen_of_heap s.blk 4
  obtain ⟨p, d, s⟩ := st_ex (s.s4 (1 + x))
  go_wp2_with (first | refine load_pk s.blk rfl _ rfl rfl ?_ | (refine store_pk2 (q := p) (old := Pk.zero) s.res rfl rfl ?_; intro w9 B9 g9) | fail)
  exact ret_pk rfl rfl B9 rfl ⟨p, d, rfl, s.done g9⟩
set_option maxRecDepth 100000 in
set_option maxHeartbeats 4000000 in
theorem l5d_id6 (g : Nat) (ao : Option Addr) (n cap : Nat) (l : List UInt8) (k : Int) (w : World) (hc : Cur w g ao n cap l) (hn : n ≤ 1048576) (t1 : (k == 1) = false) (t2 : (k == 2) = false) (t3 : (k == 3) = false) (t8 : (k == 8) = false) (t9 : (k == 9) = false) (t10 : (k == 10) = false) (t4 : (k == 4) = false) (t5 : (k == 5) = false) (t6 : (k == 6) = true) (t7 : (k == 7) = false) (t11 : (k == 11) = false) :
    Calls Tryz.prog 109 #[.pointer (some ⟨g, 0, none⟩), .int .i64 k] w fun e w' => ∃ p d, e = .returned (.agg (Pk.cells p)) ∧ POwn w' w.heap.size p d ∧ Pgd 64 p d ∧ Cur w' g ao n cap l ∧ w.grownBy w' (some g) := by
  have s := st_new g ao n cap l k w hc
  clear hc
  go_enter Tryz.func109, Tryz.ntmps109
  go_upto_region 2 with (first | refine var_pk (p := ofT k) rfl rfl ?_ | refine al_pk ?_ | (refine bu_pk (ofT k) (by kernel_rfl) ?_) | fail)
  change Code.wp _ _ _ (Act.mk #[_, _, _, _, _, _, _, _, _, _, _, _, _, _, _, _, _, _, _, _, _, _, _, _, _, _, _, _, _, _, _, _, _, _, _, _, _, _, _, _, _, _, _, _, _, _, _, _, _, _, _, _, _, _, _, _, _, _, _, _, _, _, _, _, _, _, _, _, _, _, _, _, _, _, _, _, _, _, _, _, _, _, _, _, _, _, _, _, _, _, _, _, _, _, _, _, _, _, _, _, _, _, _, _, _, _, _, _, _, _, _, _, _, _, _, _, _, _, _, _, _, _, _, _, _, _, _, _, _, _, _, _, _, _, _, _, _, _, _, _, _, _, _, _, _, _, _, _, _, _, _, _, _, _, _, _, _, _, _, _, _, _, _, _] []) _
  simp only [World.size_alloc]
  go_wp2_with fail
  refine (below_sl1Below g ao n cap l 4 _ s.cur hn (by omega) (by omega)).mono ?_
  rintro e y27_ ⟨x, hx0, hx1, rfl, hc_, hg_⟩
  replace s := s.draw hc_ hg_
  clear hc_ hg_
  have c4 := (s.blk.cell 4).trans (Pk.c4 _)
  have z4 := Lib.frozen_of_heap s.blk 4
  obtain ⟨p, d, s⟩ := st_ex (s.s4 (1 + x))
  go_wp2_with (first | refine load_pk s.blk rfl _ rfl rfl ?_ | (refine store_pk2 (q := p) (old := Pk.zero) s.res rfl rfl ?_; intro w9 B9 g9) | fail)
  exact ret_pk rfl rfl B9 rfl ⟨p, d, rfl, s.done g9⟩
set_option maxRecDepth 100000 in
set_option maxHeartbeats 4000000 in
theorem l5d_id7 (g : Nat) (ao : Option Addr) (n cap : Nat) (l : List UInt8) (k : Int) (w : World) (hc : Cur w g ao n cap l) (hn : n ≤ 1048576) (t1 : (k == 1) = false) (t2 : (k == 2) = false) (t3 : (k == 3) = false) (t8 : (k == 8) = false) (t9 : (k == 9) = false) (t10 : (k == 10) = false) (t4 : (k == 4) = false) (t5 : (k == 5) = false) (t6 : (k == 6) = false) (t7 : (k == 7) = true) (t11 : (k == 11) = false) :
    Calls Tryz.prog 109 #[.pointer (some ⟨g, 0, none⟩), .int .i64 k] w fun e w' => ∃ p d, e = .returned (.agg (Pk.cells p)) ∧ POwn w' w.heap.size p d ∧ Pgd 64 p d ∧ Cur w' g ao n cap l ∧ w.grownBy w' (some g) := by
  have s := st_new g ao n cap l k w hc
  clear hc
  go_enter Tryz.func109, Tryz.ntmps109
  go_upto_region 2 with (first | refine var_pk (p := ofT k) rfl rfl ?_ | refine al_pk ?_ | (refine bu_pk (ofT k) (by kernel_rfl) ?_) | fail)
  change Code.wp _ _ _ (Act.mk #[_, _, _, _, _, _, _, _, _, _, _, _, _, _, _, _, _, _, _, _, _, _, _, _, _, _, _, _, _, _, _, _, _, _, _, _, _, _, _, _, _, _, _, _, _, _, _, _, _, _, _, _, _, _, _, _, _, _, _, _, _, _, _, _, _, _, _, _, _, _, _, _, _, _, _, _, _, _, _, _, _, _, _, _, _, _, _, _, _, _, _, _, _, _, _, _, _, _, _, _, _, _, _, _, _, _, _, _, _, _, _, _, _, _, _, _, _, _, _, _, _, _, _, _, _, _, _, _, _, _, _, _, _, _, _, _, _, _, _, _, _, _, _, _, _, _, _, _, _, _, _, _, _, _, _, _, _, _, _, _, _, _, _, _] []) _
  simp only [World.size_alloc]
  go_wp2_with fail
  refine (below_sl1Below g ao n cap l 4 _ s.cur hn (by omega) (by omega)).mono ?_
  rintro e y28_ ⟨x, hx0, hx1, rfl, hc_, hg_⟩
  replace s := s.draw hc_ hg_
  clear hc_ hg_
  have c4 := (s.blk.cell 4).trans (Pk.c4 _)
  have z4 := Lib.frozen_of_heap s.blk 4
  obtain ⟨p, d, s⟩ := st_ex (s.s4 (1 + x))
  go_wp2_with (first | refine load_pk s.blk rfl _ rfl rfl ?_ | (refine store_pk2 (q := p) (old := Pk.zero) s.res rfl rfl ?_; intro w9 B9 g9) | fail)
  exact ret_pk rfl rfl B9 rfl ⟨p, d, rfl, s.done g9⟩
set_option maxRecDepth 100000 in
set_option maxHeartbeats 4000000 in
theorem l5d_id11 (g : Nat) (ao : Option Addr) (n cap : Nat) (l : List UInt8) (k : Int) (w : World) (hc : Cur w g ao n cap l) (hn : n ≤ 1048576) (t1 : (k == 1) = false) (t2 : (k == 2) = false) (t3 : (k == 3) = false) (t8 : (k == 8) = false) (t9 : (k == 9) = false) (t10 : (k == 10) = false) (t4 : (k == 4) = false) (t5 : (k == 5) = false) (t6 : (k == 6) = false) (t7 : (k == 7) = false) (t11 : (k == 11) = true) :
    Calls Tryz.prog 109 #[.pointer (some ⟨g, 0, none⟩), .int .i64 k] w fun e w' => ∃ p d, e = .returned (.agg (Pk.cells p)) ∧ POwn w' w.heap.size p d ∧ Pgd 64 p d ∧ Cur w' g ao n cap l ∧ w.grownBy w' (some g) := by
  have s := st_new g ao n cap l k w hc
  clear hc
  go_enter Tryz.func109, Tryz.ntmps109
  go_upto_region 2 with (first | refine var_pk (p := ofT k) rfl rfl ?_ | refine al_pk ?_ | (refine bu_pk (ofT k) (by kernel_rfl) ?_) | fail)
  change Code.wp _ _ _ (Act.mk #[_, _, _, _, _, _, _, _, _, _, _, _, _, _, _, _, _, _, _, _, _, _, _, _, _, _, _, _, _, _, _, _, _, _, _, _, _, _, _, _, _, _, _, _, _, _, _, _, _, _, _, _, _, _, _, _, _, _, _, _, _, _, _, _, _, _, _, _, _, _, _, _, _, _, _, _, _, _, _, _, _, _, _, _, _, _, _, _, _, _, _, _, _, _, _, _, _, _, _, _, _, _, _, _, _, _, _, _, _, _, _, _, _, _, _, _, _, _, _, _, _, _, _, _, _, _, _, _, _, _, _, _, _, _, _, _, _, _, _, _, _, _, _, _, _, _, _, _, _, _, _, _, _, _, _, _, _, _, _, _, _, _, _, _] []) _
  simp only [World.size_alloc]
  go_wp2_with fail
  refine (below_sl1Below g ao n cap l 4 _ s.cur hn (by omega) (by omega)).mono ?_
  rintro e y29_ ⟨x, hx0, hx1, rfl, hc_, hg_⟩
  replace s := s.draw hc_ hg_
  clear hc_ hg_
  have c4 := (s.blk.cell 4).trans (Pk.c4 _)
  have z4 := Lib.frozen_of_heap s.blk 4
  obtain ⟨p, d, s⟩ := st_ex (s.s4 (1 + x))
  go_wp2_with (first | refine load_pk s.blk rfl _ rfl rfl ?_ | (refine store_pk2 (q := p) (old := Pk.zero) s.res rfl rfl ?_; intro w9 B9 g9) | fail)
  exact ret_pk rfl rfl B9 rfl ⟨p, d, rfl, s.done g9⟩
set_option maxRecDepth 100000 in
set_option maxHeartbeats 4000000 in
theorem l5d_no (g : Nat) (ao : Option Addr) (n cap : Nat) (l : List UInt8) (k : Int) (w : World) (hc : Cur w g ao n cap l) (hn : n ≤ 1048576) (t1 : (k == 1) = false) (t2 : (k == 2) = false) (t3 : (k == 3) = false) (t8 : (k == 8) = false) (t9 : (k == 9) = false) (t10 : (k == 10) = false) (t4 : (k == 4) = false) (t5 : (k == 5) = false) (t6 : (k == 6) = false) (t7 : (k == 7) = false) (t11 : (k == 11) = false) :
    Calls Tryz.prog 109 #[.pointer (some ⟨g, 0, none⟩), .int .i64 k] w fun e w' => ∃ p d, e = .returned (.agg (Pk.cells p)) ∧ POwn w' w.heap.size p d ∧ Pgd 64 p d ∧ Cur w' g ao n cap l ∧ w.grownBy w' (some g) := by
  have s := st_new g ao n cap l k w hc
  clear hc
  go_enter Tryz.func109, Tryz.ntmps109
  go_upto_region 2 with (first | refine var_pk (p := ofT k) rfl rfl ?_ | refine al_pk ?_ | (refine bu_pk (ofT k) (by kernel_rfl) ?_) | fail)
  change Code.wp _ _ _ (Act.mk #[_, _, _, _, _, _, _, _, _, _, _, _, _, _, _, _, _, _, _, _, _, _, _, _, _, _, _, _, _, _, _, _, _, _, _, _, _, _, _, _, _, _, _, _, _, _, _, _, _, _, _, _, _, _, _, _, _, _, _, _, _, _, _, _, _, _, _, _, _, _, _, _, _, _, _, _, _, _, _, _, _, _, _, _, _, _, _, _, _, _, _, _, _, _, _, _, _, _, _, _, _, _, _, _, _, _, _, _, _, _, _, _, _, _, _, _, _, _, _, _, _, _, _, _, _, _, _, _, _, _, _, _, _, _, _, _, _, _, _, _, _, _, _, _, _, _, _, _, _, _, _, _, _, _, _, _, _, _, _, _, _, _, _, _] []) _
  simp only [World.size_alloc]
  go_wp2_with fail
  refine (below_sl1Below g ao n cap l 4 _ s.cur hn (by omega) (by omega)).mono ?_
  rintro e y30_ ⟨x, hx0, hx1, rfl, hc_, hg_⟩
  replace s := s.draw hc_ hg_
  clear hc_ hg_
  go_wp2_with (first | refine load_pk s.blk rfl _ rfl rfl ?_ | (refine store_pk2 (q := ofT k) (old := Pk.zero) s.res rfl rfl ?_; intro w9 B9 g9) | fail)
  exact ret_pk rfl rfl B9 rfl ⟨ofT k, dnil, rfl, s.done g9⟩
end Go.Proofs.YtccjiicjlifmiaaGreatDoor
