/- FnPackets: whatever it is handed, the law function laws.FnPackets returns true, and its arguments read afterwards as before. No condition. -/
import Derived.Test.YtccjiicjlifmiaaGreatDoorRows
import Derived.Test.YtccjiicjlifmiaaGreatDoorDrP
import Derived.Test.YtccjiicjlifmiaaGreatDoorSameI
import Derived.Test.YtccjiicjlifmiaaGreatDoorSOk5
import Derived.Test.YtccjiicjlifmiaaGreatDoorPut
import Derived.Test.YtccjiicjlifmiaaGreatDoorWid
import Derived.Test.YtccjiicjlifmiaaGreatDoorTie
import Derived.Test.YtccjiicjlifmiaaGreatDoorCards
import Derived.LaidMore
import Derived.Lay
import Derived.SevenTiedAt
import Derived.Stop.Joined
import Derived.OpenVars
import Derived.WalkKit
import Derived.ProofKit
import Derived.OpenShut
import Derived.ShutString
import Derived.ChangeOld
import Derived.Below
import Derived.Deep.Strs
namespace Go.Proofs.YtccjiicjlifmiaaGreatDoor
open Go.ChangeShapes Go.WideShapes Go.ChangeAt Go.RowKit
open Go.ChangeMaps (open_string shut_string)
set_option linter.unusedVariables false
set_option linter.unusedSimpArgs false

theorem cfp_iok (xs : Array Value) (u : World) : (callFunc 16 xs).run Tryz.prog u = .ok (.enter 16 xs) u := by kernel_rfl
theorem cfp_sok (xs : Array Value) (u : World) : (callFunc 17 xs).run Tryz.prog u = .ok (.enter 17 xs) u := by kernel_rfl
theorem cfp_same (xs : Array Value) (u : World) : (callFunc 18 xs).run Tryz.prog u = .ok (.enter 18 xs) u := by kernel_rfl
theorem cfp_name (xs : Array Value) (u : World) : (callFunc 22 xs).run Tryz.prog u = .ok (.enter 22 xs) u := by kernel_rfl
theorem cfp_swid (xs : Array Value) (u : World) : (callFunc 23 xs).run Tryz.prog u = .ok (.enter 23 xs) u := by kernel_rfl
theorem pgd_sz {p : Pk} {d : Pd} {m : Nat} (h : Pgd m p d) : Psz p d := ⟨Nat.le_trans h.top (by decide), Nat.le_trans h.cli (by decide), Nat.le_trans h.wt (by decide), Nat.le_trans h.us (by decide), fun x hx => Nat.le_trans (h.wans x hx) (by decide), fun x hx => Nat.le_trans (h.nams x hx) (by decide)⟩
theorem pgd_ln {p : Pk} {d : Pd} (h : Pgd 256 p d) : Plen p 1048576 := ⟨Nat.le_trans h.bod (by decide), Nat.le_trans h.wb (by decide), Nat.le_trans h.pa (by decide), Nat.le_trans h.wan (by decide), Nat.le_trans h.nam (by decide), Nat.le_trans h.cds (by decide)⟩
theorem name_some {n : Int} (h : 1 ≤ n ∧ n ≤ 14) : nameOf n ≠ ⟨#[]⟩ := by
  rcases kinds14 h with rfl | rfl | rfl | rfl | rfl | rfl | rfl | rfl | rfl | rfl | rfl | rfl | rfl | rfl <;> decide +kernel
set_option maxRecDepth 100000 in
theorem idx_first (b off n c : Nat) (h : 0 < n) (u : World) : (Instr.indexAt 22 (.slice (some ⟨b, off, none⟩) n c) (.int .i64 0)).run Tryz.prog u = .ok (.pointer (some ⟨b, off, none⟩)) u := by
  have h1 : (0 : Int) < n := by omega
  have h3 : n ≠ 0 := by omega
  have h2 : (sizeOf (Tryz.prog.elem 22)).run Tryz.prog u = .ok 1 u := by kernel_rfl
  simp [Instr.indexAt, Instr.index, go_sem, Tryz.underlying22, h1, h2, h3, Addr.add]
set_option maxRecDepth 100000 in
set_option maxHeartbeats 8000000 in
theorem pk_core (a0 : Option Addr) (len0 cap0 : Nat) (l : List UInt8) (w : World) (hN : Named w) (h0 : 0 < w.heap.size) (w0 : RdIn w a0 len0 cap0 l) :
    Calls Tryz.prog 3 #[.slice a0 len0 cap0] w fun e w' => e = .returned (.bool true) ∧ Below w.heap.size w w' := by
  by_cases hbig : 1048576 < len0
  · go_enter Tryz.func3, Tryz.ntmps3
    go_wp2_with fail
    refine (big_lbig _ _ _ true _ (decide_eq_true hbig)).mono ?_
    rintro e u ⟨rfl, rfl⟩
    go_wp2
    go_ret
    exact ⟨rfl, Below.refl _ _⟩
  go_enter Tryz.func3, Tryz.ntmps3
  go_wp2_with fail
  refine (big_lbig _ _ _ false _ (decide_eq_false hbig)).mono ?_
  rintro e u ⟨rfl, hu⟩
  rw [hu]
  go_wp2_with fail
  refine (draw_sDrawPutPacket _ _ _ l _ w0 (by omega)).mono ?_
  rintro e u1 ⟨p, d, rfl, hp, hd, hb⟩
  have hsz := pgd_sz hd
  have hln := pgd_ln hd
  have A : Blk (u1.alloc (.cells p.cells 28)) u1.heap.size p := heap_alloc_new _ _
  have hP : PRd (u1.alloc (.cells p.cells 28)) p d := hp.rd.below (bel_new u1 (.cells p.cells 28))
  have w1 := w0.below hb
  replace w1 := w1.below (bel_new u1 (.cells p.cells 28))
  replace hb := bel hb (bel_new u1 (.cells p.cells 28))
  clear hp hd w0
  go_wp2_with (first | refine var_pk (p := p) rfl rfl ?_ | refine load_pk A rfl _ rfl rfl ?_ | fail)
  refine (put_iPutPacket p d _ hP hsz hln).mono ?_
  rintro e u2 ⟨ab, nb, cb, rfl, hO, hb2⟩
  generalize u1.heap.size = g3 at *
  replace A := A.next hb2
  replace hP := hP.below hb2
  replace hb := bel hb hb2
  replace w1 := w1.below hb2
  have hR := hO.rd
  clear hO hb2
  go_wp2
  refine region_facts_g (by kernel_rfl) rfl (fun i u x => match i with
    | 0 => u = .agg p.cells
    | 1 => u = .bool (pv p d).ok
    | 2 => u = .agg p.cells
    | 3 => u = .bool (pv p d).ok
    | 4 => u = .bool false
    | 5 => u = .bool false
    | 6 => u = .agg p.cells
    | 7 => u = .agg p.cells
    | 8 => u = .bool true
    | 9 => u = .bool false
    | 10 => u = .bool false
    | _ => True) ?_ ?_ ?_
  · intro i u x x' hx h
    match i, h with
    | 0, h => exact h
    | 1, h => exact h
    | 2, h => exact h
    | 3, h => exact h
    | 4, h => exact h
    | 5, h => exact h
    | 6, h => exact h
    | 7, h => exact h
    | 8, h => exact h
    | 9, h => exact h
    | 10, h => exact h
    | (_ + 11), h => trivial
  · intro i o a u hi hk hbu hdep
    match i, hi with
    | 0, hi =>
      cases hi
      exact g_run (wanted_none rfl _) (st_loadP (A.next hbu) _ rfl (eval_at ((hk.at 3 rfl).trans rfl)) ⟨_, rfl, Below.refl _ _, rfl⟩)
    | 1, hi =>
      cases hi
      obtain ⟨z0, hz0, rfl⟩ := hdep 0 _ _ rfl rfl rfl
      refine g_run (wanted_none rfl _) (st_call (exec_call1 _ _ _ _ _ _ cfp_iok (eval_at hz0) (fun _ => rfl) _ _ _ _ _ _) ?_)
      refine (ok_iPacketOk p d u (hP.below hbu) hsz).mono ?_
      rintro e u' ⟨rfl, hb'⟩
      exact ⟨_, rfl, _, rfl, hb', rfl⟩
    | 2, hi =>
      cases hi
      exact g_run (wanted_none rfl _) (st_loadP (A.next hbu) _ rfl (eval_at ((hk.at 3 rfl).trans rfl)) ⟨_, rfl, Below.refl _ _, rfl⟩)
    | 3, hi =>
      cases hi
      obtain ⟨z2, hz2, rfl⟩ := hdep 2 _ _ rfl rfl rfl
      refine g_run (wanted_none rfl _) (st_call (exec_call1 _ _ _ _ _ _ cfp_sok (eval_at hz2) (fun _ => rfl) _ _ _ _ _ _) ?_)
      refine (ok_sPacketOk p d u (hP.below hbu) hsz).mono ?_
      rintro e u' ⟨rfl, hb'⟩
      exact ⟨_, rfl, _, rfl, hb', rfl⟩
    | 4, hi =>
      cases hi
      obtain ⟨z1, hz1, rfl⟩ := hdep 1 _ _ rfl rfl rfl
      obtain ⟨z3, hz3, rfl⟩ := hdep 3 _ _ rfl rfl rfl
      exact g_run (wanted_none rfl _) (z_bin _ _ _ _ _ rfl (eval_at hz1) (eval_at hz3) (neb_same _ _ _ _) ⟨_, rfl, Below.refl _ _, rfl⟩)
    | 5, hi =>
      cases hi
      obtain ⟨z4, hz4, rfl⟩ := hdep 4 _ _ rfl rfl rfl
      exact g_run (wanted_none rfl _) (z_move _ rfl (eval_at hz4) ⟨_, rfl, Below.refl _ _, rfl⟩)
    | 6, hi =>
      cases hi
      obtain ⟨z5, hz5, rfl⟩ := hdep 5 _ _ rfl rfl rfl
      exact g_run (wanted_is rfl (yields rfl hz5)) (st_loadP (A.next hbu) _ rfl (eval_at ((hk.at 3 rfl).trans rfl)) ⟨_, rfl, Below.refl _ _, rfl⟩)
    | 7, hi =>
      cases hi
      obtain ⟨z5, hz5, rfl⟩ := hdep 5 _ _ rfl rfl rfl
      exact g_run (wanted_is rfl (yields rfl hz5)) (st_loadP (A.next hbu) _ rfl (eval_at ((hk.at 3 rfl).trans rfl)) ⟨_, rfl, Below.refl _ _, rfl⟩)
    | 8, hi =>
      cases hi
      obtain ⟨z5, hz5, rfl⟩ := hdep 5 _ _ rfl rfl rfl
      obtain ⟨z6, hz6, rfl⟩ := hdep 6 _ _ rfl rfl rfl
      obtain ⟨z7, hz7, rfl⟩ := hdep 7 _ _ rfl rfl rfl
      refine g_run (wanted_is rfl (yields rfl hz5)) (st_call (exec_call2 _ _ _ _ _ _ _ _ cfp_same (eval_at hz6) (eval_at hz7) (fun _ => rfl) _ _ _ _ _ _) ?_)
      refine (same_iSamePacket p p d d u (hP.below hbu) (hP.below hbu)).mono ?_
      rintro e u' ⟨rfl, hb'⟩
      exact ⟨_, rfl, _, rfl, hb', by simp⟩
    | 9, hi =>
      cases hi
      obtain ⟨z5, hz5, rfl⟩ := hdep 5 _ _ rfl rfl rfl
      obtain ⟨z8, hz8, rfl⟩ := hdep 8 _ _ rfl rfl rfl
      exact g_run (wanted_is rfl (yields rfl hz5)) (z_not _ _ rfl (eval_at hz8) ⟨_, rfl, Below.refl _ _, rfl⟩)
    | 10, hi =>
      cases hi
      obtain ⟨z5, hz5, rfl⟩ := hdep 5 _ _ rfl rfl rfl
      obtain ⟨z9, hz9, rfl⟩ := hdep 9 _ _ rfl rfl rfl
      exact g_run (wanted_none rfl _) (z_pickF _ _ _ rfl (eval_at hz5) (eval_at hz9) ⟨_, rfl, Below.refl _ _, rfl⟩)
    | (_ + 11), hi => cases hi
  intro vs y3 b3 hG a3 h3
  have e10 := hG 10 (by decide)
  replace e10 : vs 10 = .bool false := e10
  clear hG
  replace A := A.next b3
  replace hP := hP.below b3
  replace hb := bel hb b3
  replace w1 := w1.below b3
  replace hR := hR.below b3
  clear b3
  replace h3 : puts _ 1 _ (Act.mk #[_, _, _, _, _, _, _, _, _, _, _, _, _, _, _, _, _, _, _, _, _, _, _, _, _, _, _, _, _, _, _, _, _, _, _, _, _, _, _, _, _, _, _, _, _, _, _, _, _, _, _, _, _, _, _, _, _, _, _, _, _, _, _, _, _, _, _, _, _, _, _, _, _, _, _, _, _, _, _, _, _, _, _, _, _, _, _, _, _, _, _, _, _, _, _, _, _, _, _, _, _, _, _, _, _, _, _] []) = _ := h3
  replace h3 : puts _ 2 _ (Act.mk #[_, _, _, _, _, _, _, _, _, _, _, _, _, _, _, _, _, _, _, _, _, _, _, _, _, _, _, _, _, _, _, _, _, _, _, _, _, _, _, _, _, _, _, _, _, _, _, _, _, _, _, _, _, _, _, _, _, _, _, _, _, _, _, _, _, _, _, _, _, _, _, _, _, _, _, _, _, _, _, _, _, _, _, _, _, _, _, _, _, _, _, _, _, _, _, _, _, _, _, _, _, _, _, _, _, _, _] []) = _ := h3
  replace h3 : puts _ 3 _ (Act.mk #[_, _, _, _, _, _, _, _, _, _, _, _, _, _, _, _, _, _, _, _, _, _, _, _, _, _, _, _, _, _, _, _, _, _, _, _, _, _, _, _, _, _, _, _, _, _, _, _, _, _, _, _, _, _, _, _, _, _, _, _, _, _, _, _, _, _, _, _, _, _, _, _, _, _, _, _, _, _, _, _, _, _, _, _, _, _, _, _, _, _, _, _, _, _, _, _, _, _, _, _, _, _, _, _, _, _, _] []) = _ := h3
  replace h3 : puts _ 4 _ (Act.mk #[_, _, _, _, _, _, _, _, _, _, _, _, _, _, _, _, _, _, _, _, _, _, _, _, _, _, _, _, _, _, _, _, _, _, _, _, _, _, _, _, _, _, _, _, _, _, _, _, _, _, _, _, _, _, _, _, _, _, _, _, _, _, _, _, _, _, _, _, _, _, _, _, _, _, _, _, _, _, _, _, _, _, _, _, _, _, _, _, _, _, _, _, _, _, _, _, _, _, _, _, _, _, _, _, _, _, _] []) = _ := h3
  replace h3 : puts _ 5 _ (Act.mk #[_, _, _, _, _, _, _, _, _, _, _, _, _, _, _, _, _, _, _, _, _, _, _, _, _, _, _, _, _, _, _, _, _, _, _, _, _, _, _, _, _, _, _, _, _, _, _, _, _, _, _, _, _, _, _, _, _, _, _, _, _, _, _, _, _, _, _, _, _, _, _, _, _, _, _, _, _, _, _, _, _, _, _, _, _, _, _, _, _, _, _, _, _, _, _, _, _, _, _, _, _, _, _, _, _, _, _] []) = _ := h3
  replace h3 : puts _ 6 _ (Act.mk #[_, _, _, _, _, _, _, _, _, _, _, _, _, _, _, _, _, _, _, _, _, _, _, _, _, _, _, _, _, _, _, _, _, _, _, _, _, _, _, _, _, _, _, _, _, _, _, _, _, _, _, _, _, _, _, _, _, _, _, _, _, _, _, _, _, _, _, _, _, _, _, _, _, _, _, _, _, _, _, _, _, _, _, _, _, _, _, _, _, _, _, _, _, _, _, _, _, _, _, _, _, _, _, _, _, _, _] []) = _ := h3
  replace h3 : puts _ 7 _ (Act.mk #[_, _, _, _, _, _, _, _, _, _, _, _, _, _, _, _, _, _, _, _, _, _, _, _, _, _, _, _, _, _, _, _, _, _, _, _, _, _, _, _, _, _, _, _, _, _, _, _, _, _, _, _, _, _, _, _, _, _, _, _, _, _, _, _, _, _, _, _, _, _, _, _, _, _, _, _, _, _, _, _, _, _, _, _, _, _, _, _, _, _, _, _, _, _, _, _, _, _, _, _, _, _, _, _, _, _, _] []) = _ := h3
  replace h3 : puts _ 8 _ (Act.mk #[_, _, _, _, _, _, _, _, _, _, _, _, _, _, _, _, _, _, _, _, _, _, _, _, _, _, _, _, _, _, _, _, _, _, _, _, _, _, _, _, _, _, _, _, _, _, _, _, _, _, _, _, _, _, _, _, _, _, _, _, _, _, _, _, _, _, _, _, _, _, _, _, _, _, _, _, _, _, _, _, _, _, _, _, _, _, _, _, _, _, _, _, _, _, _, _, _, _, _, _, _, _, _, _, _, _, _] []) = _ := h3
  replace h3 : puts _ 9 _ (Act.mk #[_, _, _, _, _, _, _, _, _, _, _, _, _, _, _, _, _, _, _, _, _, _, _, _, _, _, _, _, _, _, _, _, _, _, _, _, _, _, _, _, _, _, _, _, _, _, _, _, _, _, _, _, _, _, _, _, _, _, _, _, _, _, _, _, _, _, _, _, _, _, _, _, _, _, _, _, _, _, _, _, _, _, _, _, _, _, _, _, _, _, _, _, _, _, _, _, _, _, _, _, _, _, _, _, _, _, _] []) = _ := h3
  replace h3 : puts _ 10 _ (Act.mk #[_, _, _, _, _, _, _, _, _, _, _, _, _, _, _, _, _, _, _, _, _, _, _, _, _, _, _, _, _, _, _, _, _, _, _, _, _, _, _, _, _, _, _, _, _, _, _, _, _, _, _, _, _, _, _, _, _, _, _, _, _, _, _, _, _, _, _, _, _, _, _, _, _, _, _, _, _, _, _, _, _, _, _, _, _, _, _, _, _, _, _, _, _, _, _, _, _, _, _, _, _, _, _, _, _, _, _] []) = _ := h3
  replace h3 : (Act.mk #[_, _, _, _, _, _, _, _, _, _, _, _, _, _, _, _, _, _, _, _, _, _, _, _, _, _, _, _, _, _, _, _, _, _, _, _, _, _, _, _, _, _, _, _, _, _, _, _, _, _, _, _, _, _, _, _, _, _, _, _, _, _, _, _, _, _, _, _, _, _, _, _, _, _, _, _, _, _, _, _, _, _, _, _, _, _, _, _, _, _, _, _, _, _, _, _, _, _, _, _, _, _, _, _, _, _, _] []) = _ := h3
  subst h3
  simp only [e10]
  clear e10
  go_wp2_with (first | refine load_pk A rfl _ rfl rfl ?_ | fail)
  refine (ok_iPacketOk p d _ hP hsz).mono ?_
  rintro e y4 ⟨rfl, b4⟩
  replace A := A.next b4
  replace hP := hP.below b4
  replace hb := bel hb b4
  replace w1 := w1.below b4
  replace hR := hR.below b4
  clear b4
  cases hok : (pv p d).ok with
  | false =>
    have hn0 : nb = 0 := by
      have h1 := hR.1.1
      unfold Pv.bytes at h1
      rw [hok] at h1
      simpa using h1.symm
    subst hn0
    go_wp2
    go_ret
    exact ⟨rfl, hb⟩
  | true =>
    have hE := getE_bytes hok
    have hlen := bytes_len hok
    have h2 := hd_two hok
    have hFt := fst_ty hok
    have hty := ok_ty hok
    have hbt := bt_bytes hok
    have hnb := hR.1.1
    have h340 := rest_340 hok
    have hc4 : (lenB (pv p d).rest.length).length ≤ 4 := by
      rw [lenB_nat (by omega)]
      rcases lenF_cases (pv p d).rest.length (by omega) with ⟨_, e⟩ | ⟨_, _, e⟩ | ⟨_, _, e⟩ | ⟨_, e⟩ <;> rw [e] <;> simp
    have hhd : (pv p d).hd ≤ 5 := by unfold Pv.hd; omega
    generalize (pv p d).rest.length = rl at hE hlen h340 hc4
    generalize (pv p d).hd = hdn at hE hlen h2 hhd
    rw [hlen] at hnb
    obtain ⟨b, off, rfl, hc⟩ := hR.1.at (show 0 < nb by omega)
    have hc0 := hc 0 (by omega)
    rw [hbt, Nat.add_zero] at hc0
    have hF : (pv p d).fst < 256 := by rw [← hbt]; exact bt_lt _ _
    generalize (pv p d).fst = F at hc0 hF hFt
    clear hc hbt
    go_wp2_with fail
    refine (get_iGetLen _ _ _ _ _ _ hR (by omega)).mono ?_
    rintro e y5 ⟨rfl, rfl⟩
    rw [hE]
    simp only [ret3]
    go_wp2_with fail
    refine (draw_sDrawWithId _ _ _ l _ w1 (by omega)).mono ?_
    rintro e y6 ⟨k, id, hk1, hk2, rfl, b6⟩
    replace A := A.next b6
    replace hb := bel hb b6
    have hlb0 : b < y5.heap.size := World.block_lt_of_cell? _ _ hc0
    replace hc0 := (b6.cell (p := ⟨b, off, none⟩) hlb0).trans hc0
    have hlb1 : b < y6.heap.size := Nat.lt_of_lt_of_le hlb0 b6.size
    clear b6 hR hP w1 hE
    go_wp2_with fail
    refine (wid_iWithId k id _).mono ?_
    rintro e y7 ⟨rfl, b7⟩
    replace A := A.next b7
    replace hb := bel hb b7
    replace hc0 := (b7.cell (p := ⟨b, off, none⟩) hlb1).trans hc0
    have hlb2 : b < y7.heap.size := Nat.lt_of_lt_of_le hlb1 b7.size
    clear b7
    have hnm := name_some (n := p.ty) hty
    cases hw : (idK k && inB id 1 65535) with
    | false =>
      have hq : widR k id = Pk.zero := by unfold widR; rw [hw]; rfl
      rw [hq]
      have b8 := bel_new y7 (.cells Pk.zero.cells 28)
      have D : Blk (y7.alloc (.cells Pk.zero.cells 28)) y7.heap.size Pk.zero := heap_alloc_new _ _
      replace A := A.next b8
      replace hb := bel hb b8
      replace hc0 := (b8.cell (p := ⟨b, off, none⟩) hlb2).trans hc0
      have hlb : b < (y7.alloc (.cells Pk.zero.cells 28)).heap.size := Nat.lt_of_lt_of_le hlb2 b8.size
      go_wp2_with (first | refine var_pk (p := Pk.zero) rfl rfl ?_ | fail)
      clear b8
      generalize y7.heap.size = g10 at *
      generalize y7.alloc (.cells Pk.zero.cells 28) = y8 at *
      have hNy := hN.below hb h0
      have h0y : 0 < y8.heap.size := Nat.lt_of_lt_of_le h0 hb.size
      refine region_facts_g (by kernel_rfl) rfl (fun i u x => match i with
        | 0 => u = .slice (some ⟨b, off, none⟩) nb cb
        | 1 => u = .int .i64 nb
        | 2 => u = .bool true
        | 3 => u = .bool true
        | 4 => u = .slice (some ⟨b, off, none⟩) nb cb
        | 5 => u = .pointer (some ⟨b, off, none⟩)
        | 6 => u = .int .u8 F
        | 7 => u = .int .i64 F
        | 8 => u = .int .i64 ((F / 16 : Nat) : Int)
        | 9 => u = .pointer (some ⟨g3, 0, none⟩)
        | 10 => u = .int .i64 p.ty
        | 11 => u = .bool true
        | 12 => u = .bool true
        | 13 => u = .bool true
        | 14 => u = .int .i64 0
        | 15 => u = .bool true
        | 16 => u = .bool true
        | 17 => u = .bool true
        | 18 => u = .slice (some ⟨b, off, none⟩) nb cb
        | 19 => u = .int .i64 nb
        | 20 => u = .int .i64 hdn
        | 21 => u = .int .i64 rl
        | 22 => u = .int .i64 ((hdn : Int) + (rl : Int))
        | 23 => u = .bool true
        | 24 => u = .bool true
        | 25 => u = .bool true
        | 26 => u = .pointer (some ⟨g3, 0, none⟩)
        | 27 => u = .int .i64 p.ty
        | 28 => u = .string (nameOf p.ty)
        | 29 => u = .bool true
        | 30 => u = .bool true
        | 31 => u = .bool true
        | 32 => u = .pointer (some ⟨g10, 0, none⟩)
        | 33 => u = .int .i64 0
        | 34 => u = .bool true
        | 35 => u = .bool true
        | 36 => u = undef
        | 37 => u = undef
        | 38 => u = undef
        | 39 => u = undef
        | 40 => u = undef
        | 41 => u = undef
        | 42 => u = undef
        | 43 => u = undef
        | 44 => u = undef
        | 45 => u = undef
        | 46 => u = undef
        | 47 => u = undef
        | 48 => u = undef
        | 49 => u = undef
        | 50 => u = .bool true
        | 51 => u = .bool true
        | 52 => u = .bool true
        | 53 => u = .agg Pk.zero.cells
        | 54 => u = .int .i64 k
        | 55 => u = .int .i64 id
        | 56 => u = .agg Pk.zero.cells
        | 57 => u = .bool true
        | 58 => u = .bool true
        | 59 => u = .bool true
        | _ => True) ?_ ?_ ?_
      · intro i u x x' hx h
        match i, h with
        | 0, h => exact h
        | 1, h => exact h
        | 2, h => exact h
        | 3, h => exact h
        | 4, h => exact h
        | 5, h => exact h
        | 6, h => exact h
        | 7, h => exact h
        | 8, h => exact h
        | 9, h => exact h
        | 10, h => exact h
        | 11, h => exact h
        | 12, h => exact h
        | 13, h => exact h
        | 14, h => exact h
        | 15, h => exact h
        | 16, h => exact h
        | 17, h => exact h
        | 18, h => exact h
        | 19, h => exact h
        | 20, h => exact h
        | 21, h => exact h
        | 22, h => exact h
        | 23, h => exact h
        | 24, h => exact h
        | 25, h => exact h
        | 26, h => exact h
        | 27, h => exact h
        | 28, h => exact h
        | 29, h => exact h
        | 30, h => exact h
        | 31, h => exact h
        | 32, h => exact h
        | 33, h => exact h
        | 34, h => exact h
        | 35, h => exact h
        | 36, h => exact h
        | 37, h => exact h
        | 38, h => exact h
        | 39, h => exact h
        | 40, h => exact h
        | 41, h => exact h
        | 42, h => exact h
        | 43, h => exact h
        | 44, h => exact h
        | 45, h => exact h
        | 46, h => exact h
        | 47, h => exact h
        | 48, h => exact h
        | 49, h => exact h
        | 50, h => exact h
        | 51, h => exact h
        | 52, h => exact h
        | 53, h => exact h
        | 54, h => exact h
        | 55, h => exact h
        | 56, h => exact h
        | 57, h => exact h
        | 58, h => exact h
        | 59, h => exact h
        | (_ + 60), h => trivial
      · intro i o a u hi hk hbu hdep
        match i, hi with
        | 0, hi =>
          cases hi
          exact g_run (wanted_none rfl _) (z_move _ rfl (eval_at ((hk.at 4 rfl).trans rfl)) ⟨_, rfl, Below.refl _ _, rfl⟩)
        | 1, hi =>
          cases hi
          obtain ⟨z0, hz0, rfl⟩ := hdep 0 _ _ rfl rfl rfl
          exact g_run (wanted_none rfl _) (z_len _ rfl (eval_at hz0) ⟨_, rfl, Below.refl _ _, rfl⟩)
        | 2, hi =>
          cases hi
          obtain ⟨z1, hz1, rfl⟩ := hdep 1 _ _ rfl rfl rfl
          exact g_run (wanted_none rfl _) (z_bin _ _ _ _ _ rfl (eval_at hz1) rfl (gei_t _ _ _ _ _ (by omega)) ⟨_, rfl, Below.refl _ _, rfl⟩)
        | 3, hi =>
          cases hi
          obtain ⟨z2, hz2, rfl⟩ := hdep 2 _ _ rfl rfl rfl
          exact g_run (wanted_none rfl _) (z_move _ rfl (eval_at hz2) ⟨_, rfl, Below.refl _ _, rfl⟩)
        | 4, hi =>
          cases hi
          obtain ⟨z3, hz3, rfl⟩ := hdep 3 _ _ rfl rfl rfl
          exact g_run (wanted_is rfl (yields rfl hz3)) (z_move _ rfl (eval_at ((hk.at 4 rfl).trans rfl)) ⟨_, rfl, Below.refl _ _, rfl⟩)
        | 5, hi =>
          cases hi
          obtain ⟨z3, hz3, rfl⟩ := hdep 3 _ _ rfl rfl rfl
          obtain ⟨z4, hz4, rfl⟩ := hdep 4 _ _ rfl rfl rfl
          exact g_run (wanted_is rfl (yields rfl hz3)) (z_ix (X := ⟨b, off, none⟩) (Y := ⟨b, off, none⟩) 22 _ _ rfl (eval_at hz4) rfl (fun _ => idx_first b off nb cb (by omega) _) ⟨_, rfl, Below.refl _ _, rfl⟩)
        | 6, hi =>
          cases hi
          obtain ⟨z3, hz3, rfl⟩ := hdep 3 _ _ rfl rfl rfl
          obtain ⟨z5, hz5, rfl⟩ := hdep 5 _ _ rfl rfl rfl
          exact g_run (wanted_is rfl (yields rfl hz3)) (z_ld 5 _ rfl (eval_at hz5) (by kernel_rfl) ((hbu.cell (p := ⟨b, off, none⟩) hlb).trans hc0) ⟨_, rfl, Below.refl _ _, rfl⟩)
        | 7, hi =>
          cases hi
          obtain ⟨z3, hz3, rfl⟩ := hdep 3 _ _ rfl rfl rfl
          obtain ⟨z6, hz6, rfl⟩ := hdep 6 _ _ rfl rfl rfl
          exact g_run (wanted_is rfl (yields rfl hz3)) (z_conv _ _ _ rfl (eval_at hz6) (cvi _ _ hF) ⟨_, rfl, Below.refl _ _, rfl⟩)
        | 8, hi =>
          cases hi
          obtain ⟨z3, hz3, rfl⟩ := hdep 3 _ _ rfl rfl rfl
          obtain ⟨z7, hz7, rfl⟩ := hdep 7 _ _ rfl rfl rfl
          exact g_run (wanted_is rfl (yields rfl hz3)) (z_bin _ _ _ _ _ rfl (eval_at hz7) rfl (quo_byte _ _ _ _ hF) ⟨_, rfl, Below.refl _ _, rfl⟩)
        | 9, hi =>
          cases hi
          obtain ⟨z3, hz3, rfl⟩ := hdep 3 _ _ rfl rfl rfl
          exact g_run (wanted_is rfl (yields rfl hz3)) (z_fld (X := ⟨g3, 0, none⟩) (Y := ⟨g3, 0, none⟩) 28 _ 0 rfl (eval_at ((hk.at 3 rfl).trans rfl)) (fun _ => by kernel_rfl) ⟨_, rfl, Below.refl _ _, rfl⟩)
        | 10, hi =>
          cases hi
          obtain ⟨z3, hz3, rfl⟩ := hdep 3 _ _ rfl rfl rfl
          obtain ⟨z9, hz9, rfl⟩ := hdep 9 _ _ rfl rfl rfl
          exact g_run (wanted_is rfl (yields rfl hz3)) (z_ld 3 _ rfl (eval_at hz9) (by kernel_rfl) (((A.next hbu).cell 0).trans (Pk.c0 _)) ⟨_, rfl, Below.refl _ _, rfl⟩)
        | 11, hi =>
          cases hi
          obtain ⟨z3, hz3, rfl⟩ := hdep 3 _ _ rfl rfl rfl
          obtain ⟨z8, hz8, rfl⟩ := hdep 8 _ _ rfl rfl rfl
          obtain ⟨z10, hz10, rfl⟩ := hdep 10 _ _ rfl rfl rfl
          exact g_run (wanted_is rfl (yields rfl hz3)) (z_bin _ _ _ _ _ rfl (eval_at hz8) (eval_at hz10) (eqi_t _ _ _ _ _ hFt) ⟨_, rfl, Below.refl _ _, rfl⟩)
        | 12, hi =>
          cases hi
          obtain ⟨z3, hz3, rfl⟩ := hdep 3 _ _ rfl rfl rfl
          obtain ⟨z11, hz11, rfl⟩ := hdep 11 _ _ rfl rfl rfl
          exact g_run (wanted_none rfl _) (z_pickT _ _ _ rfl (eval_at hz3) (eval_at hz11) ⟨_, rfl, Below.refl _ _, rfl⟩)
        | 13, hi =>
          cases hi
          obtain ⟨z12, hz12, rfl⟩ := hdep 12 _ _ rfl rfl rfl
          exact g_run (wanted_none rfl _) (z_move _ rfl (eval_at hz12) ⟨_, rfl, Below.refl _ _, rfl⟩)
        | 14, hi =>
          cases hi
          obtain ⟨z13, hz13, rfl⟩ := hdep 13 _ _ rfl rfl rfl
          exact g_run (wanted_is rfl (yields rfl hz13)) (z_move _ rfl (eval_at ((hk.at 7 rfl).trans rfl)) ⟨_, rfl, Below.refl _ _, rfl⟩)
        | 15, hi =>
          cases hi
          obtain ⟨z13, hz13, rfl⟩ := hdep 13 _ _ rfl rfl rfl
          obtain ⟨z14, hz14, rfl⟩ := hdep 14 _ _ rfl rfl rfl
          exact g_run (wanted_is rfl (yields rfl hz13)) (z_bin _ _ _ _ _ rfl (eval_at hz14) rfl (eqi_t _ _ _ _ _ rfl) ⟨_, rfl, Below.refl _ _, rfl⟩)
        | 16, hi =>
          cases hi
          obtain ⟨z13, hz13, rfl⟩ := hdep 13 _ _ rfl rfl rfl
          obtain ⟨z15, hz15, rfl⟩ := hdep 15 _ _ rfl rfl rfl
          exact g_run (wanted_none rfl _) (z_pickT _ _ _ rfl (eval_at hz13) (eval_at hz15) ⟨_, rfl, Below.refl _ _, rfl⟩)
        | 17, hi =>
          cases hi
          obtain ⟨z16, hz16, rfl⟩ := hdep 16 _ _ rfl rfl rfl
          exact g_run (wanted_none rfl _) (z_move _ rfl (eval_at hz16) ⟨_, rfl, Below.refl _ _, rfl⟩)
        | 18, hi =>
          cases hi
          obtain ⟨z17, hz17, rfl⟩ := hdep 17 _ _ rfl rfl rfl
          exact g_run (wanted_is rfl (yields rfl hz17)) (z_move _ rfl (eval_at ((hk.at 4 rfl).trans rfl)) ⟨_, rfl, Below.refl _ _, rfl⟩)
        | 19, hi =>
          cases hi
          obtain ⟨z17, hz17, rfl⟩ := hdep 17 _ _ rfl rfl rfl
          obtain ⟨z18, hz18, rfl⟩ := hdep 18 _ _ rfl rfl rfl
          exact g_run (wanted_is rfl (yields rfl hz17)) (z_len _ rfl (eval_at hz18) ⟨_, rfl, Below.refl _ _, rfl⟩)
        | 20, hi =>
          cases hi
          obtain ⟨z17, hz17, rfl⟩ := hdep 17 _ _ rfl rfl rfl
          exact g_run (wanted_is rfl (yields rfl hz17)) (z_move _ rfl (eval_at ((hk.at 6 rfl).trans rfl)) ⟨_, rfl, Below.refl _ _, rfl⟩)
        | 21, hi =>
          cases hi
          obtain ⟨z17, hz17, rfl⟩ := hdep 17 _ _ rfl rfl rfl
          exact g_run (wanted_is rfl (yields rfl hz17)) (z_move _ rfl (eval_at ((hk.at 5 rfl).trans rfl)) ⟨_, rfl, Below.refl _ _, rfl⟩)
        | 22, hi =>
          cases hi
          obtain ⟨z17, hz17, rfl⟩ := hdep 17 _ _ rfl rfl rfl
          obtain ⟨z20, hz20, rfl⟩ := hdep 20 _ _ rfl rfl rfl
          obtain ⟨z21, hz21, rfl⟩ := hdep 21 _ _ rfl rfl rfl
          exact g_run (wanted_is rfl (yields rfl hz17)) (z_bin _ _ _ _ _ rfl (eval_at hz20) (eval_at hz21) (addi _ _ _ _ _ (by rw [wraps_i64] <;> omega)) ⟨_, rfl, Below.refl _ _, rfl⟩)
        | 23, hi =>
          cases hi
          obtain ⟨z17, hz17, rfl⟩ := hdep 17 _ _ rfl rfl rfl
          obtain ⟨z19, hz19, rfl⟩ := hdep 19 _ _ rfl rfl rfl
          obtain ⟨z22, hz22, rfl⟩ := hdep 22 _ _ rfl rfl rfl
          exact g_run (wanted_is rfl (yields rfl hz17)) (z_bin _ _ _ _ _ rfl (eval_at hz19) (eval_at hz22) (eqi_t _ _ _ _ _ (by omega)) ⟨_, rfl, Below.refl _ _, rfl⟩)
        | 24, hi =>
          cases hi
          obtain ⟨z17, hz17, rfl⟩ := hdep 17 _ _ rfl rfl rfl
          obtain ⟨z23, hz23, rfl⟩ := hdep 23 _ _ rfl rfl rfl
          exact g_run (wanted_none rfl _) (z_pickT _ _ _ rfl (eval_at hz17) (eval_at hz23) ⟨_, rfl, Below.refl _ _, rfl⟩)
        | 25, hi =>
          cases hi
          obtain ⟨z24, hz24, rfl⟩ := hdep 24 _ _ rfl rfl rfl
          exact g_run (wanted_none rfl _) (z_move _ rfl (eval_at hz24) ⟨_, rfl, Below.refl _ _, rfl⟩)
        | 26, hi =>
          cases hi
          obtain ⟨z25, hz25, rfl⟩ := hdep 25 _ _ rfl rfl rfl
          exact g_run (wanted_is rfl (yields rfl hz25)) (z_fld (X := ⟨g3, 0, none⟩) (Y := ⟨g3, 0, none⟩) 28 _ 0 rfl (eval_at ((hk.at 3 rfl).trans rfl)) (fun _ => by kernel_rfl) ⟨_, rfl, Below.refl _ _, rfl⟩)
        | 27, hi =>
          cases hi
          obtain ⟨z25, hz25, rfl⟩ := hdep 25 _ _ rfl rfl rfl
          obtain ⟨z26, hz26, rfl⟩ := hdep 26 _ _ rfl rfl rfl
          exact g_run (wanted_is rfl (yields rfl hz25)) (z_ld 3 _ rfl (eval_at hz26) (by kernel_rfl) (((A.next hbu).cell 0).trans (Pk.c0 _)) ⟨_, rfl, Below.refl _ _, rfl⟩)
        | 28, hi =>
          cases hi
          obtain ⟨z25, hz25, rfl⟩ := hdep 25 _ _ rfl rfl rfl
          obtain ⟨z27, hz27, rfl⟩ := hdep 27 _ _ rfl rfl rfl
          refine g_run (wanted_is rfl (yields rfl hz25)) (st_call (exec_call1 _ _ _ _ _ _ cfp_name (eval_at hz27) (fun _ => rfl) _ _ _ _ _ _) ?_)
          refine (name_iTypeName p.ty u (hNy.below hbu h0y)).mono ?_
          rintro e u' ⟨rfl, hw'⟩
          exact ⟨_, rfl, _, rfl, hw' ▸ Below.refl _ _, rfl⟩
        | 29, hi =>
          cases hi
          obtain ⟨z25, hz25, rfl⟩ := hdep 25 _ _ rfl rfl rfl
          obtain ⟨z28, hz28, rfl⟩ := hdep 28 _ _ rfl rfl rfl
          exact g_run (wanted_is rfl (yields rfl hz25)) (z_bin _ _ _ _ _ rfl (eval_at hz28) rfl (nes_t _ _ _ _ _ hnm) ⟨_, rfl, Below.refl _ _, rfl⟩)
        | 30, hi =>
          cases hi
          obtain ⟨z25, hz25, rfl⟩ := hdep 25 _ _ rfl rfl rfl
          obtain ⟨z29, hz29, rfl⟩ := hdep 29 _ _ rfl rfl rfl
          exact g_run (wanted_none rfl _) (z_pickT _ _ _ rfl (eval_at hz25) (eval_at hz29) ⟨_, rfl, Below.refl _ _, rfl⟩)
        | 31, hi =>
          cases hi
          obtain ⟨z30, hz30, rfl⟩ := hdep 30 _ _ rfl rfl rfl
          exact g_run (wanted_none rfl _) (z_move _ rfl (eval_at hz30) ⟨_, rfl, Below.refl _ _, rfl⟩)
        | 32, hi =>
          cases hi
          obtain ⟨z31, hz31, rfl⟩ := hdep 31 _ _ rfl rfl rfl
          exact g_run (wanted_is rfl (yields rfl hz31)) (z_fld (X := ⟨g10, 0, none⟩) (Y := ⟨g10, 0, none⟩) 28 _ 0 rfl (eval_at ((hk.at 10 rfl).trans rfl)) (fun _ => by kernel_rfl) ⟨_, rfl, Below.refl _ _, rfl⟩)
        | 33, hi =>
          cases hi
          obtain ⟨z31, hz31, rfl⟩ := hdep 31 _ _ rfl rfl rfl
          obtain ⟨z32, hz32, rfl⟩ := hdep 32 _ _ rfl rfl rfl
          exact g_run (wanted_is rfl (yields rfl hz31)) (z_ld 3 _ rfl (eval_at hz32) (by kernel_rfl) (((D.next hbu).cell 0).trans (Pk.c0 _)) ⟨_, rfl, Below.refl _ _, rfl⟩)
        | 34, hi =>
          cases hi
          obtain ⟨z31, hz31, rfl⟩ := hdep 31 _ _ rfl rfl rfl
          obtain ⟨z33, hz33, rfl⟩ := hdep 33 _ _ rfl rfl rfl
          exact g_run (wanted_is rfl (yields rfl hz31)) (z_bin _ _ _ _ _ rfl (eval_at hz33) rfl (eqi_t _ _ _ _ _ rfl) ⟨_, rfl, Below.refl _ _, rfl⟩)
        | 35, hi =>
          cases hi
          obtain ⟨z31, hz31, rfl⟩ := hdep 31 _ _ rfl rfl rfl
          obtain ⟨z34, hz34, rfl⟩ := hdep 34 _ _ rfl rfl rfl
          exact g_run (wanted_is rfl (yields rfl hz31)) (z_move _ rfl (eval_at hz34) ⟨_, rfl, Below.refl _ _, rfl⟩)
        | 36, hi =>
          cases hi
          obtain ⟨z35, hz35, rfl⟩ := hdep 35 _ _ rfl rfl rfl
          exact g_skip (wanted_ne rfl (yields rfl hz35) (by decide)) rfl
        | 37, hi =>
          cases hi
          obtain ⟨z35, hz35, rfl⟩ := hdep 35 _ _ rfl rfl rfl
          exact g_skip (wanted_ne rfl (yields rfl hz35) (by decide)) rfl
        | 38, hi =>
          cases hi
          obtain ⟨z35, hz35, rfl⟩ := hdep 35 _ _ rfl rfl rfl
          exact g_skip (wanted_ne rfl (yields rfl hz35) (by decide)) rfl
        | 39, hi =>
          cases hi
          obtain ⟨z38, hz38, rfl⟩ := hdep 38 _ _ rfl rfl rfl
          exact g_skip (wanted_un rfl (yields_un rfl hz38)) rfl
        | 40, hi =>
          cases hi
          obtain ⟨z38, hz38, rfl⟩ := hdep 38 _ _ rfl rfl rfl
          exact g_skip (wanted_un rfl (yields_un rfl hz38)) rfl
        | 41, hi =>
          cases hi
          obtain ⟨z38, hz38, rfl⟩ := hdep 38 _ _ rfl rfl rfl
          exact g_skip (wanted_un rfl (yields_un rfl hz38)) rfl
        | 42, hi =>
          cases hi
          obtain ⟨z38, hz38, rfl⟩ := hdep 38 _ _ rfl rfl rfl
          exact g_skip (wanted_un rfl (yields_un rfl hz38)) rfl
        | 43, hi =>
          cases hi
          obtain ⟨z35, hz35, rfl⟩ := hdep 35 _ _ rfl rfl rfl
          exact g_skip (wanted_ne rfl (yields rfl hz35) (by decide)) rfl
        | 44, hi =>
          cases hi
          obtain ⟨z35, hz35, rfl⟩ := hdep 35 _ _ rfl rfl rfl
          exact g_skip (wanted_ne rfl (yields rfl hz35) (by decide)) rfl
        | 45, hi =>
          cases hi
          obtain ⟨z44, hz44, rfl⟩ := hdep 44 _ _ rfl rfl rfl
          exact g_skip (wanted_un rfl (yields_un rfl hz44)) rfl
        | 46, hi =>
          cases hi
          obtain ⟨z44, hz44, rfl⟩ := hdep 44 _ _ rfl rfl rfl
          exact g_skip (wanted_un rfl (yields_un rfl hz44)) rfl
        | 47, hi =>
          cases hi
          obtain ⟨z44, hz44, rfl⟩ := hdep 44 _ _ rfl rfl rfl
          exact g_skip (wanted_un rfl (yields_un rfl hz44)) rfl
        | 48, hi =>
          cases hi
          obtain ⟨z44, hz44, rfl⟩ := hdep 44 _ _ rfl rfl rfl
          exact g_skip (wanted_un rfl (yields_un rfl hz44)) rfl
        | 49, hi =>
          cases hi
          obtain ⟨z35, hz35, rfl⟩ := hdep 35 _ _ rfl rfl rfl
          exact g_skip (wanted_ne rfl (yields rfl hz35) (by decide)) rfl
        | 50, hi =>
          cases hi
          obtain ⟨z31, hz31, rfl⟩ := hdep 31 _ _ rfl rfl rfl
          obtain ⟨z35, hz35, rfl⟩ := hdep 35 _ _ rfl rfl rfl
          exact g_run (wanted_is rfl (yields rfl hz31)) (z_pickT _ _ _ rfl (eval_at hz35) rfl ⟨_, rfl, Below.refl _ _, rfl⟩)
        | 51, hi =>
          cases hi
          obtain ⟨z31, hz31, rfl⟩ := hdep 31 _ _ rfl rfl rfl
          obtain ⟨z50, hz50, rfl⟩ := hdep 50 _ _ rfl rfl rfl
          exact g_run (wanted_none rfl _) (z_pickT _ _ _ rfl (eval_at hz31) (eval_at hz50) ⟨_, rfl, Below.refl _ _, rfl⟩)
        | 52, hi =>
          cases hi
          obtain ⟨z51, hz51, rfl⟩ := hdep 51 _ _ rfl rfl rfl
          exact g_run (wanted_none rfl _) (z_move _ rfl (eval_at hz51) ⟨_, rfl, Below.refl _ _, rfl⟩)
        | 53, hi =>
          cases hi
          obtain ⟨z52, hz52, rfl⟩ := hdep 52 _ _ rfl rfl rfl
          exact g_run (wanted_is rfl (yields rfl hz52)) (st_loadP (D.next hbu) _ rfl (eval_at ((hk.at 10 rfl).trans rfl)) ⟨_, rfl, Below.refl _ _, rfl⟩)
        | 54, hi =>
          cases hi
          obtain ⟨z52, hz52, rfl⟩ := hdep 52 _ _ rfl rfl rfl
          exact g_run (wanted_is rfl (yields rfl hz52)) (z_move _ rfl (eval_at ((hk.at 8 rfl).trans rfl)) ⟨_, rfl, Below.refl _ _, rfl⟩)
        | 55, hi =>
          cases hi
          obtain ⟨z52, hz52, rfl⟩ := hdep 52 _ _ rfl rfl rfl
          exact g_run (wanted_is rfl (yields rfl hz52)) (z_move _ rfl (eval_at ((hk.at 9 rfl).trans rfl)) ⟨_, rfl, Below.refl _ _, rfl⟩)
        | 56, hi =>
          cases hi
          obtain ⟨z52, hz52, rfl⟩ := hdep 52 _ _ rfl rfl rfl
          obtain ⟨z54, hz54, rfl⟩ := hdep 54 _ _ rfl rfl rfl
          obtain ⟨z55, hz55, rfl⟩ := hdep 55 _ _ rfl rfl rfl
          refine g_run (wanted_is rfl (yields rfl hz52)) (st_call (exec_call2 _ _ _ _ _ _ _ _ cfp_swid (eval_at hz54) (eval_at hz55) (fun _ => rfl) _ _ _ _ _ _) ?_)
          refine (wid_sWithId k id u).mono ?_
          rintro e u' ⟨he', hb'⟩
          exact ⟨_, he'.trans (by rw [hq]), _, rfl, hb', rfl⟩
        | 57, hi =>
          cases hi
          obtain ⟨z52, hz52, rfl⟩ := hdep 52 _ _ rfl rfl rfl
          obtain ⟨z53, hz53, rfl⟩ := hdep 53 _ _ rfl rfl rfl
          obtain ⟨z56, hz56, rfl⟩ := hdep 56 _ _ rfl rfl rfl
          refine g_run (wanted_is rfl (yields rfl hz52)) (st_call (exec_call2 _ _ _ _ _ _ _ _ cfp_same (eval_at hz53) (eval_at hz56) (fun _ => rfl) _ _ _ _ _ _) ?_)
          refine (same_iSamePacket Pk.zero Pk.zero d0 d0 u (PRd0 u) (PRd0 u)).mono ?_
          rintro e u' ⟨rfl, hb'⟩
          exact ⟨_, rfl, _, rfl, hb', by simp⟩
        | 58, hi =>
          cases hi
          obtain ⟨z52, hz52, rfl⟩ := hdep 52 _ _ rfl rfl rfl
          obtain ⟨z57, hz57, rfl⟩ := hdep 57 _ _ rfl rfl rfl
          exact g_run (wanted_none rfl _) (z_pickT _ _ _ rfl (eval_at hz52) (eval_at hz57) ⟨_, rfl, Below.refl _ _, rfl⟩)
        | 59, hi =>
          cases hi
          obtain ⟨z58, hz58, rfl⟩ := hdep 58 _ _ rfl rfl rfl
          exact g_run (wanted_none rfl _) (z_asgn _ rfl (eval_at hz58) ⟨_, rfl, Below.refl _ _, rfl⟩)
        | (_ + 60), hi => cases hi
      intro vs y9 b9 hG a3 h3
      have g59 : vs 59 = .bool true := hG 59 (by decide)
      have s2 := puts_slot h3 rfl 59 rfl rfl
      rw [g59] at s2
      have hd9 := (puts_def h3).trans (show _ = [] from rfl)
      clear h3 hG
      go_wp2
      refine bodyPost_ret (results_tmp rfl _ _ _) hd9 ⟨?_, bel hb b9⟩
      rw [getD_at s2]
    | true =>
      have hq : widR k id = wid k id := by unfold widR; rw [hw]; rfl
      have hk0 : k ≠ 0 := by rintro rfl; simp [idK] at hw
      have hqo : (pv (wid k id) d0).ok = true := by
        simp only [Bool.and_eq_true] at hw
        rw [wid_ok id hw.1, hw.2]
      rw [hq]
      have b8 := bel_new y7 (.cells (wid k id).cells 28)
      have D : Blk (y7.alloc (.cells (wid k id).cells 28)) y7.heap.size (wid k id) := heap_alloc_new _ _
      replace A := A.next b8
      replace hb := bel hb b8
      replace hc0 := (b8.cell (p := ⟨b, off, none⟩) hlb2).trans hc0
      have hlb : b < (y7.alloc (.cells (wid k id).cells 28)).heap.size := Nat.lt_of_lt_of_le hlb2 b8.size
      go_wp2_with (first | refine var_pk (p := wid k id) rfl rfl ?_ | fail)
      clear b8
      generalize y7.heap.size = g10 at *
      generalize y7.alloc (.cells (wid k id).cells 28) = y8 at *
      have hNy := hN.below hb h0
      have h0y : 0 < y8.heap.size := Nat.lt_of_lt_of_le h0 hb.size
      refine region_facts_g (by kernel_rfl) rfl (fun i u x => match i with
        | 0 => u = .slice (some ⟨b, off, none⟩) nb cb
        | 1 => u = .int .i64 nb
        | 2 => u = .bool true
        | 3 => u = .bool true
        | 4 => u = .slice (some ⟨b, off, none⟩) nb cb
        | 5 => u = .pointer (some ⟨b, off, none⟩)
        | 6 => u = .int .u8 F
        | 7 => u = .int .i64 F
        | 8 => u = .int .i64 ((F / 16 : Nat) : Int)
        | 9 => u = .pointer (some ⟨g3, 0, none⟩)
        | 10 => u = .int .i64 p.ty
        | 11 => u = .bool true
        | 12 => u = .bool true
        | 13 => u = .bool true
        | 14 => u = .int .i64 0
        | 15 => u = .bool true
        | 16 => u = .bool true
        | 17 => u = .bool true
        | 18 => u = .slice (some ⟨b, off, none⟩) nb cb
        | 19 => u = .int .i64 nb
        | 20 => u = .int .i64 hdn
        | 21 => u = .int .i64 rl
        | 22 => u = .int .i64 ((hdn : Int) + (rl : Int))
        | 23 => u = .bool true
        | 24 => u = .bool true
        | 25 => u = .bool true
        | 26 => u = .pointer (some ⟨g3, 0, none⟩)
        | 27 => u = .int .i64 p.ty
        | 28 => u = .string (nameOf p.ty)
        | 29 => u = .bool true
        | 30 => u = .bool true
        | 31 => u = .bool true
        | 32 => u = .pointer (some ⟨g10, 0, none⟩)
        | 33 => u = .int .i64 k
        | 34 => u = .bool false
        | 35 => u = .bool false
        | 36 => u = .agg (wid k id).cells
        | 37 => u = .bool true
        | 38 => u = .bool true
        | 39 => u = .pointer (some ⟨g10, 4, none⟩)
        | 40 => u = .int .i64 id
        | 41 => u = .int .i64 id
        | 42 => u = .bool true
        | 43 => u = .bool true
        | 44 => u = .bool true
        | 45 => u = .pointer (some ⟨g10, 0, none⟩)
        | 46 => u = .int .i64 k
        | 47 => u = .int .i64 k
        | 48 => u = .bool true
        | 49 => u = .bool true
        | 50 => u = .bool true
        | 51 => u = .bool true
        | 52 => u = .bool true
        | 53 => u = .agg (wid k id).cells
        | 54 => u = .int .i64 k
        | 55 => u = .int .i64 id
        | 56 => u = .agg (wid k id).cells
        | 57 => u = .bool true
        | 58 => u = .bool true
        | 59 => u = .bool true
        | _ => True) ?_ ?_ ?_
      · intro i u x x' hx h
        match i, h with
        | 0, h => exact h
        | 1, h => exact h
        | 2, h => exact h
        | 3, h => exact h
        | 4, h => exact h
        | 5, h => exact h
        | 6, h => exact h
        | 7, h => exact h
        | 8, h => exact h
        | 9, h => exact h
        | 10, h => exact h
        | 11, h => exact h
        | 12, h => exact h
        | 13, h => exact h
        | 14, h => exact h
        | 15, h => exact h
        | 16, h => exact h
        | 17, h => exact h
        | 18, h => exact h
        | 19, h => exact h
        | 20, h => exact h
        | 21, h => exact h
        | 22, h => exact h
        | 23, h => exact h
        | 24, h => exact h
        | 25, h => exact h
        | 26, h => exact h
        | 27, h => exact h
        | 28, h => exact h
        | 29, h => exact h
        | 30, h => exact h
        | 31, h => exact h
        | 32, h => exact h
        | 33, h => exact h
        | 34, h => exact h
        | 35, h => exact h
        | 36, h => exact h
        | 37, h => exact h
        | 38, h => exact h
        | 39, h => exact h
        | 40, h => exact h
        | 41, h => exact h
        | 42, h => exact h
        | 43, h => exact h
        | 44, h => exact h
        | 45, h => exact h
        | 46, h => exact h
        | 47, h => exact h
        | 48, h => exact h
        | 49, h => exact h
        | 50, h => exact h
        | 51, h => exact h
        | 52, h => exact h
        | 53, h => exact h
        | 54, h => exact h
        | 55, h => exact h
        | 56, h => exact h
        | 57, h => exact h
        | 58, h => exact h
        | 59, h => exact h
        | (_ + 60), h => trivial
      · intro i o a u hi hk hbu hdep
        match i, hi with
        | 0, hi =>
          cases hi
          exact g_run (wanted_none rfl _) (z_move _ rfl (eval_at ((hk.at 4 rfl).trans rfl)) ⟨_, rfl, Below.refl _ _, rfl⟩)
        | 1, hi =>
          cases hi
          obtain ⟨z0, hz0, rfl⟩ := hdep 0 _ _ rfl rfl rfl
          exact g_run (wanted_none rfl _) (z_len _ rfl (eval_at hz0) ⟨_, rfl, Below.refl _ _, rfl⟩)
        | 2, hi =>
          cases hi
          obtain ⟨z1, hz1, rfl⟩ := hdep 1 _ _ rfl rfl rfl
          exact g_run (wanted_none rfl _) (z_bin _ _ _ _ _ rfl (eval_at hz1) rfl (gei_t _ _ _ _ _ (by omega)) ⟨_, rfl, Below.refl _ _, rfl⟩)
        | 3, hi =>
          cases hi
          obtain ⟨z2, hz2, rfl⟩ := hdep 2 _ _ rfl rfl rfl
          exact g_run (wanted_none rfl _) (z_move _ rfl (eval_at hz2) ⟨_, rfl, Below.refl _ _, rfl⟩)
        | 4, hi =>
          cases hi
          obtain ⟨z3, hz3, rfl⟩ := hdep 3 _ _ rfl rfl rfl
          exact g_run (wanted_is rfl (yields rfl hz3)) (z_move _ rfl (eval_at ((hk.at 4 rfl).trans rfl)) ⟨_, rfl, Below.refl _ _, rfl⟩)
        | 5, hi =>
          cases hi
          obtain ⟨z3, hz3, rfl⟩ := hdep 3 _ _ rfl rfl rfl
          obtain ⟨z4, hz4, rfl⟩ := hdep 4 _ _ rfl rfl rfl
          exact g_run (wanted_is rfl (yields rfl hz3)) (z_ix (X := ⟨b, off, none⟩) (Y := ⟨b, off, none⟩) 22 _ _ rfl (eval_at hz4) rfl (fun _ => idx_first b off nb cb (by omega) _) ⟨_, rfl, Below.refl _ _, rfl⟩)
        | 6, hi =>
          cases hi
          obtain ⟨z3, hz3, rfl⟩ := hdep 3 _ _ rfl rfl rfl
          obtain ⟨z5, hz5, rfl⟩ := hdep 5 _ _ rfl rfl rfl
          exact g_run (wanted_is rfl (yields rfl hz3)) (z_ld 5 _ rfl (eval_at hz5) (by kernel_rfl) ((hbu.cell (p := ⟨b, off, none⟩) hlb).trans hc0) ⟨_, rfl, Below.refl _ _, rfl⟩)
        | 7, hi =>
          cases hi
          obtain ⟨z3, hz3, rfl⟩ := hdep 3 _ _ rfl rfl rfl
          obtain ⟨z6, hz6, rfl⟩ := hdep 6 _ _ rfl rfl rfl
          exact g_run (wanted_is rfl (yields rfl hz3)) (z_conv _ _ _ rfl (eval_at hz6) (cvi _ _ hF) ⟨_, rfl, Below.refl _ _, rfl⟩)
        | 8, hi =>
          cases hi
          obtain ⟨z3, hz3, rfl⟩ := hdep 3 _ _ rfl rfl rfl
          obtain ⟨z7, hz7, rfl⟩ := hdep 7 _ _ rfl rfl rfl
          exact g_run (wanted_is rfl (yields rfl hz3)) (z_bin _ _ _ _ _ rfl (eval_at hz7) rfl (quo_byte _ _ _ _ hF) ⟨_, rfl, Below.refl _ _, rfl⟩)
        | 9, hi =>
          cases hi
          obtain ⟨z3, hz3, rfl⟩ := hdep 3 _ _ rfl rfl rfl
          exact g_run (wanted_is rfl (yields rfl hz3)) (z_fld (X := ⟨g3, 0, none⟩) (Y := ⟨g3, 0, none⟩) 28 _ 0 rfl (eval_at ((hk.at 3 rfl).trans rfl)) (fun _ => by kernel_rfl) ⟨_, rfl, Below.refl _ _, rfl⟩)
        | 10, hi =>
          cases hi
          obtain ⟨z3, hz3, rfl⟩ := hdep 3 _ _ rfl rfl rfl
          obtain ⟨z9, hz9, rfl⟩ := hdep 9 _ _ rfl rfl rfl
          exact g_run (wanted_is rfl (yields rfl hz3)) (z_ld 3 _ rfl (eval_at hz9) (by kernel_rfl) (((A.next hbu).cell 0).trans (Pk.c0 _)) ⟨_, rfl, Below.refl _ _, rfl⟩)
        | 11, hi =>
          cases hi
          obtain ⟨z3, hz3, rfl⟩ := hdep 3 _ _ rfl rfl rfl
          obtain ⟨z8, hz8, rfl⟩ := hdep 8 _ _ rfl rfl rfl
          obtain ⟨z10, hz10, rfl⟩ := hdep 10 _ _ rfl rfl rfl
          exact g_run (wanted_is rfl (yields rfl hz3)) (z_bin _ _ _ _ _ rfl (eval_at hz8) (eval_at hz10) (eqi_t _ _ _ _ _ hFt) ⟨_, rfl, Below.refl _ _, rfl⟩)
        | 12, hi =>
          cases hi
          obtain ⟨z3, hz3, rfl⟩ := hdep 3 _ _ rfl rfl rfl
          obtain ⟨z11, hz11, rfl⟩ := hdep 11 _ _ rfl rfl rfl
          exact g_run (wanted_none rfl _) (z_pickT _ _ _ rfl (eval_at hz3) (eval_at hz11) ⟨_, rfl, Below.refl _ _, rfl⟩)
        | 13, hi =>
          cases hi
          obtain ⟨z12, hz12, rfl⟩ := hdep 12 _ _ rfl rfl rfl
          exact g_run (wanted_none rfl _) (z_move _ rfl (eval_at hz12) ⟨_, rfl, Below.refl _ _, rfl⟩)
        | 14, hi =>
          cases hi
          obtain ⟨z13, hz13, rfl⟩ := hdep 13 _ _ rfl rfl rfl
          exact g_run (wanted_is rfl (yields rfl hz13)) (z_move _ rfl (eval_at ((hk.at 7 rfl).trans rfl)) ⟨_, rfl, Below.refl _ _, rfl⟩)
        | 15, hi =>
          cases hi
          obtain ⟨z13, hz13, rfl⟩ := hdep 13 _ _ rfl rfl rfl
          obtain ⟨z14, hz14, rfl⟩ := hdep 14 _ _ rfl rfl rfl
          exact g_run (wanted_is rfl (yields rfl hz13)) (z_bin _ _ _ _ _ rfl (eval_at hz14) rfl (eqi_t _ _ _ _ _ rfl) ⟨_, rfl, Below.refl _ _, rfl⟩)
        | 16, hi =>
          cases hi
          obtain ⟨z13, hz13, rfl⟩ := hdep 13 _ _ rfl rfl rfl
          obtain ⟨z15, hz15, rfl⟩ := hdep 15 _ _ rfl rfl rfl
          exact g_run (wanted_none rfl _) (z_pickT _ _ _ rfl (eval_at hz13) (eval_at hz15) ⟨_, rfl, Below.refl _ _, rfl⟩)
        | 17, hi =>
          cases hi
          obtain ⟨z16, hz16, rfl⟩ := hdep 16 _ _ rfl rfl rfl
          exact g_run (wanted_none rfl _) (z_move _ rfl (eval_at hz16) ⟨_, rfl, Below.refl _ _, rfl⟩)
        | 18, hi =>
          cases hi
          obtain ⟨z17, hz17, rfl⟩ := hdep 17 _ _ rfl rfl rfl
          exact g_run (wanted_is rfl (yields rfl hz17)) (z_move _ rfl (eval_at ((hk.at 4 rfl).trans rfl)) ⟨_, rfl, Below.refl _ _, rfl⟩)
        | 19, hi =>
          cases hi
          obtain ⟨z17, hz17, rfl⟩ := hdep 17 _ _ rfl rfl rfl
          obtain ⟨z18, hz18, rfl⟩ := hdep 18 _ _ rfl rfl rfl
          exact g_run (wanted_is rfl (yields rfl hz17)) (z_len _ rfl (eval_at hz18) ⟨_, rfl, Below.refl _ _, rfl⟩)
        | 20, hi =>
          cases hi
          obtain ⟨z17, hz17, rfl⟩ := hdep 17 _ _ rfl rfl rfl
          exact g_run (wanted_is rfl (yields rfl hz17)) (z_move _ rfl (eval_at ((hk.at 6 rfl).trans rfl)) ⟨_, rfl, Below.refl _ _, rfl⟩)
        | 21, hi =>
          cases hi
          obtain ⟨z17, hz17, rfl⟩ := hdep 17 _ _ rfl rfl rfl
          exact g_run (wanted_is rfl (yields rfl hz17)) (z_move _ rfl (eval_at ((hk.at 5 rfl).trans rfl)) ⟨_, rfl, Below.refl _ _, rfl⟩)
        | 22, hi =>
          cases hi
          obtain ⟨z17, hz17, rfl⟩ := hdep 17 _ _ rfl rfl rfl
          obtain ⟨z20, hz20, rfl⟩ := hdep 20 _ _ rfl rfl rfl
          obtain ⟨z21, hz21, rfl⟩ := hdep 21 _ _ rfl rfl rfl
          exact g_run (wanted_is rfl (yields rfl hz17)) (z_bin _ _ _ _ _ rfl (eval_at hz20) (eval_at hz21) (addi _ _ _ _ _ (by rw [wraps_i64] <;> omega)) ⟨_, rfl, Below.refl _ _, rfl⟩)
        | 23, hi =>
          cases hi
          obtain ⟨z17, hz17, rfl⟩ := hdep 17 _ _ rfl rfl rfl
          obtain ⟨z19, hz19, rfl⟩ := hdep 19 _ _ rfl rfl rfl
          obtain ⟨z22, hz22, rfl⟩ := hdep 22 _ _ rfl rfl rfl
          exact g_run (wanted_is rfl (yields rfl hz17)) (z_bin _ _ _ _ _ rfl (eval_at hz19) (eval_at hz22) (eqi_t _ _ _ _ _ (by omega)) ⟨_, rfl, Below.refl _ _, rfl⟩)
        | 24, hi =>
          cases hi
          obtain ⟨z17, hz17, rfl⟩ := hdep 17 _ _ rfl rfl rfl
          obtain ⟨z23, hz23, rfl⟩ := hdep 23 _ _ rfl rfl rfl
          exact g_run (wanted_none rfl _) (z_pickT _ _ _ rfl (eval_at hz17) (eval_at hz23) ⟨_, rfl, Below.refl _ _, rfl⟩)
        | 25, hi =>
          cases hi
          obtain ⟨z24, hz24, rfl⟩ := hdep 24 _ _ rfl rfl rfl
          exact g_run (wanted_none rfl _) (z_move _ rfl (eval_at hz24) ⟨_, rfl, Below.refl _ _, rfl⟩)
        | 26, hi =>
          cases hi
          obtain ⟨z25, hz25, rfl⟩ := hdep 25 _ _ rfl rfl rfl
          exact g_run (wanted_is rfl (yields rfl hz25)) (z_fld (X := ⟨g3, 0, none⟩) (Y := ⟨g3, 0, none⟩) 28 _ 0 rfl (eval_at ((hk.at 3 rfl).trans rfl)) (fun _ => by kernel_rfl) ⟨_, rfl, Below.refl _ _, rfl⟩)
        | 27, hi =>
          cases hi
          obtain ⟨z25, hz25, rfl⟩ := hdep 25 _ _ rfl rfl rfl
          obtain ⟨z26, hz26, rfl⟩ := hdep 26 _ _ rfl rfl rfl
          exact g_run (wanted_is rfl (yields rfl hz25)) (z_ld 3 _ rfl (eval_at hz26) (by kernel_rfl) (((A.next hbu).cell 0).trans (Pk.c0 _)) ⟨_, rfl, Below.refl _ _, rfl⟩)
        | 28, hi =>
          cases hi
          obtain ⟨z25, hz25, rfl⟩ := hdep 25 _ _ rfl rfl rfl
          obtain ⟨z27, hz27, rfl⟩ := hdep 27 _ _ rfl rfl rfl
          refine g_run (wanted_is rfl (yields rfl hz25)) (st_call (exec_call1 _ _ _ _ _ _ cfp_name (eval_at hz27) (fun _ => rfl) _ _ _ _ _ _) ?_)
          refine (name_iTypeName p.ty u (hNy.below hbu h0y)).mono ?_
          rintro e u' ⟨rfl, hw'⟩
          exact ⟨_, rfl, _, rfl, hw' ▸ Below.refl _ _, rfl⟩
        | 29, hi =>
          cases hi
          obtain ⟨z25, hz25, rfl⟩ := hdep 25 _ _ rfl rfl rfl
          obtain ⟨z28, hz28, rfl⟩ := hdep 28 _ _ rfl rfl rfl
          exact g_run (wanted_is rfl (yields rfl hz25)) (z_bin _ _ _ _ _ rfl (eval_at hz28) rfl (nes_t _ _ _ _ _ hnm) ⟨_, rfl, Below.refl _ _, rfl⟩)
        | 30, hi =>
          cases hi
          obtain ⟨z25, hz25, rfl⟩ := hdep 25 _ _ rfl rfl rfl
          obtain ⟨z29, hz29, rfl⟩ := hdep 29 _ _ rfl rfl rfl
          exact g_run (wanted_none rfl _) (z_pickT _ _ _ rfl (eval_at hz25) (eval_at hz29) ⟨_, rfl, Below.refl _ _, rfl⟩)
        | 31, hi =>
          cases hi
          obtain ⟨z30, hz30, rfl⟩ := hdep 30 _ _ rfl rfl rfl
          exact g_run (wanted_none rfl _) (z_move _ rfl (eval_at hz30) ⟨_, rfl, Below.refl _ _, rfl⟩)
        | 32, hi =>
          cases hi
          obtain ⟨z31, hz31, rfl⟩ := hdep 31 _ _ rfl rfl rfl
          exact g_run (wanted_is rfl (yields rfl hz31)) (z_fld (X := ⟨g10, 0, none⟩) (Y := ⟨g10, 0, none⟩) 28 _ 0 rfl (eval_at ((hk.at 10 rfl).trans rfl)) (fun _ => by kernel_rfl) ⟨_, rfl, Below.refl _ _, rfl⟩)
        | 33, hi =>
          cases hi
          obtain ⟨z31, hz31, rfl⟩ := hdep 31 _ _ rfl rfl rfl
          obtain ⟨z32, hz32, rfl⟩ := hdep 32 _ _ rfl rfl rfl
          exact g_run (wanted_is rfl (yields rfl hz31)) (z_ld 3 _ rfl (eval_at hz32) (by kernel_rfl) (((D.next hbu).cell 0).trans (Pk.c0 _)) ⟨_, rfl, Below.refl _ _, rfl⟩)
        | 34, hi =>
          cases hi
          obtain ⟨z31, hz31, rfl⟩ := hdep 31 _ _ rfl rfl rfl
          obtain ⟨z33, hz33, rfl⟩ := hdep 33 _ _ rfl rfl rfl
          exact g_run (wanted_is rfl (yields rfl hz31)) (z_bin _ _ _ _ _ rfl (eval_at hz33) rfl (eqi_f _ _ _ _ _ hk0) ⟨_, rfl, Below.refl _ _, rfl⟩)
        | 35, hi =>
          cases hi
          obtain ⟨z31, hz31, rfl⟩ := hdep 31 _ _ rfl rfl rfl
          obtain ⟨z34, hz34, rfl⟩ := hdep 34 _ _ rfl rfl rfl
          exact g_run (wanted_is rfl (yields rfl hz31)) (z_move _ rfl (eval_at hz34) ⟨_, rfl, Below.refl _ _, rfl⟩)
        | 36, hi =>
          cases hi
          obtain ⟨z35, hz35, rfl⟩ := hdep 35 _ _ rfl rfl rfl
          exact g_run (wanted_is rfl (yields rfl hz35)) (st_loadP (D.next hbu) _ rfl (eval_at ((hk.at 10 rfl).trans rfl)) ⟨_, rfl, Below.refl _ _, rfl⟩)
        | 37, hi =>
          cases hi
          obtain ⟨z35, hz35, rfl⟩ := hdep 35 _ _ rfl rfl rfl
          obtain ⟨z36, hz36, rfl⟩ := hdep 36 _ _ rfl rfl rfl
          refine g_run (wanted_is rfl (yields rfl hz35)) (st_call (exec_call1 _ _ _ _ _ _ cfp_iok (eval_at hz36) (fun _ => rfl) _ _ _ _ _ _) ?_)
          refine (ok_iPacketOk (wid k id) d0 u (wid_rd k id u) (wid_sz k id)).mono ?_
          rintro e u' ⟨rfl, hb'⟩
          exact ⟨_, rfl, _, rfl, hb', congrArg Value.bool hqo⟩
        | 38, hi =>
          cases hi
          obtain ⟨z35, hz35, rfl⟩ := hdep 35 _ _ rfl rfl rfl
          obtain ⟨z37, hz37, rfl⟩ := hdep 37 _ _ rfl rfl rfl
          exact g_run (wanted_is rfl (yields rfl hz35)) (z_move _ rfl (eval_at hz37) ⟨_, rfl, Below.refl _ _, rfl⟩)
        | 39, hi =>
          cases hi
          obtain ⟨z38, hz38, rfl⟩ := hdep 38 _ _ rfl rfl rfl
          exact g_run (wanted_is rfl (yields rfl hz38)) (z_fld (X := ⟨g10, 0, none⟩) (Y := ⟨g10, 4, none⟩) 28 _ 4 rfl (eval_at ((hk.at 10 rfl).trans rfl)) (fun _ => by kernel_rfl) ⟨_, rfl, Below.refl _ _, rfl⟩)
        | 40, hi =>
          cases hi
          obtain ⟨z38, hz38, rfl⟩ := hdep 38 _ _ rfl rfl rfl
          obtain ⟨z39, hz39, rfl⟩ := hdep 39 _ _ rfl rfl rfl
          exact g_run (wanted_is rfl (yields rfl hz38)) (z_ld 3 _ rfl (eval_at hz39) (by kernel_rfl) (((D.next hbu).cell 4).trans (Pk.c4 _)) ⟨_, rfl, Below.refl _ _, rfl⟩)
        | 41, hi =>
          cases hi
          obtain ⟨z38, hz38, rfl⟩ := hdep 38 _ _ rfl rfl rfl
          exact g_run (wanted_is rfl (yields rfl hz38)) (z_move _ rfl (eval_at ((hk.at 9 rfl).trans rfl)) ⟨_, rfl, Below.refl _ _, rfl⟩)
        | 42, hi =>
          cases hi
          obtain ⟨z38, hz38, rfl⟩ := hdep 38 _ _ rfl rfl rfl
          obtain ⟨z40, hz40, rfl⟩ := hdep 40 _ _ rfl rfl rfl
          obtain ⟨z41, hz41, rfl⟩ := hdep 41 _ _ rfl rfl rfl
          exact g_run (wanted_is rfl (yields rfl hz38)) (z_bin _ _ _ _ _ rfl (eval_at hz40) (eval_at hz41) (eqi_t _ _ _ _ _ rfl) ⟨_, rfl, Below.refl _ _, rfl⟩)
        | 43, hi =>
          cases hi
          obtain ⟨z35, hz35, rfl⟩ := hdep 35 _ _ rfl rfl rfl
          obtain ⟨z38, hz38, rfl⟩ := hdep 38 _ _ rfl rfl rfl
          obtain ⟨z42, hz42, rfl⟩ := hdep 42 _ _ rfl rfl rfl
          exact g_run (wanted_is rfl (yields rfl hz35)) (z_pickT _ _ _ rfl (eval_at hz38) (eval_at hz42) ⟨_, rfl, Below.refl _ _, rfl⟩)
        | 44, hi =>
          cases hi
          obtain ⟨z35, hz35, rfl⟩ := hdep 35 _ _ rfl rfl rfl
          obtain ⟨z43, hz43, rfl⟩ := hdep 43 _ _ rfl rfl rfl
          exact g_run (wanted_is rfl (yields rfl hz35)) (z_move _ rfl (eval_at hz43) ⟨_, rfl, Below.refl _ _, rfl⟩)
        | 45, hi =>
          cases hi
          obtain ⟨z44, hz44, rfl⟩ := hdep 44 _ _ rfl rfl rfl
          exact g_run (wanted_is rfl (yields rfl hz44)) (z_fld (X := ⟨g10, 0, none⟩) (Y := ⟨g10, 0, none⟩) 28 _ 0 rfl (eval_at ((hk.at 10 rfl).trans rfl)) (fun _ => by kernel_rfl) ⟨_, rfl, Below.refl _ _, rfl⟩)
        | 46, hi =>
          cases hi
          obtain ⟨z44, hz44, rfl⟩ := hdep 44 _ _ rfl rfl rfl
          obtain ⟨z45, hz45, rfl⟩ := hdep 45 _ _ rfl rfl rfl
          exact g_run (wanted_is rfl (yields rfl hz44)) (z_ld 3 _ rfl (eval_at hz45) (by kernel_rfl) (((D.next hbu).cell 0).trans (Pk.c0 _)) ⟨_, rfl, Below.refl _ _, rfl⟩)
        | 47, hi =>
          cases hi
          obtain ⟨z44, hz44, rfl⟩ := hdep 44 _ _ rfl rfl rfl
          exact g_run (wanted_is rfl (yields rfl hz44)) (z_move _ rfl (eval_at ((hk.at 8 rfl).trans rfl)) ⟨_, rfl, Below.refl _ _, rfl⟩)
        | 48, hi =>
          cases hi
          obtain ⟨z44, hz44, rfl⟩ := hdep 44 _ _ rfl rfl rfl
          obtain ⟨z46, hz46, rfl⟩ := hdep 46 _ _ rfl rfl rfl
          obtain ⟨z47, hz47, rfl⟩ := hdep 47 _ _ rfl rfl rfl
          exact g_run (wanted_is rfl (yields rfl hz44)) (z_bin _ _ _ _ _ rfl (eval_at hz46) (eval_at hz47) (eqi_t _ _ _ _ _ rfl) ⟨_, rfl, Below.refl _ _, rfl⟩)
        | 49, hi =>
          cases hi
          obtain ⟨z35, hz35, rfl⟩ := hdep 35 _ _ rfl rfl rfl
          obtain ⟨z44, hz44, rfl⟩ := hdep 44 _ _ rfl rfl rfl
          obtain ⟨z48, hz48, rfl⟩ := hdep 48 _ _ rfl rfl rfl
          exact g_run (wanted_is rfl (yields rfl hz35)) (z_pickT _ _ _ rfl (eval_at hz44) (eval_at hz48) ⟨_, rfl, Below.refl _ _, rfl⟩)
        | 50, hi =>
          cases hi
          obtain ⟨z31, hz31, rfl⟩ := hdep 31 _ _ rfl rfl rfl
          obtain ⟨z35, hz35, rfl⟩ := hdep 35 _ _ rfl rfl rfl
          obtain ⟨z49, hz49, rfl⟩ := hdep 49 _ _ rfl rfl rfl
          exact g_run (wanted_is rfl (yields rfl hz31)) (z_pickF _ _ _ rfl (eval_at hz35) (eval_at hz49) ⟨_, rfl, Below.refl _ _, rfl⟩)
        | 51, hi =>
          cases hi
          obtain ⟨z31, hz31, rfl⟩ := hdep 31 _ _ rfl rfl rfl
          obtain ⟨z50, hz50, rfl⟩ := hdep 50 _ _ rfl rfl rfl
          exact g_run (wanted_none rfl _) (z_pickT _ _ _ rfl (eval_at hz31) (eval_at hz50) ⟨_, rfl, Below.refl _ _, rfl⟩)
        | 52, hi =>
          cases hi
          obtain ⟨z51, hz51, rfl⟩ := hdep 51 _ _ rfl rfl rfl
          exact g_run (wanted_none rfl _) (z_move _ rfl (eval_at hz51) ⟨_, rfl, Below.refl _ _, rfl⟩)
        | 53, hi =>
          cases hi
          obtain ⟨z52, hz52, rfl⟩ := hdep 52 _ _ rfl rfl rfl
          exact g_run (wanted_is rfl (yields rfl hz52)) (st_loadP (D.next hbu) _ rfl (eval_at ((hk.at 10 rfl).trans rfl)) ⟨_, rfl, Below.refl _ _, rfl⟩)
        | 54, hi =>
          cases hi
          obtain ⟨z52, hz52, rfl⟩ := hdep 52 _ _ rfl rfl rfl
          exact g_run (wanted_is rfl (yields rfl hz52)) (z_move _ rfl (eval_at ((hk.at 8 rfl).trans rfl)) ⟨_, rfl, Below.refl _ _, rfl⟩)
        | 55, hi =>
          cases hi
          obtain ⟨z52, hz52, rfl⟩ := hdep 52 _ _ rfl rfl rfl
          exact g_run (wanted_is rfl (yields rfl hz52)) (z_move _ rfl (eval_at ((hk.at 9 rfl).trans rfl)) ⟨_, rfl, Below.refl _ _, rfl⟩)
        | 56, hi =>
          cases hi
          obtain ⟨z52, hz52, rfl⟩ := hdep 52 _ _ rfl rfl rfl
          obtain ⟨z54, hz54, rfl⟩ := hdep 54 _ _ rfl rfl rfl
          obtain ⟨z55, hz55, rfl⟩ := hdep 55 _ _ rfl rfl rfl
          refine g_run (wanted_is rfl (yields rfl hz52)) (st_call (exec_call2 _ _ _ _ _ _ _ _ cfp_swid (eval_at hz54) (eval_at hz55) (fun _ => rfl) _ _ _ _ _ _) ?_)
          refine (wid_sWithId k id u).mono ?_
          rintro e u' ⟨he', hb'⟩
          exact ⟨_, he'.trans (by rw [hq]), _, rfl, hb', rfl⟩
        | 57, hi =>
          cases hi
          obtain ⟨z52, hz52, rfl⟩ := hdep 52 _ _ rfl rfl rfl
          obtain ⟨z53, hz53, rfl⟩ := hdep 53 _ _ rfl rfl rfl
          obtain ⟨z56, hz56, rfl⟩ := hdep 56 _ _ rfl rfl rfl
          refine g_run (wanted_is rfl (yields rfl hz52)) (st_call (exec_call2 _ _ _ _ _ _ _ _ cfp_same (eval_at hz53) (eval_at hz56) (fun _ => rfl) _ _ _ _ _ _) ?_)
          refine (same_iSamePacket (wid k id) (wid k id) d0 d0 u (wid_rd k id u) (wid_rd k id u)).mono ?_
          rintro e u' ⟨rfl, hb'⟩
          exact ⟨_, rfl, _, rfl, hb', by simp⟩
        | 58, hi =>
          cases hi
          obtain ⟨z52, hz52, rfl⟩ := hdep 52 _ _ rfl rfl rfl
          obtain ⟨z57, hz57, rfl⟩ := hdep 57 _ _ rfl rfl rfl
          exact g_run (wanted_none rfl _) (z_pickT _ _ _ rfl (eval_at hz52) (eval_at hz57) ⟨_, rfl, Below.refl _ _, rfl⟩)
        | 59, hi =>
          cases hi
          obtain ⟨z58, hz58, rfl⟩ := hdep 58 _ _ rfl rfl rfl
          exact g_run (wanted_none rfl _) (z_asgn _ rfl (eval_at hz58) ⟨_, rfl, Below.refl _ _, rfl⟩)
        | (_ + 60), hi => cases hi
      intro vs y9 b9 hG a3 h3
      have g59 : vs 59 = .bool true := hG 59 (by decide)
      have s2 := puts_slot h3 rfl 59 rfl rfl
      rw [g59] at s2
      have hd9 := (puts_def h3).trans (show _ = [] from rfl)
      clear h3 hG
      go_wp2
      refine bodyPost_ret (results_tmp rfl _ _ _) hd9 ⟨?_, bel hb b9⟩
      rw [getD_at s2]
theorem named_of_laid {W : World} (h : laidMetH Tryz.prog Rows.fnPacketsRow.laid W) : Named W := by
  rw [MakeChecks.laidMetH_plain _ _ _ (by kernel_rfl)] at h
  obtain ⟨ps, ⟨g, t, cs, fuel, p, q, hg, ht, hvar, hd, _, _⟩, _⟩ := h
  obtain rfl := Option.some.inj ((show Tryz.prog.globalNamed "loop.example/g00480/impl.typeNames" = some 0 by kernel_rfl).symm.trans hg)
  obtain rfl := Option.some.inj ((show (Tryz.prog.globals[0]?).map (fun x => x.type) = some 92 by kernel_rfl).symm.trans ht)
  obtain ⟨xs, m, _, hx, hlen, hxl, hi⟩ := DataW.trod_array Tryz.underlying92 hd
  intro i hi14
  have q1 := hi i hi14
  rw [show Tryz.prog.cellsOf 9 = 1 by kernel_rfl, Nat.mul_one] at q1
  rw [List.getElem?_eq_getElem (by omega)] at q1
  obtain ⟨s, hs, hy, _⟩ := DataW.trod_string Tryz.underlying9 q1
  have hl : xs.map (fun x => x.1) = names.map (fun s => DataW.lit (.string s.data.toList)) := by
    have h : DataW.agg (xs.map (fun x => x.1)) = DataW.agg (names.map (fun s => DataW.lit (.string s.data.toList))) := (congrArg Prod.fst hx).symm
    exact DataW.agg.inj h
  have h1 := congrArg (fun l => l[i]?) hl
  simp only [List.getElem?_map] at h1
  rw [List.getElem?_eq_getElem (show i < xs.length by omega), hy, List.getElem?_eq_getElem (show i < names.length from hi14)] at h1
  simp only [Option.map_some, Option.some.injEq, DataW.lit.injEq, Lit.string.injEq] at h1
  have e : s = names.getD i ByteArray.empty := by
    rw [List.getD_eq_getElem?_getD, List.getElem?_eq_getElem (show i < names.length from hi14), Option.getD_some]
    refine ByteArray.ext (Array.ext' ?_)
    exact h1
  have hc := World.var?_cell hg hvar i
  have h2 := congrArg (fun l => l[0]?) hs
  simp only [List.getElem?_take, List.getElem?_drop] at h2
  rw [hc, ← e]
  simpa using h2
theorem fnPackets_walk (a0 : Option Addr) (len0 cap0 : Nat) (l : List UInt8) (w : World) (hN : Named w) (h0 : 0 < w.heap.size) (w0 : RdIn w a0 len0 cap0 l) :
    Calls Tryz.prog 3 #[.slice a0 len0 cap0] w fun e w' => e = .returned (.bool true) ∧ Below w.heap.size w w' := pk_core a0 len0 cap0 l w hN h0 w0

namespace fnPackets
theorem own : ownKnob Tryz.prog.godebug = none := by kernel_rfl
theorem laidOut : laidOutB Tryz.prog = true := by kernel_rfl
set_option maxRecDepth 100000 in
theorem lifted (os : Os) (started : os.Started) (H : Type) (enc : TypeId × Value → H) :
    ReturnsInHanded {} Tryz.checked os 3 .any (fun w args => (Rows.fnPacketsSpec.pre enc Tryz.prog Tryz.f3 Rows.fnPacketsRow.domain false w args ∧ laidMetH Tryz.prog Rows.fnPacketsRow.laid w) ∧ sizedMet enc Tryz.prog Tryz.f3 (OpenSpec.ofChange Rows.fnPacketsSpec) false w args) (Rows.fnPacketsSpec.post enc Tryz.prog Tryz.f3 false true false false) := by
  refine returnsInHanded_of_change_and (C := Tryz.checked) (X := fun w _ => laidMetH Tryz.prog Rows.fnPacketsRow.laid w) (fun _ _ _ hh h => h.of_heap hh) own started (by kernel_rfl) Tryz.func3
    (ChangeSpec.witness_shaped (enc := enc) (C := Tryz.checked) (os := os) (X := fun w _ => laidMetH Tryz.prog Rows.fnPacketsRow.laid w) false (World.laidAll Tryz.prog os Rows.fnPacketsRow.laid) #[.slice none 0 0] 8 (World.laidAll_os _ _ _)
      (World.shaped_of_ZipB (by kernel_rfl) (by kernel_rfl)) (by kernel_rfl) (by kernel_rfl) (by kernel_rfl)
      (by rw [MakeChecks.laidMetH_plain _ _ _ (by kernel_rfl)]; exact laidMet_laidAll _ (by kernel_rfl) (by kernel_rfl))) ?_
  intro W base args ds gs before hval0 hW hcnd _ hL _
  have hval : ∀ (j : Nat) t v, Tryz.f3.params[j]? = some t → args[j]? = some v → Value.okWide Tryz.prog W .any base t v := hval0
  have hW' := hW
  obtain ⟨p, q, hA0, hV, rfl, hfz, hnd⟩ := hW
  have hA : DataW.TrodAll enc Tryz.prog W 0 (fun _ => true) true Tryz.f3.params.toList args.toList ds p := hA0
  rw [Tryz.params3] at hA hval
  obtain ⟨v0, vs0, d0, ds0, p0, q0, hargs, rfl, rfl, h0, r0⟩ := trodAll_cons hA
  obtain ⟨rfl, rfl, rfl⟩ := trodAll_nil r0
  obtain rfl : args = #[v0] := by cases args; simp_all
  have hV2 := hV
  obtain ⟨_, _, _, _, _, _, rfl, _, _, _, _, _⟩ := trodVars_one hV2
  obtain ⟨a0, len0, cap0, rfl⟩ := okWide_slice Tryz.underlying22 (hval 0 22 v0 rfl rfl)
  have k0 := h0
  have lt0 : ∀ x ∈ p0, x.block < W.heap.size := by obtain ⟨m, hm⟩ := k0; exact DataW.trod_lt m _ _ _ hm
  obtain ⟨z0, w0⟩ : ∃ l, RdIn W a0 len0 cap0 l := by
    obtain ⟨fuel, hf⟩ := h0
    rcases open_ints Tryz.underlying22 Tryz.underlying5 (by kernel_rfl) hf with ⟨hcs, _⟩ | ⟨x, l, c, zs, hcs, _, hl, hm, hz, _, hcell, hwz⟩
    · simp [Value.cells] at hcs
      obtain ⟨rfl, rfl, rfl⟩ := hcs
      exact ⟨[], RdIn.nil _⟩
    · simp [Value.cells] at hcs
      obtain ⟨rfl, rfl, rfl⟩ := hcs
      exact RdIn.of_ints hl hm (by simpa using hz) hcell hwz
  clear hA0 hval0
  refine (fnPackets_walk a0 len0 cap0 z0 W (named_of_laid hL) (Nat.lt_of_le_of_lt (Nat.zero_le _) (World.block_lt_of_cell? W _ (named_of_laid hL 0 (by decide)))) w0).mono fun e W' ⟨he, bel⟩ => ?_
  subst he
  exact ⟨_, rfl, _, _, _, [], _, _, hW', trodAll_mk1 (shut_bool Tryz.underlying4 _), (trodAll_cons_mk (Below.trod laidOut (by kernel_rfl) (of_decide_eq_true (by kernel_rfl)) k0 bel lt0) trodAll_mk0), bel.trodVars laidOut (by kernel_rfl) hV, bel.frame _, fun h => by cases h⟩

theorem over : Rows.fnPacketsRow.holds Tryz.pinned (OpenSpec.ofChange Rows.fnPacketsSpec) :=
  OpenClaim.holds_of_wide 3 Tryz.f3 rfl rfl rfl rfl rfl rfl rfl ⟨rfl, rfl, rfl, rfl, rfl⟩ rfl rfl rfl rfl rfl (by kernel_rfl) Tryz.func3 (by kernel_rfl)
    (of_decide_eq_true (by kernel_rfl)) (by unfold Func.isWrapper; first | (rw [if_pos (by decide +kernel)]; kernel_rfl) | (rw [if_neg (by decide +kernel)]; exact ⟨rfl, rfl⟩))
    (fun os started H enc _ => lifted os started H enc)
end fnPackets

theorem fnPackets_holds : Rows.FnPacketsCardSaid :=
  Claim7.holds_tied_plain_at .later [] [.data] true Rows.fnPacketsCard.stood.harness true fnPackets.over (fun _ h => by cases h) (by kernel_rfl) (fun _ h => by cases h) fnPackets_row_tie rfl ⟨rfl, rfl⟩ (by kernel_rfl) rfl
    (fun f fn hf hfn => by
      obtain rfl : f = 3 := Option.some.inj ((show Tryz.prog.funcNamed Rows.fnPacketsRow.func = some 3 by kernel_rfl).symm.trans hf) |>.symm
      obtain rfl : fn = Tryz.f3 := (Option.some.inj (Tryz.func3.symm.trans hfn)).symm
      exact ⟨by kernel_rfl, fun j t ht => by
        rw [Tryz.params3] at ht
        have hm : t ∈ [22] := by simpa using Array.mem_of_getElem? ht
        have hall : ([22].all fun u => !Tryz.prog.wantsStandIn u) = true := by kernel_rfl
        exact (show Tryz.prog.wantsStandIn t = false by simpa using List.all_eq_true.1 hall t hm)⟩)
    (by kernel_rfl)
end Go.Proofs.YtccjiicjlifmiaaGreatDoor
