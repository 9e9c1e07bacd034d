/- FnExactPutPacket: whatever it is handed, the law function laws.FnExactPutPacket returns true, and its arguments read afterwards as before. No condition. -/
import Derived.Test.YtfpclkkkenekpaaGreatRows
import Derived.Test.YtfpclkkkenekpaaGreatPut
import Derived.Test.YtfpclkkkenekpaaGreatSPut
import Derived.Test.YtfpclkkkenekpaaGreatMark
import Derived.Test.YtfpclkkkenekpaaGreatPOpen
import Derived.WalkKit
import Derived.ProofKit
import Derived.OpenShut
import Derived.ShutString
import Derived.ChangeOld
import Derived.Below
import Derived.Deep.Strs
namespace Go.Proofs.YtfpclkkkenekpaaGreat
open Go.ChangeShapes Go.WideShapes Go.ChangeAt Go.RowKit
open Go.ChangeMaps (open_string shut_string)
set_option linter.unusedVariables false
set_option linter.unusedSimpArgs false

theorem sum_mem {α : Type} (f : α → Nat) {l : List α} {x : α} (h : x ∈ l) : f x ≤ (l.map f).sum := by
  induction l with
  | nil => simp at h
  | cons a r ih =>
    simp only [List.map_cons, List.sum_cons]
    rcases List.mem_cons.1 h with rfl | h
    · omega
    · have := ih h; omega
theorem Psm.sz {p : Pk} {d : Pd} {L : Nat} (h : Psm p d L) (hL : L ≤ 1048576) : Psz p d := by
  unfold Psm at h
  refine ⟨by omega, by omega, by omega, by omega, fun x hx => ?_, fun s hs => ?_⟩
  · have : x.1.size ≤ wtot d.wan := sum_mem (fun x : ByteArray × Int => x.1.size) hx
    omega
  · have : s.size ≤ tot d.nam := sum_mem ByteArray.size hs
    omega
theorem bytes_le (v : Pv) (h1 : v.bod.length ≤ 1048576) (h2 : v.wan.length ≤ 1048576) (h3 : v.nam.length ≤ 1048576) (h4 : v.cds.length ≤ 1048576) : v.bytes.length ≤ 300000000 := by
  have := rest_le v h1 h2 h3 h4
  have := lenB_le v.rest.length
  unfold Pv.bytes Pv.full
  split
  · simp only [List.length_append, List.length_cons, List.length_nil]
    omega
  · simp
theorem own_touch {F : Nat → Prop} {w w' : World} {B : Nat} {a : Option Addr} {n c : Nat} {l : List UInt8} (h : Own w B a n c l) (ht : Touch F w w') (hn : ∀ x, a = some x → ¬ F x.block) : Own w' B a n c l := by
  refine ⟨h.1, ht.owns h.2 fun k hk => ?_⟩
  cases a with
  | none => simp [Value.ownBlock] at hk
  | some x =>
    have e : x.block = k := by simpa [Value.ownBlock] using hk
    exact e ▸ hn x rfl
theorem cf_to (xs : Array Value) (u : World) : (callFunc 8 xs).run Tryz.prog u = .ok (.enter 8 xs) u := by kernel_rfl
theorem cf_eq (xs : Array Value) (u : World) : (callFunc 11 xs).run Tryz.prog u = .ok (.enter 11 xs) u := by kernel_rfl
set_option maxRecDepth 100000 in
set_option maxHeartbeats 8000000 in
theorem fnExactPutPacket_walk (p : Pk) (d : Pd) (w : World) (hp : PRd w p d ∧ Pok p d) :
    Calls Tryz.prog 3 #[.agg p.cells] w fun e w' => e = .returned (.bool true) ∧ Below w.heap.size w w' := by
  obtain ⟨rp, okp⟩ := hp
  have h0 : Below w.heap.size w (w.alloc (.cells p.cells 27)) := bel_new _ _
  have A0 : BlkL (w.alloc (.cells p.cells 27)) w.heap.size p := heap_alloc_new _ _
  replace rp := rp.below h0
  go_enter Tryz.func3, Tryz.ntmps3
  go_wp2_with (first | refine load_lp A0 rfl _ rfl rfl ?_ | fail)
  refine (sz_lszPacket p d 1048576 _ (by decide) rp okp).mono ?_
  rintro e y1 ⟨r1, rfl, b1, c1⟩
  obtain ⟨v0, H0, A0, rp, hv⟩ : ∃ v0, Hid (Below w.heap.size w v0) ∧ BlkL v0 w.heap.size p ∧ PRd v0 p d ∧ Below v0.heap.size v0 y1 := ⟨_, h0, A0, rp, b1⟩
  clear h0 b1
  rcases c1 with c1 | ⟨R1, rfl, hR1, sm1⟩
  · go_wp2
    go_ret
    exact ⟨rfl, bel H0.out hv⟩
  have c1 : ¬ (R1 : Int) < 0 := by omega
  have lp : Plen p 1099511627776 := by have := sm1.len; unfold Plen at *; omega
  have lq : Plen p 1048576 := by have := sm1.len; unfold Plen at *; omega
  have sz : Psz p d := sm1.sz (by omega)
  have hle := bytes_le (pv p d) (show d.bod.length ≤ _ by rw [rp.1.1.1]; exact lq.1) (show d.wan.length ≤ _ by rw [rp.2.2.2.1.1.1]; exact lq.2.2.2.1) (show d.nam.length ≤ _ by rw [rp.2.2.2.2.1.1.1]; exact lq.2.2.2.2.1) (show d.cds.length ≤ _ by rw [rp.2.2.2.2.2.1.1]; exact lq.2.2.2.2.2)
  obtain ⟨LB, hLB⟩ : ∃ LB, (pv p d).bytes = LB := ⟨_, rfl⟩
  have HB : Hid ((pv p d).bytes = LB) := hLB
  rw [hLB] at hle
  clear hLB
  obtain ⟨N, hN⟩ : ∃ N, LB.length = N := ⟨_, rfl⟩
  have HN : Hid (LB.length = N) := hN
  rw [hN] at hle
  clear hN
  -- the specification's
  go_wp2_with (first | refine load_lp (A0.next hv) rfl _ rfl rfl ?_ | fail)
  refine (to_ltoPacket p d _ (rp.below hv) lp).mono ?_
  rintro e y2 ⟨x, rfl, rx, b2⟩
  replace hv := bel hv b2
  clear b2
  go_wp2_with fail
  refine (put_sPutPacket (p.re x) d _ rx sz lq).mono ?_
  rintro e y3 ⟨aw, nw, cw, rfl, OW, b3⟩
  replace hv := bel hv b3
  replace OW : Own y3 y2.heap.size aw nw cw LB := by rw [← HB.out]; exact OW
  obtain rfl : N = nw := HN.out.symm.trans OW.1
  clear b3 rx
  -- x0
  go_wp2_with (first | refine load_lp (A0.next hv) rfl _ rfl rfl ?_ | fail)
  refine (to_ltoPacketO p d _ (rp.below hv) lp).mono ?_
  rintro e y4 ⟨x2, rfl, PX, b4⟩
  have low : ∀ k, (p.re x2).has k → y3.heap.size ≤ k ∧ k < y4.heap.size := fun k hk => PX.lt hk
  have hw0 : ∀ a, aw = some a → a.block < y3.heap.size := fun a e => (OW.block e).2
  have z34 : y3.heap.size ≤ y4.heap.size := b4.size
  have z03 : v0.heap.size ≤ y3.heap.size := hv.size
  replace hv := bel hv b4
  replace OW := OW.below b4
  clear b4
  have b5 := bel_new y4 (.cells (p.re x2).cells 32)
  have C : Blk (y4.alloc (.cells (p.re x2).cells 32)) y4.heap.size (p.re x2) := heap_alloc_new _ _
  replace hv := bel hv b5
  replace OW := OW.below b5
  replace PX := PX.below b5
  clear b5
  go_wp2_with (first | refine var_pk (p := p.re x2) rfl rfl ?_ | refine load_pk C rfl _ rfl rfl ?_ | fail)
  refine (put_iPutPacket (p.re x2) d _ PX.rd sz lq).mono ?_
  rintro e y6 ⟨ag, ng, cg, rfl, OG, b6⟩
  replace OG : Own y6 (y4.heap.size + 1) ag ng cg LB := by
    rw [← HB.out]
    exact OG.mono (by simp)
  obtain rfl : N = ng := HN.out.symm.trans OG.1
  replace hv := bel hv b6
  replace OW := OW.below b6
  replace PX := PX.below b6
  replace C := C.next b6
  clear b6
  go_wp2_with fail
  refine (eq_leqByteS _ _ _ _ _ LB _ OG.rd OW.rd (by omega)).mono ?_
  rintro e y7 ⟨rfl, b7⟩
  replace hv := bel hv b7
  replace OW := OW.below b7
  replace OG := OG.below b7
  replace PX := PX.below b7
  replace C := C.next b7
  clear b7
  have A : BlkL y7 w.heap.size p := A0.next hv
  have rq : PRd y7 p d := rp.below hv
  go_wp2
  refine region_facts (by kernel_rfl) rfl (fun i v u => match i with
    | 0 => v = .agg (p.re x2).cells
    | 1 => v = .agg p.cells
    | 2 => ∃ z, v = .agg (p.re z).cells ∧ PRd u (p.re z) d
    | 3 => v = .bool true
    | _ => v = .bool false) ?_ ?_ ?_
  · intro i v u u' hbu h
    match i, h with
    | 0, h => exact h
    | 1, h => exact h
    | 2, ⟨z, h1, h2⟩ => exact ⟨z, h1, h2.below hbu⟩
    | 3, h => exact h
    | (_ + 4), h => exact h
  · intro i o a u hi hk hbu hdep
    match i, hi with
    | 0, hi =>
      cases hi
      exact st_loadP (C.next hbu) _ rfl (eval_at ((hk.at 5 rfl).trans rfl)) ⟨_, rfl, Below.refl _ _, rfl⟩
    | 1, hi =>
      cases hi
      exact st_loadL (A.next hbu) _ rfl (eval_at ((hk.at 1 rfl).trans rfl)) ⟨_, rfl, Below.refl _ _, rfl⟩
    | 2, hi =>
      cases hi
      obtain ⟨v, hv', rfl⟩ := hdep 1 _ _ rfl rfl rfl
      refine st_call (exec_call1 _ _ _ _ _ _ cf_to (eval_at hv') (fun _ => rfl) _ _ _ _ _ _) ?_
      refine (to_ltoPacket p d _ (rq.below hbu) lp).mono ?_
      rintro e u' ⟨z, rfl, hr, hb'⟩
      exact ⟨_, rfl, _, rfl, hb', z, rfl, hr⟩
    | 3, hi =>
      cases hi
      obtain ⟨v, hv', rfl⟩ := hdep 0 _ _ rfl rfl rfl
      obtain ⟨v', hv'', z, rfl, hr⟩ := hdep 2 _ _ rfl rfl rfl
      refine st_call (exec_call2 _ _ _ _ _ _ _ _ cf_eq (eval_at hv') (eval_at hv'') (fun _ => rfl) _ _ _ _ _ _) ?_
      refine (eq_leqPacket (p.re x2) z d _ (PX.rd.below hbu) hr lp).mono ?_
      rintro e u' ⟨rfl, hb'⟩
      exact ⟨_, rfl, _, rfl, hb', rfl⟩
    | 4, hi =>
      cases hi
      obtain ⟨v, hv', rfl⟩ := hdep 3 _ _ rfl rfl rfl
      exact st_value (v := .bool false) (w' := u) (by simp [execOp, eval_at hv', Op.unary]) ⟨_, rfl, Below.refl _ _, rfl⟩
    | (_ + 5), hi => cases hi
  intro vs y9 b9 hG a9_ h9_
  have g4 : vs 4 = .bool false := hG 4 (by decide)
  replace h9_ : (⟨#[_, _, _, _, _, _, _, _, _, _, _, _, _, _, _, _, _, _, _, _, _, _, _, _, _, _, _, _, _, _, _, _, _, _, _, _, _, _, _, _, _, _, _, _, _, _, _, _, _, _, _, _, _, _, _, _, _, _, _, _, _, _, _, _, _, _, _, _, _], []⟩ : Act) = a9_ := h9_
  subst h9_
  simp only [g4]
  clear hG g4 A rq
  replace hv := bel hv b9
  replace OW := OW.below b9
  replace OG := OG.below b9
  replace PX := PX.below b9
  replace C := C.next b9
  clear b9
  -- marks in x0
  have hcnt : 1 + (p.re x2).cnt ≤ 100000000000 := by
    obtain ⟨q1, q2, q3, q4, q5, q6⟩ := lq
    show 1 + (p.bod.n + p.wb.n + p.pa.n + 2 * p.wan.n + p.nam.n + p.cds.n) ≤ _
    omega
  go_wp2_with (first | refine load_pk C rfl _ rfl rfl ?_ | fail)
  refine (mark_lmarkPacket y3.heap.size (p.re x2) d 1 _ PX (by decide) hcnt).mono ?_
  rintro e y10 ⟨he, _, ht⟩
  clear hcnt
  generalize 1 + (p.re x2).cnt = K at he
  subst he
  replace OW := own_touch OW ht (fun a e hk => by have := low _ hk; have := hw0 a e; omega)
  replace OG := own_touch OG ht (fun a e hk => by have h1 := low _ hk; have h2 := (OG.block e).1; omega)
  have z9 := hv.size
  replace hv : Below v0.heap.size v0 y10 := hv.trans (ht.below z9 (fun k hk => by have := low k hk; omega))
  clear ht z9 PX C low
  have hK : ¬ ((K : Nat) : Int) < 0 := by omega
  go_wp2_with fail
  refine (eq_leqByteS _ _ _ _ _ LB _ OG.rd OW.rd (by omega)).mono ?_
  rintro e y11 ⟨rfl, b11⟩
  replace hv := bel hv b11
  replace OW := OW.below b11
  replace OG := OG.below b11
  clear b11
  -- marks in g0
  go_wp2_with fail
  refine (mark_lmarkByteS _ _ _ _ 1 LB _ OG (by omega) (by omega)).mono ?_
  rintro e y12 ⟨rfl, OM, hg⟩
  have m12 : Below v0.heap.size y11 y12 := mark_below OG hg (by omega) hv.size
  replace OW := OW.grown hg (fun a e hne => by
    have h1 := hw0 a e
    cases ag with
    | none => simp [Value.ownBlock] at hne
    | some g =>
      have h2 := (OG.block rfl).1
      have h3 : a.block = g.block := by simpa [Value.ownBlock] using hne
      omega)
  replace hv : Below v0.heap.size v0 y12 := hv.trans m12
  clear hg m12 OG
  go_wp2_with fail
  refine (held_lheldByteS _ _ _ 1 _ OM.rd (by omega) (by omega)).mono ?_
  rintro e u ⟨rfl, rfl⟩
  -- once more
  go_wp2_with (first | refine load_lp (A0.next hv) rfl _ rfl rfl ?_ | fail)
  refine (to_ltoPacket p d _ (rp.below hv) lp).mono ?_
  rintro e y13 ⟨x3, rfl, rx, b13⟩
  replace hv := bel hv b13
  replace OW := OW.below b13
  replace OM := OM.below b13
  clear b13
  go_wp2_with fail
  refine (put_iPutPacket (p.re x3) d _ rx sz lq).mono ?_
  rintro e y14 ⟨ah, nh, ch, rfl, OH, b14⟩
  replace OH : Own y14 y13.heap.size ah nh ch LB := by rw [← HB.out]; exact OH
  obtain rfl : N = nh := HN.out.symm.trans OH.1
  replace hv := bel hv b14
  replace OW := OW.below b14
  replace OM := OM.below b14
  clear b14 rx
  go_wp2_with fail
  refine (eq_leqByteS _ _ _ _ _ LB _ OH.rd OW.rd (by omega)).mono ?_
  rintro e y15 ⟨rfl, b15⟩
  replace hv := bel hv b15
  replace OM := OM.below b15
  clear b15 OH OW
  go_wp2_with fail
  refine (held_lheldByteS _ _ _ 1 _ OM.rd (by omega) (by omega)).mono ?_
  rintro e u ⟨rfl, rfl⟩
  go_wp2
  go_ret
  exact ⟨rfl, bel H0.out hv⟩

namespace fnExactPutPacket
theorem own : ownKnob Tryz.prog.godebug = none := by kernel_rfl
theorem laidOut : laidOutB Tryz.prog = true := by kernel_rfl
set_option maxRecDepth 100000 in
theorem lifted (os : Os) (started : os.Started) (H : Type) (enc : TypeId × Value → H) :
    ReturnsInHanded {} Tryz.checked os 3 .any (Rows.fnExactPutPacketSpec.pre6 enc Tryz.prog Tryz.f3 Rows.fnExactPutPacketRow.domain false) (Rows.fnExactPutPacketSpec.post enc Tryz.prog Tryz.f3 false true false false) := by
  refine returnsInHanded_of_change (C := Tryz.checked) own started (by kernel_rfl) Tryz.func3
    (ChangeSpec.witness6 (enc := enc) (C := Tryz.checked) false ⟨#[], #[.agg Pk.zero.cells], []⟩ 8 (by kernel_rfl) (by kernel_rfl) (by kernel_rfl) (by kernel_rfl)) ?_
  intro W base args ds gs before hval0 hW hcnd _
  have hval : ∀ (j : Nat) t v, Tryz.f3.params[j]? = some t → args[j]? = some v → Value.okWide Tryz.prog W .any base t v := hval0
  have hW' := hW
  obtain ⟨p, q, hA0, hV, rfl, hfz, hnd⟩ := hW
  have hA : DataW.TrodAll enc Tryz.prog W 0 (fun _ => true) true Tryz.f3.params.toList args.toList ds p := hA0
  rw [Tryz.params3] at hA hval
  obtain ⟨v0, vs0, d0, ds0, p0, q0, hargs, rfl, rfl, h0, r0⟩ := trodAll_cons hA
  obtain ⟨rfl, rfl, rfl⟩ := trodAll_nil r0
  obtain rfl : args = #[v0] := by cases args; simp_all
  obtain ⟨rfl, rfl⟩ := trodVars_none hV
  have k0 := h0
  have lt0 : ∀ x ∈ p0, x.block < W.heap.size := by obtain ⟨m, hm⟩ := k0; exact DataW.trod_lt m _ _ _ hm
  obtain ⟨a0, z0, rfl, w0⟩ := open_packet (hval 0 27 v0 rfl rfl) h0
  clear hA0 hval0
  refine (fnExactPutPacket_walk a0 z0 W w0).mono fun e W' ⟨he, bel⟩ => ?_
  subst he
  exact ⟨_, rfl, _, _, _, [], _, [], hW', trodAll_mk1 (shut_bool Tryz.underlying4 _), (trodAll_cons_mk (Below.trod laidOut (by kernel_rfl) (of_decide_eq_true (by kernel_rfl)) k0 bel lt0) trodAll_mk0), rfl, bel.frame _, fun h => by cases h⟩

theorem over : Rows.fnExactPutPacketRow.holds Tryz.pinned (OpenSpec.ofChange Rows.fnExactPutPacketSpec) :=
  OpenClaim.holds_of_wide 3 Tryz.f3 rfl rfl rfl rfl rfl rfl rfl ⟨rfl, rfl, rfl, rfl, rfl⟩ rfl rfl rfl rfl rfl (by kernel_rfl) Tryz.func3 (by kernel_rfl)
    (of_decide_eq_true (by kernel_rfl)) (by unfold Func.isWrapper; first | (rw [if_pos (by decide +kernel)]; kernel_rfl) | (rw [if_neg (by decide +kernel)]; exact ⟨rfl, rfl⟩))
    (fun os started H enc _ => lifted os started H enc)
end fnExactPutPacket

theorem fnExactPutPacket_holds : Rows.FnExactPutPacketSaid := fnExactPutPacket.over
end Go.Proofs.YtfpclkkkenekpaaGreat
