/- FnExactGetPacket: whatever it is handed, the law function laws.FnExactGetPacket returns true, and its arguments read afterwards as before. No condition. -/
import Derived.Test.YtccjiicjlifmiaaGreatDoorQ51
import Derived.Test.YtccjiicjlifmiaaGreatDoorQ25
import Derived.Test.YtccjiicjlifmiaaGreatDoorRows
import Derived.Test.YtccjiicjlifmiaaGreatDoorTie
import Derived.Test.YtccjiicjlifmiaaGreatDoorCards
import Derived.LaidMore
import Derived.Lay
import Derived.SevenTiedAt
import Derived.Stop.Joined
import Derived.ChangeSame
import Derived.ChangeVars
import Derived.JoinedOf
import Derived.RowKit
import Derived.LaidLaws
import Derived.LaidHandle
import Derived.WalkKit
import Derived.ProofKit
import Derived.OpenShut
import Derived.ShutString
import Derived.ChangeOld
import Derived.Below
import Derived.Deep.Strs
namespace Go.Proofs.YtccjiicjlifmiaaGreatDoor
open Go.ChangeShapes Go.WideShapes Go.ChangeAt Go.RowKit
open Go.ChangeMaps (open_string shut_string)
set_option linter.unusedVariables false
set_option linter.unusedSimpArgs false

theorem re_of {w u : World} {p q : Pk} {d e : Pd} (hp : PRd w p d) (hq : PRd u q e) (h : pv p d = pv q e) : e = d ∧ q = p.re ⟨(q.bod.a, q.bod.c), (q.wb.a, q.wb.c), (q.pa.a, q.pa.c), (q.wan.a, q.wan.c), (q.nam.a, q.nam.c), (q.cds.a, q.cds.c)⟩ := by
 obtain ⟨a1, a2, a3, a4, a5, a6⟩ := hp
 obtain ⟨b1, b2, b3, b4, b5, b6⟩ := hq
 replace a1 := a1.1.1
 replace a2 := a2.1.1
 replace a3 := a3.1.1
 replace a4 := a4.1.1
 replace a5 := a5.1.1
 replace a6 := a6.1.1
 replace b1 := b1.1.1
 replace b2 := b2.1.1
 replace b3 := b3.1.1
 replace b4 := b4.1.1
 replace b5 := b5.1.1
 replace b6 := b6.1.1
 obtain ⟨x0, x1, x2, x3, x4, x5, ⟨x6, x6n, x6c⟩, x7, x8, x9, x10, x11, x12, ⟨x13, x13n, x13c⟩, x14, x15, x16, x17, x18, ⟨x19, x19n, x19c⟩, x20, x21, ⟨x22, x22n, x22c⟩, ⟨x23, x23n, x23c⟩, ⟨x24, x24n, x24c⟩⟩ := p
 obtain ⟨y0, y1, y2, y3, y4, y5, ⟨y6, y6n, y6c⟩, y7, y8, y9, y10, y11, y12, ⟨y13, y13n, y13c⟩, y14, y15, y16, y17, y18, ⟨y19, y19n, y19c⟩, y20, y21, ⟨y22, y22n, y22c⟩, ⟨y23, y23n, y23c⟩, ⟨y24, y24n, y24c⟩⟩ := q
 obtain ⟨d1, d2, d3, d4, d5, d6⟩ := d
 obtain ⟨e1, e2, e3, e4, e5, e6⟩ := e
 unfold pv at h
 simp only [Pv.mk.injEq] at h
 obtain ⟨rfl, rfl, rfl, rfl, rfl, rfl, rfl, rfl, rfl, rfl, rfl, rfl, rfl, rfl, rfl, rfl, rfl, rfl, rfl, rfl, rfl, rfl, rfl, rfl, rfl⟩ := h
 simp only at a1 a2 a3 a4 a5 a6 b1 b2 b3 b4 b5 b6
 subst a1 a2 a3 a4 a5 a6 b1 b2 b3 b4 b5 b6
 exact ⟨rfl, rfl⟩
/-- laws.eqPacket of two that say the same. -/
theorem eqp {w : World} {p q : Pk} {d e : Pd} (hp : PRd w p d) (hq : PRd w q e) (h : pv p d = pv q e) (hl : Plen p 1048576) :
  Calls Tryz.prog 42 #[.agg p.cells, .agg q.cells] w fun e w' => e = .returned (.bool true) ∧ Below w.heap.size w w' := by
 obtain ⟨rfl, hr⟩ := re_of hp hq h
 rw [hr] at hq ⊢
 unfold Plen at hl
 exact eq_leqPacket p _ _ w hp hq (by unfold Plen; omega)
theorem POwn.touch {F : Nat → Prop} {w w' : World} {B : Nat} {p : Pk} {d : Pd} (h : Touch F w w') (ho : POwn w B p d) (hn : ∀ k, p.has k → ¬ F k) : POwn w' B p d := by
 have hs : ∀ s : Sl, s.a ∈ [p.bod.a, p.wb.a, p.pa.a, p.wan.a, p.nam.a, p.cds.a] → ∀ k, (Value.slice s.a s.n s.c).ownBlock = some k → ¬ F k := fun s hm k hk => by
  obtain ⟨a, ha, rfl⟩ := sl_row hk
  exact hn _ ⟨a, ha ▸ hm, rfl⟩
 exact ⟨⟨ho.bod.1, h.owns ho.bod.2 (hs p.bod (by simp))⟩, ⟨ho.wb.1, h.owns ho.wb.2 (hs p.wb (by simp))⟩, ⟨ho.pa.1, h.owns ho.pa.2 (hs p.pa (by simp))⟩, ⟨ho.wan.1, h.owns ho.wan.2 (hs p.wan (by simp))⟩, ⟨ho.nam.1, h.owns ho.nam.2 (hs p.nam (by simp))⟩, ⟨ho.cds.1, h.owns ho.cds.2 (hs p.cds (by simp))⟩, ho.dis⟩
set_option maxRecDepth 100000 in
set_option maxHeartbeats 8000000 in
theorem fnExactGetPacket_walk (a0 : Option Addr) (len0 cap0 : Nat) (l : List UInt8) (w : World) (hT : ErrTy w) (w0 : RdIn w a0 len0 cap0 l) :
  Calls Tryz.prog 8 #[.slice a0 len0 cap0] w fun e w' => e = .returned (.bool true) ∧ Below w.heap.size w w' := by
 by_cases hbig : 1048576 < len0
 ·have hb' : (1048576 : Int) < (len0 : Int) := by omega
  go_enter Tryz.func8, Tryz.ntmps8
  go_wp2
  go_ret
  exact ⟨rfl, Below.refl _ _⟩
 ·have hb' : ¬ (1048576 : Int) < (len0 : Int) := by omega
  have hTl : 1 < w.heap.size := World.block_lt_of_cell? _ _ hT
  obtain ⟨v, nn, cc, hg⟩ : ∃ v nn cc, getP l = (v, nn, cc) := ⟨_, _, _, rfl⟩
  have HG : Hid (∀ u u' e, Got u u' e l = Good u u' e v nn (.int .i64 cc)) := fun u u' e => by unfold Got; rw [hg]
  clear hg
  have hnn : (nn != nn) = false := by simp
  have hcc : (cc != cc) = false := by simp
  have HT : Hid (∀ u, Below w.heap.size w u → ErrTy u) := fun u hu => hT.below hu hTl
  have W0 : Hid (∀ u, Below w.heap.size w u → RdIn u a0 len0 cap0 l) := fun u hu => w0.below hu
  clear hT hTl w0
  go_enter Tryz.func8, Tryz.ntmps8
  go_wp2_with fail
  refine (to_ltoByteS _ _ _ l _ (W0.out _ (Below.refl _ _)) (by omega)).mono ?_
  rintro e u1 ⟨rfl, ho1, hb⟩
  go_wp2_with fail
  have C1 := get_s _ _ _ l _ ho1.rd (by omega)
  refine C1.mono ?_
  clear C1
  intro e u2 hh
  rw [HG.out] at hh
  obtain ⟨p, d, rfl, ow, gd, hpv, b2⟩ := hh
  replace hb := bel hb b2
  clear b2 ho1
  have HW : Hid (∀ k, p.has k → k < u2.heap.size) := fun k hk => (ow.lt hk).2
  have hw2 : w.heap.size ≤ u2.heap.size := hb.size
  have A : Blk (u2.alloc (.cells p.cells 28)) u2.heap.size p := heap_alloc_new _ _
  have b3 := bel_new u2 (.cells p.cells 28)
  replace ow := ow.below b3
  replace hb := bel hb b3
  clear b3
  go_wp2_with (first | refine var_pk (p := p) rfl rfl ?_ | fail)
  refine (to_ltoByteS _ _ _ l _ (W0.out _ hb) (by omega)).mono ?_
  rintro e u3 ⟨rfl, ho3, b3⟩
  simp only [World.size_alloc] at ho3 ⊢
  replace A := A.next b3
  replace ow := ow.below b3
  replace hb := bel hb b3
  clear b3
  have hx3 : u2.heap.size + 1 < u3.heap.size := (ho3.block rfl).2
  go_wp2_with fail
  have C2 := get_i _ _ _ l _ ho3.rd (by omega) (HT.out _ hb)
  refine C2.mono ?_
  clear C2
  intro e u4 hh
  rw [HG.out] at hh
  obtain ⟨p2, d2, rfl, ow2, gd2, hpv2, b4⟩ := hh
  have H2 : Hid (∀ k, p2.has k → u3.heap.size ≤ k) := fun k hk => (ow2.lt hk).1
  have hs4 : u3.heap.size ≤ u4.heap.size := b4.size
  replace A := A.next b4
  replace ow := ow.below b4
  replace ho3 := ho3.below b4
  replace hb := bel hb b4
  clear b4
  have HE : Hid (pv p2 d2 = pv p d) := hpv2.trans hpv.symm
  clear hpv2
  have D : Blk (u4.alloc (.cells p2.cells 28)) u4.heap.size p2 := heap_alloc_new _ _
  have b5 := bel_new u4 (.cells p2.cells 28)
  replace A := A.next b5
  replace ow := ow.below b5
  replace ho3 := ho3.below b5
  replace ow2 := ow2.below b5
  replace hb := bel hb b5
  clear b5
  go_wp2_with (first | refine var_pk (p := p2) rfl rfl ?_ | refine load_pk D rfl _ rfl rfl ?_ | refine load_pk A rfl _ rfl rfl ?_ | fail)
  refine (eqp ow2.rd ow.rd HE.out gd2.ln).mono ?_
  rintro e u5 ⟨rfl, b5⟩
  replace A := A.next b5
  replace ow := ow.below b5
  replace ho3 := ho3.below b5
  replace ow2 := ow2.below b5
  replace D := D.next b5
  replace hb := bel hb b5
  clear b5
  go_wp2_with fail
  refine (to_ltoByteS _ _ _ l _ (W0.out _ hb) (by omega)).mono ?_
  rintro e u6 ⟨rfl, ho6, b6⟩
  replace A := A.next b6
  replace ow := ow.below b6
  replace ho3 := ho3.below b6
  replace ow2 := ow2.below b6
  replace D := D.next b6
  replace hb := bel hb b6
  clear b6
  go_wp2_with fail
  refine (eq_leqByteS _ _ _ _ _ l _ ho3.rd ho6.rd (by omega)).mono ?_
  rintro e u7 ⟨rfl, b7⟩
  clear ho6
  replace A := A.next b7
  replace ow := ow.below b7
  replace ho3 := ho3.below b7
  replace ow2 := ow2.below b7
  replace D := D.next b7
  replace hb := bel hb b7
  clear b7
  go_wp2_with fail
  refine (mark_lmarkByteS _ _ _ _ 1 l _ ho3 (by omega) (by omega)).mono ?_
  rintro e u8 ⟨rfl, ho8, g8⟩
  clear ho8
  replace g8 : u7.grownBy u8 (some (u2.heap.size + 1)) := g8
  replace A : Blk u8 u2.heap.size p := (g8.block _ A.lt (fun e => by simp at e)).trans A
  replace D : Blk u8 u4.heap.size p2 := (g8.block _ D.lt (fun e => by simp at e; omega)).trans D
  replace ow := ow.grown g8 (fun k e => by cases e; intro hk; have := HW.out _ hk; omega)
  replace ow2 := ow2.grown g8 (fun k e => by cases e; intro hk; have := H2.out _ hk; omega)
  replace hb := below_st hb g8 (by omega)
  clear g8 ho3
  go_wp2_with (first | refine load_pk D rfl _ rfl rfl ?_ | refine load_pk A rfl _ rfl rfl ?_ | fail)
  refine (eqp ow2.rd ow.rd HE.out gd2.ln).mono ?_
  rintro e u9 ⟨rfl, b9⟩
  replace A := A.next b9
  replace ow := ow.below b9
  replace ow2 := ow2.below b9
  replace D := D.next b9
  replace hb := bel hb b9
  clear b9
  have hcnt : 1 + p2.cnt ≤ 100000000000 := by
   have h1 := gd2.bod
   have h2 := gd2.wb
   have h3 := gd2.pa
   have h4 := gd2.wan
   have h5 := gd2.nam
   have h6 := gd2.cds
   unfold Pk.cnt
   omega
  go_wp2_with (first | refine load_pk D rfl _ rfl rfl ?_ | fail)
  refine (mark_lmarkPacket _ p2 d2 1 _ ow2 (by decide) hcnt).mono ?_
  rintro e u10 ⟨rfl, ow10, t10⟩
  have hs9 : w.heap.size ≤ u9.heap.size := hb.size
  replace A : Blk u10 u2.heap.size p := (t10.block _ A.lt (fun hf => by have := H2.out _ hf; omega)).trans A
  replace D : Blk u10 u4.heap.size p2 := (t10.block _ D.lt (ow2.ne D)).trans D
  replace ow := ow.touch t10 (fun k hk hf => by have h1 := HW.out _ hk; have h2 := H2.out _ hf; omega)
  replace hb := hb.trans (t10.below hs9 (fun k hf => by have := H2.out _ hf; omega))
  clear t10 ow2
  have hcq : ((((1 + p2.cnt : Nat) : Int)) != ((1 + p2.cnt : Nat) : Int)) = false := by simp
  have hc0 : ¬ (((1 + p2.cnt : Nat) : Int)) < 0 := by omega
  generalize hcn : 1 + p2.cnt = cn at *
  go_wp2_with (first | refine load_pk D rfl _ rfl rfl ?_ | fail)
  have C3 := held_lheldPacket p2 1 _ ow10.rd (by decide) (hcn ▸ hcnt)
  rw [hcn] at C3
  refine C3.mono ?_
  clear C3
  rintro e u11 ⟨rfl, b11⟩
  replace A := A.next b11
  replace ow := ow.below b11
  replace ow10 := ow10.below b11
  replace D := D.next b11
  replace hb := bel hb b11
  clear b11
  go_wp2_with fail
  refine (to_ltoByteS _ _ _ l _ (W0.out _ hb) (by omega)).mono ?_
  rintro e u12 ⟨rfl, ho12, b12⟩
  replace A := A.next b12
  replace ow := ow.below b12
  replace ow10 := ow10.below b12
  replace D := D.next b12
  replace hb := bel hb b12
  clear b12
  go_wp2_with fail
  have C4 := get_i _ _ _ l _ ho12.rd (by omega) (HT.out _ hb)
  refine C4.mono ?_
  clear C4
  intro e u13 hh
  rw [HG.out] at hh
  obtain ⟨p3, d3, rfl, ow3, gd3, hpv3, b13⟩ := hh
  replace A := A.next b13
  replace ow := ow.below b13
  replace ow10 := ow10.below b13
  replace D := D.next b13
  replace hb := bel hb b13
  clear b13
  clear ho12
  have HE3 : Hid (pv p3 d3 = pv p d) := hpv3.trans hpv.symm
  have E : Blk (u13.alloc (.cells p3.cells 28)) u13.heap.size p3 := heap_alloc_new _ _
  have b14 := bel_new u13 (.cells p3.cells 28)
  replace A := A.next b14
  replace ow := ow.below b14
  replace ow10 := ow10.below b14
  replace D := D.next b14
  replace ow3 := ow3.below b14
  replace hb := bel hb b14
  clear b14
  go_wp2_with (first | refine var_pk (p := p3) rfl rfl ?_ | refine load_pk E rfl _ rfl rfl ?_ | refine load_pk A rfl _ rfl rfl ?_ | fail)
  refine (eqp ow3.rd ow.rd HE3.out gd3.ln).mono ?_
  rintro e u15 ⟨rfl, b15⟩
  replace ow10 := ow10.below b15
  replace D := D.next b15
  replace hb := bel hb b15
  clear b15
  go_wp2_with (first | refine load_pk D rfl _ rfl rfl ?_ | fail)
  have C5 := held_lheldPacket p2 1 _ ow10.rd (by decide) (hcn ▸ hcnt)
  rw [hcn] at C5
  refine C5.mono ?_
  clear C5
  rintro e u16 ⟨rfl, b16⟩
  replace hb := bel hb b16
  go_wp2
  go_ret
  exact ⟨rfl, hb⟩

theorem fnExactGetPacket_et : Tryz.prog.globalNamed "errors.errorType" = some 1 := by kernel_rfl
theorem fnExactGetPacket_rt : (Tryz.prog.cutTypes.find? (·.1 == "internal/reflectlite.rtype")).map (·.2) = some 196 := by kernel_rfl
theorem fnExactGetPacket_oneRow : ((List.range 275).filter fun t => Tryz.prog.rowNamed t [101, 114, 114, 111, 114]) = [94] := by kernel_rfl
theorem fnExactGetPacket_size : Tryz.prog.types.size = 275 := by kernel_rfl
/-- What the condition gives a walk: the variable's one cell. -/
theorem fnExactGetPacket_handle {W : World} (h : laidMetH Tryz.prog Rows.fnExactGetPacketRow.laid W) : ErrTy W := by
 have h' : laidMet Tryz.prog [] W ∧ handlesMet Tryz.prog Rows.fnExactGetPacketRow.laid W := h
 obtain ⟨name, u, ty, e1, e2, e3, e4, e5⟩ := h'.2 _ (List.mem_singleton.2 rfl)
 have en : name = [101, 114, 114, 111, 114] := (Option.some.inj e1).symm
 subst en
 obtain rfl := Option.some.inj (fnExactGetPacket_rt.symm.trans e2)
 have hm : ty ∈ (List.range 275).filter fun t => Tryz.prog.rowNamed t [101, 114, 114, 111, 114] := List.mem_filter.2 ⟨List.mem_range.2 (by rw [← fnExactGetPacket_size]; exact e3), e4⟩
 rw [fnExactGetPacket_oneRow] at hm
 obtain rfl := List.mem_singleton.1 hm
 have hh : typeHandle Tryz.prog 94 = .pointer (some ⟨5, 94, none⟩) := by kernel_rfl
 rw [hh] at e5
 unfold ErrTy
 simpa using World.var?_cell fnExactGetPacket_et e5 0
/-- A world that meets the condition: the settled one, the variable's cell laid. -/
noncomputable def fnExactGetPacket_world (os : Os) : World :=
 let w0 := World.holding Tryz.prog os ⟨#[], #[], []⟩
 { w0 with heap := w0.heap.modify 1 fun
   | .cells _ t frozen => .cells #[.iface 196 (.agg #[.pointer (some ⟨5, 94, none⟩)])] t frozen
   | o => o }
theorem fnExactGetPacket_met (os : Os) (args : Array Value) : laidMetH Tryz.prog Rows.fnExactGetPacketRow.laid ((fnExactGetPacket_world os).forCall (fun _ _ => 0) ⟨#[], args, []⟩).memory :=
 laidMetH_of_parts (laidMet_nil _ _) (by kernel_rfl)
namespace fnExactGetPacket
theorem own : ownKnob Tryz.prog.godebug = none := by kernel_rfl
theorem laidOut : laidOutB Tryz.prog = true := by kernel_rfl
set_option maxRecDepth 100000 in
theorem lifted (os : Os) (started : os.Started) (H : Type) (enc : TypeId × Value → H) :
  ReturnsInHanded {} Tryz.checked os 8 .any (fun w args => (Rows.fnExactGetPacketSpec.pre enc Tryz.prog Tryz.f8 Rows.fnExactGetPacketRow.domain false w args ∧ laidMetH Tryz.prog Rows.fnExactGetPacketRow.laid w) ∧ sizedMet enc Tryz.prog Tryz.f8 (OpenSpec.ofChange Rows.fnExactGetPacketSpec) false w args) (Rows.fnExactGetPacketSpec.post enc Tryz.prog Tryz.f8 false true false false) := by
 refine returnsInHanded_of_change_and (C := Tryz.checked) (X := fun w _ => laidMetH Tryz.prog Rows.fnExactGetPacketRow.laid w) (fun _ _ _ hh h => h.of_heap hh) own started (by kernel_rfl) Tryz.func8
  (ChangeSpec.witness_at (enc := enc) (C := Tryz.checked) (os := os) (X := fun w _ => laidMetH Tryz.prog Rows.fnExactGetPacketRow.laid w) false (fnExactGetPacket_world os) #[.slice none 0 0] 8 rfl (by kernel_rfl) (by kernel_rfl) (by kernel_rfl) (by kernel_rfl) (by kernel_rfl) (fnExactGetPacket_met os _)) ?_
 intro W base args ds gs before hval0 hW hcnd _ hL _
 have hval : ∀ (j : Nat) t v, Tryz.f8.params[j]? = some t → args[j]? = some v → Value.okWide Tryz.prog W .any base t v := hval0
 have hW' := hW
 obtain ⟨p, q, hA0, hV, rfl, hfz, hnd⟩ := hW
 have hA : DataW.TrodAll enc Tryz.prog W 0 (fun _ => true) true Tryz.f8.params.toList args.toList ds p := hA0
 rw [Tryz.params8] at hA hval
 obtain ⟨v0, vs0, d0, ds0, p0, q0, hargs, rfl, rfl, h0, r0⟩ := trodAll_cons hA
 obtain ⟨rfl, rfl, rfl⟩ := trodAll_nil r0
 obtain rfl : args = #[v0] := by cases args; simp_all
 obtain ⟨rfl, rfl⟩ := trodVars_none hV
 obtain ⟨a0, len0, cap0, rfl⟩ := okWide_slice Tryz.underlying22 (hval 0 22 v0 rfl rfl)
 have k0 := h0
 have lt0 : ∀ x ∈ p0, x.block < W.heap.size := by obtain ⟨m, hm⟩ := k0; exact DataW.trod_lt m _ _ _ hm
 obtain ⟨z0, w0⟩ : ∃ l, RdIn W a0 len0 cap0 l := by
  obtain ⟨fuel, hf⟩ := h0
  rcases open_ints Tryz.underlying22 Tryz.underlying5 (by kernel_rfl) hf with ⟨hcs, _⟩ | ⟨x, l, c, zs, hcs, _, hl, hm, hz, _, hcell, hwz⟩
  ·simp [Value.cells] at hcs
   obtain ⟨rfl, rfl, rfl⟩ := hcs
   exact ⟨[], RdIn.nil _⟩
  ·simp [Value.cells] at hcs
   obtain ⟨rfl, rfl, rfl⟩ := hcs
   exact RdIn.of_ints hl hm (by simpa using hz) hcell hwz
 clear hA0 hval0
 refine (fnExactGetPacket_walk a0 len0 cap0 z0 W (fnExactGetPacket_handle hL) w0).mono fun e W' ⟨he, bel⟩ => ?_
 subst he
 exact ⟨_, rfl, _, _, _, [], _, [], hW', trodAll_mk1 (shut_bool Tryz.underlying4 _), (trodAll_cons_mk (Below.trod laidOut (by kernel_rfl) (of_decide_eq_true (by kernel_rfl)) k0 bel lt0) trodAll_mk0), rfl, bel.frame _, fun h => by cases h⟩

theorem over : Rows.fnExactGetPacketRow.holds Tryz.pinned (OpenSpec.ofChange Rows.fnExactGetPacketSpec) :=
 OpenClaim.holds_of_wide 8 Tryz.f8 rfl rfl rfl rfl rfl rfl rfl ⟨rfl, rfl, rfl, rfl, rfl⟩ rfl rfl rfl rfl rfl (by kernel_rfl) Tryz.func8 (by kernel_rfl)
  (of_decide_eq_true (by kernel_rfl)) (by unfold Func.isWrapper; first | (rw [if_pos (by decide +kernel)]; kernel_rfl) | (rw [if_neg (by decide +kernel)]; exact ⟨rfl, rfl⟩))
  (fun os started H enc _ => lifted os started H enc)
end fnExactGetPacket

theorem fnExactGetPacket_holds : Rows.FnExactGetPacketCardSaid :=
 Claim7.holds_tied_plain_at .later [] [.handle] true Rows.fnExactGetPacketCard.stood.harness true fnExactGetPacket.over (fun _ h => by cases h) (by kernel_rfl) (fun _ h => by cases h) fnExactGetPacket_row_tie rfl ⟨rfl, rfl⟩ (by kernel_rfl) rfl
  (fun f fn hf hfn => by
   obtain rfl : f = 8 := Option.some.inj ((show Tryz.prog.funcNamed Rows.fnExactGetPacketRow.func = some 8 by kernel_rfl).symm.trans hf) |>.symm
   obtain rfl : fn = Tryz.f8 := (Option.some.inj (Tryz.func8.symm.trans hfn)).symm
   exact ⟨by kernel_rfl, fun j t ht => by
    rw [Tryz.params8] at ht
    have hm : t ∈ [22] := by simpa using Array.mem_of_getElem? ht
    have hall : ([22].all fun u => !Tryz.prog.wantsStandIn u) = true := by kernel_rfl
    exact (show Tryz.prog.wantsStandIn t = false by simpa using List.all_eq_true.1 hall t hm)⟩)
  (by kernel_rfl)
end Go.Proofs.YtccjiicjlifmiaaGreatDoor
