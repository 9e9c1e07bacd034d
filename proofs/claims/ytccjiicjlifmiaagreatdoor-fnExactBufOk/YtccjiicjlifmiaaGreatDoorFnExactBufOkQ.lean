/- FnExactBufOk: whatever it is handed, the law function laws.FnExactBufOk returns true, and its arguments read afterwards as before. No condition. -/
import Derived.Test.YtccjiicjlifmiaaGreatDoorR51
import Derived.Test.YtccjiicjlifmiaaGreatDoorR24
import Derived.Test.YtccjiicjlifmiaaGreatDoorRows
import Derived.Test.YtccjiicjlifmiaaGreatDoorTie
import Derived.Test.YtccjiicjlifmiaaGreatDoorCards
import Derived.LaidMore
import Derived.Lay
import Derived.SevenTiedAt
import Derived.Stop.Joined
import Derived.ChangeSame
import Derived.ChangeVars
import Derived.JoinedOf
import Derived.RowKit
import Derived.LaidLaws
import Derived.LaidHandle
import Derived.WalkKit
import Derived.ProofKit
import Derived.OpenShut
import Derived.ShutString
import Derived.ChangeOld
import Derived.Below
import Derived.Deep.Strs
namespace Go.Proofs.YtccjiicjlifmiaaGreatDoor
open Go.ChangeShapes Go.WideShapes Go.ChangeAt Go.RowKit
open Go.ChangeMaps (open_string shut_string)
set_option linter.unusedVariables false
set_option linter.unusedSimpArgs false

section
variable {H : Type} {enc : TypeId × Value → H} {W : World}
theorem cut_one {cs : List Value} {i : Nat} {v : Value} (h : (cs.drop i).take 1 = [v]) : cs[i]? = some v := by
 have := congrArg (fun l => l[0]?) h
 simpa [List.getElem?_take] using this
theorem open_bytesB {fuel : Nat} {cs : List Value} {x : DataW H × List MemPlace} (h : DataW.trod enc Tryz.prog W 0 (fun _ => true) true fuel 22 cs = some x) : ∃ ao n cap l, cs = [.slice ao n cap] ∧ RdIn W ao n cap l := by
 rcases open_ints Tryz.underlying22 Tryz.underlying5 (by kernel_rfl) h with ⟨hcs, _⟩ | ⟨y, l, c, zs, hcs, _, hl, hm, hz, _, hcell, hwz⟩
 ·exact ⟨_, _, _, [], hcs, RdIn.nil _⟩
 ·obtain ⟨r, hr⟩ := RdIn.of_ints hl hm (by simpa using hz) hcell hwz
  exact ⟨_, _, _, r, hcs, hr⟩
set_option maxRecDepth 100000 in
/-- A buffer that comes in as an argument of a law, opened. -/
theorem open_buf {base : Nat} {v : Value} {d : DataW H} {ps : List MemPlace} (hval : Value.okWide Tryz.prog W .any base 61 v) (h : DataW.Trod enc Tryz.prog W 0 (fun _ => true) true 61 v d ps) :
  ∃ ao n cap l x, v = .agg #[.slice ao n cap, .bool x] ∧ RdIn W ao n cap l := by
 obtain ⟨cs, rfl, hsz⟩ := okWide_struct Tryz.underlying61 hval
 have h2 : cs.size = 2 := hsz.trans (by kernel_rfl)
 obtain ⟨fuel, hf⟩ := h
 obtain ⟨xs, n, _, _, _, hlen, hfs⟩ := DataW.trod_struct Tryz.underlying61 hf
 have hxs : xs.length = 2 := hlen
 have hx : ∀ i, i < 2 → ∃ y, xs[i]? = some y := fun i hi => ⟨_, List.getElem?_eq_getElem (by omega)⟩
 clear hf hlen hsz hval
 obtain ⟨y0, hy0⟩ := hx 0 (by decide)
 have q0 : DataW.trod enc Tryz.prog W 0 (fun _ => true) true n 22 ((cs.toList.drop 0).take 1) = some y0 := (hfs 0 _ rfl).trans hy0
 obtain ⟨A0, N0, C0, L0, g0, r0⟩ := open_bytesB q0
 replace g0 := cut_one g0
 obtain ⟨y1, hy1⟩ := hx 1 (by decide)
 have q1 : DataW.trod enc Tryz.prog W 0 (fun _ => true) true n 4 ((cs.toList.drop 1).take 1) = some y1 := (hfs 1 _ rfl).trans hy1
 obtain ⟨f1, g1, _⟩ := DataW.trod_bool Tryz.underlying4 q1
 replace g1 := cut_one g1
 refine ⟨A0, N0, C0, L0, f1, ?_, r0⟩
 congr 1
 obtain ⟨cs⟩ := cs
 match cs, h2, g0, g1 with
 | [u, v], _, g0, g1 =>
  simp at g0 g1
  rw [g0, g1]
end
theorem infoBi : (Tryz.prog.info? 51).map (fun x => x.size) = some 2 := by kernel_rfl
theorem infoBl : (Tryz.prog.info? 61).map (fun x => x.size) = some 2 := by kernel_rfl
theorem cfb_to (xs : Array Value) (u : World) : (callFunc 51 xs).run Tryz.prog u = .ok (.enter 51 xs) u := by kernel_rfl
theorem cfb_eq (xs : Array Value) (u : World) : (callFunc 52 xs).run Tryz.prog u = .ok (.enter 52 xs) u := by kernel_rfl
theorem st_loadBi {o : Oper} {a : Act} {w : World} {K : Act → World → Prop} {Q : Exit → Act → World → Prop} {g : Nat} {s b : Value} (hB : w.heap[g]? = some (.cells #[s, b] 51)) (x : Operand) (ho : o.op = .load 51 x)
  (hx : a.eval x = .pointer (some ⟨g, 0, none⟩)) (h : K (a.put o.dst (.agg #[s, b])) w) : Oper.wp Tryz.prog o a w K Q :=
 wp_load_row 51 x ho g hx 51 #[s, b] (0, 0) _ hB Tryz.underlying51 rfl infoBi h
theorem st_loadBl {o : Oper} {a : Act} {w : World} {K : Act → World → Prop} {Q : Exit → Act → World → Prop} {g : Nat} {s b : Value} (hB : w.heap[g]? = some (.cells #[s, b] 61)) (x : Operand) (ho : o.op = .load 61 x)
  (hx : a.eval x = .pointer (some ⟨g, 0, none⟩)) (h : K (a.put o.dst (.agg #[s, b])) w) : Oper.wp Tryz.prog o a w K Q :=
 wp_load_row 61 x ho g hx 61 #[s, b] (0, 0) _ hB Tryz.underlying61 rfl infoBl h
set_option maxRecDepth 100000 in
set_option maxHeartbeats 8000000 in
theorem fnExactBufOk_walk (a0 : Option Addr) (n cap0 : Nat) (l : List UInt8) (x : Bool) (w : World) (hT : ErrTy w) (w0 : RdIn w a0 n cap0 l) :
  Calls Tryz.prog 10 #[.agg #[.slice a0 n cap0, .bool x]] w fun e w' => e = .returned (.bool true) ∧ Below w.heap.size w w' := by
 have hTl : 1 < w.heap.size := World.block_lt_of_cell? _ _ hT
 have hnm : n ≤ maxLen := Nat.le_trans w0.2.1 w0.2.2.1
 have HT : Hid (∀ u, Below w.heap.size w u → ErrTy u) := fun u hu => hT.below hu hTl
 have W0 : Hid (∀ u, Below w.heap.size w u → RdIn u a0 n cap0 l) := fun u hu => w0.below hu
 have hb := bel_new w (.cells #[.slice a0 n cap0, .bool x] 61)
 have A : (w.alloc (.cells #[.slice a0 n cap0, .bool x] 61)).heap[w.heap.size]? = some (.cells #[.slice a0 n cap0, .bool x] 61) := heap_alloc_new _ _
 clear hT hTl w0
 go_enter Tryz.func10, Tryz.ntmps10
 go_wp2_with fail
 refine (sz_lszBuf a0 n cap0 1048576 x _ hnm (by omega)).mono ?_
 rintro e u1 ⟨r, rfl, b1, hr⟩
 have A1 : u1.heap[w.heap.size]? = _ := (b1.block _ (by simp)).trans A
 replace hb := bel hb b1
 clear b1 A
 have c0 := cell_of A1 0
 have c1 := cell_of A1 1
 simp only [List.getElem?_toArray, List.getElem?_cons_zero, List.getElem?_cons_succ] at c0 c1
 rcases hr with hr | ⟨R, rfl, hR⟩
 ·go_wp2
  go_ret
  exact ⟨rfl, hb⟩
 have hn : n ≤ 1048576 := by omega
 have hR0 : ¬ ((R : Nat) : Int) < 0 := by omega
 go_wp2_with fail
 refine (to_ltoBuf a0 n cap0 l x _ (W0.out _ hb) hn).mono ?_
 rintro e u2 ⟨q1, rfl, _, ho, b2⟩
 have A2 : u2.heap[w.heap.size]? = _ := (b2.block _ (World.block_lt_of_cell? _ _ c0)).trans A1
 replace hb := bel hb b2
 clear b2 A1 c0 c1
 have c0 := cell_of A2 0
 have c1 := cell_of A2 1
 simp only [List.getElem?_toArray, List.getElem?_cons_zero, List.getElem?_cons_succ] at c0 c1
 go_wp2_with fail
 refine (buf_s _ n n l x _ ho.rd hn).mono ?_
 rintro e u3 ⟨rfl, b3⟩
 have A3 : u3.heap[w.heap.size]? = _ := (b3.block _ (World.block_lt_of_cell? _ _ c0)).trans A2
 replace hb := bel hb b3
 clear b3 A2 c0 c1 ho
 have c0 := cell_of A3 0
 have c1 := cell_of A3 1
 simp only [List.getElem?_toArray, List.getElem?_cons_zero, List.getElem?_cons_succ] at c0 c1
 go_wp2_with fail
 refine (to_ltoBuf a0 n cap0 l x _ (W0.out _ hb) hn).mono ?_
 rintro e u4 ⟨q2, rfl, hq2, ho, b4⟩
 have A4 : u4.heap[w.heap.size]? = _ := (b4.block _ (World.block_lt_of_cell? _ _ c0)).trans A3
 replace hb := bel hb b4
 clear b4 A3 c0 c1
 have hw4 : w.heap.size < u4.heap.size := (Array.getElem?_eq_some_iff.1 A4).1
 have D : (u4.alloc (.cells #[.slice (some ⟨q2, 0, none⟩) n n, .bool x] 51)).heap[u4.heap.size]? = some (.cells #[.slice (some ⟨q2, 0, none⟩) n n, .bool x] 51) := heap_alloc_new _ _
 have b5 := bel_new u4 (.cells #[.slice (some ⟨q2, 0, none⟩) n n, .bool x] 51)
 replace A4 : (u4.alloc (.cells #[.slice (some ⟨q2, 0, none⟩) n n, .bool x] 51)).heap[w.heap.size]? = _ := (b5.block _ hw4).trans A4
 replace hb := bel hb b5
 replace ho := ho.below b5
 clear b5
 go_wp2_with fail
 refine (buf_i _ n n l x _ ho.rd hn (HT.out _ hb)).mono ?_
 rintro e u5 ⟨rfl, b5⟩
 replace A4 : u5.heap[w.heap.size]? = _ := (b5.block _ (Array.getElem?_eq_some_iff.1 A4).1).trans A4
 replace D : u5.heap[u4.heap.size]? = _ := (b5.block _ (Array.getElem?_eq_some_iff.1 D).1).trans D
 replace hb := bel hb b5
 replace ho := ho.below b5
 clear b5
 generalize bufOk l x = B
 have hBB : (B != B) = false := by simp
 go_upto_region 10 with fail
 refine region_facts (by kernel_rfl) rfl (fun i u v => match i with
  | 0 => u = .agg #[.slice (some ⟨q2, 0, none⟩) n n, .bool x]
  | 1 => u = .agg #[.slice a0 n cap0, .bool x]
  | 2 => ∃ q, u = .agg #[.slice (some ⟨q, 0, none⟩) n n, .bool x] ∧ RdIn v (some ⟨q, 0, none⟩) n n l
  | 3 => u = .bool true
  | 4 => u = .bool false
  | _ => True) ?_ ?_ ?_
 ·intro i u v v' hv h
  match i, h with
  | 0, h => exact h
  | 1, h => exact h
  | 2, h => (obtain ⟨q, e1, e2⟩ := h; exact ⟨q, e1, e2.below hv⟩)
  | 3, h => exact h
  | 4, h => exact h
  | (_ + 5), h => trivial
 ·intro i o a u hi hk hbu hdep
  match i, hi with
  | 0, hi =>
   cases hi
   exact st_loadBi ((hbu.block _ (Array.getElem?_eq_some_iff.1 D).1).trans D) _ rfl (eval_at ((hk.at 5 rfl).trans rfl)) ⟨_, rfl, Below.refl _ _, rfl⟩
  | 1, hi =>
   cases hi
   exact st_loadBl ((hbu.block _ (Array.getElem?_eq_some_iff.1 A4).1).trans A4) _ rfl (eval_at ((hk.at 1 rfl).trans rfl)) ⟨_, rfl, Below.refl _ _, rfl⟩
  | 2, hi =>
   cases hi
   obtain ⟨z1, hz1, rfl⟩ := hdep 1 _ _ rfl rfl rfl
   refine st_call (exec_call1 _ _ _ _ _ _ cfb_to (eval_at hz1) (fun _ => rfl) _ _ _ _ _ _) ?_
   refine (to_ltoBuf a0 n cap0 l x u (W0.out _ (hb.trans (hbu.mono hb.size))) hn).mono ?_
   rintro e u' ⟨q, rfl, _, ho', hb'⟩
   exact ⟨_, rfl, _, rfl, hb', q, rfl, ho'.rd⟩
  | 3, hi =>
   cases hi
   obtain ⟨z0, hz0, rfl⟩ := hdep 0 _ _ rfl rfl rfl
   obtain ⟨z2, hz2, q, rfl, hq⟩ := hdep 2 _ _ rfl rfl rfl
   refine st_call (exec_call2 _ _ _ _ _ _ _ _ cfb_eq (eval_at hz0) (eval_at hz2) (fun _ => rfl) _ _ _ _ _ _) ?_
   refine (eq_leqBuf _ _ n n n l x u (ho.rd.below hbu) hq hn).mono ?_
   rintro e u' ⟨rfl, hb'⟩
   exact ⟨_, rfl, _, rfl, hb', rfl⟩
  | 4, hi =>
   cases hi
   obtain ⟨z3, hz3, rfl⟩ := hdep 3 _ _ rfl rfl rfl
   exact z_not _ _ rfl (eval_at hz3) ⟨_, rfl, Below.refl _ _, rfl⟩
  | (_ + 5), hi => cases hi
 intro vs u9 b9 hG a3 h3
 have e4 := hG 4 (by decide)
 replace e4 : vs 4 = .bool false := e4
 clear hG
 replace hb := bel hb b9
 replace h3 : (Act.mk #[_, _, _, _, _, _, _, _, _, _, _, _, _, _, _, _, _, _, _, _, _, _, _, _, _, _, _] []) = _ := h3
 subst h3
 simp only [e4]
 go_wp2
 go_ret
 exact ⟨rfl, hb⟩

theorem fnExactBufOk_et : Tryz.prog.globalNamed "errors.errorType" = some 1 := by kernel_rfl
theorem fnExactBufOk_rt : (Tryz.prog.cutTypes.find? (·.1 == "internal/reflectlite.rtype")).map (·.2) = some 196 := by kernel_rfl
theorem fnExactBufOk_oneRow : ((List.range 275).filter fun t => Tryz.prog.rowNamed t [101, 114, 114, 111, 114]) = [94] := by kernel_rfl
theorem fnExactBufOk_size : Tryz.prog.types.size = 275 := by kernel_rfl
/-- What the condition gives a walk: the variable's one cell. -/
theorem fnExactBufOk_handle {W : World} (h : laidMetH Tryz.prog Rows.fnExactBufOkRow.laid W) : ErrTy W := by
 have h' : laidMet Tryz.prog [] W ∧ handlesMet Tryz.prog Rows.fnExactBufOkRow.laid W := h
 obtain ⟨name, u, ty, e1, e2, e3, e4, e5⟩ := h'.2 _ (List.mem_singleton.2 rfl)
 have en : name = [101, 114, 114, 111, 114] := (Option.some.inj e1).symm
 subst en
 obtain rfl := Option.some.inj (fnExactBufOk_rt.symm.trans e2)
 have hm : ty ∈ (List.range 275).filter fun t => Tryz.prog.rowNamed t [101, 114, 114, 111, 114] := List.mem_filter.2 ⟨List.mem_range.2 (by rw [← fnExactBufOk_size]; exact e3), e4⟩
 rw [fnExactBufOk_oneRow] at hm
 obtain rfl := List.mem_singleton.1 hm
 have hh : typeHandle Tryz.prog 94 = .pointer (some ⟨5, 94, none⟩) := by kernel_rfl
 rw [hh] at e5
 unfold ErrTy
 simpa using World.var?_cell fnExactBufOk_et e5 0
/-- A world that meets the condition: the settled one, the variable's cell laid. -/
noncomputable def fnExactBufOk_world (os : Os) : World :=
 let w0 := World.holding Tryz.prog os ⟨#[], #[], []⟩
 { w0 with heap := w0.heap.modify 1 fun
   | .cells _ t frozen => .cells #[.iface 196 (.agg #[.pointer (some ⟨5, 94, none⟩)])] t frozen
   | o => o }
theorem fnExactBufOk_met (os : Os) (args : Array Value) : laidMetH Tryz.prog Rows.fnExactBufOkRow.laid ((fnExactBufOk_world os).forCall (fun _ _ => 0) ⟨#[], args, []⟩).memory :=
 laidMetH_of_parts (laidMet_nil _ _) (by kernel_rfl)
namespace fnExactBufOk
theorem own : ownKnob Tryz.prog.godebug = none := by kernel_rfl
theorem laidOut : laidOutB Tryz.prog = true := by kernel_rfl
set_option maxRecDepth 100000 in
theorem lifted (os : Os) (started : os.Started) (H : Type) (enc : TypeId × Value → H) :
  ReturnsInHanded {} Tryz.checked os 10 .any (fun w args => (Rows.fnExactBufOkSpec.pre enc Tryz.prog Tryz.f10 Rows.fnExactBufOkRow.domain false w args ∧ laidMetH Tryz.prog Rows.fnExactBufOkRow.laid w) ∧ sizedMet enc Tryz.prog Tryz.f10 (OpenSpec.ofChange Rows.fnExactBufOkSpec) false w args) (Rows.fnExactBufOkSpec.post enc Tryz.prog Tryz.f10 false true false false) := by
 refine returnsInHanded_of_change_and (C := Tryz.checked) (X := fun w _ => laidMetH Tryz.prog Rows.fnExactBufOkRow.laid w) (fun _ _ _ hh h => h.of_heap hh) own started (by kernel_rfl) Tryz.func10
  (ChangeSpec.witness_at (enc := enc) (C := Tryz.checked) (os := os) (X := fun w _ => laidMetH Tryz.prog Rows.fnExactBufOkRow.laid w) false (fnExactBufOk_world os) #[.agg #[.slice none 0 0, .bool false]] 8 rfl (by kernel_rfl) (by kernel_rfl) (by kernel_rfl) (by kernel_rfl) (by kernel_rfl) (fnExactBufOk_met os _)) ?_
 intro W base args ds gs before hval0 hW hcnd _ hL _
 have hval : ∀ (j : Nat) t v, Tryz.f10.params[j]? = some t → args[j]? = some v → Value.okWide Tryz.prog W .any base t v := hval0
 have hW' := hW
 obtain ⟨p, q, hA0, hV, rfl, hfz, hnd⟩ := hW
 have hA : DataW.TrodAll enc Tryz.prog W 0 (fun _ => true) true Tryz.f10.params.toList args.toList ds p := hA0
 rw [Tryz.params10] at hA hval
 obtain ⟨v0, vs0, d0, ds0, p0, q0, hargs, rfl, rfl, h0, r0⟩ := trodAll_cons hA
 obtain ⟨rfl, rfl, rfl⟩ := trodAll_nil r0
 obtain rfl : args = #[v0] := by cases args; simp_all
 obtain ⟨rfl, rfl⟩ := trodVars_none hV
 have k0 := h0
 have lt0 : ∀ x ∈ p0, x.block < W.heap.size := by obtain ⟨m, hm⟩ := k0; exact DataW.trod_lt m _ _ _ hm
 obtain ⟨a0, len0, cap0, z0, x0, rfl, w0⟩ := open_buf (hval 0 61 v0 rfl rfl) h0
 clear hA0 hval0
 refine (fnExactBufOk_walk a0 len0 cap0 z0 x0 W (fnExactBufOk_handle hL) w0).mono fun e W' ⟨he, bel⟩ => ?_
 subst he
 exact ⟨_, rfl, _, _, _, [], _, [], hW', trodAll_mk1 (shut_bool Tryz.underlying4 _), (trodAll_cons_mk (Below.trod laidOut (by kernel_rfl) (of_decide_eq_true (by kernel_rfl)) k0 bel lt0) trodAll_mk0), rfl, bel.frame _, fun h => by cases h⟩

theorem over : Rows.fnExactBufOkRow.holds Tryz.pinned (OpenSpec.ofChange Rows.fnExactBufOkSpec) :=
 OpenClaim.holds_of_wide 10 Tryz.f10 rfl rfl rfl rfl rfl rfl rfl ⟨rfl, rfl, rfl, rfl, rfl⟩ rfl rfl rfl rfl rfl (by kernel_rfl) Tryz.func10 (by kernel_rfl)
  (of_decide_eq_true (by kernel_rfl)) (by unfold Func.isWrapper; first | (rw [if_pos (by decide +kernel)]; kernel_rfl) | (rw [if_neg (by decide +kernel)]; exact ⟨rfl, rfl⟩))
  (fun os started H enc _ => lifted os started H enc)
end fnExactBufOk

theorem fnExactBufOk_holds : Rows.FnExactBufOkCardSaid :=
 Claim7.holds_tied_plain_at .later [] [.handle] true Rows.fnExactBufOkCard.stood.harness true fnExactBufOk.over (fun _ h => by cases h) (by kernel_rfl) (fun _ h => by cases h) fnExactBufOk_row_tie rfl ⟨rfl, rfl⟩ (by kernel_rfl) rfl
  (fun f fn hf hfn => by
   obtain rfl : f = 10 := Option.some.inj ((show Tryz.prog.funcNamed Rows.fnExactBufOkRow.func = some 10 by kernel_rfl).symm.trans hf) |>.symm
   obtain rfl : fn = Tryz.f10 := (Option.some.inj (Tryz.func10.symm.trans hfn)).symm
   exact ⟨by kernel_rfl, fun j t ht => by
    rw [Tryz.params10] at ht
    have hm : t ∈ [61] := by simpa using Array.mem_of_getElem? ht
    have hall : ([61].all fun u => !Tryz.prog.wantsStandIn u) = true := by kernel_rfl
    exact (show Tryz.prog.wantsStandIn t = false by simpa using List.all_eq_true.1 hall t hm)⟩)
  (by kernel_rfl)
end Go.Proofs.YtccjiicjlifmiaaGreatDoor
