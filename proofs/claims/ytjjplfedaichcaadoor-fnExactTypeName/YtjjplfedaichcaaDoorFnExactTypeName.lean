/- FnExactTypeName: whatever it is handed, the law function laws.FnExactTypeName returns true, and its arguments read afterwards as before. No condition. -/
import Derived.Test.YtjjplfedaichcaaDoorRows
import Derived.Test.YtjjplfedaichcaaDoorTNam
import Derived.Test.YtjjplfedaichcaaDoorTie
import Derived.Test.YtjjplfedaichcaaDoorCards
import Derived.LaidMore
import Derived.Lay
import Derived.SevenTiedAt
import Derived.Stop.Joined
import Derived.OpenVars
import Derived.WalkKit
import Derived.ProofKit
import Derived.OpenShut
import Derived.ShutString
import Derived.ChangeOld
import Derived.Below
import Derived.Deep.Strs
namespace Go.Proofs.YtjjplfedaichcaaDoor
open Go.ChangeShapes Go.WideShapes Go.ChangeAt Go.RowKit
open Go.ChangeMaps (open_string shut_string)
set_option linter.unusedVariables false
set_option linter.unusedSimpArgs false

theorem named_of_laid {W : World} (h : laidMetH Tryd.prog Rows.fnExactTypeNameRow.laid W) : Named W := by
  rw [MakeChecks.laidMetH_plain _ _ _ (by kernel_rfl)] at h
  obtain ⟨ps, ⟨g, t, cs, fuel, p, q, hg, ht, hvar, hd, _, _⟩, _⟩ := h
  obtain rfl := Option.some.inj ((show Tryd.prog.globalNamed "loop.example/g00480/impl.typeNames" = some 0 by kernel_rfl).symm.trans hg)
  obtain rfl := Option.some.inj ((show (Tryd.prog.globals[0]?).map (fun x => x.type) = some 26 by kernel_rfl).symm.trans ht)
  obtain ⟨xs, m, _, hx, hlen, hxl, hi⟩ := DataW.trod_array Tryd.underlying26 hd
  intro i hi14
  have q1 := hi i hi14
  rw [show Tryd.prog.cellsOf 9 = 1 by kernel_rfl, Nat.mul_one] at q1
  rw [List.getElem?_eq_getElem (by omega)] at q1
  obtain ⟨s, hs, hy, _⟩ := DataW.trod_string Tryd.underlying9 q1
  have hl : xs.map (fun x => x.1) = names.map (fun s => DataW.lit (.string s.data.toList)) := by
    have h : DataW.agg (xs.map (fun x => x.1)) = DataW.agg (names.map (fun s => DataW.lit (.string s.data.toList))) := (congrArg Prod.fst hx).symm
    exact DataW.agg.inj h
  have h1 := congrArg (fun l => l[i]?) hl
  simp only [List.getElem?_map] at h1
  rw [List.getElem?_eq_getElem (show i < xs.length by omega), hy, List.getElem?_eq_getElem (show i < names.length from hi14)] at h1
  simp only [Option.map_some, Option.some.injEq, DataW.lit.injEq, Lit.string.injEq] at h1
  have e : s = names.getD i ByteArray.empty := by
    rw [List.getD_eq_getElem?_getD, List.getElem?_eq_getElem (show i < names.length from hi14), Option.getD_some]
    refine ByteArray.ext (Array.ext' ?_)
    exact h1
  have hc := World.var?_cell hg hvar i
  have h2 := congrArg (fun l => l[0]?) hs
  simp only [List.getElem?_take, List.getElem?_drop] at h2
  rw [hc, ← e]
  simpa using h2
theorem fnExactTypeName_walk (n : Int) (w : World) (hn : (Lit.int .i64 n).wf = true) (hN : Named w) (h0 : 0 < w.heap.size) :
    Calls Tryd.prog 3 #[.int .i64 n] w fun e w' => e = .returned (.bool true) ∧ Below w.heap.size w w' := by
  generalize hS : nameOf n = S
  have HS : Hid (nameOf n = S) := hS
  clear hS
  have hne : (S.toList != S.toList) = false := by simp
  go_enter Tryd.func3, Tryd.ntmps3
  go_wp2_with fail
  refine (name_sTypeName n _).mono ?_
  rintro e w2 ⟨he, hb⟩
  obtain rfl : e = .returned (.string S) := he.trans (by rw [HS.out])
  go_wp2_with fail
  refine (name_iTypeName n _ (hN.below hb h0)).mono ?_
  rintro e w3 ⟨he2, hw⟩
  obtain rfl : e = .returned (.string S) := he2.trans (by rw [HS.out])
  subst hw
  go_wp2
  go_ret
  exact ⟨rfl, hb⟩

namespace fnExactTypeName
theorem own : ownKnob Tryd.prog.godebug = none := by kernel_rfl
theorem laidOut : laidOutB Tryd.prog = true := by kernel_rfl
set_option maxRecDepth 100000 in
theorem lifted (os : Os) (started : os.Started) (H : Type) (enc : TypeId × Value → H) :
    ReturnsInHanded {} Tryd.checked os 3 .any (fun w args => (Rows.fnExactTypeNameSpec.pre enc Tryd.prog Tryd.f3 Rows.fnExactTypeNameRow.domain false w args ∧ laidMetH Tryd.prog Rows.fnExactTypeNameRow.laid w) ∧ sizedMet enc Tryd.prog Tryd.f3 (OpenSpec.ofChange Rows.fnExactTypeNameSpec) false w args) (Rows.fnExactTypeNameSpec.post enc Tryd.prog Tryd.f3 false true false false) := by
  refine returnsInHanded_of_change_and (C := Tryd.checked) (X := fun w _ => laidMetH Tryd.prog Rows.fnExactTypeNameRow.laid w) (fun _ _ _ hh h => h.of_heap hh) own started (by kernel_rfl) Tryd.func3
    (ChangeSpec.witness_shaped (enc := enc) (C := Tryd.checked) (os := os) (X := fun w _ => laidMetH Tryd.prog Rows.fnExactTypeNameRow.laid w) false (World.laidAll Tryd.prog os Rows.fnExactTypeNameRow.laid) #[.int .i64 0] 8 (World.laidAll_os _ _ _)
      (World.shaped_of_ZipB (by kernel_rfl) (by kernel_rfl)) (by kernel_rfl) (by kernel_rfl) (by kernel_rfl)
      (by rw [MakeChecks.laidMetH_plain _ _ _ (by kernel_rfl)]; exact laidMet_laidAll _ (by kernel_rfl) (by kernel_rfl))) ?_
  intro W base args ds gs before hval0 hW hcnd _ hL _
  have hval : ∀ (j : Nat) t v, Tryd.f3.params[j]? = some t → args[j]? = some v → Value.okWide Tryd.prog W .any base t v := hval0
  have hW' := hW
  obtain ⟨p, q, hA0, hV, rfl, hfz, hnd⟩ := hW
  have hA : DataW.TrodAll enc Tryd.prog W 0 (fun _ => true) true Tryd.f3.params.toList args.toList ds p := hA0
  rw [Tryd.params3] at hA hval
  obtain ⟨v0, vs0, d0, ds0, p0, q0, hargs, rfl, rfl, h0, r0⟩ := trodAll_cons hA
  obtain ⟨rfl, rfl, rfl⟩ := trodAll_nil r0
  obtain rfl : args = #[v0] := by cases args; simp_all
  have hV2 := hV
  obtain ⟨_, _, _, _, _, _, rfl, _, _, _, _, _⟩ := trodVars_one hV2
  obtain ⟨a0, rfl, rfl, rfl, w0⟩ := open_int Tryd.underlying3 (hval 0 3 v0 rfl rfl) h0
  clear hA0 hval0
  refine (fnExactTypeName_walk a0 W w0 (named_of_laid hL) (World.block_lt_of_cell? W _ (named_of_laid hL 0 (by decide)) |> Nat.lt_of_le_of_lt (Nat.zero_le _))).mono fun e W' ⟨he, bel⟩ => ?_
  subst he
  exact ⟨_, rfl, _, _, _, [], _, _, hW', trodAll_mk1 (shut_bool Tryd.underlying4 _), (trodAll_cons_mk (shut_int Tryd.underlying3 w0) trodAll_mk0), bel.trodVars laidOut (by kernel_rfl) hV, bel.frame _, fun h => by cases h⟩

theorem over : Rows.fnExactTypeNameRow.holds Tryd.pinned (OpenSpec.ofChange Rows.fnExactTypeNameSpec) :=
  OpenClaim.holds_of_wide 3 Tryd.f3 rfl rfl rfl rfl rfl rfl rfl ⟨rfl, rfl, rfl, rfl, rfl⟩ rfl rfl rfl rfl rfl (by kernel_rfl) Tryd.func3 (by kernel_rfl)
    (of_decide_eq_true (by kernel_rfl)) (by unfold Func.isWrapper; first | (rw [if_pos (by decide +kernel)]; kernel_rfl) | (rw [if_neg (by decide +kernel)]; exact ⟨rfl, rfl⟩))
    (fun os started H enc _ => lifted os started H enc)
end fnExactTypeName

theorem fnExactTypeName_holds : Rows.FnExactTypeNameCardSaid :=
  Claim7.holds_tied_plain_at .later [] [.data] true Rows.fnExactTypeNameCard.stood.harness false fnExactTypeName.over (fun _ h => by cases h) (by kernel_rfl) (fun _ h => by cases h) fnExactTypeName_row_tie rfl ⟨rfl, rfl⟩ (by kernel_rfl) rfl
    (fun f fn hf hfn => by
      obtain rfl : f = 3 := Option.some.inj ((show Tryd.prog.funcNamed Rows.fnExactTypeNameRow.func = some 3 by kernel_rfl).symm.trans hf) |>.symm
      obtain rfl : fn = Tryd.f3 := (Option.some.inj (Tryd.func3.symm.trans hfn)).symm
      exact ⟨by kernel_rfl, fun j t ht => by
        rw [Tryd.params3] at ht
        have hm : t ∈ [3] := by simpa using Array.mem_of_getElem? ht
        have hall : ([3].all fun u => !Tryd.prog.wantsStandIn u) = true := by kernel_rfl
        exact (show Tryd.prog.wantsStandIn t = false by simpa using List.all_eq_true.1 hall t hm)⟩)
    (by kernel_rfl)
end Go.Proofs.YtjjplfedaichcaaDoor
