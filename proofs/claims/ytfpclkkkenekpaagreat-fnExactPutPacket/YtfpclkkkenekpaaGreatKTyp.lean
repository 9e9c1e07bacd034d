/- What the program's type switches say of each kind. -/
import Derived.Test.YtfpclkkkenekpaaGreatPlain
import Derived.Handy
set_option linter.unusedVariables false
set_option linter.unusedSimpArgs false
namespace Go.Proofs.YtfpclkkkenekpaaGreat
open Go.RowKit

/-- A type's zero value. -/
def zv (P : Program) (t : TypeId) : Value := ((P.info? t).bind (fun i => i.zero)).getD undef
theorem zero_run (P : Program) (t : TypeId) (h : ((P.info? t).bind (fun i => i.zero)).isSome = true) (w : World) : (zeroValue t).run P w = .ok (zv P t) w := by
  unfold zv
  cases hi : P.info? t with
  | none => simp [hi] at h
  | some i =>
    cases hz : i.zero with
    | none => simp [hi, hz] at h
    | some z => simp [zeroValue, typeInfo, hi, hz, Sem.run_bind]
theorem ta_no {P : Program} {T U X : TypeId} {fs : Array Field} (hne : T ≠ U) (hu : P.underlying U = some (.struct fs)) (hz : ((P.info? U).bind (fun i => i.zero)).isSome = true) (v : Value) (w : World) :
    (Instr.typeAssert (.iface T v) X U true).run P w = .ok (.tuple #[zv P U, .bool false]) w := by
  simp [Instr.typeAssert, Sem.run_bind, run_underlying hu, hne, zero_run P U hz]
theorem ta_yes {P : Program} {U X : TypeId} {fs : Array Field} (hu : P.underlying U = some (.struct fs)) (v : Value) (w : World) :
    (Instr.typeAssert (.iface U v) X U true).run P w = .ok (.tuple #[v, .bool true]) w := by
  simp [Instr.typeAssert, Sem.run_bind, run_underlying hu]
theorem ta_nil {P : Program} {U X : TypeId} {fs : Array Field} (hu : P.underlying U = some (.struct fs)) (hz : ((P.info? U).bind (fun i => i.zero)).isSome = true) (w : World) :
    (Instr.typeAssert .nilIface X U true).run P w = .ok (.tuple #[zv P U, .bool false]) w := by
  simp [Instr.typeAssert, Sem.run_bind, run_underlying hu, zero_run P U hz]
theorem hz_connectKind : ((Tryz.prog.info? 87).bind (fun i => i.zero)).isSome = true := by kernel_rfl
theorem hz_connAckKind : ((Tryz.prog.info? 90).bind (fun i => i.zero)).isSome = true := by kernel_rfl
theorem hz_publishKind : ((Tryz.prog.info? 92).bind (fun i => i.zero)).isSome = true := by kernel_rfl
theorem hz_pubAckKind : ((Tryz.prog.info? 97).bind (fun i => i.zero)).isSome = true := by kernel_rfl
theorem hz_pubRecKind : ((Tryz.prog.info? 98).bind (fun i => i.zero)).isSome = true := by kernel_rfl
theorem hz_pubRelKind : ((Tryz.prog.info? 99).bind (fun i => i.zero)).isSome = true := by kernel_rfl
theorem hz_pubCompKind : ((Tryz.prog.info? 100).bind (fun i => i.zero)).isSome = true := by kernel_rfl
theorem hz_subscribeKind : ((Tryz.prog.info? 102).bind (fun i => i.zero)).isSome = true := by kernel_rfl
theorem hz_subAckKind : ((Tryz.prog.info? 104).bind (fun i => i.zero)).isSome = true := by kernel_rfl
theorem hz_unsubscribeKind : ((Tryz.prog.info? 106).bind (fun i => i.zero)).isSome = true := by kernel_rfl
theorem hz_unsubAckKind : ((Tryz.prog.info? 107).bind (fun i => i.zero)).isSome = true := by kernel_rfl
theorem hz_pingReqKind : ((Tryz.prog.info? 111).bind (fun i => i.zero)).isSome = true := by kernel_rfl
theorem hz_pingRespKind : ((Tryz.prog.info? 112).bind (fun i => i.zero)).isSome = true := by kernel_rfl
theorem hz_disconnectKind : ((Tryz.prog.info? 113).bind (fun i => i.zero)).isSome = true := by kernel_rfl
set_option maxRecDepth 100000 in
theorem type_connectKind (v : Value) (w : World) : Calls Tryz.prog 67 #[.iface 87 v] w fun e w' => e = .returned (.int .i64 1) ∧ w' = w := by
  have h0 := ta_yes (X := 64) Tryz.underlying87
  go_enter Tryz.func67, Tryz.ntmps67
  go_wp2
  go_ret
  exact ⟨rfl, rfl⟩
set_option maxRecDepth 100000 in
theorem type_connAckKind (v : Value) (w : World) : Calls Tryz.prog 67 #[.iface 90 v] w fun e w' => e = .returned (.int .i64 2) ∧ w' = w := by
  have h0 := ta_no (T := 90) (X := 64) (by decide) Tryz.underlying87 hz_connectKind
  have h1 := ta_yes (X := 64) Tryz.underlying90
  go_enter Tryz.func67, Tryz.ntmps67
  go_wp2
  go_ret
  exact ⟨rfl, rfl⟩
set_option maxRecDepth 100000 in
theorem type_publishKind (v : Value) (w : World) : Calls Tryz.prog 67 #[.iface 92 v] w fun e w' => e = .returned (.int .i64 3) ∧ w' = w := by
  have h0 := ta_no (T := 92) (X := 64) (by decide) Tryz.underlying87 hz_connectKind
  have h1 := ta_no (T := 92) (X := 64) (by decide) Tryz.underlying90 hz_connAckKind
  have h2 := ta_yes (X := 64) Tryz.underlying92
  go_enter Tryz.func67, Tryz.ntmps67
  go_wp2
  go_ret
  exact ⟨rfl, rfl⟩
set_option maxRecDepth 100000 in
theorem type_pubAckKind (v : Value) (w : World) : Calls Tryz.prog 67 #[.iface 97 v] w fun e w' => e = .returned (.int .i64 4) ∧ w' = w := by
  have h0 := ta_no (T := 97) (X := 64) (by decide) Tryz.underlying87 hz_connectKind
  have h1 := ta_no (T := 97) (X := 64) (by decide) Tryz.underlying90 hz_connAckKind
  have h2 := ta_no (T := 97) (X := 64) (by decide) Tryz.underlying92 hz_publishKind
  have h3 := ta_yes (X := 64) Tryz.underlying97
  go_enter Tryz.func67, Tryz.ntmps67
  go_wp2
  go_ret
  exact ⟨rfl, rfl⟩
set_option maxRecDepth 100000 in
theorem type_pubRecKind (v : Value) (w : World) : Calls Tryz.prog 67 #[.iface 98 v] w fun e w' => e = .returned (.int .i64 5) ∧ w' = w := by
  have h0 := ta_no (T := 98) (X := 64) (by decide) Tryz.underlying87 hz_connectKind
  have h1 := ta_no (T := 98) (X := 64) (by decide) Tryz.underlying90 hz_connAckKind
  have h2 := ta_no (T := 98) (X := 64) (by decide) Tryz.underlying92 hz_publishKind
  have h3 := ta_no (T := 98) (X := 64) (by decide) Tryz.underlying97 hz_pubAckKind
  have h4 := ta_yes (X := 64) Tryz.underlying98
  go_enter Tryz.func67, Tryz.ntmps67
  go_wp2
  go_ret
  exact ⟨rfl, rfl⟩
set_option maxRecDepth 100000 in
theorem type_pubRelKind (v : Value) (w : World) : Calls Tryz.prog 67 #[.iface 99 v] w fun e w' => e = .returned (.int .i64 6) ∧ w' = w := by
  have h0 := ta_no (T := 99) (X := 64) (by decide) Tryz.underlying87 hz_connectKind
  have h1 := ta_no (T := 99) (X := 64) (by decide) Tryz.underlying90 hz_connAckKind
  have h2 := ta_no (T := 99) (X := 64) (by decide) Tryz.underlying92 hz_publishKind
  have h3 := ta_no (T := 99) (X := 64) (by decide) Tryz.underlying97 hz_pubAckKind
  have h4 := ta_no (T := 99) (X := 64) (by decide) Tryz.underlying98 hz_pubRecKind
  have h5 := ta_yes (X := 64) Tryz.underlying99
  go_enter Tryz.func67, Tryz.ntmps67
  go_wp2
  go_ret
  exact ⟨rfl, rfl⟩
set_option maxRecDepth 100000 in
theorem type_pubCompKind (v : Value) (w : World) : Calls Tryz.prog 67 #[.iface 100 v] w fun e w' => e = .returned (.int .i64 7) ∧ w' = w := by
  have h0 := ta_no (T := 100) (X := 64) (by decide) Tryz.underlying87 hz_connectKind
  have h1 := ta_no (T := 100) (X := 64) (by decide) Tryz.underlying90 hz_connAckKind
  have h2 := ta_no (T := 100) (X := 64) (by decide) Tryz.underlying92 hz_publishKind
  have h3 := ta_no (T := 100) (X := 64) (by decide) Tryz.underlying97 hz_pubAckKind
  have h4 := ta_no (T := 100) (X := 64) (by decide) Tryz.underlying98 hz_pubRecKind
  have h5 := ta_no (T := 100) (X := 64) (by decide) Tryz.underlying99 hz_pubRelKind
  have h6 := ta_yes (X := 64) Tryz.underlying100
  go_enter Tryz.func67, Tryz.ntmps67
  go_wp2
  go_ret
  exact ⟨rfl, rfl⟩
set_option maxRecDepth 100000 in
theorem type_subscribeKind (v : Value) (w : World) : Calls Tryz.prog 67 #[.iface 102 v] w fun e w' => e = .returned (.int .i64 8) ∧ w' = w := by
  have h0 := ta_no (T := 102) (X := 64) (by decide) Tryz.underlying87 hz_connectKind
  have h1 := ta_no (T := 102) (X := 64) (by decide) Tryz.underlying90 hz_connAckKind
  have h2 := ta_no (T := 102) (X := 64) (by decide) Tryz.underlying92 hz_publishKind
  have h3 := ta_no (T := 102) (X := 64) (by decide) Tryz.underlying97 hz_pubAckKind
  have h4 := ta_no (T := 102) (X := 64) (by decide) Tryz.underlying98 hz_pubRecKind
  have h5 := ta_no (T := 102) (X := 64) (by decide) Tryz.underlying99 hz_pubRelKind
  have h6 := ta_no (T := 102) (X := 64) (by decide) Tryz.underlying100 hz_pubCompKind
  have h7 := ta_yes (X := 64) Tryz.underlying102
  go_enter Tryz.func67, Tryz.ntmps67
  go_wp2
  go_ret
  exact ⟨rfl, rfl⟩
set_option maxRecDepth 100000 in
theorem type_subAckKind (v : Value) (w : World) : Calls Tryz.prog 67 #[.iface 104 v] w fun e w' => e = .returned (.int .i64 9) ∧ w' = w := by
  have h0 := ta_no (T := 104) (X := 64) (by decide) Tryz.underlying87 hz_connectKind
  have h1 := ta_no (T := 104) (X := 64) (by decide) Tryz.underlying90 hz_connAckKind
  have h2 := ta_no (T := 104) (X := 64) (by decide) Tryz.underlying92 hz_publishKind
  have h3 := ta_no (T := 104) (X := 64) (by decide) Tryz.underlying97 hz_pubAckKind
  have h4 := ta_no (T := 104) (X := 64) (by decide) Tryz.underlying98 hz_pubRecKind
  have h5 := ta_no (T := 104) (X := 64) (by decide) Tryz.underlying99 hz_pubRelKind
  have h6 := ta_no (T := 104) (X := 64) (by decide) Tryz.underlying100 hz_pubCompKind
  have h7 := ta_no (T := 104) (X := 64) (by decide) Tryz.underlying102 hz_subscribeKind
  have h8 := ta_yes (X := 64) Tryz.underlying104
  go_enter Tryz.func67, Tryz.ntmps67
  go_wp2
  go_ret
  exact ⟨rfl, rfl⟩
set_option maxRecDepth 100000 in
theorem type_unsubscribeKind (v : Value) (w : World) : Calls Tryz.prog 67 #[.iface 106 v] w fun e w' => e = .returned (.int .i64 10) ∧ w' = w := by
  have h0 := ta_no (T := 106) (X := 64) (by decide) Tryz.underlying87 hz_connectKind
  have h1 := ta_no (T := 106) (X := 64) (by decide) Tryz.underlying90 hz_connAckKind
  have h2 := ta_no (T := 106) (X := 64) (by decide) Tryz.underlying92 hz_publishKind
  have h3 := ta_no (T := 106) (X := 64) (by decide) Tryz.underlying97 hz_pubAckKind
  have h4 := ta_no (T := 106) (X := 64) (by decide) Tryz.underlying98 hz_pubRecKind
  have h5 := ta_no (T := 106) (X := 64) (by decide) Tryz.underlying99 hz_pubRelKind
  have h6 := ta_no (T := 106) (X := 64) (by decide) Tryz.underlying100 hz_pubCompKind
  have h7 := ta_no (T := 106) (X := 64) (by decide) Tryz.underlying102 hz_subscribeKind
  have h8 := ta_no (T := 106) (X := 64) (by decide) Tryz.underlying104 hz_subAckKind
  have h9 := ta_yes (X := 64) Tryz.underlying106
  go_enter Tryz.func67, Tryz.ntmps67
  go_wp2
  go_ret
  exact ⟨rfl, rfl⟩
set_option maxRecDepth 100000 in
theorem type_unsubAckKind (v : Value) (w : World) : Calls Tryz.prog 67 #[.iface 107 v] w fun e w' => e = .returned (.int .i64 11) ∧ w' = w := by
  have h0 := ta_no (T := 107) (X := 64) (by decide) Tryz.underlying87 hz_connectKind
  have h1 := ta_no (T := 107) (X := 64) (by decide) Tryz.underlying90 hz_connAckKind
  have h2 := ta_no (T := 107) (X := 64) (by decide) Tryz.underlying92 hz_publishKind
  have h3 := ta_no (T := 107) (X := 64) (by decide) Tryz.underlying97 hz_pubAckKind
  have h4 := ta_no (T := 107) (X := 64) (by decide) Tryz.underlying98 hz_pubRecKind
  have h5 := ta_no (T := 107) (X := 64) (by decide) Tryz.underlying99 hz_pubRelKind
  have h6 := ta_no (T := 107) (X := 64) (by decide) Tryz.underlying100 hz_pubCompKind
  have h7 := ta_no (T := 107) (X := 64) (by decide) Tryz.underlying102 hz_subscribeKind
  have h8 := ta_no (T := 107) (X := 64) (by decide) Tryz.underlying104 hz_subAckKind
  have h9 := ta_no (T := 107) (X := 64) (by decide) Tryz.underlying106 hz_unsubscribeKind
  have h10 := ta_yes (X := 64) Tryz.underlying107
  go_enter Tryz.func67, Tryz.ntmps67
  go_wp2
  go_ret
  exact ⟨rfl, rfl⟩
set_option maxRecDepth 100000 in
theorem type_pingReqKind (v : Value) (w : World) : Calls Tryz.prog 67 #[.iface 111 v] w fun e w' => e = .returned (.int .i64 12) ∧ w' = w := by
  have h0 := ta_no (T := 111) (X := 64) (by decide) Tryz.underlying87 hz_connectKind
  have h1 := ta_no (T := 111) (X := 64) (by decide) Tryz.underlying90 hz_connAckKind
  have h2 := ta_no (T := 111) (X := 64) (by decide) Tryz.underlying92 hz_publishKind
  have h3 := ta_no (T := 111) (X := 64) (by decide) Tryz.underlying97 hz_pubAckKind
  have h4 := ta_no (T := 111) (X := 64) (by decide) Tryz.underlying98 hz_pubRecKind
  have h5 := ta_no (T := 111) (X := 64) (by decide) Tryz.underlying99 hz_pubRelKind
  have h6 := ta_no (T := 111) (X := 64) (by decide) Tryz.underlying100 hz_pubCompKind
  have h7 := ta_no (T := 111) (X := 64) (by decide) Tryz.underlying102 hz_subscribeKind
  have h8 := ta_no (T := 111) (X := 64) (by decide) Tryz.underlying104 hz_subAckKind
  have h9 := ta_no (T := 111) (X := 64) (by decide) Tryz.underlying106 hz_unsubscribeKind
  have h10 := ta_no (T := 111) (X := 64) (by decide) Tryz.underlying107 hz_unsubAckKind
  have h11 := ta_yes (X := 64) Tryz.underlying111
  go_enter Tryz.func67, Tryz.ntmps67
  go_wp2
  go_ret
  exact ⟨rfl, rfl⟩
set_option maxRecDepth 100000 in
theorem type_pingRespKind (v : Value) (w : World) : Calls Tryz.prog 67 #[.iface 112 v] w fun e w' => e = .returned (.int .i64 13) ∧ w' = w := by
  have h0 := ta_no (T := 112) (X := 64) (by decide) Tryz.underlying87 hz_connectKind
  have h1 := ta_no (T := 112) (X := 64) (by decide) Tryz.underlying90 hz_connAckKind
  have h2 := ta_no (T := 112) (X := 64) (by decide) Tryz.underlying92 hz_publishKind
  have h3 := ta_no (T := 112) (X := 64) (by decide) Tryz.underlying97 hz_pubAckKind
  have h4 := ta_no (T := 112) (X := 64) (by decide) Tryz.underlying98 hz_pubRecKind
  have h5 := ta_no (T := 112) (X := 64) (by decide) Tryz.underlying99 hz_pubRelKind
  have h6 := ta_no (T := 112) (X := 64) (by decide) Tryz.underlying100 hz_pubCompKind
  have h7 := ta_no (T := 112) (X := 64) (by decide) Tryz.underlying102 hz_subscribeKind
  have h8 := ta_no (T := 112) (X := 64) (by decide) Tryz.underlying104 hz_subAckKind
  have h9 := ta_no (T := 112) (X := 64) (by decide) Tryz.underlying106 hz_unsubscribeKind
  have h10 := ta_no (T := 112) (X := 64) (by decide) Tryz.underlying107 hz_unsubAckKind
  have h11 := ta_no (T := 112) (X := 64) (by decide) Tryz.underlying111 hz_pingReqKind
  have h12 := ta_yes (X := 64) Tryz.underlying112
  go_enter Tryz.func67, Tryz.ntmps67
  go_wp2
  go_ret
  exact ⟨rfl, rfl⟩
set_option maxRecDepth 100000 in
theorem type_disconnectKind (v : Value) (w : World) : Calls Tryz.prog 67 #[.iface 113 v] w fun e w' => e = .returned (.int .i64 14) ∧ w' = w := by
  have h0 := ta_no (T := 113) (X := 64) (by decide) Tryz.underlying87 hz_connectKind
  have h1 := ta_no (T := 113) (X := 64) (by decide) Tryz.underlying90 hz_connAckKind
  have h2 := ta_no (T := 113) (X := 64) (by decide) Tryz.underlying92 hz_publishKind
  have h3 := ta_no (T := 113) (X := 64) (by decide) Tryz.underlying97 hz_pubAckKind
  have h4 := ta_no (T := 113) (X := 64) (by decide) Tryz.underlying98 hz_pubRecKind
  have h5 := ta_no (T := 113) (X := 64) (by decide) Tryz.underlying99 hz_pubRelKind
  have h6 := ta_no (T := 113) (X := 64) (by decide) Tryz.underlying100 hz_pubCompKind
  have h7 := ta_no (T := 113) (X := 64) (by decide) Tryz.underlying102 hz_subscribeKind
  have h8 := ta_no (T := 113) (X := 64) (by decide) Tryz.underlying104 hz_subAckKind
  have h9 := ta_no (T := 113) (X := 64) (by decide) Tryz.underlying106 hz_unsubscribeKind
  have h10 := ta_no (T := 113) (X := 64) (by decide) Tryz.underlying107 hz_unsubAckKind
  have h11 := ta_no (T := 113) (X := 64) (by decide) Tryz.underlying111 hz_pingReqKind
  have h12 := ta_no (T := 113) (X := 64) (by decide) Tryz.underlying112 hz_pingRespKind
  have h13 := ta_yes (X := 64) Tryz.underlying113
  go_enter Tryz.func67, Tryz.ntmps67
  go_wp2
  go_ret
  exact ⟨rfl, rfl⟩
set_option maxRecDepth 100000 in
theorem low_connectKind (v : Value) (w : World) : Calls Tryz.prog 68 #[.iface 87 v] w fun e w' => e = .returned (.int .i64 0) ∧ w' = w := by
  have h0 := ta_no (T := 87) (X := 64) (by decide) Tryz.underlying92 hz_publishKind
  have h1 := ta_no (T := 87) (X := 64) (by decide) Tryz.underlying99 hz_pubRelKind
  have h2 := ta_no (T := 87) (X := 64) (by decide) Tryz.underlying102 hz_subscribeKind
  have h3 := ta_no (T := 87) (X := 64) (by decide) Tryz.underlying106 hz_unsubscribeKind
  go_enter Tryz.func68, Tryz.ntmps68
  go_wp2
  go_ret
  exact ⟨rfl, rfl⟩
set_option maxRecDepth 100000 in
theorem low_connAckKind (v : Value) (w : World) : Calls Tryz.prog 68 #[.iface 90 v] w fun e w' => e = .returned (.int .i64 0) ∧ w' = w := by
  have h0 := ta_no (T := 90) (X := 64) (by decide) Tryz.underlying92 hz_publishKind
  have h1 := ta_no (T := 90) (X := 64) (by decide) Tryz.underlying99 hz_pubRelKind
  have h2 := ta_no (T := 90) (X := 64) (by decide) Tryz.underlying102 hz_subscribeKind
  have h3 := ta_no (T := 90) (X := 64) (by decide) Tryz.underlying106 hz_unsubscribeKind
  go_enter Tryz.func68, Tryz.ntmps68
  go_wp2
  go_ret
  exact ⟨rfl, rfl⟩
set_option maxRecDepth 100000 in
theorem low_pubAckKind (v : Value) (w : World) : Calls Tryz.prog 68 #[.iface 97 v] w fun e w' => e = .returned (.int .i64 0) ∧ w' = w := by
  have h0 := ta_no (T := 97) (X := 64) (by decide) Tryz.underlying92 hz_publishKind
  have h1 := ta_no (T := 97) (X := 64) (by decide) Tryz.underlying99 hz_pubRelKind
  have h2 := ta_no (T := 97) (X := 64) (by decide) Tryz.underlying102 hz_subscribeKind
  have h3 := ta_no (T := 97) (X := 64) (by decide) Tryz.underlying106 hz_unsubscribeKind
  go_enter Tryz.func68, Tryz.ntmps68
  go_wp2
  go_ret
  exact ⟨rfl, rfl⟩
set_option maxRecDepth 100000 in
theorem low_pubRecKind (v : Value) (w : World) : Calls Tryz.prog 68 #[.iface 98 v] w fun e w' => e = .returned (.int .i64 0) ∧ w' = w := by
  have h0 := ta_no (T := 98) (X := 64) (by decide) Tryz.underlying92 hz_publishKind
  have h1 := ta_no (T := 98) (X := 64) (by decide) Tryz.underlying99 hz_pubRelKind
  have h2 := ta_no (T := 98) (X := 64) (by decide) Tryz.underlying102 hz_subscribeKind
  have h3 := ta_no (T := 98) (X := 64) (by decide) Tryz.underlying106 hz_unsubscribeKind
  go_enter Tryz.func68, Tryz.ntmps68
  go_wp2
  go_ret
  exact ⟨rfl, rfl⟩
set_option maxRecDepth 100000 in
theorem low_pubRelKind (v : Value) (w : World) : Calls Tryz.prog 68 #[.iface 99 v] w fun e w' => e = .returned (.int .i64 2) ∧ w' = w := by
  have h0 := ta_no (T := 99) (X := 64) (by decide) Tryz.underlying92 hz_publishKind
  have h1 := ta_yes (X := 64) Tryz.underlying99
  have h2 := ta_no (T := 99) (X := 64) (by decide) Tryz.underlying102 hz_subscribeKind
  have h3 := ta_no (T := 99) (X := 64) (by decide) Tryz.underlying106 hz_unsubscribeKind
  go_enter Tryz.func68, Tryz.ntmps68
  go_wp2
  go_ret
  exact ⟨rfl, rfl⟩
set_option maxRecDepth 100000 in
theorem low_pubCompKind (v : Value) (w : World) : Calls Tryz.prog 68 #[.iface 100 v] w fun e w' => e = .returned (.int .i64 0) ∧ w' = w := by
  have h0 := ta_no (T := 100) (X := 64) (by decide) Tryz.underlying92 hz_publishKind
  have h1 := ta_no (T := 100) (X := 64) (by decide) Tryz.underlying99 hz_pubRelKind
  have h2 := ta_no (T := 100) (X := 64) (by decide) Tryz.underlying102 hz_subscribeKind
  have h3 := ta_no (T := 100) (X := 64) (by decide) Tryz.underlying106 hz_unsubscribeKind
  go_enter Tryz.func68, Tryz.ntmps68
  go_wp2
  go_ret
  exact ⟨rfl, rfl⟩
set_option maxRecDepth 100000 in
theorem low_subscribeKind (v : Value) (w : World) : Calls Tryz.prog 68 #[.iface 102 v] w fun e w' => e = .returned (.int .i64 2) ∧ w' = w := by
  have h0 := ta_no (T := 102) (X := 64) (by decide) Tryz.underlying92 hz_publishKind
  have h1 := ta_no (T := 102) (X := 64) (by decide) Tryz.underlying99 hz_pubRelKind
  have h2 := ta_yes (X := 64) Tryz.underlying102
  have h3 := ta_no (T := 102) (X := 64) (by decide) Tryz.underlying106 hz_unsubscribeKind
  go_enter Tryz.func68, Tryz.ntmps68
  go_wp2
  go_ret
  exact ⟨rfl, rfl⟩
set_option maxRecDepth 100000 in
theorem low_subAckKind (v : Value) (w : World) : Calls Tryz.prog 68 #[.iface 104 v] w fun e w' => e = .returned (.int .i64 0) ∧ w' = w := by
  have h0 := ta_no (T := 104) (X := 64) (by decide) Tryz.underlying92 hz_publishKind
  have h1 := ta_no (T := 104) (X := 64) (by decide) Tryz.underlying99 hz_pubRelKind
  have h2 := ta_no (T := 104) (X := 64) (by decide) Tryz.underlying102 hz_subscribeKind
  have h3 := ta_no (T := 104) (X := 64) (by decide) Tryz.underlying106 hz_unsubscribeKind
  go_enter Tryz.func68, Tryz.ntmps68
  go_wp2
  go_ret
  exact ⟨rfl, rfl⟩
set_option maxRecDepth 100000 in
theorem low_unsubscribeKind (v : Value) (w : World) : Calls Tryz.prog 68 #[.iface 106 v] w fun e w' => e = .returned (.int .i64 2) ∧ w' = w := by
  have h0 := ta_no (T := 106) (X := 64) (by decide) Tryz.underlying92 hz_publishKind
  have h1 := ta_no (T := 106) (X := 64) (by decide) Tryz.underlying99 hz_pubRelKind
  have h2 := ta_no (T := 106) (X := 64) (by decide) Tryz.underlying102 hz_subscribeKind
  have h3 := ta_yes (X := 64) Tryz.underlying106
  go_enter Tryz.func68, Tryz.ntmps68
  go_wp2
  go_ret
  exact ⟨rfl, rfl⟩
set_option maxRecDepth 100000 in
theorem low_unsubAckKind (v : Value) (w : World) : Calls Tryz.prog 68 #[.iface 107 v] w fun e w' => e = .returned (.int .i64 0) ∧ w' = w := by
  have h0 := ta_no (T := 107) (X := 64) (by decide) Tryz.underlying92 hz_publishKind
  have h1 := ta_no (T := 107) (X := 64) (by decide) Tryz.underlying99 hz_pubRelKind
  have h2 := ta_no (T := 107) (X := 64) (by decide) Tryz.underlying102 hz_subscribeKind
  have h3 := ta_no (T := 107) (X := 64) (by decide) Tryz.underlying106 hz_unsubscribeKind
  go_enter Tryz.func68, Tryz.ntmps68
  go_wp2
  go_ret
  exact ⟨rfl, rfl⟩
set_option maxRecDepth 100000 in
theorem low_pingReqKind (v : Value) (w : World) : Calls Tryz.prog 68 #[.iface 111 v] w fun e w' => e = .returned (.int .i64 0) ∧ w' = w := by
  have h0 := ta_no (T := 111) (X := 64) (by decide) Tryz.underlying92 hz_publishKind
  have h1 := ta_no (T := 111) (X := 64) (by decide) Tryz.underlying99 hz_pubRelKind
  have h2 := ta_no (T := 111) (X := 64) (by decide) Tryz.underlying102 hz_subscribeKind
  have h3 := ta_no (T := 111) (X := 64) (by decide) Tryz.underlying106 hz_unsubscribeKind
  go_enter Tryz.func68, Tryz.ntmps68
  go_wp2
  go_ret
  exact ⟨rfl, rfl⟩
set_option maxRecDepth 100000 in
theorem low_pingRespKind (v : Value) (w : World) : Calls Tryz.prog 68 #[.iface 112 v] w fun e w' => e = .returned (.int .i64 0) ∧ w' = w := by
  have h0 := ta_no (T := 112) (X := 64) (by decide) Tryz.underlying92 hz_publishKind
  have h1 := ta_no (T := 112) (X := 64) (by decide) Tryz.underlying99 hz_pubRelKind
  have h2 := ta_no (T := 112) (X := 64) (by decide) Tryz.underlying102 hz_subscribeKind
  have h3 := ta_no (T := 112) (X := 64) (by decide) Tryz.underlying106 hz_unsubscribeKind
  go_enter Tryz.func68, Tryz.ntmps68
  go_wp2
  go_ret
  exact ⟨rfl, rfl⟩
set_option maxRecDepth 100000 in
theorem low_disconnectKind (v : Value) (w : World) : Calls Tryz.prog 68 #[.iface 113 v] w fun e w' => e = .returned (.int .i64 0) ∧ w' = w := by
  have h0 := ta_no (T := 113) (X := 64) (by decide) Tryz.underlying92 hz_publishKind
  have h1 := ta_no (T := 113) (X := 64) (by decide) Tryz.underlying99 hz_pubRelKind
  have h2 := ta_no (T := 113) (X := 64) (by decide) Tryz.underlying102 hz_subscribeKind
  have h3 := ta_no (T := 113) (X := 64) (by decide) Tryz.underlying106 hz_unsubscribeKind
  go_enter Tryz.func68, Tryz.ntmps68
  go_wp2
  go_ret
  exact ⟨rfl, rfl⟩
theorem alone_connectKind (v : Value) (w : World) : Calls Tryz.prog 50 #[.iface 87 v] w fun e w' => e = .returned (.bool false) ∧ w' = w := by
  have h0 := ta_no (T := 87) (X := 64) (by decide) Tryz.underlying97 hz_pubAckKind
  have h1 := ta_no (T := 87) (X := 64) (by decide) Tryz.underlying98 hz_pubRecKind
  have h2 := ta_no (T := 87) (X := 64) (by decide) Tryz.underlying99 hz_pubRelKind
  have h3 := ta_no (T := 87) (X := 64) (by decide) Tryz.underlying100 hz_pubCompKind
  have h4 := ta_no (T := 87) (X := 64) (by decide) Tryz.underlying107 hz_unsubAckKind
  go_enter Tryz.func50, Tryz.ntmps50
  go_wp2
  go_ret
  exact ⟨rfl, rfl⟩
theorem alone_connAckKind (v : Value) (w : World) : Calls Tryz.prog 50 #[.iface 90 v] w fun e w' => e = .returned (.bool false) ∧ w' = w := by
  have h0 := ta_no (T := 90) (X := 64) (by decide) Tryz.underlying97 hz_pubAckKind
  have h1 := ta_no (T := 90) (X := 64) (by decide) Tryz.underlying98 hz_pubRecKind
  have h2 := ta_no (T := 90) (X := 64) (by decide) Tryz.underlying99 hz_pubRelKind
  have h3 := ta_no (T := 90) (X := 64) (by decide) Tryz.underlying100 hz_pubCompKind
  have h4 := ta_no (T := 90) (X := 64) (by decide) Tryz.underlying107 hz_unsubAckKind
  go_enter Tryz.func50, Tryz.ntmps50
  go_wp2
  go_ret
  exact ⟨rfl, rfl⟩
theorem alone_publishKind (v : Value) (w : World) : Calls Tryz.prog 50 #[.iface 92 v] w fun e w' => e = .returned (.bool false) ∧ w' = w := by
  have h0 := ta_no (T := 92) (X := 64) (by decide) Tryz.underlying97 hz_pubAckKind
  have h1 := ta_no (T := 92) (X := 64) (by decide) Tryz.underlying98 hz_pubRecKind
  have h2 := ta_no (T := 92) (X := 64) (by decide) Tryz.underlying99 hz_pubRelKind
  have h3 := ta_no (T := 92) (X := 64) (by decide) Tryz.underlying100 hz_pubCompKind
  have h4 := ta_no (T := 92) (X := 64) (by decide) Tryz.underlying107 hz_unsubAckKind
  go_enter Tryz.func50, Tryz.ntmps50
  go_wp2
  go_ret
  exact ⟨rfl, rfl⟩
theorem alone_pubAckKind (v : Value) (w : World) : Calls Tryz.prog 50 #[.iface 97 v] w fun e w' => e = .returned (.bool true) ∧ w' = w := by
  have h0 := ta_yes (X := 64) Tryz.underlying97
  have h1 := ta_no (T := 97) (X := 64) (by decide) Tryz.underlying98 hz_pubRecKind
  have h2 := ta_no (T := 97) (X := 64) (by decide) Tryz.underlying99 hz_pubRelKind
  have h3 := ta_no (T := 97) (X := 64) (by decide) Tryz.underlying100 hz_pubCompKind
  have h4 := ta_no (T := 97) (X := 64) (by decide) Tryz.underlying107 hz_unsubAckKind
  go_enter Tryz.func50, Tryz.ntmps50
  go_wp2
  go_ret
  exact ⟨rfl, rfl⟩
theorem alone_pubRecKind (v : Value) (w : World) : Calls Tryz.prog 50 #[.iface 98 v] w fun e w' => e = .returned (.bool true) ∧ w' = w := by
  have h0 := ta_no (T := 98) (X := 64) (by decide) Tryz.underlying97 hz_pubAckKind
  have h1 := ta_yes (X := 64) Tryz.underlying98
  have h2 := ta_no (T := 98) (X := 64) (by decide) Tryz.underlying99 hz_pubRelKind
  have h3 := ta_no (T := 98) (X := 64) (by decide) Tryz.underlying100 hz_pubCompKind
  have h4 := ta_no (T := 98) (X := 64) (by decide) Tryz.underlying107 hz_unsubAckKind
  go_enter Tryz.func50, Tryz.ntmps50
  go_wp2
  go_ret
  exact ⟨rfl, rfl⟩
theorem alone_pubRelKind (v : Value) (w : World) : Calls Tryz.prog 50 #[.iface 99 v] w fun e w' => e = .returned (.bool true) ∧ w' = w := by
  have h0 := ta_no (T := 99) (X := 64) (by decide) Tryz.underlying97 hz_pubAckKind
  have h1 := ta_no (T := 99) (X := 64) (by decide) Tryz.underlying98 hz_pubRecKind
  have h2 := ta_yes (X := 64) Tryz.underlying99
  have h3 := ta_no (T := 99) (X := 64) (by decide) Tryz.underlying100 hz_pubCompKind
  have h4 := ta_no (T := 99) (X := 64) (by decide) Tryz.underlying107 hz_unsubAckKind
  go_enter Tryz.func50, Tryz.ntmps50
  go_wp2
  go_ret
  exact ⟨rfl, rfl⟩
theorem alone_pubCompKind (v : Value) (w : World) : Calls Tryz.prog 50 #[.iface 100 v] w fun e w' => e = .returned (.bool true) ∧ w' = w := by
  have h0 := ta_no (T := 100) (X := 64) (by decide) Tryz.underlying97 hz_pubAckKind
  have h1 := ta_no (T := 100) (X := 64) (by decide) Tryz.underlying98 hz_pubRecKind
  have h2 := ta_no (T := 100) (X := 64) (by decide) Tryz.underlying99 hz_pubRelKind
  have h3 := ta_yes (X := 64) Tryz.underlying100
  have h4 := ta_no (T := 100) (X := 64) (by decide) Tryz.underlying107 hz_unsubAckKind
  go_enter Tryz.func50, Tryz.ntmps50
  go_wp2
  go_ret
  exact ⟨rfl, rfl⟩
theorem alone_subscribeKind (v : Value) (w : World) : Calls Tryz.prog 50 #[.iface 102 v] w fun e w' => e = .returned (.bool false) ∧ w' = w := by
  have h0 := ta_no (T := 102) (X := 64) (by decide) Tryz.underlying97 hz_pubAckKind
  have h1 := ta_no (T := 102) (X := 64) (by decide) Tryz.underlying98 hz_pubRecKind
  have h2 := ta_no (T := 102) (X := 64) (by decide) Tryz.underlying99 hz_pubRelKind
  have h3 := ta_no (T := 102) (X := 64) (by decide) Tryz.underlying100 hz_pubCompKind
  have h4 := ta_no (T := 102) (X := 64) (by decide) Tryz.underlying107 hz_unsubAckKind
  go_enter Tryz.func50, Tryz.ntmps50
  go_wp2
  go_ret
  exact ⟨rfl, rfl⟩
theorem alone_subAckKind (v : Value) (w : World) : Calls Tryz.prog 50 #[.iface 104 v] w fun e w' => e = .returned (.bool false) ∧ w' = w := by
  have h0 := ta_no (T := 104) (X := 64) (by decide) Tryz.underlying97 hz_pubAckKind
  have h1 := ta_no (T := 104) (X := 64) (by decide) Tryz.underlying98 hz_pubRecKind
  have h2 := ta_no (T := 104) (X := 64) (by decide) Tryz.underlying99 hz_pubRelKind
  have h3 := ta_no (T := 104) (X := 64) (by decide) Tryz.underlying100 hz_pubCompKind
  have h4 := ta_no (T := 104) (X := 64) (by decide) Tryz.underlying107 hz_unsubAckKind
  go_enter Tryz.func50, Tryz.ntmps50
  go_wp2
  go_ret
  exact ⟨rfl, rfl⟩
theorem alone_unsubscribeKind (v : Value) (w : World) : Calls Tryz.prog 50 #[.iface 106 v] w fun e w' => e = .returned (.bool false) ∧ w' = w := by
  have h0 := ta_no (T := 106) (X := 64) (by decide) Tryz.underlying97 hz_pubAckKind
  have h1 := ta_no (T := 106) (X := 64) (by decide) Tryz.underlying98 hz_pubRecKind
  have h2 := ta_no (T := 106) (X := 64) (by decide) Tryz.underlying99 hz_pubRelKind
  have h3 := ta_no (T := 106) (X := 64) (by decide) Tryz.underlying100 hz_pubCompKind
  have h4 := ta_no (T := 106) (X := 64) (by decide) Tryz.underlying107 hz_unsubAckKind
  go_enter Tryz.func50, Tryz.ntmps50
  go_wp2
  go_ret
  exact ⟨rfl, rfl⟩
theorem alone_unsubAckKind (v : Value) (w : World) : Calls Tryz.prog 50 #[.iface 107 v] w fun e w' => e = .returned (.bool true) ∧ w' = w := by
  have h0 := ta_no (T := 107) (X := 64) (by decide) Tryz.underlying97 hz_pubAckKind
  have h1 := ta_no (T := 107) (X := 64) (by decide) Tryz.underlying98 hz_pubRecKind
  have h2 := ta_no (T := 107) (X := 64) (by decide) Tryz.underlying99 hz_pubRelKind
  have h3 := ta_no (T := 107) (X := 64) (by decide) Tryz.underlying100 hz_pubCompKind
  have h4 := ta_yes (X := 64) Tryz.underlying107
  go_enter Tryz.func50, Tryz.ntmps50
  go_wp2
  go_ret
  exact ⟨rfl, rfl⟩
theorem alone_pingReqKind (v : Value) (w : World) : Calls Tryz.prog 50 #[.iface 111 v] w fun e w' => e = .returned (.bool false) ∧ w' = w := by
  have h0 := ta_no (T := 111) (X := 64) (by decide) Tryz.underlying97 hz_pubAckKind
  have h1 := ta_no (T := 111) (X := 64) (by decide) Tryz.underlying98 hz_pubRecKind
  have h2 := ta_no (T := 111) (X := 64) (by decide) Tryz.underlying99 hz_pubRelKind
  have h3 := ta_no (T := 111) (X := 64) (by decide) Tryz.underlying100 hz_pubCompKind
  have h4 := ta_no (T := 111) (X := 64) (by decide) Tryz.underlying107 hz_unsubAckKind
  go_enter Tryz.func50, Tryz.ntmps50
  go_wp2
  go_ret
  exact ⟨rfl, rfl⟩
theorem alone_pingRespKind (v : Value) (w : World) : Calls Tryz.prog 50 #[.iface 112 v] w fun e w' => e = .returned (.bool false) ∧ w' = w := by
  have h0 := ta_no (T := 112) (X := 64) (by decide) Tryz.underlying97 hz_pubAckKind
  have h1 := ta_no (T := 112) (X := 64) (by decide) Tryz.underlying98 hz_pubRecKind
  have h2 := ta_no (T := 112) (X := 64) (by decide) Tryz.underlying99 hz_pubRelKind
  have h3 := ta_no (T := 112) (X := 64) (by decide) Tryz.underlying100 hz_pubCompKind
  have h4 := ta_no (T := 112) (X := 64) (by decide) Tryz.underlying107 hz_unsubAckKind
  go_enter Tryz.func50, Tryz.ntmps50
  go_wp2
  go_ret
  exact ⟨rfl, rfl⟩
theorem alone_disconnectKind (v : Value) (w : World) : Calls Tryz.prog 50 #[.iface 113 v] w fun e w' => e = .returned (.bool false) ∧ w' = w := by
  have h0 := ta_no (T := 113) (X := 64) (by decide) Tryz.underlying97 hz_pubAckKind
  have h1 := ta_no (T := 113) (X := 64) (by decide) Tryz.underlying98 hz_pubRecKind
  have h2 := ta_no (T := 113) (X := 64) (by decide) Tryz.underlying99 hz_pubRelKind
  have h3 := ta_no (T := 113) (X := 64) (by decide) Tryz.underlying100 hz_pubCompKind
  have h4 := ta_no (T := 113) (X := 64) (by decide) Tryz.underlying107 hz_unsubAckKind
  go_enter Tryz.func50, Tryz.ntmps50
  go_wp2
  go_ret
  exact ⟨rfl, rfl⟩
theorem alone_nil (w : World) : Calls Tryz.prog 50 #[.nilIface] w fun e w' => e = .returned (.bool false) ∧ w' = w := by
  have h0 := ta_nil (X := 64) Tryz.underlying97 hz_pubAckKind
  have h1 := ta_nil (X := 64) Tryz.underlying98 hz_pubRecKind
  have h2 := ta_nil (X := 64) Tryz.underlying99 hz_pubRelKind
  have h3 := ta_nil (X := 64) Tryz.underlying100 hz_pubCompKind
  have h4 := ta_nil (X := 64) Tryz.underlying107 hz_unsubAckKind
  go_enter Tryz.func50, Tryz.ntmps50
  go_wp2
  go_ret
  exact ⟨rfl, rfl⟩
end Go.Proofs.YtfpclkkkenekpaaGreat
