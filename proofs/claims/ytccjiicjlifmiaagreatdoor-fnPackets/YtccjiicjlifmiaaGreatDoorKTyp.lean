/- What the program's type switches say of each kind. -/
import Derived.Test.YtccjiicjlifmiaaGreatDoorPlain
import Derived.Handy
set_option linter.unusedVariables false
set_option linter.unusedSimpArgs false
namespace Go.Proofs.YtccjiicjlifmiaaGreatDoor
open Go.RowKit

/-- A type's zero value. -/
def zv (P : Program) (t : TypeId) : Value := ((P.info? t).bind (fun i => i.zero)).getD undef
theorem zero_run (P : Program) (t : TypeId) (h : ((P.info? t).bind (fun i => i.zero)).isSome = true) (w : World) : (zeroValue t).run P w = .ok (zv P t) w := by
  unfold zv
  cases hi : P.info? t with
  | none => simp [hi] at h
  | some i =>
    cases hz : i.zero with
    | none => simp [hi, hz] at h
    | some z => simp [zeroValue, typeInfo, hi, hz, Sem.run_bind]
theorem ta_no {P : Program} {T U X : TypeId} {fs : Array Field} (hne : T ≠ U) (hu : P.underlying U = some (.struct fs)) (hz : ((P.info? U).bind (fun i => i.zero)).isSome = true) (v : Value) (w : World) :
    (Instr.typeAssert (.iface T v) X U true).run P w = .ok (.tuple #[zv P U, .bool false]) w := by
  simp [Instr.typeAssert, Sem.run_bind, run_underlying hu, hne, zero_run P U hz]
theorem ta_yes {P : Program} {U X : TypeId} {fs : Array Field} (hu : P.underlying U = some (.struct fs)) (v : Value) (w : World) :
    (Instr.typeAssert (.iface U v) X U true).run P w = .ok (.tuple #[v, .bool true]) w := by
  simp [Instr.typeAssert, Sem.run_bind, run_underlying hu]
theorem ta_nil {P : Program} {U X : TypeId} {fs : Array Field} (hu : P.underlying U = some (.struct fs)) (hz : ((P.info? U).bind (fun i => i.zero)).isSome = true) (w : World) :
    (Instr.typeAssert .nilIface X U true).run P w = .ok (.tuple #[zv P U, .bool false]) w := by
  simp [Instr.typeAssert, Sem.run_bind, run_underlying hu, zero_run P U hz]
theorem hz_connectKind : ((Tryz.prog.info? 124).bind (fun i => i.zero)).isSome = true := by kernel_rfl
theorem hz_connAckKind : ((Tryz.prog.info? 127).bind (fun i => i.zero)).isSome = true := by kernel_rfl
theorem hz_publishKind : ((Tryz.prog.info? 129).bind (fun i => i.zero)).isSome = true := by kernel_rfl
theorem hz_pubAckKind : ((Tryz.prog.info? 134).bind (fun i => i.zero)).isSome = true := by kernel_rfl
theorem hz_pubRecKind : ((Tryz.prog.info? 135).bind (fun i => i.zero)).isSome = true := by kernel_rfl
theorem hz_pubRelKind : ((Tryz.prog.info? 136).bind (fun i => i.zero)).isSome = true := by kernel_rfl
theorem hz_pubCompKind : ((Tryz.prog.info? 137).bind (fun i => i.zero)).isSome = true := by kernel_rfl
theorem hz_subscribeKind : ((Tryz.prog.info? 139).bind (fun i => i.zero)).isSome = true := by kernel_rfl
theorem hz_subAckKind : ((Tryz.prog.info? 141).bind (fun i => i.zero)).isSome = true := by kernel_rfl
theorem hz_unsubscribeKind : ((Tryz.prog.info? 143).bind (fun i => i.zero)).isSome = true := by kernel_rfl
theorem hz_unsubAckKind : ((Tryz.prog.info? 144).bind (fun i => i.zero)).isSome = true := by kernel_rfl
theorem hz_pingReqKind : ((Tryz.prog.info? 148).bind (fun i => i.zero)).isSome = true := by kernel_rfl
theorem hz_pingRespKind : ((Tryz.prog.info? 149).bind (fun i => i.zero)).isSome = true := by kernel_rfl
theorem hz_disconnectKind : ((Tryz.prog.info? 150).bind (fun i => i.zero)).isSome = true := by kernel_rfl
set_option maxRecDepth 100000 in
theorem type_connectKind (v : Value) (w : World) : Calls Tryz.prog 116 #[.iface 124 v] w fun e w' => e = .returned (.int .i64 1) ∧ w' = w := by
  have h0 := ta_yes (X := 76) Tryz.underlying124
  go_enter Tryz.func116, Tryz.ntmps116
  go_wp2
  go_ret
  exact ⟨rfl, rfl⟩
set_option maxRecDepth 100000 in
theorem type_connAckKind (v : Value) (w : World) : Calls Tryz.prog 116 #[.iface 127 v] w fun e w' => e = .returned (.int .i64 2) ∧ w' = w := by
  have h0 := ta_no (T := 127) (X := 76) (by decide) Tryz.underlying124 hz_connectKind
  have h1 := ta_yes (X := 76) Tryz.underlying127
  go_enter Tryz.func116, Tryz.ntmps116
  go_wp2
  go_ret
  exact ⟨rfl, rfl⟩
set_option maxRecDepth 100000 in
theorem type_publishKind (v : Value) (w : World) : Calls Tryz.prog 116 #[.iface 129 v] w fun e w' => e = .returned (.int .i64 3) ∧ w' = w := by
  have h0 := ta_no (T := 129) (X := 76) (by decide) Tryz.underlying124 hz_connectKind
  have h1 := ta_no (T := 129) (X := 76) (by decide) Tryz.underlying127 hz_connAckKind
  have h2 := ta_yes (X := 76) Tryz.underlying129
  go_enter Tryz.func116, Tryz.ntmps116
  go_wp2
  go_ret
  exact ⟨rfl, rfl⟩
set_option maxRecDepth 100000 in
theorem type_pubAckKind (v : Value) (w : World) : Calls Tryz.prog 116 #[.iface 134 v] w fun e w' => e = .returned (.int .i64 4) ∧ w' = w := by
  have h0 := ta_no (T := 134) (X := 76) (by decide) Tryz.underlying124 hz_connectKind
  have h1 := ta_no (T := 134) (X := 76) (by decide) Tryz.underlying127 hz_connAckKind
  have h2 := ta_no (T := 134) (X := 76) (by decide) Tryz.underlying129 hz_publishKind
  have h3 := ta_yes (X := 76) Tryz.underlying134
  go_enter Tryz.func116, Tryz.ntmps116
  go_wp2
  go_ret
  exact ⟨rfl, rfl⟩
set_option maxRecDepth 100000 in
theorem type_pubRecKind (v : Value) (w : World) : Calls Tryz.prog 116 #[.iface 135 v] w fun e w' => e = .returned (.int .i64 5) ∧ w' = w := by
  have h0 := ta_no (T := 135) (X := 76) (by decide) Tryz.underlying124 hz_connectKind
  have h1 := ta_no (T := 135) (X := 76) (by decide) Tryz.underlying127 hz_connAckKind
  have h2 := ta_no (T := 135) (X := 76) (by decide) Tryz.underlying129 hz_publishKind
  have h3 := ta_no (T := 135) (X := 76) (by decide) Tryz.underlying134 hz_pubAckKind
  have h4 := ta_yes (X := 76) Tryz.underlying135
  go_enter Tryz.func116, Tryz.ntmps116
  go_wp2
  go_ret
  exact ⟨rfl, rfl⟩
set_option maxRecDepth 100000 in
theorem type_pubRelKind (v : Value) (w : World) : Calls Tryz.prog 116 #[.iface 136 v] w fun e w' => e = .returned (.int .i64 6) ∧ w' = w := by
  have h0 := ta_no (T := 136) (X := 76) (by decide) Tryz.underlying124 hz_connectKind
  have h1 := ta_no (T := 136) (X := 76) (by decide) Tryz.underlying127 hz_connAckKind
  have h2 := ta_no (T := 136) (X := 76) (by decide) Tryz.underlying129 hz_publishKind
  have h3 := ta_no (T := 136) (X := 76) (by decide) Tryz.underlying134 hz_pubAckKind
  have h4 := ta_no (T := 136) (X := 76) (by decide) Tryz.underlying135 hz_pubRecKind
  have h5 := ta_yes (X := 76) Tryz.underlying136
  go_enter Tryz.func116, Tryz.ntmps116
  go_wp2
  go_ret
  exact ⟨rfl, rfl⟩
set_option maxRecDepth 100000 in
theorem type_pubCompKind (v : Value) (w : World) : Calls Tryz.prog 116 #[.iface 137 v] w fun e w' => e = .returned (.int .i64 7) ∧ w' = w := by
  have h0 := ta_no (T := 137) (X := 76) (by decide) Tryz.underlying124 hz_connectKind
  have h1 := ta_no (T := 137) (X := 76) (by decide) Tryz.underlying127 hz_connAckKind
  have h2 := ta_no (T := 137) (X := 76) (by decide) Tryz.underlying129 hz_publishKind
  have h3 := ta_no (T := 137) (X := 76) (by decide) Tryz.underlying134 hz_pubAckKind
  have h4 := ta_no (T := 137) (X := 76) (by decide) Tryz.underlying135 hz_pubRecKind
  have h5 := ta_no (T := 137) (X := 76) (by decide) Tryz.underlying136 hz_pubRelKind
  have h6 := ta_yes (X := 76) Tryz.underlying137
  go_enter Tryz.func116, Tryz.ntmps116
  go_wp2
  go_ret
  exact ⟨rfl, rfl⟩
set_option maxRecDepth 100000 in
theorem type_subscribeKind (v : Value) (w : World) : Calls Tryz.prog 116 #[.iface 139 v] w fun e w' => e = .returned (.int .i64 8) ∧ w' = w := by
  have h0 := ta_no (T := 139) (X := 76) (by decide) Tryz.underlying124 hz_connectKind
  have h1 := ta_no (T := 139) (X := 76) (by decide) Tryz.underlying127 hz_connAckKind
  have h2 := ta_no (T := 139) (X := 76) (by decide) Tryz.underlying129 hz_publishKind
  have h3 := ta_no (T := 139) (X := 76) (by decide) Tryz.underlying134 hz_pubAckKind
  have h4 := ta_no (T := 139) (X := 76) (by decide) Tryz.underlying135 hz_pubRecKind
  have h5 := ta_no (T := 139) (X := 76) (by decide) Tryz.underlying136 hz_pubRelKind
  have h6 := ta_no (T := 139) (X := 76) (by decide) Tryz.underlying137 hz_pubCompKind
  have h7 := ta_yes (X := 76) Tryz.underlying139
  go_enter Tryz.func116, Tryz.ntmps116
  go_wp2
  go_ret
  exact ⟨rfl, rfl⟩
set_option maxRecDepth 100000 in
theorem type_subAckKind (v : Value) (w : World) : Calls Tryz.prog 116 #[.iface 141 v] w fun e w' => e = .returned (.int .i64 9) ∧ w' = w := by
  have h0 := ta_no (T := 141) (X := 76) (by decide) Tryz.underlying124 hz_connectKind
  have h1 := ta_no (T := 141) (X := 76) (by decide) Tryz.underlying127 hz_connAckKind
  have h2 := ta_no (T := 141) (X := 76) (by decide) Tryz.underlying129 hz_publishKind
  have h3 := ta_no (T := 141) (X := 76) (by decide) Tryz.underlying134 hz_pubAckKind
  have h4 := ta_no (T := 141) (X := 76) (by decide) Tryz.underlying135 hz_pubRecKind
  have h5 := ta_no (T := 141) (X := 76) (by decide) Tryz.underlying136 hz_pubRelKind
  have h6 := ta_no (T := 141) (X := 76) (by decide) Tryz.underlying137 hz_pubCompKind
  have h7 := ta_no (T := 141) (X := 76) (by decide) Tryz.underlying139 hz_subscribeKind
  have h8 := ta_yes (X := 76) Tryz.underlying141
  go_enter Tryz.func116, Tryz.ntmps116
  go_wp2
  go_ret
  exact ⟨rfl, rfl⟩
set_option maxRecDepth 100000 in
theorem type_unsubscribeKind (v : Value) (w : World) : Calls Tryz.prog 116 #[.iface 143 v] w fun e w' => e = .returned (.int .i64 10) ∧ w' = w := by
  have h0 := ta_no (T := 143) (X := 76) (by decide) Tryz.underlying124 hz_connectKind
  have h1 := ta_no (T := 143) (X := 76) (by decide) Tryz.underlying127 hz_connAckKind
  have h2 := ta_no (T := 143) (X := 76) (by decide) Tryz.underlying129 hz_publishKind
  have h3 := ta_no (T := 143) (X := 76) (by decide) Tryz.underlying134 hz_pubAckKind
  have h4 := ta_no (T := 143) (X := 76) (by decide) Tryz.underlying135 hz_pubRecKind
  have h5 := ta_no (T := 143) (X := 76) (by decide) Tryz.underlying136 hz_pubRelKind
  have h6 := ta_no (T := 143) (X := 76) (by decide) Tryz.underlying137 hz_pubCompKind
  have h7 := ta_no (T := 143) (X := 76) (by decide) Tryz.underlying139 hz_subscribeKind
  have h8 := ta_no (T := 143) (X := 76) (by decide) Tryz.underlying141 hz_subAckKind
  have h9 := ta_yes (X := 76) Tryz.underlying143
  go_enter Tryz.func116, Tryz.ntmps116
  go_wp2
  go_ret
  exact ⟨rfl, rfl⟩
set_option maxRecDepth 100000 in
theorem type_unsubAckKind (v : Value) (w : World) : Calls Tryz.prog 116 #[.iface 144 v] w fun e w' => e = .returned (.int .i64 11) ∧ w' = w := by
  have h0 := ta_no (T := 144) (X := 76) (by decide) Tryz.underlying124 hz_connectKind
  have h1 := ta_no (T := 144) (X := 76) (by decide) Tryz.underlying127 hz_connAckKind
  have h2 := ta_no (T := 144) (X := 76) (by decide) Tryz.underlying129 hz_publishKind
  have h3 := ta_no (T := 144) (X := 76) (by decide) Tryz.underlying134 hz_pubAckKind
  have h4 := ta_no (T := 144) (X := 76) (by decide) Tryz.underlying135 hz_pubRecKind
  have h5 := ta_no (T := 144) (X := 76) (by decide) Tryz.underlying136 hz_pubRelKind
  have h6 := ta_no (T := 144) (X := 76) (by decide) Tryz.underlying137 hz_pubCompKind
  have h7 := ta_no (T := 144) (X := 76) (by decide) Tryz.underlying139 hz_subscribeKind
  have h8 := ta_no (T := 144) (X := 76) (by decide) Tryz.underlying141 hz_subAckKind
  have h9 := ta_no (T := 144) (X := 76) (by decide) Tryz.underlying143 hz_unsubscribeKind
  have h10 := ta_yes (X := 76) Tryz.underlying144
  go_enter Tryz.func116, Tryz.ntmps116
  go_wp2
  go_ret
  exact ⟨rfl, rfl⟩
set_option maxRecDepth 100000 in
theorem type_pingReqKind (v : Value) (w : World) : Calls Tryz.prog 116 #[.iface 148 v] w fun e w' => e = .returned (.int .i64 12) ∧ w' = w := by
  have h0 := ta_no (T := 148) (X := 76) (by decide) Tryz.underlying124 hz_connectKind
  have h1 := ta_no (T := 148) (X := 76) (by decide) Tryz.underlying127 hz_connAckKind
  have h2 := ta_no (T := 148) (X := 76) (by decide) Tryz.underlying129 hz_publishKind
  have h3 := ta_no (T := 148) (X := 76) (by decide) Tryz.underlying134 hz_pubAckKind
  have h4 := ta_no (T := 148) (X := 76) (by decide) Tryz.underlying135 hz_pubRecKind
  have h5 := ta_no (T := 148) (X := 76) (by decide) Tryz.underlying136 hz_pubRelKind
  have h6 := ta_no (T := 148) (X := 76) (by decide) Tryz.underlying137 hz_pubCompKind
  have h7 := ta_no (T := 148) (X := 76) (by decide) Tryz.underlying139 hz_subscribeKind
  have h8 := ta_no (T := 148) (X := 76) (by decide) Tryz.underlying141 hz_subAckKind
  have h9 := ta_no (T := 148) (X := 76) (by decide) Tryz.underlying143 hz_unsubscribeKind
  have h10 := ta_no (T := 148) (X := 76) (by decide) Tryz.underlying144 hz_unsubAckKind
  have h11 := ta_yes (X := 76) Tryz.underlying148
  go_enter Tryz.func116, Tryz.ntmps116
  go_wp2
  go_ret
  exact ⟨rfl, rfl⟩
set_option maxRecDepth 100000 in
theorem type_pingRespKind (v : Value) (w : World) : Calls Tryz.prog 116 #[.iface 149 v] w fun e w' => e = .returned (.int .i64 13) ∧ w' = w := by
  have h0 := ta_no (T := 149) (X := 76) (by decide) Tryz.underlying124 hz_connectKind
  have h1 := ta_no (T := 149) (X := 76) (by decide) Tryz.underlying127 hz_connAckKind
  have h2 := ta_no (T := 149) (X := 76) (by decide) Tryz.underlying129 hz_publishKind
  have h3 := ta_no (T := 149) (X := 76) (by decide) Tryz.underlying134 hz_pubAckKind
  have h4 := ta_no (T := 149) (X := 76) (by decide) Tryz.underlying135 hz_pubRecKind
  have h5 := ta_no (T := 149) (X := 76) (by decide) Tryz.underlying136 hz_pubRelKind
  have h6 := ta_no (T := 149) (X := 76) (by decide) Tryz.underlying137 hz_pubCompKind
  have h7 := ta_no (T := 149) (X := 76) (by decide) Tryz.underlying139 hz_subscribeKind
  have h8 := ta_no (T := 149) (X := 76) (by decide) Tryz.underlying141 hz_subAckKind
  have h9 := ta_no (T := 149) (X := 76) (by decide) Tryz.underlying143 hz_unsubscribeKind
  have h10 := ta_no (T := 149) (X := 76) (by decide) Tryz.underlying144 hz_unsubAckKind
  have h11 := ta_no (T := 149) (X := 76) (by decide) Tryz.underlying148 hz_pingReqKind
  have h12 := ta_yes (X := 76) Tryz.underlying149
  go_enter Tryz.func116, Tryz.ntmps116
  go_wp2
  go_ret
  exact ⟨rfl, rfl⟩
set_option maxRecDepth 100000 in
theorem type_disconnectKind (v : Value) (w : World) : Calls Tryz.prog 116 #[.iface 150 v] w fun e w' => e = .returned (.int .i64 14) ∧ w' = w := by
  have h0 := ta_no (T := 150) (X := 76) (by decide) Tryz.underlying124 hz_connectKind
  have h1 := ta_no (T := 150) (X := 76) (by decide) Tryz.underlying127 hz_connAckKind
  have h2 := ta_no (T := 150) (X := 76) (by decide) Tryz.underlying129 hz_publishKind
  have h3 := ta_no (T := 150) (X := 76) (by decide) Tryz.underlying134 hz_pubAckKind
  have h4 := ta_no (T := 150) (X := 76) (by decide) Tryz.underlying135 hz_pubRecKind
  have h5 := ta_no (T := 150) (X := 76) (by decide) Tryz.underlying136 hz_pubRelKind
  have h6 := ta_no (T := 150) (X := 76) (by decide) Tryz.underlying137 hz_pubCompKind
  have h7 := ta_no (T := 150) (X := 76) (by decide) Tryz.underlying139 hz_subscribeKind
  have h8 := ta_no (T := 150) (X := 76) (by decide) Tryz.underlying141 hz_subAckKind
  have h9 := ta_no (T := 150) (X := 76) (by decide) Tryz.underlying143 hz_unsubscribeKind
  have h10 := ta_no (T := 150) (X := 76) (by decide) Tryz.underlying144 hz_unsubAckKind
  have h11 := ta_no (T := 150) (X := 76) (by decide) Tryz.underlying148 hz_pingReqKind
  have h12 := ta_no (T := 150) (X := 76) (by decide) Tryz.underlying149 hz_pingRespKind
  have h13 := ta_yes (X := 76) Tryz.underlying150
  go_enter Tryz.func116, Tryz.ntmps116
  go_wp2
  go_ret
  exact ⟨rfl, rfl⟩
set_option maxRecDepth 100000 in
theorem low_connectKind (v : Value) (w : World) : Calls Tryz.prog 117 #[.iface 124 v] w fun e w' => e = .returned (.int .i64 0) ∧ w' = w := by
  have h0 := ta_no (T := 124) (X := 76) (by decide) Tryz.underlying129 hz_publishKind
  have h1 := ta_no (T := 124) (X := 76) (by decide) Tryz.underlying136 hz_pubRelKind
  have h2 := ta_no (T := 124) (X := 76) (by decide) Tryz.underlying139 hz_subscribeKind
  have h3 := ta_no (T := 124) (X := 76) (by decide) Tryz.underlying143 hz_unsubscribeKind
  go_enter Tryz.func117, Tryz.ntmps117
  go_wp2
  go_ret
  exact ⟨rfl, rfl⟩
set_option maxRecDepth 100000 in
theorem low_connAckKind (v : Value) (w : World) : Calls Tryz.prog 117 #[.iface 127 v] w fun e w' => e = .returned (.int .i64 0) ∧ w' = w := by
  have h0 := ta_no (T := 127) (X := 76) (by decide) Tryz.underlying129 hz_publishKind
  have h1 := ta_no (T := 127) (X := 76) (by decide) Tryz.underlying136 hz_pubRelKind
  have h2 := ta_no (T := 127) (X := 76) (by decide) Tryz.underlying139 hz_subscribeKind
  have h3 := ta_no (T := 127) (X := 76) (by decide) Tryz.underlying143 hz_unsubscribeKind
  go_enter Tryz.func117, Tryz.ntmps117
  go_wp2
  go_ret
  exact ⟨rfl, rfl⟩
set_option maxRecDepth 100000 in
theorem low_pubAckKind (v : Value) (w : World) : Calls Tryz.prog 117 #[.iface 134 v] w fun e w' => e = .returned (.int .i64 0) ∧ w' = w := by
  have h0 := ta_no (T := 134) (X := 76) (by decide) Tryz.underlying129 hz_publishKind
  have h1 := ta_no (T := 134) (X := 76) (by decide) Tryz.underlying136 hz_pubRelKind
  have h2 := ta_no (T := 134) (X := 76) (by decide) Tryz.underlying139 hz_subscribeKind
  have h3 := ta_no (T := 134) (X := 76) (by decide) Tryz.underlying143 hz_unsubscribeKind
  go_enter Tryz.func117, Tryz.ntmps117
  go_wp2
  go_ret
  exact ⟨rfl, rfl⟩
set_option maxRecDepth 100000 in
theorem low_pubRecKind (v : Value) (w : World) : Calls Tryz.prog 117 #[.iface 135 v] w fun e w' => e = .returned (.int .i64 0) ∧ w' = w := by
  have h0 := ta_no (T := 135) (X := 76) (by decide) Tryz.underlying129 hz_publishKind
  have h1 := ta_no (T := 135) (X := 76) (by decide) Tryz.underlying136 hz_pubRelKind
  have h2 := ta_no (T := 135) (X := 76) (by decide) Tryz.underlying139 hz_subscribeKind
  have h3 := ta_no (T := 135) (X := 76) (by decide) Tryz.underlying143 hz_unsubscribeKind
  go_enter Tryz.func117, Tryz.ntmps117
  go_wp2
  go_ret
  exact ⟨rfl, rfl⟩
set_option maxRecDepth 100000 in
theorem low_pubRelKind (v : Value) (w : World) : Calls Tryz.prog 117 #[.iface 136 v] w fun e w' => e = .returned (.int .i64 2) ∧ w' = w := by
  have h0 := ta_no (T := 136) (X := 76) (by decide) Tryz.underlying129 hz_publishKind
  have h1 := ta_yes (X := 76) Tryz.underlying136
  have h2 := ta_no (T := 136) (X := 76) (by decide) Tryz.underlying139 hz_subscribeKind
  have h3 := ta_no (T := 136) (X := 76) (by decide) Tryz.underlying143 hz_unsubscribeKind
  go_enter Tryz.func117, Tryz.ntmps117
  go_wp2
  go_ret
  exact ⟨rfl, rfl⟩
set_option maxRecDepth 100000 in
theorem low_pubCompKind (v : Value) (w : World) : Calls Tryz.prog 117 #[.iface 137 v] w fun e w' => e = .returned (.int .i64 0) ∧ w' = w := by
  have h0 := ta_no (T := 137) (X := 76) (by decide) Tryz.underlying129 hz_publishKind
  have h1 := ta_no (T := 137) (X := 76) (by decide) Tryz.underlying136 hz_pubRelKind
  have h2 := ta_no (T := 137) (X := 76) (by decide) Tryz.underlying139 hz_subscribeKind
  have h3 := ta_no (T := 137) (X := 76) (by decide) Tryz.underlying143 hz_unsubscribeKind
  go_enter Tryz.func117, Tryz.ntmps117
  go_wp2
  go_ret
  exact ⟨rfl, rfl⟩
set_option maxRecDepth 100000 in
theorem low_subscribeKind (v : Value) (w : World) : Calls Tryz.prog 117 #[.iface 139 v] w fun e w' => e = .returned (.int .i64 2) ∧ w' = w := by
  have h0 := ta_no (T := 139) (X := 76) (by decide) Tryz.underlying129 hz_publishKind
  have h1 := ta_no (T := 139) (X := 76) (by decide) Tryz.underlying136 hz_pubRelKind
  have h2 := ta_yes (X := 76) Tryz.underlying139
  have h3 := ta_no (T := 139) (X := 76) (by decide) Tryz.underlying143 hz_unsubscribeKind
  go_enter Tryz.func117, Tryz.ntmps117
  go_wp2
  go_ret
  exact ⟨rfl, rfl⟩
set_option maxRecDepth 100000 in
theorem low_subAckKind (v : Value) (w : World) : Calls Tryz.prog 117 #[.iface 141 v] w fun e w' => e = .returned (.int .i64 0) ∧ w' = w := by
  have h0 := ta_no (T := 141) (X := 76) (by decide) Tryz.underlying129 hz_publishKind
  have h1 := ta_no (T := 141) (X := 76) (by decide) Tryz.underlying136 hz_pubRelKind
  have h2 := ta_no (T := 141) (X := 76) (by decide) Tryz.underlying139 hz_subscribeKind
  have h3 := ta_no (T := 141) (X := 76) (by decide) Tryz.underlying143 hz_unsubscribeKind
  go_enter Tryz.func117, Tryz.ntmps117
  go_wp2
  go_ret
  exact ⟨rfl, rfl⟩
set_option maxRecDepth 100000 in
theorem low_unsubscribeKind (v : Value) (w : World) : Calls Tryz.prog 117 #[.iface 143 v] w fun e w' => e = .returned (.int .i64 2) ∧ w' = w := by
  have h0 := ta_no (T := 143) (X := 76) (by decide) Tryz.underlying129 hz_publishKind
  have h1 := ta_no (T := 143) (X := 76) (by decide) Tryz.underlying136 hz_pubRelKind
  have h2 := ta_no (T := 143) (X := 76) (by decide) Tryz.underlying139 hz_subscribeKind
  have h3 := ta_yes (X := 76) Tryz.underlying143
  go_enter Tryz.func117, Tryz.ntmps117
  go_wp2
  go_ret
  exact ⟨rfl, rfl⟩
set_option maxRecDepth 100000 in
theorem low_unsubAckKind (v : Value) (w : World) : Calls Tryz.prog 117 #[.iface 144 v] w fun e w' => e = .returned (.int .i64 0) ∧ w' = w := by
  have h0 := ta_no (T := 144) (X := 76) (by decide) Tryz.underlying129 hz_publishKind
  have h1 := ta_no (T := 144) (X := 76) (by decide) Tryz.underlying136 hz_pubRelKind
  have h2 := ta_no (T := 144) (X := 76) (by decide) Tryz.underlying139 hz_subscribeKind
  have h3 := ta_no (T := 144) (X := 76) (by decide) Tryz.underlying143 hz_unsubscribeKind
  go_enter Tryz.func117, Tryz.ntmps117
  go_wp2
  go_ret
  exact ⟨rfl, rfl⟩
set_option maxRecDepth 100000 in
theorem low_pingReqKind (v : Value) (w : World) : Calls Tryz.prog 117 #[.iface 148 v] w fun e w' => e = .returned (.int .i64 0) ∧ w' = w := by
  have h0 := ta_no (T := 148) (X := 76) (by decide) Tryz.underlying129 hz_publishKind
  have h1 := ta_no (T := 148) (X := 76) (by decide) Tryz.underlying136 hz_pubRelKind
  have h2 := ta_no (T := 148) (X := 76) (by decide) Tryz.underlying139 hz_subscribeKind
  have h3 := ta_no (T := 148) (X := 76) (by decide) Tryz.underlying143 hz_unsubscribeKind
  go_enter Tryz.func117, Tryz.ntmps117
  go_wp2
  go_ret
  exact ⟨rfl, rfl⟩
set_option maxRecDepth 100000 in
theorem low_pingRespKind (v : Value) (w : World) : Calls Tryz.prog 117 #[.iface 149 v] w fun e w' => e = .returned (.int .i64 0) ∧ w' = w := by
  have h0 := ta_no (T := 149) (X := 76) (by decide) Tryz.underlying129 hz_publishKind
  have h1 := ta_no (T := 149) (X := 76) (by decide) Tryz.underlying136 hz_pubRelKind
  have h2 := ta_no (T := 149) (X := 76) (by decide) Tryz.underlying139 hz_subscribeKind
  have h3 := ta_no (T := 149) (X := 76) (by decide) Tryz.underlying143 hz_unsubscribeKind
  go_enter Tryz.func117, Tryz.ntmps117
  go_wp2
  go_ret
  exact ⟨rfl, rfl⟩
set_option maxRecDepth 100000 in
theorem low_disconnectKind (v : Value) (w : World) : Calls Tryz.prog 117 #[.iface 150 v] w fun e w' => e = .returned (.int .i64 0) ∧ w' = w := by
  have h0 := ta_no (T := 150) (X := 76) (by decide) Tryz.underlying129 hz_publishKind
  have h1 := ta_no (T := 150) (X := 76) (by decide) Tryz.underlying136 hz_pubRelKind
  have h2 := ta_no (T := 150) (X := 76) (by decide) Tryz.underlying139 hz_subscribeKind
  have h3 := ta_no (T := 150) (X := 76) (by decide) Tryz.underlying143 hz_unsubscribeKind
  go_enter Tryz.func117, Tryz.ntmps117
  go_wp2
  go_ret
  exact ⟨rfl, rfl⟩
theorem alone_connectKind (v : Value) (w : World) : Calls Tryz.prog 80 #[.iface 124 v] w fun e w' => e = .returned (.bool false) ∧ w' = w := by
  have h0 := ta_no (T := 124) (X := 76) (by decide) Tryz.underlying134 hz_pubAckKind
  have h1 := ta_no (T := 124) (X := 76) (by decide) Tryz.underlying135 hz_pubRecKind
  have h2 := ta_no (T := 124) (X := 76) (by decide) Tryz.underlying136 hz_pubRelKind
  have h3 := ta_no (T := 124) (X := 76) (by decide) Tryz.underlying137 hz_pubCompKind
  have h4 := ta_no (T := 124) (X := 76) (by decide) Tryz.underlying144 hz_unsubAckKind
  go_enter Tryz.func80, Tryz.ntmps80
  go_wp2
  go_ret
  exact ⟨rfl, rfl⟩
theorem alone_connAckKind (v : Value) (w : World) : Calls Tryz.prog 80 #[.iface 127 v] w fun e w' => e = .returned (.bool false) ∧ w' = w := by
  have h0 := ta_no (T := 127) (X := 76) (by decide) Tryz.underlying134 hz_pubAckKind
  have h1 := ta_no (T := 127) (X := 76) (by decide) Tryz.underlying135 hz_pubRecKind
  have h2 := ta_no (T := 127) (X := 76) (by decide) Tryz.underlying136 hz_pubRelKind
  have h3 := ta_no (T := 127) (X := 76) (by decide) Tryz.underlying137 hz_pubCompKind
  have h4 := ta_no (T := 127) (X := 76) (by decide) Tryz.underlying144 hz_unsubAckKind
  go_enter Tryz.func80, Tryz.ntmps80
  go_wp2
  go_ret
  exact ⟨rfl, rfl⟩
theorem alone_publishKind (v : Value) (w : World) : Calls Tryz.prog 80 #[.iface 129 v] w fun e w' => e = .returned (.bool false) ∧ w' = w := by
  have h0 := ta_no (T := 129) (X := 76) (by decide) Tryz.underlying134 hz_pubAckKind
  have h1 := ta_no (T := 129) (X := 76) (by decide) Tryz.underlying135 hz_pubRecKind
  have h2 := ta_no (T := 129) (X := 76) (by decide) Tryz.underlying136 hz_pubRelKind
  have h3 := ta_no (T := 129) (X := 76) (by decide) Tryz.underlying137 hz_pubCompKind
  have h4 := ta_no (T := 129) (X := 76) (by decide) Tryz.underlying144 hz_unsubAckKind
  go_enter Tryz.func80, Tryz.ntmps80
  go_wp2
  go_ret
  exact ⟨rfl, rfl⟩
theorem alone_pubAckKind (v : Value) (w : World) : Calls Tryz.prog 80 #[.iface 134 v] w fun e w' => e = .returned (.bool true) ∧ w' = w := by
  have h0 := ta_yes (X := 76) Tryz.underlying134
  have h1 := ta_no (T := 134) (X := 76) (by decide) Tryz.underlying135 hz_pubRecKind
  have h2 := ta_no (T := 134) (X := 76) (by decide) Tryz.underlying136 hz_pubRelKind
  have h3 := ta_no (T := 134) (X := 76) (by decide) Tryz.underlying137 hz_pubCompKind
  have h4 := ta_no (T := 134) (X := 76) (by decide) Tryz.underlying144 hz_unsubAckKind
  go_enter Tryz.func80, Tryz.ntmps80
  go_wp2
  go_ret
  exact ⟨rfl, rfl⟩
theorem alone_pubRecKind (v : Value) (w : World) : Calls Tryz.prog 80 #[.iface 135 v] w fun e w' => e = .returned (.bool true) ∧ w' = w := by
  have h0 := ta_no (T := 135) (X := 76) (by decide) Tryz.underlying134 hz_pubAckKind
  have h1 := ta_yes (X := 76) Tryz.underlying135
  have h2 := ta_no (T := 135) (X := 76) (by decide) Tryz.underlying136 hz_pubRelKind
  have h3 := ta_no (T := 135) (X := 76) (by decide) Tryz.underlying137 hz_pubCompKind
  have h4 := ta_no (T := 135) (X := 76) (by decide) Tryz.underlying144 hz_unsubAckKind
  go_enter Tryz.func80, Tryz.ntmps80
  go_wp2
  go_ret
  exact ⟨rfl, rfl⟩
theorem alone_pubRelKind (v : Value) (w : World) : Calls Tryz.prog 80 #[.iface 136 v] w fun e w' => e = .returned (.bool true) ∧ w' = w := by
  have h0 := ta_no (T := 136) (X := 76) (by decide) Tryz.underlying134 hz_pubAckKind
  have h1 := ta_no (T := 136) (X := 76) (by decide) Tryz.underlying135 hz_pubRecKind
  have h2 := ta_yes (X := 76) Tryz.underlying136
  have h3 := ta_no (T := 136) (X := 76) (by decide) Tryz.underlying137 hz_pubCompKind
  have h4 := ta_no (T := 136) (X := 76) (by decide) Tryz.underlying144 hz_unsubAckKind
  go_enter Tryz.func80, Tryz.ntmps80
  go_wp2
  go_ret
  exact ⟨rfl, rfl⟩
theorem alone_pubCompKind (v : Value) (w : World) : Calls Tryz.prog 80 #[.iface 137 v] w fun e w' => e = .returned (.bool true) ∧ w' = w := by
  have h0 := ta_no (T := 137) (X := 76) (by decide) Tryz.underlying134 hz_pubAckKind
  have h1 := ta_no (T := 137) (X := 76) (by decide) Tryz.underlying135 hz_pubRecKind
  have h2 := ta_no (T := 137) (X := 76) (by decide) Tryz.underlying136 hz_pubRelKind
  have h3 := ta_yes (X := 76) Tryz.underlying137
  have h4 := ta_no (T := 137) (X := 76) (by decide) Tryz.underlying144 hz_unsubAckKind
  go_enter Tryz.func80, Tryz.ntmps80
  go_wp2
  go_ret
  exact ⟨rfl, rfl⟩
theorem alone_subscribeKind (v : Value) (w : World) : Calls Tryz.prog 80 #[.iface 139 v] w fun e w' => e = .returned (.bool false) ∧ w' = w := by
  have h0 := ta_no (T := 139) (X := 76) (by decide) Tryz.underlying134 hz_pubAckKind
  have h1 := ta_no (T := 139) (X := 76) (by decide) Tryz.underlying135 hz_pubRecKind
  have h2 := ta_no (T := 139) (X := 76) (by decide) Tryz.underlying136 hz_pubRelKind
  have h3 := ta_no (T := 139) (X := 76) (by decide) Tryz.underlying137 hz_pubCompKind
  have h4 := ta_no (T := 139) (X := 76) (by decide) Tryz.underlying144 hz_unsubAckKind
  go_enter Tryz.func80, Tryz.ntmps80
  go_wp2
  go_ret
  exact ⟨rfl, rfl⟩
theorem alone_subAckKind (v : Value) (w : World) : Calls Tryz.prog 80 #[.iface 141 v] w fun e w' => e = .returned (.bool false) ∧ w' = w := by
  have h0 := ta_no (T := 141) (X := 76) (by decide) Tryz.underlying134 hz_pubAckKind
  have h1 := ta_no (T := 141) (X := 76) (by decide) Tryz.underlying135 hz_pubRecKind
  have h2 := ta_no (T := 141) (X := 76) (by decide) Tryz.underlying136 hz_pubRelKind
  have h3 := ta_no (T := 141) (X := 76) (by decide) Tryz.underlying137 hz_pubCompKind
  have h4 := ta_no (T := 141) (X := 76) (by decide) Tryz.underlying144 hz_unsubAckKind
  go_enter Tryz.func80, Tryz.ntmps80
  go_wp2
  go_ret
  exact ⟨rfl, rfl⟩
theorem alone_unsubscribeKind (v : Value) (w : World) : Calls Tryz.prog 80 #[.iface 143 v] w fun e w' => e = .returned (.bool false) ∧ w' = w := by
  have h0 := ta_no (T := 143) (X := 76) (by decide) Tryz.underlying134 hz_pubAckKind
  have h1 := ta_no (T := 143) (X := 76) (by decide) Tryz.underlying135 hz_pubRecKind
  have h2 := ta_no (T := 143) (X := 76) (by decide) Tryz.underlying136 hz_pubRelKind
  have h3 := ta_no (T := 143) (X := 76) (by decide) Tryz.underlying137 hz_pubCompKind
  have h4 := ta_no (T := 143) (X := 76) (by decide) Tryz.underlying144 hz_unsubAckKind
  go_enter Tryz.func80, Tryz.ntmps80
  go_wp2
  go_ret
  exact ⟨rfl, rfl⟩
theorem alone_unsubAckKind (v : Value) (w : World) : Calls Tryz.prog 80 #[.iface 144 v] w fun e w' => e = .returned (.bool true) ∧ w' = w := by
  have h0 := ta_no (T := 144) (X := 76) (by decide) Tryz.underlying134 hz_pubAckKind
  have h1 := ta_no (T := 144) (X := 76) (by decide) Tryz.underlying135 hz_pubRecKind
  have h2 := ta_no (T := 144) (X := 76) (by decide) Tryz.underlying136 hz_pubRelKind
  have h3 := ta_no (T := 144) (X := 76) (by decide) Tryz.underlying137 hz_pubCompKind
  have h4 := ta_yes (X := 76) Tryz.underlying144
  go_enter Tryz.func80, Tryz.ntmps80
  go_wp2
  go_ret
  exact ⟨rfl, rfl⟩
theorem alone_pingReqKind (v : Value) (w : World) : Calls Tryz.prog 80 #[.iface 148 v] w fun e w' => e = .returned (.bool false) ∧ w' = w := by
  have h0 := ta_no (T := 148) (X := 76) (by decide) Tryz.underlying134 hz_pubAckKind
  have h1 := ta_no (T := 148) (X := 76) (by decide) Tryz.underlying135 hz_pubRecKind
  have h2 := ta_no (T := 148) (X := 76) (by decide) Tryz.underlying136 hz_pubRelKind
  have h3 := ta_no (T := 148) (X := 76) (by decide) Tryz.underlying137 hz_pubCompKind
  have h4 := ta_no (T := 148) (X := 76) (by decide) Tryz.underlying144 hz_unsubAckKind
  go_enter Tryz.func80, Tryz.ntmps80
  go_wp2
  go_ret
  exact ⟨rfl, rfl⟩
theorem alone_pingRespKind (v : Value) (w : World) : Calls Tryz.prog 80 #[.iface 149 v] w fun e w' => e = .returned (.bool false) ∧ w' = w := by
  have h0 := ta_no (T := 149) (X := 76) (by decide) Tryz.underlying134 hz_pubAckKind
  have h1 := ta_no (T := 149) (X := 76) (by decide) Tryz.underlying135 hz_pubRecKind
  have h2 := ta_no (T := 149) (X := 76) (by decide) Tryz.underlying136 hz_pubRelKind
  have h3 := ta_no (T := 149) (X := 76) (by decide) Tryz.underlying137 hz_pubCompKind
  have h4 := ta_no (T := 149) (X := 76) (by decide) Tryz.underlying144 hz_unsubAckKind
  go_enter Tryz.func80, Tryz.ntmps80
  go_wp2
  go_ret
  exact ⟨rfl, rfl⟩
theorem alone_disconnectKind (v : Value) (w : World) : Calls Tryz.prog 80 #[.iface 150 v] w fun e w' => e = .returned (.bool false) ∧ w' = w := by
  have h0 := ta_no (T := 150) (X := 76) (by decide) Tryz.underlying134 hz_pubAckKind
  have h1 := ta_no (T := 150) (X := 76) (by decide) Tryz.underlying135 hz_pubRecKind
  have h2 := ta_no (T := 150) (X := 76) (by decide) Tryz.underlying136 hz_pubRelKind
  have h3 := ta_no (T := 150) (X := 76) (by decide) Tryz.underlying137 hz_pubCompKind
  have h4 := ta_no (T := 150) (X := 76) (by decide) Tryz.underlying144 hz_unsubAckKind
  go_enter Tryz.func80, Tryz.ntmps80
  go_wp2
  go_ret
  exact ⟨rfl, rfl⟩
theorem alone_nil (w : World) : Calls Tryz.prog 80 #[.nilIface] w fun e w' => e = .returned (.bool false) ∧ w' = w := by
  have h0 := ta_nil (X := 76) Tryz.underlying134 hz_pubAckKind
  have h1 := ta_nil (X := 76) Tryz.underlying135 hz_pubRecKind
  have h2 := ta_nil (X := 76) Tryz.underlying136 hz_pubRelKind
  have h3 := ta_nil (X := 76) Tryz.underlying137 hz_pubCompKind
  have h4 := ta_nil (X := 76) Tryz.underlying144 hz_unsubAckKind
  go_enter Tryz.func80, Tryz.ntmps80
  go_wp2
  go_ret
  exact ⟨rfl, rfl⟩
end Go.Proofs.YtccjiicjlifmiaaGreatDoor
