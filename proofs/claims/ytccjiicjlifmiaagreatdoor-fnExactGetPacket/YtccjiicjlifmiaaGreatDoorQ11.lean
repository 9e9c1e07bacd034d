/- Texts that the law FnExactGetPacket uses. -/
import Derived.Handy
import Derived.Test.YtccjiicjlifmiaaGreatDoorQ01
set_option linter.unusedVariables false
set_option linter.unusedSimpArgs false
set_option maxRecDepth 100000
set_option maxHeartbeats 20000000
namespace Go.Proofs.YtccjiicjlifmiaaGreatDoor
open Go.RowKit

def zv (P : Program) (t : TypeId) : Value := ((P.info? t).bind (fun i => i.zero)).getD undef
theorem zero_run (P : Program) (t : TypeId) (h : ((P.info? t).bind (fun i => i.zero)).isSome = true) (w : World) : (zeroValue t).run P w = .ok (zv P t) w := by
 unfold zv
 cases hi : P.info? t with
 | none => simp [hi] at h
 | some i =>
  cases hz : i.zero with
  | none => simp [hi, hz] at h
  | some z => simp [zeroValue, typeInfo, hi, hz, Sem.run_bind]
theorem ta_no {P : Program} {T U X : TypeId} {fs : Array Field} (hne : T ≠ U) (hu : P.underlying U = some (.struct fs)) (hz : ((P.info? U).bind (fun i => i.zero)).isSome = true) (v : Value) (w : World) :
  (Instr.typeAssert (.iface T v) X U true).run P w = .ok (.tuple #[zv P U, .bool false]) w := by
 simp [Instr.typeAssert, Sem.run_bind, run_underlying hu, hne, zero_run P U hz]
theorem qec {P : Program} {U X : TypeId} {fs : Array Field} (hu : P.underlying U = some (.struct fs)) (v : Value) (w : World) :
  (Instr.typeAssert (.iface U v) X U true).run P w = .ok (.tuple #[v, .bool true]) w := by
 simp [Instr.typeAssert, Sem.run_bind, run_underlying hu]
theorem qbb : ((Tryz.prog.info? 124).bind (fun i => i.zero)).isSome = true := by kernel_rfl
theorem qbe : ((Tryz.prog.info? 127).bind (fun i => i.zero)).isSome = true := by kernel_rfl
theorem qam : ((Tryz.prog.info? 129).bind (fun i => i.zero)).isSome = true := by kernel_rfl
theorem qbn : ((Tryz.prog.info? 134).bind (fun i => i.zero)).isSome = true := by kernel_rfl
theorem qbt : ((Tryz.prog.info? 135).bind (fun i => i.zero)).isSome = true := by kernel_rfl
theorem qau : ((Tryz.prog.info? 136).bind (fun i => i.zero)).isSome = true := by kernel_rfl
theorem qch : ((Tryz.prog.info? 137).bind (fun i => i.zero)).isSome = true := by kernel_rfl
theorem qap : ((Tryz.prog.info? 139).bind (fun i => i.zero)).isSome = true := by kernel_rfl
theorem qdv : ((Tryz.prog.info? 141).bind (fun i => i.zero)).isSome = true := by kernel_rfl
theorem qao : ((Tryz.prog.info? 143).bind (fun i => i.zero)).isSome = true := by kernel_rfl
theorem qfl : ((Tryz.prog.info? 144).bind (fun i => i.zero)).isSome = true := by kernel_rfl
theorem qjf : ((Tryz.prog.info? 148).bind (fun i => i.zero)).isSome = true := by kernel_rfl
theorem qnw : ((Tryz.prog.info? 149).bind (fun i => i.zero)).isSome = true := by kernel_rfl
theorem qhx (v : Value) (w : World) : Calls Tryz.prog 116 #[.iface 124 v] w fun e w' => e = .returned (.int .i64 1) ∧ w' = w := by
 have h0 := qec (X := 76) Tryz.underlying124
 go_enter Tryz.func116, Tryz.ntmps116
 go_wp2
 go_ret
 exact ⟨rfl, rfl⟩
theorem qhr (v : Value) (w : World) : Calls Tryz.prog 116 #[.iface 127 v] w fun e w' => e = .returned (.int .i64 2) ∧ w' = w := by
 have h0 := ta_no (T := 127) (X := 76) (by decide) Tryz.underlying124 qbb
 have h1 := qec (X := 76) Tryz.underlying127
 go_enter Tryz.func116, Tryz.ntmps116
 go_wp2
 go_ret
 exact ⟨rfl, rfl⟩
theorem qey (v : Value) (w : World) : Calls Tryz.prog 116 #[.iface 129 v] w fun e w' => e = .returned (.int .i64 3) ∧ w' = w := by
 have h0 := ta_no (T := 129) (X := 76) (by decide) Tryz.underlying124 qbb
 have h1 := ta_no (T := 129) (X := 76) (by decide) Tryz.underlying127 qbe
 have h2 := qec (X := 76) Tryz.underlying129
 go_enter Tryz.func116, Tryz.ntmps116
 go_wp2
 go_ret
 exact ⟨rfl, rfl⟩
theorem qia (v : Value) (w : World) : Calls Tryz.prog 116 #[.iface 134 v] w fun e w' => e = .returned (.int .i64 4) ∧ w' = w := by
 have h0 := ta_no (T := 134) (X := 76) (by decide) Tryz.underlying124 qbb
 have h1 := ta_no (T := 134) (X := 76) (by decide) Tryz.underlying127 qbe
 have h2 := ta_no (T := 134) (X := 76) (by decide) Tryz.underlying129 qam
 have h3 := qec (X := 76) Tryz.underlying134
 go_enter Tryz.func116, Tryz.ntmps116
 go_wp2
 go_ret
 exact ⟨rfl, rfl⟩
theorem qig (v : Value) (w : World) : Calls Tryz.prog 116 #[.iface 135 v] w fun e w' => e = .returned (.int .i64 5) ∧ w' = w := by
 have h0 := ta_no (T := 135) (X := 76) (by decide) Tryz.underlying124 qbb
 have h1 := ta_no (T := 135) (X := 76) (by decide) Tryz.underlying127 qbe
 have h2 := ta_no (T := 135) (X := 76) (by decide) Tryz.underlying129 qam
 have h3 := ta_no (T := 135) (X := 76) (by decide) Tryz.underlying134 qbn
 have h4 := qec (X := 76) Tryz.underlying135
 go_enter Tryz.func116, Tryz.ntmps116
 go_wp2
 go_ret
 exact ⟨rfl, rfl⟩
theorem qic (v : Value) (w : World) : Calls Tryz.prog 116 #[.iface 136 v] w fun e w' => e = .returned (.int .i64 6) ∧ w' = w := by
 have h0 := ta_no (T := 136) (X := 76) (by decide) Tryz.underlying124 qbb
 have h1 := ta_no (T := 136) (X := 76) (by decide) Tryz.underlying127 qbe
 have h2 := ta_no (T := 136) (X := 76) (by decide) Tryz.underlying129 qam
 have h3 := ta_no (T := 136) (X := 76) (by decide) Tryz.underlying134 qbn
 have h4 := ta_no (T := 136) (X := 76) (by decide) Tryz.underlying135 qbt
 have h5 := qec (X := 76) Tryz.underlying136
 go_enter Tryz.func116, Tryz.ntmps116
 go_wp2
 go_ret
 exact ⟨rfl, rfl⟩
theorem qhw (v : Value) (w : World) : Calls Tryz.prog 116 #[.iface 137 v] w fun e w' => e = .returned (.int .i64 7) ∧ w' = w := by
 have h0 := ta_no (T := 137) (X := 76) (by decide) Tryz.underlying124 qbb
 have h1 := ta_no (T := 137) (X := 76) (by decide) Tryz.underlying127 qbe
 have h2 := ta_no (T := 137) (X := 76) (by decide) Tryz.underlying129 qam
 have h3 := ta_no (T := 137) (X := 76) (by decide) Tryz.underlying134 qbn
 have h4 := ta_no (T := 137) (X := 76) (by decide) Tryz.underlying135 qbt
 have h5 := ta_no (T := 137) (X := 76) (by decide) Tryz.underlying136 qau
 have h6 := qec (X := 76) Tryz.underlying137
 go_enter Tryz.func116, Tryz.ntmps116
 go_wp2
 go_ret
 exact ⟨rfl, rfl⟩
theorem qfv (v : Value) (w : World) : Calls Tryz.prog 116 #[.iface 139 v] w fun e w' => e = .returned (.int .i64 8) ∧ w' = w := by
 have h0 := ta_no (T := 139) (X := 76) (by decide) Tryz.underlying124 qbb
 have h1 := ta_no (T := 139) (X := 76) (by decide) Tryz.underlying127 qbe
 have h2 := ta_no (T := 139) (X := 76) (by decide) Tryz.underlying129 qam
 have h3 := ta_no (T := 139) (X := 76) (by decide) Tryz.underlying134 qbn
 have h4 := ta_no (T := 139) (X := 76) (by decide) Tryz.underlying135 qbt
 have h5 := ta_no (T := 139) (X := 76) (by decide) Tryz.underlying136 qau
 have h6 := ta_no (T := 139) (X := 76) (by decide) Tryz.underlying137 qch
 have h7 := qec (X := 76) Tryz.underlying139
 go_enter Tryz.func116, Tryz.ntmps116
 go_wp2
 go_ret
 exact ⟨rfl, rfl⟩
theorem qif (v : Value) (w : World) : Calls Tryz.prog 116 #[.iface 141 v] w fun e w' => e = .returned (.int .i64 9) ∧ w' = w := by
 have h0 := ta_no (T := 141) (X := 76) (by decide) Tryz.underlying124 qbb
 have h1 := ta_no (T := 141) (X := 76) (by decide) Tryz.underlying127 qbe
 have h2 := ta_no (T := 141) (X := 76) (by decide) Tryz.underlying129 qam
 have h3 := ta_no (T := 141) (X := 76) (by decide) Tryz.underlying134 qbn
 have h4 := ta_no (T := 141) (X := 76) (by decide) Tryz.underlying135 qbt
 have h5 := ta_no (T := 141) (X := 76) (by decide) Tryz.underlying136 qau
 have h6 := ta_no (T := 141) (X := 76) (by decide) Tryz.underlying137 qch
 have h7 := ta_no (T := 141) (X := 76) (by decide) Tryz.underlying139 qap
 have h8 := qec (X := 76) Tryz.underlying141
 go_enter Tryz.func116, Tryz.ntmps116
 go_wp2
 go_ret
 exact ⟨rfl, rfl⟩
theorem qff (v : Value) (w : World) : Calls Tryz.prog 116 #[.iface 143 v] w fun e w' => e = .returned (.int .i64 10) ∧ w' = w := by
 have h0 := ta_no (T := 143) (X := 76) (by decide) Tryz.underlying124 qbb
 have h1 := ta_no (T := 143) (X := 76) (by decide) Tryz.underlying127 qbe
 have h2 := ta_no (T := 143) (X := 76) (by decide) Tryz.underlying129 qam
 have h3 := ta_no (T := 143) (X := 76) (by decide) Tryz.underlying134 qbn
 have h4 := ta_no (T := 143) (X := 76) (by decide) Tryz.underlying135 qbt
 have h5 := ta_no (T := 143) (X := 76) (by decide) Tryz.underlying136 qau
 have h6 := ta_no (T := 143) (X := 76) (by decide) Tryz.underlying137 qch
 have h7 := ta_no (T := 143) (X := 76) (by decide) Tryz.underlying139 qap
 have h8 := ta_no (T := 143) (X := 76) (by decide) Tryz.underlying141 qdv
 have h9 := qec (X := 76) Tryz.underlying143
 go_enter Tryz.func116, Tryz.ntmps116
 go_wp2
 go_ret
 exact ⟨rfl, rfl⟩
theorem qgp (v : Value) (w : World) : Calls Tryz.prog 116 #[.iface 144 v] w fun e w' => e = .returned (.int .i64 11) ∧ w' = w := by
 have h0 := ta_no (T := 144) (X := 76) (by decide) Tryz.underlying124 qbb
 have h1 := ta_no (T := 144) (X := 76) (by decide) Tryz.underlying127 qbe
 have h2 := ta_no (T := 144) (X := 76) (by decide) Tryz.underlying129 qam
 have h3 := ta_no (T := 144) (X := 76) (by decide) Tryz.underlying134 qbn
 have h4 := ta_no (T := 144) (X := 76) (by decide) Tryz.underlying135 qbt
 have h5 := ta_no (T := 144) (X := 76) (by decide) Tryz.underlying136 qau
 have h6 := ta_no (T := 144) (X := 76) (by decide) Tryz.underlying137 qch
 have h7 := ta_no (T := 144) (X := 76) (by decide) Tryz.underlying139 qap
 have h8 := ta_no (T := 144) (X := 76) (by decide) Tryz.underlying141 qdv
 have h9 := ta_no (T := 144) (X := 76) (by decide) Tryz.underlying143 qao
 have h10 := qec (X := 76) Tryz.underlying144
 go_enter Tryz.func116, Tryz.ntmps116
 go_wp2
 go_ret
 exact ⟨rfl, rfl⟩
theorem qhs (v : Value) (w : World) : Calls Tryz.prog 116 #[.iface 148 v] w fun e w' => e = .returned (.int .i64 12) ∧ w' = w := by
 have h0 := ta_no (T := 148) (X := 76) (by decide) Tryz.underlying124 qbb
 have h1 := ta_no (T := 148) (X := 76) (by decide) Tryz.underlying127 qbe
 have h2 := ta_no (T := 148) (X := 76) (by decide) Tryz.underlying129 qam
 have h3 := ta_no (T := 148) (X := 76) (by decide) Tryz.underlying134 qbn
 have h4 := ta_no (T := 148) (X := 76) (by decide) Tryz.underlying135 qbt
 have h5 := ta_no (T := 148) (X := 76) (by decide) Tryz.underlying136 qau
 have h6 := ta_no (T := 148) (X := 76) (by decide) Tryz.underlying137 qch
 have h7 := ta_no (T := 148) (X := 76) (by decide) Tryz.underlying139 qap
 have h8 := ta_no (T := 148) (X := 76) (by decide) Tryz.underlying141 qdv
 have h9 := ta_no (T := 148) (X := 76) (by decide) Tryz.underlying143 qao
 have h10 := ta_no (T := 148) (X := 76) (by decide) Tryz.underlying144 qfl
 have h11 := qec (X := 76) Tryz.underlying148
 go_enter Tryz.func116, Tryz.ntmps116
 go_wp2
 go_ret
 exact ⟨rfl, rfl⟩
theorem qgt (v : Value) (w : World) : Calls Tryz.prog 116 #[.iface 149 v] w fun e w' => e = .returned (.int .i64 13) ∧ w' = w := by
 have h0 := ta_no (T := 149) (X := 76) (by decide) Tryz.underlying124 qbb
 have h1 := ta_no (T := 149) (X := 76) (by decide) Tryz.underlying127 qbe
 have h2 := ta_no (T := 149) (X := 76) (by decide) Tryz.underlying129 qam
 have h3 := ta_no (T := 149) (X := 76) (by decide) Tryz.underlying134 qbn
 have h4 := ta_no (T := 149) (X := 76) (by decide) Tryz.underlying135 qbt
 have h5 := ta_no (T := 149) (X := 76) (by decide) Tryz.underlying136 qau
 have h6 := ta_no (T := 149) (X := 76) (by decide) Tryz.underlying137 qch
 have h7 := ta_no (T := 149) (X := 76) (by decide) Tryz.underlying139 qap
 have h8 := ta_no (T := 149) (X := 76) (by decide) Tryz.underlying141 qdv
 have h9 := ta_no (T := 149) (X := 76) (by decide) Tryz.underlying143 qao
 have h10 := ta_no (T := 149) (X := 76) (by decide) Tryz.underlying144 qfl
 have h11 := ta_no (T := 149) (X := 76) (by decide) Tryz.underlying148 qjf
 have h12 := qec (X := 76) Tryz.underlying149
 go_enter Tryz.func116, Tryz.ntmps116
 go_wp2
 go_ret
 exact ⟨rfl, rfl⟩
theorem qfn (v : Value) (w : World) : Calls Tryz.prog 116 #[.iface 150 v] w fun e w' => e = .returned (.int .i64 14) ∧ w' = w := by
 have h0 := ta_no (T := 150) (X := 76) (by decide) Tryz.underlying124 qbb
 have h1 := ta_no (T := 150) (X := 76) (by decide) Tryz.underlying127 qbe
 have h2 := ta_no (T := 150) (X := 76) (by decide) Tryz.underlying129 qam
 have h3 := ta_no (T := 150) (X := 76) (by decide) Tryz.underlying134 qbn
 have h4 := ta_no (T := 150) (X := 76) (by decide) Tryz.underlying135 qbt
 have h5 := ta_no (T := 150) (X := 76) (by decide) Tryz.underlying136 qau
 have h6 := ta_no (T := 150) (X := 76) (by decide) Tryz.underlying137 qch
 have h7 := ta_no (T := 150) (X := 76) (by decide) Tryz.underlying139 qap
 have h8 := ta_no (T := 150) (X := 76) (by decide) Tryz.underlying141 qdv
 have h9 := ta_no (T := 150) (X := 76) (by decide) Tryz.underlying143 qao
 have h10 := ta_no (T := 150) (X := 76) (by decide) Tryz.underlying144 qfl
 have h11 := ta_no (T := 150) (X := 76) (by decide) Tryz.underlying148 qjf
 have h12 := ta_no (T := 150) (X := 76) (by decide) Tryz.underlying149 qnw
 have h13 := qec (X := 76) Tryz.underlying150
 go_enter Tryz.func116, Tryz.ntmps116
 go_wp2
 go_ret
 exact ⟨rfl, rfl⟩
theorem qnp (v : Value) (w : World) : Calls Tryz.prog 117 #[.iface 124 v] w fun e w' => e = .returned (.int .i64 0) ∧ w' = w := by
 have h0 := ta_no (T := 124) (X := 76) (by decide) Tryz.underlying129 qam
 have h1 := ta_no (T := 124) (X := 76) (by decide) Tryz.underlying136 qau
 have h2 := ta_no (T := 124) (X := 76) (by decide) Tryz.underlying139 qap
 have h3 := ta_no (T := 124) (X := 76) (by decide) Tryz.underlying143 qao
 go_enter Tryz.func117, Tryz.ntmps117
 go_wp2
 go_ret
 exact ⟨rfl, rfl⟩
theorem qoh (v : Value) (w : World) : Calls Tryz.prog 117 #[.iface 127 v] w fun e w' => e = .returned (.int .i64 0) ∧ w' = w := by
 have h0 := ta_no (T := 127) (X := 76) (by decide) Tryz.underlying129 qam
 have h1 := ta_no (T := 127) (X := 76) (by decide) Tryz.underlying136 qau
 have h2 := ta_no (T := 127) (X := 76) (by decide) Tryz.underlying139 qap
 have h3 := ta_no (T := 127) (X := 76) (by decide) Tryz.underlying143 qao
 go_enter Tryz.func117, Tryz.ntmps117
 go_wp2
 go_ret
 exact ⟨rfl, rfl⟩
theorem qot (v : Value) (w : World) : Calls Tryz.prog 117 #[.iface 134 v] w fun e w' => e = .returned (.int .i64 0) ∧ w' = w := by
 have h0 := ta_no (T := 134) (X := 76) (by decide) Tryz.underlying129 qam
 have h1 := ta_no (T := 134) (X := 76) (by decide) Tryz.underlying136 qau
 have h2 := ta_no (T := 134) (X := 76) (by decide) Tryz.underlying139 qap
 have h3 := ta_no (T := 134) (X := 76) (by decide) Tryz.underlying143 qao
 go_enter Tryz.func117, Tryz.ntmps117
 go_wp2
 go_ret
 exact ⟨rfl, rfl⟩
theorem qpg (v : Value) (w : World) : Calls Tryz.prog 117 #[.iface 135 v] w fun e w' => e = .returned (.int .i64 0) ∧ w' = w := by
 have h0 := ta_no (T := 135) (X := 76) (by decide) Tryz.underlying129 qam
 have h1 := ta_no (T := 135) (X := 76) (by decide) Tryz.underlying136 qau
 have h2 := ta_no (T := 135) (X := 76) (by decide) Tryz.underlying139 qap
 have h3 := ta_no (T := 135) (X := 76) (by decide) Tryz.underlying143 qao
 go_enter Tryz.func117, Tryz.ntmps117
 go_wp2
 go_ret
 exact ⟨rfl, rfl⟩
theorem qph (v : Value) (w : World) : Calls Tryz.prog 117 #[.iface 136 v] w fun e w' => e = .returned (.int .i64 2) ∧ w' = w := by
 have h0 := ta_no (T := 136) (X := 76) (by decide) Tryz.underlying129 qam
 have h1 := qec (X := 76) Tryz.underlying136
 have h2 := ta_no (T := 136) (X := 76) (by decide) Tryz.underlying139 qap
 have h3 := ta_no (T := 136) (X := 76) (by decide) Tryz.underlying143 qao
 go_enter Tryz.func117, Tryz.ntmps117
 go_wp2
 go_ret
 exact ⟨rfl, rfl⟩
theorem qmp (v : Value) (w : World) : Calls Tryz.prog 117 #[.iface 137 v] w fun e w' => e = .returned (.int .i64 0) ∧ w' = w := by
 have h0 := ta_no (T := 137) (X := 76) (by decide) Tryz.underlying129 qam
 have h1 := ta_no (T := 137) (X := 76) (by decide) Tryz.underlying136 qau
 have h2 := ta_no (T := 137) (X := 76) (by decide) Tryz.underlying139 qap
 have h3 := ta_no (T := 137) (X := 76) (by decide) Tryz.underlying143 qao
 go_enter Tryz.func117, Tryz.ntmps117
 go_wp2
 go_ret
 exact ⟨rfl, rfl⟩
theorem qks (v : Value) (w : World) : Calls Tryz.prog 117 #[.iface 139 v] w fun e w' => e = .returned (.int .i64 2) ∧ w' = w := by
 have h0 := ta_no (T := 139) (X := 76) (by decide) Tryz.underlying129 qam
 have h1 := ta_no (T := 139) (X := 76) (by decide) Tryz.underlying136 qau
 have h2 := qec (X := 76) Tryz.underlying139
 have h3 := ta_no (T := 139) (X := 76) (by decide) Tryz.underlying143 qao
 go_enter Tryz.func117, Tryz.ntmps117
 go_wp2
 go_ret
 exact ⟨rfl, rfl⟩
theorem qpc (v : Value) (w : World) : Calls Tryz.prog 117 #[.iface 141 v] w fun e w' => e = .returned (.int .i64 0) ∧ w' = w := by
 have h0 := ta_no (T := 141) (X := 76) (by decide) Tryz.underlying129 qam
 have h1 := ta_no (T := 141) (X := 76) (by decide) Tryz.underlying136 qau
 have h2 := ta_no (T := 141) (X := 76) (by decide) Tryz.underlying139 qap
 have h3 := ta_no (T := 141) (X := 76) (by decide) Tryz.underlying143 qao
 go_enter Tryz.func117, Tryz.ntmps117
 go_wp2
 go_ret
 exact ⟨rfl, rfl⟩
theorem qjn (v : Value) (w : World) : Calls Tryz.prog 117 #[.iface 143 v] w fun e w' => e = .returned (.int .i64 2) ∧ w' = w := by
 have h0 := ta_no (T := 143) (X := 76) (by decide) Tryz.underlying129 qam
 have h1 := ta_no (T := 143) (X := 76) (by decide) Tryz.underlying136 qau
 have h2 := ta_no (T := 143) (X := 76) (by decide) Tryz.underlying139 qap
 have h3 := qec (X := 76) Tryz.underlying143
 go_enter Tryz.func117, Tryz.ntmps117
 go_wp2
 go_ret
 exact ⟨rfl, rfl⟩
theorem qmb (v : Value) (w : World) : Calls Tryz.prog 117 #[.iface 144 v] w fun e w' => e = .returned (.int .i64 0) ∧ w' = w := by
 have h0 := ta_no (T := 144) (X := 76) (by decide) Tryz.underlying129 qam
 have h1 := ta_no (T := 144) (X := 76) (by decide) Tryz.underlying136 qau
 have h2 := ta_no (T := 144) (X := 76) (by decide) Tryz.underlying139 qap
 have h3 := ta_no (T := 144) (X := 76) (by decide) Tryz.underlying143 qao
 go_enter Tryz.func117, Tryz.ntmps117
 go_wp2
 go_ret
 exact ⟨rfl, rfl⟩
theorem qmu (v : Value) (w : World) : Calls Tryz.prog 117 #[.iface 148 v] w fun e w' => e = .returned (.int .i64 0) ∧ w' = w := by
 have h0 := ta_no (T := 148) (X := 76) (by decide) Tryz.underlying129 qam
 have h1 := ta_no (T := 148) (X := 76) (by decide) Tryz.underlying136 qau
 have h2 := ta_no (T := 148) (X := 76) (by decide) Tryz.underlying139 qap
 have h3 := ta_no (T := 148) (X := 76) (by decide) Tryz.underlying143 qao
 go_enter Tryz.func117, Tryz.ntmps117
 go_wp2
 go_ret
 exact ⟨rfl, rfl⟩
theorem qmg (v : Value) (w : World) : Calls Tryz.prog 117 #[.iface 149 v] w fun e w' => e = .returned (.int .i64 0) ∧ w' = w := by
 have h0 := ta_no (T := 149) (X := 76) (by decide) Tryz.underlying129 qam
 have h1 := ta_no (T := 149) (X := 76) (by decide) Tryz.underlying136 qau
 have h2 := ta_no (T := 149) (X := 76) (by decide) Tryz.underlying139 qap
 have h3 := ta_no (T := 149) (X := 76) (by decide) Tryz.underlying143 qao
 go_enter Tryz.func117, Tryz.ntmps117
 go_wp2
 go_ret
 exact ⟨rfl, rfl⟩
theorem qjs (v : Value) (w : World) : Calls Tryz.prog 117 #[.iface 150 v] w fun e w' => e = .returned (.int .i64 0) ∧ w' = w := by
 have h0 := ta_no (T := 150) (X := 76) (by decide) Tryz.underlying129 qam
 have h1 := ta_no (T := 150) (X := 76) (by decide) Tryz.underlying136 qau
 have h2 := ta_no (T := 150) (X := 76) (by decide) Tryz.underlying139 qap
 have h3 := ta_no (T := 150) (X := 76) (by decide) Tryz.underlying143 qao
 go_enter Tryz.func117, Tryz.ntmps117
 go_wp2
 go_ret
 exact ⟨rfl, rfl⟩
end Go.Proofs.YtccjiicjlifmiaaGreatDoor
