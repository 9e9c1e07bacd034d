/- Texts that the law FnExactBufOk uses. -/
import Derived.Handy
import Derived.Test.YtccjiicjlifmiaaGreatDoorR01
set_option linter.unusedVariables false
set_option linter.unusedSimpArgs false
set_option maxRecDepth 100000
set_option maxHeartbeats 20000000
namespace Go.Proofs.YtccjiicjlifmiaaGreatDoor
open Go.RowKit

def zv (P : Program) (t : TypeId) : Value := ((P.info? t).bind (fun i => i.zero)).getD undef
theorem zero_run (P : Program) (t : TypeId) (h : ((P.info? t).bind (fun i => i.zero)).isSome = true) (w : World) : (zeroValue t).run P w = .ok (zv P t) w := by
 unfold zv
 cases hi : P.info? t with
 | none => simp [hi] at h
 | some i =>
  cases hz : i.zero with
  | none => simp [hi, hz] at h
  | some z => simp [zeroValue, typeInfo, hi, hz, Sem.run_bind]
theorem ta_no {P : Program} {T U X : TypeId} {fs : Array Field} (hne : T ≠ U) (hu : P.underlying U = some (.struct fs)) (hz : ((P.info? U).bind (fun i => i.zero)).isSome = true) (v : Value) (w : World) :
  (Instr.typeAssert (.iface T v) X U true).run P w = .ok (.tuple #[zv P U, .bool false]) w := by
 simp [Instr.typeAssert, Sem.run_bind, run_underlying hu, hne, zero_run P U hz]
theorem qeb {P : Program} {U X : TypeId} {fs : Array Field} (hu : P.underlying U = some (.struct fs)) (v : Value) (w : World) :
  (Instr.typeAssert (.iface U v) X U true).run P w = .ok (.tuple #[v, .bool true]) w := by
 simp [Instr.typeAssert, Sem.run_bind, run_underlying hu]
theorem qbc : ((Tryz.prog.info? 124).bind (fun i => i.zero)).isSome = true := by kernel_rfl
theorem qbe : ((Tryz.prog.info? 127).bind (fun i => i.zero)).isSome = true := by kernel_rfl
theorem qak : ((Tryz.prog.info? 129).bind (fun i => i.zero)).isSome = true := by kernel_rfl
theorem qbo : ((Tryz.prog.info? 134).bind (fun i => i.zero)).isSome = true := by kernel_rfl
theorem qbr : ((Tryz.prog.info? 135).bind (fun i => i.zero)).isSome = true := by kernel_rfl
theorem qas : ((Tryz.prog.info? 136).bind (fun i => i.zero)).isSome = true := by kernel_rfl
theorem qce : ((Tryz.prog.info? 137).bind (fun i => i.zero)).isSome = true := by kernel_rfl
theorem qan : ((Tryz.prog.info? 139).bind (fun i => i.zero)).isSome = true := by kernel_rfl
theorem qdt : ((Tryz.prog.info? 141).bind (fun i => i.zero)).isSome = true := by kernel_rfl
theorem qam : ((Tryz.prog.info? 143).bind (fun i => i.zero)).isSome = true := by kernel_rfl
theorem qfg : ((Tryz.prog.info? 144).bind (fun i => i.zero)).isSome = true := by kernel_rfl
theorem qiz : ((Tryz.prog.info? 148).bind (fun i => i.zero)).isSome = true := by kernel_rfl
theorem qmu : ((Tryz.prog.info? 149).bind (fun i => i.zero)).isSome = true := by kernel_rfl
theorem qhq (v : Value) (w : World) : Calls Tryz.prog 116 #[.iface 124 v] w fun e w' => e = .returned (.int .i64 1) ∧ w' = w := by
 have h0 := qeb (X := 76) Tryz.underlying124
 go_enter Tryz.func116, Tryz.ntmps116
 go_wp2
 go_ret
 exact ⟨rfl, rfl⟩
theorem qhp (v : Value) (w : World) : Calls Tryz.prog 116 #[.iface 127 v] w fun e w' => e = .returned (.int .i64 2) ∧ w' = w := by
 have h0 := ta_no (T := 127) (X := 76) (by decide) Tryz.underlying124 qbc
 have h1 := qeb (X := 76) Tryz.underlying127
 go_enter Tryz.func116, Tryz.ntmps116
 go_wp2
 go_ret
 exact ⟨rfl, rfl⟩
theorem qez (v : Value) (w : World) : Calls Tryz.prog 116 #[.iface 129 v] w fun e w' => e = .returned (.int .i64 3) ∧ w' = w := by
 have h0 := ta_no (T := 129) (X := 76) (by decide) Tryz.underlying124 qbc
 have h1 := ta_no (T := 129) (X := 76) (by decide) Tryz.underlying127 qbe
 have h2 := qeb (X := 76) Tryz.underlying129
 go_enter Tryz.func116, Tryz.ntmps116
 go_wp2
 go_ret
 exact ⟨rfl, rfl⟩
theorem qij (v : Value) (w : World) : Calls Tryz.prog 116 #[.iface 134 v] w fun e w' => e = .returned (.int .i64 4) ∧ w' = w := by
 have h0 := ta_no (T := 134) (X := 76) (by decide) Tryz.underlying124 qbc
 have h1 := ta_no (T := 134) (X := 76) (by decide) Tryz.underlying127 qbe
 have h2 := ta_no (T := 134) (X := 76) (by decide) Tryz.underlying129 qak
 have h3 := qeb (X := 76) Tryz.underlying134
 go_enter Tryz.func116, Tryz.ntmps116
 go_wp2
 go_ret
 exact ⟨rfl, rfl⟩
theorem qik (v : Value) (w : World) : Calls Tryz.prog 116 #[.iface 135 v] w fun e w' => e = .returned (.int .i64 5) ∧ w' = w := by
 have h0 := ta_no (T := 135) (X := 76) (by decide) Tryz.underlying124 qbc
 have h1 := ta_no (T := 135) (X := 76) (by decide) Tryz.underlying127 qbe
 have h2 := ta_no (T := 135) (X := 76) (by decide) Tryz.underlying129 qak
 have h3 := ta_no (T := 135) (X := 76) (by decide) Tryz.underlying134 qbo
 have h4 := qeb (X := 76) Tryz.underlying135
 go_enter Tryz.func116, Tryz.ntmps116
 go_wp2
 go_ret
 exact ⟨rfl, rfl⟩
theorem qil (v : Value) (w : World) : Calls Tryz.prog 116 #[.iface 136 v] w fun e w' => e = .returned (.int .i64 6) ∧ w' = w := by
 have h0 := ta_no (T := 136) (X := 76) (by decide) Tryz.underlying124 qbc
 have h1 := ta_no (T := 136) (X := 76) (by decide) Tryz.underlying127 qbe
 have h2 := ta_no (T := 136) (X := 76) (by decide) Tryz.underlying129 qak
 have h3 := ta_no (T := 136) (X := 76) (by decide) Tryz.underlying134 qbo
 have h4 := ta_no (T := 136) (X := 76) (by decide) Tryz.underlying135 qbr
 have h5 := qeb (X := 76) Tryz.underlying136
 go_enter Tryz.func116, Tryz.ntmps116
 go_wp2
 go_ret
 exact ⟨rfl, rfl⟩
theorem qhs (v : Value) (w : World) : Calls Tryz.prog 116 #[.iface 137 v] w fun e w' => e = .returned (.int .i64 7) ∧ w' = w := by
 have h0 := ta_no (T := 137) (X := 76) (by decide) Tryz.underlying124 qbc
 have h1 := ta_no (T := 137) (X := 76) (by decide) Tryz.underlying127 qbe
 have h2 := ta_no (T := 137) (X := 76) (by decide) Tryz.underlying129 qak
 have h3 := ta_no (T := 137) (X := 76) (by decide) Tryz.underlying134 qbo
 have h4 := ta_no (T := 137) (X := 76) (by decide) Tryz.underlying135 qbr
 have h5 := ta_no (T := 137) (X := 76) (by decide) Tryz.underlying136 qas
 have h6 := qeb (X := 76) Tryz.underlying137
 go_enter Tryz.func116, Tryz.ntmps116
 go_wp2
 go_ret
 exact ⟨rfl, rfl⟩
theorem qfx (v : Value) (w : World) : Calls Tryz.prog 116 #[.iface 139 v] w fun e w' => e = .returned (.int .i64 8) ∧ w' = w := by
 have h0 := ta_no (T := 139) (X := 76) (by decide) Tryz.underlying124 qbc
 have h1 := ta_no (T := 139) (X := 76) (by decide) Tryz.underlying127 qbe
 have h2 := ta_no (T := 139) (X := 76) (by decide) Tryz.underlying129 qak
 have h3 := ta_no (T := 139) (X := 76) (by decide) Tryz.underlying134 qbo
 have h4 := ta_no (T := 139) (X := 76) (by decide) Tryz.underlying135 qbr
 have h5 := ta_no (T := 139) (X := 76) (by decide) Tryz.underlying136 qas
 have h6 := ta_no (T := 139) (X := 76) (by decide) Tryz.underlying137 qce
 have h7 := qeb (X := 76) Tryz.underlying139
 go_enter Tryz.func116, Tryz.ntmps116
 go_wp2
 go_ret
 exact ⟨rfl, rfl⟩
theorem qim (v : Value) (w : World) : Calls Tryz.prog 116 #[.iface 141 v] w fun e w' => e = .returned (.int .i64 9) ∧ w' = w := by
 have h0 := ta_no (T := 141) (X := 76) (by decide) Tryz.underlying124 qbc
 have h1 := ta_no (T := 141) (X := 76) (by decide) Tryz.underlying127 qbe
 have h2 := ta_no (T := 141) (X := 76) (by decide) Tryz.underlying129 qak
 have h3 := ta_no (T := 141) (X := 76) (by decide) Tryz.underlying134 qbo
 have h4 := ta_no (T := 141) (X := 76) (by decide) Tryz.underlying135 qbr
 have h5 := ta_no (T := 141) (X := 76) (by decide) Tryz.underlying136 qas
 have h6 := ta_no (T := 141) (X := 76) (by decide) Tryz.underlying137 qce
 have h7 := ta_no (T := 141) (X := 76) (by decide) Tryz.underlying139 qan
 have h8 := qeb (X := 76) Tryz.underlying141
 go_enter Tryz.func116, Tryz.ntmps116
 go_wp2
 go_ret
 exact ⟨rfl, rfl⟩
theorem qfb (v : Value) (w : World) : Calls Tryz.prog 116 #[.iface 143 v] w fun e w' => e = .returned (.int .i64 10) ∧ w' = w := by
 have h0 := ta_no (T := 143) (X := 76) (by decide) Tryz.underlying124 qbc
 have h1 := ta_no (T := 143) (X := 76) (by decide) Tryz.underlying127 qbe
 have h2 := ta_no (T := 143) (X := 76) (by decide) Tryz.underlying129 qak
 have h3 := ta_no (T := 143) (X := 76) (by decide) Tryz.underlying134 qbo
 have h4 := ta_no (T := 143) (X := 76) (by decide) Tryz.underlying135 qbr
 have h5 := ta_no (T := 143) (X := 76) (by decide) Tryz.underlying136 qas
 have h6 := ta_no (T := 143) (X := 76) (by decide) Tryz.underlying137 qce
 have h7 := ta_no (T := 143) (X := 76) (by decide) Tryz.underlying139 qan
 have h8 := ta_no (T := 143) (X := 76) (by decide) Tryz.underlying141 qdt
 have h9 := qeb (X := 76) Tryz.underlying143
 go_enter Tryz.func116, Tryz.ntmps116
 go_wp2
 go_ret
 exact ⟨rfl, rfl⟩
theorem qgt (v : Value) (w : World) : Calls Tryz.prog 116 #[.iface 144 v] w fun e w' => e = .returned (.int .i64 11) ∧ w' = w := by
 have h0 := ta_no (T := 144) (X := 76) (by decide) Tryz.underlying124 qbc
 have h1 := ta_no (T := 144) (X := 76) (by decide) Tryz.underlying127 qbe
 have h2 := ta_no (T := 144) (X := 76) (by decide) Tryz.underlying129 qak
 have h3 := ta_no (T := 144) (X := 76) (by decide) Tryz.underlying134 qbo
 have h4 := ta_no (T := 144) (X := 76) (by decide) Tryz.underlying135 qbr
 have h5 := ta_no (T := 144) (X := 76) (by decide) Tryz.underlying136 qas
 have h6 := ta_no (T := 144) (X := 76) (by decide) Tryz.underlying137 qce
 have h7 := ta_no (T := 144) (X := 76) (by decide) Tryz.underlying139 qan
 have h8 := ta_no (T := 144) (X := 76) (by decide) Tryz.underlying141 qdt
 have h9 := ta_no (T := 144) (X := 76) (by decide) Tryz.underlying143 qam
 have h10 := qeb (X := 76) Tryz.underlying144
 go_enter Tryz.func116, Tryz.ntmps116
 go_wp2
 go_ret
 exact ⟨rfl, rfl⟩
theorem qhr (v : Value) (w : World) : Calls Tryz.prog 116 #[.iface 148 v] w fun e w' => e = .returned (.int .i64 12) ∧ w' = w := by
 have h0 := ta_no (T := 148) (X := 76) (by decide) Tryz.underlying124 qbc
 have h1 := ta_no (T := 148) (X := 76) (by decide) Tryz.underlying127 qbe
 have h2 := ta_no (T := 148) (X := 76) (by decide) Tryz.underlying129 qak
 have h3 := ta_no (T := 148) (X := 76) (by decide) Tryz.underlying134 qbo
 have h4 := ta_no (T := 148) (X := 76) (by decide) Tryz.underlying135 qbr
 have h5 := ta_no (T := 148) (X := 76) (by decide) Tryz.underlying136 qas
 have h6 := ta_no (T := 148) (X := 76) (by decide) Tryz.underlying137 qce
 have h7 := ta_no (T := 148) (X := 76) (by decide) Tryz.underlying139 qan
 have h8 := ta_no (T := 148) (X := 76) (by decide) Tryz.underlying141 qdt
 have h9 := ta_no (T := 148) (X := 76) (by decide) Tryz.underlying143 qam
 have h10 := ta_no (T := 148) (X := 76) (by decide) Tryz.underlying144 qfg
 have h11 := qeb (X := 76) Tryz.underlying148
 go_enter Tryz.func116, Tryz.ntmps116
 go_wp2
 go_ret
 exact ⟨rfl, rfl⟩
theorem qgs (v : Value) (w : World) : Calls Tryz.prog 116 #[.iface 149 v] w fun e w' => e = .returned (.int .i64 13) ∧ w' = w := by
 have h0 := ta_no (T := 149) (X := 76) (by decide) Tryz.underlying124 qbc
 have h1 := ta_no (T := 149) (X := 76) (by decide) Tryz.underlying127 qbe
 have h2 := ta_no (T := 149) (X := 76) (by decide) Tryz.underlying129 qak
 have h3 := ta_no (T := 149) (X := 76) (by decide) Tryz.underlying134 qbo
 have h4 := ta_no (T := 149) (X := 76) (by decide) Tryz.underlying135 qbr
 have h5 := ta_no (T := 149) (X := 76) (by decide) Tryz.underlying136 qas
 have h6 := ta_no (T := 149) (X := 76) (by decide) Tryz.underlying137 qce
 have h7 := ta_no (T := 149) (X := 76) (by decide) Tryz.underlying139 qan
 have h8 := ta_no (T := 149) (X := 76) (by decide) Tryz.underlying141 qdt
 have h9 := ta_no (T := 149) (X := 76) (by decide) Tryz.underlying143 qam
 have h10 := ta_no (T := 149) (X := 76) (by decide) Tryz.underlying144 qfg
 have h11 := ta_no (T := 149) (X := 76) (by decide) Tryz.underlying148 qiz
 have h12 := qeb (X := 76) Tryz.underlying149
 go_enter Tryz.func116, Tryz.ntmps116
 go_wp2
 go_ret
 exact ⟨rfl, rfl⟩
theorem qfp (v : Value) (w : World) : Calls Tryz.prog 116 #[.iface 150 v] w fun e w' => e = .returned (.int .i64 14) ∧ w' = w := by
 have h0 := ta_no (T := 150) (X := 76) (by decide) Tryz.underlying124 qbc
 have h1 := ta_no (T := 150) (X := 76) (by decide) Tryz.underlying127 qbe
 have h2 := ta_no (T := 150) (X := 76) (by decide) Tryz.underlying129 qak
 have h3 := ta_no (T := 150) (X := 76) (by decide) Tryz.underlying134 qbo
 have h4 := ta_no (T := 150) (X := 76) (by decide) Tryz.underlying135 qbr
 have h5 := ta_no (T := 150) (X := 76) (by decide) Tryz.underlying136 qas
 have h6 := ta_no (T := 150) (X := 76) (by decide) Tryz.underlying137 qce
 have h7 := ta_no (T := 150) (X := 76) (by decide) Tryz.underlying139 qan
 have h8 := ta_no (T := 150) (X := 76) (by decide) Tryz.underlying141 qdt
 have h9 := ta_no (T := 150) (X := 76) (by decide) Tryz.underlying143 qam
 have h10 := ta_no (T := 150) (X := 76) (by decide) Tryz.underlying144 qfg
 have h11 := ta_no (T := 150) (X := 76) (by decide) Tryz.underlying148 qiz
 have h12 := ta_no (T := 150) (X := 76) (by decide) Tryz.underlying149 qmu
 have h13 := qeb (X := 76) Tryz.underlying150
 go_enter Tryz.func116, Tryz.ntmps116
 go_wp2
 go_ret
 exact ⟨rfl, rfl⟩
theorem qnc (v : Value) (w : World) : Calls Tryz.prog 117 #[.iface 124 v] w fun e w' => e = .returned (.int .i64 0) ∧ w' = w := by
 have h0 := ta_no (T := 124) (X := 76) (by decide) Tryz.underlying129 qak
 have h1 := ta_no (T := 124) (X := 76) (by decide) Tryz.underlying136 qas
 have h2 := ta_no (T := 124) (X := 76) (by decide) Tryz.underlying139 qan
 have h3 := ta_no (T := 124) (X := 76) (by decide) Tryz.underlying143 qam
 go_enter Tryz.func117, Tryz.ntmps117
 go_wp2
 go_ret
 exact ⟨rfl, rfl⟩
theorem qnb (v : Value) (w : World) : Calls Tryz.prog 117 #[.iface 127 v] w fun e w' => e = .returned (.int .i64 0) ∧ w' = w := by
 have h0 := ta_no (T := 127) (X := 76) (by decide) Tryz.underlying129 qak
 have h1 := ta_no (T := 127) (X := 76) (by decide) Tryz.underlying136 qas
 have h2 := ta_no (T := 127) (X := 76) (by decide) Tryz.underlying139 qan
 have h3 := ta_no (T := 127) (X := 76) (by decide) Tryz.underlying143 qam
 go_enter Tryz.func117, Tryz.ntmps117
 go_wp2
 go_ret
 exact ⟨rfl, rfl⟩
theorem qol (v : Value) (w : World) : Calls Tryz.prog 117 #[.iface 134 v] w fun e w' => e = .returned (.int .i64 0) ∧ w' = w := by
 have h0 := ta_no (T := 134) (X := 76) (by decide) Tryz.underlying129 qak
 have h1 := ta_no (T := 134) (X := 76) (by decide) Tryz.underlying136 qas
 have h2 := ta_no (T := 134) (X := 76) (by decide) Tryz.underlying139 qan
 have h3 := ta_no (T := 134) (X := 76) (by decide) Tryz.underlying143 qam
 go_enter Tryz.func117, Tryz.ntmps117
 go_wp2
 go_ret
 exact ⟨rfl, rfl⟩
theorem qom (v : Value) (w : World) : Calls Tryz.prog 117 #[.iface 135 v] w fun e w' => e = .returned (.int .i64 0) ∧ w' = w := by
 have h0 := ta_no (T := 135) (X := 76) (by decide) Tryz.underlying129 qak
 have h1 := ta_no (T := 135) (X := 76) (by decide) Tryz.underlying136 qas
 have h2 := ta_no (T := 135) (X := 76) (by decide) Tryz.underlying139 qan
 have h3 := ta_no (T := 135) (X := 76) (by decide) Tryz.underlying143 qam
 go_enter Tryz.func117, Tryz.ntmps117
 go_wp2
 go_ret
 exact ⟨rfl, rfl⟩
theorem qon (v : Value) (w : World) : Calls Tryz.prog 117 #[.iface 136 v] w fun e w' => e = .returned (.int .i64 2) ∧ w' = w := by
 have h0 := ta_no (T := 136) (X := 76) (by decide) Tryz.underlying129 qak
 have h1 := qeb (X := 76) Tryz.underlying136
 have h2 := ta_no (T := 136) (X := 76) (by decide) Tryz.underlying139 qan
 have h3 := ta_no (T := 136) (X := 76) (by decide) Tryz.underlying143 qam
 go_enter Tryz.func117, Tryz.ntmps117
 go_wp2
 go_ret
 exact ⟨rfl, rfl⟩
theorem qne (v : Value) (w : World) : Calls Tryz.prog 117 #[.iface 137 v] w fun e w' => e = .returned (.int .i64 0) ∧ w' = w := by
 have h0 := ta_no (T := 137) (X := 76) (by decide) Tryz.underlying129 qak
 have h1 := ta_no (T := 137) (X := 76) (by decide) Tryz.underlying136 qas
 have h2 := ta_no (T := 137) (X := 76) (by decide) Tryz.underlying139 qan
 have h3 := ta_no (T := 137) (X := 76) (by decide) Tryz.underlying143 qam
 go_enter Tryz.func117, Tryz.ntmps117
 go_wp2
 go_ret
 exact ⟨rfl, rfl⟩
theorem qko (v : Value) (w : World) : Calls Tryz.prog 117 #[.iface 139 v] w fun e w' => e = .returned (.int .i64 2) ∧ w' = w := by
 have h0 := ta_no (T := 139) (X := 76) (by decide) Tryz.underlying129 qak
 have h1 := ta_no (T := 139) (X := 76) (by decide) Tryz.underlying136 qas
 have h2 := qeb (X := 76) Tryz.underlying139
 have h3 := ta_no (T := 139) (X := 76) (by decide) Tryz.underlying143 qam
 go_enter Tryz.func117, Tryz.ntmps117
 go_wp2
 go_ret
 exact ⟨rfl, rfl⟩
theorem qoo (v : Value) (w : World) : Calls Tryz.prog 117 #[.iface 141 v] w fun e w' => e = .returned (.int .i64 0) ∧ w' = w := by
 have h0 := ta_no (T := 141) (X := 76) (by decide) Tryz.underlying129 qak
 have h1 := ta_no (T := 141) (X := 76) (by decide) Tryz.underlying136 qas
 have h2 := ta_no (T := 141) (X := 76) (by decide) Tryz.underlying139 qan
 have h3 := ta_no (T := 141) (X := 76) (by decide) Tryz.underlying143 qam
 go_enter Tryz.func117, Tryz.ntmps117
 go_wp2
 go_ret
 exact ⟨rfl, rfl⟩
theorem qjf (v : Value) (w : World) : Calls Tryz.prog 117 #[.iface 143 v] w fun e w' => e = .returned (.int .i64 2) ∧ w' = w := by
 have h0 := ta_no (T := 143) (X := 76) (by decide) Tryz.underlying129 qak
 have h1 := ta_no (T := 143) (X := 76) (by decide) Tryz.underlying136 qas
 have h2 := ta_no (T := 143) (X := 76) (by decide) Tryz.underlying139 qan
 have h3 := qeb (X := 76) Tryz.underlying143
 go_enter Tryz.func117, Tryz.ntmps117
 go_wp2
 go_ret
 exact ⟨rfl, rfl⟩
theorem qlv (v : Value) (w : World) : Calls Tryz.prog 117 #[.iface 144 v] w fun e w' => e = .returned (.int .i64 0) ∧ w' = w := by
 have h0 := ta_no (T := 144) (X := 76) (by decide) Tryz.underlying129 qak
 have h1 := ta_no (T := 144) (X := 76) (by decide) Tryz.underlying136 qas
 have h2 := ta_no (T := 144) (X := 76) (by decide) Tryz.underlying139 qan
 have h3 := ta_no (T := 144) (X := 76) (by decide) Tryz.underlying143 qam
 go_enter Tryz.func117, Tryz.ntmps117
 go_wp2
 go_ret
 exact ⟨rfl, rfl⟩
theorem qnd (v : Value) (w : World) : Calls Tryz.prog 117 #[.iface 148 v] w fun e w' => e = .returned (.int .i64 0) ∧ w' = w := by
 have h0 := ta_no (T := 148) (X := 76) (by decide) Tryz.underlying129 qak
 have h1 := ta_no (T := 148) (X := 76) (by decide) Tryz.underlying136 qas
 have h2 := ta_no (T := 148) (X := 76) (by decide) Tryz.underlying139 qan
 have h3 := ta_no (T := 148) (X := 76) (by decide) Tryz.underlying143 qam
 go_enter Tryz.func117, Tryz.ntmps117
 go_wp2
 go_ret
 exact ⟨rfl, rfl⟩
theorem qlu (v : Value) (w : World) : Calls Tryz.prog 117 #[.iface 149 v] w fun e w' => e = .returned (.int .i64 0) ∧ w' = w := by
 have h0 := ta_no (T := 149) (X := 76) (by decide) Tryz.underlying129 qak
 have h1 := ta_no (T := 149) (X := 76) (by decide) Tryz.underlying136 qas
 have h2 := ta_no (T := 149) (X := 76) (by decide) Tryz.underlying139 qan
 have h3 := ta_no (T := 149) (X := 76) (by decide) Tryz.underlying143 qam
 go_enter Tryz.func117, Tryz.ntmps117
 go_wp2
 go_ret
 exact ⟨rfl, rfl⟩
theorem qjr (v : Value) (w : World) : Calls Tryz.prog 117 #[.iface 150 v] w fun e w' => e = .returned (.int .i64 0) ∧ w' = w := by
 have h0 := ta_no (T := 150) (X := 76) (by decide) Tryz.underlying129 qak
 have h1 := ta_no (T := 150) (X := 76) (by decide) Tryz.underlying136 qas
 have h2 := ta_no (T := 150) (X := 76) (by decide) Tryz.underlying139 qan
 have h3 := ta_no (T := 150) (X := 76) (by decide) Tryz.underlying143 qam
 go_enter Tryz.func117, Tryz.ntmps117
 go_wp2
 go_ret
 exact ⟨rfl, rfl⟩
end Go.Proofs.YtccjiicjlifmiaaGreatDoor
