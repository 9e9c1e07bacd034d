/- Lemmas. -/
import Derived.Test.YtobgmpaalnpdcaaGreatDoorV07
set_option linter.unusedVariables false
set_option linter.unusedSimpArgs false
set_option maxRecDepth 100000
set_option maxHeartbeats 20000000
namespace Go.Proofs.YtobgmpaalnpdcaaGreatDoor
open Go.RowKit

def zv (P:Program) (t:TypeId):Value:=((P.info? t).bind (fun i=>i.zero)).getD undef
theorem zero_run (P:Program) (t:TypeId) (h:((P.info? t).bind (fun i=>i.zero)).isSome=true) (w:World):(zeroValue t).run P w=.ok (zv P t) w:=by
 unfold zv;cases hi:P.info? t with
 |none=>simp[hi] at h
 |some i=>
  cases hz:i.zero with
  |none=>simp[hi,hz] at h
  |some z=>simp[zeroValue,typeInfo,hi,hz,Sem.run_bind]
theorem ta_no {P:Program} {T U X:TypeId} {fs:Array Field} (hne:T≠U) (hu:P.underlying U=some (.struct fs)) (hz:((P.info? U).bind (fun i=>i.zero)).isSome=true) (v:Value) (w:World) :
  (Instr.typeAssert (.iface T v) X U true).run P w=.ok (.tuple #[zv P U,.bool false]) w:=by
 simp[Instr.typeAssert,Sem.run_bind,run_underlying hu,hne,zero_run P U hz]
theorem qeb {P:Program} {U X:TypeId} {fs:Array Field} (hu:P.underlying U=some (.struct fs)) (v:Value) (w:World) :
  (Instr.typeAssert (.iface U v) X U true).run P w=.ok (.tuple #[v,.bool true]) w:=by
 simp[Instr.typeAssert,Sem.run_bind,run_underlying hu]
theorem qav:((Tryz.prog.info? 124).bind (fun i=>i.zero)).isSome=true:=by kernel_rfl
theorem qay:((Tryz.prog.info? 127).bind (fun i=>i.zero)).isSome=true:=by kernel_rfl
theorem qaj:((Tryz.prog.info? 129).bind (fun i=>i.zero)).isSome=true:=by kernel_rfl
theorem qbj:((Tryz.prog.info? 134).bind (fun i=>i.zero)).isSome=true:=by kernel_rfl
theorem qbn:((Tryz.prog.info? 135).bind (fun i=>i.zero)).isSome=true:=by kernel_rfl
theorem qap:((Tryz.prog.info? 136).bind (fun i=>i.zero)).isSome=true:=by kernel_rfl
theorem qcc:((Tryz.prog.info? 137).bind (fun i=>i.zero)).isSome=true:=by kernel_rfl
theorem qam:((Tryz.prog.info? 139).bind (fun i=>i.zero)).isSome=true:=by kernel_rfl
theorem qdt:((Tryz.prog.info? 141).bind (fun i=>i.zero)).isSome=true:=by kernel_rfl
theorem qal:((Tryz.prog.info? 143).bind (fun i=>i.zero)).isSome=true:=by kernel_rfl
theorem qfm:((Tryz.prog.info? 144).bind (fun i=>i.zero)).isSome=true:=by kernel_rfl
theorem qjm:((Tryz.prog.info? 148).bind (fun i=>i.zero)).isSome=true:=by kernel_rfl
theorem qnu:((Tryz.prog.info? 149).bind (fun i=>i.zero)).isSome=true:=by kernel_rfl
theorem qib (v:Value) (w:World):Calls Tryz.prog 116 #[.iface 124 v] w fun e w'=>e=.returned (.int .i64 1)∧w'=w:=by
 have h0:=qeb (X:=76) Tryz.underlying124;go_enter Tryz.func116,Tryz.ntmps116;go_wp2;go_ret;exact⟨rfl,rfl⟩
theorem qia (v:Value) (w:World):Calls Tryz.prog 116 #[.iface 127 v] w fun e w'=>e=.returned (.int .i64 2)∧w'=w:=by
 have h0:=ta_no (T:=127) (X:=76) (by decide) Tryz.underlying124 qav;have h1:=qeb (X:=76) Tryz.underlying127;go_enter Tryz.func116,Tryz.ntmps116;go_wp2;go_ret;exact⟨rfl,rfl⟩
theorem qff (v:Value) (w:World):Calls Tryz.prog 116 #[.iface 129 v] w fun e w'=>e=.returned (.int .i64 3)∧w'=w:=by
 have h0:=ta_no (T:=129) (X:=76) (by decide) Tryz.underlying124 qav;have h1:=ta_no (T:=129) (X:=76) (by decide) Tryz.underlying127 qay;have h2:=qeb (X:=76) Tryz.underlying129;go_enter Tryz.func116,Tryz.ntmps116;go_wp2;go_ret;exact⟨rfl,rfl⟩
theorem qiu (v:Value) (w:World):Calls Tryz.prog 116 #[.iface 134 v] w fun e w'=>e=.returned (.int .i64 4)∧w'=w:=by
 have h0:=ta_no (T:=134) (X:=76) (by decide) Tryz.underlying124 qav;have h1:=ta_no (T:=134) (X:=76) (by decide) Tryz.underlying127 qay;have h2:=ta_no (T:=134) (X:=76) (by decide) Tryz.underlying129 qaj;have h3:=qeb (X:=76) Tryz.underlying134;go_enter Tryz.func116,Tryz.ntmps116;go_wp2;go_ret;exact⟨rfl,rfl⟩
theorem qiv (v:Value) (w:World):Calls Tryz.prog 116 #[.iface 135 v] w fun e w'=>e=.returned (.int .i64 5)∧w'=w:=by
 have h0:=ta_no (T:=135) (X:=76) (by decide) Tryz.underlying124 qav;have h1:=ta_no (T:=135) (X:=76) (by decide) Tryz.underlying127 qay;have h2:=ta_no (T:=135) (X:=76) (by decide) Tryz.underlying129 qaj;have h3:=ta_no (T:=135) (X:=76) (by decide) Tryz.underlying134 qbj;have h4:=qeb (X:=76) Tryz.underlying135;go_enter Tryz.func116,Tryz.ntmps116;go_wp2;go_ret;exact⟨rfl,rfl⟩
theorem qiw (v:Value) (w:World):Calls Tryz.prog 116 #[.iface 136 v] w fun e w'=>e=.returned (.int .i64 6)∧w'=w:=by
 have h0:=ta_no (T:=136) (X:=76) (by decide) Tryz.underlying124 qav;have h1:=ta_no (T:=136) (X:=76) (by decide) Tryz.underlying127 qay;have h2:=ta_no (T:=136) (X:=76) (by decide) Tryz.underlying129 qaj;have h3:=ta_no (T:=136) (X:=76) (by decide) Tryz.underlying134 qbj;have h4:=ta_no (T:=136) (X:=76) (by decide) Tryz.underlying135 qbn;have h5:=qeb (X:=76) Tryz.underlying136;go_enter Tryz.func116,Tryz.ntmps116;go_wp2;go_ret;exact⟨rfl,rfl⟩
theorem qid (v:Value) (w:World):Calls Tryz.prog 116 #[.iface 137 v] w fun e w'=>e=.returned (.int .i64 7)∧w'=w:=by
 have h0:=ta_no (T:=137) (X:=76) (by decide) Tryz.underlying124 qav;have h1:=ta_no (T:=137) (X:=76) (by decide) Tryz.underlying127 qay;have h2:=ta_no (T:=137) (X:=76) (by decide) Tryz.underlying129 qaj;have h3:=ta_no (T:=137) (X:=76) (by decide) Tryz.underlying134 qbj;have h4:=ta_no (T:=137) (X:=76) (by decide) Tryz.underlying135 qbn;have h5:=ta_no (T:=137) (X:=76) (by decide) Tryz.underlying136 qap;have h6:=qeb (X:=76) Tryz.underlying137;go_enter Tryz.func116,Tryz.ntmps116;go_wp2;go_ret;exact⟨rfl,rfl⟩
theorem qgd (v:Value) (w:World):Calls Tryz.prog 116 #[.iface 139 v] w fun e w'=>e=.returned (.int .i64 8)∧w'=w:=by
 have h0:=ta_no (T:=139) (X:=76) (by decide) Tryz.underlying124 qav;have h1:=ta_no (T:=139) (X:=76) (by decide) Tryz.underlying127 qay;have h2:=ta_no (T:=139) (X:=76) (by decide) Tryz.underlying129 qaj;have h3:=ta_no (T:=139) (X:=76) (by decide) Tryz.underlying134 qbj;have h4:=ta_no (T:=139) (X:=76) (by decide) Tryz.underlying135 qbn;have h5:=ta_no (T:=139) (X:=76) (by decide) Tryz.underlying136 qap;have h6:=ta_no (T:=139) (X:=76) (by decide) Tryz.underlying137 qcc;have h7:=qeb (X:=76) Tryz.underlying139;go_enter Tryz.func116,Tryz.ntmps116;go_wp2;go_ret;exact⟨rfl,rfl⟩
theorem qix (v:Value) (w:World):Calls Tryz.prog 116 #[.iface 141 v] w fun e w'=>e=.returned (.int .i64 9)∧w'=w:=by
 have h0:=ta_no (T:=141) (X:=76) (by decide) Tryz.underlying124 qav;have h1:=ta_no (T:=141) (X:=76) (by decide) Tryz.underlying127 qay;have h2:=ta_no (T:=141) (X:=76) (by decide) Tryz.underlying129 qaj;have h3:=ta_no (T:=141) (X:=76) (by decide) Tryz.underlying134 qbj;have h4:=ta_no (T:=141) (X:=76) (by decide) Tryz.underlying135 qbn;have h5:=ta_no (T:=141) (X:=76) (by decide) Tryz.underlying136 qap;have h6:=ta_no (T:=141) (X:=76) (by decide) Tryz.underlying137 qcc;have h7:=ta_no (T:=141) (X:=76) (by decide) Tryz.underlying139 qam;have h8:=qeb (X:=76) Tryz.underlying141;go_enter Tryz.func116,Tryz.ntmps116;go_wp2;go_ret;exact⟨rfl,rfl⟩
theorem qfh (v:Value) (w:World):Calls Tryz.prog 116 #[.iface 143 v] w fun e w'=>e=.returned (.int .i64 10)∧w'=w:=by
 have h0:=ta_no (T:=143) (X:=76) (by decide) Tryz.underlying124 qav;have h1:=ta_no (T:=143) (X:=76) (by decide) Tryz.underlying127 qay;have h2:=ta_no (T:=143) (X:=76) (by decide) Tryz.underlying129 qaj;have h3:=ta_no (T:=143) (X:=76) (by decide) Tryz.underlying134 qbj;have h4:=ta_no (T:=143) (X:=76) (by decide) Tryz.underlying135 qbn;have h5:=ta_no (T:=143) (X:=76) (by decide) Tryz.underlying136 qap;have h6:=ta_no (T:=143) (X:=76) (by decide) Tryz.underlying137 qcc;have h7:=ta_no (T:=143) (X:=76) (by decide) Tryz.underlying139 qam;have h8:=ta_no (T:=143) (X:=76) (by decide) Tryz.underlying141 qdt;have h9:=qeb (X:=76) Tryz.underlying143;go_enter Tryz.func116,Tryz.ntmps116;go_wp2;go_ret;exact⟨rfl,rfl⟩
theorem qhd (v:Value) (w:World):Calls Tryz.prog 116 #[.iface 144 v] w fun e w'=>e=.returned (.int .i64 11)∧w'=w:=by
 have h0:=ta_no (T:=144) (X:=76) (by decide) Tryz.underlying124 qav;have h1:=ta_no (T:=144) (X:=76) (by decide) Tryz.underlying127 qay;have h2:=ta_no (T:=144) (X:=76) (by decide) Tryz.underlying129 qaj;have h3:=ta_no (T:=144) (X:=76) (by decide) Tryz.underlying134 qbj;have h4:=ta_no (T:=144) (X:=76) (by decide) Tryz.underlying135 qbn;have h5:=ta_no (T:=144) (X:=76) (by decide) Tryz.underlying136 qap;have h6:=ta_no (T:=144) (X:=76) (by decide) Tryz.underlying137 qcc;have h7:=ta_no (T:=144) (X:=76) (by decide) Tryz.underlying139 qam;have h8:=ta_no (T:=144) (X:=76) (by decide) Tryz.underlying141 qdt;have h9:=ta_no (T:=144) (X:=76) (by decide) Tryz.underlying143 qal;have h10:=qeb (X:=76) Tryz.underlying144;go_enter Tryz.func116,Tryz.ntmps116;go_wp2;go_ret;exact⟨rfl,rfl⟩
theorem qic (v:Value) (w:World):Calls Tryz.prog 116 #[.iface 148 v] w fun e w'=>e=.returned (.int .i64 12)∧w'=w:=by
 have h0:=ta_no (T:=148) (X:=76) (by decide) Tryz.underlying124 qav;have h1:=ta_no (T:=148) (X:=76) (by decide) Tryz.underlying127 qay;have h2:=ta_no (T:=148) (X:=76) (by decide) Tryz.underlying129 qaj;have h3:=ta_no (T:=148) (X:=76) (by decide) Tryz.underlying134 qbj;have h4:=ta_no (T:=148) (X:=76) (by decide) Tryz.underlying135 qbn;have h5:=ta_no (T:=148) (X:=76) (by decide) Tryz.underlying136 qap;have h6:=ta_no (T:=148) (X:=76) (by decide) Tryz.underlying137 qcc;have h7:=ta_no (T:=148) (X:=76) (by decide) Tryz.underlying139 qam;have h8:=ta_no (T:=148) (X:=76) (by decide) Tryz.underlying141 qdt;have h9:=ta_no (T:=148) (X:=76) (by decide) Tryz.underlying143 qal;have h10:=ta_no (T:=148) (X:=76) (by decide) Tryz.underlying144 qfm;have h11:=qeb (X:=76) Tryz.underlying148;go_enter Tryz.func116,Tryz.ntmps116;go_wp2;go_ret;exact⟨rfl,rfl⟩
theorem qhc (v:Value) (w:World):Calls Tryz.prog 116 #[.iface 149 v] w fun e w'=>e=.returned (.int .i64 13)∧w'=w:=by
 have h0:=ta_no (T:=149) (X:=76) (by decide) Tryz.underlying124 qav;have h1:=ta_no (T:=149) (X:=76) (by decide) Tryz.underlying127 qay;have h2:=ta_no (T:=149) (X:=76) (by decide) Tryz.underlying129 qaj;have h3:=ta_no (T:=149) (X:=76) (by decide) Tryz.underlying134 qbj;have h4:=ta_no (T:=149) (X:=76) (by decide) Tryz.underlying135 qbn;have h5:=ta_no (T:=149) (X:=76) (by decide) Tryz.underlying136 qap;have h6:=ta_no (T:=149) (X:=76) (by decide) Tryz.underlying137 qcc;have h7:=ta_no (T:=149) (X:=76) (by decide) Tryz.underlying139 qam;have h8:=ta_no (T:=149) (X:=76) (by decide) Tryz.underlying141 qdt;have h9:=ta_no (T:=149) (X:=76) (by decide) Tryz.underlying143 qal;have h10:=ta_no (T:=149) (X:=76) (by decide) Tryz.underlying144 qfm;have h11:=ta_no (T:=149) (X:=76) (by decide) Tryz.underlying148 qjm;have h12:=qeb (X:=76) Tryz.underlying149;go_enter Tryz.func116,Tryz.ntmps116;go_wp2;go_ret;exact⟨rfl,rfl⟩
theorem qfu (v:Value) (w:World):Calls Tryz.prog 116 #[.iface 150 v] w fun e w'=>e=.returned (.int .i64 14)∧w'=w:=by
 have h0:=ta_no (T:=150) (X:=76) (by decide) Tryz.underlying124 qav;have h1:=ta_no (T:=150) (X:=76) (by decide) Tryz.underlying127 qay;have h2:=ta_no (T:=150) (X:=76) (by decide) Tryz.underlying129 qaj;have h3:=ta_no (T:=150) (X:=76) (by decide) Tryz.underlying134 qbj;have h4:=ta_no (T:=150) (X:=76) (by decide) Tryz.underlying135 qbn;have h5:=ta_no (T:=150) (X:=76) (by decide) Tryz.underlying136 qap;have h6:=ta_no (T:=150) (X:=76) (by decide) Tryz.underlying137 qcc;have h7:=ta_no (T:=150) (X:=76) (by decide) Tryz.underlying139 qam;have h8:=ta_no (T:=150) (X:=76) (by decide) Tryz.underlying141 qdt;have h9:=ta_no (T:=150) (X:=76) (by decide) Tryz.underlying143 qal;have h10:=ta_no (T:=150) (X:=76) (by decide) Tryz.underlying144 qfm;have h11:=ta_no (T:=150) (X:=76) (by decide) Tryz.underlying148 qjm;have h12:=ta_no (T:=150) (X:=76) (by decide) Tryz.underlying149 qnu;have h13:=qeb (X:=76) Tryz.underlying150;go_enter Tryz.func116,Tryz.ntmps116;go_wp2;go_ret;exact⟨rfl,rfl⟩
theorem qoc (v:Value) (w:World):Calls Tryz.prog 117 #[.iface 124 v] w fun e w'=>e=.returned (.int .i64 0)∧w'=w:=by
 have h0:=ta_no (T:=124) (X:=76) (by decide) Tryz.underlying129 qaj;have h1:=ta_no (T:=124) (X:=76) (by decide) Tryz.underlying136 qap;have h2:=ta_no (T:=124) (X:=76) (by decide) Tryz.underlying139 qam;have h3:=ta_no (T:=124) (X:=76) (by decide) Tryz.underlying143 qal;go_enter Tryz.func117,Tryz.ntmps117;go_wp2;go_ret;exact⟨rfl,rfl⟩
theorem qob (v:Value) (w:World):Calls Tryz.prog 117 #[.iface 127 v] w fun e w'=>e=.returned (.int .i64 0)∧w'=w:=by
 have h0:=ta_no (T:=127) (X:=76) (by decide) Tryz.underlying129 qaj;have h1:=ta_no (T:=127) (X:=76) (by decide) Tryz.underlying136 qap;have h2:=ta_no (T:=127) (X:=76) (by decide) Tryz.underlying139 qam;have h3:=ta_no (T:=127) (X:=76) (by decide) Tryz.underlying143 qal;go_enter Tryz.func117,Tryz.ntmps117;go_wp2;go_ret;exact⟨rfl,rfl⟩
theorem qpq (v:Value) (w:World):Calls Tryz.prog 117 #[.iface 134 v] w fun e w'=>e=.returned (.int .i64 0)∧w'=w:=by
 have h0:=ta_no (T:=134) (X:=76) (by decide) Tryz.underlying129 qaj;have h1:=ta_no (T:=134) (X:=76) (by decide) Tryz.underlying136 qap;have h2:=ta_no (T:=134) (X:=76) (by decide) Tryz.underlying139 qam;have h3:=ta_no (T:=134) (X:=76) (by decide) Tryz.underlying143 qal;go_enter Tryz.func117,Tryz.ntmps117;go_wp2;go_ret;exact⟨rfl,rfl⟩
theorem qpr (v:Value) (w:World):Calls Tryz.prog 117 #[.iface 135 v] w fun e w'=>e=.returned (.int .i64 0)∧w'=w:=by
 have h0:=ta_no (T:=135) (X:=76) (by decide) Tryz.underlying129 qaj;have h1:=ta_no (T:=135) (X:=76) (by decide) Tryz.underlying136 qap;have h2:=ta_no (T:=135) (X:=76) (by decide) Tryz.underlying139 qam;have h3:=ta_no (T:=135) (X:=76) (by decide) Tryz.underlying143 qal;go_enter Tryz.func117,Tryz.ntmps117;go_wp2;go_ret;exact⟨rfl,rfl⟩
theorem qps (v:Value) (w:World):Calls Tryz.prog 117 #[.iface 136 v] w fun e w'=>e=.returned (.int .i64 2)∧w'=w:=by
 have h0:=ta_no (T:=136) (X:=76) (by decide) Tryz.underlying129 qaj;have h1:=qeb (X:=76) Tryz.underlying136;have h2:=ta_no (T:=136) (X:=76) (by decide) Tryz.underlying139 qam;have h3:=ta_no (T:=136) (X:=76) (by decide) Tryz.underlying143 qal;go_enter Tryz.func117,Tryz.ntmps117;go_wp2;go_ret;exact⟨rfl,rfl⟩
theorem qoe (v:Value) (w:World):Calls Tryz.prog 117 #[.iface 137 v] w fun e w'=>e=.returned (.int .i64 0)∧w'=w:=by
 have h0:=ta_no (T:=137) (X:=76) (by decide) Tryz.underlying129 qaj;have h1:=ta_no (T:=137) (X:=76) (by decide) Tryz.underlying136 qap;have h2:=ta_no (T:=137) (X:=76) (by decide) Tryz.underlying139 qam;have h3:=ta_no (T:=137) (X:=76) (by decide) Tryz.underlying143 qal;go_enter Tryz.func117,Tryz.ntmps117;go_wp2;go_ret;exact⟨rfl,rfl⟩
theorem qll (v:Value) (w:World):Calls Tryz.prog 117 #[.iface 139 v] w fun e w'=>e=.returned (.int .i64 2)∧w'=w:=by
 have h0:=ta_no (T:=139) (X:=76) (by decide) Tryz.underlying129 qaj;have h1:=ta_no (T:=139) (X:=76) (by decide) Tryz.underlying136 qap;have h2:=qeb (X:=76) Tryz.underlying139;have h3:=ta_no (T:=139) (X:=76) (by decide) Tryz.underlying143 qal;go_enter Tryz.func117,Tryz.ntmps117;go_wp2;go_ret;exact⟨rfl,rfl⟩
theorem qpt (v:Value) (w:World):Calls Tryz.prog 117 #[.iface 141 v] w fun e w'=>e=.returned (.int .i64 0)∧w'=w:=by
 have h0:=ta_no (T:=141) (X:=76) (by decide) Tryz.underlying129 qaj;have h1:=ta_no (T:=141) (X:=76) (by decide) Tryz.underlying136 qap;have h2:=ta_no (T:=141) (X:=76) (by decide) Tryz.underlying139 qam;have h3:=ta_no (T:=141) (X:=76) (by decide) Tryz.underlying143 qal;go_enter Tryz.func117,Tryz.ntmps117;go_wp2;go_ret;exact⟨rfl,rfl⟩
theorem qju (v:Value) (w:World):Calls Tryz.prog 117 #[.iface 143 v] w fun e w'=>e=.returned (.int .i64 2)∧w'=w:=by
 have h0:=ta_no (T:=143) (X:=76) (by decide) Tryz.underlying129 qaj;have h1:=ta_no (T:=143) (X:=76) (by decide) Tryz.underlying136 qap;have h2:=ta_no (T:=143) (X:=76) (by decide) Tryz.underlying139 qam;have h3:=qeb (X:=76) Tryz.underlying143;go_enter Tryz.func117,Tryz.ntmps117;go_wp2;go_ret;exact⟨rfl,rfl⟩
theorem qmv (v:Value) (w:World):Calls Tryz.prog 117 #[.iface 144 v] w fun e w'=>e=.returned (.int .i64 0)∧w'=w:=by
 have h0:=ta_no (T:=144) (X:=76) (by decide) Tryz.underlying129 qaj;have h1:=ta_no (T:=144) (X:=76) (by decide) Tryz.underlying136 qap;have h2:=ta_no (T:=144) (X:=76) (by decide) Tryz.underlying139 qam;have h3:=ta_no (T:=144) (X:=76) (by decide) Tryz.underlying143 qal;go_enter Tryz.func117,Tryz.ntmps117;go_wp2;go_ret;exact⟨rfl,rfl⟩
theorem qod (v:Value) (w:World):Calls Tryz.prog 117 #[.iface 148 v] w fun e w'=>e=.returned (.int .i64 0)∧w'=w:=by
 have h0:=ta_no (T:=148) (X:=76) (by decide) Tryz.underlying129 qaj;have h1:=ta_no (T:=148) (X:=76) (by decide) Tryz.underlying136 qap;have h2:=ta_no (T:=148) (X:=76) (by decide) Tryz.underlying139 qam;have h3:=ta_no (T:=148) (X:=76) (by decide) Tryz.underlying143 qal;go_enter Tryz.func117,Tryz.ntmps117;go_wp2;go_ret;exact⟨rfl,rfl⟩
theorem qmu (v:Value) (w:World):Calls Tryz.prog 117 #[.iface 149 v] w fun e w'=>e=.returned (.int .i64 0)∧w'=w:=by
 have h0:=ta_no (T:=149) (X:=76) (by decide) Tryz.underlying129 qaj;have h1:=ta_no (T:=149) (X:=76) (by decide) Tryz.underlying136 qap;have h2:=ta_no (T:=149) (X:=76) (by decide) Tryz.underlying139 qam;have h3:=ta_no (T:=149) (X:=76) (by decide) Tryz.underlying143 qal;go_enter Tryz.func117,Tryz.ntmps117;go_wp2;go_ret;exact⟨rfl,rfl⟩
theorem qkh (v:Value) (w:World):Calls Tryz.prog 117 #[.iface 150 v] w fun e w'=>e=.returned (.int .i64 0)∧w'=w:=by
 have h0:=ta_no (T:=150) (X:=76) (by decide) Tryz.underlying129 qaj;have h1:=ta_no (T:=150) (X:=76) (by decide) Tryz.underlying136 qap;have h2:=ta_no (T:=150) (X:=76) (by decide) Tryz.underlying139 qam;have h3:=ta_no (T:=150) (X:=76) (by decide) Tryz.underlying143 qal;go_enter Tryz.func117,Tryz.ntmps117;go_wp2;go_ret;exact⟨rfl,rfl⟩

def pubC (dup:Bool) (qos:Int) (ret:Bool) (id:Int) (top:ByteArray) (b:Sl):Array Value:=#[.bool dup,.int .i64 qos,.bool ret,.int .i64 id,.string top,.slice b.a b.n b.c]
def conC (lev:Int) (cli:ByteArray) (cln:Bool) (kee:Int) (hw:Bool) (wt:ByteArray) (wb:Sl) (wq:Int) (wr:Bool) (hu:Bool) (us:ByteArray) (hp:Bool) (pa:Sl):Array Value :=
 #[.int .i64 lev,.string cli,.bool cln,.int .i64 kee,.bool hw,.string wt,.slice wb.a wb.n wb.c,.int .i64 wq,.bool wr,.bool hu,.string us,.bool hp,.slice pa.a pa.n pa.c]
def noSl:Sl:=⟨none,0,0⟩

theorem pub_of0 (p:Pk) (w:World) (h:¬0<p.qos) :
  Calls Tryz.prog 114 #[.agg p.cells] w fun e w'=>e=.returned (.agg (pubC false p.qos p.ret 0 p.top p.bod))∧Below w.heap.size w w':=by
 have a2:=p.c2;have a3:=p.c3;have a5:=p.c5;have a6:=p.c6;generalize p.cells=cs at *;unfold pubC;go_enter Tryz.func114,Tryz.ntmps114;go_wp2
 go_returns
 refine⟨rfl,?_⟩
 go_grown
theorem pub_of1 (p:Pk) (w:World) (h:0<p.qos) :
  Calls Tryz.prog 114 #[.agg p.cells] w fun e w'=>e=.returned (.agg (pubC p.dup p.qos p.ret p.id p.top p.bod))∧Below w.heap.size w w':=by
 have a1:=p.c1;have a2:=p.c2;have a3:=p.c3;have a4:=p.c4;have a5:=p.c5;have a6:=p.c6;generalize p.cells=cs at *;unfold pubC;go_enter Tryz.func114,Tryz.ntmps114;go_wp2
 go_region
 all_goals
  go_wp2
  go_returns
  refine⟨rfl,?_⟩
  go_grown
theorem con_nnn (p:Pk) (w:World) (h1:p.hw=false) (h2:p.hu=false) :
  Calls Tryz.prog 113 #[.agg p.cells] w fun e w'=>e=.returned (.agg (conC p.lev p.cli p.cln p.kee false ByteArray.empty noSl 0 false false ByteArray.empty false noSl))∧Below w.heap.size w w':=by
 have a7:=p.c7;have a8:=p.c8;have a9:=p.c9;have a10:=p.c10;have a11:=p.c11;have a16:=p.c16;rw[h1] at a11;rw[h2] at a16;clear h1 h2;generalize p.cells=cs at *;unfold conC;go_enter Tryz.func113,Tryz.ntmps113;go_wp2
 go_returns
 refine⟨rfl,?_⟩
 go_grown

theorem con_nun (p:Pk) (w:World) (h1:p.hw=false) (h2:p.hu=true) (h3:p.hp=false) :
  Calls Tryz.prog 113 #[.agg p.cells] w fun e w'=>e=.returned (.agg (conC p.lev p.cli p.cln p.kee false ByteArray.empty noSl 0 false true p.us false noSl))∧Below w.heap.size w w':=by
 have a7:=p.c7;have a8:=p.c8;have a9:=p.c9;have a10:=p.c10;have a11:=p.c11;have a16:=p.c16;have a17:=p.c17;have a18:=p.c18;rw[h1] at a11;rw[h2] at a16;rw[h3] at a18;clear h1 h2 h3;generalize p.cells=cs at *;unfold conC;go_enter Tryz.func113,Tryz.ntmps113;go_wp2
 go_region
 all_goals
  go_wp2
  go_returns
  refine⟨rfl,?_⟩
  go_grown

theorem con_nup (p:Pk) (w:World) (h1:p.hw=false) (h2:p.hu=true) (h3:p.hp=true) :
  Calls Tryz.prog 113 #[.agg p.cells] w fun e w'=>e=.returned (.agg (conC p.lev p.cli p.cln p.kee false ByteArray.empty noSl 0 false true p.us true p.pa))∧Below w.heap.size w w':=by
 have a7:=p.c7;have a8:=p.c8;have a9:=p.c9;have a10:=p.c10;have a11:=p.c11;have a16:=p.c16;have a17:=p.c17;have a18:=p.c18;have a19:=p.c19;rw[h1] at a11;rw[h2] at a16;rw[h3] at a18;clear h1 h2 h3;generalize p.cells=cs at *;unfold conC;go_enter Tryz.func113,Tryz.ntmps113;go_wp2
 go_region
 all_goals
  go_wp2
  go_returns
  refine⟨rfl,?_⟩
  go_grown

theorem con_wnn (p:Pk) (w:World) (h1:p.hw=true) (h2:p.hu=false) :
  Calls Tryz.prog 113 #[.agg p.cells] w fun e w'=>e=.returned (.agg (conC p.lev p.cli p.cln p.kee true p.wt p.wb p.wq p.wr false ByteArray.empty false noSl))∧Below w.heap.size w w':=by
 have a7:=p.c7;have a8:=p.c8;have a9:=p.c9;have a10:=p.c10;have a11:=p.c11;have a16:=p.c16;have a12:=p.c12;have a13:=p.c13;have a14:=p.c14;have a15:=p.c15;rw[h1] at a11;rw[h2] at a16;clear h1 h2;generalize p.cells=cs at *;unfold conC;go_enter Tryz.func113,Tryz.ntmps113;go_wp2
 go_returns
 refine⟨rfl,?_⟩
 go_grown

theorem con_wun (p:Pk) (w:World) (h1:p.hw=true) (h2:p.hu=true) (h3:p.hp=false) :
  Calls Tryz.prog 113 #[.agg p.cells] w fun e w'=>e=.returned (.agg (conC p.lev p.cli p.cln p.kee true p.wt p.wb p.wq p.wr true p.us false noSl))∧Below w.heap.size w w':=by
 have a7:=p.c7;have a8:=p.c8;have a9:=p.c9;have a10:=p.c10;have a11:=p.c11;have a16:=p.c16;have a12:=p.c12;have a13:=p.c13;have a14:=p.c14;have a15:=p.c15;have a17:=p.c17;have a18:=p.c18;rw[h1] at a11;rw[h2] at a16;rw[h3] at a18;clear h1 h2 h3;generalize p.cells=cs at *;unfold conC;go_enter Tryz.func113,Tryz.ntmps113;go_wp2
 go_region
 all_goals
  go_wp2
  go_returns
  refine⟨rfl,?_⟩
  go_grown

theorem con_wup (p:Pk) (w:World) (h1:p.hw=true) (h2:p.hu=true) (h3:p.hp=true) :
  Calls Tryz.prog 113 #[.agg p.cells] w fun e w'=>e=.returned (.agg (conC p.lev p.cli p.cln p.kee true p.wt p.wb p.wq p.wr true p.us true p.pa))∧Below w.heap.size w w':=by
 have a7:=p.c7;have a8:=p.c8;have a9:=p.c9;have a10:=p.c10;have a11:=p.c11;have a16:=p.c16;have a12:=p.c12;have a13:=p.c13;have a14:=p.c14;have a15:=p.c15;have a17:=p.c17;have a18:=p.c18;have a19:=p.c19;rw[h1] at a11;rw[h2] at a16;rw[h3] at a18;clear h1 h2 h3;generalize p.cells=cs at *;unfold conC;go_enter Tryz.func113,Tryz.ntmps113;go_wp2
 go_region
 all_goals
  go_wp2
  go_returns
  refine⟨rfl,?_⟩
  go_grown
def conOf (p:Pk):Array Value:=conC p.lev p.cli p.cln p.kee p.hw (if p.hw then p.wt else ByteArray.empty) (if p.hw then p.wb else noSl) (if p.hw then p.wq else 0) (if p.hw then p.wr else false) p.hu (if p.hu then p.us else ByteArray.empty) (p.hu&&p.hp) (if p.hu&&p.hp then p.pa else noSl)
theorem con_of (p:Pk) (w:World):Calls Tryz.prog 113 #[.agg p.cells] w fun e w'=>e=.returned (.agg (conOf p))∧Below w.heap.size w w':=by
 unfold conOf;cases h1:p.hw<;>cases h2:p.hu<;>cases h3:p.hp
 ·exact con_nnn p w h1 h2
 ·exact con_nnn p w h1 h2
 ·exact con_nun p w h1 h2 h3
 ·exact con_nup p w h1 h2 h3
 ·exact con_wnn p w h1 h2
 ·exact con_wnn p w h1 h2
 ·exact con_wun p w h1 h2 h3
 ·exact con_wup p w h1 h2 h3
def pubOf (p:Pk):Array Value:=pubC (if 0<p.qos then p.dup else false) p.qos p.ret (if 0<p.qos then p.id else 0) p.top p.bod
theorem pub_of (p:Pk) (w:World):Calls Tryz.prog 114 #[.agg p.cells] w fun e w'=>e=.returned (.agg (pubOf p))∧Below w.heap.size w w':=by
 unfold pubOf
 by_cases h:0<p.qos
 ·rw[if_pos h,if_pos h];exact pub_of1 p w h
 ·rw[if_neg h,if_neg h];exact pub_of0 p w h

theorem qfb (p:Pk) (w:World) (ht:p.ty=1):Calls Tryz.prog 63 #[.agg p.cells] w fun e w'=>e=.returned (.iface 124 (.agg (conOf p)))∧Below w.heap.size w w':=by
 have a0:=p.c0;rw[ht] at a0;clear ht;have hb:Below w.heap.size w (w.alloc (.cells p.cells 28)):=bel_new _ _;have A:Blk (w.alloc (.cells p.cells 28)) w.heap.size p:=heap_alloc_new _ _;go_enter Tryz.func63,Tryz.ntmps63;go_wp2_with (first | refine load_pk A rfl _ rfl rfl ?_ | fail)
 refine (con_of p _).mono ?_;rintro e w2 ⟨rfl,hb2⟩;go_wp2;go_ret;exact⟨rfl,bel hb hb2⟩
theorem ret_ack {n:Int} {a b:Bool} (h:a=b):Ending.returned (.iface 127 (.agg #[.int .i64 n,.bool a]))=.returned (.iface 127 (.agg #[.int .i64 n,.bool b])):=by rw[h]
theorem qfa (p:Pk) (w:World) (ht:p.ty=2):Calls Tryz.prog 63 #[.agg p.cells] w fun e w'=>e=.returned (.iface 127 (.agg #[.int .i64 p.cod,.bool (p.pre&&decide (p.cod=0))]))∧Below w.heap.size w w':=by
 have a0:=p.c0;rw[ht] at a0;have a20:=p.c20;have a21:=p.c21;clear ht;generalize p.cells=cs at *;cases hp:p.pre
 ·rw[hp] at a21;clear hp;go_enter Tryz.func63,Tryz.ntmps63;go_wp2;go_ret;exact⟨rfl,bel_new _ _⟩
 ·rw[hp] at a21;clear hp;go_enter Tryz.func63,Tryz.ntmps63;go_wp2;go_ret;exact⟨ret_ack (by rw[Bool.eq_iff_iff];simp),bel_new _ _⟩
theorem qfe (p:Pk) (w:World) (ht:p.ty=3):Calls Tryz.prog 63 #[.agg p.cells] w fun e w'=>e=.returned (.iface 129 (.agg (pubOf p)))∧Below w.heap.size w w':=by
 have a0:=p.c0;rw[ht] at a0;clear ht;have hb:Below w.heap.size w (w.alloc (.cells p.cells 28)):=bel_new _ _;have A:Blk (w.alloc (.cells p.cells 28)) w.heap.size p:=heap_alloc_new _ _;go_enter Tryz.func63,Tryz.ntmps63;go_wp2_with (first | refine load_pk A rfl _ rfl rfl ?_ | fail)
 refine (pub_of p _).mono ?_;rintro e w2 ⟨rfl,hb2⟩;go_wp2;go_ret;exact⟨rfl,bel hb hb2⟩
theorem qfn (p:Pk) (w:World) (ht:p.ty=4):Calls Tryz.prog 63 #[.agg p.cells] w fun e w'=>e=.returned (.iface 134 (.agg #[.int .i64 p.id]))∧Below w.heap.size w w':=by
 have a0:=p.c0;rw[ht] at a0;have a4:=p.c4;clear ht;generalize p.cells=cs at *;go_enter Tryz.func63,Tryz.ntmps63;go_wp2;go_ret;exact⟨rfl,bel_new _ _⟩
theorem qfo (p:Pk) (w:World) (ht:p.ty=5):Calls Tryz.prog 63 #[.agg p.cells] w fun e w'=>e=.returned (.iface 135 (.agg #[.int .i64 p.id]))∧Below w.heap.size w w':=by
 have a0:=p.c0;rw[ht] at a0;have a4:=p.c4;clear ht;generalize p.cells=cs at *;go_enter Tryz.func63,Tryz.ntmps63;go_wp2;go_ret;exact⟨rfl,bel_new _ _⟩
theorem qfp (p:Pk) (w:World) (ht:p.ty=6):Calls Tryz.prog 63 #[.agg p.cells] w fun e w'=>e=.returned (.iface 136 (.agg #[.int .i64 p.id]))∧Below w.heap.size w w':=by
 have a0:=p.c0;rw[ht] at a0;have a4:=p.c4;clear ht;generalize p.cells=cs at *;go_enter Tryz.func63,Tryz.ntmps63;go_wp2;go_ret;exact⟨rfl,bel_new _ _⟩
theorem qfd (p:Pk) (w:World) (ht:p.ty=7):Calls Tryz.prog 63 #[.agg p.cells] w fun e w'=>e=.returned (.iface 137 (.agg #[.int .i64 p.id]))∧Below w.heap.size w w':=by
 have a0:=p.c0;rw[ht] at a0;have a4:=p.c4;clear ht;generalize p.cells=cs at *;go_enter Tryz.func63,Tryz.ntmps63;go_wp2;go_ret;exact⟨rfl,bel_new _ _⟩
theorem qdu (p:Pk) (w:World) (ht:p.ty=8):Calls Tryz.prog 63 #[.agg p.cells] w fun e w'=>e=.returned (.iface 139 (.agg #[.int .i64 p.id,.slice p.wan.a p.wan.n p.wan.c]))∧Below w.heap.size w w':=by
 have a0:=p.c0;rw[ht] at a0;have a4:=p.c4;have a22:=p.c22;clear ht;generalize p.cells=cs at *;go_enter Tryz.func63,Tryz.ntmps63;go_wp2;go_ret;exact⟨rfl,bel_new _ _⟩
theorem qfq (p:Pk) (w:World) (ht:p.ty=9):Calls Tryz.prog 63 #[.agg p.cells] w fun e w'=>e=.returned (.iface 141 (.agg #[.int .i64 p.id,.slice p.cds.a p.cds.n p.cds.c]))∧Below w.heap.size w w':=by
 have a0:=p.c0;rw[ht] at a0;have a4:=p.c4;have a24:=p.c24;clear ht;generalize p.cells=cs at *;go_enter Tryz.func63,Tryz.ntmps63;go_wp2;go_ret;exact⟨rfl,bel_new _ _⟩
theorem qdc (p:Pk) (w:World) (ht:p.ty=10):Calls Tryz.prog 63 #[.agg p.cells] w fun e w'=>e=.returned (.iface 143 (.agg #[.int .i64 p.id,.slice p.nam.a p.nam.n p.nam.c]))∧Below w.heap.size w w':=by
 have a0:=p.c0;rw[ht] at a0;have a4:=p.c4;have a23:=p.c23;clear ht;generalize p.cells=cs at *;go_enter Tryz.func63,Tryz.ntmps63;go_wp2;go_ret;exact⟨rfl,bel_new _ _⟩
theorem qej (p:Pk) (w:World) (ht:p.ty=11):Calls Tryz.prog 63 #[.agg p.cells] w fun e w'=>e=.returned (.iface 144 (.agg #[.int .i64 p.id]))∧Below w.heap.size w w':=by
 have a0:=p.c0;rw[ht] at a0;have a4:=p.c4;clear ht;generalize p.cells=cs at *;go_enter Tryz.func63,Tryz.ntmps63;go_wp2;go_ret;exact⟨rfl,bel_new _ _⟩
theorem qfc (p:Pk) (w:World) (ht:p.ty=12):Calls Tryz.prog 63 #[.agg p.cells] w fun e w'=>e=.returned (.iface 148 (.agg #[]))∧Below w.heap.size w w':=by
 have a0:=p.c0;rw[ht] at a0;clear ht;generalize p.cells=cs at *;go_enter Tryz.func63,Tryz.ntmps63;go_wp2;go_ret;exact⟨rfl,bel_new _ _⟩
theorem qei (p:Pk) (w:World) (ht:p.ty=13):Calls Tryz.prog 63 #[.agg p.cells] w fun e w'=>e=.returned (.iface 149 (.agg #[]))∧Below w.heap.size w w':=by
 have a0:=p.c0;rw[ht] at a0;clear ht;generalize p.cells=cs at *;go_enter Tryz.func63,Tryz.ntmps63;go_wp2;go_ret;exact⟨rfl,bel_new _ _⟩
theorem qdi (p:Pk) (w:World) (ht:p.ty=14):Calls Tryz.prog 63 #[.agg p.cells] w fun e w'=>e=.returned (.iface 150 (.agg #[]))∧Below w.heap.size w w':=by
 have a0:=p.c0;rw[ht] at a0;clear ht;generalize p.cells=cs at *;go_enter Tryz.func63,Tryz.ntmps63;go_wp2;go_ret;exact⟨rfl,bel_new _ _⟩
theorem qsd (p:Pk) (w:World) (ht:¬(1≤p.ty∧p.ty≤14)):Calls Tryz.prog 63 #[.agg p.cells] w fun e w'=>e=.returned .nilIface∧Below w.heap.size w w':=by
 have a0:=p.c0;have n1:(p.ty==1)=false:=by simp;omega
 have n2:(p.ty==2)=false:=by simp;omega
 have n3:(p.ty==3)=false:=by simp;omega
 have n4:(p.ty==4)=false:=by simp;omega
 have n5:(p.ty==5)=false:=by simp;omega
 have n6:(p.ty==6)=false:=by simp;omega
 have n7:(p.ty==7)=false:=by simp;omega
 have n8:(p.ty==8)=false:=by simp;omega
 have n9:(p.ty==9)=false:=by simp;omega
 have n10:(p.ty==10)=false:=by simp;omega
 have n11:(p.ty==11)=false:=by simp;omega
 have n12:(p.ty==12)=false:=by simp;omega
 have n13:(p.ty==13)=false:=by simp;omega
 have n14:(p.ty==14)=false:=by simp;omega
 clear ht;generalize p.cells=cs at *;go_enter Tryz.func63,Tryz.ntmps63;go_wp2;go_ret;exact⟨rfl,bel_new _ _⟩
