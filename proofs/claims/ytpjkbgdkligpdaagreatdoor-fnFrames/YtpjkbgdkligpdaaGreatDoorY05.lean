/- Lemmas. -/
import Derived.Great.BuildSlice
import Derived.OneCell
import Derived.Deep.RegionHeld3
import Derived.Test.YtpjkbgdkligpdaaGreatDoorY04
set_option linter.all false
set_option maxRecDepth 100000
set_option maxHeartbeats 20000000
namespace Go.Proofs.YtpjkbgdkligpdaaGreatDoor
open Go.RowKit

def zv (P:Program) (t:TypeId):Value:=((P.info? t).bind (fun i=>i.zero)).getD undef
theorem zero_run (P:Program) (t:TypeId) (h:((P.info? t).bind (fun i=>i.zero)).isSome=true) (w:World):(zeroValue t).run P w=.ok (zv P t) w:=by
 unfold zv;cases hi:P.info? t with
 |none=>simp[hi] at h
 |some i=>
  cases hz:i.zero with
  |none=>simp[hi,hz] at h
  |some z=>simp[zeroValue,typeInfo,hi,hz,Sem.run_bind]
theorem ta_no {P:Program} {T U X:TypeId} {fs:Array Field} (hne:T≠U) (hu:P.underlying U=some (.struct fs)) (hz:((P.info? U).bind (fun i=>i.zero)).isSome=true) (v:Value) (w:World) :
  (Instr.typeAssert (.iface T v) X U true).run P w=.ok (.tuple #[zv P U,.bool false]) w:=by
 simp[Instr.typeAssert,Sem.run_bind,run_underlying hu,hne,zero_run P U hz]
theorem qes {P:Program} {U X:TypeId} {fs:Array Field} (hu:P.underlying U=some (.struct fs)) (v:Value) (w:World) :
  (Instr.typeAssert (.iface U v) X U true).run P w=.ok (.tuple #[v,.bool true]) w:=by
 simp[Instr.typeAssert,Sem.run_bind,run_underlying hu]
theorem qbi:((Tryz.prog.info? 124).bind (fun i=>i.zero)).isSome=true:=by kernel_rfl
theorem qbk:((Tryz.prog.info? 127).bind (fun i=>i.zero)).isSome=true:=by kernel_rfl
theorem qar:((Tryz.prog.info? 129).bind (fun i=>i.zero)).isSome=true:=by kernel_rfl
theorem qca:((Tryz.prog.info? 134).bind (fun i=>i.zero)).isSome=true:=by kernel_rfl
theorem qcf:((Tryz.prog.info? 135).bind (fun i=>i.zero)).isSome=true:=by kernel_rfl
theorem qbb:((Tryz.prog.info? 136).bind (fun i=>i.zero)).isSome=true:=by kernel_rfl
theorem qct:((Tryz.prog.info? 137).bind (fun i=>i.zero)).isSome=true:=by kernel_rfl
theorem qav:((Tryz.prog.info? 139).bind (fun i=>i.zero)).isSome=true:=by kernel_rfl
theorem qek:((Tryz.prog.info? 141).bind (fun i=>i.zero)).isSome=true:=by kernel_rfl
theorem qau:((Tryz.prog.info? 143).bind (fun i=>i.zero)).isSome=true:=by kernel_rfl
theorem qgf:((Tryz.prog.info? 144).bind (fun i=>i.zero)).isSome=true:=by kernel_rfl
theorem qkj:((Tryz.prog.info? 148).bind (fun i=>i.zero)).isSome=true:=by kernel_rfl
theorem qpa:((Tryz.prog.info? 149).bind (fun i=>i.zero)).isSome=true:=by kernel_rfl
theorem qjb (v:Value) (w:World):Calls Tryz.prog 116 #[.iface 124 v] w fun e w'=>e=.returned (.int .i64 1)∧w'=w:=by
 have h0:=qes (X:=76) Tryz.underlying124;go_enter Tryz.func116,Tryz.ntmps116;go_wp2;go_ret;exact⟨rfl,rfl⟩
theorem qja (v:Value) (w:World):Calls Tryz.prog 116 #[.iface 127 v] w fun e w'=>e=.returned (.int .i64 2)∧w'=w:=by
 have h0:=ta_no (T:=127) (X:=76) (by decide) Tryz.underlying124 qbi;have h1:=qes (X:=76) Tryz.underlying127;go_enter Tryz.func116,Tryz.ntmps116;go_wp2;go_ret;exact⟨rfl,rfl⟩
theorem qfx (v:Value) (w:World):Calls Tryz.prog 116 #[.iface 129 v] w fun e w'=>e=.returned (.int .i64 3)∧w'=w:=by
 have h0:=ta_no (T:=129) (X:=76) (by decide) Tryz.underlying124 qbi;have h1:=ta_no (T:=129) (X:=76) (by decide) Tryz.underlying127 qbk;have h2:=qes (X:=76) Tryz.underlying129;go_enter Tryz.func116,Tryz.ntmps116;go_wp2;go_ret;exact⟨rfl,rfl⟩
theorem qju (v:Value) (w:World):Calls Tryz.prog 116 #[.iface 134 v] w fun e w'=>e=.returned (.int .i64 4)∧w'=w:=by
 have h0:=ta_no (T:=134) (X:=76) (by decide) Tryz.underlying124 qbi;have h1:=ta_no (T:=134) (X:=76) (by decide) Tryz.underlying127 qbk;have h2:=ta_no (T:=134) (X:=76) (by decide) Tryz.underlying129 qar;have h3:=qes (X:=76) Tryz.underlying134;go_enter Tryz.func116,Tryz.ntmps116;go_wp2;go_ret;exact⟨rfl,rfl⟩
theorem qjv (v:Value) (w:World):Calls Tryz.prog 116 #[.iface 135 v] w fun e w'=>e=.returned (.int .i64 5)∧w'=w:=by
 have h0:=ta_no (T:=135) (X:=76) (by decide) Tryz.underlying124 qbi;have h1:=ta_no (T:=135) (X:=76) (by decide) Tryz.underlying127 qbk;have h2:=ta_no (T:=135) (X:=76) (by decide) Tryz.underlying129 qar;have h3:=ta_no (T:=135) (X:=76) (by decide) Tryz.underlying134 qca;have h4:=qes (X:=76) Tryz.underlying135;go_enter Tryz.func116,Tryz.ntmps116;go_wp2;go_ret;exact⟨rfl,rfl⟩
theorem qjw (v:Value) (w:World):Calls Tryz.prog 116 #[.iface 136 v] w fun e w'=>e=.returned (.int .i64 6)∧w'=w:=by
 have h0:=ta_no (T:=136) (X:=76) (by decide) Tryz.underlying124 qbi;have h1:=ta_no (T:=136) (X:=76) (by decide) Tryz.underlying127 qbk;have h2:=ta_no (T:=136) (X:=76) (by decide) Tryz.underlying129 qar;have h3:=ta_no (T:=136) (X:=76) (by decide) Tryz.underlying134 qca;have h4:=ta_no (T:=136) (X:=76) (by decide) Tryz.underlying135 qcf;have h5:=qes (X:=76) Tryz.underlying136;go_enter Tryz.func116,Tryz.ntmps116;go_wp2;go_ret;exact⟨rfl,rfl⟩
theorem qjd (v:Value) (w:World):Calls Tryz.prog 116 #[.iface 137 v] w fun e w'=>e=.returned (.int .i64 7)∧w'=w:=by
 have h0:=ta_no (T:=137) (X:=76) (by decide) Tryz.underlying124 qbi;have h1:=ta_no (T:=137) (X:=76) (by decide) Tryz.underlying127 qbk;have h2:=ta_no (T:=137) (X:=76) (by decide) Tryz.underlying129 qar;have h3:=ta_no (T:=137) (X:=76) (by decide) Tryz.underlying134 qca;have h4:=ta_no (T:=137) (X:=76) (by decide) Tryz.underlying135 qcf;have h5:=ta_no (T:=137) (X:=76) (by decide) Tryz.underlying136 qbb;have h6:=qes (X:=76) Tryz.underlying137;go_enter Tryz.func116,Tryz.ntmps116;go_wp2;go_ret;exact⟨rfl,rfl⟩
theorem qgy (v:Value) (w:World):Calls Tryz.prog 116 #[.iface 139 v] w fun e w'=>e=.returned (.int .i64 8)∧w'=w:=by
 have h0:=ta_no (T:=139) (X:=76) (by decide) Tryz.underlying124 qbi;have h1:=ta_no (T:=139) (X:=76) (by decide) Tryz.underlying127 qbk;have h2:=ta_no (T:=139) (X:=76) (by decide) Tryz.underlying129 qar;have h3:=ta_no (T:=139) (X:=76) (by decide) Tryz.underlying134 qca;have h4:=ta_no (T:=139) (X:=76) (by decide) Tryz.underlying135 qcf;have h5:=ta_no (T:=139) (X:=76) (by decide) Tryz.underlying136 qbb;have h6:=ta_no (T:=139) (X:=76) (by decide) Tryz.underlying137 qct;have h7:=qes (X:=76) Tryz.underlying139;go_enter Tryz.func116,Tryz.ntmps116;go_wp2;go_ret;exact⟨rfl,rfl⟩
theorem qjx (v:Value) (w:World):Calls Tryz.prog 116 #[.iface 141 v] w fun e w'=>e=.returned (.int .i64 9)∧w'=w:=by
 have h0:=ta_no (T:=141) (X:=76) (by decide) Tryz.underlying124 qbi;have h1:=ta_no (T:=141) (X:=76) (by decide) Tryz.underlying127 qbk;have h2:=ta_no (T:=141) (X:=76) (by decide) Tryz.underlying129 qar;have h3:=ta_no (T:=141) (X:=76) (by decide) Tryz.underlying134 qca;have h4:=ta_no (T:=141) (X:=76) (by decide) Tryz.underlying135 qcf;have h5:=ta_no (T:=141) (X:=76) (by decide) Tryz.underlying136 qbb;have h6:=ta_no (T:=141) (X:=76) (by decide) Tryz.underlying137 qct;have h7:=ta_no (T:=141) (X:=76) (by decide) Tryz.underlying139 qav;have h8:=qes (X:=76) Tryz.underlying141;go_enter Tryz.func116,Tryz.ntmps116;go_wp2;go_ret;exact⟨rfl,rfl⟩
theorem qfz (v:Value) (w:World):Calls Tryz.prog 116 #[.iface 143 v] w fun e w'=>e=.returned (.int .i64 10)∧w'=w:=by
 have h0:=ta_no (T:=143) (X:=76) (by decide) Tryz.underlying124 qbi;have h1:=ta_no (T:=143) (X:=76) (by decide) Tryz.underlying127 qbk;have h2:=ta_no (T:=143) (X:=76) (by decide) Tryz.underlying129 qar;have h3:=ta_no (T:=143) (X:=76) (by decide) Tryz.underlying134 qca;have h4:=ta_no (T:=143) (X:=76) (by decide) Tryz.underlying135 qcf;have h5:=ta_no (T:=143) (X:=76) (by decide) Tryz.underlying136 qbb;have h6:=ta_no (T:=143) (X:=76) (by decide) Tryz.underlying137 qct;have h7:=ta_no (T:=143) (X:=76) (by decide) Tryz.underlying139 qav;have h8:=ta_no (T:=143) (X:=76) (by decide) Tryz.underlying141 qek;have h9:=qes (X:=76) Tryz.underlying143;go_enter Tryz.func116,Tryz.ntmps116;go_wp2;go_ret;exact⟨rfl,rfl⟩
theorem qhz (v:Value) (w:World):Calls Tryz.prog 116 #[.iface 144 v] w fun e w'=>e=.returned (.int .i64 11)∧w'=w:=by
 have h0:=ta_no (T:=144) (X:=76) (by decide) Tryz.underlying124 qbi;have h1:=ta_no (T:=144) (X:=76) (by decide) Tryz.underlying127 qbk;have h2:=ta_no (T:=144) (X:=76) (by decide) Tryz.underlying129 qar;have h3:=ta_no (T:=144) (X:=76) (by decide) Tryz.underlying134 qca;have h4:=ta_no (T:=144) (X:=76) (by decide) Tryz.underlying135 qcf;have h5:=ta_no (T:=144) (X:=76) (by decide) Tryz.underlying136 qbb;have h6:=ta_no (T:=144) (X:=76) (by decide) Tryz.underlying137 qct;have h7:=ta_no (T:=144) (X:=76) (by decide) Tryz.underlying139 qav;have h8:=ta_no (T:=144) (X:=76) (by decide) Tryz.underlying141 qek;have h9:=ta_no (T:=144) (X:=76) (by decide) Tryz.underlying143 qau;have h10:=qes (X:=76) Tryz.underlying144;go_enter Tryz.func116,Tryz.ntmps116;go_wp2;go_ret;exact⟨rfl,rfl⟩
theorem qjc (v:Value) (w:World):Calls Tryz.prog 116 #[.iface 148 v] w fun e w'=>e=.returned (.int .i64 12)∧w'=w:=by
 have h0:=ta_no (T:=148) (X:=76) (by decide) Tryz.underlying124 qbi;have h1:=ta_no (T:=148) (X:=76) (by decide) Tryz.underlying127 qbk;have h2:=ta_no (T:=148) (X:=76) (by decide) Tryz.underlying129 qar;have h3:=ta_no (T:=148) (X:=76) (by decide) Tryz.underlying134 qca;have h4:=ta_no (T:=148) (X:=76) (by decide) Tryz.underlying135 qcf;have h5:=ta_no (T:=148) (X:=76) (by decide) Tryz.underlying136 qbb;have h6:=ta_no (T:=148) (X:=76) (by decide) Tryz.underlying137 qct;have h7:=ta_no (T:=148) (X:=76) (by decide) Tryz.underlying139 qav;have h8:=ta_no (T:=148) (X:=76) (by decide) Tryz.underlying141 qek;have h9:=ta_no (T:=148) (X:=76) (by decide) Tryz.underlying143 qau;have h10:=ta_no (T:=148) (X:=76) (by decide) Tryz.underlying144 qgf;have h11:=qes (X:=76) Tryz.underlying148;go_enter Tryz.func116,Tryz.ntmps116;go_wp2;go_ret;exact⟨rfl,rfl⟩
theorem qhy (v:Value) (w:World):Calls Tryz.prog 116 #[.iface 149 v] w fun e w'=>e=.returned (.int .i64 13)∧w'=w:=by
 have h0:=ta_no (T:=149) (X:=76) (by decide) Tryz.underlying124 qbi;have h1:=ta_no (T:=149) (X:=76) (by decide) Tryz.underlying127 qbk;have h2:=ta_no (T:=149) (X:=76) (by decide) Tryz.underlying129 qar;have h3:=ta_no (T:=149) (X:=76) (by decide) Tryz.underlying134 qca;have h4:=ta_no (T:=149) (X:=76) (by decide) Tryz.underlying135 qcf;have h5:=ta_no (T:=149) (X:=76) (by decide) Tryz.underlying136 qbb;have h6:=ta_no (T:=149) (X:=76) (by decide) Tryz.underlying137 qct;have h7:=ta_no (T:=149) (X:=76) (by decide) Tryz.underlying139 qav;have h8:=ta_no (T:=149) (X:=76) (by decide) Tryz.underlying141 qek;have h9:=ta_no (T:=149) (X:=76) (by decide) Tryz.underlying143 qau;have h10:=ta_no (T:=149) (X:=76) (by decide) Tryz.underlying144 qgf;have h11:=ta_no (T:=149) (X:=76) (by decide) Tryz.underlying148 qkj;have h12:=qes (X:=76) Tryz.underlying149;go_enter Tryz.func116,Tryz.ntmps116;go_wp2;go_ret;exact⟨rfl,rfl⟩
theorem qgo (v:Value) (w:World):Calls Tryz.prog 116 #[.iface 150 v] w fun e w'=>e=.returned (.int .i64 14)∧w'=w:=by
 have h0:=ta_no (T:=150) (X:=76) (by decide) Tryz.underlying124 qbi;have h1:=ta_no (T:=150) (X:=76) (by decide) Tryz.underlying127 qbk;have h2:=ta_no (T:=150) (X:=76) (by decide) Tryz.underlying129 qar;have h3:=ta_no (T:=150) (X:=76) (by decide) Tryz.underlying134 qca;have h4:=ta_no (T:=150) (X:=76) (by decide) Tryz.underlying135 qcf;have h5:=ta_no (T:=150) (X:=76) (by decide) Tryz.underlying136 qbb;have h6:=ta_no (T:=150) (X:=76) (by decide) Tryz.underlying137 qct;have h7:=ta_no (T:=150) (X:=76) (by decide) Tryz.underlying139 qav;have h8:=ta_no (T:=150) (X:=76) (by decide) Tryz.underlying141 qek;have h9:=ta_no (T:=150) (X:=76) (by decide) Tryz.underlying143 qau;have h10:=ta_no (T:=150) (X:=76) (by decide) Tryz.underlying144 qgf;have h11:=ta_no (T:=150) (X:=76) (by decide) Tryz.underlying148 qkj;have h12:=ta_no (T:=150) (X:=76) (by decide) Tryz.underlying149 qpa;have h13:=qes (X:=76) Tryz.underlying150;go_enter Tryz.func116,Tryz.ntmps116;go_wp2;go_ret;exact⟨rfl,rfl⟩
theorem qpi (v:Value) (w:World):Calls Tryz.prog 117 #[.iface 124 v] w fun e w'=>e=.returned (.int .i64 0)∧w'=w:=by
 have h0:=ta_no (T:=124) (X:=76) (by decide) Tryz.underlying129 qar;have h1:=ta_no (T:=124) (X:=76) (by decide) Tryz.underlying136 qbb;have h2:=ta_no (T:=124) (X:=76) (by decide) Tryz.underlying139 qav;have h3:=ta_no (T:=124) (X:=76) (by decide) Tryz.underlying143 qau;go_enter Tryz.func117,Tryz.ntmps117;go_wp2;go_ret;exact⟨rfl,rfl⟩
theorem qph (v:Value) (w:World):Calls Tryz.prog 117 #[.iface 127 v] w fun e w'=>e=.returned (.int .i64 0)∧w'=w:=by
 have h0:=ta_no (T:=127) (X:=76) (by decide) Tryz.underlying129 qar;have h1:=ta_no (T:=127) (X:=76) (by decide) Tryz.underlying136 qbb;have h2:=ta_no (T:=127) (X:=76) (by decide) Tryz.underlying139 qav;have h3:=ta_no (T:=127) (X:=76) (by decide) Tryz.underlying143 qau;go_enter Tryz.func117,Tryz.ntmps117;go_wp2;go_ret;exact⟨rfl,rfl⟩
theorem qqr (v:Value) (w:World):Calls Tryz.prog 117 #[.iface 134 v] w fun e w'=>e=.returned (.int .i64 0)∧w'=w:=by
 have h0:=ta_no (T:=134) (X:=76) (by decide) Tryz.underlying129 qar;have h1:=ta_no (T:=134) (X:=76) (by decide) Tryz.underlying136 qbb;have h2:=ta_no (T:=134) (X:=76) (by decide) Tryz.underlying139 qav;have h3:=ta_no (T:=134) (X:=76) (by decide) Tryz.underlying143 qau;go_enter Tryz.func117,Tryz.ntmps117;go_wp2;go_ret;exact⟨rfl,rfl⟩
theorem qqs (v:Value) (w:World):Calls Tryz.prog 117 #[.iface 135 v] w fun e w'=>e=.returned (.int .i64 0)∧w'=w:=by
 have h0:=ta_no (T:=135) (X:=76) (by decide) Tryz.underlying129 qar;have h1:=ta_no (T:=135) (X:=76) (by decide) Tryz.underlying136 qbb;have h2:=ta_no (T:=135) (X:=76) (by decide) Tryz.underlying139 qav;have h3:=ta_no (T:=135) (X:=76) (by decide) Tryz.underlying143 qau;go_enter Tryz.func117,Tryz.ntmps117;go_wp2;go_ret;exact⟨rfl,rfl⟩
theorem qqt (v:Value) (w:World):Calls Tryz.prog 117 #[.iface 136 v] w fun e w'=>e=.returned (.int .i64 2)∧w'=w:=by
 have h0:=ta_no (T:=136) (X:=76) (by decide) Tryz.underlying129 qar;have h1:=qes (X:=76) Tryz.underlying136;have h2:=ta_no (T:=136) (X:=76) (by decide) Tryz.underlying139 qav;have h3:=ta_no (T:=136) (X:=76) (by decide) Tryz.underlying143 qau;go_enter Tryz.func117,Tryz.ntmps117;go_wp2;go_ret;exact⟨rfl,rfl⟩
theorem qpk (v:Value) (w:World):Calls Tryz.prog 117 #[.iface 137 v] w fun e w'=>e=.returned (.int .i64 0)∧w'=w:=by
 have h0:=ta_no (T:=137) (X:=76) (by decide) Tryz.underlying129 qar;have h1:=ta_no (T:=137) (X:=76) (by decide) Tryz.underlying136 qbb;have h2:=ta_no (T:=137) (X:=76) (by decide) Tryz.underlying139 qav;have h3:=ta_no (T:=137) (X:=76) (by decide) Tryz.underlying143 qau;go_enter Tryz.func117,Tryz.ntmps117;go_wp2;go_ret;exact⟨rfl,rfl⟩
theorem qmj (v:Value) (w:World):Calls Tryz.prog 117 #[.iface 139 v] w fun e w'=>e=.returned (.int .i64 2)∧w'=w:=by
 have h0:=ta_no (T:=139) (X:=76) (by decide) Tryz.underlying129 qar;have h1:=ta_no (T:=139) (X:=76) (by decide) Tryz.underlying136 qbb;have h2:=qes (X:=76) Tryz.underlying139;have h3:=ta_no (T:=139) (X:=76) (by decide) Tryz.underlying143 qau;go_enter Tryz.func117,Tryz.ntmps117;go_wp2;go_ret;exact⟨rfl,rfl⟩
theorem qqu (v:Value) (w:World):Calls Tryz.prog 117 #[.iface 141 v] w fun e w'=>e=.returned (.int .i64 0)∧w'=w:=by
 have h0:=ta_no (T:=141) (X:=76) (by decide) Tryz.underlying129 qar;have h1:=ta_no (T:=141) (X:=76) (by decide) Tryz.underlying136 qbb;have h2:=ta_no (T:=141) (X:=76) (by decide) Tryz.underlying139 qav;have h3:=ta_no (T:=141) (X:=76) (by decide) Tryz.underlying143 qau;go_enter Tryz.func117,Tryz.ntmps117;go_wp2;go_ret;exact⟨rfl,rfl⟩
theorem qkr (v:Value) (w:World):Calls Tryz.prog 117 #[.iface 143 v] w fun e w'=>e=.returned (.int .i64 2)∧w'=w:=by
 have h0:=ta_no (T:=143) (X:=76) (by decide) Tryz.underlying129 qar;have h1:=ta_no (T:=143) (X:=76) (by decide) Tryz.underlying136 qbb;have h2:=ta_no (T:=143) (X:=76) (by decide) Tryz.underlying139 qav;have h3:=qes (X:=76) Tryz.underlying143;go_enter Tryz.func117,Tryz.ntmps117;go_wp2;go_ret;exact⟨rfl,rfl⟩
theorem qnv (v:Value) (w:World):Calls Tryz.prog 117 #[.iface 144 v] w fun e w'=>e=.returned (.int .i64 0)∧w'=w:=by
 have h0:=ta_no (T:=144) (X:=76) (by decide) Tryz.underlying129 qar;have h1:=ta_no (T:=144) (X:=76) (by decide) Tryz.underlying136 qbb;have h2:=ta_no (T:=144) (X:=76) (by decide) Tryz.underlying139 qav;have h3:=ta_no (T:=144) (X:=76) (by decide) Tryz.underlying143 qau;go_enter Tryz.func117,Tryz.ntmps117;go_wp2;go_ret;exact⟨rfl,rfl⟩
theorem qpj (v:Value) (w:World):Calls Tryz.prog 117 #[.iface 148 v] w fun e w'=>e=.returned (.int .i64 0)∧w'=w:=by
 have h0:=ta_no (T:=148) (X:=76) (by decide) Tryz.underlying129 qar;have h1:=ta_no (T:=148) (X:=76) (by decide) Tryz.underlying136 qbb;have h2:=ta_no (T:=148) (X:=76) (by decide) Tryz.underlying139 qav;have h3:=ta_no (T:=148) (X:=76) (by decide) Tryz.underlying143 qau;go_enter Tryz.func117,Tryz.ntmps117;go_wp2;go_ret;exact⟨rfl,rfl⟩
theorem qnu (v:Value) (w:World):Calls Tryz.prog 117 #[.iface 149 v] w fun e w'=>e=.returned (.int .i64 0)∧w'=w:=by
 have h0:=ta_no (T:=149) (X:=76) (by decide) Tryz.underlying129 qar;have h1:=ta_no (T:=149) (X:=76) (by decide) Tryz.underlying136 qbb;have h2:=ta_no (T:=149) (X:=76) (by decide) Tryz.underlying139 qav;have h3:=ta_no (T:=149) (X:=76) (by decide) Tryz.underlying143 qau;go_enter Tryz.func117,Tryz.ntmps117;go_wp2;go_ret;exact⟨rfl,rfl⟩
theorem qlh (v:Value) (w:World):Calls Tryz.prog 117 #[.iface 150 v] w fun e w'=>e=.returned (.int .i64 0)∧w'=w:=by
 have h0:=ta_no (T:=150) (X:=76) (by decide) Tryz.underlying129 qar;have h1:=ta_no (T:=150) (X:=76) (by decide) Tryz.underlying136 qbb;have h2:=ta_no (T:=150) (X:=76) (by decide) Tryz.underlying139 qav;have h3:=ta_no (T:=150) (X:=76) (by decide) Tryz.underlying143 qau;go_enter Tryz.func117,Tryz.ntmps117;go_wp2;go_ret;exact⟨rfl,rfl⟩

def pubC (dup:Bool) (qos:Int) (ret:Bool) (id:Int) (top:ByteArray) (b:Sl):Array Value:=#[.bool dup,.int .i64 qos,.bool ret,.int .i64 id,.string top,.slice b.a b.n b.c]
def conC (lev:Int) (cli:ByteArray) (cln:Bool) (kee:Int) (hw:Bool) (wt:ByteArray) (wb:Sl) (wq:Int) (wr:Bool) (hu:Bool) (us:ByteArray) (hp:Bool) (pa:Sl):Array Value :=
 #[.int .i64 lev,.string cli,.bool cln,.int .i64 kee,.bool hw,.string wt,.slice wb.a wb.n wb.c,.int .i64 wq,.bool wr,.bool hu,.string us,.bool hp,.slice pa.a pa.n pa.c]
def noSl:Sl:=⟨none,0,0⟩

theorem pub_of0 (p:Pk) (w:World) (h:¬0<p.qos) :
  Calls Tryz.prog 114 #[.agg p.cells] w fun e w'=>e=.returned (.agg (pubC false p.qos p.ret 0 p.top p.bod))∧Below w.heap.size w w':=by
 have a2:=p.c2;have a3:=p.c3;have a5:=p.c5;have a6:=p.c6;generalize p.cells=cs at *;unfold pubC;go_enter Tryz.func114,Tryz.ntmps114;go_wp2
 go_returns
 refine⟨rfl,?_⟩
 go_grown
theorem pub_of1 (p:Pk) (w:World) (h:0<p.qos) :
  Calls Tryz.prog 114 #[.agg p.cells] w fun e w'=>e=.returned (.agg (pubC p.dup p.qos p.ret p.id p.top p.bod))∧Below w.heap.size w w':=by
 have a1:=p.c1;have a2:=p.c2;have a3:=p.c3;have a4:=p.c4;have a5:=p.c5;have a6:=p.c6;generalize p.cells=cs at *;unfold pubC;go_enter Tryz.func114,Tryz.ntmps114;go_wp2
 go_region
 all_goals
  go_wp2
  go_returns
  refine⟨rfl,?_⟩
  go_grown
theorem con_nnn (p:Pk) (w:World) (h1:p.hw=false) (h2:p.hu=false) :
  Calls Tryz.prog 113 #[.agg p.cells] w fun e w'=>e=.returned (.agg (conC p.lev p.cli p.cln p.kee false ByteArray.empty noSl 0 false false ByteArray.empty false noSl))∧Below w.heap.size w w':=by
 have a7:=p.c7;have a8:=p.c8;have a9:=p.c9;have a10:=p.c10;have a11:=p.c11;have a16:=p.c16;rw[h1] at a11;rw[h2] at a16;clear h1 h2;generalize p.cells=cs at *;unfold conC;go_enter Tryz.func113,Tryz.ntmps113;go_wp2
 go_returns
 refine⟨rfl,?_⟩
 go_grown

theorem con_nun (p:Pk) (w:World) (h1:p.hw=false) (h2:p.hu=true) (h3:p.hp=false) :
  Calls Tryz.prog 113 #[.agg p.cells] w fun e w'=>e=.returned (.agg (conC p.lev p.cli p.cln p.kee false ByteArray.empty noSl 0 false true p.us false noSl))∧Below w.heap.size w w':=by
 have a7:=p.c7;have a8:=p.c8;have a9:=p.c9;have a10:=p.c10;have a11:=p.c11;have a16:=p.c16;have a17:=p.c17;have a18:=p.c18;rw[h1] at a11;rw[h2] at a16;rw[h3] at a18;clear h1 h2 h3;generalize p.cells=cs at *;unfold conC;go_enter Tryz.func113,Tryz.ntmps113;go_wp2
 go_region
 all_goals
  go_wp2
  go_returns
  refine⟨rfl,?_⟩
  go_grown

theorem con_nup (p:Pk) (w:World) (h1:p.hw=false) (h2:p.hu=true) (h3:p.hp=true) :
  Calls Tryz.prog 113 #[.agg p.cells] w fun e w'=>e=.returned (.agg (conC p.lev p.cli p.cln p.kee false ByteArray.empty noSl 0 false true p.us true p.pa))∧Below w.heap.size w w':=by
 have a7:=p.c7;have a8:=p.c8;have a9:=p.c9;have a10:=p.c10;have a11:=p.c11;have a16:=p.c16;have a17:=p.c17;have a18:=p.c18;have a19:=p.c19;rw[h1] at a11;rw[h2] at a16;rw[h3] at a18;clear h1 h2 h3;generalize p.cells=cs at *;unfold conC;go_enter Tryz.func113,Tryz.ntmps113;go_wp2
 go_region
 all_goals
  go_wp2
  go_returns
  refine⟨rfl,?_⟩
  go_grown

theorem con_wnn (p:Pk) (w:World) (h1:p.hw=true) (h2:p.hu=false) :
  Calls Tryz.prog 113 #[.agg p.cells] w fun e w'=>e=.returned (.agg (conC p.lev p.cli p.cln p.kee true p.wt p.wb p.wq p.wr false ByteArray.empty false noSl))∧Below w.heap.size w w':=by
 have a7:=p.c7;have a8:=p.c8;have a9:=p.c9;have a10:=p.c10;have a11:=p.c11;have a16:=p.c16;have a12:=p.c12;have a13:=p.c13;have a14:=p.c14;have a15:=p.c15;rw[h1] at a11;rw[h2] at a16;clear h1 h2;generalize p.cells=cs at *;unfold conC;go_enter Tryz.func113,Tryz.ntmps113;go_wp2
 go_returns
 refine⟨rfl,?_⟩
 go_grown

theorem con_wun (p:Pk) (w:World) (h1:p.hw=true) (h2:p.hu=true) (h3:p.hp=false) :
  Calls Tryz.prog 113 #[.agg p.cells] w fun e w'=>e=.returned (.agg (conC p.lev p.cli p.cln p.kee true p.wt p.wb p.wq p.wr true p.us false noSl))∧Below w.heap.size w w':=by
 have a7:=p.c7;have a8:=p.c8;have a9:=p.c9;have a10:=p.c10;have a11:=p.c11;have a16:=p.c16;have a12:=p.c12;have a13:=p.c13;have a14:=p.c14;have a15:=p.c15;have a17:=p.c17;have a18:=p.c18;rw[h1] at a11;rw[h2] at a16;rw[h3] at a18;clear h1 h2 h3;generalize p.cells=cs at *;unfold conC;go_enter Tryz.func113,Tryz.ntmps113;go_wp2
 go_region
 all_goals
  go_wp2
  go_returns
  refine⟨rfl,?_⟩
  go_grown

theorem con_wup (p:Pk) (w:World) (h1:p.hw=true) (h2:p.hu=true) (h3:p.hp=true) :
  Calls Tryz.prog 113 #[.agg p.cells] w fun e w'=>e=.returned (.agg (conC p.lev p.cli p.cln p.kee true p.wt p.wb p.wq p.wr true p.us true p.pa))∧Below w.heap.size w w':=by
 have a7:=p.c7;have a8:=p.c8;have a9:=p.c9;have a10:=p.c10;have a11:=p.c11;have a16:=p.c16;have a12:=p.c12;have a13:=p.c13;have a14:=p.c14;have a15:=p.c15;have a17:=p.c17;have a18:=p.c18;have a19:=p.c19;rw[h1] at a11;rw[h2] at a16;rw[h3] at a18;clear h1 h2 h3;generalize p.cells=cs at *;unfold conC;go_enter Tryz.func113,Tryz.ntmps113;go_wp2
 go_region
 all_goals
  go_wp2
  go_returns
  refine⟨rfl,?_⟩
  go_grown
def conOf (p:Pk):Array Value:=conC p.lev p.cli p.cln p.kee p.hw (if p.hw then p.wt else ByteArray.empty) (if p.hw then p.wb else noSl) (if p.hw then p.wq else 0) (if p.hw then p.wr else false) p.hu (if p.hu then p.us else ByteArray.empty) (p.hu&&p.hp) (if p.hu&&p.hp then p.pa else noSl)
theorem con_of (p:Pk) (w:World):Calls Tryz.prog 113 #[.agg p.cells] w fun e w'=>e=.returned (.agg (conOf p))∧Below w.heap.size w w':=by
 unfold conOf;cases h1:p.hw<;>cases h2:p.hu<;>cases h3:p.hp
 ·exact con_nnn p w h1 h2
 ·exact con_nnn p w h1 h2
 ·exact con_nun p w h1 h2 h3
 ·exact con_nup p w h1 h2 h3
 ·exact con_wnn p w h1 h2
 ·exact con_wnn p w h1 h2
 ·exact con_wun p w h1 h2 h3
 ·exact con_wup p w h1 h2 h3
def pubOf (p:Pk):Array Value:=pubC (if 0<p.qos then p.dup else false) p.qos p.ret (if 0<p.qos then p.id else 0) p.top p.bod
theorem pub_of (p:Pk) (w:World):Calls Tryz.prog 114 #[.agg p.cells] w fun e w'=>e=.returned (.agg (pubOf p))∧Below w.heap.size w w':=by
 unfold pubOf
 by_cases h:0<p.qos
 ·rw[if_pos h,if_pos h];exact pub_of1 p w h
 ·rw[if_neg h,if_neg h];exact pub_of0 p w h

theorem qft (p:Pk) (w:World) (ht:p.ty=1):Calls Tryz.prog 63 #[.agg p.cells] w fun e w'=>e=.returned (.iface 124 (.agg (conOf p)))∧Below w.heap.size w w':=by
 have a0:=p.c0;rw[ht] at a0;clear ht;have hb:Below w.heap.size w (w.alloc (.cells p.cells 28)):=qac _ _;have A:Blk (w.alloc (.cells p.cells 28)) w.heap.size p:=heap_alloc_new _ _;go_enter Tryz.func63,Tryz.ntmps63;go_wp2_with (first | refine qaj A rfl _ rfl rfl ?_ | fail)
 refine (con_of p _).mono ?_;rintro e w2 ⟨rfl,hb2⟩;go_wp2;go_ret;exact⟨rfl,bel hb hb2⟩
theorem ret_ack {n:Int} {a b:Bool} (h:a=b):Ending.returned (.iface 127 (.agg #[.int .i64 n,.bool a]))=.returned (.iface 127 (.agg #[.int .i64 n,.bool b])):=by rw[h]
theorem qfs (p:Pk) (w:World) (ht:p.ty=2):Calls Tryz.prog 63 #[.agg p.cells] w fun e w'=>e=.returned (.iface 127 (.agg #[.int .i64 p.cod,.bool (p.pre&&decide (p.cod=0))]))∧Below w.heap.size w w':=by
 have a0:=p.c0;rw[ht] at a0;have a20:=p.c20;have a21:=p.c21;clear ht;generalize p.cells=cs at *;cases hp:p.pre
 ·rw[hp] at a21;clear hp;go_enter Tryz.func63,Tryz.ntmps63;go_wp2;go_ret;exact⟨rfl,qac _ _⟩
 ·rw[hp] at a21;clear hp;go_enter Tryz.func63,Tryz.ntmps63;go_wp2;go_ret;exact⟨ret_ack (by rw[Bool.eq_iff_iff];simp),qac _ _⟩
theorem qfw (p:Pk) (w:World) (ht:p.ty=3):Calls Tryz.prog 63 #[.agg p.cells] w fun e w'=>e=.returned (.iface 129 (.agg (pubOf p)))∧Below w.heap.size w w':=by
 have a0:=p.c0;rw[ht] at a0;clear ht;have hb:Below w.heap.size w (w.alloc (.cells p.cells 28)):=qac _ _;have A:Blk (w.alloc (.cells p.cells 28)) w.heap.size p:=heap_alloc_new _ _;go_enter Tryz.func63,Tryz.ntmps63;go_wp2_with (first | refine qaj A rfl _ rfl rfl ?_ | fail)
 refine (pub_of p _).mono ?_;rintro e w2 ⟨rfl,hb2⟩;go_wp2;go_ret;exact⟨rfl,bel hb hb2⟩
theorem qgg (p:Pk) (w:World) (ht:p.ty=4):Calls Tryz.prog 63 #[.agg p.cells] w fun e w'=>e=.returned (.iface 134 (.agg #[.int .i64 p.id]))∧Below w.heap.size w w':=by
 have a0:=p.c0;rw[ht] at a0;have a4:=p.c4;clear ht;generalize p.cells=cs at *;go_enter Tryz.func63,Tryz.ntmps63;go_wp2;go_ret;exact⟨rfl,qac _ _⟩
theorem qgh (p:Pk) (w:World) (ht:p.ty=5):Calls Tryz.prog 63 #[.agg p.cells] w fun e w'=>e=.returned (.iface 135 (.agg #[.int .i64 p.id]))∧Below w.heap.size w w':=by
 have a0:=p.c0;rw[ht] at a0;have a4:=p.c4;clear ht;generalize p.cells=cs at *;go_enter Tryz.func63,Tryz.ntmps63;go_wp2;go_ret;exact⟨rfl,qac _ _⟩
theorem qgi (p:Pk) (w:World) (ht:p.ty=6):Calls Tryz.prog 63 #[.agg p.cells] w fun e w'=>e=.returned (.iface 136 (.agg #[.int .i64 p.id]))∧Below w.heap.size w w':=by
 have a0:=p.c0;rw[ht] at a0;have a4:=p.c4;clear ht;generalize p.cells=cs at *;go_enter Tryz.func63,Tryz.ntmps63;go_wp2;go_ret;exact⟨rfl,qac _ _⟩
theorem qfv (p:Pk) (w:World) (ht:p.ty=7):Calls Tryz.prog 63 #[.agg p.cells] w fun e w'=>e=.returned (.iface 137 (.agg #[.int .i64 p.id]))∧Below w.heap.size w w':=by
 have a0:=p.c0;rw[ht] at a0;have a4:=p.c4;clear ht;generalize p.cells=cs at *;go_enter Tryz.func63,Tryz.ntmps63;go_wp2;go_ret;exact⟨rfl,qac _ _⟩
theorem qel (p:Pk) (w:World) (ht:p.ty=8):Calls Tryz.prog 63 #[.agg p.cells] w fun e w'=>e=.returned (.iface 139 (.agg #[.int .i64 p.id,.slice p.wan.a p.wan.n p.wan.c]))∧Below w.heap.size w w':=by
 have a0:=p.c0;rw[ht] at a0;have a4:=p.c4;have a22:=p.c22;clear ht;generalize p.cells=cs at *;go_enter Tryz.func63,Tryz.ntmps63;go_wp2;go_ret;exact⟨rfl,qac _ _⟩
theorem qgj (p:Pk) (w:World) (ht:p.ty=9):Calls Tryz.prog 63 #[.agg p.cells] w fun e w'=>e=.returned (.iface 141 (.agg #[.int .i64 p.id,.slice p.cds.a p.cds.n p.cds.c]))∧Below w.heap.size w w':=by
 have a0:=p.c0;rw[ht] at a0;have a4:=p.c4;have a24:=p.c24;clear ht;generalize p.cells=cs at *;go_enter Tryz.func63,Tryz.ntmps63;go_wp2;go_ret;exact⟨rfl,qac _ _⟩
theorem qdr (p:Pk) (w:World) (ht:p.ty=10):Calls Tryz.prog 63 #[.agg p.cells] w fun e w'=>e=.returned (.iface 143 (.agg #[.int .i64 p.id,.slice p.nam.a p.nam.n p.nam.c]))∧Below w.heap.size w w':=by
 have a0:=p.c0;rw[ht] at a0;have a4:=p.c4;have a23:=p.c23;clear ht;generalize p.cells=cs at *;go_enter Tryz.func63,Tryz.ntmps63;go_wp2;go_ret;exact⟨rfl,qac _ _⟩
theorem qfb (p:Pk) (w:World) (ht:p.ty=11):Calls Tryz.prog 63 #[.agg p.cells] w fun e w'=>e=.returned (.iface 144 (.agg #[.int .i64 p.id]))∧Below w.heap.size w w':=by
 have a0:=p.c0;rw[ht] at a0;have a4:=p.c4;clear ht;generalize p.cells=cs at *;go_enter Tryz.func63,Tryz.ntmps63;go_wp2;go_ret;exact⟨rfl,qac _ _⟩
theorem qfu (p:Pk) (w:World) (ht:p.ty=12):Calls Tryz.prog 63 #[.agg p.cells] w fun e w'=>e=.returned (.iface 148 (.agg #[]))∧Below w.heap.size w w':=by
 have a0:=p.c0;rw[ht] at a0;clear ht;generalize p.cells=cs at *;go_enter Tryz.func63,Tryz.ntmps63;go_wp2;go_ret;exact⟨rfl,qac _ _⟩
theorem qfa (p:Pk) (w:World) (ht:p.ty=13):Calls Tryz.prog 63 #[.agg p.cells] w fun e w'=>e=.returned (.iface 149 (.agg #[]))∧Below w.heap.size w w':=by
 have a0:=p.c0;rw[ht] at a0;clear ht;generalize p.cells=cs at *;go_enter Tryz.func63,Tryz.ntmps63;go_wp2;go_ret;exact⟨rfl,qac _ _⟩
theorem qdx (p:Pk) (w:World) (ht:p.ty=14):Calls Tryz.prog 63 #[.agg p.cells] w fun e w'=>e=.returned (.iface 150 (.agg #[]))∧Below w.heap.size w w':=by
 have a0:=p.c0;rw[ht] at a0;clear ht;generalize p.cells=cs at *;go_enter Tryz.func63,Tryz.ntmps63;go_wp2;go_ret;exact⟨rfl,qac _ _⟩
theorem qti (p:Pk) (w:World) (ht:¬(1≤p.ty∧p.ty≤14)):Calls Tryz.prog 63 #[.agg p.cells] w fun e w'=>e=.returned .nilIface∧Below w.heap.size w w':=by
 have a0:=p.c0;have n1:(p.ty==1)=false:=by simp;omega
 have n2:(p.ty==2)=false:=by simp;omega
 have n3:(p.ty==3)=false:=by simp;omega
 have n4:(p.ty==4)=false:=by simp;omega
 have n5:(p.ty==5)=false:=by simp;omega
 have n6:(p.ty==6)=false:=by simp;omega
 have n7:(p.ty==7)=false:=by simp;omega
 have n8:(p.ty==8)=false:=by simp;omega
 have n9:(p.ty==9)=false:=by simp;omega
 have n10:(p.ty==10)=false:=by simp;omega
 have n11:(p.ty==11)=false:=by simp;omega
 have n12:(p.ty==12)=false:=by simp;omega
 have n13:(p.ty==13)=false:=by simp;omega
 have n14:(p.ty==14)=false:=by simp;omega
 clear ht;generalize p.cells=cs at *;go_enter Tryz.func63,Tryz.ntmps63;go_wp2;go_ret;exact⟨rfl,qac _ _⟩

section
variable {ops : Array Oper} {rest : List Oper} {a : Act} {w : World} {Q : Exit → Act → World → Prop}
theorem al_pk {d:Nat} {t:TypeId} {p:String} {e:Array Edge} (h:wpList Tryz.prog ops Q rest (a.put (some d) (.pointer (some ⟨w.heap.size,0,none⟩))) (w.alloc (.cells Pk.zero.cells 28))) :
  wpList Tryz.prog ops Q (⟨some d,.alloc 28,t,p,e,none⟩ :: rest) a w:=by
 refine qcr (w':=w.alloc (.cells Pk.zero.cells 28)) (v:=.pointer (some ⟨w.heap.size,0,none⟩)) (qaa rfl _) ?_ h;simp only[execOp,Sem.run_bind,qoi,Result.andThen_ok,Sem.run_pure]
theorem bu_pk (q:Pk) {d:Nat} {t:TypeId} {p:String} {e:Array Edge} {parts:Array (Nat×Operand)} (hf:Tryz.prog.built 28 (parts.map fun (i,x)=>(i,a.eval x)).toList=some q.cells)
  (h:wpList Tryz.prog ops Q rest (a.put (some d) (.agg q.cells)) w):wpList Tryz.prog ops Q (⟨some d,.build 28 parts,t,p,e,none⟩ :: rest) a w :=
 wpList_buildTo rfl 28 parts rfl (some d) rfl q.cells hf h
theorem qas {q old:Pk} {g:Nat} (hB:Blk w g old) {t:TypeId} {p:String} {e:Array Edge} {x y:Operand} (hx:a.eval x=.pointer (some ⟨g,0,none⟩)) (hy:a.eval y=.agg q.cells)
  (h:∀w',Blk w' g q→Below g w w'→wpList Tryz.prog ops Q rest a w'):wpList Tryz.prog ops Q (⟨none,.store 28 x y,t,p,e,none⟩ :: rest) a w:=by
 refine wpList_store_rowTo rfl 28 x y rfl rfl g q.cells hx hy 28 old.cells hB (infoP.trans (by rw[Pk.csize])) rfl q.ones ?_;refine h _ (setRow_heap w g old.cells q.cells 28 (0,0) hB) ⟨rfl,rfl,rfl,by simp,fun k hk=>setRow_other w g k _ (by omega)⟩
end
def conP (lev:Int) (cli:ByteArray) (cln:Bool) (kee:Int) (hw:Bool) (wt:ByteArray) (wb:Sl) (wq:Int) (wr:Bool) (hu:Bool) (us:ByteArray) (hp:Bool) (pa:Sl):Pk:={ Pk.zero with lev:=lev,cli:=cli,cln:=cln,kee:=kee,hw:=hw,wt:=wt,wb:=wb,wq:=wq,wr:=wr,hu:=hu,us:=us,hp:=hp,pa:=pa }
theorem named_con (lev:Int) (cli:ByteArray) (cln:Bool) (kee:Int) (hw:Bool) (wt:ByteArray) (wb:Sl) (wq:Int) (wr:Bool) (hu:Bool) (us:ByteArray) (hp:Bool) (pa:Sl) (w:World):Calls Tryz.prog 227 #[.agg (conC lev cli cln kee hw wt wb wq wr hu us hp pa)] w fun e w'=>e=.returned (.agg (conP lev cli cln kee hw wt wb wq wr hu us hp pa).cells)∧Below w.heap.size w w':=by
 unfold conC;go_enter Tryz.func227,Tryz.ntmps227;go_wp2_with (first | refine al_pk ?_ | (refine bu_pk (conP lev cli cln kee hw wt wb wq wr hu us hp pa) (by kernel_rfl) ?_) | (refine qas (q:=conP lev cli cln kee hw wt wb wq wr hu us hp pa) (old:=Pk.zero) (heap_alloc2_new _ _ _) rfl rfl ?_;intro w9 B9 b9) | (refine qas (q:=conP lev cli cln kee hw wt wb wq wr hu us hp pa) (old:=Pk.zero) (heap_alloc_new _ _) rfl rfl ?_;intro w9 B9 b9) | fail)
 refine qam rfl rfl B9 rfl ⟨rfl,?_⟩;exact (((Below.refl _ _).alloc (Nat.le_refl _) _).alloc (by simp) _).trans (b9.mono (by first | omega | simp))
def ackP (cod:Int) (pre:Bool):Pk:={ Pk.zero with cod:=cod,pre:=pre }
theorem named_ack (cod:Int) (pre:Bool) (w:World):Calls Tryz.prog 235 #[.agg (#[.int .i64 cod,.bool pre])] w fun e w'=>e=.returned (.agg (ackP cod pre).cells)∧Below w.heap.size w w':=by
 go_enter Tryz.func235,Tryz.ntmps235;go_wp2_with (first | refine al_pk ?_ | (refine bu_pk (ackP cod pre) (by kernel_rfl) ?_) | (refine qas (q:=ackP cod pre) (old:=Pk.zero) (heap_alloc2_new _ _ _) rfl rfl ?_;intro w9 B9 b9) | (refine qas (q:=ackP cod pre) (old:=Pk.zero) (heap_alloc_new _ _) rfl rfl ?_;intro w9 B9 b9) | fail)
 refine qam rfl rfl B9 rfl ⟨rfl,?_⟩;exact (((Below.refl _ _).alloc (Nat.le_refl _) _).alloc (by simp) _).trans (b9.mono (by first | omega | simp))
def pubP (dup:Bool) (qos:Int) (ret:Bool) (id:Int) (top:ByteArray) (b:Sl):Pk:={ Pk.zero with dup:=dup,qos:=qos,ret:=ret,id:=id,top:=top,bod:=b }
theorem named_pub (dup:Bool) (qos:Int) (ret:Bool) (id:Int) (top:ByteArray) (b:Sl) (w:World):Calls Tryz.prog 238 #[.agg (pubC dup qos ret id top b)] w fun e w'=>e=.returned (.agg (pubP dup qos ret id top b).cells)∧Below w.heap.size w w':=by
 unfold pubC;go_enter Tryz.func238,Tryz.ntmps238;go_wp2_with (first | refine al_pk ?_ | (refine bu_pk (pubP dup qos ret id top b) (by kernel_rfl) ?_) | (refine qas (q:=pubP dup qos ret id top b) (old:=Pk.zero) (heap_alloc2_new _ _ _) rfl rfl ?_;intro w9 B9 b9) | (refine qas (q:=pubP dup qos ret id top b) (old:=Pk.zero) (heap_alloc_new _ _) rfl rfl ?_;intro w9 B9 b9) | fail)
 refine qam rfl rfl B9 rfl ⟨rfl,?_⟩;exact (((Below.refl _ _).alloc (Nat.le_refl _) _).alloc (by simp) _).trans (b9.mono (by first | omega | simp))
def idP (id:Int):Pk:={ Pk.zero with id:=id }
theorem qli (id:Int) (w:World):Calls Tryz.prog 242 #[.agg (#[.int .i64 id])] w fun e w'=>e=.returned (.agg (idP id).cells)∧Below w.heap.size w w':=by
 go_enter Tryz.func242,Tryz.ntmps242;go_wp2_with (first | refine al_pk ?_ | (refine bu_pk (idP id) (by kernel_rfl) ?_) | (refine qas (q:=idP id) (old:=Pk.zero) (heap_alloc2_new _ _ _) rfl rfl ?_;intro w9 B9 b9) | (refine qas (q:=idP id) (old:=Pk.zero) (heap_alloc_new _ _) rfl rfl ?_;intro w9 B9 b9) | fail)
 refine qam rfl rfl B9 rfl ⟨rfl,?_⟩;exact (((Below.refl _ _).alloc (Nat.le_refl _) _).alloc (by simp) _).trans (b9.mono (by first | omega | simp))
def subP (id:Int) (b:Sl):Pk:={ Pk.zero with id:=id,wan:=b }
theorem named_sub (id:Int) (b:Sl) (w:World):Calls Tryz.prog 245 #[.agg (#[.int .i64 id,.slice b.a b.n b.c])] w fun e w'=>e=.returned (.agg (subP id b).cells)∧Below w.heap.size w w':=by
 go_enter Tryz.func245,Tryz.ntmps245;go_wp2_with (first | refine al_pk ?_ | (refine bu_pk (subP id b) (by kernel_rfl) ?_) | (refine qas (q:=subP id b) (old:=Pk.zero) (heap_alloc2_new _ _ _) rfl rfl ?_;intro w9 B9 b9) | (refine qas (q:=subP id b) (old:=Pk.zero) (heap_alloc_new _ _) rfl rfl ?_;intro w9 B9 b9) | fail)
 refine qam rfl rfl B9 rfl ⟨rfl,?_⟩;exact (((Below.refl _ _).alloc (Nat.le_refl _) _).alloc (by simp) _).trans (b9.mono (by first | omega | simp))
def sackP (id:Int) (b:Sl):Pk:={ Pk.zero with id:=id,cds:=b }
theorem named_sack (id:Int) (b:Sl) (w:World):Calls Tryz.prog 253 #[.agg (#[.int .i64 id,.slice b.a b.n b.c])] w fun e w'=>e=.returned (.agg (sackP id b).cells)∧Below w.heap.size w w':=by
 go_enter Tryz.func253,Tryz.ntmps253;go_wp2_with (first | refine al_pk ?_ | (refine bu_pk (sackP id b) (by kernel_rfl) ?_) | (refine qas (q:=sackP id b) (old:=Pk.zero) (heap_alloc2_new _ _ _) rfl rfl ?_;intro w9 B9 b9) | (refine qas (q:=sackP id b) (old:=Pk.zero) (heap_alloc_new _ _) rfl rfl ?_;intro w9 B9 b9) | fail)
 refine qam rfl rfl B9 rfl ⟨rfl,?_⟩;exact (((Below.refl _ _).alloc (Nat.le_refl _) _).alloc (by simp) _).trans (b9.mono (by first | omega | simp))
def unsP (id:Int) (b:Sl):Pk:={ Pk.zero with id:=id,nam:=b }
theorem named_uns (id:Int) (b:Sl) (w:World):Calls Tryz.prog 259 #[.agg (#[.int .i64 id,.slice b.a b.n b.c])] w fun e w'=>e=.returned (.agg (unsP id b).cells)∧Below w.heap.size w w':=by
 go_enter Tryz.func259,Tryz.ntmps259;go_wp2_with (first | refine al_pk ?_ | (refine bu_pk (unsP id b) (by kernel_rfl) ?_) | (refine qas (q:=unsP id b) (old:=Pk.zero) (heap_alloc2_new _ _ _) rfl rfl ?_;intro w9 B9 b9) | (refine qas (q:=unsP id b) (old:=Pk.zero) (heap_alloc_new _ _) rfl rfl ?_;intro w9 B9 b9) | fail)
 refine qam rfl rfl B9 rfl ⟨rfl,?_⟩;exact (((Below.refl _ _).alloc (Nat.le_refl _) _).alloc (by simp) _).trans (b9.mono (by first | omega | simp))
def noP  : Pk:=Pk.zero
theorem qsa  (w:World):Calls Tryz.prog 264 #[.agg (#[])] w fun e w'=>e=.returned (.agg (noP ).cells)∧Below w.heap.size w w':=by
 go_enter Tryz.func264,Tryz.ntmps264;go_wp2_with (first | refine al_pk ?_ | (refine bu_pk (noP ) (by kernel_rfl) ?_) | (refine qas (q:=noP ) (old:=Pk.zero) (heap_alloc2_new _ _ _) rfl rfl ?_;intro w9 B9 b9) | (refine qas (q:=noP ) (old:=Pk.zero) (heap_alloc_new _ _) rfl rfl ?_;intro w9 B9 b9) | fail)
 refine qam rfl rfl B9 rfl ⟨rfl,?_⟩;exact (((Below.refl _ _).alloc (Nat.le_refl _) _).alloc (by simp) _).trans (b9.mono (by first | omega | simp))

def Cur (w:World) (g:Nat) (ao:Option Addr) (n cap:Nat) (l:List UInt8):Prop :=
 ∃i h:Int,w.heap[g]? = some (.cells #[.slice ao n cap,.int .i64 i,.int .i64 h] 117 (0,0))∧0≤i∧i≤n∧RdIn w ao n cap l∧(0<n→∀a,ao=some a→a.block<g)

theorem qbr {w:World} {g:Nat} {cs:Array Value} {t:TypeId} {fz:Nat×Nat} (h:w.heap[g]? = some (.cells cs t fz)) (j:Nat):w.cell? ⟨g,j,none⟩ = cs[j]?:=by
 simp[World.cell?,h]

theorem cur_new {ao:Option Addr} {n cap:Nat} {l:List UInt8} (w:World) (hr:RdIn w ao n cap l) (h:Int):Cur (w.alloc (.cells #[.slice ao n cap,.int .i64 0,.int .i64 h] 117)) w.heap.size ao n cap l:=by
 refine⟨0,h,heap_alloc_new w _,Int.le_refl _,by omega,hr.alloc _,fun hn a e=>?_⟩;obtain⟨b,off,e',hc⟩:=hr.1.2 0 hn;rw[e] at e';simp at e';subst e';exact World.block_lt_of_cell? w _ hc

theorem qaf {w:World} {g:Nat} {cs:Array Value} {t:TypeId} {fz:Nat×Nat} (h:w.heap[g]? = some (.cells cs t fz)) (j:Nat) (u:Value) :
  (w.setCell ⟨g,j,none⟩ u).heap[g]? = some (.cells (cs.setIfInBounds j u) t fz):=by
 simp[World.setCell,Array.getElem?_modify,h]

theorem RdIn.grown' {w w':World} {ao:Option Addr} {n cap:Nat} {l:List UInt8} {row:Option Nat} (h:RdIn w ao n cap l) (hg:w.grownBy w' row) (hne:0<n→∀a,ao=some a→some a.block≠row):RdIn w' ao n cap l:=by
 refine⟨⟨h.1.1,fun i hi=>?_⟩,h.2⟩;obtain⟨b,off,e,hc⟩:=h.1.2 i hi;exact⟨b,off,e,hg.cell hc (show some b≠row from hne (by omega) ⟨b,off,none⟩ e)⟩

theorem qai (w:World) (g j:Nat) (u:Value):w.grownBy (w.setCell ⟨g,j,none⟩ u) (some g) :=
 ⟨rfl,rfl,rfl,by simp[World.setCell],fun q hq hne=>Below.heap_setCell _ _ _ q (fun e=>hne (by rw[e]))⟩
theorem qap {a b c:World} {row:Option Nat} (h:a.grownBy b row) (k:b.grownBy c row):a.grownBy c row :=
 ⟨k.os.trans h.os,k.tape.trans h.tape,k.output.trans h.output,Nat.le_trans h.size k.size,fun q hq hne=>(k.block q (Nat.lt_of_lt_of_le hq h.size) hne).trans (h.block q hq hne)⟩
theorem qii {a b:World} {row:Option Nat} (h:a.grownBy b row) (q:Nat):a.grownBy (b.drewN q) row:=by
 have e:=below_drewN (B:=b.heap.size) (Below.refl _ b) q;exact⟨e.os.trans h.os,e.tape.trans h.tape,e.output.trans h.output,Nat.le_trans h.size e.size,fun k hk hne=>(e.block k (Nat.lt_of_lt_of_le hk h.size)).trans (h.block k hk hne)⟩

theorem cur_step {w w':World} {g:Nat} {ao:Option Addr} {n cap:Nat} {l:List UInt8} {i h:Int} (hg:w.grownBy w' (some g)) (hr:RdIn w ao n cap l) (hne:0<n→∀a,ao=some a→a.block<g)
  (hh:w'.heap[g]? = some (.cells #[.slice ao n cap,.int .i64 i,.int .i64 h] 117 (0,0))) (h0:0≤i) (h1:i≤n):Cur w' g ao n cap l :=
 ⟨i,h,hh,h0,h1,hr.grown' hg (fun hn a e he=>by have:=hne hn a e;simp at he;omega),hne⟩

theorem qme (w:World) (q g:Nat):(w.drewN q).heap[g]? = w.heap[g]?:=by
 induction q generalizing w with
 |zero=>rfl
 |succ q ih=>exact ih w.drew

theorem new_sl1New (ao:Option Addr) (n cap:Nat) (l:List UInt8) (w:World) (hr:RdIn w ao n cap l) (hn:n≤1048576) :
  Calls Tryz.prog 61 #[.slice ao n cap] w fun e w'=>e=.returned (.pointer (some ⟨w.heap.size,0,none⟩))∧Cur w' w.heap.size ao n cap l∧Below w.heap.size w w':=by
 go_enter Tryz.func61,Tryz.ntmps61;go_wp2
 go_loop [3,4] (fun h i=>∃(k:Nat) (z:Int),i=.int .i64 k∧h=.int .i64 z∧k≤n) (fun _ i=>n-(intOf i).toNat)
 case atStart=>exact⟨0,_,rfl,rfl,Nat.zero_le _⟩
 case round=>
  obtain⟨k,z,rfl,rfl,hk⟩:=hrel
  by_cases hlt:k<n
  ·by_cases h4:k<4000
   ·obtain⟨b,off,e,hc⟩:=hr.1.2 k hlt;subst e;have h1:(k:Int)<n:=by omega
    have h2:(k:Int)<4000:=by omega
    go_wp2
    go_round
    case rel=>exact⟨k+1,_,by go_num,rfl,by omega⟩
    case measure=>simp[intOf];omega
   ·have h1:(k:Int)<n:=by omega
    have h2:¬(k:Int)<4000:=by omega
    go_wp2;go_ret;exact⟨rfl,cur_new w hr _,(Below.refl _ _).alloc (Nat.le_refl _) _⟩
  ·have h1:¬(k:Int)<n:=by omega
   go_wp2;go_ret;exact⟨rfl,cur_new w hr _,(Below.refl _ _).alloc (Nat.le_refl _) _⟩

theorem cur_end1 {w:World} {g:Nat} {ao:Option Addr} {n cap:Nat} {l:List UInt8} {i h:Int} (hg:w.heap[g]? = some (.cells #[.slice ao n cap,.int .i64 i,.int .i64 h] 117 (0,0))) (hr:RdIn w ao n cap l)
  (hne:0<n→∀a,ao=some a→a.block<g) (h0:0≤i) (h1:i≤n) (V:Int) (q q':Nat) :
  Cur (((w.setCell ⟨g,2,none⟩ (.int .i64 V)).drewN q).drewN q') g ao n cap l∧w.grownBy (((w.setCell ⟨g,2,none⟩ (.int .i64 V)).drewN q).drewN q') (some g):=by
 have k1:w.grownBy (((w.setCell ⟨g,2,none⟩ (.int .i64 V)).drewN q).drewN q') (some g):=qii (qii (qai _ _ _ _) _) _;refine⟨cur_step (i:=i) (h:=V) k1 hr hne ?_ h0 h1,k1⟩;rw[qme,qme];exact qaf hg 2 _

theorem cur_end2 {w:World} {g:Nat} {ao:Option Addr} {n cap:Nat} {l:List UInt8} {i h:Int} (hg:w.heap[g]? = some (.cells #[.slice ao n cap,.int .i64 i,.int .i64 h] 117 (0,0))) (hr:RdIn w ao n cap l)
  (hne:0<n→∀a,ao=some a→a.block<g) (V i':Int) (h0:0≤i') (h1:i'≤n) (q:Nat) :
  Cur (((w.setCell ⟨g,2,none⟩ (.int .i64 V)).drewN q).setCell ⟨g,1,none⟩ (.int .i64 i')) g ao n cap l∧w.grownBy (((w.setCell ⟨g,2,none⟩ (.int .i64 V)).drewN q).setCell ⟨g,1,none⟩ (.int .i64 i')) (some g):=by
 have k1:w.grownBy (((w.setCell ⟨g,2,none⟩ (.int .i64 V)).drewN q).setCell ⟨g,1,none⟩ (.int .i64 i')) (some g):=qap (qii (qai _ _ _ _) _) (qai _ _ _ _);refine⟨cur_step (i:=i') (h:=V) k1 hr hne ?_ h0 h1,k1⟩;have k2:((w.setCell ⟨g,2,none⟩ (.int .i64 V)).drewN q).heap[g]? = some (.cells #[.slice ao n cap,.int .i64 i,.int .i64 V] 117 (0,0)):=by
  rw[qme];exact qaf hg 2 _
 exact qaf k2 1 _

theorem qea (g:Nat) (ao:Option Addr) (n cap:Nat) (l:List UInt8) (w:World) (hc:Cur w g ao n cap l) (hn:n≤1048576) :
  Calls Tryz.prog 126 #[.pointer (some ⟨g,0,none⟩)] w fun e w'=>∃x:Int,0≤x∧x<256∧e=.returned (.int .i64 x)∧Cur w' g ao n cap l∧w.grownBy w' (some g):=by
 obtain⟨i,h,hg,hi0,hin,hr,hne⟩:=hc;have c0:w.cell? ⟨g,0,none⟩ = some (.slice ao n cap):=by rw[qbr hg];rfl
 have c1:w.cell? ⟨g,1,none⟩ = some (.int .i64 i):=by rw[qbr hg];rfl
 have c2:w.cell? ⟨g,2,none⟩ = some (.int .i64 h):=by rw[qbr hg];rfl
 have f1:w.frozen? ⟨g,1,none⟩ = false:=by simp[World.frozen?,hg]
 have f2:w.frozen? ⟨g,2,none⟩ = false:=by simp[World.frozen?,hg]
 have HG:Hid (w.heap[g]? = some (.cells #[.slice ao n cap,.int .i64 i,.int .i64 h] 117 (0,0))):=hg;clear hg;have hm:=qvd
 by_cases hlt:i<n
 ·obtain⟨k,rfl⟩:=Int.eq_ofNat_of_zero_le hi0;obtain⟨b,off,e,hcb⟩:=hr.1.2 k (by omega);subst e;have hbg:b≠g:=fun e=>by have:b<g:=hne (by omega) _ rfl;omega
  have hcs:∀j v,(w.setCell ⟨g,j,none⟩ v).cell? ⟨b,off+k,none⟩ = some (.int .u8 (bt l k)):=fun j v=>by
   rw[World.cell?_setCell_other _ _ _ _ (fun e=>hbg (by simpa using (congrArg Addr.block e).symm))];exact hcb
  have hlt':(k:Int)<(n:Int):=hlt;have k0:(0:Int)≤(k:Int):=by omega
  go_enter Tryz.func126,Tryz.ntmps126;go_wp2
  go_quiet (fail)
  go_wp2
  go_quiet (fail)
  go_wp2
  go_quiet (fail)
  go_wp2;go_ret;exact⟨_,Int.emod_nonneg _ (by decide),Int.emod_lt_of_pos _ (by decide),rfl,cur_end2 HG.out hr hne _ _ (by omega) (by omega) _⟩
 ·have hlt':¬i<(n:Int):=hlt;go_enter Tryz.func126,Tryz.ntmps126;go_wp2
  go_quiet (fail)
  go_wp2
  go_quiet (fail)
  go_wp2;go_ret;exact⟨_,Int.emod_nonneg _ (by decide),Int.emod_lt_of_pos _ (by decide),rfl,cur_end1 HG.out hr hne hi0 hin _ _ _⟩

theorem qah (g:Nat) (ao:Option Addr) (n cap:Nat) (l:List UInt8) (m:Int) (w:World) (hc:Cur w g ao n cap l) (hn:n≤1048576) (h0:0<m) (h1:m≤1048576) :
  Calls Tryz.prog 78 #[.pointer (some ⟨g,0,none⟩),.int .i64 m] w fun e w'=>∃x:Int,0≤x∧x<m∧e=.returned (.int .i64 x)∧Cur w' g ao n cap l∧w.grownBy w' (some g):=by
 have hm0:¬m≤0:=by omega
 by_cases h256:m≤256
 ·go_enter Tryz.func78,Tryz.ntmps78;go_wp2_with fail
  refine (qea g ao n cap l _ hc hn).mono ?_;rintro e w1 ⟨x,hx0,hx1,rfl,hc1,hg1⟩;have hz:(m==0)=false:=by simp;omega
  go_wp2;go_ret;exact⟨x%m,Int.emod_nonneg _ (by omega),Int.emod_lt_of_pos _ h0,rfl,hc1,hg1⟩
 ·have hz:(m==0)=false:=by simp;omega
  go_enter Tryz.func78,Tryz.ntmps78;go_wp2_with fail
  refine (qea g ao n cap l _ hc hn).mono ?_;rintro e w1 ⟨x,hx0,hx1,rfl,hc1,hg1⟩;go_wp2_with fail
  refine (qea g ao n cap l _ hc1 hn).mono ?_;rintro e w2 ⟨y,hy0,hy1,rfl,hc2,hg2⟩;go_wp2_with fail
  refine (qea g ao n cap l _ hc2 hn).mono ?_;rintro e w3 ⟨z,hz0,hz1,rfl,hc3,hg3⟩;go_wp2;go_ret;exact⟨(x*65536+y*256+z)%m,Int.emod_nonneg _ (by omega),Int.emod_lt_of_pos _ h0,rfl,hc3,qap hg1 (qap hg2 hg3)⟩

theorem qbq (g:Nat) (ao:Option Addr) (n cap:Nat) (l:List UInt8) (m:Int) (w:World) (hc:Cur w g ao n cap l) (hn:n≤1048576) (h0:0<m) (h1:m≤1048576) :
  Calls Tryz.prog 84 #[.pointer (some ⟨g,0,none⟩),.int .i64 m] w fun e w'=>∃b:Bool,e=.returned (.bool b)∧Cur w' g ao n cap l∧w.grownBy w' (some g):=by
 go_enter Tryz.func84,Tryz.ntmps84;go_wp2_with fail
 refine (qah g ao n cap l m _ hc hn h0 h1).mono ?_;rintro e w1 ⟨x,hx0,hx1,rfl,hc1,hg1⟩;go_wp2;go_ret;exact⟨_,rfl,hc1,hg1⟩

theorem qez (g:Nat) (ao:Option Addr) (n cap:Nat) (l:List UInt8) (b m c:Nat) (zs:List Int) (w:World) (hc:Cur w g ao n cap l) (hn:n≤1048576) (h0:0<m) (h1:m≤1048576) (hz:zs.length=m)
  (hcell:∀i,i<m→w.cell? ⟨b,i,none⟩ = some (.int .i64 (zs.getD i 0))) (hbg:b≠g) :
  Calls Tryz.prog 79 #[.pointer (some ⟨g,0,none⟩),.slice (some ⟨b,0,none⟩) m c] w fun e w'=>∃x:Int,x∈zs∧e=.returned (.int .i64 x)∧Cur w' g ao n cap l∧w.grownBy w' (some g):=by
 have HC:Hid (∀i,i<m→w.cell? ⟨b,i,none⟩ = some (.int .i64 (zs.getD i 0))):=hcell;clear hcell;have HZ:Hid (zs.length=m):=hz;clear hz;go_enter Tryz.func79,Tryz.ntmps79;go_wp2_with fail
 refine (qah g ao n cap l m _ hc hn (by omega) (by omega)).mono ?_;rintro e w1 ⟨x,hx0,hx1,rfl,hc1,hg1⟩;obtain⟨k,rfl⟩:=Int.eq_ofNat_of_zero_le hx0;have hk:k<m:=by omega
 have hck:w1.cell? ⟨b,k,none⟩ = some (.int .i64 (zs.getD k 0)):=hg1.cell (HC.out k hk) (show some b≠some g from fun e=>hbg (by simpa using e));obtain⟨z,hz⟩ : ∃z,zs.getD k 0=z:=⟨_,rfl⟩;rw[hz] at hck;have HM:Hid (z∈zs):=by
  have e:zs.getD k 0=zs[k]'(by rw[HZ.out];exact hk):=by simp[List.getD_eq_getElem?_getD,List.getElem?_eq_getElem (show k<zs.length by rw[HZ.out];exact hk)]
  rw[←hz,e];exact List.getElem_mem _
 clear hz;go_wp2;go_ret;exact⟨z,HM.out,rfl,hc1,hg1⟩

theorem qmv (g:Nat) (ao:Option Addr) (n cap:Nat) (l:List UInt8) (b m c:Nat) (zs:List ByteArray) (w:World) (hc:Cur w g ao n cap l) (hn:n≤1048576) (h0:0<m) (h1:m≤1048576) (hz:zs.length=m)
  (hcell:∀i,i<m→w.cell? ⟨b,i,none⟩ = some (.string (zs.getD i ByteArray.empty))) (hbg:b≠g) :
  Calls Tryz.prog 146 #[.pointer (some ⟨g,0,none⟩),.slice (some ⟨b,0,none⟩) m c] w fun e w'=>∃x:ByteArray,x∈zs∧e=.returned (.string x)∧Cur w' g ao n cap l∧w.grownBy w' (some g):=by
 have HC:Hid (∀i,i<m→w.cell? ⟨b,i,none⟩ = some (.string (zs.getD i ByteArray.empty))):=hcell;clear hcell;have HZ:Hid (zs.length=m):=hz;clear hz;go_enter Tryz.func146,Tryz.ntmps146;go_wp2_with fail
 refine (qah g ao n cap l m _ hc hn (by omega) (by omega)).mono ?_;rintro e w1 ⟨x,hx0,hx1,rfl,hc1,hg1⟩;obtain⟨k,rfl⟩:=Int.eq_ofNat_of_zero_le hx0;have hk:k<m:=by omega
 have hck:w1.cell? ⟨b,k,none⟩ = some (.string (zs.getD k ByteArray.empty)):=hg1.cell (HC.out k hk) (show some b≠some g from fun e=>hbg (by simpa using e));obtain⟨z,hz⟩ : ∃z,zs.getD k ByteArray.empty=z:=⟨_,rfl⟩;rw[hz] at hck;have HM:Hid (z∈zs):=by
  have e:zs.getD k ByteArray.empty=zs[k]'(by rw[HZ.out];exact hk):=by simp[List.getD_eq_getElem?_getD,List.getElem?_eq_getElem (show k<zs.length by rw[HZ.out];exact hk)]
  rw[←hz,e];exact List.getElem_mem _
 clear hz;go_wp2;go_ret;exact⟨z,HM.out,rfl,hc1,hg1⟩

theorem Cur.keep {w w':World} {g:Nat} {ao:Option Addr} {n cap:Nat} {l:List UInt8} {row:Option Nat} (h:Cur w g ao n cap l) (hg:w.grownBy w' row) (hrow:∀k,row=some k→g<k):Cur w' g ao n cap l:=by
 obtain⟨i,z,hh,h0,h1,hr,hne⟩:=h;have hlt:g<w.heap.size:=(Array.getElem?_eq_some_iff.1 hh).1;refine⟨i,z,?_,h0,h1,hr.grown' hg (fun hn a e he=>by have:=hne hn a e;have:=hrow _ he.symm;omega),hne⟩;rw[hg.block g hlt (fun e=>by have:=hrow g e.symm;omega)];exact hh
theorem Cur.lt {w:World} {g:Nat} {ao:Option Addr} {n cap:Nat} {l:List UInt8} (h:Cur w g ao n cap l):g<w.heap.size:=by
 obtain⟨i,z,hh,_⟩:=h;exact (Array.getElem?_eq_some_iff.1 hh).1
theorem Cur.alloc {w:World} {g:Nat} {ao:Option Addr} {n cap:Nat} {l:List UInt8} (h:Cur w g ao n cap l) (o:Obj):Cur (w.alloc o) g ao n cap l:=h.keep (World.grownBy_alloc w o none) (fun k e=>by cases e)
theorem Cur.own {w w':World} {g B:Nat} {ao:Option Addr} {n cap:Nat} {l:List UInt8} {a:Option Addr} {m c:Nat} {x:List UInt8} (h:Cur w g ao n cap l) (ho:Own w B a m c x) (hB:g<B) (hg:w.grownBy w' (Value.slice a m c).ownBlock):Cur w' g ao n cap l :=
 h.keep hg (fun k e=>by have:=(ho.2.lt k e).1;omega)
theorem Own.cur {w w':World} {g B:Nat} {a:Option Addr} {m c:Nat} {x:List UInt8} (h:Own w B a m c x) (hB:g<B) (hg:w.grownBy w' (some g)):Own w' B a m c x :=
 h.grown hg (fun d e he=>by have:=h.block e;simp at he;omega)

theorem qge {w u:World} {g:Nat} (h:w.grownBy u (some g)) (o:Obj):w.grownBy (u.alloc o) (some g) :=
 ⟨h.os,h.tape,h.output,by have:=h.size;simp;omega,fun k hk hne=>(Below.heap_alloc u o k (Nat.lt_of_lt_of_le hk h.size)).trans (h.block k hk hne)⟩
theorem qhm {w u u':World} {g B:Nat} {a:Option Addr} {m c:Nat} {x:List UInt8} (h:w.grownBy u (some g)) (ho:Own u B a m c x) (hB:w.heap.size≤B) (hg:u.grownBy u' (Value.slice a m c).ownBlock):w.grownBy u' (some g) :=
 ⟨hg.os.trans h.os,hg.tape.trans h.tape,hg.output.trans h.output,Nat.le_trans h.size hg.size,fun k hk hne=>(hg.block k (Nat.lt_of_lt_of_le hk h.size) (fun e=>by have:=(ho.2.lt k e.symm).1;omega)).trans (h.block k hk hne)⟩
theorem qcb {w u u':World} {g:Nat} (h:w.grownBy u (some g)) (hb:Below u.heap.size u u'):w.grownBy u' (some g) :=
 ⟨hb.os.trans h.os,hb.tape.trans h.tape,hb.output.trans h.output,Nat.le_trans h.size hb.size,fun k hk hne=>(hb.block k (Nat.lt_of_lt_of_le hk h.size)).trans (h.block k hk hne)⟩
theorem Cur.below {w w':World} {g:Nat} {ao:Option Addr} {n cap:Nat} {l:List UInt8} (h:Cur w g ao n cap l) (hb:Below w.heap.size w w'):Cur w' g ao n cap l :=
 h.keep (row:=none) ⟨hb.os,hb.tape,hb.output,hb.size,fun k hk _=>hb.block k hk⟩ (fun k e=>by cases e)

theorem rd_one (w:World) (x:Int) (h0:0≤x) (h1:x<256):∃y:List UInt8,y.length=1∧RdIn (w.alloc (.cells #[.int .u8 x] 5)) (some ⟨w.heap.size,0,none⟩) 1 1 y:=by
 refine⟨[UInt8.ofNat x.toNat],rfl,⟨rfl,fun i hi=>⟨_,_,rfl,?_⟩⟩,Nat.le_refl _,by unfold maxLen;omega,fun h=>by simp at h⟩;obtain rfl:i=0:=by omega
 have e:((bt [UInt8.ofNat x.toNat] 0:Nat):Int)=x:=by
  show (((UInt8.ofNat x.toNat).toNat:Nat):Int)=x;simp;omega
 rw[e];simp

theorem qdd (g:Nat) (ao:Option Addr) (n cap:Nat) (l:List UInt8) (m:Nat) (w:World) (hc:Cur w g ao n cap l) (hn:n≤1048576) (hm:m≤1048576) :
  Calls Tryz.prog 111 #[.pointer (some ⟨g,0,none⟩),.int .i64 m] w fun e w'=>∃a c x,e=.returned (.slice a m c)∧Own w' w.heap.size a m c x∧Cur w' g ao n cap l∧w.grownBy w' (some g):=by
 have hlt:=hc.lt;go_enter Tryz.func111,Tryz.ntmps111;go_wp2
 go_loopw [5,6] (fun v i wr=>∃(k:Nat) (a:Option Addr) (c:Nat) (x:List UInt8),i=.int .i64 k∧v=.slice a k c∧k≤m∧Own wr w.heap.size a k c x∧Cur wr g ao n cap l∧w.grownBy wr (some g)) (fun _ i _=>m-(intOf i).toNat)
 case atStart=>exact⟨0,_,_,[],rfl,rfl,Nat.zero_le _,qbm w,hc.alloc _,World.grownBy_alloc _ _ _⟩
 case round=>
  obtain⟨k,a,c,x,rfl,rfl,hk,ho,hcu,hg⟩:=hrel
  by_cases hlm:k<m
  ·have h1:(k:Int)<m:=by omega
   go_wp2_with fail
   refine (qea g ao n cap l _ hcu hn).mono ?_;rintro e w1 ⟨y,hy0,hy1,rfl,hc1,hg1⟩;have ho1:=ho.cur hlt hg1;have hG1:=qap hg hg1;obtain⟨z,hzl,hrz⟩:=rd_one w1 y hy0 hy1;clear ho hcu hg hg1;go_wp2_with (at_builtin;refine w_app _ rfl _ _ rfl w.heap.size _ _ _ x rfl (ho1.alloc _) _ _ _ z rfl hrz (by omega) (by have:=hG1.size;simp;omega) ?_)
   intro a2 c2 w2 ho2 hg2;have hc2:=(hc1.alloc _).own (ho1.alloc _) hlt hg2;have hG2:=qhm (qge hG1 _) (ho1.alloc _) (Nat.le_refl _) hg2;clear hg2 hrz ho1 hG1 hc1;go_wp2;go_roundw
   case rel=>exact⟨k+1,a2,c2,_,by go_num,rfl,by omega,ho2,hc2,hG2⟩
   case measure=>simp[intOf];omega
  ·have h1:¬(k:Int)<m:=by omega
   obtain rfl:k=m:=by omega
   go_wp2;go_ret;exact⟨a,c,rfl,⟨x,ho⟩,hcu,hg⟩


theorem qmw (w:World) (zs:List ByteArray) (t:TypeId) (i:Nat) (h:i<zs.length):(w.alloc (.cells (zs.map Value.string).toArray t)).cell? ⟨w.heap.size,i,none⟩ = some (.string (zs.getD i ByteArray.empty)):=by
 rw[qbr (heap_alloc_new w _)];simp[List.getD_eq_getElem?_getD,List.getElem?_eq_getElem h]
theorem ints_cells (w:World) (zs:List Int) (t:TypeId) (i:Nat) (h:i<zs.length):(w.alloc (.cells (zs.map (Value.int .i64)).toArray t)).cell? ⟨w.heap.size,i,none⟩ = some (.int .i64 (zs.getD i 0)):=by
 rw[qbr (heap_alloc_new w _)];simp[List.getD_eq_getElem?_getD,List.getElem?_eq_getElem h]

theorem Own.cut {w:World} {B:Nat} {a:Option Addr} {n c:Nat} {x:List UInt8} (h:Own w B a n c x) (k:Nat) (hk:k≤n):Own w B a k c (x.take k):=by
 obtain⟨hl,h1,h2⟩:=h;refine⟨by simp;omega,by rw[qjh];simp;omega,?_⟩
 rcases h2 with ⟨e,h0⟩ | ⟨g,c',cur,e,hB,hg,hc,hm,hs,ht⟩
 ·simp only[Value.slice.injEq] at e;obtain⟨rfl,_,rfl⟩:=e;obtain rfl:k=0:=by omega
  exact .inl ⟨rfl,rfl⟩
 ·simp only[Value.slice.injEq] at e;obtain⟨rfl,_,rfl⟩:=e;refine .inr ⟨g,c,cur,rfl,hB,hg,by omega,hm,hs,?_⟩;have e2:bvals (x.take k)=(bvals x).take k:=by simp[bvals,List.map_take]
  rw[e2,←ht,List.take_take]
  congr 1
  omega

theorem Own.storeI {w:World} {B:Nat} {g n cap:Nat} {l:List UInt8} (h:Own w B (some ⟨g,0,none⟩) n cap l) (j:Nat) (V:Int) (h0:0≤V) (h1:V<256) :
  Own (w.setCell ⟨g,j,none⟩ (.int .u8 V)) B (some ⟨g,0,none⟩) n cap (l.set j (UInt8.ofNat V.toNat)):=by
 have:=h.store j (UInt8.ofNat V.toNat);have e:(((UInt8.ofNat V.toNat).toNat:Nat):Int)=V:=by simp;omega
 rw[e] at this;exact this

theorem qmu (ao:Option Addr) (n cap j:Nat) (h:j≤cap) (w':World):(Instr.slice 22 (.slice ao n cap) none (some (.int .i64 (j:Int))) none).run Tryz.prog w'=.ok (.slice ao j cap) w':=by
 obtain⟨i0,hi,hz0,hz1,hz2⟩:=info_parts info5;have he:Tryz.prog.elem 22=5:=by kernel_rfl
 have ht:Tryz.prog.underlying 22=some (.slice (Tryz.prog.elem 22)):=by rw[he];exact Tryz.underlying22
 have hs:=run_slice_h (P:=Tryz.prog) w' 22 ao n cap ht .i64 (j:Int) (by omega) (by omega);rw[hs,he];simp only[sizeOf,typeInfo,Sem.run_bind,Sem.run_pure,hi,hz1,Result.andThen_ok,sliced,Int.toNat_natCast];simp[hi,hz1,Result.andThen,sliced]
 by_cases hc:cap=0
 ·simp[hc]
 ·cases ao<;>simp[hc,Addr.add]

theorem Cur.drew {w:World} {g:Nat} {ao:Option Addr} {n cap:Nat} {l:List UInt8} (h:Cur w g ao n cap l):Cur w.drew g ao n cap l:=h
theorem Own.drew {w:World} {B:Nat} {a:Option Addr} {n c:Nat} {x:List UInt8} (h:Own w B a n c x):Own w.drew B a n c x:=h
theorem qne {w w':World} {row:Option Nat} (h:w.drew.grownBy w' row):w.grownBy w' row:=⟨h.os,h.tape,h.output,h.size,h.block⟩


theorem RdIn.cur {w w':World} {g:Nat} {a:Option Addr} {m c:Nat} {x:List UInt8} (h:RdIn w a m c x) (hne:∀d,a=some d→g<d.block) (hg:w.grownBy w' (some g)):RdIn w' a m c x :=
 h.grown hg (fun d e he=>by have:=hne d e;simp at he;omega)

theorem big_lbig (ao:Option Addr) (n cap:Nat) (b:Bool) (w:World) (h:decide (1048576<n)=b) :
  Calls Tryz.prog 13 #[.slice ao n cap] w fun e w'=>e=.returned (.bool b)∧w'=w:=by
 subst h;go_enter Tryz.func13,Tryz.ntmps13;go_wp2;go_ret;exact⟨qad (by simp;omega),rfl⟩

theorem same_lsame (a b:Option Addr) (m c m' c':Nat) (x:List UInt8) (w:World) (h1:RdIn w a m c x) (h2:RdIn w b m' c' x) :
  Calls Tryz.prog 28 #[.slice a m c,.slice b m' c'] w fun e w'=>e=.returned (.bool true)∧w'=w:=by
 have e1:=qgb h1;have e2:=qgb h2;go_enter Tryz.func28,Tryz.ntmps28;go_wp2;go_ret;exact⟨by simp,rfl⟩

