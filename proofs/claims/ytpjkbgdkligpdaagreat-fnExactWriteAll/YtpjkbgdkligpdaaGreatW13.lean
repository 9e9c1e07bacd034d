/- Lemmas. -/
import Derived.Test.YtpjkbgdkligpdaaGreatW10
set_option linter.unusedVariables false
set_option linter.unusedSimpArgs false
set_option maxRecDepth 100000
set_option maxHeartbeats 20000000
namespace Go.Proofs.YtpjkbgdkligpdaaGreat
open Go.RowKit

def zv (P:Program) (t:TypeId):Value:=((P.info? t).bind (fun i=>i.zero)).getD undef
theorem zero_run (P:Program) (t:TypeId) (h:((P.info? t).bind (fun i=>i.zero)).isSome=true) (w:World):(zeroValue t).run P w=.ok (zv P t) w:=by
 unfold zv;cases hi:P.info? t with
 |none=>simp[hi] at h
 |some i=>
  cases hz:i.zero with
  |none=>simp[hi,hz] at h
  |some z=>simp[zeroValue,typeInfo,hi,hz,Sem.run_bind]
theorem ta_no {P:Program} {T U X:TypeId} {fs:Array Field} (hne:T≠U) (hu:P.underlying U=some (.struct fs)) (hz:((P.info? U).bind (fun i=>i.zero)).isSome=true) (v:Value) (w:World) :
  (Instr.typeAssert (.iface T v) X U true).run P w=.ok (.tuple #[zv P U,.bool false]) w:=by
 simp[Instr.typeAssert,Sem.run_bind,run_underlying hu,hne,zero_run P U hz]
theorem qcw {P:Program} {U X:TypeId} {fs:Array Field} (hu:P.underlying U=some (.struct fs)) (v:Value) (w:World) :
  (Instr.typeAssert (.iface U v) X U true).run P w=.ok (.tuple #[v,.bool true]) w:=by
 simp[Instr.typeAssert,Sem.run_bind,run_underlying hu]
theorem qat:((Tryz.prog.info? 84).bind (fun i=>i.zero)).isSome=true:=by kernel_rfl
theorem qav:((Tryz.prog.info? 87).bind (fun i=>i.zero)).isSome=true:=by kernel_rfl
theorem qai:((Tryz.prog.info? 89).bind (fun i=>i.zero)).isSome=true:=by kernel_rfl
theorem qbh:((Tryz.prog.info? 94).bind (fun i=>i.zero)).isSome=true:=by kernel_rfl
theorem qbj:((Tryz.prog.info? 95).bind (fun i=>i.zero)).isSome=true:=by kernel_rfl
theorem qaq:((Tryz.prog.info? 96).bind (fun i=>i.zero)).isSome=true:=by kernel_rfl
theorem qbr:((Tryz.prog.info? 97).bind (fun i=>i.zero)).isSome=true:=by kernel_rfl
theorem qam:((Tryz.prog.info? 99).bind (fun i=>i.zero)).isSome=true:=by kernel_rfl
theorem qcp:((Tryz.prog.info? 101).bind (fun i=>i.zero)).isSome=true:=by kernel_rfl
theorem qal:((Tryz.prog.info? 103).bind (fun i=>i.zero)).isSome=true:=by kernel_rfl
theorem qdm:((Tryz.prog.info? 104).bind (fun i=>i.zero)).isSome=true:=by kernel_rfl
theorem qgm:((Tryz.prog.info? 108).bind (fun i=>i.zero)).isSome=true:=by kernel_rfl
theorem qkh:((Tryz.prog.info? 109).bind (fun i=>i.zero)).isSome=true:=by kernel_rfl
theorem qfc (v:Value) (w:World):Calls Tryz.prog 59 #[.iface 84 v] w fun e w'=>e=.returned (.int .i64 1)∧w'=w:=by
 have h0:=qcw (X:=62) Tryz.underlying84;go_enter Tryz.func59,Tryz.ntmps59;go_wp2;go_ret;exact⟨rfl,rfl⟩
theorem qfb (v:Value) (w:World):Calls Tryz.prog 59 #[.iface 87 v] w fun e w'=>e=.returned (.int .i64 2)∧w'=w:=by
 have h0:=ta_no (T:=87) (X:=62) (by decide) Tryz.underlying84 qat;have h1:=qcw (X:=62) Tryz.underlying87;go_enter Tryz.func59,Tryz.ntmps59;go_wp2;go_ret;exact⟨rfl,rfl⟩
theorem qff (v:Value) (w:World):Calls Tryz.prog 59 #[.iface 89 v] w fun e w'=>e=.returned (.int .i64 3)∧w'=w:=by
 have h0:=ta_no (T:=89) (X:=62) (by decide) Tryz.underlying84 qat;have h1:=ta_no (T:=89) (X:=62) (by decide) Tryz.underlying87 qav;have h2:=qcw (X:=62) Tryz.underlying89;go_enter Tryz.func59,Tryz.ntmps59;go_wp2;go_ret;exact⟨rfl,rfl⟩
theorem qfz (v:Value) (w:World):Calls Tryz.prog 59 #[.iface 94 v] w fun e w'=>e=.returned (.int .i64 4)∧w'=w:=by
 have h0:=ta_no (T:=94) (X:=62) (by decide) Tryz.underlying84 qat;have h1:=ta_no (T:=94) (X:=62) (by decide) Tryz.underlying87 qav;have h2:=ta_no (T:=94) (X:=62) (by decide) Tryz.underlying89 qai;have h3:=qcw (X:=62) Tryz.underlying94;go_enter Tryz.func59,Tryz.ntmps59;go_wp2;go_ret;exact⟨rfl,rfl⟩
theorem qga (v:Value) (w:World):Calls Tryz.prog 59 #[.iface 95 v] w fun e w'=>e=.returned (.int .i64 5)∧w'=w:=by
 have h0:=ta_no (T:=95) (X:=62) (by decide) Tryz.underlying84 qat;have h1:=ta_no (T:=95) (X:=62) (by decide) Tryz.underlying87 qav;have h2:=ta_no (T:=95) (X:=62) (by decide) Tryz.underlying89 qai;have h3:=ta_no (T:=95) (X:=62) (by decide) Tryz.underlying94 qbh;have h4:=qcw (X:=62) Tryz.underlying95;go_enter Tryz.func59,Tryz.ntmps59;go_wp2;go_ret;exact⟨rfl,rfl⟩
theorem qgb (v:Value) (w:World):Calls Tryz.prog 59 #[.iface 96 v] w fun e w'=>e=.returned (.int .i64 6)∧w'=w:=by
 have h0:=ta_no (T:=96) (X:=62) (by decide) Tryz.underlying84 qat;have h1:=ta_no (T:=96) (X:=62) (by decide) Tryz.underlying87 qav;have h2:=ta_no (T:=96) (X:=62) (by decide) Tryz.underlying89 qai;have h3:=ta_no (T:=96) (X:=62) (by decide) Tryz.underlying94 qbh;have h4:=ta_no (T:=96) (X:=62) (by decide) Tryz.underlying95 qbj;have h5:=qcw (X:=62) Tryz.underlying96;go_enter Tryz.func59,Tryz.ntmps59;go_wp2;go_ret;exact⟨rfl,rfl⟩
theorem qfe (v:Value) (w:World):Calls Tryz.prog 59 #[.iface 97 v] w fun e w'=>e=.returned (.int .i64 7)∧w'=w:=by
 have h0:=ta_no (T:=97) (X:=62) (by decide) Tryz.underlying84 qat;have h1:=ta_no (T:=97) (X:=62) (by decide) Tryz.underlying87 qav;have h2:=ta_no (T:=97) (X:=62) (by decide) Tryz.underlying89 qai;have h3:=ta_no (T:=97) (X:=62) (by decide) Tryz.underlying94 qbh;have h4:=ta_no (T:=97) (X:=62) (by decide) Tryz.underlying95 qbj;have h5:=ta_no (T:=97) (X:=62) (by decide) Tryz.underlying96 qaq;have h6:=qcw (X:=62) Tryz.underlying97;go_enter Tryz.func59,Tryz.ntmps59;go_wp2;go_ret;exact⟨rfl,rfl⟩
theorem qdv (v:Value) (w:World):Calls Tryz.prog 59 #[.iface 99 v] w fun e w'=>e=.returned (.int .i64 8)∧w'=w:=by
 have h0:=ta_no (T:=99) (X:=62) (by decide) Tryz.underlying84 qat;have h1:=ta_no (T:=99) (X:=62) (by decide) Tryz.underlying87 qav;have h2:=ta_no (T:=99) (X:=62) (by decide) Tryz.underlying89 qai;have h3:=ta_no (T:=99) (X:=62) (by decide) Tryz.underlying94 qbh;have h4:=ta_no (T:=99) (X:=62) (by decide) Tryz.underlying95 qbj;have h5:=ta_no (T:=99) (X:=62) (by decide) Tryz.underlying96 qaq;have h6:=ta_no (T:=99) (X:=62) (by decide) Tryz.underlying97 qbr;have h7:=qcw (X:=62) Tryz.underlying99;go_enter Tryz.func59,Tryz.ntmps59;go_wp2;go_ret;exact⟨rfl,rfl⟩
theorem qgc (v:Value) (w:World):Calls Tryz.prog 59 #[.iface 101 v] w fun e w'=>e=.returned (.int .i64 9)∧w'=w:=by
 have h0:=ta_no (T:=101) (X:=62) (by decide) Tryz.underlying84 qat;have h1:=ta_no (T:=101) (X:=62) (by decide) Tryz.underlying87 qav;have h2:=ta_no (T:=101) (X:=62) (by decide) Tryz.underlying89 qai;have h3:=ta_no (T:=101) (X:=62) (by decide) Tryz.underlying94 qbh;have h4:=ta_no (T:=101) (X:=62) (by decide) Tryz.underlying95 qbj;have h5:=ta_no (T:=101) (X:=62) (by decide) Tryz.underlying96 qaq;have h6:=ta_no (T:=101) (X:=62) (by decide) Tryz.underlying97 qbr;have h7:=ta_no (T:=101) (X:=62) (by decide) Tryz.underlying99 qam;have h8:=qcw (X:=62) Tryz.underlying101;go_enter Tryz.func59,Tryz.ntmps59;go_wp2;go_ret;exact⟨rfl,rfl⟩
theorem qdj (v:Value) (w:World):Calls Tryz.prog 59 #[.iface 103 v] w fun e w'=>e=.returned (.int .i64 10)∧w'=w:=by
 have h0:=ta_no (T:=103) (X:=62) (by decide) Tryz.underlying84 qat;have h1:=ta_no (T:=103) (X:=62) (by decide) Tryz.underlying87 qav;have h2:=ta_no (T:=103) (X:=62) (by decide) Tryz.underlying89 qai;have h3:=ta_no (T:=103) (X:=62) (by decide) Tryz.underlying94 qbh;have h4:=ta_no (T:=103) (X:=62) (by decide) Tryz.underlying95 qbj;have h5:=ta_no (T:=103) (X:=62) (by decide) Tryz.underlying96 qaq;have h6:=ta_no (T:=103) (X:=62) (by decide) Tryz.underlying97 qbr;have h7:=ta_no (T:=103) (X:=62) (by decide) Tryz.underlying99 qam;have h8:=ta_no (T:=103) (X:=62) (by decide) Tryz.underlying101 qcp;have h9:=qcw (X:=62) Tryz.underlying103;go_enter Tryz.func59,Tryz.ntmps59;go_wp2;go_ret;exact⟨rfl,rfl⟩
theorem qem (v:Value) (w:World):Calls Tryz.prog 59 #[.iface 104 v] w fun e w'=>e=.returned (.int .i64 11)∧w'=w:=by
 have h0:=ta_no (T:=104) (X:=62) (by decide) Tryz.underlying84 qat;have h1:=ta_no (T:=104) (X:=62) (by decide) Tryz.underlying87 qav;have h2:=ta_no (T:=104) (X:=62) (by decide) Tryz.underlying89 qai;have h3:=ta_no (T:=104) (X:=62) (by decide) Tryz.underlying94 qbh;have h4:=ta_no (T:=104) (X:=62) (by decide) Tryz.underlying95 qbj;have h5:=ta_no (T:=104) (X:=62) (by decide) Tryz.underlying96 qaq;have h6:=ta_no (T:=104) (X:=62) (by decide) Tryz.underlying97 qbr;have h7:=ta_no (T:=104) (X:=62) (by decide) Tryz.underlying99 qam;have h8:=ta_no (T:=104) (X:=62) (by decide) Tryz.underlying101 qcp;have h9:=ta_no (T:=104) (X:=62) (by decide) Tryz.underlying103 qal;have h10:=qcw (X:=62) Tryz.underlying104;go_enter Tryz.func59,Tryz.ntmps59;go_wp2;go_ret;exact⟨rfl,rfl⟩
theorem qfd (v:Value) (w:World):Calls Tryz.prog 59 #[.iface 108 v] w fun e w'=>e=.returned (.int .i64 12)∧w'=w:=by
 have h0:=ta_no (T:=108) (X:=62) (by decide) Tryz.underlying84 qat;have h1:=ta_no (T:=108) (X:=62) (by decide) Tryz.underlying87 qav;have h2:=ta_no (T:=108) (X:=62) (by decide) Tryz.underlying89 qai;have h3:=ta_no (T:=108) (X:=62) (by decide) Tryz.underlying94 qbh;have h4:=ta_no (T:=108) (X:=62) (by decide) Tryz.underlying95 qbj;have h5:=ta_no (T:=108) (X:=62) (by decide) Tryz.underlying96 qaq;have h6:=ta_no (T:=108) (X:=62) (by decide) Tryz.underlying97 qbr;have h7:=ta_no (T:=108) (X:=62) (by decide) Tryz.underlying99 qam;have h8:=ta_no (T:=108) (X:=62) (by decide) Tryz.underlying101 qcp;have h9:=ta_no (T:=108) (X:=62) (by decide) Tryz.underlying103 qal;have h10:=ta_no (T:=108) (X:=62) (by decide) Tryz.underlying104 qdm;have h11:=qcw (X:=62) Tryz.underlying108;go_enter Tryz.func59,Tryz.ntmps59;go_wp2;go_ret;exact⟨rfl,rfl⟩
theorem qel (v:Value) (w:World):Calls Tryz.prog 59 #[.iface 109 v] w fun e w'=>e=.returned (.int .i64 13)∧w'=w:=by
 have h0:=ta_no (T:=109) (X:=62) (by decide) Tryz.underlying84 qat;have h1:=ta_no (T:=109) (X:=62) (by decide) Tryz.underlying87 qav;have h2:=ta_no (T:=109) (X:=62) (by decide) Tryz.underlying89 qai;have h3:=ta_no (T:=109) (X:=62) (by decide) Tryz.underlying94 qbh;have h4:=ta_no (T:=109) (X:=62) (by decide) Tryz.underlying95 qbj;have h5:=ta_no (T:=109) (X:=62) (by decide) Tryz.underlying96 qaq;have h6:=ta_no (T:=109) (X:=62) (by decide) Tryz.underlying97 qbr;have h7:=ta_no (T:=109) (X:=62) (by decide) Tryz.underlying99 qam;have h8:=ta_no (T:=109) (X:=62) (by decide) Tryz.underlying101 qcp;have h9:=ta_no (T:=109) (X:=62) (by decide) Tryz.underlying103 qal;have h10:=ta_no (T:=109) (X:=62) (by decide) Tryz.underlying104 qdm;have h11:=ta_no (T:=109) (X:=62) (by decide) Tryz.underlying108 qgm;have h12:=qcw (X:=62) Tryz.underlying109;go_enter Tryz.func59,Tryz.ntmps59;go_wp2;go_ret;exact⟨rfl,rfl⟩
theorem qds (v:Value) (w:World):Calls Tryz.prog 59 #[.iface 110 v] w fun e w'=>e=.returned (.int .i64 14)∧w'=w:=by
 have h0:=ta_no (T:=110) (X:=62) (by decide) Tryz.underlying84 qat;have h1:=ta_no (T:=110) (X:=62) (by decide) Tryz.underlying87 qav;have h2:=ta_no (T:=110) (X:=62) (by decide) Tryz.underlying89 qai;have h3:=ta_no (T:=110) (X:=62) (by decide) Tryz.underlying94 qbh;have h4:=ta_no (T:=110) (X:=62) (by decide) Tryz.underlying95 qbj;have h5:=ta_no (T:=110) (X:=62) (by decide) Tryz.underlying96 qaq;have h6:=ta_no (T:=110) (X:=62) (by decide) Tryz.underlying97 qbr;have h7:=ta_no (T:=110) (X:=62) (by decide) Tryz.underlying99 qam;have h8:=ta_no (T:=110) (X:=62) (by decide) Tryz.underlying101 qcp;have h9:=ta_no (T:=110) (X:=62) (by decide) Tryz.underlying103 qal;have h10:=ta_no (T:=110) (X:=62) (by decide) Tryz.underlying104 qdm;have h11:=ta_no (T:=110) (X:=62) (by decide) Tryz.underlying108 qgm;have h12:=ta_no (T:=110) (X:=62) (by decide) Tryz.underlying109 qkh;have h13:=qcw (X:=62) Tryz.underlying110;go_enter Tryz.func59,Tryz.ntmps59;go_wp2;go_ret;exact⟨rfl,rfl⟩
theorem qkr (v:Value) (w:World):Calls Tryz.prog 60 #[.iface 84 v] w fun e w'=>e=.returned (.int .i64 0)∧w'=w:=by
 have h0:=ta_no (T:=84) (X:=62) (by decide) Tryz.underlying89 qai;have h1:=ta_no (T:=84) (X:=62) (by decide) Tryz.underlying96 qaq;have h2:=ta_no (T:=84) (X:=62) (by decide) Tryz.underlying99 qam;have h3:=ta_no (T:=84) (X:=62) (by decide) Tryz.underlying103 qal;go_enter Tryz.func60,Tryz.ntmps60;go_wp2;go_ret;exact⟨rfl,rfl⟩
theorem qkq (v:Value) (w:World):Calls Tryz.prog 60 #[.iface 87 v] w fun e w'=>e=.returned (.int .i64 0)∧w'=w:=by
 have h0:=ta_no (T:=87) (X:=62) (by decide) Tryz.underlying89 qai;have h1:=ta_no (T:=87) (X:=62) (by decide) Tryz.underlying96 qaq;have h2:=ta_no (T:=87) (X:=62) (by decide) Tryz.underlying99 qam;have h3:=ta_no (T:=87) (X:=62) (by decide) Tryz.underlying103 qal;go_enter Tryz.func60,Tryz.ntmps60;go_wp2;go_ret;exact⟨rfl,rfl⟩
theorem qlr (v:Value) (w:World):Calls Tryz.prog 60 #[.iface 94 v] w fun e w'=>e=.returned (.int .i64 0)∧w'=w:=by
 have h0:=ta_no (T:=94) (X:=62) (by decide) Tryz.underlying89 qai;have h1:=ta_no (T:=94) (X:=62) (by decide) Tryz.underlying96 qaq;have h2:=ta_no (T:=94) (X:=62) (by decide) Tryz.underlying99 qam;have h3:=ta_no (T:=94) (X:=62) (by decide) Tryz.underlying103 qal;go_enter Tryz.func60,Tryz.ntmps60;go_wp2;go_ret;exact⟨rfl,rfl⟩
theorem qls (v:Value) (w:World):Calls Tryz.prog 60 #[.iface 95 v] w fun e w'=>e=.returned (.int .i64 0)∧w'=w:=by
 have h0:=ta_no (T:=95) (X:=62) (by decide) Tryz.underlying89 qai;have h1:=ta_no (T:=95) (X:=62) (by decide) Tryz.underlying96 qaq;have h2:=ta_no (T:=95) (X:=62) (by decide) Tryz.underlying99 qam;have h3:=ta_no (T:=95) (X:=62) (by decide) Tryz.underlying103 qal;go_enter Tryz.func60,Tryz.ntmps60;go_wp2;go_ret;exact⟨rfl,rfl⟩
theorem qlt (v:Value) (w:World):Calls Tryz.prog 60 #[.iface 96 v] w fun e w'=>e=.returned (.int .i64 2)∧w'=w:=by
 have h0:=ta_no (T:=96) (X:=62) (by decide) Tryz.underlying89 qai;have h1:=qcw (X:=62) Tryz.underlying96;have h2:=ta_no (T:=96) (X:=62) (by decide) Tryz.underlying99 qam;have h3:=ta_no (T:=96) (X:=62) (by decide) Tryz.underlying103 qal;go_enter Tryz.func60,Tryz.ntmps60;go_wp2;go_ret;exact⟨rfl,rfl⟩
theorem qkt (v:Value) (w:World):Calls Tryz.prog 60 #[.iface 97 v] w fun e w'=>e=.returned (.int .i64 0)∧w'=w:=by
 have h0:=ta_no (T:=97) (X:=62) (by decide) Tryz.underlying89 qai;have h1:=ta_no (T:=97) (X:=62) (by decide) Tryz.underlying96 qaq;have h2:=ta_no (T:=97) (X:=62) (by decide) Tryz.underlying99 qam;have h3:=ta_no (T:=97) (X:=62) (by decide) Tryz.underlying103 qal;go_enter Tryz.func60,Tryz.ntmps60;go_wp2;go_ret;exact⟨rfl,rfl⟩
theorem qih (v:Value) (w:World):Calls Tryz.prog 60 #[.iface 99 v] w fun e w'=>e=.returned (.int .i64 2)∧w'=w:=by
 have h0:=ta_no (T:=99) (X:=62) (by decide) Tryz.underlying89 qai;have h1:=ta_no (T:=99) (X:=62) (by decide) Tryz.underlying96 qaq;have h2:=qcw (X:=62) Tryz.underlying99;have h3:=ta_no (T:=99) (X:=62) (by decide) Tryz.underlying103 qal;go_enter Tryz.func60,Tryz.ntmps60;go_wp2;go_ret;exact⟨rfl,rfl⟩
theorem qlu (v:Value) (w:World):Calls Tryz.prog 60 #[.iface 101 v] w fun e w'=>e=.returned (.int .i64 0)∧w'=w:=by
 have h0:=ta_no (T:=101) (X:=62) (by decide) Tryz.underlying89 qai;have h1:=ta_no (T:=101) (X:=62) (by decide) Tryz.underlying96 qaq;have h2:=ta_no (T:=101) (X:=62) (by decide) Tryz.underlying99 qam;have h3:=ta_no (T:=101) (X:=62) (by decide) Tryz.underlying103 qal;go_enter Tryz.func60,Tryz.ntmps60;go_wp2;go_ret;exact⟨rfl,rfl⟩
theorem qgu (v:Value) (w:World):Calls Tryz.prog 60 #[.iface 103 v] w fun e w'=>e=.returned (.int .i64 2)∧w'=w:=by
 have h0:=ta_no (T:=103) (X:=62) (by decide) Tryz.underlying89 qai;have h1:=ta_no (T:=103) (X:=62) (by decide) Tryz.underlying96 qaq;have h2:=ta_no (T:=103) (X:=62) (by decide) Tryz.underlying99 qam;have h3:=qcw (X:=62) Tryz.underlying103;go_enter Tryz.func60,Tryz.ntmps60;go_wp2;go_ret;exact⟨rfl,rfl⟩
theorem qjq (v:Value) (w:World):Calls Tryz.prog 60 #[.iface 104 v] w fun e w'=>e=.returned (.int .i64 0)∧w'=w:=by
 have h0:=ta_no (T:=104) (X:=62) (by decide) Tryz.underlying89 qai;have h1:=ta_no (T:=104) (X:=62) (by decide) Tryz.underlying96 qaq;have h2:=ta_no (T:=104) (X:=62) (by decide) Tryz.underlying99 qam;have h3:=ta_no (T:=104) (X:=62) (by decide) Tryz.underlying103 qal;go_enter Tryz.func60,Tryz.ntmps60;go_wp2;go_ret;exact⟨rfl,rfl⟩
theorem qks (v:Value) (w:World):Calls Tryz.prog 60 #[.iface 108 v] w fun e w'=>e=.returned (.int .i64 0)∧w'=w:=by
 have h0:=ta_no (T:=108) (X:=62) (by decide) Tryz.underlying89 qai;have h1:=ta_no (T:=108) (X:=62) (by decide) Tryz.underlying96 qaq;have h2:=ta_no (T:=108) (X:=62) (by decide) Tryz.underlying99 qam;have h3:=ta_no (T:=108) (X:=62) (by decide) Tryz.underlying103 qal;go_enter Tryz.func60,Tryz.ntmps60;go_wp2;go_ret;exact⟨rfl,rfl⟩
theorem qjp (v:Value) (w:World):Calls Tryz.prog 60 #[.iface 109 v] w fun e w'=>e=.returned (.int .i64 0)∧w'=w:=by
 have h0:=ta_no (T:=109) (X:=62) (by decide) Tryz.underlying89 qai;have h1:=ta_no (T:=109) (X:=62) (by decide) Tryz.underlying96 qaq;have h2:=ta_no (T:=109) (X:=62) (by decide) Tryz.underlying99 qam;have h3:=ta_no (T:=109) (X:=62) (by decide) Tryz.underlying103 qal;go_enter Tryz.func60,Tryz.ntmps60;go_wp2;go_ret;exact⟨rfl,rfl⟩
theorem qhi (v:Value) (w:World):Calls Tryz.prog 60 #[.iface 110 v] w fun e w'=>e=.returned (.int .i64 0)∧w'=w:=by
 have h0:=ta_no (T:=110) (X:=62) (by decide) Tryz.underlying89 qai;have h1:=ta_no (T:=110) (X:=62) (by decide) Tryz.underlying96 qaq;have h2:=ta_no (T:=110) (X:=62) (by decide) Tryz.underlying99 qam;have h3:=ta_no (T:=110) (X:=62) (by decide) Tryz.underlying103 qal;go_enter Tryz.func60,Tryz.ntmps60;go_wp2;go_ret;exact⟨rfl,rfl⟩

def pubC (dup:Bool) (qos:Int) (ret:Bool) (id:Int) (top:ByteArray) (b:Sl):Array Value:=#[.bool dup,.int .i64 qos,.bool ret,.int .i64 id,.string top,.slice b.a b.n b.c]
def conC (lev:Int) (cli:ByteArray) (cln:Bool) (kee:Int) (hw:Bool) (wt:ByteArray) (wb:Sl) (wq:Int) (wr:Bool) (hu:Bool) (us:ByteArray) (hp:Bool) (pa:Sl):Array Value :=
 #[.int .i64 lev,.string cli,.bool cln,.int .i64 kee,.bool hw,.string wt,.slice wb.a wb.n wb.c,.int .i64 wq,.bool wr,.bool hu,.string us,.bool hp,.slice pa.a pa.n pa.c]
def noSl:Sl:=⟨none,0,0⟩

theorem pub_of0 (p:Pk) (w:World) (h:¬0<p.qos) :
  Calls Tryz.prog 57 #[.agg p.cells] w fun e w'=>e=.returned (.agg (pubC false p.qos p.ret 0 p.top p.bod))∧Below w.heap.size w w':=by
 have a2:=p.c2;have a3:=p.c3;have a5:=p.c5;have a6:=p.c6;generalize p.cells=cs at *;unfold pubC;go_enter Tryz.func57,Tryz.ntmps57;go_wp2
 go_returns
 refine⟨rfl,?_⟩
 go_grown
theorem pub_of1 (p:Pk) (w:World) (h:0<p.qos) :
  Calls Tryz.prog 57 #[.agg p.cells] w fun e w'=>e=.returned (.agg (pubC p.dup p.qos p.ret p.id p.top p.bod))∧Below w.heap.size w w':=by
 have a1:=p.c1;have a2:=p.c2;have a3:=p.c3;have a4:=p.c4;have a5:=p.c5;have a6:=p.c6;generalize p.cells=cs at *;unfold pubC;go_enter Tryz.func57,Tryz.ntmps57;go_wp2
 go_region
 all_goals
  go_wp2
  go_returns
  refine⟨rfl,?_⟩
  go_grown
theorem con_nnn (p:Pk) (w:World) (h1:p.hw=false) (h2:p.hu=false) :
  Calls Tryz.prog 56 #[.agg p.cells] w fun e w'=>e=.returned (.agg (conC p.lev p.cli p.cln p.kee false ByteArray.empty noSl 0 false false ByteArray.empty false noSl))∧Below w.heap.size w w':=by
 have a7:=p.c7;have a8:=p.c8;have a9:=p.c9;have a10:=p.c10;have a11:=p.c11;have a16:=p.c16;rw[h1] at a11;rw[h2] at a16;clear h1 h2;generalize p.cells=cs at *;unfold conC;go_enter Tryz.func56,Tryz.ntmps56;go_wp2
 go_returns
 refine⟨rfl,?_⟩
 go_grown

theorem con_nun (p:Pk) (w:World) (h1:p.hw=false) (h2:p.hu=true) (h3:p.hp=false) :
  Calls Tryz.prog 56 #[.agg p.cells] w fun e w'=>e=.returned (.agg (conC p.lev p.cli p.cln p.kee false ByteArray.empty noSl 0 false true p.us false noSl))∧Below w.heap.size w w':=by
 have a7:=p.c7;have a8:=p.c8;have a9:=p.c9;have a10:=p.c10;have a11:=p.c11;have a16:=p.c16;have a17:=p.c17;have a18:=p.c18;rw[h1] at a11;rw[h2] at a16;rw[h3] at a18;clear h1 h2 h3;generalize p.cells=cs at *;unfold conC;go_enter Tryz.func56,Tryz.ntmps56;go_wp2
 go_region
 all_goals
  go_wp2
  go_returns
  refine⟨rfl,?_⟩
  go_grown

theorem con_nup (p:Pk) (w:World) (h1:p.hw=false) (h2:p.hu=true) (h3:p.hp=true) :
  Calls Tryz.prog 56 #[.agg p.cells] w fun e w'=>e=.returned (.agg (conC p.lev p.cli p.cln p.kee false ByteArray.empty noSl 0 false true p.us true p.pa))∧Below w.heap.size w w':=by
 have a7:=p.c7;have a8:=p.c8;have a9:=p.c9;have a10:=p.c10;have a11:=p.c11;have a16:=p.c16;have a17:=p.c17;have a18:=p.c18;have a19:=p.c19;rw[h1] at a11;rw[h2] at a16;rw[h3] at a18;clear h1 h2 h3;generalize p.cells=cs at *;unfold conC;go_enter Tryz.func56,Tryz.ntmps56;go_wp2
 go_region
 all_goals
  go_wp2
  go_returns
  refine⟨rfl,?_⟩
  go_grown

theorem con_wnn (p:Pk) (w:World) (h1:p.hw=true) (h2:p.hu=false) :
  Calls Tryz.prog 56 #[.agg p.cells] w fun e w'=>e=.returned (.agg (conC p.lev p.cli p.cln p.kee true p.wt p.wb p.wq p.wr false ByteArray.empty false noSl))∧Below w.heap.size w w':=by
 have a7:=p.c7;have a8:=p.c8;have a9:=p.c9;have a10:=p.c10;have a11:=p.c11;have a16:=p.c16;have a12:=p.c12;have a13:=p.c13;have a14:=p.c14;have a15:=p.c15;rw[h1] at a11;rw[h2] at a16;clear h1 h2;generalize p.cells=cs at *;unfold conC;go_enter Tryz.func56,Tryz.ntmps56;go_wp2
 go_returns
 refine⟨rfl,?_⟩
 go_grown

theorem con_wun (p:Pk) (w:World) (h1:p.hw=true) (h2:p.hu=true) (h3:p.hp=false) :
  Calls Tryz.prog 56 #[.agg p.cells] w fun e w'=>e=.returned (.agg (conC p.lev p.cli p.cln p.kee true p.wt p.wb p.wq p.wr true p.us false noSl))∧Below w.heap.size w w':=by
 have a7:=p.c7;have a8:=p.c8;have a9:=p.c9;have a10:=p.c10;have a11:=p.c11;have a16:=p.c16;have a12:=p.c12;have a13:=p.c13;have a14:=p.c14;have a15:=p.c15;have a17:=p.c17;have a18:=p.c18;rw[h1] at a11;rw[h2] at a16;rw[h3] at a18;clear h1 h2 h3;generalize p.cells=cs at *;unfold conC;go_enter Tryz.func56,Tryz.ntmps56;go_wp2
 go_region
 all_goals
  go_wp2
  go_returns
  refine⟨rfl,?_⟩
  go_grown

theorem con_wup (p:Pk) (w:World) (h1:p.hw=true) (h2:p.hu=true) (h3:p.hp=true) :
  Calls Tryz.prog 56 #[.agg p.cells] w fun e w'=>e=.returned (.agg (conC p.lev p.cli p.cln p.kee true p.wt p.wb p.wq p.wr true p.us true p.pa))∧Below w.heap.size w w':=by
 have a7:=p.c7;have a8:=p.c8;have a9:=p.c9;have a10:=p.c10;have a11:=p.c11;have a16:=p.c16;have a12:=p.c12;have a13:=p.c13;have a14:=p.c14;have a15:=p.c15;have a17:=p.c17;have a18:=p.c18;have a19:=p.c19;rw[h1] at a11;rw[h2] at a16;rw[h3] at a18;clear h1 h2 h3;generalize p.cells=cs at *;unfold conC;go_enter Tryz.func56,Tryz.ntmps56;go_wp2
 go_region
 all_goals
  go_wp2
  go_returns
  refine⟨rfl,?_⟩
  go_grown
def conOf (p:Pk):Array Value:=conC p.lev p.cli p.cln p.kee p.hw (if p.hw then p.wt else ByteArray.empty) (if p.hw then p.wb else noSl) (if p.hw then p.wq else 0) (if p.hw then p.wr else false) p.hu (if p.hu then p.us else ByteArray.empty) (p.hu&&p.hp) (if p.hu&&p.hp then p.pa else noSl)
theorem con_of (p:Pk) (w:World):Calls Tryz.prog 56 #[.agg p.cells] w fun e w'=>e=.returned (.agg (conOf p))∧Below w.heap.size w w':=by
 unfold conOf;cases h1:p.hw<;>cases h2:p.hu<;>cases h3:p.hp
 ·exact con_nnn p w h1 h2
 ·exact con_nnn p w h1 h2
 ·exact con_nun p w h1 h2 h3
 ·exact con_nup p w h1 h2 h3
 ·exact con_wnn p w h1 h2
 ·exact con_wnn p w h1 h2
 ·exact con_wun p w h1 h2 h3
 ·exact con_wup p w h1 h2 h3
def pubOf (p:Pk):Array Value:=pubC (if 0<p.qos then p.dup else false) p.qos p.ret (if 0<p.qos then p.id else 0) p.top p.bod
theorem pub_of (p:Pk) (w:World):Calls Tryz.prog 57 #[.agg p.cells] w fun e w'=>e=.returned (.agg (pubOf p))∧Below w.heap.size w w':=by
 unfold pubOf
 by_cases h:0<p.qos
 ·rw[if_pos h,if_pos h];exact pub_of1 p w h
 ·rw[if_neg h,if_neg h];exact pub_of0 p w h

theorem qev (p:Pk) (w:World) (ht:p.ty=1):Calls Tryz.prog 35 #[.agg p.cells] w fun e w'=>e=.returned (.iface 84 (.agg (conOf p)))∧Below w.heap.size w w':=by
 have a0:=p.c0;rw[ht] at a0;clear ht;have hb:Below w.heap.size w (w.alloc (.cells p.cells 32)):=qae _ _;have A:Blk (w.alloc (.cells p.cells 32)) w.heap.size p:=heap_alloc_new _ _;go_enter Tryz.func35,Tryz.ntmps35;go_wp2_with (first | refine qap A rfl _ rfl rfl ?_ | fail)
 refine (con_of p _).mono ?_;rintro e w2 ⟨rfl,hb2⟩;go_wp2;go_ret;exact⟨rfl,bel hb hb2⟩
theorem ret_ack {n:Int} {a b:Bool} (h:a=b):Ending.returned (.iface 87 (.agg #[.int .i64 n,.bool a]))=.returned (.iface 87 (.agg #[.int .i64 n,.bool b])):=by rw[h]
theorem qeu (p:Pk) (w:World) (ht:p.ty=2):Calls Tryz.prog 35 #[.agg p.cells] w fun e w'=>e=.returned (.iface 87 (.agg #[.int .i64 p.cod,.bool (p.pre&&decide (p.cod=0))]))∧Below w.heap.size w w':=by
 have a0:=p.c0;rw[ht] at a0;have a20:=p.c20;have a21:=p.c21;clear ht;generalize p.cells=cs at *;cases hp:p.pre
 ·rw[hp] at a21;clear hp;go_enter Tryz.func35,Tryz.ntmps35;go_wp2;go_ret;exact⟨rfl,qae _ _⟩
 ·rw[hp] at a21;clear hp;go_enter Tryz.func35,Tryz.ntmps35;go_wp2;go_ret;exact⟨ret_ack (by rw[Bool.eq_iff_iff];simp),qae _ _⟩
theorem qey (p:Pk) (w:World) (ht:p.ty=3):Calls Tryz.prog 35 #[.agg p.cells] w fun e w'=>e=.returned (.iface 89 (.agg (pubOf p)))∧Below w.heap.size w w':=by
 have a0:=p.c0;rw[ht] at a0;clear ht;have hb:Below w.heap.size w (w.alloc (.cells p.cells 32)):=qae _ _;have A:Blk (w.alloc (.cells p.cells 32)) w.heap.size p:=heap_alloc_new _ _;go_enter Tryz.func35,Tryz.ntmps35;go_wp2_with (first | refine qap A rfl _ rfl rfl ?_ | fail)
 refine (pub_of p _).mono ?_;rintro e w2 ⟨rfl,hb2⟩;go_wp2;go_ret;exact⟨rfl,bel hb hb2⟩
theorem qfo (p:Pk) (w:World) (ht:p.ty=4):Calls Tryz.prog 35 #[.agg p.cells] w fun e w'=>e=.returned (.iface 94 (.agg #[.int .i64 p.id]))∧Below w.heap.size w w':=by
 have a0:=p.c0;rw[ht] at a0;have a4:=p.c4;clear ht;generalize p.cells=cs at *;go_enter Tryz.func35,Tryz.ntmps35;go_wp2;go_ret;exact⟨rfl,qae _ _⟩
theorem qfp (p:Pk) (w:World) (ht:p.ty=5):Calls Tryz.prog 35 #[.agg p.cells] w fun e w'=>e=.returned (.iface 95 (.agg #[.int .i64 p.id]))∧Below w.heap.size w w':=by
 have a0:=p.c0;rw[ht] at a0;have a4:=p.c4;clear ht;generalize p.cells=cs at *;go_enter Tryz.func35,Tryz.ntmps35;go_wp2;go_ret;exact⟨rfl,qae _ _⟩
theorem qfq (p:Pk) (w:World) (ht:p.ty=6):Calls Tryz.prog 35 #[.agg p.cells] w fun e w'=>e=.returned (.iface 96 (.agg #[.int .i64 p.id]))∧Below w.heap.size w w':=by
 have a0:=p.c0;rw[ht] at a0;have a4:=p.c4;clear ht;generalize p.cells=cs at *;go_enter Tryz.func35,Tryz.ntmps35;go_wp2;go_ret;exact⟨rfl,qae _ _⟩
theorem qex (p:Pk) (w:World) (ht:p.ty=7):Calls Tryz.prog 35 #[.agg p.cells] w fun e w'=>e=.returned (.iface 97 (.agg #[.int .i64 p.id]))∧Below w.heap.size w w':=by
 have a0:=p.c0;rw[ht] at a0;have a4:=p.c4;clear ht;generalize p.cells=cs at *;go_enter Tryz.func35,Tryz.ntmps35;go_wp2;go_ret;exact⟨rfl,qae _ _⟩
theorem qdt (p:Pk) (w:World) (ht:p.ty=8):Calls Tryz.prog 35 #[.agg p.cells] w fun e w'=>e=.returned (.iface 99 (.agg #[.int .i64 p.id,.slice p.wan.a p.wan.n p.wan.c]))∧Below w.heap.size w w':=by
 have a0:=p.c0;rw[ht] at a0;have a4:=p.c4;have a22:=p.c22;clear ht;generalize p.cells=cs at *;go_enter Tryz.func35,Tryz.ntmps35;go_wp2;go_ret;exact⟨rfl,qae _ _⟩
theorem qfr (p:Pk) (w:World) (ht:p.ty=9):Calls Tryz.prog 35 #[.agg p.cells] w fun e w'=>e=.returned (.iface 101 (.agg #[.int .i64 p.id,.slice p.cds.a p.cds.n p.cds.c]))∧Below w.heap.size w w':=by
 have a0:=p.c0;rw[ht] at a0;have a4:=p.c4;have a24:=p.c24;clear ht;generalize p.cells=cs at *;go_enter Tryz.func35,Tryz.ntmps35;go_wp2;go_ret;exact⟨rfl,qae _ _⟩
theorem qdh (p:Pk) (w:World) (ht:p.ty=10):Calls Tryz.prog 35 #[.agg p.cells] w fun e w'=>e=.returned (.iface 103 (.agg #[.int .i64 p.id,.slice p.nam.a p.nam.n p.nam.c]))∧Below w.heap.size w w':=by
 have a0:=p.c0;rw[ht] at a0;have a4:=p.c4;have a23:=p.c23;clear ht;generalize p.cells=cs at *;go_enter Tryz.func35,Tryz.ntmps35;go_wp2;go_ret;exact⟨rfl,qae _ _⟩
theorem qef (p:Pk) (w:World) (ht:p.ty=11):Calls Tryz.prog 35 #[.agg p.cells] w fun e w'=>e=.returned (.iface 104 (.agg #[.int .i64 p.id]))∧Below w.heap.size w w':=by
 have a0:=p.c0;rw[ht] at a0;have a4:=p.c4;clear ht;generalize p.cells=cs at *;go_enter Tryz.func35,Tryz.ntmps35;go_wp2;go_ret;exact⟨rfl,qae _ _⟩
theorem qew (p:Pk) (w:World) (ht:p.ty=12):Calls Tryz.prog 35 #[.agg p.cells] w fun e w'=>e=.returned (.iface 108 (.agg #[]))∧Below w.heap.size w w':=by
 have a0:=p.c0;rw[ht] at a0;clear ht;generalize p.cells=cs at *;go_enter Tryz.func35,Tryz.ntmps35;go_wp2;go_ret;exact⟨rfl,qae _ _⟩
theorem qee (p:Pk) (w:World) (ht:p.ty=13):Calls Tryz.prog 35 #[.agg p.cells] w fun e w'=>e=.returned (.iface 109 (.agg #[]))∧Below w.heap.size w w':=by
 have a0:=p.c0;rw[ht] at a0;clear ht;generalize p.cells=cs at *;go_enter Tryz.func35,Tryz.ntmps35;go_wp2;go_ret;exact⟨rfl,qae _ _⟩
theorem qdo (p:Pk) (w:World) (ht:p.ty=14):Calls Tryz.prog 35 #[.agg p.cells] w fun e w'=>e=.returned (.iface 110 (.agg #[]))∧Below w.heap.size w w':=by
 have a0:=p.c0;rw[ht] at a0;clear ht;generalize p.cells=cs at *;go_enter Tryz.func35,Tryz.ntmps35;go_wp2;go_ret;exact⟨rfl,qae _ _⟩
theorem kind_none (p:Pk) (w:World) (ht:¬(1≤p.ty∧p.ty≤14)):Calls Tryz.prog 35 #[.agg p.cells] w fun e w'=>e=.returned .nilIface∧Below w.heap.size w w':=by
 have a0:=p.c0;have n1:(p.ty==1)=false:=by simp;omega
 have n2:(p.ty==2)=false:=by simp;omega
 have n3:(p.ty==3)=false:=by simp;omega
 have n4:(p.ty==4)=false:=by simp;omega
 have n5:(p.ty==5)=false:=by simp;omega
 have n6:(p.ty==6)=false:=by simp;omega
 have n7:(p.ty==7)=false:=by simp;omega
 have n8:(p.ty==8)=false:=by simp;omega
 have n9:(p.ty==9)=false:=by simp;omega
 have n10:(p.ty==10)=false:=by simp;omega
 have n11:(p.ty==11)=false:=by simp;omega
 have n12:(p.ty==12)=false:=by simp;omega
 have n13:(p.ty==13)=false:=by simp;omega
 have n14:(p.ty==14)=false:=by simp;omega
 clear ht;generalize p.cells=cs at *;go_enter Tryz.func35,Tryz.ntmps35;go_wp2;go_ret;exact⟨rfl,qae _ _⟩
