/- Lemmas. -/
import Derived.Test.YtpjkbgdkligpdaaGreatDoorX20
set_option linter.unusedVariables false
set_option linter.unusedSimpArgs false
set_option maxRecDepth 100000
set_option maxHeartbeats 20000000
namespace Go.Proofs.YtpjkbgdkligpdaaGreatDoor
open Go.RowKit

theorem q16 (x:Nat) (h:x<256):IntKind.i64.wrap ((x:Int).tdiv 16)=((x / 16:Nat):Int):=by
 have e:((x:Int)).tdiv 16=((x / 16:Nat):Int):=rfl;rw[e,qav]<;>omega
theorem r16 (x:Nat) (h:x<256):IntKind.i64.wrap ((x:Int).tmod 16)=((x%16:Nat):Int):=by
 have e:((x:Int)).tmod 16=((x%16:Nat):Int):=rfl;rw[e,qav]<;>omega
theorem first_no (x:Nat) (hx:x<256) (h:x / 16=0∨x / 16=15) (w:World) :
  Calls Tryz.prog 86 #[.int .i64 x] w fun e w'=>e=.returned (.bool (fstOk x))∧w'=w:=by
 have hf:fstOk x=false:=by unfold fstOk;rw[if_pos h]
 rw[hf];have e1:(x:Int) / 16=((x / 16:Nat):Int):=rfl
 rcases h with h | h
 ·have e2:(x:Int) / 16=0:=by omega
  go_enter Tryz.func86,Tryz.ntmps86;go_wp2;go_ret;exact⟨rfl,rfl⟩
 ·have e2:(x:Int) / 16=15:=by omega
  go_enter Tryz.func86,Tryz.ntmps86;go_wp2;go_ret;exact⟨rfl,rfl⟩
theorem first_pub (x:Nat) (hx:x<256) (h:x / 16=3) (w:World) :
  Calls Tryz.prog 86 #[.int .i64 x] w fun e w'=>e=.returned (.bool (fstOk x))∧w'=w:=by
 have hf:fstOk x=(decide (x / 2%4<3)&&(decide (0<x / 2%4) || decide (x%16<8))):=by unfold fstOk;rw[if_neg (by omega),if_pos h]
 have e1:(x:Int) / 16=3:=by omega
 have e2:(x:Int)%16 / 2%4=((x / 2%4:Nat):Int):=by omega
 have e3:((x%16:Nat):Int)=(x:Int)%16:=by omega
 by_cases h1:x / 2%4<3
 ·by_cases h2:0<x / 2%4
  ·have hr:fstOk x=true:=by rw[hf];simp[h1,h2]
   rw[hr];have g1:(x:Int)%16 / 2%4<3:=by omega
   have g2:0<(x:Int)%16 / 2%4:=by omega
   clear hr hf e2 e3;go_enter Tryz.func86,Tryz.ntmps86;go_wp2;go_ret;exact⟨rfl,rfl⟩
  ·by_cases h3:x%16<8
   ·have hr:fstOk x=true:=by rw[hf];simp[h1,h3]
    rw[hr];have g1:(x:Int)%16 / 2%4<3:=by omega
    have g2:¬0<(x:Int)%16 / 2%4:=by omega
    have g3:(x:Int)%16<8:=by omega
    clear hr hf e2 e3;go_enter Tryz.func86,Tryz.ntmps86;go_wp2;go_ret;exact⟨rfl,rfl⟩
   ·have hr:fstOk x=false:=by rw[hf];simp[h2,h3]
    rw[hr];have g1:(x:Int)%16 / 2%4<3:=by omega
    have g2:¬0<(x:Int)%16 / 2%4:=by omega
    have g3:¬(x:Int)%16<8:=by omega
    clear hr hf e2 e3;go_enter Tryz.func86,Tryz.ntmps86;go_wp2;go_ret;exact⟨rfl,rfl⟩
 ·have hr:fstOk x=false:=by rw[hf];simp[h1]
  rw[hr];have g1:¬(x:Int)%16 / 2%4<3:=by omega
  clear hr hf e2 e3;go_enter Tryz.func86,Tryz.ntmps86;go_wp2;go_ret;exact⟨rfl,rfl⟩
theorem first_two (x:Nat) (hx:x<256) (h:x / 16=6∨x / 16=8∨x / 16=10) (w:World) :
  Calls Tryz.prog 86 #[.int .i64 x] w fun e w'=>e=.returned (.bool (fstOk x))∧w'=w:=by
 have hf:fstOk x=decide ((x:Int)%16=2):=by
  unfold fstOk;rw[if_neg (by omega),if_neg (by omega),if_pos h];exact decide_eq_decide.2 (by omega)
 rw[hf];have hb:((x:Int)%16==2)=decide ((x:Int)%16=2):=rfl
 rcases h with h | h | h
 ·have e1:(x:Int) / 16=6:=by omega
  go_enter Tryz.func86,Tryz.ntmps86;go_wp2;go_ret;exact⟨rfl,rfl⟩
 ·have e1:(x:Int) / 16=8:=by omega
  go_enter Tryz.func86,Tryz.ntmps86;go_wp2;go_ret;exact⟨rfl,rfl⟩
 ·have e1:(x:Int) / 16=10:=by omega
  go_enter Tryz.func86,Tryz.ntmps86;go_wp2;go_ret;exact⟨rfl,rfl⟩
theorem first_nil (x:Nat) (hx:x<256) (h:x / 16=1∨x / 16=2∨x / 16=4∨x / 16=5∨x / 16=7∨x / 16=9∨x / 16=11∨x / 16=12∨x / 16=13∨x / 16=14) (w:World) :
  Calls Tryz.prog 86 #[.int .i64 x] w fun e w'=>e=.returned (.bool (fstOk x))∧w'=w:=by
 have hf:fstOk x=decide ((x:Int)%16=0):=by
  unfold fstOk;rw[if_neg (by omega),if_neg (by omega),if_neg (by omega)];exact decide_eq_decide.2 (by omega)
 rw[hf];have hb:((x:Int)%16==0)=decide ((x:Int)%16=0):=rfl
 rcases h with h | h | h | h | h | h | h | h | h | h
 ·have e1:(x:Int) / 16=1:=by omega
  go_enter Tryz.func86,Tryz.ntmps86;go_wp2;go_ret;exact⟨rfl,rfl⟩
 ·have e1:(x:Int) / 16=2:=by omega
  go_enter Tryz.func86,Tryz.ntmps86;go_wp2;go_ret;exact⟨rfl,rfl⟩
 ·have e1:(x:Int) / 16=4:=by omega
  go_enter Tryz.func86,Tryz.ntmps86;go_wp2;go_ret;exact⟨rfl,rfl⟩
 ·have e1:(x:Int) / 16=5:=by omega
  go_enter Tryz.func86,Tryz.ntmps86;go_wp2;go_ret;exact⟨rfl,rfl⟩
 ·have e1:(x:Int) / 16=7:=by omega
  go_enter Tryz.func86,Tryz.ntmps86;go_wp2;go_ret;exact⟨rfl,rfl⟩
 ·have e1:(x:Int) / 16=9:=by omega
  go_enter Tryz.func86,Tryz.ntmps86;go_wp2;go_ret;exact⟨rfl,rfl⟩
 ·have e1:(x:Int) / 16=11:=by omega
  go_enter Tryz.func86,Tryz.ntmps86;go_wp2;go_ret;exact⟨rfl,rfl⟩
 ·have e1:(x:Int) / 16=12:=by omega
  go_enter Tryz.func86,Tryz.ntmps86;go_wp2;go_ret;exact⟨rfl,rfl⟩
 ·have e1:(x:Int) / 16=13:=by omega
  go_enter Tryz.func86,Tryz.ntmps86;go_wp2;go_ret;exact⟨rfl,rfl⟩
 ·have e1:(x:Int) / 16=14:=by omega
  go_enter Tryz.func86,Tryz.ntmps86;go_wp2;go_ret;exact⟨rfl,rfl⟩
theorem qjm (x:Nat) (hx:x<256) (w:World) :
  Calls Tryz.prog 86 #[.int .i64 x] w fun e w'=>e=.returned (.bool (fstOk x))∧w'=w:=by
 have h:(x / 16=0∨x / 16=15)∨x / 16=3∨(x / 16=6∨x / 16=8∨x / 16=10)∨(x / 16=1∨x / 16=2∨x / 16=4∨x / 16=5∨x / 16=7∨x / 16=9∨x / 16=11∨x / 16=12∨x / 16=13∨x / 16=14):=by omega
 rcases h with h | h | h | h
 ·exact first_no x hx h w
 ·exact first_pub x hx h w
 ·exact first_two x hx h w
 ·exact first_nil x hx h w
