/- A packet as a value: what its kind names, and when it is right. No Go in it. -/
import Derived.Test.YtfpclkkkenekpaaGreatTops
set_option linter.unusedVariables false
set_option linter.unusedSimpArgs false
namespace Go.Proofs.YtfpclkkkenekpaaGreat

/-- All that a packet says. -/
structure Pv where
  ty : Int
  dup : Bool
  qos : Int
  ret : Bool
  id : Int
  top : ByteArray
  bod : List UInt8
  cli : ByteArray
  lev : Int
  cln : Bool
  kee : Int
  hw : Bool
  wt : ByteArray
  wb : List UInt8
  wq : Int
  wr : Bool
  hu : Bool
  us : ByteArray
  hp : Bool
  pa : List UInt8
  cod : Int
  pre : Bool
  wan : List (ByteArray × Int)
  nam : List ByteArray
  cds : List Int
  deriving DecidableEq

def Pv.zero : Pv := ⟨0, false, 0, false, 0, ByteArray.empty, [], ByteArray.empty, 0, false, 0, false, ByteArray.empty, [], 0, false, false, ByteArray.empty, false, [], 0, false, [], [], []⟩
/-- Nothing but what its kind names. -/
def Pv.named (v : Pv) : Pv :=
  if v.ty = 1 then { Pv.zero with
    ty := v.ty, lev := v.lev, cli := v.cli, cln := v.cln, kee := v.kee, hw := v.hw
    wt := if v.hw then v.wt else ByteArray.empty
    wb := if v.hw then v.wb else []
    wq := if v.hw then v.wq else 0
    wr := if v.hw then v.wr else false
    hu := v.hu
    us := if v.hu then v.us else ByteArray.empty
    hp := v.hu && v.hp
    pa := if v.hu && v.hp then v.pa else [] }
  else if v.ty = 2 then { Pv.zero with ty := v.ty, cod := v.cod, pre := v.pre && decide (v.cod = 0) }
  else if v.ty = 3 then { Pv.zero with ty := v.ty, qos := v.qos, ret := v.ret, top := v.top, bod := v.bod, dup := if 0 < v.qos then v.dup else false, id := if 0 < v.qos then v.id else 0 }
  else if v.ty = 4 ∨ v.ty = 5 ∨ v.ty = 6 ∨ v.ty = 7 ∨ v.ty = 11 then { Pv.zero with ty := v.ty, id := v.id }
  else if v.ty = 8 then { Pv.zero with ty := v.ty, id := v.id, wan := v.wan }
  else if v.ty = 9 then { Pv.zero with ty := v.ty, id := v.id, cds := v.cds }
  else if v.ty = 10 then { Pv.zero with ty := v.ty, id := v.id, nam := v.nam }
  else { Pv.zero with ty := v.ty }
/-- A number from lo to hi. -/
def inB (x lo hi : Int) : Bool := decide (lo ≤ x ∧ x ≤ hi)
def txt (s : ByteArray) : Bool := okT s.data.toList
def tpc (s : ByteArray) : Bool := topOk s.data.toList
def flt (s : ByteArray) : Bool := filOk s.data.toList
/-- What its kind asks of what it names. -/
def Pv.body (v : Pv) : Bool :=
  if v.ty = 1 then (!v.hw || (tpc v.wt && (decide (v.wb.length ≤ 40) && inB v.wq 0 2))) && (inB v.lev 0 255 && (txt v.cli && (inB v.kee 0 65535 && (txt v.us && decide (v.pa.length ≤ 60)))))
  else if v.ty = 2 then inB v.cod 0 5
  else if v.ty = 3 then inB v.qos 0 2 && ((decide (v.qos = 0) || inB v.id 1 65535) && (tpc v.top && decide (v.bod.length ≤ 40)))
  else if v.ty = 12 ∨ v.ty = 13 ∨ v.ty = 14 then true
  else if v.ty = 8 then v.wan.all (fun x => flt x.1 && inB x.2 0 2) && (inB v.id 1 65535 && inB v.wan.length 1 4)
  else if v.ty = 9 then v.cds.all (fun c => inB c 0 2 || decide (c = 128)) && (inB v.id 1 65535 && inB v.cds.length 1 4)
  else if v.ty = 10 then v.nam.all (fun s => flt s) && (inB v.id 1 65535 && inB v.nam.length 1 4)
  else inB v.id 1 65535
/-- It is right. -/
def Pv.ok (v : Pv) : Bool := inB v.ty 1 14 && (decide (v = v.named) && v.body)

theorem inB_yes {x lo hi : Int} (h1 : lo ≤ x) (h2 : x ≤ hi) : inB x lo hi = true := decide_eq_true ⟨h1, h2⟩
theorem inB_lo {x lo hi : Int} (h : x < lo) : inB x lo hi = false := decide_eq_false (fun e => by omega)
theorem inB_hi {x lo hi : Int} (h : hi < x) : inB x lo hi = false := decide_eq_false (fun e => by omega)
theorem inB_iff {x lo hi : Int} : inB x lo hi = true ↔ lo ≤ x ∧ x ≤ hi := decide_eq_true_iff
theorem inB_not {x lo hi : Int} : inB x lo hi = false ↔ ¬ (lo ≤ x ∧ x ≤ hi) := decide_eq_false_iff_not

end Go.Proofs.YtfpclkkkenekpaaGreat
