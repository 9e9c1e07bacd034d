/- A packet, cell by cell; what it says as a value. -/
import Derived.Test.YtfpclkkkenekpaaGreatEqs
import Derived.BigGuardPart
set_option linter.unusedVariables false
set_option linter.unusedSimpArgs false
namespace Go.Proofs.YtfpclkkkenekpaaGreat
open Go.RowKit

theorem Pk.c0 (p : Pk) : p.cells[0]? = some (.int .i64 p.ty) := rfl
theorem Pk.c1 (p : Pk) : p.cells[1]? = some (.bool p.dup) := rfl
theorem Pk.c2 (p : Pk) : p.cells[2]? = some (.int .i64 p.qos) := rfl
theorem Pk.c3 (p : Pk) : p.cells[3]? = some (.bool p.ret) := rfl
theorem Pk.c4 (p : Pk) : p.cells[4]? = some (.int .i64 p.id) := rfl
theorem Pk.c5 (p : Pk) : p.cells[5]? = some (.string p.top) := rfl
theorem Pk.c6 (p : Pk) : p.cells[6]? = some (.slice p.bod.a p.bod.n p.bod.c) := rfl
theorem Pk.c7 (p : Pk) : p.cells[7]? = some (.string p.cli) := rfl
theorem Pk.c8 (p : Pk) : p.cells[8]? = some (.int .i64 p.lev) := rfl
theorem Pk.c9 (p : Pk) : p.cells[9]? = some (.bool p.cln) := rfl
theorem Pk.c10 (p : Pk) : p.cells[10]? = some (.int .i64 p.kee) := rfl
theorem Pk.c11 (p : Pk) : p.cells[11]? = some (.bool p.hw) := rfl
theorem Pk.c12 (p : Pk) : p.cells[12]? = some (.string p.wt) := rfl
theorem Pk.c13 (p : Pk) : p.cells[13]? = some (.slice p.wb.a p.wb.n p.wb.c) := rfl
theorem Pk.c14 (p : Pk) : p.cells[14]? = some (.int .i64 p.wq) := rfl
theorem Pk.c15 (p : Pk) : p.cells[15]? = some (.bool p.wr) := rfl
theorem Pk.c16 (p : Pk) : p.cells[16]? = some (.bool p.hu) := rfl
theorem Pk.c17 (p : Pk) : p.cells[17]? = some (.string p.us) := rfl
theorem Pk.c18 (p : Pk) : p.cells[18]? = some (.bool p.hp) := rfl
theorem Pk.c19 (p : Pk) : p.cells[19]? = some (.slice p.pa.a p.pa.n p.pa.c) := rfl
theorem Pk.c20 (p : Pk) : p.cells[20]? = some (.int .i64 p.cod) := rfl
theorem Pk.c21 (p : Pk) : p.cells[21]? = some (.bool p.pre) := rfl
theorem Pk.c22 (p : Pk) : p.cells[22]? = some (.slice p.wan.a p.wan.n p.wan.c) := rfl
theorem Pk.c23 (p : Pk) : p.cells[23]? = some (.slice p.nam.a p.nam.n p.nam.c) := rfl
theorem Pk.c24 (p : Pk) : p.cells[24]? = some (.slice p.cds.a p.cds.n p.cds.c) := rfl
theorem Pk.csize (p : Pk) : p.cells.size = 25 := rfl
/-- What a packet in memory says. -/
def pv (p : Pk) (d : Pd) : Pv := ⟨p.ty, p.dup, p.qos, p.ret, p.id, p.top, d.bod, p.cli, p.lev, p.cln, p.kee, p.hw, p.wt, d.wb, p.wq, p.wr, p.hu, p.us, p.hp, d.pa, p.cod, p.pre, d.wan, d.nam, d.cds⟩
theorem pv_ty (p : Pk) (d : Pd) : (pv p d).ty = p.ty := rfl
theorem pv_dup (p : Pk) (d : Pd) : (pv p d).dup = p.dup := rfl
theorem pv_qos (p : Pk) (d : Pd) : (pv p d).qos = p.qos := rfl
theorem pv_ret (p : Pk) (d : Pd) : (pv p d).ret = p.ret := rfl
theorem pv_id (p : Pk) (d : Pd) : (pv p d).id = p.id := rfl
theorem pv_top (p : Pk) (d : Pd) : (pv p d).top = p.top := rfl
theorem pv_bod (p : Pk) (d : Pd) : (pv p d).bod = d.bod := rfl
theorem pv_cli (p : Pk) (d : Pd) : (pv p d).cli = p.cli := rfl
theorem pv_lev (p : Pk) (d : Pd) : (pv p d).lev = p.lev := rfl
theorem pv_cln (p : Pk) (d : Pd) : (pv p d).cln = p.cln := rfl
theorem pv_kee (p : Pk) (d : Pd) : (pv p d).kee = p.kee := rfl
theorem pv_hw (p : Pk) (d : Pd) : (pv p d).hw = p.hw := rfl
theorem pv_wt (p : Pk) (d : Pd) : (pv p d).wt = p.wt := rfl
theorem pv_wb (p : Pk) (d : Pd) : (pv p d).wb = d.wb := rfl
theorem pv_wq (p : Pk) (d : Pd) : (pv p d).wq = p.wq := rfl
theorem pv_wr (p : Pk) (d : Pd) : (pv p d).wr = p.wr := rfl
theorem pv_hu (p : Pk) (d : Pd) : (pv p d).hu = p.hu := rfl
theorem pv_us (p : Pk) (d : Pd) : (pv p d).us = p.us := rfl
theorem pv_hp (p : Pk) (d : Pd) : (pv p d).hp = p.hp := rfl
theorem pv_pa (p : Pk) (d : Pd) : (pv p d).pa = d.pa := rfl
theorem pv_cod (p : Pk) (d : Pd) : (pv p d).cod = p.cod := rfl
theorem pv_pre (p : Pk) (d : Pd) : (pv p d).pre = p.pre := rfl
theorem pv_wan (p : Pk) (d : Pd) : (pv p d).wan = d.wan := rfl
theorem pv_nam (p : Pk) (d : Pd) : (pv p d).nam = d.nam := rfl
theorem pv_cds (p : Pk) (d : Pd) : (pv p d).cds = d.cds := rfl
/-- Two packets say the same just if each part does. -/
theorem pv_eq {p q : Pk} {d d' : Pd} : pv p d = pv q d' ↔ (p.ty = q.ty ∧ p.dup = q.dup ∧ p.qos = q.qos ∧ p.ret = q.ret ∧ p.id = q.id ∧ p.top = q.top ∧ d.bod = d'.bod ∧ p.cli = q.cli ∧ p.lev = q.lev ∧ p.cln = q.cln ∧ p.kee = q.kee ∧ p.hw = q.hw ∧ p.wt = q.wt ∧ d.wb = d'.wb ∧ p.wq = q.wq ∧ p.wr = q.wr ∧ p.hu = q.hu ∧ p.us = q.us ∧ p.hp = q.hp ∧ d.pa = d'.pa ∧ p.cod = q.cod ∧ p.pre = q.pre ∧ d.wan = d'.wan ∧ d.nam = d'.nam ∧ d.cds = d'.cds) := by
  simp only [pv, Pv.mk.injEq]
theorem PRd.drewN {w : World} {p : Pk} {d : Pd} (h : PRd w p d) (n : Nat) : PRd (w.drewN n) p d := h
/-- A struct in a block of its own. -/
def Blk (w : World) (b : Nat) (p : Pk) : Prop := w.heap[b]? = some (.cells p.cells 32)
theorem Blk.new (w : World) (p : Pk) : Blk (w.alloc (.cells p.cells 32)) w.heap.size p := heap_alloc_new _ _
theorem Blk.below {w w' : World} {b B : Nat} {p : Pk} (h : Blk w b p) (hb : Below B w w') (hB : b < B) : Blk w' b p := (hb.block b hB).trans h
theorem Blk.lt {w : World} {b : Nat} {p : Pk} (h : Blk w b p) : b < w.heap.size := (Array.getElem?_eq_some_iff.1 h).1
theorem Blk.cell {w : World} {b : Nat} {p : Pk} (h : Blk w b p) (i : Nat) : w.cell? ⟨b, i, none⟩ = p.cells[i]? := cell_of_row w b i p.cells _ (0, 0) h
theorem infoP : (Tryz.prog.info? 32).map (fun x => x.size) = some 25 := by kernel_rfl
theorem strq_eq (s t : ByteArray) : (s.toList == t.toList) = decide (s = t) := by
  rw [Bool.eq_iff_iff]
  simp only [beq_iff_eq, decide_eq_true_eq]
  exact ⟨bytes_inj, fun h => by rw [h]⟩
end Go.Proofs.YtfpclkkkenekpaaGreat
