/- Texts that the law FnExactBufOk uses. -/
import Derived.Handy
import Derived.Deep.RegionWith
import Derived.Test.YtccjiicjlifmiaaGreatDoorR05
set_option linter.unusedVariables false
set_option linter.unusedSimpArgs false
set_option maxRecDepth 100000
set_option maxHeartbeats 20000000
namespace Go.Proofs.YtccjiicjlifmiaaGreatDoor
open Go.RowKit

def wf (ws : List (ByteArray × Int)) (i : Nat) : ByteArray := (ws.getD i (ByteArray.empty, 0)).1
def wq (ws : List (ByteArray × Int)) (i : Nat) : Int := (ws.getD i (ByteArray.empty, 0)).2
def wvals (ws : List (ByteArray × Int)) : List Value := ws.flatMap fun x => [.string x.1, .int .i64 x.2]
theorem qrt (ws : List (ByteArray × Int)) : (wvals ws).length = 2 * ws.length := by
 induction ws with
 | nil => rfl
 | cons a r ih => simp [wvals] at ih ⊢; omega

def WRd (w : World) (ao : Option Addr) (n cap : Nat) (ws : List (ByteArray × Int)) : Prop :=
 (ws.length = n ∧ ∀ i, i < n → ∃ b off, ao = some ⟨b, off, none⟩ ∧ w.cell? ⟨b, off + i * 2, none⟩ = some (.string (wf ws i)) ∧ w.cell? ⟨b, off + i * 2 + 1, none⟩ = some (.int .i64 (wq ws i))) ∧ n ≤ cap ∧ cap ≤ maxLen ∧ (ao = none → cap = 0)

theorem WRd.below {w w' : World} {ao : Option Addr} {n cap : Nat} {ws : List (ByteArray × Int)} (h : WRd w ao n cap ws) (hb : Below w.heap.size w w') : WRd w' ao n cap ws := by
 refine ⟨⟨h.1.1, fun i hi => ?_⟩, h.2⟩
 obtain ⟨b, off, e, hc, hd⟩ := h.1.2 i hi
 exact ⟨b, off, e, (hb.cell (World.block_lt_of_cell? w _ hc)).trans hc, (hb.cell (World.block_lt_of_cell? w _ hd)).trans hd⟩

def wtot (ws : List (ByteArray × Int)) : Nat := (ws.map fun x => x.1.size).sum
theorem infoW : (Tryz.prog.info? 88).map (fun i => (i.zero, i.size, i.bytes)) = some (some (.agg #[.string ByteArray.empty, .int .i64 0]), 2, 24) := by kernel_rfl

def WOwn (w : World) (B : Nat) (ao : Option Addr) (n cap : Nat) (ws : List (ByteArray × Int)) : Prop := ws.length = n ∧ w.ownsRow B 88 2 (.slice ao n cap) n (wvals ws)

theorem wvals_at (ws : List (ByteArray × Int)) (i : Nat) (h : i < ws.length) : (wvals ws)[i * 2]? = some (.string (wf ws i)) ∧ (wvals ws)[i * 2 + 1]? = some (.int .i64 (wq ws i)) := by
 induction ws generalizing i with
 | nil => simp at h
 | cons a r ih =>
  have e : wvals (a :: r) = .string a.1 :: .int .i64 a.2 :: wvals r := rfl
  cases i with
  | zero => exact ⟨rfl, rfl⟩
  | succ i =>
   have := ih i (by simpa using h)
   rw [e, show (i + 1) * 2 = i * 2 + 1 + 1 by omega]
   simpa [wf, wq] using this

theorem WOwn.rd {w : World} {B : Nat} {ao : Option Addr} {n cap : Nat} {ws : List (ByteArray × Int)} (h : WOwn w B ao n cap ws) : WRd w ao n cap ws := by
 obtain ⟨hl, h1, h2⟩ := h
 rcases h2 with ⟨e, rfl⟩ | ⟨g, c, cur, e, hb, hg, hc, hm, hs, ht⟩
 ·simp only [Value.slice.injEq] at e
  obtain ⟨rfl, _, rfl⟩ := e
  exact ⟨⟨hl, fun i hi => by omega⟩, Nat.le_refl _, Nat.zero_le _, fun _ => rfl⟩
 ·simp only [Value.slice.injEq] at e
  obtain ⟨rfl, _, rfl⟩ := e
  refine ⟨⟨hl, fun i hi => ⟨g, 0, rfl, ?_, ?_⟩⟩, hc, hm, fun h => by simp at h⟩
  all_goals
   have own : w.ownsRow B 88 2 (.slice (some ⟨g, 0, none⟩) n cap) n (wvals ws) := ⟨h1, .inr ⟨g, cap, cur, rfl, hb, hg, hc, hm, hs, ht⟩⟩
  ·rw [Nat.zero_add, own.cellAt (i * 2) (by omega), (wvals_at ws i (by omega)).1]
  ·rw [Nat.zero_add, own.cellAt (i * 2 + 1) (by omega), (wvals_at ws i (by omega)).2]

theorem wvals_set (ws : List (ByteArray × Int)) (k : Nat) (f : ByteArray) (q : Int) : ((wvals ws).set (k * 2) (.string f)).set (k * 2 + 1) (.int .i64 q) = wvals (ws.set k (f, q)) := by
 induction ws generalizing k with
 | nil => simp [wvals]
 | cons a r ih =>
  have e : wvals (a :: r) = .string a.1 :: .int .i64 a.2 :: wvals r := rfl
  cases k with
  | zero => rfl
  | succ k =>
   rw [e, show (k + 1) * 2 = k * 2 + 1 + 1 by omega]
   simp only [List.set_cons_succ]
   rw [ih k]
   rfl
theorem WOwn.below {w w' : World} {B : Nat} {ao : Option Addr} {n cap : Nat} {ws : List (ByteArray × Int)} (h : WOwn w B ao n cap ws) (hb : Below w.heap.size w w') : WOwn w' B ao n cap ws := by
 refine ⟨h.1, h.2.1, ?_⟩
 rcases h.2.2 with hn | ⟨g, c, cur, e, hB, hg, rest⟩
 ·exact .inl hn
 ·exact .inr ⟨g, c, cur, e, hB, by rw [hb.block g (Array.getElem?_eq_some_iff.1 hg).1]; exact hg, rest⟩
theorem WOwn.frozen {w : World} {B : Nat} {g n cap : Nat} {ws : List (ByteArray × Int)} (h : WOwn w B (some ⟨g, 0, none⟩) n cap ws) (j : Nat) : w.frozen? ⟨g, j, none⟩ = false := h.2.frozenAt j
theorem WOwn.store {w : World} {B : Nat} {g n cap : Nat} {ws : List (ByteArray × Int)} (h : WOwn w B (some ⟨g, 0, none⟩) n cap ws) (k : Nat) (f : ByteArray) (q : Int) :
  WOwn ((w.setCell ⟨g, k * 2, none⟩ (.string f)).setCell ⟨g, k * 2 + 1, none⟩ (.int .i64 q)) B (some ⟨g, 0, none⟩) n cap (ws.set k (f, q)) := by
 refine ⟨by simpa using h.1, ?_⟩
 have := ((h.2.stored (k * 2) (.string f)).1.stored (k * 2 + 1) (.int .i64 q)).1
 rw [wvals_set] at this
 exact this
theorem qsz (a : Option Addr) (n c L : Nat) (w : World) (hn : n ≤ maxLen) (hL : L ≤ 1048576) :
  Calls Tryz.prog 107 #[.slice a n c, .int .i64 L] w fun e w' => ∃ r : Int, e = .returned (.int .i64 r) ∧ w' = w ∧ (r < 0 ∨ ∃ R : Nat, r = R ∧ R + n = L) := by
 unfold maxLen at hn
 by_cases h : n ≤ L
 ·have h' : ¬ (L : Int) - n < 0 := by omega
  go_enter Tryz.func107, Tryz.ntmps107
  go_wp2
  go_ret
  exact ⟨_, rfl, rfl, .inr ⟨L - n, by omega, by omega⟩⟩
 ·have h' : (L : Int) - n < 0 := by omega
  go_enter Tryz.func107, Tryz.ntmps107
  go_wp2
  go_ret
  exact ⟨_, rfl, rfl, .inl (by decide)⟩


structure Sl where
 a : Option Addr
 n : Nat
 c : Nat
structure Pk where
 ty : Int
 dup : Bool
 qos : Int
 ret : Bool
 id : Int
 top : ByteArray
 bod : Sl
 cli : ByteArray
 lev : Int
 cln : Bool
 kee : Int
 hw : Bool
 wt : ByteArray
 wb : Sl
 wq : Int
 wr : Bool
 hu : Bool
 us : ByteArray
 hp : Bool
 pa : Sl
 cod : Int
 pre : Bool
 wan : Sl
 nam : Sl
 cds : Sl
def Pk.cells (p : Pk) : Array Value := #[.int .i64 p.ty, .bool p.dup, .int .i64 p.qos, .bool p.ret, .int .i64 p.id, .string p.top, .slice p.bod.a p.bod.n p.bod.c, .string p.cli, .int .i64 p.lev, .bool p.cln, .int .i64 p.kee, .bool p.hw, .string p.wt, .slice p.wb.a p.wb.n p.wb.c, .int .i64 p.wq, .bool p.wr, .bool p.hu, .string p.us, .bool p.hp, .slice p.pa.a p.pa.n p.pa.c, .int .i64 p.cod, .bool p.pre, .slice p.wan.a p.wan.n p.wan.c, .slice p.nam.a p.nam.n p.nam.c, .slice p.cds.a p.cds.n p.cds.c]
structure Pd where
 bod : List UInt8
 wb : List UInt8
 pa : List UInt8
 wan : List (ByteArray × Int)
 nam : List ByteArray
 cds : List Int
def PRd (w : World) (p : Pk) (d : Pd) : Prop :=
 RdIn w p.bod.a p.bod.n p.bod.c d.bod ∧ RdIn w p.wb.a p.wb.n p.wb.c d.wb ∧ RdIn w p.pa.a p.pa.n p.pa.c d.pa ∧ WRd w p.wan.a p.wan.n p.wan.c d.wan ∧ SRd w p.nam.a p.nam.n p.nam.c d.nam ∧ IRd w p.cds.a p.cds.n p.cds.c d.cds
theorem PRd.below {w w' : World} {p : Pk} {d : Pd} (h : PRd w p d) (hb : Below w.heap.size w w') : PRd w' p d :=
 ⟨h.1.below hb, h.2.1.below hb, h.2.2.1.below hb, h.2.2.2.1.below hb, h.2.2.2.2.1.below hb, h.2.2.2.2.2.below hb⟩
def Psm (p : Pk) (d : Pd) (L : Nat) : Prop := p.top.size + p.bod.n + p.cli.size + p.wt.size + p.wb.n + p.us.size + p.pa.n + (p.wan.n + wtot d.wan) + (p.nam.n + tot d.nam) + p.cds.n ≤ L

structure Re where
 bod : Option Addr × Nat
 wb : Option Addr × Nat
 pa : Option Addr × Nat
 wan : Option Addr × Nat
 nam : Option Addr × Nat
 cds : Option Addr × Nat
def Plen (p : Pk) (L : Nat) : Prop := p.bod.n ≤ L ∧ p.wb.n ≤ L ∧ p.pa.n ≤ L ∧ p.wan.n ≤ L ∧ p.nam.n ≤ L ∧ p.cds.n ≤ L
theorem Psm.len {p : Pk} {d : Pd} {L : Nat} (h : Psm p d L) : Plen p L := by
 unfold Psm at h
 unfold Plen
 omega

end Go.Proofs.YtccjiicjlifmiaaGreatDoor
