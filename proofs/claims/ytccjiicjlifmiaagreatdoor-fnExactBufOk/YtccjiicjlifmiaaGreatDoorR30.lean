/- Texts that the law FnExactBufOk uses. -/
import Derived.Test.YtccjiicjlifmiaaGreatDoorR29
set_option linter.unusedVariables false
set_option linter.unusedSimpArgs false
set_option maxRecDepth 100000
set_option maxHeartbeats 20000000
namespace Go.Proofs.YtccjiicjlifmiaaGreatDoor
open Go.RowKit

structure Rt (w0 y : World) (q r b : Nat) (ao : Option Addr) (n cap z : Nat) (e : Bool) (p : Pk) (d : Pd) : Prop where
 rdr : RB y q ao n cap z e
 blk : Blk y b p
 res : Blk y r Pk.zero
 own : POwn y w0.heap.size p d
 gro : Below w0.heap.size w0 y
 qn : w0.heap.size ≤ q
 bn : w0.heap.size ≤ b
 rn : w0.heap.size ≤ r
 rb : r ≠ b
 gd : Pgd 1048576 p d
section
variable {w0 y y' : World} {q r b : Nat} {ao : Option Addr} {n cap z : Nat} {e : Bool} {p : Pk} {d : Pd}
theorem Rt.qb (s : Rt w0 y q r b ao n cap z e p d) : q ≠ b := ty_ne s.rdr s.blk (by decide)
theorem Rt.qr (s : Rt w0 y q r b ao n cap z e p d) : q ≠ r := ty_ne s.rdr s.res (by decide)
theorem Rt.hasq (s : Rt w0 y q r b ao n cap z e p d) : ¬ p.has q := by
 rintro ⟨a, ha, hab⟩
 have hq : y.heap[q]? = some (.cells #[.slice ao n cap, .int .i64 (z : Nat), errV e] 187) := s.rdr
 simp only [List.mem_cons, List.not_mem_nil, or_false] at ha
 rcases ha with ha | ha | ha | ha | ha | ha
 ·have hh := s.own.bod.2
  rw [← ha] at hh
  obtain ⟨cur, hc⟩ := qci hh
  exact ty_ne hc hq (by decide) hab
 ·have hh := s.own.wb.2
  rw [← ha] at hh
  obtain ⟨cur, hc⟩ := qci hh
  exact ty_ne hc hq (by decide) hab
 ·have hh := s.own.pa.2
  rw [← ha] at hh
  obtain ⟨cur, hc⟩ := qci hh
  exact ty_ne hc hq (by decide) hab
 ·have hh := s.own.wan.2
  rw [← ha] at hh
  obtain ⟨cur, hc⟩ := qci hh
  exact ty_ne hc hq (by decide) hab
 ·have hh := s.own.nam.2
  rw [← ha] at hh
  obtain ⟨cur, hc⟩ := qci hh
  exact ty_ne hc hq (by decide) hab
 ·have hh := s.own.cds.2
  rw [← ha] at hh
  obtain ⟨cur, hc⟩ := qci hh
  exact ty_ne hc hq (by decide) hab
theorem Rt.read (s : Rt w0 y q r b ao n cap z e p d) {z' : Nat} {e' : Bool} (hR : RB y' q ao n cap z' e') (hg : y.grownBy y' (some q)) : Rt w0 y' q r b ao n cap z' e' p d :=
 ⟨hR, (hg.block b s.blk.lt (fun e => s.qb (by simpa using e.symm))).trans s.blk, (hg.block r s.res.lt (fun e => s.qr (by simpa using e.symm))).trans s.res,
  s.own.grown hg (fun k e hk => by cases e; exact s.hasq hk), s.gro.grown hg s.gro.size (fun k e => by cases e; exact s.qn), s.qn, s.bn, s.rn, s.rb, s.gd⟩
theorem Rt.new (s : Rt w0 y q r b ao n cap z e p d) (hb : Below y.heap.size y y') : Rt w0 y' q r b ao n cap z e p d :=
 ⟨s.rdr.next hb, s.blk.next hb, s.res.next hb, s.own.below hb, s.gro.trans (hb.mono s.gro.size), s.qn, s.bn, s.rn, s.rb, s.gd⟩
theorem Rt.set (s : Rt w0 y q r b ao n cap z e p d) (i : Nat) (v : Value) (p' : Pk) (hc : p.cells.setIfInBounds i v = p'.cells)
  (hl : p'.bod = p.bod ∧ p'.wb = p.wb ∧ p'.pa = p.pa ∧ p'.wan = p.wan ∧ p'.nam = p.nam ∧ p'.cds = p.cds) (hz : p'.top.size ≤ 61 ∧ p'.cli.size ≤ 61 ∧ p'.wt.size ≤ 61 ∧ p'.us.size ≤ 61) : Rt w0 (y.setCell ⟨b, i, none⟩ v) q r b ao n cap z e p' d := by
 have hg : y.grownBy (y.setCell ⟨b, i, none⟩ v) (some b) := qae y b i v
 obtain ⟨h1, h2, h3, h4, h5, h6⟩ := hl
 have ho := s.own.grown hg (fun k e => by cases e; exact s.own.ne s.blk)
 have hd := s.gd
 refine ⟨(hg.block q s.rdr.lt (fun e => s.qb (by simpa using e))).trans s.rdr, ?_, (hg.block r s.res.lt (fun e => by have := s.rb; simp at e; omega)).trans s.res, ?_, s.gro.grown hg s.gro.size (fun k e => by cases e; exact s.bn), s.qn, s.bn, s.rn, s.rb, ?_⟩
 ·have := qad s.blk i v
  rw [hc] at this
  exact this
 ·exact ⟨by rw [h1]; exact ho.bod, by rw [h2]; exact ho.wb, by rw [h3]; exact ho.pa, by rw [h4]; exact ho.wan, by rw [h5]; exact ho.nam, by rw [h6]; exact ho.cds, by rw [h1, h2, h3, h4, h5, h6]; exact ho.dis⟩
 ·exact ⟨hz.1, hz.2.1, hz.2.2.1, hz.2.2.2, by rw [h1]; exact hd.bod, by rw [h2]; exact hd.wb, by rw [h3]; exact hd.pa, by rw [h4]; exact hd.wan, by rw [h5]; exact hd.nam, by rw [h6]; exact hd.cds, hd.wans, hd.nams⟩
theorem Rt.s4 (s : Rt w0 y q r b ao n cap z e p d) (x : Int) : Rt w0 (y.setCell ⟨b, 4, none⟩ (.int .i64 x)) q r b ao n cap z e { p with id := x } d :=
 s.set 4 _ _ rfl ⟨rfl, rfl, rfl, rfl, rfl, rfl⟩ ⟨s.gd.top, s.gd.cli, s.gd.wt, s.gd.us⟩
theorem Rt.s5 (s : Rt w0 y q r b ao n cap z e p d) (x : ByteArray) (hx : x.size ≤ 61) : Rt w0 (y.setCell ⟨b, 5, none⟩ (.string x)) q r b ao n cap z e { p with top := x } d :=
 s.set 5 _ _ rfl ⟨rfl, rfl, rfl, rfl, rfl, rfl⟩ ⟨hx, s.gd.cli, s.gd.wt, s.gd.us⟩
theorem Rt.s7 (s : Rt w0 y q r b ao n cap z e p d) (x : ByteArray) (hx : x.size ≤ 61) : Rt w0 (y.setCell ⟨b, 7, none⟩ (.string x)) q r b ao n cap z e { p with cli := x } d :=
 s.set 7 _ _ rfl ⟨rfl, rfl, rfl, rfl, rfl, rfl⟩ ⟨s.gd.top, hx, s.gd.wt, s.gd.us⟩
theorem Rt.s8 (s : Rt w0 y q r b ao n cap z e p d) (x : Int) : Rt w0 (y.setCell ⟨b, 8, none⟩ (.int .i64 x)) q r b ao n cap z e { p with lev := x } d :=
 s.set 8 _ _ rfl ⟨rfl, rfl, rfl, rfl, rfl, rfl⟩ ⟨s.gd.top, s.gd.cli, s.gd.wt, s.gd.us⟩
theorem Rt.s9 (s : Rt w0 y q r b ao n cap z e p d) (x : Bool) : Rt w0 (y.setCell ⟨b, 9, none⟩ (.bool x)) q r b ao n cap z e { p with cln := x } d :=
 s.set 9 _ _ rfl ⟨rfl, rfl, rfl, rfl, rfl, rfl⟩ ⟨s.gd.top, s.gd.cli, s.gd.wt, s.gd.us⟩
theorem Rt.s10 (s : Rt w0 y q r b ao n cap z e p d) (x : Int) : Rt w0 (y.setCell ⟨b, 10, none⟩ (.int .i64 x)) q r b ao n cap z e { p with kee := x } d :=
 s.set 10 _ _ rfl ⟨rfl, rfl, rfl, rfl, rfl, rfl⟩ ⟨s.gd.top, s.gd.cli, s.gd.wt, s.gd.us⟩
theorem Rt.s11 (s : Rt w0 y q r b ao n cap z e p d) (x : Bool) : Rt w0 (y.setCell ⟨b, 11, none⟩ (.bool x)) q r b ao n cap z e { p with hw := x } d :=
 s.set 11 _ _ rfl ⟨rfl, rfl, rfl, rfl, rfl, rfl⟩ ⟨s.gd.top, s.gd.cli, s.gd.wt, s.gd.us⟩
theorem Rt.s12 (s : Rt w0 y q r b ao n cap z e p d) (x : ByteArray) (hx : x.size ≤ 61) : Rt w0 (y.setCell ⟨b, 12, none⟩ (.string x)) q r b ao n cap z e { p with wt := x } d :=
 s.set 12 _ _ rfl ⟨rfl, rfl, rfl, rfl, rfl, rfl⟩ ⟨s.gd.top, s.gd.cli, hx, s.gd.us⟩
theorem Rt.s14 (s : Rt w0 y q r b ao n cap z e p d) (x : Int) : Rt w0 (y.setCell ⟨b, 14, none⟩ (.int .i64 x)) q r b ao n cap z e { p with wq := x } d :=
 s.set 14 _ _ rfl ⟨rfl, rfl, rfl, rfl, rfl, rfl⟩ ⟨s.gd.top, s.gd.cli, s.gd.wt, s.gd.us⟩
theorem Rt.s15 (s : Rt w0 y q r b ao n cap z e p d) (x : Bool) : Rt w0 (y.setCell ⟨b, 15, none⟩ (.bool x)) q r b ao n cap z e { p with wr := x } d :=
 s.set 15 _ _ rfl ⟨rfl, rfl, rfl, rfl, rfl, rfl⟩ ⟨s.gd.top, s.gd.cli, s.gd.wt, s.gd.us⟩
theorem Rt.s16 (s : Rt w0 y q r b ao n cap z e p d) (x : Bool) : Rt w0 (y.setCell ⟨b, 16, none⟩ (.bool x)) q r b ao n cap z e { p with hu := x } d :=
 s.set 16 _ _ rfl ⟨rfl, rfl, rfl, rfl, rfl, rfl⟩ ⟨s.gd.top, s.gd.cli, s.gd.wt, s.gd.us⟩
theorem Rt.s17 (s : Rt w0 y q r b ao n cap z e p d) (x : ByteArray) (hx : x.size ≤ 61) : Rt w0 (y.setCell ⟨b, 17, none⟩ (.string x)) q r b ao n cap z e { p with us := x } d :=
 s.set 17 _ _ rfl ⟨rfl, rfl, rfl, rfl, rfl, rfl⟩ ⟨s.gd.top, s.gd.cli, s.gd.wt, hx⟩
theorem Rt.s18 (s : Rt w0 y q r b ao n cap z e p d) (x : Bool) : Rt w0 (y.setCell ⟨b, 18, none⟩ (.bool x)) q r b ao n cap z e { p with hp := x } d :=
 s.set 18 _ _ rfl ⟨rfl, rfl, rfl, rfl, rfl, rfl⟩ ⟨s.gd.top, s.gd.cli, s.gd.wt, s.gd.us⟩
theorem Rt.s20 (s : Rt w0 y q r b ao n cap z e p d) (x : Int) : Rt w0 (y.setCell ⟨b, 20, none⟩ (.int .i64 x)) q r b ao n cap z e { p with cod := x } d :=
 s.set 20 _ _ rfl ⟨rfl, rfl, rfl, rfl, rfl, rfl⟩ ⟨s.gd.top, s.gd.cli, s.gd.wt, s.gd.us⟩
theorem Rt.s21 (s : Rt w0 y q r b ao n cap z e p d) (x : Bool) : Rt w0 (y.setCell ⟨b, 21, none⟩ (.bool x)) q r b ao n cap z e { p with pre := x } d :=
 s.set 21 _ _ rfl ⟨rfl, rfl, rfl, rfl, rfl, rfl⟩ ⟨s.gd.top, s.gd.cli, s.gd.wt, s.gd.us⟩
theorem Rt.l6 (s : Rt w0 y q r b ao n cap z e p d) {a : Option Addr} {k c : Nat} {x : List UInt8} (hx : Own y w0.heap.size a k c x) (hm : k ≤ 1048576) (hn : ∀ q0, a = some q0 → q0.block ≠ b) (D2 : Dis p.wb.a a) (D3 : Dis p.pa.a a) (D4 : Dis p.wan.a a) (D5 : Dis p.nam.a a) (D6 : Dis p.cds.a a) :
  Rt w0 (y.setCell ⟨b, 6, none⟩ (.slice a k c)) q r b ao n cap z e { p with bod := ⟨a, k, c⟩ } { d with bod := x } := by
 have hg : y.grownBy (y.setCell ⟨b, 6, none⟩ (.slice a k c)) (some b) := qae y b 6 _
 have ho := s.own.grown hg (fun k e => by cases e; exact s.own.ne s.blk)
 have hx' := hx.grown hg (fun q0 e he => hn q0 e (by simpa using he))
 have hd := s.gd
 refine ⟨(hg.block q s.rdr.lt (fun e => s.qb (by simpa using e))).trans s.rdr, qad s.blk 6 _, (hg.block r s.res.lt (fun e => by have := s.rb; simp at e; omega)).trans s.res, ?_, s.gro.grown hg s.gro.size (fun k e => by cases e; exact s.bn), s.qn, s.bn, s.rn, s.rb, ⟨hd.top, hd.cli, hd.wt, hd.us, hm, hd.wb, hd.pa, hd.wan, hd.nam, hd.cds, hd.wans, hd.nams⟩⟩
 refine ⟨hx', ho.wb, ho.pa, ho.wan, ho.nam, ho.cds, ?_⟩
 have hq := pw6.1 s.own.dis
 obtain ⟨⟨q12, q13, q14, q15, q16⟩, ⟨q23, q24, q25, q26⟩, ⟨q34, q35, q36⟩, ⟨q45, q46⟩, q56⟩ := hq
 exact pw6.2 ⟨⟨D2.symm, D3.symm, D4.symm, D5.symm, D6.symm⟩, ⟨q23, q24, q25, q26⟩, ⟨q34, q35, q36⟩, ⟨q45, q46⟩, q56⟩
theorem Rt.l13 (s : Rt w0 y q r b ao n cap z e p d) {a : Option Addr} {k c : Nat} {x : List UInt8} (hx : Own y w0.heap.size a k c x) (hm : k ≤ 1048576) (hn : ∀ q0, a = some q0 → q0.block ≠ b) (D1 : Dis p.bod.a a) (D3 : Dis p.pa.a a) (D4 : Dis p.wan.a a) (D5 : Dis p.nam.a a) (D6 : Dis p.cds.a a) :
  Rt w0 (y.setCell ⟨b, 13, none⟩ (.slice a k c)) q r b ao n cap z e { p with wb := ⟨a, k, c⟩ } { d with wb := x } := by
 have hg : y.grownBy (y.setCell ⟨b, 13, none⟩ (.slice a k c)) (some b) := qae y b 13 _
 have ho := s.own.grown hg (fun k e => by cases e; exact s.own.ne s.blk)
 have hx' := hx.grown hg (fun q0 e he => hn q0 e (by simpa using he))
 have hd := s.gd
 refine ⟨(hg.block q s.rdr.lt (fun e => s.qb (by simpa using e))).trans s.rdr, qad s.blk 13 _, (hg.block r s.res.lt (fun e => by have := s.rb; simp at e; omega)).trans s.res, ?_, s.gro.grown hg s.gro.size (fun k e => by cases e; exact s.bn), s.qn, s.bn, s.rn, s.rb, ⟨hd.top, hd.cli, hd.wt, hd.us, hd.bod, hm, hd.pa, hd.wan, hd.nam, hd.cds, hd.wans, hd.nams⟩⟩
 refine ⟨ho.bod, hx', ho.pa, ho.wan, ho.nam, ho.cds, ?_⟩
 have hq := pw6.1 s.own.dis
 obtain ⟨⟨q12, q13, q14, q15, q16⟩, ⟨q23, q24, q25, q26⟩, ⟨q34, q35, q36⟩, ⟨q45, q46⟩, q56⟩ := hq
 exact pw6.2 ⟨⟨D1, q13, q14, q15, q16⟩, ⟨D3.symm, D4.symm, D5.symm, D6.symm⟩, ⟨q34, q35, q36⟩, ⟨q45, q46⟩, q56⟩
theorem Rt.l19 (s : Rt w0 y q r b ao n cap z e p d) {a : Option Addr} {k c : Nat} {x : List UInt8} (hx : Own y w0.heap.size a k c x) (hm : k ≤ 1048576) (hn : ∀ q0, a = some q0 → q0.block ≠ b) (D1 : Dis p.bod.a a) (D2 : Dis p.wb.a a) (D4 : Dis p.wan.a a) (D5 : Dis p.nam.a a) (D6 : Dis p.cds.a a) :
  Rt w0 (y.setCell ⟨b, 19, none⟩ (.slice a k c)) q r b ao n cap z e { p with pa := ⟨a, k, c⟩ } { d with pa := x } := by
 have hg : y.grownBy (y.setCell ⟨b, 19, none⟩ (.slice a k c)) (some b) := qae y b 19 _
 have ho := s.own.grown hg (fun k e => by cases e; exact s.own.ne s.blk)
 have hx' := hx.grown hg (fun q0 e he => hn q0 e (by simpa using he))
 have hd := s.gd
 refine ⟨(hg.block q s.rdr.lt (fun e => s.qb (by simpa using e))).trans s.rdr, qad s.blk 19 _, (hg.block r s.res.lt (fun e => by have := s.rb; simp at e; omega)).trans s.res, ?_, s.gro.grown hg s.gro.size (fun k e => by cases e; exact s.bn), s.qn, s.bn, s.rn, s.rb, ⟨hd.top, hd.cli, hd.wt, hd.us, hd.bod, hd.wb, hm, hd.wan, hd.nam, hd.cds, hd.wans, hd.nams⟩⟩
 refine ⟨ho.bod, ho.wb, hx', ho.wan, ho.nam, ho.cds, ?_⟩
 have hq := pw6.1 s.own.dis
 obtain ⟨⟨q12, q13, q14, q15, q16⟩, ⟨q23, q24, q25, q26⟩, ⟨q34, q35, q36⟩, ⟨q45, q46⟩, q56⟩ := hq
 exact pw6.2 ⟨⟨q12, D1, q14, q15, q16⟩, ⟨D2, q24, q25, q26⟩, ⟨D4.symm, D5.symm, D6.symm⟩, ⟨q45, q46⟩, q56⟩
theorem Rt.l22 (s : Rt w0 y q r b ao n cap z e p d) {a : Option Addr} {k c : Nat} {x : List (ByteArray × Int)} (hx : WOwn y w0.heap.size a k c x) (hm : k ≤ 1048576) (hX : ∀ z ∈ x, z.1.size ≤ 61) (hn : ∀ q0, a = some q0 → q0.block ≠ b) (D1 : Dis p.bod.a a) (D2 : Dis p.wb.a a) (D3 : Dis p.pa.a a) (D5 : Dis p.nam.a a) (D6 : Dis p.cds.a a) :
  Rt w0 (y.setCell ⟨b, 22, none⟩ (.slice a k c)) q r b ao n cap z e { p with wan := ⟨a, k, c⟩ } { d with wan := x } := by
 have hg : y.grownBy (y.setCell ⟨b, 22, none⟩ (.slice a k c)) (some b) := qae y b 22 _
 have ho := s.own.grown hg (fun k e => by cases e; exact s.own.ne s.blk)
 have hx' := hx.grown hg (fun q0 e he => hn q0 e (by simpa using he))
 have hd := s.gd
 refine ⟨(hg.block q s.rdr.lt (fun e => s.qb (by simpa using e))).trans s.rdr, qad s.blk 22 _, (hg.block r s.res.lt (fun e => by have := s.rb; simp at e; omega)).trans s.res, ?_, s.gro.grown hg s.gro.size (fun k e => by cases e; exact s.bn), s.qn, s.bn, s.rn, s.rb, ⟨hd.top, hd.cli, hd.wt, hd.us, hd.bod, hd.wb, hd.pa, hm, hd.nam, hd.cds, hX, hd.nams⟩⟩
 refine ⟨ho.bod, ho.wb, ho.pa, hx', ho.nam, ho.cds, ?_⟩
 have hq := pw6.1 s.own.dis
 obtain ⟨⟨q12, q13, q14, q15, q16⟩, ⟨q23, q24, q25, q26⟩, ⟨q34, q35, q36⟩, ⟨q45, q46⟩, q56⟩ := hq
 exact pw6.2 ⟨⟨q12, q13, D1, q15, q16⟩, ⟨q23, D2, q25, q26⟩, ⟨D3, q35, q36⟩, ⟨D5.symm, D6.symm⟩, q56⟩
theorem Rt.l23 (s : Rt w0 y q r b ao n cap z e p d) {a : Option Addr} {k c : Nat} {x : List ByteArray} (hx : SOwn y w0.heap.size a k c x) (hm : k ≤ 1048576) (hX : ∀ z ∈ x, z.size ≤ 61) (hn : ∀ q0, a = some q0 → q0.block ≠ b) (D1 : Dis p.bod.a a) (D2 : Dis p.wb.a a) (D3 : Dis p.pa.a a) (D4 : Dis p.wan.a a) (D6 : Dis p.cds.a a) :
  Rt w0 (y.setCell ⟨b, 23, none⟩ (.slice a k c)) q r b ao n cap z e { p with nam := ⟨a, k, c⟩ } { d with nam := x } := by
 have hg : y.grownBy (y.setCell ⟨b, 23, none⟩ (.slice a k c)) (some b) := qae y b 23 _
 have ho := s.own.grown hg (fun k e => by cases e; exact s.own.ne s.blk)
 have hx' := hx.grown hg (fun q0 e he => hn q0 e (by simpa using he))
 have hd := s.gd
 refine ⟨(hg.block q s.rdr.lt (fun e => s.qb (by simpa using e))).trans s.rdr, qad s.blk 23 _, (hg.block r s.res.lt (fun e => by have := s.rb; simp at e; omega)).trans s.res, ?_, s.gro.grown hg s.gro.size (fun k e => by cases e; exact s.bn), s.qn, s.bn, s.rn, s.rb, ⟨hd.top, hd.cli, hd.wt, hd.us, hd.bod, hd.wb, hd.pa, hd.wan, hm, hd.cds, hd.wans, hX⟩⟩
 refine ⟨ho.bod, ho.wb, ho.pa, ho.wan, hx', ho.cds, ?_⟩
 have hq := pw6.1 s.own.dis
 obtain ⟨⟨q12, q13, q14, q15, q16⟩, ⟨q23, q24, q25, q26⟩, ⟨q34, q35, q36⟩, ⟨q45, q46⟩, q56⟩ := hq
 exact pw6.2 ⟨⟨q12, q13, q14, D1, q16⟩, ⟨q23, q24, D2, q26⟩, ⟨q34, D3, q36⟩, ⟨D4, q46⟩, D6.symm⟩
theorem Rt.l24 (s : Rt w0 y q r b ao n cap z e p d) {a : Option Addr} {k c : Nat} {x : List Int} (hx : IOwn y w0.heap.size a k c x) (hm : k ≤ 1048576) (hn : ∀ q0, a = some q0 → q0.block ≠ b) (D1 : Dis p.bod.a a) (D2 : Dis p.wb.a a) (D3 : Dis p.pa.a a) (D4 : Dis p.wan.a a) (D5 : Dis p.nam.a a) :
  Rt w0 (y.setCell ⟨b, 24, none⟩ (.slice a k c)) q r b ao n cap z e { p with cds := ⟨a, k, c⟩ } { d with cds := x } := by
 have hg : y.grownBy (y.setCell ⟨b, 24, none⟩ (.slice a k c)) (some b) := qae y b 24 _
 have ho := s.own.grown hg (fun k e => by cases e; exact s.own.ne s.blk)
 have hx' := hx.grown hg (fun q0 e he => hn q0 e (by simpa using he))
 have hd := s.gd
 refine ⟨(hg.block q s.rdr.lt (fun e => s.qb (by simpa using e))).trans s.rdr, qad s.blk 24 _, (hg.block r s.res.lt (fun e => by have := s.rb; simp at e; omega)).trans s.res, ?_, s.gro.grown hg s.gro.size (fun k e => by cases e; exact s.bn), s.qn, s.bn, s.rn, s.rb, ⟨hd.top, hd.cli, hd.wt, hd.us, hd.bod, hd.wb, hd.pa, hd.wan, hd.nam, hm, hd.wans, hd.nams⟩⟩
 refine ⟨ho.bod, ho.wb, ho.pa, ho.wan, ho.nam, hx', ?_⟩
 have hq := pw6.1 s.own.dis
 obtain ⟨⟨q12, q13, q14, q15, q16⟩, ⟨q23, q24, q25, q26⟩, ⟨q34, q35, q36⟩, ⟨q45, q46⟩, q56⟩ := hq
 exact pw6.2 ⟨⟨q12, q13, q14, q15, D1⟩, ⟨q23, q24, q25, D2⟩, ⟨q34, q35, D3⟩, ⟨q45, D4⟩, D5⟩
theorem Rt.old (s : Rt w0 y q r b ao n cap z e p d) {a : Option Addr} (hx : ∀ u, a = some u → y.heap.size ≤ u.block) (j : Nat) : Dis ([p.bod.a, p.wb.a, p.pa.a, p.wan.a, p.nam.a, p.cds.a].getD j none) a := by
 intro t u ht hu e
 have h1 := hx u hu
 have h2 : p.has t.block := by
  refine ⟨t, ?_, rfl⟩
  rw [← ht, List.getD_eq_getElem?_getD]
  rw [List.getD_eq_getElem?_getD] at ht
  cases hj : [p.bod.a, p.wb.a, p.pa.a, p.wan.a, p.nam.a, p.cds.a][j]? with
  | none => rw [hj] at ht; cases ht
  | some v => exact List.mem_of_getElem? hj
 have h3 := (s.own.lt h2).2
 omega
theorem Rt.n6 (s : Rt w0 y q r b ao n cap z e p d) {z' : Nat} {e' : Bool} (hR : RB y' q ao n cap z' e') (hg : y.grownBy y' (some q)) {a : Option Addr} {k c : Nat} {x : List UInt8} (hx : Own y' y.heap.size a k c x) (hm : k ≤ 1048576) :
  Rt w0 (y'.setCell ⟨b, 6, none⟩ (.slice a k c)) q r b ao n cap z' e' { p with bod := ⟨a, k, c⟩ } { d with bod := x } := by
 have s2 := s.read hR hg
 have hnew : ∀ u, a = some u → y.heap.size ≤ u.block := fun u hu => (hx.2.lt u.block (by rw [hu]; rfl)).1
 refine s2.l6 (⟨hx.1, qaz hx.2 s.gro.size⟩) hm (fun q0 e0 => ?_) (s.old hnew 1) (s.old hnew 2) (s.old hnew 3) (s.old hnew 4) (s.old hnew 5)
 have h1 := hnew q0 e0
 have h2 := s.blk.lt
 omega
theorem Rt.n13 (s : Rt w0 y q r b ao n cap z e p d) {z' : Nat} {e' : Bool} (hR : RB y' q ao n cap z' e') (hg : y.grownBy y' (some q)) {a : Option Addr} {k c : Nat} {x : List UInt8} (hx : Own y' y.heap.size a k c x) (hm : k ≤ 1048576) :
  Rt w0 (y'.setCell ⟨b, 13, none⟩ (.slice a k c)) q r b ao n cap z' e' { p with wb := ⟨a, k, c⟩ } { d with wb := x } := by
 have s2 := s.read hR hg
 have hnew : ∀ u, a = some u → y.heap.size ≤ u.block := fun u hu => (hx.2.lt u.block (by rw [hu]; rfl)).1
 refine s2.l13 (⟨hx.1, qaz hx.2 s.gro.size⟩) hm (fun q0 e0 => ?_) (s.old hnew 0) (s.old hnew 2) (s.old hnew 3) (s.old hnew 4) (s.old hnew 5)
 have h1 := hnew q0 e0
 have h2 := s.blk.lt
 omega
theorem Rt.n19 (s : Rt w0 y q r b ao n cap z e p d) {z' : Nat} {e' : Bool} (hR : RB y' q ao n cap z' e') (hg : y.grownBy y' (some q)) {a : Option Addr} {k c : Nat} {x : List UInt8} (hx : Own y' y.heap.size a k c x) (hm : k ≤ 1048576) :
  Rt w0 (y'.setCell ⟨b, 19, none⟩ (.slice a k c)) q r b ao n cap z' e' { p with pa := ⟨a, k, c⟩ } { d with pa := x } := by
 have s2 := s.read hR hg
 have hnew : ∀ u, a = some u → y.heap.size ≤ u.block := fun u hu => (hx.2.lt u.block (by rw [hu]; rfl)).1
 refine s2.l19 (⟨hx.1, qaz hx.2 s.gro.size⟩) hm (fun q0 e0 => ?_) (s.old hnew 0) (s.old hnew 1) (s.old hnew 3) (s.old hnew 4) (s.old hnew 5)
 have h1 := hnew q0 e0
 have h2 := s.blk.lt
 omega
theorem Rt.n22 (s : Rt w0 y q r b ao n cap z e p d) {z' : Nat} {e' : Bool} (hR : RB y' q ao n cap z' e') (hg : y.grownBy y' (some q)) {a : Option Addr} {k c : Nat} {x : List (ByteArray × Int)} (hx : WOwn y' y.heap.size a k c x) (hm : k ≤ 1048576) (hX : ∀ v ∈ x, v.1.size ≤ 61) :
  Rt w0 (y'.setCell ⟨b, 22, none⟩ (.slice a k c)) q r b ao n cap z' e' { p with wan := ⟨a, k, c⟩ } { d with wan := x } := by
 have s2 := s.read hR hg
 have hnew : ∀ u, a = some u → y.heap.size ≤ u.block := fun u hu => (hx.2.lt u.block (by rw [hu]; rfl)).1
 refine s2.l22 (⟨hx.1, qaz hx.2 s.gro.size⟩) hm hX (fun q0 e0 => ?_) (s.old hnew 0) (s.old hnew 1) (s.old hnew 2) (s.old hnew 4) (s.old hnew 5)
 have h1 := hnew q0 e0
 have h2 := s.blk.lt
 omega
theorem Rt.n23 (s : Rt w0 y q r b ao n cap z e p d) {z' : Nat} {e' : Bool} (hR : RB y' q ao n cap z' e') (hg : y.grownBy y' (some q)) {a : Option Addr} {k c : Nat} {x : List ByteArray} (hx : SOwn y' y.heap.size a k c x) (hm : k ≤ 1048576) (hX : ∀ v ∈ x, v.size ≤ 61) :
  Rt w0 (y'.setCell ⟨b, 23, none⟩ (.slice a k c)) q r b ao n cap z' e' { p with nam := ⟨a, k, c⟩ } { d with nam := x } := by
 have s2 := s.read hR hg
 have hnew : ∀ u, a = some u → y.heap.size ≤ u.block := fun u hu => (hx.2.lt u.block (by rw [hu]; rfl)).1
 refine s2.l23 (⟨hx.1, qaz hx.2 s.gro.size⟩) hm hX (fun q0 e0 => ?_) (s.old hnew 0) (s.old hnew 1) (s.old hnew 2) (s.old hnew 3) (s.old hnew 5)
 have h1 := hnew q0 e0
 have h2 := s.blk.lt
 omega
theorem Rt.n24 (s : Rt w0 y q r b ao n cap z e p d) {z' : Nat} {e' : Bool} (hR : RB y' q ao n cap z' e') (hg : y.grownBy y' (some q)) {a : Option Addr} {k c : Nat} {x : List Int} (hx : IOwn y' y.heap.size a k c x) (hm : k ≤ 1048576) :
  Rt w0 (y'.setCell ⟨b, 24, none⟩ (.slice a k c)) q r b ao n cap z' e' { p with cds := ⟨a, k, c⟩ } { d with cds := x } := by
 have s2 := s.read hR hg
 have hnew : ∀ u, a = some u → y.heap.size ≤ u.block := fun u hu => (hx.2.lt u.block (by rw [hu]; rfl)).1
 refine s2.l24 (⟨hx.1, qaz hx.2 s.gro.size⟩) hm (fun q0 e0 => ?_) (s.old hnew 0) (s.old hnew 1) (s.old hnew 2) (s.old hnew 3) (s.old hnew 4)
 have h1 := hnew q0 e0
 have h2 := s.blk.lt
 omega
end
end Go.Proofs.YtccjiicjlifmiaaGreatDoor
