/- Lemmas. -/
import Derived.Test.YtpjkbgdkligpdaaGreatDoorX30
set_option linter.unusedVariables false
set_option linter.unusedSimpArgs false
set_option maxRecDepth 100000
set_option maxHeartbeats 20000000
namespace Go.Proofs.YtpjkbgdkligpdaaGreatDoor
open Go.RowKit

structure Ct (w0 y:World) (r b:Nat) (p:Pk) (d:Pd):Prop where
 blk:Blk y b p
 res:Blk y r Pk.zero
 own:POwn y w0.heap.size p d
 gro:Below w0.heap.size w0 y
 bn:w0.heap.size≤b
 rn:w0.heap.size≤r
 rb:r≠b
 gd:Pgd 1048576 p d
section
variable {w0 y y' : World} {r b : Nat} {p : Pk} {d : Pd}
theorem Ct.new (s:Ct w0 y r b p d) (hb:Below y.heap.size y y'):Ct w0 y' r b p d :=
 ⟨s.blk.next hb,s.res.next hb,s.own.below hb,s.gro.trans (hb.mono s.gro.size),s.bn,s.rn,s.rb,s.gd⟩
theorem Ct.set (s:Ct w0 y r b p d) (i:Nat) (v:Value) (p':Pk) (hc:p.cells.setIfInBounds i v=p'.cells)
  (hl:p'.bod=p.bod∧p'.wb=p.wb∧p'.pa=p.pa∧p'.wan=p.wan∧p'.nam=p.nam∧p'.cds=p.cds) (hz:p'.top.size≤61∧p'.cli.size≤61∧p'.wt.size≤61∧p'.us.size≤61):Ct w0 (y.setCell ⟨b,i,none⟩ v) r b p' d:=by
 have hg:y.grownBy (y.setCell ⟨b,i,none⟩ v) (some b):=qah y b i v;obtain⟨h1,h2,h3,h4,h5,h6⟩:=hl;have ho:=s.own.grown hg (fun k e=>by cases e;exact s.own.ne s.blk);have hd:=s.gd;refine⟨?_,(hg.block r s.res.lt (fun e=>by have:=s.rb;simp at e;omega)).trans s.res,?_,s.gro.grown hg s.gro.size (fun k e=>by cases e;exact s.bn),s.bn,s.rn,s.rb,?_⟩
 ·have:=qaf s.blk i v;rw[hc] at this;exact this
 ·exact⟨by rw[h1];exact ho.bod,by rw[h2];exact ho.wb,by rw[h3];exact ho.pa,by rw[h4];exact ho.wan,by rw[h5];exact ho.nam,by rw[h6];exact ho.cds,by rw[h1,h2,h3,h4,h5,h6];exact ho.dis⟩
 ·exact⟨hz.1,hz.2.1,hz.2.2.1,hz.2.2.2,by rw[h1];exact hd.bod,by rw[h2];exact hd.wb,by rw[h3];exact hd.pa,by rw[h4];exact hd.wan,by rw[h5];exact hd.nam,by rw[h6];exact hd.cds,hd.wans,hd.nams⟩
theorem Ct.s4 (s:Ct w0 y r b p d) (x:Int):Ct w0 (y.setCell ⟨b,4,none⟩ (.int .i64 x)) r b { p with id:=x } d :=
 s.set 4 _ _ rfl ⟨rfl,rfl,rfl,rfl,rfl,rfl⟩ ⟨s.gd.top,s.gd.cli,s.gd.wt,s.gd.us⟩
theorem Ct.s5 (s:Ct w0 y r b p d) (x:ByteArray) (hx:x.size≤61):Ct w0 (y.setCell ⟨b,5,none⟩ (.string x)) r b { p with top:=x } d :=
 s.set 5 _ _ rfl ⟨rfl,rfl,rfl,rfl,rfl,rfl⟩ ⟨hx,s.gd.cli,s.gd.wt,s.gd.us⟩
theorem Ct.s7 (s:Ct w0 y r b p d) (x:ByteArray) (hx:x.size≤61):Ct w0 (y.setCell ⟨b,7,none⟩ (.string x)) r b { p with cli:=x } d :=
 s.set 7 _ _ rfl ⟨rfl,rfl,rfl,rfl,rfl,rfl⟩ ⟨s.gd.top,hx,s.gd.wt,s.gd.us⟩
theorem Ct.s8 (s:Ct w0 y r b p d) (x:Int):Ct w0 (y.setCell ⟨b,8,none⟩ (.int .i64 x)) r b { p with lev:=x } d :=
 s.set 8 _ _ rfl ⟨rfl,rfl,rfl,rfl,rfl,rfl⟩ ⟨s.gd.top,s.gd.cli,s.gd.wt,s.gd.us⟩
theorem Ct.s9 (s:Ct w0 y r b p d) (x:Bool):Ct w0 (y.setCell ⟨b,9,none⟩ (.bool x)) r b { p with cln:=x } d :=
 s.set 9 _ _ rfl ⟨rfl,rfl,rfl,rfl,rfl,rfl⟩ ⟨s.gd.top,s.gd.cli,s.gd.wt,s.gd.us⟩
theorem Ct.s10 (s:Ct w0 y r b p d) (x:Int):Ct w0 (y.setCell ⟨b,10,none⟩ (.int .i64 x)) r b { p with kee:=x } d :=
 s.set 10 _ _ rfl ⟨rfl,rfl,rfl,rfl,rfl,rfl⟩ ⟨s.gd.top,s.gd.cli,s.gd.wt,s.gd.us⟩
theorem Ct.s11 (s:Ct w0 y r b p d) (x:Bool):Ct w0 (y.setCell ⟨b,11,none⟩ (.bool x)) r b { p with hw:=x } d :=
 s.set 11 _ _ rfl ⟨rfl,rfl,rfl,rfl,rfl,rfl⟩ ⟨s.gd.top,s.gd.cli,s.gd.wt,s.gd.us⟩
theorem Ct.s12 (s:Ct w0 y r b p d) (x:ByteArray) (hx:x.size≤61):Ct w0 (y.setCell ⟨b,12,none⟩ (.string x)) r b { p with wt:=x } d :=
 s.set 12 _ _ rfl ⟨rfl,rfl,rfl,rfl,rfl,rfl⟩ ⟨s.gd.top,s.gd.cli,hx,s.gd.us⟩
theorem Ct.s14 (s:Ct w0 y r b p d) (x:Int):Ct w0 (y.setCell ⟨b,14,none⟩ (.int .i64 x)) r b { p with wq:=x } d :=
 s.set 14 _ _ rfl ⟨rfl,rfl,rfl,rfl,rfl,rfl⟩ ⟨s.gd.top,s.gd.cli,s.gd.wt,s.gd.us⟩
theorem Ct.s15 (s:Ct w0 y r b p d) (x:Bool):Ct w0 (y.setCell ⟨b,15,none⟩ (.bool x)) r b { p with wr:=x } d :=
 s.set 15 _ _ rfl ⟨rfl,rfl,rfl,rfl,rfl,rfl⟩ ⟨s.gd.top,s.gd.cli,s.gd.wt,s.gd.us⟩
theorem Ct.s16 (s:Ct w0 y r b p d) (x:Bool):Ct w0 (y.setCell ⟨b,16,none⟩ (.bool x)) r b { p with hu:=x } d :=
 s.set 16 _ _ rfl ⟨rfl,rfl,rfl,rfl,rfl,rfl⟩ ⟨s.gd.top,s.gd.cli,s.gd.wt,s.gd.us⟩
theorem Ct.s17 (s:Ct w0 y r b p d) (x:ByteArray) (hx:x.size≤61):Ct w0 (y.setCell ⟨b,17,none⟩ (.string x)) r b { p with us:=x } d :=
 s.set 17 _ _ rfl ⟨rfl,rfl,rfl,rfl,rfl,rfl⟩ ⟨s.gd.top,s.gd.cli,s.gd.wt,hx⟩
theorem Ct.s18 (s:Ct w0 y r b p d) (x:Bool):Ct w0 (y.setCell ⟨b,18,none⟩ (.bool x)) r b { p with hp:=x } d :=
 s.set 18 _ _ rfl ⟨rfl,rfl,rfl,rfl,rfl,rfl⟩ ⟨s.gd.top,s.gd.cli,s.gd.wt,s.gd.us⟩
theorem Ct.s20 (s:Ct w0 y r b p d) (x:Int):Ct w0 (y.setCell ⟨b,20,none⟩ (.int .i64 x)) r b { p with cod:=x } d :=
 s.set 20 _ _ rfl ⟨rfl,rfl,rfl,rfl,rfl,rfl⟩ ⟨s.gd.top,s.gd.cli,s.gd.wt,s.gd.us⟩
theorem Ct.s21 (s:Ct w0 y r b p d) (x:Bool):Ct w0 (y.setCell ⟨b,21,none⟩ (.bool x)) r b { p with pre:=x } d :=
 s.set 21 _ _ rfl ⟨rfl,rfl,rfl,rfl,rfl,rfl⟩ ⟨s.gd.top,s.gd.cli,s.gd.wt,s.gd.us⟩
theorem Ct.l6 (s:Ct w0 y r b p d) {a:Option Addr} {k c:Nat} {x:List UInt8} (hx:Own y w0.heap.size a k c x) (hm:k≤1048576) (hn:∀q0,a=some q0→q0.block≠b) (D2:Dis p.wb.a a) (D3:Dis p.pa.a a) (D4:Dis p.wan.a a) (D5:Dis p.nam.a a) (D6:Dis p.cds.a a) :
  Ct w0 (y.setCell ⟨b,6,none⟩ (.slice a k c)) r b { p with bod:=⟨a,k,c⟩ } { d with bod:=x }:=by
 have hg:y.grownBy (y.setCell ⟨b,6,none⟩ (.slice a k c)) (some b):=qah y b 6 _;have ho:=s.own.grown hg (fun k e=>by cases e;exact s.own.ne s.blk);have hx':=hx.grown hg (fun q0 e he=>hn q0 e (by simpa using he));have hd:=s.gd;refine⟨qaf s.blk 6 _,(hg.block r s.res.lt (fun e=>by have:=s.rb;simp at e;omega)).trans s.res,?_,s.gro.grown hg s.gro.size (fun k e=>by cases e;exact s.bn),s.bn,s.rn,s.rb,⟨hd.top,hd.cli,hd.wt,hd.us,hm,hd.wb,hd.pa,hd.wan,hd.nam,hd.cds,hd.wans,hd.nams⟩⟩;refine⟨hx',ho.wb,ho.pa,ho.wan,ho.nam,ho.cds,?_⟩;have hq:=pw6.1 s.own.dis;obtain⟨⟨q12,q13,q14,q15,q16⟩,⟨q23,q24,q25,q26⟩,⟨q34,q35,q36⟩,⟨q45,q46⟩,q56⟩:=hq;exact pw6.2 ⟨⟨D2.symm,D3.symm,D4.symm,D5.symm,D6.symm⟩,⟨q23,q24,q25,q26⟩,⟨q34,q35,q36⟩,⟨q45,q46⟩,q56⟩
theorem Ct.l13 (s:Ct w0 y r b p d) {a:Option Addr} {k c:Nat} {x:List UInt8} (hx:Own y w0.heap.size a k c x) (hm:k≤1048576) (hn:∀q0,a=some q0→q0.block≠b) (D1:Dis p.bod.a a) (D3:Dis p.pa.a a) (D4:Dis p.wan.a a) (D5:Dis p.nam.a a) (D6:Dis p.cds.a a) :
  Ct w0 (y.setCell ⟨b,13,none⟩ (.slice a k c)) r b { p with wb:=⟨a,k,c⟩ } { d with wb:=x }:=by
 have hg:y.grownBy (y.setCell ⟨b,13,none⟩ (.slice a k c)) (some b):=qah y b 13 _;have ho:=s.own.grown hg (fun k e=>by cases e;exact s.own.ne s.blk);have hx':=hx.grown hg (fun q0 e he=>hn q0 e (by simpa using he));have hd:=s.gd;refine⟨qaf s.blk 13 _,(hg.block r s.res.lt (fun e=>by have:=s.rb;simp at e;omega)).trans s.res,?_,s.gro.grown hg s.gro.size (fun k e=>by cases e;exact s.bn),s.bn,s.rn,s.rb,⟨hd.top,hd.cli,hd.wt,hd.us,hd.bod,hm,hd.pa,hd.wan,hd.nam,hd.cds,hd.wans,hd.nams⟩⟩;refine⟨ho.bod,hx',ho.pa,ho.wan,ho.nam,ho.cds,?_⟩;have hq:=pw6.1 s.own.dis;obtain⟨⟨q12,q13,q14,q15,q16⟩,⟨q23,q24,q25,q26⟩,⟨q34,q35,q36⟩,⟨q45,q46⟩,q56⟩:=hq;exact pw6.2 ⟨⟨D1,q13,q14,q15,q16⟩,⟨D3.symm,D4.symm,D5.symm,D6.symm⟩,⟨q34,q35,q36⟩,⟨q45,q46⟩,q56⟩
theorem Ct.l19 (s:Ct w0 y r b p d) {a:Option Addr} {k c:Nat} {x:List UInt8} (hx:Own y w0.heap.size a k c x) (hm:k≤1048576) (hn:∀q0,a=some q0→q0.block≠b) (D1:Dis p.bod.a a) (D2:Dis p.wb.a a) (D4:Dis p.wan.a a) (D5:Dis p.nam.a a) (D6:Dis p.cds.a a) :
  Ct w0 (y.setCell ⟨b,19,none⟩ (.slice a k c)) r b { p with pa:=⟨a,k,c⟩ } { d with pa:=x }:=by
 have hg:y.grownBy (y.setCell ⟨b,19,none⟩ (.slice a k c)) (some b):=qah y b 19 _;have ho:=s.own.grown hg (fun k e=>by cases e;exact s.own.ne s.blk);have hx':=hx.grown hg (fun q0 e he=>hn q0 e (by simpa using he));have hd:=s.gd;refine⟨qaf s.blk 19 _,(hg.block r s.res.lt (fun e=>by have:=s.rb;simp at e;omega)).trans s.res,?_,s.gro.grown hg s.gro.size (fun k e=>by cases e;exact s.bn),s.bn,s.rn,s.rb,⟨hd.top,hd.cli,hd.wt,hd.us,hd.bod,hd.wb,hm,hd.wan,hd.nam,hd.cds,hd.wans,hd.nams⟩⟩;refine⟨ho.bod,ho.wb,hx',ho.wan,ho.nam,ho.cds,?_⟩;have hq:=pw6.1 s.own.dis;obtain⟨⟨q12,q13,q14,q15,q16⟩,⟨q23,q24,q25,q26⟩,⟨q34,q35,q36⟩,⟨q45,q46⟩,q56⟩:=hq;exact pw6.2 ⟨⟨q12,D1,q14,q15,q16⟩,⟨D2,q24,q25,q26⟩,⟨D4.symm,D5.symm,D6.symm⟩,⟨q45,q46⟩,q56⟩
theorem Ct.l22 (s:Ct w0 y r b p d) {a:Option Addr} {k c:Nat} {x:List (ByteArray×Int)} (hx:WOwn y w0.heap.size a k c x) (hm:k≤1048576) (hX:∀z∈x,z.1.size≤61) (hn:∀q0,a=some q0→q0.block≠b) (D1:Dis p.bod.a a) (D2:Dis p.wb.a a) (D3:Dis p.pa.a a) (D5:Dis p.nam.a a) (D6:Dis p.cds.a a) :
  Ct w0 (y.setCell ⟨b,22,none⟩ (.slice a k c)) r b { p with wan:=⟨a,k,c⟩ } { d with wan:=x }:=by
 have hg:y.grownBy (y.setCell ⟨b,22,none⟩ (.slice a k c)) (some b):=qah y b 22 _;have ho:=s.own.grown hg (fun k e=>by cases e;exact s.own.ne s.blk);have hx':=hx.grown hg (fun q0 e he=>hn q0 e (by simpa using he));have hd:=s.gd;refine⟨qaf s.blk 22 _,(hg.block r s.res.lt (fun e=>by have:=s.rb;simp at e;omega)).trans s.res,?_,s.gro.grown hg s.gro.size (fun k e=>by cases e;exact s.bn),s.bn,s.rn,s.rb,⟨hd.top,hd.cli,hd.wt,hd.us,hd.bod,hd.wb,hd.pa,hm,hd.nam,hd.cds,hX,hd.nams⟩⟩;refine⟨ho.bod,ho.wb,ho.pa,hx',ho.nam,ho.cds,?_⟩;have hq:=pw6.1 s.own.dis;obtain⟨⟨q12,q13,q14,q15,q16⟩,⟨q23,q24,q25,q26⟩,⟨q34,q35,q36⟩,⟨q45,q46⟩,q56⟩:=hq;exact pw6.2 ⟨⟨q12,q13,D1,q15,q16⟩,⟨q23,D2,q25,q26⟩,⟨D3,q35,q36⟩,⟨D5.symm,D6.symm⟩,q56⟩
theorem Ct.l23 (s:Ct w0 y r b p d) {a:Option Addr} {k c:Nat} {x:List ByteArray} (hx:SOwn y w0.heap.size a k c x) (hm:k≤1048576) (hX:∀z∈x,z.size≤61) (hn:∀q0,a=some q0→q0.block≠b) (D1:Dis p.bod.a a) (D2:Dis p.wb.a a) (D3:Dis p.pa.a a) (D4:Dis p.wan.a a) (D6:Dis p.cds.a a) :
  Ct w0 (y.setCell ⟨b,23,none⟩ (.slice a k c)) r b { p with nam:=⟨a,k,c⟩ } { d with nam:=x }:=by
 have hg:y.grownBy (y.setCell ⟨b,23,none⟩ (.slice a k c)) (some b):=qah y b 23 _;have ho:=s.own.grown hg (fun k e=>by cases e;exact s.own.ne s.blk);have hx':=hx.grown hg (fun q0 e he=>hn q0 e (by simpa using he));have hd:=s.gd;refine⟨qaf s.blk 23 _,(hg.block r s.res.lt (fun e=>by have:=s.rb;simp at e;omega)).trans s.res,?_,s.gro.grown hg s.gro.size (fun k e=>by cases e;exact s.bn),s.bn,s.rn,s.rb,⟨hd.top,hd.cli,hd.wt,hd.us,hd.bod,hd.wb,hd.pa,hd.wan,hm,hd.cds,hd.wans,hX⟩⟩;refine⟨ho.bod,ho.wb,ho.pa,ho.wan,hx',ho.cds,?_⟩;have hq:=pw6.1 s.own.dis;obtain⟨⟨q12,q13,q14,q15,q16⟩,⟨q23,q24,q25,q26⟩,⟨q34,q35,q36⟩,⟨q45,q46⟩,q56⟩:=hq;exact pw6.2 ⟨⟨q12,q13,q14,D1,q16⟩,⟨q23,q24,D2,q26⟩,⟨q34,D3,q36⟩,⟨D4,q46⟩,D6.symm⟩
theorem Ct.l24 (s:Ct w0 y r b p d) {a:Option Addr} {k c:Nat} {x:List Int} (hx:IOwn y w0.heap.size a k c x) (hm:k≤1048576) (hn:∀q0,a=some q0→q0.block≠b) (D1:Dis p.bod.a a) (D2:Dis p.wb.a a) (D3:Dis p.pa.a a) (D4:Dis p.wan.a a) (D5:Dis p.nam.a a) :
  Ct w0 (y.setCell ⟨b,24,none⟩ (.slice a k c)) r b { p with cds:=⟨a,k,c⟩ } { d with cds:=x }:=by
 have hg:y.grownBy (y.setCell ⟨b,24,none⟩ (.slice a k c)) (some b):=qah y b 24 _;have ho:=s.own.grown hg (fun k e=>by cases e;exact s.own.ne s.blk);have hx':=hx.grown hg (fun q0 e he=>hn q0 e (by simpa using he));have hd:=s.gd;refine⟨qaf s.blk 24 _,(hg.block r s.res.lt (fun e=>by have:=s.rb;simp at e;omega)).trans s.res,?_,s.gro.grown hg s.gro.size (fun k e=>by cases e;exact s.bn),s.bn,s.rn,s.rb,⟨hd.top,hd.cli,hd.wt,hd.us,hd.bod,hd.wb,hd.pa,hd.wan,hd.nam,hm,hd.wans,hd.nams⟩⟩;refine⟨ho.bod,ho.wb,ho.pa,ho.wan,ho.nam,hx',?_⟩;have hq:=pw6.1 s.own.dis;obtain⟨⟨q12,q13,q14,q15,q16⟩,⟨q23,q24,q25,q26⟩,⟨q34,q35,q36⟩,⟨q45,q46⟩,q56⟩:=hq;exact pw6.2 ⟨⟨q12,q13,q14,q15,D1⟩,⟨q23,q24,q25,D2⟩,⟨q34,q35,D3⟩,⟨q45,D4⟩,D5⟩
theorem Ct.old (s:Ct w0 y r b p d) {a:Option Addr} (hx:∀u,a=some u→y.heap.size≤u.block) (j:Nat):Dis ([p.bod.a,p.wb.a,p.pa.a,p.wan.a,p.nam.a,p.cds.a].getD j none) a:=by
 intro t u ht hu e;have h1:=hx u hu;have h2:p.has t.block:=by
  refine⟨t,?_,rfl⟩;rw[←ht,List.getD_eq_getElem?_getD];rw[List.getD_eq_getElem?_getD] at ht;cases hj:[p.bod.a,p.wb.a,p.pa.a,p.wan.a,p.nam.a,p.cds.a][j]? with
  |none=>rw[hj] at ht;cases ht
  |some v=>exact List.mem_of_getElem? hj
 have h3:=(s.own.lt h2).2;omega
theorem Ct.n6 (s:Ct w0 y r b p d) (hb:Below y.heap.size y y') {a:Option Addr} {k c:Nat} {x:List UInt8} (hx:Own y' y.heap.size a k c x) (hm:k≤1048576) :
  Ct w0 (y'.setCell ⟨b,6,none⟩ (.slice a k c)) r b { p with bod:=⟨a,k,c⟩ } { d with bod:=x }:=by
 have s2:=s.new hb;have hnew:∀u,a=some u→y.heap.size≤u.block:=fun u hu=>(hx.2.lt u.block (by rw[hu];rfl)).1
 refine s2.l6 (⟨hx.1,qbc hx.2 s.gro.size⟩) hm (fun q0 e0=>?_) (s.old hnew 1) (s.old hnew 2) (s.old hnew 3) (s.old hnew 4) (s.old hnew 5);have h1:=hnew q0 e0;have h2:=s.blk.lt;omega
theorem Ct.n13 (s:Ct w0 y r b p d) (hb:Below y.heap.size y y') {a:Option Addr} {k c:Nat} {x:List UInt8} (hx:Own y' y.heap.size a k c x) (hm:k≤1048576) :
  Ct w0 (y'.setCell ⟨b,13,none⟩ (.slice a k c)) r b { p with wb:=⟨a,k,c⟩ } { d with wb:=x }:=by
 have s2:=s.new hb;have hnew:∀u,a=some u→y.heap.size≤u.block:=fun u hu=>(hx.2.lt u.block (by rw[hu];rfl)).1
 refine s2.l13 (⟨hx.1,qbc hx.2 s.gro.size⟩) hm (fun q0 e0=>?_) (s.old hnew 0) (s.old hnew 2) (s.old hnew 3) (s.old hnew 4) (s.old hnew 5);have h1:=hnew q0 e0;have h2:=s.blk.lt;omega
theorem Ct.n19 (s:Ct w0 y r b p d) (hb:Below y.heap.size y y') {a:Option Addr} {k c:Nat} {x:List UInt8} (hx:Own y' y.heap.size a k c x) (hm:k≤1048576) :
  Ct w0 (y'.setCell ⟨b,19,none⟩ (.slice a k c)) r b { p with pa:=⟨a,k,c⟩ } { d with pa:=x }:=by
 have s2:=s.new hb;have hnew:∀u,a=some u→y.heap.size≤u.block:=fun u hu=>(hx.2.lt u.block (by rw[hu];rfl)).1
 refine s2.l19 (⟨hx.1,qbc hx.2 s.gro.size⟩) hm (fun q0 e0=>?_) (s.old hnew 0) (s.old hnew 1) (s.old hnew 3) (s.old hnew 4) (s.old hnew 5);have h1:=hnew q0 e0;have h2:=s.blk.lt;omega
theorem Ct.n22 (s:Ct w0 y r b p d) (hb:Below y.heap.size y y') {a:Option Addr} {k c:Nat} {x:List (ByteArray×Int)} (hx:WOwn y' y.heap.size a k c x) (hm:k≤1048576) (hX:∀v∈x,v.1.size≤61) :
  Ct w0 (y'.setCell ⟨b,22,none⟩ (.slice a k c)) r b { p with wan:=⟨a,k,c⟩ } { d with wan:=x }:=by
 have s2:=s.new hb;have hnew:∀u,a=some u→y.heap.size≤u.block:=fun u hu=>(hx.2.lt u.block (by rw[hu];rfl)).1
 refine s2.l22 (⟨hx.1,qbc hx.2 s.gro.size⟩) hm hX (fun q0 e0=>?_) (s.old hnew 0) (s.old hnew 1) (s.old hnew 2) (s.old hnew 4) (s.old hnew 5);have h1:=hnew q0 e0;have h2:=s.blk.lt;omega
theorem Ct.n23 (s:Ct w0 y r b p d) (hb:Below y.heap.size y y') {a:Option Addr} {k c:Nat} {x:List ByteArray} (hx:SOwn y' y.heap.size a k c x) (hm:k≤1048576) (hX:∀v∈x,v.size≤61) :
  Ct w0 (y'.setCell ⟨b,23,none⟩ (.slice a k c)) r b { p with nam:=⟨a,k,c⟩ } { d with nam:=x }:=by
 have s2:=s.new hb;have hnew:∀u,a=some u→y.heap.size≤u.block:=fun u hu=>(hx.2.lt u.block (by rw[hu];rfl)).1
 refine s2.l23 (⟨hx.1,qbc hx.2 s.gro.size⟩) hm hX (fun q0 e0=>?_) (s.old hnew 0) (s.old hnew 1) (s.old hnew 2) (s.old hnew 3) (s.old hnew 5);have h1:=hnew q0 e0;have h2:=s.blk.lt;omega
theorem Ct.n24 (s:Ct w0 y r b p d) (hb:Below y.heap.size y y') {a:Option Addr} {k c:Nat} {x:List Int} (hx:IOwn y' y.heap.size a k c x) (hm:k≤1048576) :
  Ct w0 (y'.setCell ⟨b,24,none⟩ (.slice a k c)) r b { p with cds:=⟨a,k,c⟩ } { d with cds:=x }:=by
 have s2:=s.new hb;have hnew:∀u,a=some u→y.heap.size≤u.block:=fun u hu=>(hx.2.lt u.block (by rw[hu];rfl)).1
 refine s2.l24 (⟨hx.1,qbc hx.2 s.gro.size⟩) hm (fun q0 e0=>?_) (s.old hnew 0) (s.old hnew 1) (s.old hnew 2) (s.old hnew 3) (s.old hnew 4);have h1:=hnew q0 e0;have h2:=s.blk.lt;omega
theorem Ct.s1 (s:Ct w0 y r b p d) (x:Bool):Ct w0 (y.setCell ⟨b,1,none⟩ (.bool x)) r b { p with dup:=x } d :=
 s.set 1 _ _ rfl ⟨rfl,rfl,rfl,rfl,rfl,rfl⟩ ⟨s.gd.top,s.gd.cli,s.gd.wt,s.gd.us⟩
theorem Ct.s2 (s:Ct w0 y r b p d) (x:Int):Ct w0 (y.setCell ⟨b,2,none⟩ (.int .i64 x)) r b { p with qos:=x } d :=
 s.set 2 _ _ rfl ⟨rfl,rfl,rfl,rfl,rfl,rfl⟩ ⟨s.gd.top,s.gd.cli,s.gd.wt,s.gd.us⟩
theorem Ct.s3 (s:Ct w0 y r b p d) (x:Bool):Ct w0 (y.setCell ⟨b,3,none⟩ (.bool x)) r b { p with ret:=x } d :=
 s.set 3 _ _ rfl ⟨rfl,rfl,rfl,rfl,rfl,rfl⟩ ⟨s.gd.top,s.gd.cli,s.gd.wt,s.gd.us⟩
end
theorem qdq (ao:Option Addr) (n cap p:Nat) (l:List UInt8) (w:World) (hr:RdIn w ao n cap l) (hn:n≤1048576) :
  Calls Tryz.prog 137 #[.slice ao n cap,.int .i64 p] w fun e w'=>e=.returned (rInt (gW l p))∧Below w.heap.size w w':=by
 have hl:=hr.1.1;unfold gW
 by_cases h:p+2≤n
 ·rw[if_pos (by omega)];exact qeb ao n cap p l w hr h (by omega)
 ·rw[if_neg (by omega)];exact qic ao n cap p w (by omega) (.inr (by omega))
theorem qdd (ao:Option Addr) (n cap p:Nat) (l:List UInt8) (w:World) (hr:RdIn w ao n cap l) (hn:n≤1048576) :
  Calls Tryz.prog 136 #[.slice ao n cap,.int .i64 p] w fun e w'=>e=.returned (rTxt (gT l p))∧Below w.heap.size w w':=by
 have h:=qrw ao n cap p l w hr (by omega);have e:ansT l (p:Int)=.returned (rTxt (gT l p)):=by
  unfold ansT gT;cases getT l (p:Int) with
  |none=>rfl
  |some x=>rfl
 rw[e] at h;exact h
theorem qir (ao:Option Addr) (n cap p:Nat) (l:List UInt8) (w:World) (hr:RdIn w ao n cap l) (hn:n≤1048576) :
  Calls Tryz.prog 164 #[.slice ao n cap,.int .i64 p] w fun e w'=>∃a c,e=.returned (.tuple #[.slice a (xV [] (gL l p)).length c,.int .i64 (xK (gL l p):Nat),.bool (gL l p).isSome])∧Own w' w.heap.size a (xV [] (gL l p)).length c (xV [] (gL l p))∧Below w.heap.size w w':=by
 cases h:getL l (p:Int) with
 |none=>
  have hg:gL l p=none:=h;rw[hg];exact qib ao n cap p l w hr (by omega) h
 |some xk=>
  obtain⟨x,k⟩:=xk;have hg:gL l p=some (x,k):=h;rw[hg];exact qgy ao n cap p l x k w hr (by omega) h

def SRet (w0 w':World) (e:Ending) (v:Pv):Prop:=∃p d,e=.returned (.agg (Pk.cells p))∧POwn w' w0.heap.size p d∧Pgd 1048576 p d∧v=pv p d∧Below w0.heap.size w0 w'
def e0:Pd:=⟨[],[],[],[],[],[]⟩
theorem own_nil6 (p:Pk) (h:p.bod = ⟨none,0,0⟩∧p.wb = ⟨none,0,0⟩∧p.pa = ⟨none,0,0⟩∧p.wan = ⟨none,0,0⟩∧p.nam = ⟨none,0,0⟩∧p.cds = ⟨none,0,0⟩) (u:World) (B:Nat):POwn u B p e0:=by
 obtain⟨h1,h2,h3,h4,h5,h6⟩:=h;refine⟨?_,?_,?_,?_,?_,?_,?_⟩
 ·rw[h1];exact⟨rfl,World.ownsRow_nil _ _ _ _⟩
 ·rw[h2];exact⟨rfl,World.ownsRow_nil _ _ _ _⟩
 ·rw[h3];exact⟨rfl,World.ownsRow_nil _ _ _ _⟩
 ·rw[h4];exact⟨rfl,World.ownsRow_nil _ _ _ _⟩
 ·rw[h5];exact⟨rfl,World.ownsRow_nil _ _ _ _⟩
 ·rw[h6];exact⟨rfl,World.ownsRow_nil _ _ _ _⟩
 ·rw[h1,h2,h3,h4,h5,h6];simp[Dis]
theorem gd_nil6 (p:Pk) (h:p.bod = ⟨none,0,0⟩∧p.wb = ⟨none,0,0⟩∧p.pa = ⟨none,0,0⟩∧p.wan = ⟨none,0,0⟩∧p.nam = ⟨none,0,0⟩∧p.cds = ⟨none,0,0⟩) (hz:p.top.size≤61∧p.cli.size≤61∧p.wt.size≤61∧p.us.size≤61):Pgd 1048576 p e0:=by
 obtain⟨h1,h2,h3,h4,h5,h6⟩:=h;exact⟨hz.1,hz.2.1,hz.2.2.1,hz.2.2.2,by rw[h1];decide,by rw[h2];decide,by rw[h3];decide,by rw[h4];decide,by rw[h5];decide,by rw[h6];decide,fun x hx=>(by cases hx),fun x hx=>(by cases hx)⟩
def pkK (k:Int):Pk:={ Pk.zero with ty:=k }
theorem Ct.start {w0 y:World} {r b:Nat} (k:Int) (hB:Blk y b (pkK k)) (hR:Blk y r Pk.zero) (hg:Below w0.heap.size w0 y) (bn:w0.heap.size≤b) (rn:w0.heap.size≤r) (rb:r≠b):Ct w0 y r b (pkK k) e0 :=
 ⟨hB,hR,own_nil6 _ ⟨rfl,rfl,rfl,rfl,rfl,rfl⟩ _ _,hg,bn,rn,rb,gd_nil6 _ ⟨rfl,rfl,rfl,rfl,rfl,rfl⟩ ⟨Nat.zero_le _,Nat.zero_le _,Nat.zero_le _,Nat.zero_le _⟩⟩
theorem Ct.hide {w0 y:World} {r b:Nat} {p:Pk} {d:Pd} (s:Ct w0 y r b p d):∃z,z=y∧Ct w0 z r b p d:=⟨y,rfl,s⟩
theorem Ct.same {w0 y:World} {r b:Nat} {p q:Pk} {d:Pd} (s:Ct w0 y r b p d) (h:q=p):Ct w0 y r b q d:=h ▸ s
theorem Ct.none {w0 y y':World} {r b:Nat} {p:Pk} {d:Pd} {v:Pv} (s:Ct w0 y r b p d) (hg:y.grownBy y' (some r)) (hv:v=Pv.zero):SRet w0 y' (.returned (.agg Pk.zero.cells)) v :=
 ⟨Pk.zero,e0,rfl,own_nil6 _ ⟨rfl,rfl,rfl,rfl,rfl,rfl⟩ _ _,gd_nil6 _ ⟨rfl,rfl,rfl,rfl,rfl,rfl⟩ ⟨by decide,by decide,by decide,by decide⟩,hv,below_st s.gro hg s.rn⟩
theorem Ct.done {w0 y y':World} {r b:Nat} {p:Pk} {d:Pd} {v:Pv} (s:Ct w0 y r b p d) (hg:y.grownBy y' (some r)) (hv:v=pv p d):SRet w0 y' (.returned (.agg p.cells)) v :=
 ⟨p,d,rfl,s.own.grown hg (fun k e=>by cases e;exact s.own.ne s.res),s.gd,hv,below_st s.gro hg s.rn⟩
