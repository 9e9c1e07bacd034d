/- Lemmas. -/
import Derived.Test.YtpjkbgdkligpdaaGreatDoorY15
set_option linter.all false
set_option maxRecDepth 100000
set_option maxHeartbeats 20000000
namespace Go.Proofs.YtpjkbgdkligpdaaGreatDoor
open Go.RowKit

structure Ct (w0 y:World) (r b:Nat) (p:Pk) (d:Pd):Prop where
 blk:Blk y b p
 res:Blk y r Pk.zero
 own:POwn y w0.heap.size p d
 gro:Below w0.heap.size w0 y
 bn:w0.heap.size≤b
 rn:w0.heap.size≤r
 rb:r≠b
 gd:Pgd 1048576 p d
section
variable {w0 y y' : World} {r b : Nat} {p : Pk} {d : Pd}
theorem Ct.new (s:Ct w0 y r b p d) (hb:Below y.heap.size y y'):Ct w0 y' r b p d :=
 ⟨s.blk.next hb,s.res.next hb,s.own.below hb,s.gro.trans (hb.mono s.gro.size),s.bn,s.rn,s.rb,s.gd⟩
theorem Ct.set (s:Ct w0 y r b p d) (i:Nat) (v:Value) (p':Pk) (hc:p.cells.setIfInBounds i v=p'.cells)
  (hl:p'.bod=p.bod∧p'.wb=p.wb∧p'.pa=p.pa∧p'.wan=p.wan∧p'.nam=p.nam∧p'.cds=p.cds) (hz:p'.top.size≤61∧p'.cli.size≤61∧p'.wt.size≤61∧p'.us.size≤61):Ct w0 (y.setCell ⟨b,i,none⟩ v) r b p' d:=by
 have hg:y.grownBy (y.setCell ⟨b,i,none⟩ v) (some b):=qai y b i v;obtain⟨h1,h2,h3,h4,h5,h6⟩:=hl;have ho:=s.own.grown hg (fun k e=>by cases e;exact s.own.ne s.blk);have hd:=s.gd;refine⟨?_,(hg.block r s.res.lt (fun e=>by have:=s.rb;simp at e;omega)).trans s.res,?_,s.gro.grown hg s.gro.size (fun k e=>by cases e;exact s.bn),s.bn,s.rn,s.rb,?_⟩
 ·have:=qaf s.blk i v;rw[hc] at this;exact this
 ·exact⟨by rw[h1];exact ho.bod,by rw[h2];exact ho.wb,by rw[h3];exact ho.pa,by rw[h4];exact ho.wan,by rw[h5];exact ho.nam,by rw[h6];exact ho.cds,by rw[h1,h2,h3,h4,h5,h6];exact ho.dis⟩
 ·exact⟨hz.1,hz.2.1,hz.2.2.1,hz.2.2.2,by rw[h1];exact hd.bod,by rw[h2];exact hd.wb,by rw[h3];exact hd.pa,by rw[h4];exact hd.wan,by rw[h5];exact hd.nam,by rw[h6];exact hd.cds,hd.wans,hd.nams⟩
theorem Ct.s4 (s:Ct w0 y r b p d) (x:Int):Ct w0 (y.setCell ⟨b,4,none⟩ (.int .i64 x)) r b { p with id:=x } d :=
 s.set 4 _ _ rfl ⟨rfl,rfl,rfl,rfl,rfl,rfl⟩ ⟨s.gd.top,s.gd.cli,s.gd.wt,s.gd.us⟩
theorem Ct.s5 (s:Ct w0 y r b p d) (x:ByteArray) (hx:x.size≤61):Ct w0 (y.setCell ⟨b,5,none⟩ (.string x)) r b { p with top:=x } d :=
 s.set 5 _ _ rfl ⟨rfl,rfl,rfl,rfl,rfl,rfl⟩ ⟨hx,s.gd.cli,s.gd.wt,s.gd.us⟩
theorem Ct.s7 (s:Ct w0 y r b p d) (x:ByteArray) (hx:x.size≤61):Ct w0 (y.setCell ⟨b,7,none⟩ (.string x)) r b { p with cli:=x } d :=
 s.set 7 _ _ rfl ⟨rfl,rfl,rfl,rfl,rfl,rfl⟩ ⟨s.gd.top,hx,s.gd.wt,s.gd.us⟩
theorem Ct.s8 (s:Ct w0 y r b p d) (x:Int):Ct w0 (y.setCell ⟨b,8,none⟩ (.int .i64 x)) r b { p with lev:=x } d :=
 s.set 8 _ _ rfl ⟨rfl,rfl,rfl,rfl,rfl,rfl⟩ ⟨s.gd.top,s.gd.cli,s.gd.wt,s.gd.us⟩
theorem Ct.s9 (s:Ct w0 y r b p d) (x:Bool):Ct w0 (y.setCell ⟨b,9,none⟩ (.bool x)) r b { p with cln:=x } d :=
 s.set 9 _ _ rfl ⟨rfl,rfl,rfl,rfl,rfl,rfl⟩ ⟨s.gd.top,s.gd.cli,s.gd.wt,s.gd.us⟩
theorem Ct.s10 (s:Ct w0 y r b p d) (x:Int):Ct w0 (y.setCell ⟨b,10,none⟩ (.int .i64 x)) r b { p with kee:=x } d :=
 s.set 10 _ _ rfl ⟨rfl,rfl,rfl,rfl,rfl,rfl⟩ ⟨s.gd.top,s.gd.cli,s.gd.wt,s.gd.us⟩
theorem Ct.s11 (s:Ct w0 y r b p d) (x:Bool):Ct w0 (y.setCell ⟨b,11,none⟩ (.bool x)) r b { p with hw:=x } d :=
 s.set 11 _ _ rfl ⟨rfl,rfl,rfl,rfl,rfl,rfl⟩ ⟨s.gd.top,s.gd.cli,s.gd.wt,s.gd.us⟩
theorem Ct.s12 (s:Ct w0 y r b p d) (x:ByteArray) (hx:x.size≤61):Ct w0 (y.setCell ⟨b,12,none⟩ (.string x)) r b { p with wt:=x } d :=
 s.set 12 _ _ rfl ⟨rfl,rfl,rfl,rfl,rfl,rfl⟩ ⟨s.gd.top,s.gd.cli,hx,s.gd.us⟩
theorem Ct.s14 (s:Ct w0 y r b p d) (x:Int):Ct w0 (y.setCell ⟨b,14,none⟩ (.int .i64 x)) r b { p with wq:=x } d :=
 s.set 14 _ _ rfl ⟨rfl,rfl,rfl,rfl,rfl,rfl⟩ ⟨s.gd.top,s.gd.cli,s.gd.wt,s.gd.us⟩
theorem Ct.s15 (s:Ct w0 y r b p d) (x:Bool):Ct w0 (y.setCell ⟨b,15,none⟩ (.bool x)) r b { p with wr:=x } d :=
 s.set 15 _ _ rfl ⟨rfl,rfl,rfl,rfl,rfl,rfl⟩ ⟨s.gd.top,s.gd.cli,s.gd.wt,s.gd.us⟩
theorem Ct.s16 (s:Ct w0 y r b p d) (x:Bool):Ct w0 (y.setCell ⟨b,16,none⟩ (.bool x)) r b { p with hu:=x } d :=
 s.set 16 _ _ rfl ⟨rfl,rfl,rfl,rfl,rfl,rfl⟩ ⟨s.gd.top,s.gd.cli,s.gd.wt,s.gd.us⟩
theorem Ct.s17 (s:Ct w0 y r b p d) (x:ByteArray) (hx:x.size≤61):Ct w0 (y.setCell ⟨b,17,none⟩ (.string x)) r b { p with us:=x } d :=
 s.set 17 _ _ rfl ⟨rfl,rfl,rfl,rfl,rfl,rfl⟩ ⟨s.gd.top,s.gd.cli,s.gd.wt,hx⟩
theorem Ct.s18 (s:Ct w0 y r b p d) (x:Bool):Ct w0 (y.setCell ⟨b,18,none⟩ (.bool x)) r b { p with hp:=x } d :=
 s.set 18 _ _ rfl ⟨rfl,rfl,rfl,rfl,rfl,rfl⟩ ⟨s.gd.top,s.gd.cli,s.gd.wt,s.gd.us⟩
theorem Ct.s20 (s:Ct w0 y r b p d) (x:Int):Ct w0 (y.setCell ⟨b,20,none⟩ (.int .i64 x)) r b { p with cod:=x } d :=
 s.set 20 _ _ rfl ⟨rfl,rfl,rfl,rfl,rfl,rfl⟩ ⟨s.gd.top,s.gd.cli,s.gd.wt,s.gd.us⟩
theorem Ct.s21 (s:Ct w0 y r b p d) (x:Bool):Ct w0 (y.setCell ⟨b,21,none⟩ (.bool x)) r b { p with pre:=x } d :=
 s.set 21 _ _ rfl ⟨rfl,rfl,rfl,rfl,rfl,rfl⟩ ⟨s.gd.top,s.gd.cli,s.gd.wt,s.gd.us⟩
theorem Ct.l6 (s:Ct w0 y r b p d) {a:Option Addr} {k c:Nat} {x:List UInt8} (hx:Own y w0.heap.size a k c x) (hm:k≤1048576) (hn:∀q0,a=some q0→q0.block≠b) (D2:Dis p.wb.a a) (D3:Dis p.pa.a a) (D4:Dis p.wan.a a) (D5:Dis p.nam.a a) (D6:Dis p.cds.a a) :
  Ct w0 (y.setCell ⟨b,6,none⟩ (.slice a k c)) r b { p with bod:=⟨a,k,c⟩ } { d with bod:=x }:=by
 have hg:y.grownBy (y.setCell ⟨b,6,none⟩ (.slice a k c)) (some b):=qai y b 6 _;have ho:=s.own.grown hg (fun k e=>by cases e;exact s.own.ne s.blk);have hx':=hx.grown hg (fun q0 e he=>hn q0 e (by simpa using he));have hd:=s.gd;refine⟨qaf s.blk 6 _,(hg.block r s.res.lt (fun e=>by have:=s.rb;simp at e;omega)).trans s.res,?_,s.gro.grown hg s.gro.size (fun k e=>by cases e;exact s.bn),s.bn,s.rn,s.rb,⟨hd.top,hd.cli,hd.wt,hd.us,hm,hd.wb,hd.pa,hd.wan,hd.nam,hd.cds,hd.wans,hd.nams⟩⟩;refine⟨hx',ho.wb,ho.pa,ho.wan,ho.nam,ho.cds,?_⟩;have hq:=pw6.1 s.own.dis;obtain⟨⟨q12,q13,q14,q15,q16⟩,⟨q23,q24,q25,q26⟩,⟨q34,q35,q36⟩,⟨q45,q46⟩,q56⟩:=hq;exact pw6.2 ⟨⟨D2.symm,D3.symm,D4.symm,D5.symm,D6.symm⟩,⟨q23,q24,q25,q26⟩,⟨q34,q35,q36⟩,⟨q45,q46⟩,q56⟩
theorem Ct.l13 (s:Ct w0 y r b p d) {a:Option Addr} {k c:Nat} {x:List UInt8} (hx:Own y w0.heap.size a k c x) (hm:k≤1048576) (hn:∀q0,a=some q0→q0.block≠b) (D1:Dis p.bod.a a) (D3:Dis p.pa.a a) (D4:Dis p.wan.a a) (D5:Dis p.nam.a a) (D6:Dis p.cds.a a) :
  Ct w0 (y.setCell ⟨b,13,none⟩ (.slice a k c)) r b { p with wb:=⟨a,k,c⟩ } { d with wb:=x }:=by
 have hg:y.grownBy (y.setCell ⟨b,13,none⟩ (.slice a k c)) (some b):=qai y b 13 _;have ho:=s.own.grown hg (fun k e=>by cases e;exact s.own.ne s.blk);have hx':=hx.grown hg (fun q0 e he=>hn q0 e (by simpa using he));have hd:=s.gd;refine⟨qaf s.blk 13 _,(hg.block r s.res.lt (fun e=>by have:=s.rb;simp at e;omega)).trans s.res,?_,s.gro.grown hg s.gro.size (fun k e=>by cases e;exact s.bn),s.bn,s.rn,s.rb,⟨hd.top,hd.cli,hd.wt,hd.us,hd.bod,hm,hd.pa,hd.wan,hd.nam,hd.cds,hd.wans,hd.nams⟩⟩;refine⟨ho.bod,hx',ho.pa,ho.wan,ho.nam,ho.cds,?_⟩;have hq:=pw6.1 s.own.dis;obtain⟨⟨q12,q13,q14,q15,q16⟩,⟨q23,q24,q25,q26⟩,⟨q34,q35,q36⟩,⟨q45,q46⟩,q56⟩:=hq;exact pw6.2 ⟨⟨D1,q13,q14,q15,q16⟩,⟨D3.symm,D4.symm,D5.symm,D6.symm⟩,⟨q34,q35,q36⟩,⟨q45,q46⟩,q56⟩
theorem Ct.l19 (s:Ct w0 y r b p d) {a:Option Addr} {k c:Nat} {x:List UInt8} (hx:Own y w0.heap.size a k c x) (hm:k≤1048576) (hn:∀q0,a=some q0→q0.block≠b) (D1:Dis p.bod.a a) (D2:Dis p.wb.a a) (D4:Dis p.wan.a a) (D5:Dis p.nam.a a) (D6:Dis p.cds.a a) :
  Ct w0 (y.setCell ⟨b,19,none⟩ (.slice a k c)) r b { p with pa:=⟨a,k,c⟩ } { d with pa:=x }:=by
 have hg:y.grownBy (y.setCell ⟨b,19,none⟩ (.slice a k c)) (some b):=qai y b 19 _;have ho:=s.own.grown hg (fun k e=>by cases e;exact s.own.ne s.blk);have hx':=hx.grown hg (fun q0 e he=>hn q0 e (by simpa using he));have hd:=s.gd;refine⟨qaf s.blk 19 _,(hg.block r s.res.lt (fun e=>by have:=s.rb;simp at e;omega)).trans s.res,?_,s.gro.grown hg s.gro.size (fun k e=>by cases e;exact s.bn),s.bn,s.rn,s.rb,⟨hd.top,hd.cli,hd.wt,hd.us,hd.bod,hd.wb,hm,hd.wan,hd.nam,hd.cds,hd.wans,hd.nams⟩⟩;refine⟨ho.bod,ho.wb,hx',ho.wan,ho.nam,ho.cds,?_⟩;have hq:=pw6.1 s.own.dis;obtain⟨⟨q12,q13,q14,q15,q16⟩,⟨q23,q24,q25,q26⟩,⟨q34,q35,q36⟩,⟨q45,q46⟩,q56⟩:=hq;exact pw6.2 ⟨⟨q12,D1,q14,q15,q16⟩,⟨D2,q24,q25,q26⟩,⟨D4.symm,D5.symm,D6.symm⟩,⟨q45,q46⟩,q56⟩
theorem Ct.l22 (s:Ct w0 y r b p d) {a:Option Addr} {k c:Nat} {x:List (ByteArray×Int)} (hx:WOwn y w0.heap.size a k c x) (hm:k≤1048576) (hX:∀z∈x,z.1.size≤61) (hn:∀q0,a=some q0→q0.block≠b) (D1:Dis p.bod.a a) (D2:Dis p.wb.a a) (D3:Dis p.pa.a a) (D5:Dis p.nam.a a) (D6:Dis p.cds.a a) :
  Ct w0 (y.setCell ⟨b,22,none⟩ (.slice a k c)) r b { p with wan:=⟨a,k,c⟩ } { d with wan:=x }:=by
 have hg:y.grownBy (y.setCell ⟨b,22,none⟩ (.slice a k c)) (some b):=qai y b 22 _;have ho:=s.own.grown hg (fun k e=>by cases e;exact s.own.ne s.blk);have hx':=hx.grown hg (fun q0 e he=>hn q0 e (by simpa using he));have hd:=s.gd;refine⟨qaf s.blk 22 _,(hg.block r s.res.lt (fun e=>by have:=s.rb;simp at e;omega)).trans s.res,?_,s.gro.grown hg s.gro.size (fun k e=>by cases e;exact s.bn),s.bn,s.rn,s.rb,⟨hd.top,hd.cli,hd.wt,hd.us,hd.bod,hd.wb,hd.pa,hm,hd.nam,hd.cds,hX,hd.nams⟩⟩;refine⟨ho.bod,ho.wb,ho.pa,hx',ho.nam,ho.cds,?_⟩;have hq:=pw6.1 s.own.dis;obtain⟨⟨q12,q13,q14,q15,q16⟩,⟨q23,q24,q25,q26⟩,⟨q34,q35,q36⟩,⟨q45,q46⟩,q56⟩:=hq;exact pw6.2 ⟨⟨q12,q13,D1,q15,q16⟩,⟨q23,D2,q25,q26⟩,⟨D3,q35,q36⟩,⟨D5.symm,D6.symm⟩,q56⟩
theorem Ct.l23 (s:Ct w0 y r b p d) {a:Option Addr} {k c:Nat} {x:List ByteArray} (hx:SOwn y w0.heap.size a k c x) (hm:k≤1048576) (hX:∀z∈x,z.size≤61) (hn:∀q0,a=some q0→q0.block≠b) (D1:Dis p.bod.a a) (D2:Dis p.wb.a a) (D3:Dis p.pa.a a) (D4:Dis p.wan.a a) (D6:Dis p.cds.a a) :
  Ct w0 (y.setCell ⟨b,23,none⟩ (.slice a k c)) r b { p with nam:=⟨a,k,c⟩ } { d with nam:=x }:=by
 have hg:y.grownBy (y.setCell ⟨b,23,none⟩ (.slice a k c)) (some b):=qai y b 23 _;have ho:=s.own.grown hg (fun k e=>by cases e;exact s.own.ne s.blk);have hx':=hx.grown hg (fun q0 e he=>hn q0 e (by simpa using he));have hd:=s.gd;refine⟨qaf s.blk 23 _,(hg.block r s.res.lt (fun e=>by have:=s.rb;simp at e;omega)).trans s.res,?_,s.gro.grown hg s.gro.size (fun k e=>by cases e;exact s.bn),s.bn,s.rn,s.rb,⟨hd.top,hd.cli,hd.wt,hd.us,hd.bod,hd.wb,hd.pa,hd.wan,hm,hd.cds,hd.wans,hX⟩⟩;refine⟨ho.bod,ho.wb,ho.pa,ho.wan,hx',ho.cds,?_⟩;have hq:=pw6.1 s.own.dis;obtain⟨⟨q12,q13,q14,q15,q16⟩,⟨q23,q24,q25,q26⟩,⟨q34,q35,q36⟩,⟨q45,q46⟩,q56⟩:=hq;exact pw6.2 ⟨⟨q12,q13,q14,D1,q16⟩,⟨q23,q24,D2,q26⟩,⟨q34,D3,q36⟩,⟨D4,q46⟩,D6.symm⟩
theorem Ct.l24 (s:Ct w0 y r b p d) {a:Option Addr} {k c:Nat} {x:List Int} (hx:IOwn y w0.heap.size a k c x) (hm:k≤1048576) (hn:∀q0,a=some q0→q0.block≠b) (D1:Dis p.bod.a a) (D2:Dis p.wb.a a) (D3:Dis p.pa.a a) (D4:Dis p.wan.a a) (D5:Dis p.nam.a a) :
  Ct w0 (y.setCell ⟨b,24,none⟩ (.slice a k c)) r b { p with cds:=⟨a,k,c⟩ } { d with cds:=x }:=by
 have hg:y.grownBy (y.setCell ⟨b,24,none⟩ (.slice a k c)) (some b):=qai y b 24 _;have ho:=s.own.grown hg (fun k e=>by cases e;exact s.own.ne s.blk);have hx':=hx.grown hg (fun q0 e he=>hn q0 e (by simpa using he));have hd:=s.gd;refine⟨qaf s.blk 24 _,(hg.block r s.res.lt (fun e=>by have:=s.rb;simp at e;omega)).trans s.res,?_,s.gro.grown hg s.gro.size (fun k e=>by cases e;exact s.bn),s.bn,s.rn,s.rb,⟨hd.top,hd.cli,hd.wt,hd.us,hd.bod,hd.wb,hd.pa,hd.wan,hd.nam,hm,hd.wans,hd.nams⟩⟩;refine⟨ho.bod,ho.wb,ho.pa,ho.wan,ho.nam,hx',?_⟩;have hq:=pw6.1 s.own.dis;obtain⟨⟨q12,q13,q14,q15,q16⟩,⟨q23,q24,q25,q26⟩,⟨q34,q35,q36⟩,⟨q45,q46⟩,q56⟩:=hq;exact pw6.2 ⟨⟨q12,q13,q14,q15,D1⟩,⟨q23,q24,q25,D2⟩,⟨q34,q35,D3⟩,⟨q45,D4⟩,D5⟩
theorem Ct.old (s:Ct w0 y r b p d) {a:Option Addr} (hx:∀u,a=some u→y.heap.size≤u.block) (j:Nat):Dis ([p.bod.a,p.wb.a,p.pa.a,p.wan.a,p.nam.a,p.cds.a].getD j none) a:=by
 intro t u ht hu e;have h1:=hx u hu;have h2:p.has t.block:=by
  refine⟨t,?_,rfl⟩;rw[←ht,List.getD_eq_getElem?_getD];rw[List.getD_eq_getElem?_getD] at ht;cases hj:[p.bod.a,p.wb.a,p.pa.a,p.wan.a,p.nam.a,p.cds.a][j]? with
  |none=>rw[hj] at ht;cases ht
  |some v=>exact List.mem_of_getElem? hj
 have h3:=(s.own.lt h2).2;omega
theorem Ct.n6 (s:Ct w0 y r b p d) (hb:Below y.heap.size y y') {a:Option Addr} {k c:Nat} {x:List UInt8} (hx:Own y' y.heap.size a k c x) (hm:k≤1048576) :
  Ct w0 (y'.setCell ⟨b,6,none⟩ (.slice a k c)) r b { p with bod:=⟨a,k,c⟩ } { d with bod:=x }:=by
 have s2:=s.new hb;have hnew:∀u,a=some u→y.heap.size≤u.block:=fun u hu=>(hx.2.lt u.block (by rw[hu];rfl)).1
 refine s2.l6 (⟨hx.1,qbc hx.2 s.gro.size⟩) hm (fun q0 e0=>?_) (s.old hnew 1) (s.old hnew 2) (s.old hnew 3) (s.old hnew 4) (s.old hnew 5);have h1:=hnew q0 e0;have h2:=s.blk.lt;omega
theorem Ct.n13 (s:Ct w0 y r b p d) (hb:Below y.heap.size y y') {a:Option Addr} {k c:Nat} {x:List UInt8} (hx:Own y' y.heap.size a k c x) (hm:k≤1048576) :
  Ct w0 (y'.setCell ⟨b,13,none⟩ (.slice a k c)) r b { p with wb:=⟨a,k,c⟩ } { d with wb:=x }:=by
 have s2:=s.new hb;have hnew:∀u,a=some u→y.heap.size≤u.block:=fun u hu=>(hx.2.lt u.block (by rw[hu];rfl)).1
 refine s2.l13 (⟨hx.1,qbc hx.2 s.gro.size⟩) hm (fun q0 e0=>?_) (s.old hnew 0) (s.old hnew 2) (s.old hnew 3) (s.old hnew 4) (s.old hnew 5);have h1:=hnew q0 e0;have h2:=s.blk.lt;omega
theorem Ct.n19 (s:Ct w0 y r b p d) (hb:Below y.heap.size y y') {a:Option Addr} {k c:Nat} {x:List UInt8} (hx:Own y' y.heap.size a k c x) (hm:k≤1048576) :
  Ct w0 (y'.setCell ⟨b,19,none⟩ (.slice a k c)) r b { p with pa:=⟨a,k,c⟩ } { d with pa:=x }:=by
 have s2:=s.new hb;have hnew:∀u,a=some u→y.heap.size≤u.block:=fun u hu=>(hx.2.lt u.block (by rw[hu];rfl)).1
 refine s2.l19 (⟨hx.1,qbc hx.2 s.gro.size⟩) hm (fun q0 e0=>?_) (s.old hnew 0) (s.old hnew 1) (s.old hnew 3) (s.old hnew 4) (s.old hnew 5);have h1:=hnew q0 e0;have h2:=s.blk.lt;omega
theorem Ct.n22 (s:Ct w0 y r b p d) (hb:Below y.heap.size y y') {a:Option Addr} {k c:Nat} {x:List (ByteArray×Int)} (hx:WOwn y' y.heap.size a k c x) (hm:k≤1048576) (hX:∀v∈x,v.1.size≤61) :
  Ct w0 (y'.setCell ⟨b,22,none⟩ (.slice a k c)) r b { p with wan:=⟨a,k,c⟩ } { d with wan:=x }:=by
 have s2:=s.new hb;have hnew:∀u,a=some u→y.heap.size≤u.block:=fun u hu=>(hx.2.lt u.block (by rw[hu];rfl)).1
 refine s2.l22 (⟨hx.1,qbc hx.2 s.gro.size⟩) hm hX (fun q0 e0=>?_) (s.old hnew 0) (s.old hnew 1) (s.old hnew 2) (s.old hnew 4) (s.old hnew 5);have h1:=hnew q0 e0;have h2:=s.blk.lt;omega
theorem Ct.n23 (s:Ct w0 y r b p d) (hb:Below y.heap.size y y') {a:Option Addr} {k c:Nat} {x:List ByteArray} (hx:SOwn y' y.heap.size a k c x) (hm:k≤1048576) (hX:∀v∈x,v.size≤61) :
  Ct w0 (y'.setCell ⟨b,23,none⟩ (.slice a k c)) r b { p with nam:=⟨a,k,c⟩ } { d with nam:=x }:=by
 have s2:=s.new hb;have hnew:∀u,a=some u→y.heap.size≤u.block:=fun u hu=>(hx.2.lt u.block (by rw[hu];rfl)).1
 refine s2.l23 (⟨hx.1,qbc hx.2 s.gro.size⟩) hm hX (fun q0 e0=>?_) (s.old hnew 0) (s.old hnew 1) (s.old hnew 2) (s.old hnew 3) (s.old hnew 5);have h1:=hnew q0 e0;have h2:=s.blk.lt;omega
theorem Ct.n24 (s:Ct w0 y r b p d) (hb:Below y.heap.size y y') {a:Option Addr} {k c:Nat} {x:List Int} (hx:IOwn y' y.heap.size a k c x) (hm:k≤1048576) :
  Ct w0 (y'.setCell ⟨b,24,none⟩ (.slice a k c)) r b { p with cds:=⟨a,k,c⟩ } { d with cds:=x }:=by
 have s2:=s.new hb;have hnew:∀u,a=some u→y.heap.size≤u.block:=fun u hu=>(hx.2.lt u.block (by rw[hu];rfl)).1
 refine s2.l24 (⟨hx.1,qbc hx.2 s.gro.size⟩) hm (fun q0 e0=>?_) (s.old hnew 0) (s.old hnew 1) (s.old hnew 2) (s.old hnew 3) (s.old hnew 4);have h1:=hnew q0 e0;have h2:=s.blk.lt;omega
theorem Ct.s1 (s:Ct w0 y r b p d) (x:Bool):Ct w0 (y.setCell ⟨b,1,none⟩ (.bool x)) r b { p with dup:=x } d :=
 s.set 1 _ _ rfl ⟨rfl,rfl,rfl,rfl,rfl,rfl⟩ ⟨s.gd.top,s.gd.cli,s.gd.wt,s.gd.us⟩
theorem Ct.s2 (s:Ct w0 y r b p d) (x:Int):Ct w0 (y.setCell ⟨b,2,none⟩ (.int .i64 x)) r b { p with qos:=x } d :=
 s.set 2 _ _ rfl ⟨rfl,rfl,rfl,rfl,rfl,rfl⟩ ⟨s.gd.top,s.gd.cli,s.gd.wt,s.gd.us⟩
theorem Ct.s3 (s:Ct w0 y r b p d) (x:Bool):Ct w0 (y.setCell ⟨b,3,none⟩ (.bool x)) r b { p with ret:=x } d :=
 s.set 3 _ _ rfl ⟨rfl,rfl,rfl,rfl,rfl,rfl⟩ ⟨s.gd.top,s.gd.cli,s.gd.wt,s.gd.us⟩
end
theorem qdw (ao:Option Addr) (n cap p:Nat) (l:List UInt8) (w:World) (hr:RdIn w ao n cap l) (hn:n≤1048576) :
  Calls Tryz.prog 137 #[.slice ao n cap,.int .i64 p] w fun e w'=>e=.returned (rInt (gW l p))∧Below w.heap.size w w':=by
 have hl:=hr.1.1;unfold gW
 by_cases h:p+2≤n
 ·rw[if_pos (by omega)];exact qej ao n cap p l w hr h (by omega)
 ·rw[if_neg (by omega)];exact qiw ao n cap p w (by omega) (.inr (by omega))
theorem qdl (ao:Option Addr) (n cap p:Nat) (l:List UInt8) (w:World) (hr:RdIn w ao n cap l) (hn:n≤1048576) :
  Calls Tryz.prog 136 #[.slice ao n cap,.int .i64 p] w fun e w'=>e=.returned (rTxt (gT l p))∧Below w.heap.size w w':=by
 have h:=qta ao n cap p l w hr (by omega);have e:ansT l (p:Int)=.returned (rTxt (gT l p)):=by
  unfold ansT gT;cases getT l (p:Int) with
  |none=>rfl
  |some x=>rfl
 rw[e] at h;exact h
theorem qjm (ao:Option Addr) (n cap p:Nat) (l:List UInt8) (w:World) (hr:RdIn w ao n cap l) (hn:n≤1048576) :
  Calls Tryz.prog 164 #[.slice ao n cap,.int .i64 p] w fun e w'=>∃a c,e=.returned (.tuple #[.slice a (xV [] (gL l p)).length c,.int .i64 (xK (gL l p):Nat),.bool (gL l p).isSome])∧Own w' w.heap.size a (xV [] (gL l p)).length c (xV [] (gL l p))∧Below w.heap.size w w':=by
 cases h:getL l (p:Int) with
 |none=>
  have hg:gL l p=none:=h;rw[hg];exact qiv ao n cap p l w hr (by omega) h
 |some xk=>
  obtain⟨x,k⟩:=xk;have hg:gL l p=some (x,k):=h;rw[hg];exact qhl ao n cap p l x k w hr (by omega) h

def SRet (w0 w':World) (e:Ending) (v:Pv):Prop:=∃p d,e=.returned (.agg (Pk.cells p))∧POwn w' w0.heap.size p d∧Pgd 1048576 p d∧v=pv p d∧Below w0.heap.size w0 w'
def e0:Pd:=⟨[],[],[],[],[],[]⟩
theorem own_nil6 (p:Pk) (h:p.bod = ⟨none,0,0⟩∧p.wb = ⟨none,0,0⟩∧p.pa = ⟨none,0,0⟩∧p.wan = ⟨none,0,0⟩∧p.nam = ⟨none,0,0⟩∧p.cds = ⟨none,0,0⟩) (u:World) (B:Nat):POwn u B p e0:=by
 obtain⟨h1,h2,h3,h4,h5,h6⟩:=h;refine⟨?_,?_,?_,?_,?_,?_,?_⟩
 ·rw[h1];exact⟨rfl,World.ownsRow_nil _ _ _ _⟩
 ·rw[h2];exact⟨rfl,World.ownsRow_nil _ _ _ _⟩
 ·rw[h3];exact⟨rfl,World.ownsRow_nil _ _ _ _⟩
 ·rw[h4];exact⟨rfl,World.ownsRow_nil _ _ _ _⟩
 ·rw[h5];exact⟨rfl,World.ownsRow_nil _ _ _ _⟩
 ·rw[h6];exact⟨rfl,World.ownsRow_nil _ _ _ _⟩
 ·rw[h1,h2,h3,h4,h5,h6];simp[Dis]
theorem gd_nil6 (p:Pk) (h:p.bod = ⟨none,0,0⟩∧p.wb = ⟨none,0,0⟩∧p.pa = ⟨none,0,0⟩∧p.wan = ⟨none,0,0⟩∧p.nam = ⟨none,0,0⟩∧p.cds = ⟨none,0,0⟩) (hz:p.top.size≤61∧p.cli.size≤61∧p.wt.size≤61∧p.us.size≤61):Pgd 1048576 p e0:=by
 obtain⟨h1,h2,h3,h4,h5,h6⟩:=h;exact⟨hz.1,hz.2.1,hz.2.2.1,hz.2.2.2,by rw[h1];decide,by rw[h2];decide,by rw[h3];decide,by rw[h4];decide,by rw[h5];decide,by rw[h6];decide,fun x hx=>(by cases hx),fun x hx=>(by cases hx)⟩
def pkK (k:Int):Pk:={ Pk.zero with ty:=k }
theorem Ct.start {w0 y:World} {r b:Nat} (k:Int) (hB:Blk y b (pkK k)) (hR:Blk y r Pk.zero) (hg:Below w0.heap.size w0 y) (bn:w0.heap.size≤b) (rn:w0.heap.size≤r) (rb:r≠b):Ct w0 y r b (pkK k) e0 :=
 ⟨hB,hR,own_nil6 _ ⟨rfl,rfl,rfl,rfl,rfl,rfl⟩ _ _,hg,bn,rn,rb,gd_nil6 _ ⟨rfl,rfl,rfl,rfl,rfl,rfl⟩ ⟨Nat.zero_le _,Nat.zero_le _,Nat.zero_le _,Nat.zero_le _⟩⟩
theorem Ct.hide {w0 y:World} {r b:Nat} {p:Pk} {d:Pd} (s:Ct w0 y r b p d):∃z,z=y∧Ct w0 z r b p d:=⟨y,rfl,s⟩
theorem Ct.same {w0 y:World} {r b:Nat} {p q:Pk} {d:Pd} (s:Ct w0 y r b p d) (h:q=p):Ct w0 y r b q d:=h ▸ s
theorem Ct.none {w0 y y':World} {r b:Nat} {p:Pk} {d:Pd} {v:Pv} (s:Ct w0 y r b p d) (hg:y.grownBy y' (some r)) (hv:v=Pv.zero):SRet w0 y' (.returned (.agg Pk.zero.cells)) v :=
 ⟨Pk.zero,e0,rfl,own_nil6 _ ⟨rfl,rfl,rfl,rfl,rfl,rfl⟩ _ _,gd_nil6 _ ⟨rfl,rfl,rfl,rfl,rfl,rfl⟩ ⟨by decide,by decide,by decide,by decide⟩,hv,qat s.gro hg s.rn⟩
theorem Ct.done {w0 y y':World} {r b:Nat} {p:Pk} {d:Pd} {v:Pv} (s:Ct w0 y r b p d) (hg:y.grownBy y' (some r)) (hv:v=pv p d):SRet w0 y' (.returned (.agg p.cells)) v :=
 ⟨p,d,rfl,s.own.grown hg (fun k e=>by cases e;exact s.own.ne s.res),s.gd,hv,qat s.gro hg s.rn⟩

theorem gt_bits2 (x:Nat) (h:x<256):decide (0<bits BinOp.and IntKind.i64 (x:Int) 2)=fl x 2:=by
 have h0:∀y:Fin 256,decide (0<bits BinOp.and IntKind.i64 (y.val:Int) 2)=fl y.val 2:=by decide +kernel
 exact h0 ⟨x,h⟩
theorem gt_bits4 (x:Nat) (h:x<256):decide (0<bits BinOp.and IntKind.i64 (x:Int) 4)=fl x 4:=by
 have h0:∀y:Fin 256,decide (0<bits BinOp.and IntKind.i64 (y.val:Int) 4)=fl y.val 4:=by decide +kernel
 exact h0 ⟨x,h⟩
theorem gt_bits32 (x:Nat) (h:x<256):decide (0<bits BinOp.and IntKind.i64 (x:Int) 32)=fl x 32:=by
 have h0:∀y:Fin 256,decide (0<bits BinOp.and IntKind.i64 (y.val:Int) 32)=fl y.val 32:=by decide +kernel
 exact h0 ⟨x,h⟩
theorem gt_bits128 (x:Nat) (h:x<256):decide (0<bits BinOp.and IntKind.i64 (x:Int) 128)=fl x 128:=by
 have h0:∀y:Fin 256,decide (0<bits BinOp.and IntKind.i64 (y.val:Int) 128)=fl y.val 128:=by decide +kernel
 exact h0 ⟨x,h⟩
theorem gt_bits64 (x:Nat) (h:x<256):decide (0<bits BinOp.and IntKind.i64 (x:Int) 64)=fl x 64:=by
 have h0:∀y:Fin 256,decide (0<bits BinOp.and IntKind.i64 (y.val:Int) 64)=fl y.val 64:=by decide +kernel
 exact h0 ⟨x,h⟩
theorem gt_q (x:Nat) (h:x<256):bits BinOp.and IntKind.i64 ((x:Int) / 8) 3=(x:Int) / 8%4:=by
 have h0:∀y:Fin 256,bits BinOp.and IntKind.i64 ((y.val:Int) / 8) 3=(y.val:Int) / 8%4:=by decide +kernel
 exact h0 ⟨x,h⟩
def qrl (f:Bool) (l:List UInt8) (c:Nat):Option (ByteArray×List UInt8×Nat):=if f then (match gT l c with
  |none=>none
  |some (t,n1)=>match gL l n1 with
   |none=>none
   |some (w,n2)=>some (t,w,n2)) else some (ByteArray.empty,[],c)
def qud (f:Bool) (l:List UInt8) (d:Nat):Option (ByteArray×Nat):=if f then gT l d else some (ByteArray.empty,d)
def qnl (l:List UInt8) (lev:Int) (f2 f4:Bool) (q:Int) (f32 f64 f128:Bool) (ke:Int) (s:ByteArray) (c:Nat):Pv:=match qrl f4 l c with
 |none=>Pv.zero
 |some (wt,wb,d)=>match qud f128 l d with
  |none=>Pv.zero
  |some (us,e)=>match (if f64 then gL l e else some ([],e)) with
   |none=>Pv.zero
   |some (pa,_)=>{ Pv.zero with ty:=1,lev:=lev,cln:=f2,hw:=f4,wq:=q,wr:=f32,hp:=f64,hu:=f128,kee:=ke,cli:=s,wt:=wt,wb:=wb,us:=us,pa:=pa }
theorem Ct.n1213 {w0 y y':World} {r b:Nat} {p:Pk} {d:Pd} (s:Ct w0 y r b p d) (hb:Below y.heap.size y y') {a:Option Addr} {k c:Nat} {x:List UInt8} (hx:Own y' y.heap.size a k c x) (t:ByteArray) (ht:t.size≤61) (hm:k≤1048576) :
  Ct w0 ((y'.setCell ⟨b,12,Option.none⟩ (.string t)).setCell ⟨b,13,Option.none⟩ (.slice a k c)) r b { p with wt:=t,wb:=⟨a,k,c⟩ } { d with wb:=x }:=by
 have s2:=(s.new hb).s12 t ht;have hnew:∀u,a=some u→y.heap.size≤u.block:=fun u hu=>(hx.2.lt u.block (by rw[hu];rfl)).1
 have h2:=s.blk.lt;have hne:∀q0,a=some q0→q0.block≠b:=fun q0 e0=>by have:=hnew q0 e0;omega
 have hg:y'.grownBy (y'.setCell ⟨b,12,Option.none⟩ (.string t)) (some b):=qai y' b 12 _;have hx':Own (y'.setCell ⟨b,12,Option.none⟩ (.string t)) w0.heap.size a k c x:=Own.grown (⟨hx.1,qbc hx.2 s.gro.size⟩) hg (fun q0 e he=>hne q0 e (by simpa using he));exact s2.l13 hx' hm hne (s.old hnew 0) (s.old hnew 2) (s.old hnew 3) (s.old hnew 4) (s.old hnew 5)
theorem qqn (w0:World) (ao:Option Addr) (n cap:Nat) (l:List UInt8) (hr:RdIn w0 ao n cap l) (hn:n≤1048576) :
  Calls Tryz.prog 135 #[.slice ao n cap] w0 fun e w'=>SRet w0 w' e (sCon l):=by
 have HR:Hid (RdIn w0 ao n cap l):=hr;have hl:=hr.1.1;clear hr;have A1:Blk (w0.alloc (.cells Pk.zero.cells 28)) w0.heap.size Pk.zero:=heap_alloc_new _ _;have A2:Blk ((w0.alloc (.cells Pk.zero.cells 28)).alloc (.cells Pk.zero.cells 28)) (w0.alloc (.cells Pk.zero.cells 28)).heap.size Pk.zero:=heap_alloc_new _ _;have A3:Blk ((w0.alloc (.cells Pk.zero.cells 28)).alloc (.cells Pk.zero.cells 28)) w0.heap.size Pk.zero:=heap_alloc2_old _ _ _;have hb:Below w0.heap.size w0 ((w0.alloc (.cells Pk.zero.cells 28)).alloc (.cells Pk.zero.cells 28)):=bel (qac _ _) (qac _ _);go_enter Tryz.func135,Tryz.ntmps135
 go_upto_region 0 with fail
 refine wp_region_list ?_;refine al_pk ?_
 go_upto_region 1 with fail
 refine wp_region_list ?_;refine bu_pk (pkK 1) (by kernel_rfl) ?_;refine al_pk ?_;refine qag (q:=pkK 1) (old:=Pk.zero) A2 rfl rfl ?_;intro y0 B0 g0;have h1:(w0.alloc (.cells Pk.zero.cells 28)).heap.size=w0.heap.size+1:=World.size_alloc _ _;rw[h1] at B0 g0 ⊢;have s:=Ct.start (w0:=w0) 1 B0 ((g0.block _ A3.lt (fun e=>by simp at e)).trans A3) (hb.grown g0 hb.size (fun k e=>by cases e;omega)) (by omega) (Nat.le_refl _) (by omega);generalize w0.heap.size+1=b at *;generalize hrr:w0.heap.size=r at s ⊢;clear B0 g0 A1 A2 A3 hb h1;go_wp2_with fail
 refine (qdl ao n cap 0 l _ (HR.out.below s.gro) hn).mono ?_;rintro e y1 ⟨rfl,hb1⟩;replace s:=s.new hb1;clear hb1;cases h1:gT l 0 with
 |none=>
  simp only[rTxt,rInt,xV,xK,Option.isSome_none]
  go_upto_region 4 with fail
  obtain⟨yy,hyy,s0⟩:=s.hide;rw[←hyy];clear s hyy;have s:=s0;clear s0;refine wp_region_list ?_;refine bu_pk Pk.zero (by kernel_rfl) ?_;refine qag (q:=Pk.zero) (old:=Pk.zero) s.res rfl rfl ?_;intro y9 B9 g9;apply ‹∀(a:Act) (w:World),Code.wp Tryz.prog Code.ret _ a w→_›
  refine wp_ret ?_;show bodyPost Tryz.prog Tryz.f135 (fun e w'=>SRet w0 w' e (sCon l)) .ret _ _;exact qam rfl rfl B9 rfl (s.none g9 (by unfold sCon;simp only[h1]))
 |some xk=>
  obtain⟨nm,a⟩:=xk;simp only[rTxt,rInt,xV,xK,Option.isSome_some]
  by_cases hm:nm=mqtt
  rotate_left
  ·have hs1:sCon l=Pv.zero:=by unfold sCon;simp only[h1];rw[if_pos (Or.inl hm)]
   have hne:(nm.toList==(⟨#[77,81,84,84]⟩ : ByteArray).toList)=false:=(qhd _ _).trans (decide_eq_false hm);have hnl:¬nm.toList = [77,81,84,84]:=by simpa using hne
   clear hm hne
   go_upto_region 4 with fail
   obtain⟨yy,hyy,s0⟩:=s.hide;rw[←hyy];clear s hyy;have s:=s0;clear s0;refine wp_region_list ?_;refine bu_pk Pk.zero (by kernel_rfl) ?_;refine qag (q:=Pk.zero) (old:=Pk.zero) s.res rfl rfl ?_;intro y9 B9 g9;apply ‹∀(a:Act) (w:World),Code.wp Tryz.prog Code.ret _ a w→_›
   refine wp_ret ?_;show bodyPost Tryz.prog Tryz.f135 (fun e w'=>SRet w0 w' e (sCon l)) .ret _ _;exact qam rfl rfl B9 rfl (s.none g9 (by exact hs1))
  subst hm;have hml:mqtt.toList = [77,81,84,84]:=by decide +kernel
  by_cases ha:n<a+2
  ·have hs1:sCon l=Pv.zero:=by unfold sCon;simp only[h1];rw[if_pos (Or.inr (by omega))]
   have ha':(n:Int)-2<a:=by omega
   go_upto_region 4 with fail
   obtain⟨yy,hyy,s0⟩:=s.hide;rw[←hyy];clear s hyy;have s:=s0;clear s0;refine wp_region_list ?_;refine bu_pk Pk.zero (by kernel_rfl) ?_;refine qag (q:=Pk.zero) (old:=Pk.zero) s.res rfl rfl ?_;intro y9 B9 g9;apply ‹∀(a:Act) (w:World),Code.wp Tryz.prog Code.ret _ a w→_›
   refine wp_ret ?_;show bodyPost Tryz.prog Tryz.f135 (fun e w'=>SRet w0 w' e (sCon l)) .ret _ _;exact qam rfl rfl B9 rfl (s.none g9 (by exact hs1))
  have ha':¬(n:Int)-2<a:=by omega
  obtain⟨b0,off,rfl,hc⟩:=HR.out.1.at (show 0<n by omega);have q0':=hc a (by omega);have q1':=hc (a+1) (by omega);have hb0:b0<w0.heap.size:=World.block_lt_of_cell? _ _ q0';have q0:=(s.gro.cell (p:=⟨b0,off+a,none⟩) hb0).trans q0';have HC:Hid (∀u,Below w0.heap.size w0 u→u.cell? ⟨b0,off+(a+1),none⟩ = some (.int .u8 (bt l (a+1)))):=fun u hu=>(hu.cell (p:=⟨b0,off+(a+1),none⟩) hb0).trans q1'
  clear q0' q1' hb0;have pa:(a:Int)<n:=by omega
  have pb:(a:Int)+1<n:=by omega
  have b0':=bt_lt l a;have b1':=bt_lt l (a+1);clear hc;have c8:=(s.blk.cell 8).trans (Pk.c8 _);have z8:=Lib.frozen_of_heap s.blk 8
  go_upto_region 6 with fail
  replace s:=s.s8 (bt l a);clear c8 z8 q0;have q1:=HC.out _ s.gro;generalize hxe:bt l (a+1)=x at *;obtain⟨f2,hf2⟩ : ∃f,decide (0<bits BinOp.and IntKind.i64 (x:Int) 2)=f:=⟨_,rfl⟩;have F2:Hid (fl x 2=f2):=by unfold Hid;rw[←hf2];exact (gt_bits2 x b1').symm
  obtain⟨f4,hf4⟩ : ∃f,decide (0<bits BinOp.and IntKind.i64 (x:Int) 4)=f:=⟨_,rfl⟩;have F4:Hid (fl x 4=f4):=by unfold Hid;rw[←hf4];exact (gt_bits4 x b1').symm
  obtain⟨f32,hf32⟩ : ∃f,decide (0<bits BinOp.and IntKind.i64 (x:Int) 32)=f:=⟨_,rfl⟩;have F32:Hid (fl x 32=f32):=by unfold Hid;rw[←hf32];exact (gt_bits32 x b1').symm
  obtain⟨f128,hf128⟩ : ∃f,decide (0<bits BinOp.and IntKind.i64 (x:Int) 128)=f:=⟨_,rfl⟩;have F128:Hid (fl x 128=f128):=by unfold Hid;rw[←hf128];exact (gt_bits128 x b1').symm
  obtain⟨f64,hf64⟩ : ∃f,decide (0<bits BinOp.and IntKind.i64 (x:Int) 64)=f:=⟨_,rfl⟩;have F64:Hid (fl x 64=f64):=by unfold Hid;rw[←hf64];exact (gt_bits64 x b1').symm
  obtain⟨qq,hqq⟩ : ∃q,bits BinOp.and IntKind.i64 ((x:Int) / 8) 3=q:=⟨_,rfl⟩;have QQ:Hid ((x:Int) / 8%4=qq):=by unfold Hid;rw[←hqq];exact (gt_q x b1').symm
  have c9:=(s.blk.cell 9).trans (Pk.c9 _);have z9:=Lib.frozen_of_heap s.blk 9
  go_upto_region 8 with fail
  replace s:=s.s9 f2;have c11:=(s.blk.cell 11).trans (Pk.c11 _);have z11:=Lib.frozen_of_heap s.blk 11
  go_upto_region 9 with fail
  replace s:=s.s11 f4;clear c9 z9 c11 z11 q1;have c14:=(s.blk.cell 14).trans (Pk.c14 _);have z14:=Lib.frozen_of_heap s.blk 14
  go_upto_region 10 with fail
  replace s:=s.s14 qq;clear c14 z14 hqq;have c15:=(s.blk.cell 15).trans (Pk.c15 _);have z15:=Lib.frozen_of_heap s.blk 15
  go_upto_region 11 with fail
  replace s:=s.s15 f32;clear c15 z15;have c18:=(s.blk.cell 18).trans (Pk.c18 _);have z18:=Lib.frozen_of_heap s.blk 18
  go_upto_region 12 with fail
  replace s:=s.s18 f64;clear c18 z18;have c16:=(s.blk.cell 16).trans (Pk.c16 _);have z16:=Lib.frozen_of_heap s.blk 16
  go_upto_region 13 with fail
  replace s:=s.s16 f128;clear c16 z16 hf2 hf4 hf32 hf64 hf128;have hif:¬(mqtt≠mqtt∨l.length<a+2):=by
   rintro (h | h)
   ·exact h rfl
   ·omega
  have HF:Hid (¬(mqtt≠mqtt∨l.length<a+2)):=hif;have HX:Hid (bt l (a+1)=x):=hxe;clear hif hxe;obtain⟨a2,ha2⟩ : ∃z:Nat,a+2=z:=⟨_,rfl⟩;have HA:Hid (a+2=a2):=ha2;have ea2:(a:Int)+2=(a2:Int):=by omega
  have pc:(a2:Int)≤n:=by omega
  clear ha2 pb;go_wp2_with fail
  obtain⟨yy,hyy,s0⟩:=s.hide;rw[←hyy];clear s hyy;have s:=s0;clear s0;have hRR:=HR.out.below s.gro;have hG:=qdw _ n cap a2 l _ hRR hn;clear hRR;refine hG.mono ?_;clear hG;rintro e y2 ⟨rfl,hb2⟩;replace s:=s.new hb2;clear hb2;clear ea2;cases h2:gW l a2 with
  |none=>
   simp only[rInt,xV,xK,Option.isSome_none];have c10:=(s.blk.cell 10).trans (Pk.c10 _);have z10:=Lib.frozen_of_heap s.blk 10
   go_upto_region 15 with fail
   replace s:=s.s10 0;clear c10 z10;go_wp2_with fail
   obtain⟨yy,hyy,s0⟩:=s.hide;rw[←hyy];clear s hyy;have s:=s0;clear s0;have hRR:=HR.out.below s.gro;have hG:=qdl _ n cap 0 l _ hRR hn;clear hRR;refine hG.mono ?_;clear hG;rintro e y3 ⟨rfl,hb3⟩;rw[h1];simp only[rTxt,xV,xK,Option.isSome_some];replace s:=s.new hb3;clear hb3;have c7:=(s.blk.cell 7).trans (Pk.c7 _);have z7:=Lib.frozen_of_heap s.blk 7
   go_upto_region 17 with fail
   replace s:=s.s7 mqtt (by decide +kernel);clear c7 z7
   go_upto_region 18 with fail
   obtain⟨yy,hyy,s0⟩:=s.hide;rw[←hyy];clear s hyy;have s:=s0;clear s0;refine wp_region_list ?_;refine bu_pk Pk.zero (by kernel_rfl) ?_;refine qag (q:=Pk.zero) (old:=Pk.zero) s.res rfl rfl ?_;intro y9 B9 g9;apply ‹∀(a:Act) (w:World),Code.wp Tryz.prog Code.ret _ a w→_›
   refine wp_ret ?_;show bodyPost Tryz.prog Tryz.f135 (fun e w'=>SRet w0 w' e (sCon l)) .ret _ _;exact qam rfl rfl B9 rfl (s.none g9 (by unfold sCon;simp only[h1];rw[if_neg HF.out];simp only[HA.out,h2]))
  |some xk2=>
   obtain⟨ke,p2⟩:=xk2;simp only[rInt,xV,xK,Option.isSome_some];have c10:=(s.blk.cell 10).trans (Pk.c10 _);have z10:=Lib.frozen_of_heap s.blk 10
   go_upto_region 15 with fail
   replace s:=s.s10 ke;clear c10 z10;go_wp2_with fail
   obtain⟨yy,hyy,s0⟩:=s.hide;rw[←hyy];clear s hyy;have s:=s0;clear s0;have hRR:=HR.out.below s.gro;have hG:=qdl _ n cap p2 l _ hRR hn;clear hRR;refine hG.mono ?_;clear hG;rintro e y3 ⟨rfl,hb3⟩;replace s:=s.new hb3;clear hb3;cases h3:gT l p2 with
   |none=>
    simp only[rTxt,xV,xK,Option.isSome_none];have c7:=(s.blk.cell 7).trans (Pk.c7 _);have z7:=Lib.frozen_of_heap s.blk 7
    go_upto_region 17 with fail
    replace s:=s.s7 ByteArray.empty (by decide);clear c7 z7
    go_upto_region 18 with fail
    obtain⟨yy,hyy,s0⟩:=s.hide;rw[←hyy];clear s hyy;have s:=s0;clear s0;refine wp_region_list ?_;refine bu_pk Pk.zero (by kernel_rfl) ?_;refine qag (q:=Pk.zero) (old:=Pk.zero) s.res rfl rfl ?_;intro y9 B9 g9;apply ‹∀(a:Act) (w:World),Code.wp Tryz.prog Code.ret _ a w→_›
    refine wp_ret ?_;show bodyPost Tryz.prog Tryz.f135 (fun e w'=>SRet w0 w' e (sCon l)) .ret _ _;exact qam rfl rfl B9 rfl (s.none g9 (by unfold sCon;simp only[h1];rw[if_neg HF.out];simp only[HA.out,h2,h3]))
   |some xk3=>
    obtain⟨cs,p3⟩:=xk3;simp only[rTxt,xV,xK,Option.isSome_some];have c7:=(s.blk.cell 7).trans (Pk.c7 _);have z7:=Lib.frozen_of_heap s.blk 7
    go_upto_region 17 with fail
    replace s:=s.s7 cs (qig h3);clear c7 z7
    go_upto_region 20 with fail
    have SC:Hid (sCon l=qnl l (bt l a) f2 f4 qq f32 f64 f128 ke cs p3):=by
     unfold Hid qnl qrl qud sCon;simp only[h1];rw[if_neg HF.out];simp only[HA.out,h2,h3,HX.out,F2.out,F4.out,F32.out,F64.out,F128.out,QQ.out];rfl
    clear h1 h2 h3 HF HA HX F2 F4 F32 F64 F128 QQ;obtain⟨yy,hyy,s0⟩:=s.hide;rw[←hyy];clear s hyy;have s:=s0;clear s0;obtain⟨P,hP⟩ : ∃P:Pk,P = { pkK 1 with lev:=(bt l a:Int),cln:=f2,hw:=f4,wq:=qq,wr:=f32,hp:=f64,hu:=f128,kee:=ke,cli:=cs }:=⟨_,rfl⟩;have s1:Ct w0 yy r b P e0:=by rw[hP];exact s
    clear s;have s:=s1;clear s1;have HP:Hid (P = { pkK 1 with lev:=(bt l a:Int),cln:=f2,hw:=f4,wq:=qq,wr:=f32,hp:=f64,hu:=f128,kee:=ke,cli:=cs }):=hP;have EW:Hid (P.hw=f4):=by unfold Hid;rw[hP]
    have EU:Hid (P.hu=f128):=by unfold Hid;rw[hP]
    have EP:Hid (P.hp=f64):=by unfold Hid;rw[hP]
    have EN:Hid (P.wb = ⟨none,0,0⟩∧P.wt=ByteArray.empty∧P.us=ByteArray.empty):=by unfold Hid;rw[hP];exact⟨rfl,rfl,rfl⟩
    clear hP;have c11:=(s.blk.cell 11).trans (Pk.c11 _);rw[EW.out] at c11
    go_upto_if 111 with fail
    clear c11
    go_cut [5] (fun v wx=>∃(q1:Nat) (wt:ByteArray) (wb:List UInt8) (aw:Option Addr) (cw:Nat),v=.int .i64 q1∧Ct w0 wx r b { P with wt:=wt,wb:=⟨aw,wb.length,cw⟩ } { e0 with wb:=wb }∧Hid (qrl f4 l p3=some (wt,wb,q1)))
    case first=>
     cases f4 with
     |false=>
      go_wp2_with fail
      go_meet
      case rel=>exact⟨p3,ByteArray.empty,[],none,0,rfl,s.same (by obtain⟨e1,e2,_⟩:=EN.out;show ({ P with wt:=ByteArray.empty,wb:=⟨none,0,0⟩ } : Pk)=P;rw[←e1,←e2]),rfl⟩
     |true=>
      go_wp2_with fail
      obtain⟨yy,hyy,s0⟩:=s.hide;rw[←hyy];clear s hyy;have s:=s0;clear s0;have hRR:=HR.out.below s.gro;have hG:=qdl _ n cap p3 l _ hRR hn;clear hRR;refine hG.mono ?_;clear hG;rintro e y4 ⟨rfl,hb4⟩;generalize hg4:gT l p3=g4;cases g4 with
      |none=>
       simp only[rTxt,xV,xK,Option.isSome_none];replace s:=s.new hb4;clear hb4;go_wp2_with fail
       obtain⟨yy,hyy,s0⟩:=s.hide;rw[←hyy];clear s hyy;have s:=s0;clear s0;have hRR:=HR.out.below s.gro;have hG:=qjm _ n cap 0 l _ hRR hn;clear hRR;refine hG.mono ?_;clear hG;rintro e y5 ⟨a5,c5,rfl,O5,hb5⟩;clear O5;replace s:=s.new hb5;clear hb5
       go_upto_region 24 with fail
       obtain⟨yy,hyy,s0⟩:=s.hide;rw[←hyy];clear s hyy;have s:=s0;clear s0;refine wp_region_list ?_;refine bu_pk Pk.zero (by kernel_rfl) ?_;refine qag (q:=Pk.zero) (old:=Pk.zero) s.res rfl rfl ?_;intro y9 B9 g9;apply ‹∀(a:Act) (w:World),Code.wp Tryz.prog Code.ret _ a w→_›
       refine wp_ret ?_;show bodyPost Tryz.prog Tryz.f135 (fun e w'=>SRet w0 w' e (sCon l)) .ret _ _;exact qam rfl rfl B9 rfl (s.none g9 (by rw[SC.out];unfold qnl;simp only[qrl,if_true,hg4]))
      |some xk4=>
       obtain⟨wt,p4⟩:=xk4;simp only[rTxt,xV,xK,Option.isSome_some];replace s:=s.new hb4;clear hb4;go_wp2_with fail
       obtain⟨yy,hyy,s0⟩:=s.hide;rw[←hyy];clear s hyy;have s:=s0;clear s0;have hRR:=HR.out.below s.gro;have hG:=qjm _ n cap p4 l _ hRR hn;clear hRR;refine hG.mono ?_;clear hG;rintro e y5 ⟨a5,c5,rfl,O5,hb5⟩;generalize hg5:gL l p4=g5 at O5 ⊢;cases g5 with
       |none=>
        simp only[xV,xK,Option.isSome_none];clear O5;replace s:=s.new hb5;clear hb5
        go_upto_region 24 with fail
        obtain⟨yy,hyy,s0⟩:=s.hide;rw[←hyy];clear s hyy;have s:=s0;clear s0;refine wp_region_list ?_;refine bu_pk Pk.zero (by kernel_rfl) ?_;refine qag (q:=Pk.zero) (old:=Pk.zero) s.res rfl rfl ?_;intro y9 B9 g9;apply ‹∀(a:Act) (w:World),Code.wp Tryz.prog Code.ret _ a w→_›
        refine wp_ret ?_;show bodyPost Tryz.prog Tryz.f135 (fun e w'=>SRet w0 w' e (sCon l)) .ret _ _;exact qam rfl rfl B9 rfl (s.none g9 (by rw[SC.out];unfold qnl;simp only[qrl,if_true,hg4,hg5]))
       |some xk5=>
        obtain⟨wb,p5⟩:=xk5;simp only[xV,xK,Option.isSome_some] at O5 ⊢;have s1:=s.new hb5;have c12:=(s1.blk.cell 12).trans (Pk.c12 _);have z12:=Lib.frozen_of_heap s1.blk 12
        go_upto_region 26 with fail
        clear c12 z12;have s2:=s1.s12 wt (qig hg4);have c13:=(s2.blk.cell 13).trans (Pk.c13 _);have z13:=Lib.frozen_of_heap s2.blk 13;go_wp2_with fail
        clear c13 z13 s2 s1;replace s:=s.n1213 hb5 O5 wt (qig hg4) (by have:=gL_len hg5;omega);clear hb5 O5
        go_meet
        case rel=>exact⟨p5,wt,wb,a5,c5,rfl,s,by unfold Hid qrl;rw[if_pos rfl];simp only[hg4,hg5]⟩
    case rest=>
     obtain⟨q1,wt,wb,aw,cw,rfl,s,HW⟩:=hcut;have c16:=(s.blk.cell 16).trans (Pk.c16 _);change _=some (Value.bool P.hu) at c16;rw[EU.out] at c16
     go_upto_if 139 with fail
     clear c16
     go_cut [5] (fun v wx=>∃(q2:Nat) (us:ByteArray),v=.int .i64 q2∧Ct w0 wx r b { P with wt:=wt,wb:=⟨aw,wb.length,cw⟩,us:=us } { e0 with wb:=wb }∧Hid (qud f128 l q1=some (us,q2)))
     case first=>
      cases f128 with
      |false=>
       go_wp2_with fail
       go_meet
       case rel=>exact⟨q1,ByteArray.empty,rfl,s.same (by obtain⟨_,_,e3⟩:=EN.out;rw[←e3]),rfl⟩
      |true=>
       go_wp2_with fail
       obtain⟨yy,hyy,s0⟩:=s.hide;rw[←hyy];clear s hyy;have s:=s0;clear s0;have hRR:=HR.out.below s.gro;have hG:=qdl _ n cap q1 l _ hRR hn;clear hRR;refine hG.mono ?_;clear hG;rintro e y6 ⟨rfl,hb6⟩;generalize hg6:gT l q1=g6;cases g6 with
       |none=>
        simp only[rTxt,xV,xK,Option.isSome_none];replace s:=s.new hb6;clear hb6
        go_upto_region 31 with fail
        obtain⟨yy,hyy,s0⟩:=s.hide;rw[←hyy];clear s hyy;have s:=s0;clear s0;refine wp_region_list ?_;refine bu_pk Pk.zero (by kernel_rfl) ?_;refine qag (q:=Pk.zero) (old:=Pk.zero) s.res rfl rfl ?_;intro y9 B9 g9;apply ‹∀(a:Act) (w:World),Code.wp Tryz.prog Code.ret _ a w→_›
        refine wp_ret ?_;show bodyPost Tryz.prog Tryz.f135 (fun e w'=>SRet w0 w' e (sCon l)) .ret _ _;exact qam rfl rfl B9 rfl (s.none g9 (by rw[SC.out];unfold qnl;simp only[HW.out,qud,if_true,hg6]))
       |some xk6=>
        obtain⟨us,p6⟩:=xk6;simp only[rTxt,xV,xK,Option.isSome_some];replace s:=s.new hb6;clear hb6;have c17:=(s.blk.cell 17).trans (Pk.c17 _);have z17:=Lib.frozen_of_heap s.blk 17;go_wp2_with fail
        replace s:=s.s17 us (qig hg6);clear c17 z17
        go_meet
        case rel=>exact⟨p6,us,rfl,s,by unfold Hid qud;rw[if_pos rfl];exact hg6⟩
     case rest=>
      obtain⟨q2,us,rfl,s,HU⟩:=hcut;have c18:=(s.blk.cell 18).trans (Pk.c18 _);change _=some (Value.bool P.hp) at c18;rw[EP.out] at c18;cases f64 with
      |false=>
       go_upto_region 39 with fail
       obtain⟨yy,hyy,s0⟩:=s.hide;rw[←hyy];clear s hyy;have s:=s0;clear s0;refine wp_region_list ?_;refine qaj s.blk rfl _ rfl rfl ?_;refine qag (q:=_) (old:=Pk.zero) s.res rfl rfl ?_;intro y9 B9 g9;apply ‹∀(a:Act) (w:World),Code.wp Tryz.prog Code.ret _ a w→_›
       refine wp_ret ?_;show bodyPost Tryz.prog Tryz.f135 (fun e w'=>SRet w0 w' e (sCon l)) .ret _ _;exact qam rfl rfl B9 rfl (s.done g9 (by rw[SC.out];unfold qnl;simp only[HW.out,HU.out,Bool.false_eq_true,if_false];rw[HP.out];rfl))
      |true=>
       go_wp2_with fail
       obtain⟨yy,hyy,s0⟩:=s.hide;rw[←hyy];clear s hyy;have s:=s0;clear s0;have hRR:=HR.out.below s.gro;have hG:=qjm _ n cap q2 l _ hRR hn;clear hRR;refine hG.mono ?_;clear hG;rintro e y7 ⟨a7,c7,rfl,O7,hb7⟩;generalize hg7:gL l q2=g7 at O7 ⊢;cases g7 with
       |none=>
        clear c18;simp only[xV,xK,Option.isSome_none];replace s:=s.new hb7;clear hb7
        go_upto_region 37 with fail
        obtain⟨yy,hyy,s0⟩:=s.hide;rw[←hyy];clear s hyy;have s:=s0;clear s0;refine wp_region_list ?_;refine bu_pk Pk.zero (by kernel_rfl) ?_;refine qag (q:=Pk.zero) (old:=Pk.zero) s.res rfl rfl ?_;intro y9 B9 g9;apply ‹∀(a:Act) (w:World),Code.wp Tryz.prog Code.ret _ a w→_›
        refine wp_ret ?_;show bodyPost Tryz.prog Tryz.f135 (fun e w'=>SRet w0 w' e (sCon l)) .ret _ _;exact qam rfl rfl B9 rfl (s.none g9 (by rw[SC.out];unfold qnl;simp only[HW.out,HU.out,if_true,hg7]))
       |some xk7=>
        obtain⟨pa,k7⟩:=xk7;simp only[xV,xK,Option.isSome_some] at O7 ⊢;have s_:=s.new hb7;clear c18;have c19:=(s_.blk.cell 19).trans (Pk.c19 _);have z19:=Lib.frozen_of_heap s_.blk 19
        go_upto_region 39 with fail
        replace s:=s.n19 hb7 O7 (by have:=gL_len hg7;omega);clear s_ c19 z19 hb7 O7;obtain⟨yy,hyy,s0⟩:=s.hide;rw[←hyy];clear s hyy;have s:=s0;clear s0;refine wp_region_list ?_;refine qaj s.blk rfl _ rfl rfl ?_;refine qag (q:=_) (old:=Pk.zero) s.res rfl rfl ?_;intro y9 B9 g9;apply ‹∀(a:Act) (w:World),Code.wp Tryz.prog Code.ret _ a w→_›
        refine wp_ret ?_;show bodyPost Tryz.prog Tryz.f135 (fun e w'=>SRet w0 w' e (sCon l)) .ret _ _;exact qam rfl rfl B9 rfl (s.done g9 (by rw[SC.out];unfold qnl;simp only[HW.out,HU.out,if_true,hg7];rw[HP.out];rfl))

theorem POwn.down {w:World} {B B':Nat} {p:Pk} {d:Pd} (h:POwn w B p d) (hB:B'≤B):POwn w B' p d :=
 ⟨⟨h.bod.1,qbc h.bod.2 hB⟩,⟨h.wb.1,qbc h.wb.2 hB⟩,⟨h.pa.1,qbc h.pa.2 hB⟩,⟨h.wan.1,qbc h.wan.2 hB⟩,⟨h.nam.1,qbc h.nam.2 hB⟩,⟨h.cds.1,qbc h.cds.2 hB⟩,h.dis⟩
theorem gt_bits8 (x:Nat) (h:x<256):decide (0<bits BinOp.and IntKind.i64 (x:Int) 8)=fl x 8:=by
 have h0:∀y:Fin 256,decide (0<bits BinOp.and IntKind.i64 (y.val:Int) 8)=fl y.val 8:=by decide +kernel
 exact h0 ⟨x,h⟩
theorem gt_bits1 (x:Nat) (h:x<256):decide (0<bits BinOp.and IntKind.i64 (x:Int) 1)=fl x 1:=by
 have h0:∀y:Fin 256,decide (0<bits BinOp.and IntKind.i64 (y.val:Int) 1)=fl y.val 1:=by decide +kernel
 exact h0 ⟨x,h⟩
theorem gt_q2 (x:Nat) (h:x<256):bits BinOp.and IntKind.i64 ((x:Int) / 2) 3=(x:Int) / 2%4:=by
 have h0:∀y:Fin 256,bits BinOp.and IntKind.i64 ((y.val:Int) / 2) 3=(y.val:Int) / 2%4:=by decide +kernel
 exact h0 ⟨x,h⟩
theorem body_con (w0:World) (x:Nat) (hx:x<256) (hk:(x:Int) / 16=1) (ao:Option Addr) (n cap:Nat) (l:List UInt8) (hr:RdIn w0 ao n cap l) (hn:n≤1048576) :
  Calls Tryz.prog 88 #[.int .i64 x,.slice ao n cap] w0 fun e w'=>SRet w0 w' e (sBody x l):=by
 have HR:Hid (RdIn w0 ao n cap l):=hr;have hl:=hr.1.1;clear hr;have A1:Blk ((w0.alloc (.cells Pk.zero.cells 28)).alloc (.cells (pkK 1).cells 28)) w0.heap.size Pk.zero:=heap_alloc2_old _ _ _;have A2:Blk ((w0.alloc (.cells Pk.zero.cells 28)).alloc (.cells (pkK 1).cells 28)) (w0.alloc (.cells Pk.zero.cells 28)).heap.size (pkK 1):=heap_alloc_new _ _;rw[World.size_alloc] at A2;have s:=Ct.start (w0:=w0) 1 A2 A1 (bel (qac _ _) (qac _ _)) (by omega) (Nat.le_refl _) (by omega);clear A1 A2;go_enter Tryz.func88,Tryz.ntmps88
 go_upto_region 2 with (first | refine qaz (p:=pkK 1) rfl rfl ?_ | refine al_pk ?_ | refine bu_pk (pkK 1) (by kernel_rfl) ?_ | fail)
 simp only[World.size_alloc];generalize (w0.alloc (.cells Pk.zero.cells 28)).alloc (.cells (pkK 1).cells 28)=y0 at s ⊢;generalize w0.heap.size+1=b at *;generalize hrr:w0.heap.size=r at s ⊢;have c0:=(s.blk.cell 0).trans (Pk.c0 _);change _=some (Value.int .i64 1) at c0;go_wp2_with fail
 refine (qqn _ ao n cap l (HR.out.below s.gro) hn).mono ?_;rintro e y1 ⟨p,d,rfl,ow,gd,hv,b1⟩;have A:=s.res.next b1;have hB:Below w0.heap.size w0 y1:=s.gro.trans (b1.mono s.gro.size);have ow2:POwn y1 w0.heap.size p d:=ow.down s.gro.size;go_wp2_with (first | (refine qag (q:=p) (old:=Pk.zero) A rfl rfl ?_;intro y9 B9 g9) | fail)
 exact qam rfl rfl B9 rfl ⟨p,d,rfl,ow2.grown g9 (fun k e=>by cases e;exact ow2.ne A),gd,(by unfold sBody;rw[if_pos (by omega)];exact hv),qat hB g9 s.rn⟩
theorem body_ack (w0:World) (x:Nat) (hx:x<256) (hk:(x:Int) / 16=2) (ao:Option Addr) (cap:Nat) (l:List UInt8) (hr:RdIn w0 ao 2 cap l) :
  Calls Tryz.prog 88 #[.int .i64 x,.slice ao 2 cap] w0 fun e w'=>SRet w0 w' e (sBody x l):=by
 have HR:Hid (RdIn w0 ao 2 cap l):=hr;have hl:=hr.1.1;clear hr;have A1:Blk ((w0.alloc (.cells Pk.zero.cells 28)).alloc (.cells (pkK 2).cells 28)) w0.heap.size Pk.zero:=heap_alloc2_old _ _ _;have A2:Blk ((w0.alloc (.cells Pk.zero.cells 28)).alloc (.cells (pkK 2).cells 28)) (w0.alloc (.cells Pk.zero.cells 28)).heap.size (pkK 2):=heap_alloc_new _ _;rw[World.size_alloc] at A2;have s:=Ct.start (w0:=w0) 2 A2 A1 (bel (qac _ _) (qac _ _)) (by omega) (Nat.le_refl _) (by omega);clear A1 A2;go_enter Tryz.func88,Tryz.ntmps88
 go_upto_region 2 with (first | refine qaz (p:=pkK 2) rfl rfl ?_ | refine al_pk ?_ | refine bu_pk (pkK 2) (by kernel_rfl) ?_ | fail)
 simp only[World.size_alloc];generalize (w0.alloc (.cells Pk.zero.cells 28)).alloc (.cells (pkK 2).cells 28)=y0 at s ⊢;generalize w0.heap.size+1=b at *;generalize hrr:w0.heap.size=r at s ⊢;have c0:=(s.blk.cell 0).trans (Pk.c0 _);change _=some (Value.int .i64 2) at c0;obtain⟨b0,off,rfl,hc⟩:=HR.out.1.at (show 0<2 by omega);have q0':=hc 0 (by omega);have q1':=hc 1 (by omega);rw[Nat.add_zero] at q0';have hb0:b0<w0.heap.size:=World.block_lt_of_cell? _ _ q0';have q0:=(s.gro.cell (p:=⟨b0,off,none⟩) hb0).trans q0';have HC:Hid (∀u,Below w0.heap.size w0 u→u.cell? ⟨b0,off+1,none⟩ = some (.int .u8 (bt l 1))):=fun u hu=>(hu.cell (p:=⟨b0,off+1,none⟩) hb0).trans q1'
 clear q0' q1' hb0 hc;have hl2:l.length=2:=hl;have h1lt:=bt_lt l 1;have h0lt:=bt_lt l 0;have c21:=(s.blk.cell 21).trans (Pk.c21 _);have z21:=Lib.frozen_of_heap s.blk 21
 by_cases h1:bt l 0=1
 ·rw[h1] at q0
  go_upto_region 7 with fail
  replace s:=s.s21 true;clear c21 z21 q0;have q1:=HC.out _ s.gro;have c20:=(s.blk.cell 20).trans (Pk.c20 _);have z20:=Lib.frozen_of_heap s.blk 20
  go_upto_region 8 with fail
  replace s:=s.s20 (bt l 1);clear c20 z20 q1;obtain⟨yz,hyy,s0⟩:=s.hide;rw[←hyy];clear s hyy;have s:=s0;clear s0;refine wp_region_list ?_;refine qaj s.blk rfl _ rfl rfl ?_;refine qag (q:=_) (old:=Pk.zero) s.res rfl rfl ?_;intro y9 B9 g9;apply ‹∀(a:Act) (w:World),Code.wp Tryz.prog Code.ret _ a w→_›
  refine wp_ret ?_;show bodyPost Tryz.prog Tryz.f88 (fun e w'=>SRet w0 w' e (sBody x l)) .ret _ _;exact qam rfl rfl B9 rfl (s.done g9 (by unfold sBody;rw[if_neg (by omega),if_pos ⟨by omega,hl2⟩];simp only[h1];rfl))
 ·have h1b:(((bt l 0:Nat):Int)==1)=false:=by simp;omega
  go_upto_region 7 with fail
  replace s:=s.s21 false;clear c21 z21 q0;have q1:=HC.out _ s.gro;have c20:=(s.blk.cell 20).trans (Pk.c20 _);have z20:=Lib.frozen_of_heap s.blk 20
  go_upto_region 8 with fail
  replace s:=s.s20 (bt l 1);clear c20 z20 q1;obtain⟨yz,hyy,s0⟩:=s.hide;rw[←hyy];clear s hyy;have s:=s0;clear s0;refine wp_region_list ?_;refine qaj s.blk rfl _ rfl rfl ?_;refine qag (q:=_) (old:=Pk.zero) s.res rfl rfl ?_;intro y9 B9 g9;apply ‹∀(a:Act) (w:World),Code.wp Tryz.prog Code.ret _ a w→_›
  refine wp_ret ?_;show bodyPost Tryz.prog Tryz.f88 (fun e w'=>SRet w0 w' e (sBody x l)) .ret _ _;exact qam rfl rfl B9 rfl (s.done g9 (by unfold sBody;rw[if_neg (by omega),if_pos ⟨by omega,hl2⟩];simp only[h1,decide_false];rfl))
theorem body_pub (w0:World) (x:Nat) (hx:x<256) (hk:(x:Int) / 16=3) (ao:Option Addr) (n cap:Nat) (l:List UInt8) (hr:RdIn w0 ao n cap l) (hn:n≤1048576) :
  Calls Tryz.prog 88 #[.int .i64 x,.slice ao n cap] w0 fun e w'=>SRet w0 w' e (sBody x l):=by
 have HR:Hid (RdIn w0 ao n cap l):=hr;have hl:=hr.1.1;clear hr;have A1:Blk ((w0.alloc (.cells Pk.zero.cells 28)).alloc (.cells (pkK 3).cells 28)) w0.heap.size Pk.zero:=heap_alloc2_old _ _ _;have A2:Blk ((w0.alloc (.cells Pk.zero.cells 28)).alloc (.cells (pkK 3).cells 28)) (w0.alloc (.cells Pk.zero.cells 28)).heap.size (pkK 3):=heap_alloc_new _ _;rw[World.size_alloc] at A2;have s:=Ct.start (w0:=w0) 3 A2 A1 (bel (qac _ _) (qac _ _)) (by omega) (Nat.le_refl _) (by omega);clear A1 A2;obtain⟨f8,hf8⟩ : ∃f,decide (0<bits BinOp.and IntKind.i64 (x:Int) 8)=f:=⟨_,rfl⟩;have F8:Hid (fl x 8=f8):=by unfold Hid;rw[←hf8];exact (gt_bits8 x hx).symm
 obtain⟨f1,hf1⟩ : ∃f,decide (0<bits BinOp.and IntKind.i64 (x:Int) 1)=f:=⟨_,rfl⟩;have F1:Hid (fl x 1=f1):=by unfold Hid;rw[←hf1];exact (gt_bits1 x hx).symm
 obtain⟨qq,hqq⟩ : ∃q,bits BinOp.and IntKind.i64 ((x:Int) / 2) 3=q:=⟨_,rfl⟩;have QQ:Hid ((x:Int) / 2%4=qq):=by unfold Hid;rw[←hqq];exact (gt_q2 x hx).symm
 go_enter Tryz.func88,Tryz.ntmps88
 go_upto_region 2 with (first | refine qaz (p:=pkK 3) rfl rfl ?_ | refine al_pk ?_ | refine bu_pk (pkK 3) (by kernel_rfl) ?_ | fail)
 simp only[World.size_alloc];generalize (w0.alloc (.cells Pk.zero.cells 28)).alloc (.cells (pkK 3).cells 28)=y0 at s ⊢;generalize w0.heap.size+1=b at *;generalize hrr:w0.heap.size=r at s ⊢;have c0:=(s.blk.cell 0).trans (Pk.c0 _);change _=some (Value.int .i64 3) at c0;have c1:=(s.blk.cell 1).trans (Pk.c1 _);have z1:=Lib.frozen_of_heap s.blk 1
 go_upto_region 11 with fail
 replace s:=s.s1 f8;clear c1 z1 hf8;have c2:=(s.blk.cell 2).trans (Pk.c2 _);have z2:=Lib.frozen_of_heap s.blk 2
 go_upto_region 12 with fail
 replace s:=s.s2 qq;clear c2 z2 hqq;have c3:=(s.blk.cell 3).trans (Pk.c3 _);have z3:=Lib.frozen_of_heap s.blk 3
 go_upto_region 13 with fail
 replace s:=s.s3 f1;clear c3 z3 hf1 c0;go_wp2_with fail
 obtain⟨yz,hyy,s0⟩:=s.hide;rw[←hyy];clear s hyy;have s:=s0;clear s0;have hRR:=HR.out.below s.gro;have hG:=qdl _ n cap 0 l _ hRR hn;clear hRR;refine hG.mono ?_;clear hG;rintro e y1 ⟨rfl,hb1⟩;replace s:=s.new hb1;clear hb1;cases h1:gT l 0 with
 |none=>
  simp only[rTxt,xV,xK,Option.isSome_none]
  go_upto_region 15 with fail
  obtain⟨yz,hyy,s0⟩:=s.hide;rw[←hyy];clear s hyy;have s:=s0;clear s0;refine wp_region_list ?_;refine bu_pk Pk.zero (by kernel_rfl) ?_;refine qag (q:=Pk.zero) (old:=Pk.zero) s.res rfl rfl ?_;intro y9 B9 g9;apply ‹∀(a:Act) (w:World),Code.wp Tryz.prog Code.ret _ a w→_›
  refine wp_ret ?_;show bodyPost Tryz.prog Tryz.f88 (fun e w'=>SRet w0 w' e (sBody x l)) .ret _ _;exact qam rfl rfl B9 rfl (s.none g9 (by unfold sBody;rw[if_neg (by omega),if_neg (by omega),if_pos (by omega)];unfold sPub;simp only[h1]))
 |some xk1=>
  obtain⟨tp,a⟩:=xk1;simp only[rTxt,xV,xK,Option.isSome_some];have hle1:=le_T l 0 tp a h1;have c5:=(s.blk.cell 5).trans (Pk.c5 _);have z5:=Lib.frozen_of_heap s.blk 5
  go_upto_region 17 with fail
  replace s:=s.s5 tp (qig h1);clear c5 z5;have c2:=(s.blk.cell 2).trans (Pk.c2 _);change _=some (Value.int .i64 qq) at c2
  by_cases hq:0<qq
  ·go_wp2_with fail
   obtain⟨yz,hyy,s0⟩:=s.hide;rw[←hyy];clear s hyy;have s:=s0;clear s0;have hRR:=HR.out.below s.gro;have hG:=qdw _ n cap a l _ hRR hn;clear hRR;refine hG.mono ?_;clear hG;rintro e y2 ⟨rfl,hb2⟩;clear c2;replace s:=s.new hb2;clear hb2;cases h2:gW l a with
   |none=>
    simp only[rInt,xV,xK,Option.isSome_none]
    go_upto_region 21 with fail
    obtain⟨yz,hyy,s0⟩:=s.hide;rw[←hyy];clear s hyy;have s:=s0;clear s0;refine wp_region_list ?_;refine bu_pk Pk.zero (by kernel_rfl) ?_;refine qag (q:=Pk.zero) (old:=Pk.zero) s.res rfl rfl ?_;intro y9 B9 g9;apply ‹∀(a:Act) (w:World),Code.wp Tryz.prog Code.ret _ a w→_›
    refine wp_ret ?_;show bodyPost Tryz.prog Tryz.f88 (fun e w'=>SRet w0 w' e (sBody x l)) .ret _ _;exact qam rfl rfl B9 rfl (s.none g9 (by unfold sBody;rw[if_neg (by omega),if_neg (by omega),if_pos (by omega)];unfold sPub;simp only[h1,QQ.out,hq,if_true,h2]))
   |some xk2=>
    obtain⟨i,p2⟩:=xk2;simp only[rInt,xV,xK,Option.isSome_some];have hle2:=le_W l a i p2 h2;have c4:=(s.blk.cell 4).trans (Pk.c4 _);have z4:=Lib.frozen_of_heap s.blk 4
    go_upto_region 23 with fail
    replace s:=s.s4 i;clear c4 z4;obtain⟨ax,cx,hsl,hrx⟩:=qhw HR.out p2 (by omega);obtain⟨m,hm⟩ : ∃m,n-p2=m:=⟨_,rfl⟩;rw[hm] at hsl hrx;have hm':m≤1048576:=by omega
    clear hm;generalize y2.setCell ⟨b,4,none⟩ (.int .i64 i)=yy at s ⊢;go_wp2_with (at_builtin;refine w_app _ rfl _ _ rfl yy.heap.size _ 0 _ [] rfl (qbm yy) _ _ _ (l.drop p2) rfl ((hrx.below s.gro).alloc _) (by omega) (by simp) ?_)
    intro a2 c2 w2 ho2 hg2;have hb2:Below yy.heap.size yy w2:=qba ((Below.refl _ _).alloc (Nat.le_refl _) _) (by simp) (qbm yy) hg2;have s_:=s.new hb2;have c6:=(s_.blk.cell 6).trans (Pk.c6 _);have z6:=Lib.frozen_of_heap s_.blk 6
    go_upto_region 25 with fail
    replace s:=s.n6 hb2 ho2 (by omega);clear s_ c6 z6 hb2 ho2 hg2;obtain⟨yz,hyy,s0⟩:=s.hide;rw[←hyy];clear s hyy;have s:=s0;clear s0;refine wp_region_list ?_;refine qaj s.blk rfl _ rfl rfl ?_;refine qag (q:=_) (old:=Pk.zero) s.res rfl rfl ?_;intro y9 B9 g9;apply ‹∀(a:Act) (w:World),Code.wp Tryz.prog Code.ret _ a w→_›
    refine wp_ret ?_;show bodyPost Tryz.prog Tryz.f88 (fun e w'=>SRet w0 w' e (sBody x l)) .ret _ _;exact qam rfl rfl B9 rfl (s.done g9 (by unfold sBody;rw[if_neg (by omega),if_neg (by omega),if_pos (by omega)];unfold sPub;simp only[h1,QQ.out,hq,if_true,h2,F8.out,F1.out];rfl))
  ·go_upto_region 24 with fail
   clear c2;obtain⟨ax,cx,hsl,hrx⟩:=qhw HR.out a (by omega);obtain⟨m,hm⟩ : ∃m,n-a=m:=⟨_,rfl⟩;rw[hm] at hsl hrx;have hm':m≤1048576:=by omega
   clear hm;generalize y1.setCell ⟨b,5,none⟩ (.string tp)=yy at s ⊢;go_wp2_with (at_builtin;refine w_app _ rfl _ _ rfl yy.heap.size _ 0 _ [] rfl (qbm yy) _ _ _ (l.drop a) rfl ((hrx.below s.gro).alloc _) (by omega) (by simp) ?_)
   intro a2 c2 w2 ho2 hg2;have hb2:Below yy.heap.size yy w2:=qba ((Below.refl _ _).alloc (Nat.le_refl _) _) (by simp) (qbm yy) hg2;have s_:=s.new hb2;have c6:=(s_.blk.cell 6).trans (Pk.c6 _);have z6:=Lib.frozen_of_heap s_.blk 6
   go_upto_region 25 with fail
   replace s:=s.n6 hb2 ho2 (by omega);clear s_ c6 z6 hb2 ho2 hg2;obtain⟨yz,hyy,s0⟩:=s.hide;rw[←hyy];clear s hyy;have s:=s0;clear s0;refine wp_region_list ?_;refine qaj s.blk rfl _ rfl rfl ?_;refine qag (q:=_) (old:=Pk.zero) s.res rfl rfl ?_;intro y9 B9 g9;apply ‹∀(a:Act) (w:World),Code.wp Tryz.prog Code.ret _ a w→_›
   refine wp_ret ?_;show bodyPost Tryz.prog Tryz.f88 (fun e w'=>SRet w0 w' e (sBody x l)) .ret _ _;exact qam rfl rfl B9 rfl (s.done g9 (by unfold sBody;rw[if_neg (by omega),if_neg (by omega),if_pos (by omega)];unfold sPub;simp only[h1,QQ.out,if_neg (show ¬0<qq by omega),F8.out,F1.out];rfl))
theorem body_id2 (w0:World) (x:Nat) (hx:x<256) (k:Int) (hk:(x:Int) / 16=k) (t1:(k==1)=false) (t3:(k==3)=false) (t9:(k==9)=false) (t8:(k==8)=false) (t10:(k==10)=false) (k1:k≠1) (k3:k≠3) (k8:k≠8) (k9:k≠9) (k10:k≠10) (t2:(k==2)=true)  (k12:k<12) (ao:Option Addr) (n cap:Nat) (l:List UInt8) (hr:RdIn w0 ao n cap l) (hn:n≤1048576) (n2:n≠2) :
  Calls Tryz.prog 88 #[.int .i64 x,.slice ao n cap] w0 fun e w'=>SRet w0 w' e (sBody x l):=by
 have HR:Hid (RdIn w0 ao n cap l):=hr;have hl:=hr.1.1;clear hr;have A1:Blk ((w0.alloc (.cells Pk.zero.cells 28)).alloc (.cells (pkK k).cells 28)) w0.heap.size Pk.zero:=heap_alloc2_old _ _ _;have A2:Blk ((w0.alloc (.cells Pk.zero.cells 28)).alloc (.cells (pkK k).cells 28)) (w0.alloc (.cells Pk.zero.cells 28)).heap.size (pkK k):=heap_alloc_new _ _;rw[World.size_alloc] at A2;have s:=Ct.start (w0:=w0) k A2 A1 (bel (qac _ _) (qac _ _)) (by omega) (Nat.le_refl _) (by omega);clear A1 A2;go_enter Tryz.func88,Tryz.ntmps88
 go_upto_region 2 with (first | refine qaz (p:=pkK k) rfl rfl ?_ | refine al_pk ?_ | refine bu_pk (pkK k) (by kernel_rfl) ?_ | fail)
 simp only[World.size_alloc];generalize (w0.alloc (.cells Pk.zero.cells 28)).alloc (.cells (pkK k).cells 28)=y0 at s ⊢;generalize w0.heap.size+1=b at *;generalize hrr:w0.heap.size=r at s ⊢;have c0:=(s.blk.cell 0).trans (Pk.c0 _);change _=some (Value.int .i64 k) at c0;have k2:k=2:=by simpa using t2
 have n2i:¬(n:Int)=2:=by omega
 go_wp2_with fail
 obtain⟨yz,hyy,s0⟩:=s.hide;rw[←hyy];clear s hyy;have s:=s0;clear s0;have hRR:=HR.out.below s.gro;have hG:=qdw _ n cap 0 l _ hRR hn;clear hRR;refine hG.mono ?_;clear hG;rintro e y1 ⟨rfl,hb1⟩;replace s:=s.new hb1;clear hb1;cases h1:gW l 0 with
 |none=>
  simp only[rInt,xV,xK,Option.isSome_none]
  go_upto_region 29 with fail
  obtain⟨yz,hyy,s0⟩:=s.hide;rw[←hyy];clear s hyy;have s:=s0;clear s0;refine wp_region_list ?_;refine bu_pk Pk.zero (by kernel_rfl) ?_;refine qag (q:=Pk.zero) (old:=Pk.zero) s.res rfl rfl ?_;intro y9 B9 g9;apply ‹∀(a:Act) (w:World),Code.wp Tryz.prog Code.ret _ a w→_›
  refine wp_ret ?_;show bodyPost Tryz.prog Tryz.f88 (fun e w'=>SRet w0 w' e (sBody x l)) .ret _ _;exact qam rfl rfl B9 rfl (s.none g9 (by unfold sBody;rw[if_neg (by omega),if_neg (by omega),if_neg (by omega),if_pos (by omega)];simp only[h1]))
 |some xk1=>
  obtain⟨i,a⟩:=xk1;simp only[rInt,xV,xK,Option.isSome_some];have c4:=(s.blk.cell 4).trans (Pk.c4 _);have z4:=Lib.frozen_of_heap s.blk 4
  go_upto_region 31 with fail
  replace s:=s.s4 i;clear c4 z4;replace c0:=(s.blk.cell 0).trans (Pk.c0 _);change _=some (Value.int .i64 k) at c0;generalize y1.setCell ⟨b,4,none⟩ (.int .i64 i)=yy at *;go_wp2_with fail
  go_loopw [6] (fun v wz=>v=.int .i64 a∧wz=yy) (fun _ _=>0)
  case atStart=>exact⟨rfl,rfl⟩
  case round=>
   obtain⟨rfl,rfl⟩:=hrel
   by_cases hat:((a:Nat):Int)<n
   ·go_upto_region 48 with fail
    obtain⟨yz,hyy,s0⟩:=s.hide;rw[←hyy];clear s hyy;have s:=s0;clear s0;refine wp_region_list ?_;refine qaj s.blk rfl _ rfl rfl ?_;refine qag (q:=_) (old:=Pk.zero) s.res rfl rfl ?_;intro y9 B9 g9;apply ‹∀(a:Act) (w:World),Code.wp Tryz.prog Code.ret _ a w→_›
    refine wp_ret ?_;show bodyPost Tryz.prog Tryz.f88 (fun e w'=>SRet w0 w' e (sBody x l)) .ret _ _;exact qam rfl rfl B9 rfl (s.done g9 (by unfold sBody;rw[if_neg (by omega),if_neg (by omega),if_neg (by omega),if_pos (by omega)];simp only[h1];rw[if_neg (by omega),if_neg (by omega),if_neg (by omega)];unfold pv;simp only[pkK,Pk.zero,Pv.zero,e0];congr 1))
   ·go_upto_region 48 with fail
    obtain⟨yz,hyy,s0⟩:=s.hide;rw[←hyy];clear s hyy;have s:=s0;clear s0;refine wp_region_list ?_;refine qaj s.blk rfl _ rfl rfl ?_;refine qag (q:=_) (old:=Pk.zero) s.res rfl rfl ?_;intro y9 B9 g9;apply ‹∀(a:Act) (w:World),Code.wp Tryz.prog Code.ret _ a w→_›
    refine wp_ret ?_;show bodyPost Tryz.prog Tryz.f88 (fun e w'=>SRet w0 w' e (sBody x l)) .ret _ _;exact qam rfl rfl B9 rfl (s.done g9 (by unfold sBody;rw[if_neg (by omega),if_neg (by omega),if_neg (by omega),if_pos (by omega)];simp only[h1];rw[if_neg (by omega),if_neg (by omega),if_neg (by omega)];unfold pv;simp only[pkK,Pk.zero,Pv.zero,e0];congr 1))
theorem body_ido (w0:World) (x:Nat) (hx:x<256) (k:Int) (hk:(x:Int) / 16=k) (t1:(k==1)=false) (t3:(k==3)=false) (t9:(k==9)=false) (t8:(k==8)=false) (t10:(k==10)=false) (k1:k≠1) (k3:k≠3) (k8:k≠8) (k9:k≠9) (k10:k≠10) (t2:(k==2)=false) (k12:k<12) (ao:Option Addr) (n cap:Nat) (l:List UInt8) (hr:RdIn w0 ao n cap l) (hn:n≤1048576) :
  Calls Tryz.prog 88 #[.int .i64 x,.slice ao n cap] w0 fun e w'=>SRet w0 w' e (sBody x l):=by
 have HR:Hid (RdIn w0 ao n cap l):=hr;have hl:=hr.1.1;clear hr;have A1:Blk ((w0.alloc (.cells Pk.zero.cells 28)).alloc (.cells (pkK k).cells 28)) w0.heap.size Pk.zero:=heap_alloc2_old _ _ _;have A2:Blk ((w0.alloc (.cells Pk.zero.cells 28)).alloc (.cells (pkK k).cells 28)) (w0.alloc (.cells Pk.zero.cells 28)).heap.size (pkK k):=heap_alloc_new _ _;rw[World.size_alloc] at A2;have s:=Ct.start (w0:=w0) k A2 A1 (bel (qac _ _) (qac _ _)) (by omega) (Nat.le_refl _) (by omega);clear A1 A2;go_enter Tryz.func88,Tryz.ntmps88
 go_upto_region 2 with (first | refine qaz (p:=pkK k) rfl rfl ?_ | refine al_pk ?_ | refine bu_pk (pkK k) (by kernel_rfl) ?_ | fail)
 simp only[World.size_alloc];generalize (w0.alloc (.cells Pk.zero.cells 28)).alloc (.cells (pkK k).cells 28)=y0 at s ⊢;generalize w0.heap.size+1=b at *;generalize hrr:w0.heap.size=r at s ⊢;have c0:=(s.blk.cell 0).trans (Pk.c0 _);change _=some (Value.int .i64 k) at c0;have k2:k≠2:=by simpa using t2
 go_wp2_with fail
 obtain⟨yz,hyy,s0⟩:=s.hide;rw[←hyy];clear s hyy;have s:=s0;clear s0;have hRR:=HR.out.below s.gro;have hG:=qdw _ n cap 0 l _ hRR hn;clear hRR;refine hG.mono ?_;clear hG;rintro e y1 ⟨rfl,hb1⟩;replace s:=s.new hb1;clear hb1;cases h1:gW l 0 with
 |none=>
  simp only[rInt,xV,xK,Option.isSome_none]
  go_upto_region 29 with fail
  obtain⟨yz,hyy,s0⟩:=s.hide;rw[←hyy];clear s hyy;have s:=s0;clear s0;refine wp_region_list ?_;refine bu_pk Pk.zero (by kernel_rfl) ?_;refine qag (q:=Pk.zero) (old:=Pk.zero) s.res rfl rfl ?_;intro y9 B9 g9;apply ‹∀(a:Act) (w:World),Code.wp Tryz.prog Code.ret _ a w→_›
  refine wp_ret ?_;show bodyPost Tryz.prog Tryz.f88 (fun e w'=>SRet w0 w' e (sBody x l)) .ret _ _;exact qam rfl rfl B9 rfl (s.none g9 (by unfold sBody;rw[if_neg (by omega),if_neg (by omega),if_neg (by omega),if_pos (by omega)];simp only[h1]))
 |some xk1=>
  obtain⟨i,a⟩:=xk1;simp only[rInt,xV,xK,Option.isSome_some];have c4:=(s.blk.cell 4).trans (Pk.c4 _);have z4:=Lib.frozen_of_heap s.blk 4
  go_upto_region 31 with fail
  replace s:=s.s4 i;clear c4 z4;replace c0:=(s.blk.cell 0).trans (Pk.c0 _);change _=some (Value.int .i64 k) at c0;generalize y1.setCell ⟨b,4,none⟩ (.int .i64 i)=yy at *;go_wp2_with fail
  go_loopw [6] (fun v wz=>v=.int .i64 a∧wz=yy) (fun _ _=>0)
  case atStart=>exact⟨rfl,rfl⟩
  case round=>
   obtain⟨rfl,rfl⟩:=hrel
   by_cases hat:((a:Nat):Int)<n
   ·go_upto_region 48 with fail
    obtain⟨yz,hyy,s0⟩:=s.hide;rw[←hyy];clear s hyy;have s:=s0;clear s0;refine wp_region_list ?_;refine qaj s.blk rfl _ rfl rfl ?_;refine qag (q:=_) (old:=Pk.zero) s.res rfl rfl ?_;intro y9 B9 g9;apply ‹∀(a:Act) (w:World),Code.wp Tryz.prog Code.ret _ a w→_›
    refine wp_ret ?_;show bodyPost Tryz.prog Tryz.f88 (fun e w'=>SRet w0 w' e (sBody x l)) .ret _ _;exact qam rfl rfl B9 rfl (s.done g9 (by unfold sBody;rw[if_neg (by omega),if_neg (by omega),if_neg (by omega),if_pos (by omega)];simp only[h1];rw[if_neg (by omega),if_neg (by omega),if_neg (by omega)];unfold pv;simp only[pkK,Pk.zero,Pv.zero,e0];congr 1))
   ·go_upto_region 48 with fail
    obtain⟨yz,hyy,s0⟩:=s.hide;rw[←hyy];clear s hyy;have s:=s0;clear s0;refine wp_region_list ?_;refine qaj s.blk rfl _ rfl rfl ?_;refine qag (q:=_) (old:=Pk.zero) s.res rfl rfl ?_;intro y9 B9 g9;apply ‹∀(a:Act) (w:World),Code.wp Tryz.prog Code.ret _ a w→_›
    refine wp_ret ?_;show bodyPost Tryz.prog Tryz.f88 (fun e w'=>SRet w0 w' e (sBody x l)) .ret _ _;exact qam rfl rfl B9 rfl (s.done g9 (by unfold sBody;rw[if_neg (by omega),if_neg (by omega),if_neg (by omega),if_pos (by omega)];simp only[h1];rw[if_neg (by omega),if_neg (by omega),if_neg (by omega)];unfold pv;simp only[pkK,Pk.zero,Pv.zero,e0];congr 1))
theorem body_no (w0:World) (x:Nat) (hx:x<256) (k:Int) (hk:(x:Int) / 16=k) (t1:(k==1)=false) (t3:(k==3)=false) (t9:(k==9)=false) (t8:(k==8)=false) (t10:(k==10)=false) (k1:k≠1) (k3:k≠3) (k8:k≠8) (k9:k≠9) (k10:k≠10) (t2:(k==2)=false) (k12:¬k<12) (ao:Option Addr) (n cap:Nat) (l:List UInt8) (hr:RdIn w0 ao n cap l) (hn:n≤1048576) :
  Calls Tryz.prog 88 #[.int .i64 x,.slice ao n cap] w0 fun e w'=>SRet w0 w' e (sBody x l):=by
 have HR:Hid (RdIn w0 ao n cap l):=hr;have hl:=hr.1.1;clear hr;have A1:Blk ((w0.alloc (.cells Pk.zero.cells 28)).alloc (.cells (pkK k).cells 28)) w0.heap.size Pk.zero:=heap_alloc2_old _ _ _;have A2:Blk ((w0.alloc (.cells Pk.zero.cells 28)).alloc (.cells (pkK k).cells 28)) (w0.alloc (.cells Pk.zero.cells 28)).heap.size (pkK k):=heap_alloc_new _ _;rw[World.size_alloc] at A2;have s:=Ct.start (w0:=w0) k A2 A1 (bel (qac _ _) (qac _ _)) (by omega) (Nat.le_refl _) (by omega);clear A1 A2;go_enter Tryz.func88,Tryz.ntmps88
 go_upto_region 2 with (first | refine qaz (p:=pkK k) rfl rfl ?_ | refine al_pk ?_ | refine bu_pk (pkK k) (by kernel_rfl) ?_ | fail)
 simp only[World.size_alloc];generalize (w0.alloc (.cells Pk.zero.cells 28)).alloc (.cells (pkK k).cells 28)=y0 at s ⊢;generalize w0.heap.size+1=b at *;generalize hrr:w0.heap.size=r at s ⊢;have c0:=(s.blk.cell 0).trans (Pk.c0 _);change _=some (Value.int .i64 k) at c0;have k2:k≠2:=by simpa using t2
 go_wp2_with fail
 go_loopw [6] (fun v wz=>v=.int .i64 0∧wz=y0) (fun _ _=>0)
 case atStart=>exact⟨rfl,rfl⟩
 case round=>
  obtain⟨rfl,rfl⟩:=hrel
  by_cases hat:0<n
  ·go_upto_region 48 with fail
   obtain⟨yz,hyy,s0⟩:=s.hide;rw[←hyy];clear s hyy;have s:=s0;clear s0;refine wp_region_list ?_;refine qaj s.blk rfl _ rfl rfl ?_;refine qag (q:=_) (old:=Pk.zero) s.res rfl rfl ?_;intro y9 B9 g9;apply ‹∀(a:Act) (w:World),Code.wp Tryz.prog Code.ret _ a w→_›
   refine wp_ret ?_;show bodyPost Tryz.prog Tryz.f88 (fun e w'=>SRet w0 w' e (sBody x l)) .ret _ _;exact qam rfl rfl B9 rfl (s.done g9 (by unfold sBody;rw[if_neg (by omega),if_neg (by omega),if_neg (by omega),if_neg (by omega)];unfold pv;simp only[pkK,Pk.zero,Pv.zero,e0];congr 1))
  ·go_upto_region 48 with fail
   obtain⟨yz,hyy,s0⟩:=s.hide;rw[←hyy];clear s hyy;have s:=s0;clear s0;refine wp_region_list ?_;refine qaj s.blk rfl _ rfl rfl ?_;refine qag (q:=_) (old:=Pk.zero) s.res rfl rfl ?_;intro y9 B9 g9;apply ‹∀(a:Act) (w:World),Code.wp Tryz.prog Code.ret _ a w→_›
   refine wp_ret ?_;show bodyPost Tryz.prog Tryz.f88 (fun e w'=>SRet w0 w' e (sBody x l)) .ret _ _;exact qam rfl rfl B9 rfl (s.done g9 (by unfold sBody;rw[if_neg (by omega),if_neg (by omega),if_neg (by omega),if_neg (by omega)];unfold pv;simp only[pkK,Pk.zero,Pv.zero,e0];congr 1))

def rowR (Ds:List Nat) (A g:Nat) (row:Option Nat) (i:Nat):Option Nat:=if Ds.contains i then some g else if i=A then row else none
theorem rowR_no {Ds:List Nat} {A g i:Nat} {row:Option Nat} (h:i≠A):rowR Ds A g row i=none∨rowR Ds A g row i=some g:=by
 unfold rowR
 split
 ·exact .inr rfl
 ·first
  |exact .inl rfl
  |(rw[if_neg h];exact .inl rfl)
theorem rowR_is {Ds:List Nat} {A g i k:Nat} {row:Option Nat} (h:rowR Ds A g row i=some k):k=g∨row=some k:=by
 unfold rowR at h
 split at h
 ·exact .inl (by cases h;rfl)
 ·split at h
  ·exact .inr h
  ·cases h
section
variable {m : Nat} {w0 y y' : World} {g r b : Nat} {ao : Option Addr} {n cap : Nat} {l : List UInt8} {p q : Pk} {d dq : Pd}
def RR (Ds:List Nat) (A g:Nat) (row:Option Nat) (e:TypeId) (ao:Option Addr) (n cap:Nat) (l:List UInt8) (i:Nat) (u u':World):Prop :=
 u.grownBy u' (rowR Ds A g row i)∧(Cur u g ao n cap l→Cur u' g ao n cap l)∧(i=A→∀k,row=some k→w_ty u k e)
where w_ty (u:World) (k:Nat) (e:TypeId):Prop:=∃cur,u.heap[k]? = some (.cells cur e)
def HH (A N:Nat) (S X:World→Prop) (k:Nat) (u:World):Prop:=if k≤A then S u else if k=N then X u else True
theorem sH_gen {Ds:List Nat} {A N:Nat} {row:Option Nat} {e:TypeId} {ops:Array Oper} {len:Nat} (hA:A<N) (hreach:∀k,k<A→reach ops len A k=true) (Y:World)
  (hxr:∀k,row=some k→w0.heap.size≤k) (he:e≠28) (hq:∀(u:World) (k:Nat),row=some k→RR.w_ty u k e→POwn u w0.heap.size q dq→¬q.has k)
  (i k:Nat) (u u':World) (hr:reach ops len i k=false) (hne:k≠i) (hR:RR Ds A g row e ao n cap l i u u')
  (hH:HH A N (fun u=>St m w0 u g r b ao n cap l p d∧Y.heap.size≤u.heap.size) (fun u=>Sx w0 u g r b ao n cap l p q dq) k u) :
  HH A N (fun u=>St m w0 u g r b ao n cap l p d∧Y.heap.size≤u.heap.size) (fun u=>Sx w0 u g r b ao n cap l p q dq) k u':=by
 unfold HH at *;obtain⟨h1,h2,h3⟩:=hR
 by_cases hkA:k≤A
 ·rw[if_pos hkA] at hH ⊢;have hi:i≠A:=by
   rintro rfl;have:=hreach k (by omega);rw[hr] at this;cases this
  exact⟨hH.1.any h1 (rowR_no hi) (h2 hH.1.cur),Nat.le_trans hH.2 h1.size⟩
 ·rw[if_neg hkA] at hH ⊢
  split
  ·rename_i hk
   rw[if_pos hk] at hH
   by_cases hi:i=A
   ·refine hH.move h1 (h2 hH.cur) (fun z hz=>?_)
    rcases rowR_is hz with rfl | hrow
    ·have a1:=hH.lt;have a2:=hH.bn;have a3:=hH.rn;exact⟨by omega,by omega,fun hk=>by have:=(hH.own.lt hk).1;omega,.inl rfl⟩
    ·have ht:=h3 hi z hrow;have ht':=ht;obtain⟨cur,hc⟩:=ht;exact⟨ty_ne hc hH.blk he,ty_ne hc hH.res he,hq u z hrow ht' hH.own,.inr (hxr z hrow)⟩
   ·rcases rowR_no (Ds:=Ds) (g:=g) (row:=row) hi with h | h
    ·rw[h] at h1;exact hH.draw (qow h1) (h2 hH.cur)
    ·rw[h] at h1;exact hH.draw h1 (h2 hH.cur)
  ·trivial
theorem qoc {Ds:List Nat} {A:Nat} {row:Option Nat} {e:TypeId} {i blk:Nat} {u u' Y:World} {o:Obj} (hR:RR Ds A g row e ao n cap l i u u') (hg:g<Y.heap.size) (hrow:∀k,row=some k→k<Y.heap.size) (hb:Y.heap.size≤blk) (h:u.heap[blk]? = some o):u'.heap[blk]? = some o:=by
 refine (hR.1.block blk (Array.getElem?_eq_some_iff.1 h).1 (fun e=>?_)).trans h
 rcases rowR_is e.symm with h1 | h1
 ·omega
 ·have:=hrow _ h1;omega
theorem qre {u:World} {B:Nat} {k:Nat} {e:TypeId} (ho:POwn u B q d) (ht:RR.w_ty u k e) (h5:e≠5) (hw:e≠88∨q.wan.a=none) (hs:e≠9∨q.nam.a=none) (hi:e≠3∨q.cds.a=none):¬q.has k:=by
 rintro ⟨a,ha,rfl⟩;obtain⟨cur,hc⟩:=ht;simp only[List.mem_cons,List.not_mem_nil,or_false] at ha
 rcases ha with ha | ha | ha | ha | ha | ha
 ·have hh:=ho.bod.2;rw[←ha] at hh;obtain⟨_,h1⟩:=qbl hh;exact ty_ne hc h1 h5 rfl
 ·have hh:=ho.wb.2;rw[←ha] at hh;obtain⟨_,h1⟩:=qbl hh;exact ty_ne hc h1 h5 rfl
 ·have hh:=ho.pa.2;rw[←ha] at hh;obtain⟨_,h1⟩:=qbl hh;exact ty_ne hc h1 h5 rfl
 ·rcases hw with hw | hw
  ·have hh:=ho.wan.2;rw[←ha] at hh;obtain⟨_,h1⟩:=qbl hh;exact ty_ne hc h1 hw rfl
  ·rw[hw] at ha;cases ha
 ·rcases hs with hw | hw
  ·have hh:=ho.nam.2;rw[←ha] at hh;obtain⟨_,h1⟩:=qbl hh;exact ty_ne hc h1 hw rfl
  ·rw[hw] at ha;cases ha
 ·rcases hi with hw | hw
  ·have hh:=ho.cds.2;rw[←ha] at hh;obtain⟨_,h1⟩:=qbl hh;exact ty_ne hc h1 hw rfl
  ·rw[hw] at ha;cases ha
theorem qgv {u:World} {B:Nat} {e:TypeId} {s:Nat} {a:Option Addr} {k c x:Nat} {xs:List Value} (h:u.ownsRow B e s (.slice a k c) x xs):∀z,(Value.slice a k c).ownBlock=some z→RR.w_ty u z e∧B≤z∧z<u.heap.size:=by
 intro z hz;have hlt:=h.lt z hz;cases a with
 |none=>simp[Value.ownBlock] at hz
 |some q=>
  obtain rfl:q.block=z:=by simpa[Value.ownBlock] using hz
  exact⟨qbl h,hlt⟩
end
