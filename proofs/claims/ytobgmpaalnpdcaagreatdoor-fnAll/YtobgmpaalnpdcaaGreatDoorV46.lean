/- Lemmas. -/
import Derived.Test.YtobgmpaalnpdcaaGreatDoorV45
set_option linter.unusedVariables false
set_option linter.unusedSimpArgs false
set_option maxRecDepth 100000
set_option maxHeartbeats 20000000
namespace Go.Proofs.YtobgmpaalnpdcaaGreatDoor
open Go.RowKit

theorem qgrown_own {w u u':World} {g B:Nat} {a:Option Addr} {m c:Nat} {ps:List Pk} (h:w.grownBy u (some g)) (ho:POwnR u B a m c ps) (hB:w.heap.size≤B) (hg:u.grownBy u' (Value.slice a m c).ownBlock):w.grownBy u' (some g):=by
 cases a with
 |none=>exact⟨hg.os.trans h.os,hg.tape.trans h.tape,hg.output.trans h.output,Nat.le_trans h.size hg.size,fun q hq hne=>(hg.block q (Nat.lt_of_lt_of_le hq h.size) (by simp[Value.ownBlock])).trans (h.block q hq hne)⟩
 |some d=>exact qbx h (by simpa[Value.ownBlock] using hg) (Nat.le_trans hB (ho.lt rfl).1)
theorem Cur.qown {w w':World} {g B:Nat} {ao:Option Addr} {n cap:Nat} {l:List UInt8} {a:Option Addr} {m c:Nat} {ps:List Pk} (h:Cur w g ao n cap l) (ho:POwnR w B a m c ps) (hB:g<B) (hg:w.grownBy w' (Value.slice a m c).ownBlock):Cur w' g ao n cap l :=
 h.keep hg fun k e=>by
  cases a with
  |none=>simp[Value.ownBlock] at e
  |some d=>
   obtain rfl:d.block=k:=by simpa[Value.ownBlock] using e
   have:=(ho.lt rfl).1;omega
theorem draw_sDrawWriteAll (ao:Option Addr) (n cap:Nat) (l:List UInt8) (w:World) (hr:RdIn w ao n cap l) (hn:n≤1048576) :
  Calls Tryz.prog 29 #[.slice ao n cap] w fun e w'=>∃(a:Option Addr) (c:Nat) (q:PL),e=.returned (.slice a (List.length q) c)∧q.length≤5∧QOwn w' w.heap.size a q.length c q∧(∀x∈q,Pgd 256 x.1 x.2)∧Below w.heap.size w w':=by
 go_enter Tryz.func29,Tryz.ntmps29;go_wp2_with fail
 refine (qjc ao n cap l _ hr hn).mono ?_;rintro e w0 ⟨rfl,hc0,hb0⟩;have hz0:w.heap.size<w0.heap.size:=hc0.lt;go_wp2_with fail
 refine (qag w.heap.size ao n cap l 6 _ (hc0.alloc _) hn (by omega) (by omega)).mono ?_;rintro e w1 ⟨x,hx0,hx1,rfl,hc1,hg1⟩;have hQ1:QOwn w1 w0.heap.size (some ⟨w0.heap.size,0,none⟩) 0 0 []:=(qown_lit0 w0).cur hz0 hg1;replace hg1:=qad (World.grownBy_alloc w0 (.cells #[] 28) (some w.heap.size)) hg1;obtain⟨X,rfl⟩:=Int.eq_ofNat_of_zero_le hx0;go_wp2
 go_loopw [4,5] (fun v i wr=>∃(j:Nat) (a:Option Addr) (c:Nat) (q:PL),i=.int .i64 j∧v=.slice a (List.length q) c∧q.length+j≤5∧QOwn wr w0.heap.size a q.length c q∧(∀x∈q,Pgd 256 x.1 x.2)∧Cur wr w.heap.size ao n cap l∧w0.grownBy wr (some w.heap.size)) (fun _ i _=>(intOf i).toNat)
 case atStart=>exact⟨X,_,_,[],rfl,rfl,by simp;omega,hQ1,fun x h=>(by cases h),hc1,hg1⟩
 case round=>
  clear hQ1 hc1 hg1;obtain⟨j,a,c,q,rfl,rfl,hj,hQ,hG,hc,hg⟩:=hrel;have HG:Hid (∀x∈q,Pgd 256 x.1 x.2):=hG;clear hG
  by_cases hlt:0<j
  ·have hlt':(0:Int)<j:=by omega
   go_wp2_with fail
   refine (qqa w.heap.size ao n cap l _ hc hn).mono ?_;rintro e w2 ⟨p,d,rfl,hp,hd,hc2,hg2⟩;have HS:Hid (∀x∈q,∀k,x.1.has k→¬p.has k):=fun x hx k h1 h2=>by
    have h3:=((hQ.own x hx).lt h1).2;have h4:=(hp.lt h2).1;omega
   have hsz:=hg.size;have hQ2:=hQ.cur hz0 hg2;replace hg2:=qad hg hg2;have b3:=bel_new w2 (.cells p.cells 28);have hQ3:=hQ2.below b3;have hp3:=(hp.mono hsz).below b3;have hc3:=hc2.below b3;have hg3:=qbg hg2 b3;have hs3:=hg3.size;have HD:Hid (∀x∈q++[(p,d)],Pgd 256 x.1 x.2):=fun x hx=>by
    rw[List.mem_append] at hx
    rcases hx with hx | hx
    ·exact HG.out x hx
    ·obtain rfl:x=(p,d):=by simpa using hx
     exact hd
   clear hQ hQ2 hg hp hd hc2 hg2 b3 HG;go_wp2_with (first | refine bs_pk (p:=p) rfl _ rfl rfl ?_ | (at_builtin;refine w_qapp _ rfl _ _ rfl w0.heap.size _ _ _ q rfl hQ3 _ p d rfl (heap_alloc_new _ _) hp3 HS.out (by omega) hs3 ?_) | fail)
   intro a5 c5 w5 hQ5 hg5;have hc5:=hc3.qown hQ3.row hz0 hg5;have hg6:=qgrown_own hg3 hQ3.row (Nat.le_refl _) hg5;clear hg5 hQ3 hp3 hc3 hg3 HS;go_wp2;go_roundw
   case rel=>exact⟨j-1,_,_,q++[(p,d)],by go_num,by rw[List.length_append];rfl,by rw[List.length_append];simp;omega,by rw[List.length_append];exact hQ5,HD.out,hc5,hg6⟩
   case measure=>simp[intOf];omega
  ·have hlt':¬(0:Int)<j:=by omega
   go_wp2;go_ret;exact⟨a,c,q,rfl,by omega,hQ.mono (Nat.le_of_lt hz0),fun a b h=>HG.out _ h,qih hb0 hg (Nat.le_of_lt hz0)⟩
theorem all_sl6All (g:Nat) (ao:Option Addr) (n cap:Nat) (l:List UInt8) (w:World) (hc:Cur w g ao n cap l) (hn:n≤1048576) :
  Calls Tryz.prog 92 #[.pointer (some ⟨g,0,none⟩)] w fun e w'=>∃a m c x,m≤2000∧e=.returned (.slice a m c)∧Own w' w.heap.size a m c x∧Cur w' g ao n cap l∧w.grownBy w' (some g):=by
 have hlt:=hc.lt;go_enter Tryz.func92,Tryz.ntmps92;go_wp2_with fail
 refine (qag g ao n cap l 5 _ (hc.alloc _) hn (by omega) (by omega)).mono ?_;rintro e w1 ⟨x,hx0,hx1,rfl,hc1,hg1⟩;have ho1:=(own_lit0 w).cur hlt hg1;replace hg1:=qad (World.grownBy_alloc w (.cells #[] 5) (some g)) hg1;obtain⟨X,rfl⟩:=Int.eq_ofNat_of_zero_le hx0;go_wp2
 go_loopw [3,4] (fun v i wr=>∃(j:Nat) (a:Option Addr) (m c:Nat) (x:List UInt8),i=.int .i64 j∧v=.slice a m c∧j≤4∧m+345*j≤1380∧Own wr w.heap.size a m c x∧Cur wr g ao n cap l∧w.grownBy wr (some g)) (fun _ i _=>(intOf i).toNat)
 case atStart=>exact⟨X,_,0,_,[],rfl,rfl,by omega,by omega,ho1,hc1,hg1⟩
 case round=>
  clear ho1 hc1 hg1;obtain⟨j,a,m,c,x,rfl,rfl,hj,hm,ho,hc,hg⟩:=hrel
  by_cases h0:0<j
  ·have h0':(0:Int)<j:=by omega
   go_wp2_with fail
   refine (qag g ao n cap l 14 _ hc hn (by omega) (by omega)).mono ?_;rintro e w2 ⟨k,hk0,hk1,rfl,hc2,hg2⟩;have ho2:=ho.cur hlt hg2;replace hg2:=qad hg hg2;clear ho hg;go_wp2_with fail
   refine (qjp g ao n cap l (1+k) _ hc2 hn (by omega) (by omega)).mono ?_;rintro e w3 ⟨p,d,hok,rfl,hp,hd,hc3,hg3⟩;have ho3:=ho2.cur hlt hg3;replace hg3:=qad hg2 hg3;clear ho2 hg2 hc2;go_wp2_with fail
   refine (qgh p d _ hp.rd hd.sz (Pgd.ln (hd.mono (by omega)))).mono ?_;rintro e w4 ⟨a4,n4,c4,rfl,ho4,hb4⟩;have hlen:=bytes_le (pv p d);rw[ho4.1] at hlen;generalize (pv p d).bytes=y at ho4;have ho5:=ho3.below hb4;have hc5:=hc3.below hb4;have hg5:=qbg hg3 hb4;have hr4:=ho4.rd;clear ho4 ho3 hc3 hg3 hb4 hp hd hok;go_wp2_with (at_builtin;refine w_app _ rfl _ _ rfl w.heap.size _ _ _ x rfl ho5 _ _ _ y rfl hr4 (by omega) hg5.size ?_)
   intro a6 c6 w6 ho6 hg6;have hc6:=hc5.own ho5 hlt hg6;have hG6:=qcm hg5 ho5 (Nat.le_refl _) hg6;clear hg6 ho5 hr4 hc5 hg5;go_wp2;go_roundw
   case rel=>exact⟨j-1,_,m+n4,c6,_,by go_num,rfl,by omega,by omega,ho6,hc6,hG6⟩
   case measure=>simp[intOf];omega
  ·have h0':¬(0:Int)<j:=by omega
   go_wp2_with fail
   refine (qax g ao n cap l 2 _ hc hn (by omega) (by omega)).mono ?_;rintro e w2 ⟨b,rfl,hc2,hg2⟩;have ho2:=ho.cur hlt hg2;replace hg2:=qad hg hg2;clear ho hg;cases b
   ·go_wp2;go_ret;exact⟨a,m,c,x,by omega,rfl,ho2,hc2,hg2⟩
   ·go_wp2_with fail
    refine (qjn g ao n cap l _ hc2 hn).mono ?_;rintro e w4 ⟨a4,m4,c4,x4,hm4,rfl,ho4,hc4,hg4⟩;have ho5:=ho2.cur hlt hg4;replace hg4:=qad hg2 hg4;have hr4:=ho4.rd;clear ho2 hg2 hc2 ho4;go_wp2_with (at_builtin;refine w_app _ rfl _ _ rfl w.heap.size _ _ _ x rfl ho5 _ _ _ x4 rfl hr4 (by omega) hg4.size ?_)
    intro a6 c6 w6 ho6 hg6;have hc6:=hc4.own ho5 hlt hg6;have hG6:=qcm hg4 ho5 (Nat.le_refl _) hg6;clear hg6 ho5 hr4 hc4 hg4;go_wp2;go_ret;exact⟨a6,m+m4,c6,_,by omega,rfl,ho6,hc6,hG6⟩
theorem draw_sDrawReadAll (ao:Option Addr) (n cap:Nat) (l:List UInt8) (w:World) (hr:RdIn w ao n cap l) (hn:n≤1048576) :
  Calls Tryz.prog 32 #[.slice ao n cap] w fun e w'=>∃a m c x,m≤2000∧e=.returned (.slice a m c)∧Own w' w.heap.size a m c x∧Below w.heap.size w w':=by
 go_enter Tryz.func32,Tryz.ntmps32;go_wp2_with fail
 refine (qjc ao n cap l _ hr hn).mono ?_;rintro e w0 ⟨rfl,hc0,hb0⟩;have hz0:w.heap.size<w0.heap.size:=hc0.lt;go_wp2_with fail
 refine (all_sl6All w.heap.size ao n cap l _ hc0 hn).mono ?_;rintro e w1 ⟨a,m,c,x,hm,rfl,ho,hc,hg⟩;go_wp2;go_ret;exact⟨a,m,c,x,hm,rfl,ho.mono (Nat.le_of_lt hz0),qih hb0 hg (Nat.le_of_lt hz0)⟩
