/- Lemmas. -/
import Derived.Lib.OthersKept
import Derived.Lib.IndexAny
import Derived.Deep.Quiet
import Derived.WalkMore
import Derived.Test.YtpjkbgdkligpdaaGreatW02
set_option linter.unusedVariables false
set_option linter.unusedSimpArgs false
set_option maxRecDepth 100000
set_option maxHeartbeats 20000000
namespace Go.Proofs.YtpjkbgdkligpdaaGreat
open Go.RowKit

theorem v116:(Tryz.prog.info? 145).map (fun i=>(i.zero,i.size))=some (some (.agg (Array.replicate 256 (.bool false))),256):=by kernel_rfl

theorem ir_err (w:World) :
  Calls Tryz.prog 107 #[.string ⟨#[43,35]⟩,.int .i32 65533] w fun e w'=>e=.returned (.int .i64 (-1))∧Below w.heap.size w w':=by
 have hn0:∀ty,(Instr.next (.pointer (some ⟨w.heap.size,0,none⟩)) true ty).run Tryz.prog (w.iter ⟨#[43,35]⟩ 0)=.ok (.tuple #[.bool true,.int .i64 0,.int .i32 43]) (w.iter ⟨#[43,35]⟩ 1):=fun ty=>run_next_ascii w ⟨#[43,35]⟩ 0 ty (by decide) (by decide)
 have hn1:∀ty,(Instr.next (.pointer (some ⟨w.heap.size,0,none⟩)) true ty).run Tryz.prog (w.iter ⟨#[43,35]⟩ 1)=.ok (.tuple #[.bool true,.int .i64 1,.int .i32 35]) (w.iter ⟨#[43,35]⟩ 2):=fun ty=>run_next_ascii w ⟨#[43,35]⟩ 1 ty (by decide) (by decide)
 have hn2:∀ty,(Instr.next (.pointer (some ⟨w.heap.size,0,none⟩)) true ty).run Tryz.prog (w.iter ⟨#[43,35]⟩ 2)=_:=fun ty=>run_next_end w ⟨#[43,35]⟩ 2 ty (by decide)
 go_enter Tryz.func107,Tryz.ntmps107;go_wp2;refine wp_loop_rounds 3 ?_;rw[rounds_succ];go_wp2;rw[rounds_succ];go_wp2;rw[rounds_succ];go_wp2;go_ret;exact⟨rfl,qed _ _ _⟩

theorem qmo {l:List UInt8} {r k:Nat} (h:runeL l=some (r,k)) (hk:2≤k):128≤r∧Lib.validRune (r:Int)=true∧∀i,i<k→128≤bt l i:=by
 unfold runeL at h
 split at h
 ·contradiction
 unfold rune4 at h;have q:Lib.validRune (r:Int)=decide ((0≤(r:Int)∧(r:Int)<0xD800)∨(0xDFFF<(r:Int)∧(r:Int)≤0x10FFFF)):=rfl;rw[q,decide_eq_true_eq]
 repeat' split at h
 all_goals first | (simp only[reduceCtorEq] at h) | (simp only[Option.some.injEq,Prod.mk.injEq] at h)
 ·omega
 ·refine⟨by omega,by omega,fun i hi=>?_⟩
  match i,hi with
  |0,_=>omega
  |1,_=>omega
  |i+2,hi=>omega
 ·refine⟨by omega,by omega,fun i hi=>?_⟩
  match i,hi with
  |0,_=>omega
  |1,_=>omega
  |2,_=>omega
  |i+3,hi=>omega
 ·refine⟨by omega,by omega,fun i hi=>?_⟩
  match i,hi with
  |0,_=>omega
  |1,_=>omega
  |2,_=>omega
  |3,_=>omega
  |i+4,hi=>omega

theorem ir_long (C:ByteArray) (hC:C.size=2) (r:Nat) (w:World) (h128:128≤r) (hne:r≠65533) (hv:Lib.validRune (r:Int)=true) (k:Nat) (hR:(Utf8.encode (r:Int)).size=k) (hk:3≤k) (hk4:k≤4) :
  Calls Tryz.prog 107 #[.string C,.int .i32 r] w fun e w'=>e=.returned (.int .i64 (-1))∧Below w.heap.size w w':=by
 have h1:¬(r:Int)<128:=by omega
 have h2:((r:Int)==65533)=false:=by simp;omega
 obtain⟨R,hRR⟩ : ∃R,Utf8.encode (r:Int)=R:=⟨_,rfl⟩;rw[hRR] at hR;have hv':Calls Tryz.prog 116 #[.int .i32 r] w fun e w'=>e=.returned (.bool true)∧w'=w:=by
  have:=Any.utf8_ValidRune Tryz.lays119 (r:Int) w;rw[hv] at this;exact this
 rcases (show k=3∨k=4 by omega) with rfl | rfl
 ·go_enter Tryz.func107,Tryz.ntmps107;go_wp2_with (go_at_call 116;refine hv'.mono ?_;rintro e w' ⟨rfl,rfl⟩)
  go_step3
  go_wp2
  go_loop [9] (fun i=>i=.int .i64 2) (fun _=>0)
  case atStart=>rfl
  case round=>
   subst hrel;go_wp2;go_ret;exact⟨rfl,Below.refl _ _⟩
 ·go_enter Tryz.func107,Tryz.ntmps107;go_wp2_with (go_at_call 116;refine hv'.mono ?_;rintro e w' ⟨rfl,rfl⟩)
  go_step3
  go_wp2
  go_loop [9] (fun i=>i=.int .i64 3) (fun _=>0)
  case atStart=>rfl
  case round=>
   subst hrel;go_wp2;go_ret;exact⟨rfl,Below.refl _ _⟩


theorem ir_two (C:ByteArray) (hC:C.size=2) (r:Nat) (w:World) (h128:128≤r) (hne:r≠65533) (hv:Lib.validRune (r:Int)=true) (R:ByteArray) (hRR:Utf8.encode (r:Int)=R) (hR:R.size=2) (hb:(((C[1]'(by omega)).toNat:Int) != ((R[1]'(by omega)).toNat:Int))=true) :
  Calls Tryz.prog 107 #[.string C,.int .i32 r] w fun e w'=>e=.returned (.int .i64 (-1))∧Below w.heap.size w w':=by
 have h1:¬(r:Int)<128:=by omega
 have h2:((r:Int)==65533)=false:=by simp;omega
 have hv':Calls Tryz.prog 116 #[.int .i32 r] w fun e w'=>e=.returned (.bool true)∧w'=w:=by
  have:=Any.utf8_ValidRune Tryz.lays119 (r:Int) w;rw[hv] at this;exact this
 have hib:∀(c:Int) (w:World),Calls Tryz.prog 115 #[.string ByteArray.empty,.int .u8 c] w fun e w'=>e=.returned (.int .i64 (-1))∧w'=w:=fun c w=>Any.strings_IndexByte Tryz.lays137 ByteArray.empty c w
 have hw2:IntKind.i64.wrap 2=2:=by decide
 have hz1:(1:Int)<(C.size:Int):=by omega
 have hz2:(1:Int)<(R.size:Int):=by omega
 go_enter Tryz.func107,Tryz.ntmps107;go_wp2_with (go_at_call 116;refine hv'.mono ?_;rintro e w' ⟨rfl,rfl⟩)
 go_step3
 go_wp2
 go_loop [9] (fun i=>i=.int .i64 1) (fun _=>0)
 case atStart=>rfl
 case round=>
  subst hrel;go_wp2
  go_step3
  go_wp2_with fail
  go_quiet (fail)
  go_wp2
  go_quiet (first | (go_at_call 115;exact (hib _ _).mono fun e w'' h=>⟨h.1,_,h.2⟩))
  go_wp2;rw[Exit.noGoto_ret];go_wp2;rw[Exit.noGoto_ret];go_wp2;go_ret;exact⟨rfl,below_drewN (Below.refl _ _) _⟩


theorem has_false (t:List UInt8) (c:UInt8) (h:∀i,i<t.length→t.getD i 0≠c):has t c=false:=by
 induction t with
 |nil=>rfl
 |cons a r ih=>
  rw[qhf,ih (fun i hi=>by have:=h (i+1) (by simp;omega);simpa using this)];have:=h 0 (by simp);simp at this;simp;exact fun e=>this e.symm

theorem drop_cons' (l:List UInt8) (k:Nat) (hk:k<l.length):l.drop k=l.getD k 0 :: l.drop (k+1):=by
 rw[List.drop_eq_getElem_cons hk];simp[List.getD_eq_getElem?_getD,List.getElem?_eq_getElem hk]
theorem qmv (l:List UInt8) (k:Nat) (c:UInt8) (hk:k<l.length):has (l.drop k) c=(c==l.getD k 0 || has (l.drop (k+1)) c):=by
 rw[drop_cons' l k hk,qhf]

theorem qln (l:List UInt8) (p k:Nat) (hk:p+k≤l.length) (h:∀i,i<k→bt (l.drop p) i≠43∧bt (l.drop p) i≠35):wildB (l.drop p)=wildB (l.drop (p+k)):=by
 have e:l.drop p=(l.drop p).take k++l.drop (p+k):=by
  rw[←List.drop_drop,List.take_append_drop]
 have hb:∀c:UInt8,(∀i,i<k→bt (l.drop p) i≠c.toNat)→has ((l.drop p).take k) c=false:=fun c hc=>has_false _ _ fun i hi e=>by
  have hi':i<k:=by rw[List.length_take] at hi;omega
  apply hc i hi'
  have e2:((l.drop p).take k).getD i 0=(l.drop p).getD i 0:=by
   simp only[List.getD_eq_getElem?_getD,List.getElem?_take,hi',if_true]
  unfold bt;rw[←e2,e]
 unfold wildB;rw[e,qmf,qmf,hb 43 (fun i hi=>(h i hi).1),hb 35 (fun i hi=>(h i hi).2)];simp

theorem any_wild:∀l:List UInt8,decide (0≤Lib.indexAny l [43,35])=wildB l
 |[]=>rfl
 |b :: l=>by
  have ih:=any_wild l;have hge:=Lib.indexAny_ge [43,35] l;rw[Lib.indexAny];unfold wildB at ih ⊢;rw[qhf,qhf]
  by_cases h1:b=43
  ·subst h1;simp
  ·by_cases h2:b=35
   ·subst h2;simp
   ·have hc:([43,35]:List UInt8).contains b=false:=by simp[h1,h2]
    have e1:((43:UInt8)==b)=false:=beq_eq_false_iff_ne.2 (fun e=>h1 e.symm);have e2:((35:UInt8)==b)=false:=beq_eq_false_iff_ne.2 (fun e=>h2 e.symm);rw[hc,e1,e2,Bool.false_or,Bool.false_or,←ih];simp only[Bool.false_eq_true,if_false]
    by_cases hm:Lib.indexAny l [43,35] = -1
    ·rw[hm];rfl
    ·have hm':(Lib.indexAny l [43,35]==-1)=false:=beq_eq_false_iff_ne.2 hm;rw[hm'];simp only[Bool.false_eq_true,if_false]
     congr 1
     rw[eq_iff_iff];constructor<;>intro _<;>omega

theorem any_loose:∀l:List UInt8,(Lib.indexAny l [43,35]==(0:Int))=qdc l
 |[]=>rfl
 |b :: l=>by
  have hge:=Lib.indexAny_ge [43,35] l;rw[Lib.indexAny]
  by_cases h1:b=43
  ·subst h1;simp[qdc]
  ·by_cases h2:b=35
   ·subst h2;simp[qdc]
   ·have hc:([43,35]:List UInt8).contains b=false:=by simp[h1,h2]
    have e1:qdc (b :: l)=false:=by simp[qdc,h1,h2]
    rw[hc,e1];simp only[Bool.false_eq_true,if_false]
    by_cases hm:Lib.indexAny l [43,35] = -1
    ·rw[hm];rfl
    ·have hm':(Lib.indexAny l [43,35]==-1)=false:=beq_eq_false_iff_ne.2 hm;rw[hm'];simp only[Bool.false_eq_true,if_false];exact beq_eq_false_iff_ne.2 (by omega)
theorem qna {l:List UInt8} (h:bt l 0≠43∧bt l 0≠35):qdc l=false:=by
 cases l with
 |nil=>rfl
 |cons c r=>
  have h1:c≠43:=fun e=>h.1 (by rw[e];rfl)
  have h2:c≠35:=fun e=>h.2 (by rw[e];rfl)
  simp[qdc,h1,h2]
theorem loose_yes {l:List UInt8} (hl:l.length≠0) (h:bt l 0=43∨bt l 0=35):qdc l=true:=by
 cases l with
 |nil=>exact absurd rfl hl
 |cons c r=>
  have hc:c=43∨c=35:=by
   rcases h with h | h
   ·exact .inl (UInt8.toNat_inj.1 h)
   ·exact .inr (UInt8.toNat_inj.1 h)
  rcases hc with rfl | rfl<;>rfl

theorem qge (s:ByteArray) (x:UInt8) (c:Int) (hc:c=(x.toNat:Int)) (w:World) (hs:s.size≤1048576) :
  Calls Tryz.prog 64 #[.string s,.int .u8 c] w fun e w'=>e=.returned (.bool (has s.data.toList x))∧w'=w:=by
 have H1:Hid (s.size=s.data.toList.length):=rfl;go_enter Tryz.func64,Tryz.ntmps64;go_wp2
 go_loop [5] (fun i=>∃k:Nat,i=.int .i64 k∧k≤s.size∧has s.data.toList x=has (s.data.toList.drop k) x) (fun i=>s.size-(intOf i).toNat)
 case atStart=>exact⟨0,rfl,Nat.zero_le _,rfl⟩
 case round=>
  obtain⟨k,rfl,hk,hh⟩:=hrel;have HH:Hid (has s.data.toList x=has (s.data.toList.drop k) x):=hh;clear hh
  by_cases hlt:k<s.size
  ·have hlt':(k:Int)<s.size:=by omega
   have hbt:=byte_at s k hlt;have hd:has (s.data.toList.drop k) x=(x==s[k]'hlt || has (s.data.toList.drop (k+1)) x):=by
    rw[qmv _ _ _ (by rw[←H1.out];exact hlt),hbt]
   have HD:Hid (has (s.data.toList.drop k) x=(x==s[k]'hlt || has (s.data.toList.drop (k+1)) x)):=hd;have hcmp:=byte_lit (s[k]'hlt) x c hc;clear hd hbt
   by_cases he:x=s[k]'hlt
   ·have HE:Hid ((x==s[k]'hlt)=true):=beq_iff_eq.2 he;rw[HE.out] at hcmp;clear he;go_wp2;go_ret;exact⟨qac (by rw[HH.out,HD.out,HE.out,Bool.true_or]),rfl⟩
   ·have HE:Hid ((x==s[k]'hlt)=false):=beq_eq_false_iff_ne.2 he;rw[HE.out] at hcmp;clear he;go_wp2
    go_round
    case rel=>exact⟨k+1,by go_num,by omega,by rw[HH.out,HD.out,HE.out,Bool.false_or]⟩
    case measure=>simp[intOf]<;>omega
  ·have hlt':¬(k:Int)<s.size:=by omega
   go_wp2;go_ret;refine⟨qac ?_,rfl⟩;rw[HH.out,List.drop_eq_nil_of_le (by rw[←H1.out];omega)];rfl

theorem ir_wide {l:List UInt8} {r k:Nat} (h:runeL l=some (r,k)) (hk:2≤k) (w:World) :
  Calls Tryz.prog 107 #[.string ⟨#[43,35]⟩,.int .i32 r] w fun e w'=>e=.returned (.int .i64 (-1))∧Below w.heap.size w w':=by
 have hw:=qcy h;obtain⟨h128,hv,hbs⟩:=qmo h hk
 by_cases he:r=65533
 ·have hr:(r:Int)=65533:=by omega
  rw[hr];exact ir_err w
 have hen:=qke h;have hsz:(Utf8.encode (r:Int)).size=k:=by
  have e1:∀b:ByteArray,b.size=b.data.toList.length:=fun _=>rfl
  rw[e1,hen,List.length_take];omega
 by_cases h2:k=2
 ·subst h2;refine ir_two ⟨#[43,35]⟩ rfl r w h128 he hv _ rfl hsz ?_;have h1:=hbs 1 (by omega);have e1:(Utf8.encode (r:Int))[1]'(by omega)=l.getD 1 0:=by
   have q:=at_data (Utf8.encode (r:Int)) 1 (by omega);rw[hen,take2 l hw.2.1] at q
   simpa using q.symm
  rw[e1];show ((35:Int) != ((bt l 1:Nat):Int))=true;simp only[bne_iff_ne,ne_eq];omega
 ·exact ir_long ⟨#[43,35]⟩ rfl r w h128 he hv k hsz (by omega) hw.2.2.1

theorem plus_has (x:UInt8):decide (0≤Lib.indexByte [43,35] x)=(x==43 || x==35):=by
 simp only[Lib.indexByte]
 by_cases h1:x=43
 ·subst h1;rfl
 ·by_cases h2:x=35
  ·subst h2;rfl
  ·have e1:((43:UInt8)==x)=false:=beq_eq_false_iff_ne.2 (fun e=>h1 e.symm);have e2:((35:UInt8)==x)=false:=beq_eq_false_iff_ne.2 (fun e=>h2 e.symm);have e3:(x==(43:UInt8))=false:=beq_eq_false_iff_ne.2 h1;have e4:(x==(35:UInt8))=false:=beq_eq_false_iff_ne.2 h2;simp[e1,e2,e3,e4]

theorem low_rune {l:List UInt8} {r:Nat} (h:runeL l=some (r,1)):r=bt l 0∧r<128:=by
 unfold runeL at h
 split at h
 ·contradiction
 unfold rune4 at h
 repeat' split at h
 all_goals first | (simp only[reduceCtorEq] at h) | (simp only[Option.some.injEq,Prod.mk.injEq] at h)
 all_goals omega

theorem no_rune {l:List UInt8} (hl:l.length≠0) (h:runeL l=none):128≤bt l 0:=by
 unfold runeL at h;rw[if_neg hl] at h;unfold rune4 at h
 repeat' split at h
 all_goals first | omega | (simp at h)

theorem any_short (s:ByteArray) (w:World) (h8:s.size≤8) :
  Calls Tryz.prog 103 #[.string s,.string ⟨#[43,35]⟩] w fun e w'=>∃q:Int,e=.returned (.int .i64 q)∧decide (0≤q)=wildB s.data.toList∧(q==0)=qdc s.data.toList∧Below w.heap.size w w':=by
 have hemp:(⟨#[43,35]⟩ : ByteArray).toList.isEmpty=false:=by decide +kernel
 have h8z:decide ((8:Int)<(s.size:Int))=false:=decide_eq_false (by omega);have H1:Hid (s.size=s.data.toList.length):=rfl;have hsu:Calls Tryz.prog 108 #[.int .i64 (s.size:Int)] w fun e w'=>e=.returned (.bool false)∧w'=w:=by
  have:=Any.strings_shouldUseASCIISet Tryz.lays226 (s.size:Int) w;rw[h8z] at this;exact this
 go_enter Tryz.func103,Tryz.ntmps103;go_wp2_with (go_at_call 108;refine hsu.mono ?_;rintro e w' ⟨rfl,hw⟩;rw[hw])
 go_loopw [9,10] (fun _ _ wr=>∃pos:Nat,wr.heap[w.heap.size]? = some (.stringIter s pos)∧pos≤s.size∧wildB s.data.toList=wildB (s.data.toList.drop pos)∧(pos≠0→qdc s.data.toList=false)∧Below w.heap.size w wr) (fun _ _ wr=>s.size-wr.iterPos w.heap.size)
 case atStart=>exact⟨0,World.iter_heap w s 0,Nat.zero_le _,rfl,fun h=>absurd rfl h,qed _ _ _⟩
 case round=>
  obtain⟨pos,hit,hpos,hW,hlo,hb⟩:=hrel;have HLO:Hid (pos≠0→qdc s.data.toList=false):=hlo;clear hlo;have HW:Hid (wildB s.data.toList=wildB (s.data.toList.drop pos)):=hW;have HIT:Hid (wr.heap[w.heap.size]? = some (.stringIter s pos)):=hit;clear hW hit
  by_cases hp:pos<s.size
  ·have hl:(s.data.toList.drop pos).length≠0:=by rw[List.length_drop,←H1.out];omega
   cases hr:runeL (s.data.toList.drop pos) with
   |none=>
    have hd:Utf8.decode s pos=(65533,1):=qkc hp hr;have hnx:∀ty,(Instr.next (.pointer (some ⟨w.heap.size,0,none⟩)) true ty).run Tryz.prog wr=.ok (.tuple #[.bool true,.int .i64 (pos:Nat),.int .i32 65533]) (wr.iterAt w.heap.size s (pos+1)):=fun ty=>by
     have:=Lib.run_next_any_at (P:=Tryz.prog) wr w.heap.size s pos ty HIT.out hp;rw[hd] at this;exact this
    have h0:=no_rune hl hr;have HLN:Hid (qdc s.data.toList=false):=by
     by_cases hz:pos=0
     ·subst hz;exact qna (by rw[List.drop_zero] at h0;omega)
     ·exact HLO.out hz
    have HF:Hid (wildB (s.data.toList.drop pos)=wildB (s.data.toList.drop (pos+1))):=qln _ _ _ (by rw[←H1.out];omega) (fun i hi=>by obtain rfl:i=0:=(by omega);omega);have HIT1:Hid ((wr.iterAt w.heap.size s (pos+1)).heap[w.heap.size]? = some (.stringIter s (pos+1))):=Lib.iterAt_heap wr w.heap.size s pos (pos+1) HIT.out;have hb1:=Lib.below_iterAt hb (k:=w.heap.size) (Nat.le_refl _) s (pos+1);clear hd hr hl h0 hb;generalize wr.iterAt w.heap.size s (pos+1)=W1 at *;go_wp2_with (go_at_call 107;refine (ir_err W1).mono ?_;rintro e w2 ⟨rfl,hb2⟩)
    go_roundw
    case rel=>
     refine⟨pos+1,?_,by omega,by rw[HW.out,HF.out],fun _=>HLN.out,hb1.trans (hb2.mono hb1.size)⟩;rw[hb2.block _ (Array.getElem?_eq_some_iff.1 HIT1.out).1];exact HIT1.out
    case measure=>
     have q:w2.heap[w.heap.size]? = some (.stringIter s (pos+1)):=by rw[hb2.block _ (Array.getElem?_eq_some_iff.1 HIT1.out).1];exact HIT1.out
     simp only[World.iterPos,q,HIT.out];omega
   |some rk=>
    obtain⟨r,k⟩:=rk;have hw:=qcy hr;rw[List.length_drop,←H1.out] at hw;have hd:Utf8.decode s pos=(r,k):=qkd hr;have hnx:∀ty,(Instr.next (.pointer (some ⟨w.heap.size,0,none⟩)) true ty).run Tryz.prog wr=.ok (.tuple #[.bool true,.int .i64 (pos:Nat),.int .i32 (r:Nat)]) (wr.iterAt w.heap.size s (pos+k)):=fun ty=>by
     have:=Lib.run_next_any_at (P:=Tryz.prog) wr w.heap.size s pos ty HIT.out hp;rw[hd] at this;exact this
    have HIT1:Hid ((wr.iterAt w.heap.size s (pos+k)).heap[w.heap.size]? = some (.stringIter s (pos+k))):=Lib.iterAt_heap wr w.heap.size s pos (pos+k) HIT.out;have hb1:=Lib.below_iterAt hb (k:=w.heap.size) (Nat.le_refl _) s (pos+k);clear hd hb;generalize wr.iterAt w.heap.size s (pos+k)=W1 at *
    by_cases hk2:2≤k
    ·have hbs:=(qmo hr hk2).2.2;have HLN:Hid (qdc s.data.toList=false):=by
      by_cases hz:pos=0
      ·subst hz;exact qna (by have:=hbs 0 (by omega);rw[List.drop_zero] at this;omega)
      ·exact HLO.out hz
     have HF:Hid (wildB (s.data.toList.drop pos)=wildB (s.data.toList.drop (pos+k))):=qln _ _ _ (by rw[←H1.out];omega) (fun i hi=>by have:=hbs i hi;omega);have c:=ir_wide hr hk2 W1;clear hr hl hbs;go_wp2_with (go_at_call 107;refine c.mono ?_;rintro e w2 ⟨rfl,hb2⟩)
     go_roundw
     case rel=>
      refine⟨pos+k,?_,by omega,by rw[HW.out,HF.out],fun _=>HLN.out,hb1.trans (hb2.mono hb1.size)⟩;rw[hb2.block _ (Array.getElem?_eq_some_iff.1 HIT1.out).1];exact HIT1.out
     case measure=>
      have q:w2.heap[w.heap.size]? = some (.stringIter s (pos+k)):=by rw[hb2.block _ (Array.getElem?_eq_some_iff.1 HIT1.out).1];exact HIT1.out
      simp only[World.iterPos,q,HIT.out];omega
    ·obtain rfl:k=1:=by omega
     obtain⟨hrb,hr128⟩:=low_rune hr;have hx:(r.toUInt8).toNat=r:=by simp;omega
     have hph:=plus_has r.toUInt8;have c:Calls Tryz.prog 107 #[.string ⟨#[43,35]⟩,.int .i32 r] W1 fun e w'=>e=.returned (.int .i64 (Lib.indexByte [43,35] r.toUInt8))∧w'=W1:=Any.strings_IndexRune_ascii Tryz.lays152 ⟨#[43,35]⟩ (r:Int) W1 (by omega) (by omega)
     obtain⟨q,hq⟩ : ∃q,Lib.indexByte [43,35] r.toUInt8=q:=⟨_,rfl⟩;rw[hq] at hph c;clear hr hq
     by_cases hwild:r=43∨r=35
     ·have hq0:0≤q:=by
       have:decide (0≤q)=true:=by rw[hph];rcases hwild with rfl | rfl<;>rfl
       simpa using this
      have HF:Hid (wildB (s.data.toList.drop pos)=true):=by
       have hlen:pos<s.data.toList.length:=by rw[←H1.out];exact hp
       unfold Hid wildB;rw[qmv _ _ 43 hlen,qmv _ _ 35 hlen];have e1:s.data.toList.getD pos 0=r.toUInt8:=by
        apply UInt8.toNat_inj.1
        rw[hx,hrb];simp[bt,List.getD_eq_getElem?_getD]
       rw[e1]
       rcases hwild with rfl | rfl
       ·simp
       ·simp
      have hq0':¬q<0:=by omega
      have HLY:Hid (((pos:Int)==0)=qdc s.data.toList):=by
       unfold Hid
       by_cases hz:pos=0
       ·subst hz;rw[List.drop_zero] at hrb hl;rw[loose_yes hl (by rw[←hrb];exact hwild)];rfl
       ·rw[HLO.out hz];exact beq_eq_false_iff_ne.2 (by omega)
      clear hwild hph hx hrb hl;go_wp2_with (go_at_call 107;refine c.mono ?_;rintro e w2 ⟨rfl,hw2⟩;rw[hw2])
      go_ret;exact⟨_,rfl,by rw[HW.out,HF.out];simp,HLY.out,hb1⟩
     ·have hq0:q<0:=by
       have h43:r.toUInt8≠43:=fun e=>hwild (.inl (by have:=congrArg UInt8.toNat e;rw[hx] at this;exact this))
       have h35:r.toUInt8≠35:=fun e=>hwild (.inr (by have:=congrArg UInt8.toNat e;rw[hx] at this;exact this))
       have:decide (0≤q)=false:=by
        rw[hph,beq_eq_false_iff_ne.2 h43,beq_eq_false_iff_ne.2 h35];rfl
       have:=of_decide_eq_false this;omega
      have HF:Hid (wildB (s.data.toList.drop pos)=wildB (s.data.toList.drop (pos+1))):=qln _ _ _ (by rw[←H1.out];omega) (fun i hi=>by obtain rfl:i=0:=(by omega);omega);have HLN:Hid (qdc s.data.toList=false):=by
       by_cases hz:pos=0
       ·subst hz;exact qna (by rw[List.drop_zero] at hrb;omega)
       ·exact HLO.out hz
      clear hwild hph hx hrb hl;go_wp2_with (go_at_call 107;refine c.mono ?_;rintro e w2 ⟨rfl,hw2⟩;rw[hw2])
      go_roundw
      case rel=>exact⟨pos+1,HIT1.out,by omega,by rw[HW.out,HF.out],fun _=>HLN.out,hb1⟩
      case measure=>
       simp only[World.iterPos,HIT1.out,HIT.out];omega
  ·have hnx:∀ty,(Instr.next (.pointer (some ⟨w.heap.size,0,none⟩)) true ty).run Tryz.prog wr=_:=fun ty=>Lib.run_next_end_at wr w.heap.size s pos ty HIT.out hp
   go_wp2;go_ret;refine⟨_,rfl,?_,?_,hb⟩
   ·rw[HW.out,List.drop_eq_nil_of_le (by rw[←H1.out];omega)];rfl
   ·by_cases hz:pos=0
    ·have:s.data.toList = []:=List.eq_nil_of_length_eq_zero (by rw[←H1.out];omega);rw[this];rfl
    ·rw[HLO.out hz];rfl

theorem any_long (s:ByteArray) (w:World) (h8:8<s.size) (hs:s.size≤1048576) :
  Calls Tryz.prog 103 #[.string s,.string ⟨#[43,35]⟩] w fun e w'=>∃q:Int,e=.returned (.int .i64 q)∧decide (0≤q)=wildB s.data.toList∧(q==0)=qdc s.data.toList∧Below w.heap.size w w':=by
 refine (Any.strings_IndexAny_long Tryz.lays153 (zero_of_info v116).1 (zero_of_info v116).2 s ⟨#[43,35]⟩ w (by decide) h8 (by omega) (by decide) ?_).mono fun e w' ⟨he,hw⟩=>⟨_,he,any_wild _,any_loose _,?_⟩
 ·intro j b hj
  match j,hj with
  |0,hj=>simp at hj;subst hj;decide
  |1,hj=>simp at hj;subst hj;decide
  |j+2,hj=>simp at hj
 ·rw[hw];exact ((Below.refl _ _).alloc (Nat.le_refl _) _).alloc (by simp) _

theorem any_all (s:ByteArray) (w:World) (hs:s.size≤1048576) :
  Calls Tryz.prog 103 #[.string s,.string ⟨#[43,35]⟩] w fun e w'=>∃q:Int,e=.returned (.int .i64 q)∧decide (0≤q)=wildB s.data.toList∧(q==0)=qdc s.data.toList∧Below w.heap.size w w':=by
 by_cases h8:s.size≤8
 ·exact any_short s w h8
 ·exact any_long s w (by omega) hs

theorem qhu (s:ByteArray) (w:World) (hs:s.size≤1048576) :
  Calls Tryz.prog 96 #[.string s] w fun e w'=>e=.returned (.bool (wildB s.data.toList))∧Below w.heap.size w w':=by
 have c:=any_all s w hs;have c2:Calls Tryz.prog 99 #[.string s,.string ⟨#[43,35]⟩] w fun e w'=>e=.returned (.bool (wildB s.data.toList))∧Below w.heap.size w w':=by
  go_enter Tryz.func99,Tryz.ntmps99;go_wp2_with fail
  refine c.mono ?_;rintro e w1 ⟨q,rfl,hq,_,hb⟩;have HQ:Hid (decide (0≤q)=wildB s.data.toList):=hq;clear hq;go_wp2;go_ret;exact⟨qac HQ.out,hb⟩
 go_enter Tryz.func96,Tryz.ntmps96;go_wp2_with fail
 refine c2.mono ?_;rintro e w1 ⟨rfl,hb⟩;go_wp2;go_ret;exact⟨rfl,hb⟩

