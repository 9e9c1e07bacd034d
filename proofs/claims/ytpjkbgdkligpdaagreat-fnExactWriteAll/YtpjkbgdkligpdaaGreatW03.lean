/- Lemmas. -/
import Derived.Laws.IdiomStrings
import Derived.Test.YtpjkbgdkligpdaaGreatW02
set_option linter.unusedVariables false
set_option linter.unusedSimpArgs false
set_option maxRecDepth 100000
set_option maxHeartbeats 20000000
namespace Go.Proofs.YtpjkbgdkligpdaaGreat
open Go.RowKit

def Rd (w:World) (ao:Option Addr) (n:Nat) (l:List UInt8):Prop :=
 l.length=n∧∀i,i<n→∃b off,ao=some ⟨b,off,none⟩∧w.cell? ⟨b,off+i,none⟩ = some (.int .u8 (bt l i))

theorem Rd.at {w:World} {ao:Option Addr} {n:Nat} {l:List UInt8} (h:Rd w ao n l) (hn:0<n) :
  ∃b off,ao=some ⟨b,off,none⟩∧∀i,i<n→w.cell? ⟨b,off+i,none⟩ = some (.int .u8 (bt l i)):=by
 obtain⟨b,off,e,_⟩:=h.2 0 hn;refine⟨b,off,e,fun i hi=>?_⟩;obtain⟨b',off',e',hc⟩:=h.2 i hi;rw[e] at e';simp at e';obtain⟨rfl,rfl⟩:=e';exact hc

theorem in_sl1In (x a b:Int) (w:World):Calls Tryz.prog 47 #[.int .i64 x,.int .i64 a,.int .i64 b] w fun e w'=>e=.returned (.bool (decide (a≤x∧x≤b)))∧w'=w:=by
 by_cases h1:a≤x
 ·by_cases h2:x≤b
  ·go_enter Tryz.func47,Tryz.ntmps47;go_wp2;go_ret;exact⟨qac (by simp[h1,h2]),rfl⟩
  ·go_enter Tryz.func47,Tryz.ntmps47;go_wp2;go_ret;exact⟨qac (by simp[h1,h2]),rfl⟩
 ·go_enter Tryz.func47,Tryz.ntmps47;go_wp2;go_ret;exact⟨qac (by simp;omega),rfl⟩

theorem qan (x a b:Int) (r:Bool) (w:World) (h:decide (a≤x∧x≤b)=r):Calls Tryz.prog 47 #[.int .i64 x,.int .i64 a,.int .i64 b] w fun e w'=>e=.returned (.bool r)∧w'=w:=by
 subst h;exact in_sl1In x a b w

def conts (l:List UInt8) (p base:Nat):Nat→Nat
 |0=>base
 |k+1=>conts l p base k*64+bt l (p+(k+1))%64

theorem qms (l:List UInt8) (p base:Nat) (hb:base≤31):∀k,k≤3→conts l p base k≤8388607:=by
 intro k hk;have h1:=Nat.mod_lt (bt l (p+1)) (show 0<64 by omega);have h2:=Nat.mod_lt (bt l (p+2)) (show 0<64 by omega);have h3:=Nat.mod_lt (bt l (p+3)) (show 0<64 by omega)
 match k,hk with
 |0,_=>simp only[conts];omega
 |1,_=>simp only[conts];omega
 |2,_=>simp only[conts];omega
 |3,_=>simp only[conts];omega
 |k+4,hk=>omega

def ansR (l:List UInt8) (p:Nat):Ending:=match runeL (l.drop p) with
 |some (r,k)=>.returned (.tuple #[.int .i64 r,.int .i64 ((p+k:Nat):Int),.bool true])
 |none=>.returned (.tuple #[.int .i64 0,.int .i64 0,.bool false])

theorem qce {l:List UInt8} {p:Nat} (h:runeL (l.drop p)=none):ansR l p=.returned (.tuple #[.int .i64 0,.int .i64 0,.bool false]):=by
 simp[ansR,h]
theorem qfh {l:List UInt8} {p r k:Nat} (h:runeL (l.drop p)=some (r,k)):ansR l p=.returned (.tuple #[.int .i64 r,.int .i64 ((p+k:Nat):Int),.bool true]):=by
 simp[ansR,h]

theorem qht {l:List UInt8} {n p:Nat} (hl:l.length=n) (hp:p<n):runeL (l.drop p)=rune4 (n-p) (bt l p) (bt l (p+1)) (bt l (p+2)) (bt l (p+3)):=by
 unfold runeL;rw[if_neg (by rw[List.length_drop];omega),List.length_drop,qhw,qhw,qhw,qhw,Nat.add_zero,hl]

theorem qju (b off n cap p:Nat) (l:List UInt8) (w:World) (hl:l.length=n) (hp:p<n) (hn:n<9223372036854775807) (hc:∀i,i<n→w.cell? ⟨b,off+i,none⟩ = some (.int .u8 (bt l i)))
  (h2:bt l p<128) :
  Calls Tryz.prog 72 #[.slice (some ⟨b,off,none⟩) n cap,.int .i64 p] w fun e w'=>e=ansR l p∧w'=w:=by
 have HA:Hid (ansR l p=.returned (.tuple #[.int .i64 (bt l p),.int .i64 ((p+1:Nat):Int),.bool true])):=qfh (by rw[qht hl hp];simp[rune4,h2]);have hcp:=hc p hp;have p0:(0:Int)≤p:=by omega
 have p1:(p:Int)<n:=by omega
 clear hc hl;generalize bt l p=x at *;have k2:(x:Int)<128:=by omega
 go_enter Tryz.func72,Tryz.ntmps72;go_wp2;go_ret3;exact⟨by rw[HA.out];simp,rfl⟩

theorem qfa (b off n cap p:Nat) (l:List UInt8) (w:World) (hl:l.length=n) (hp:p<n) (hn:n<9223372036854775807) (hc:∀i,i<n→w.cell? ⟨b,off+i,none⟩ = some (.int .u8 (bt l i)))
  (h2:(128≤bt l p∧bt l p<192)∨248≤bt l p) :
  Calls Tryz.prog 72 #[.slice (some ⟨b,off,none⟩) n cap,.int .i64 p] w fun e w'=>e=ansR l p∧w'=w:=by
 have q:=bt_lt l p;have HA:Hid (ansR l p=.returned (.tuple #[.int .i64 0,.int .i64 0,.bool false])):=qce (by
  rw[qht hl hp];unfold rune4;rw[if_neg (by omega)]
  by_cases g:bt l p<192
  ·rw[if_pos g]
  ·rw[if_neg g,if_neg (by omega),if_neg (by omega),if_neg (by omega)])
 have hcp:=hc p hp;have p0:(0:Int)≤p:=by omega
 have p1:(p:Int)<n:=by omega
 clear hc hl;generalize bt l p=x at *
 rcases h2 with ⟨h2,h3⟩ | h2
 ·have k2:(128:Int)≤x:=by omega
  have k3:(x:Int)<192:=by omega
  have k4:(x:Int)<224:=by omega
  have k5:(x:Int)<240:=by omega
  go_enter Tryz.func72,Tryz.ntmps72;go_wp2;go_ret3;exact⟨by rw[HA.out];simp,rfl⟩
 ·have k2:(248:Int)≤x:=by omega
  have k3:(192:Int)≤x:=by omega
  have k4:(224:Int)≤x:=by omega
  have k5:(240:Int)≤x:=by omega
  go_enter Tryz.func72,Tryz.ntmps72;go_wp2;go_ret3;exact⟨by rw[HA.out];simp,rfl⟩


theorem plain2 {l:List UInt8} {n p x:Nat} (hl:l.length=n) (hp:p<n) (hx:bt l p=x) (h1:192≤x) (h2:x<224) :
  (n≤p+1→runeL (l.drop p)=none) ∧
  ((∃k,k<1∧(bt l (p+(k+1))<128∨191<bt l (p+(k+1))))→runeL (l.drop p)=none) ∧
  ((∀k,k<1→128≤bt l (p+(k+1))∧bt l (p+(k+1))≤191)→(conts l p (x%32) 1<128∨1114111<conts l p (x%32) 1∨(55296≤conts l p (x%32) 1∧conts l p (x%32) 1≤57343))→runeL (l.drop p)=none) ∧
  (p+1<n→(∀k,k<1→128≤bt l (p+(k+1))∧bt l (p+(k+1))≤191)→¬(conts l p (x%32) 1<128)→¬(1114111<conts l p (x%32) 1)→¬(55296≤conts l p (x%32) 1∧conts l p (x%32) 1≤57343)→runeL (l.drop p)=some (conts l p (x%32) 1,2)):=by
 have e:runeL (l.drop p)=(if 1<n-p∧(128≤bt l (p+1)∧bt l (p+1)≤191)∧128≤x%32*64+bt l (p+1)%64 then some (x%32*64+bt l (p+1)%64,2) else none):=by
  rw[qht hl hp,hx];unfold rune4;rw[if_neg (by omega),if_neg (by omega),if_pos h2]
 rw[e];refine⟨fun h=>if_neg (by omega),?_,fun h hbad=>?_,fun hs h a b c=>?_⟩
 ·rintro ⟨k,hk,h⟩;have hk':k=0:=by omega
  rcases hk' with rfl
  all_goals (simp only[Nat.zero_add,Nat.reduceAdd] at h;exact if_neg (by omega))
 ·have a0:=h 0 (by omega);simp only[conts,Nat.zero_add,Nat.reduceAdd] at *;exact if_neg (by omega)
 ·have a0:=h 0 (by omega);simp only[conts,Nat.zero_add,Nat.reduceAdd] at *;rw[if_pos (by omega)]

theorem qlf (b off n cap p:Nat) (l:List UInt8) (w:World) (hl:l.length=n) (hp:p<n) (hn:n<9223372036854775800) (hc:∀i,i<n→w.cell? ⟨b,off+i,none⟩ = some (.int .u8 (bt l i)))
  (h1:192≤bt l p) (h2:bt l p<224) :
  Calls Tryz.prog 72 #[.slice (some ⟨b,off,none⟩) n cap,.int .i64 p] w fun e w'=>e=ansR l p∧w'=w:=by
 have hcp:=hc p hp;have p0:(0:Int)≤p:=by omega
 have p1:(p:Int)<n:=by omega
 obtain⟨x,hx⟩ : ∃x,bt l p=x:=⟨_,rfl⟩;rw[hx] at hcp h1 h2;obtain⟨P1,P2,P3,P4⟩:=plain2 hl hp hx h1 h2;have k1:(192:Int)≤x:=by omega
 have k2:(x:Int)<224:=by omega
 have k3:(128:Int)≤x:=by omega
 have hb:bits .and .i64 (x:Int) 31=((x%32:Nat):Int):=by rw[mask31];omega
 have HX:Hid (bt l p=x):=hx;have HC:Hid (∀i,i<n→w.cell? ⟨b,off+i,none⟩ = some (.int .u8 (bt l i))):=hc;clear hc hl hx
 by_cases hs:n≤p+1
 ·have HA:Hid (ansR l p=.returned (.tuple #[.int .i64 0,.int .i64 0,.bool false])):=qce (P1 hs);clear P1 P2 P3 P4;have hs':(n:Int)-1-1<p:=by omega
  go_enter Tryz.func72,Tryz.ntmps72;go_wp2;go_ret3;exact⟨by rw[HA.out];simp,rfl⟩
 have hs':¬(n:Int)-1-1<p:=by omega
 have Q2:Hid ((∃k,k<1∧(bt l (p+(k+1))<128∨191<bt l (p+(k+1))))→ansR l p=.returned (.tuple #[.int .i64 0,.int .i64 0,.bool false])):=fun h=>qce (P2 h)
 have Q3:Hid ((∀k,k<1→128≤bt l (p+(k+1))∧bt l (p+(k+1))≤191)→(conts l p (x%32) 1<128∨1114111<conts l p (x%32) 1∨(55296≤conts l p (x%32) 1∧conts l p (x%32) 1≤57343))→ansR l p=.returned (.tuple #[.int .i64 0,.int .i64 0,.bool false])):=fun h g=>qce (P3 h g)
 have Q4:Hid ((∀k,k<1→128≤bt l (p+(k+1))∧bt l (p+(k+1))≤191)→¬(conts l p (x%32) 1<128)→¬(1114111<conts l p (x%32) 1)→¬(55296≤conts l p (x%32) 1∧conts l p (x%32) 1≤57343)→ansR l p=.returned (.tuple #[.int .i64 (conts l p (x%32) 1:Nat),.int .i64 ((p+2:Nat):Int),.bool true])):=fun h a b c=>qfh (P4 (by omega) h a b c)
 clear P1 P2 P3 P4;obtain⟨y,hy⟩ : ∃y,x%32=y:=⟨_,rfl⟩;have hy':y≤31:=by omega
 rw[hy] at hb Q3 Q4;clear hy;go_enter Tryz.func72,Tryz.ntmps72;go_wp2
 go_loop [10,11,12] (fun v i _=>∃k:Nat,k≤1∧i=.int .i64 ((k:Int)+1)∧v=.int .i64 (conts l p y k:Nat)∧∀j,j<k→128≤bt l (p+(j+1))∧bt l (p+(j+1))≤191) (fun _ i _=>(1+1-intOf i).toNat)
 case atStart=>exact⟨0,by omega,rfl,rfl,fun j hj=>by omega⟩
 case round=>
  obtain⟨k,hk,rfl,rfl,hall⟩:=hrel;have HALL:Hid (∀j,j<k→128≤bt l (p+(j+1))∧bt l (p+(j+1))≤191):=hall;clear hall;have hle:=qms l p y hy' k (by omega)
  by_cases hlt:k<1
  ·have hck:=HC.out (p+(k+1)) (by omega);have hq:=bt_lt l (p+(k+1));have hi0:(p:Int)+((k:Int)+1)<n:=by omega
   have hlt':(k:Int)+1≤1:=by omega
   have HS:Hid (conts l p y (k+1)=conts l p y k*64+bt l (p+(k+1))%64):=rfl;obtain⟨z,hz⟩ : ∃z,bt l (p+(k+1))=z:=⟨_,rfl⟩;rw[hz] at hck hq HS;have HZ:Hid (bt l (p+(k+1))=z):=hz;clear hz;obtain⟨v,hv⟩ : ∃v,conts l p y k=v:=⟨_,rfl⟩;rw[hv] at hle HS ⊢;clear hv
   by_cases g1:z<128
   ·have g1':(z:Int)<128:=by omega
    have HA:Hid (ansR l p=.returned (.tuple #[.int .i64 0,.int .i64 0,.bool false])):=Q2.out ⟨k,hlt,by rw[HZ.out];exact .inl g1⟩;go_wp2;go_ret3;exact⟨by rw[HA.out];simp,rfl⟩
   have g1':(128:Int)≤z:=by omega
   by_cases g2:191<z
   ·have g2':(191:Int)<z:=by omega
    have HA:Hid (ansR l p=.returned (.tuple #[.int .i64 0,.int .i64 0,.bool false])):=Q2.out ⟨k,hlt,by rw[HZ.out];exact .inr g2⟩;go_wp2;go_ret3;exact⟨by rw[HA.out];simp,rfl⟩
   ·have g2':(z:Int)≤191:=by omega
    go_wp2
    go_round
    case rel=>
     refine⟨k+1,by omega,by go_num,?_,fun j hj=>?_⟩
     ·rw[HS.out];go_num
     ·rcases Nat.lt_or_ge j k with h | h
      ·exact HALL.out j h
      ·obtain rfl:j=k:=by omega
       rw[HZ.out];omega
    case measure=>simp[intOf];omega
  ·obtain rfl:k=1:=by omega
   have hx':¬((1:Nat):Int)+1≤1:=by omega
   obtain⟨v,hv⟩ : ∃v,conts l p y 1=v:=⟨_,rfl⟩;rw[hv] at hle Q3 Q4 ⊢;clear hv
   by_cases g1:v<128
   ·have g1':(v:Int)<128:=by omega
    have HA:Hid (ansR l p=.returned (.tuple #[.int .i64 0,.int .i64 0,.bool false])):=Q3.out HALL.out (.inl g1);clear HALL Q2 Q3 Q4;go_wp2;go_ret3;exact⟨by rw[HA.out];simp,rfl⟩
   have g1':¬(v:Int)<128:=by omega
   by_cases g2:1114111<v
   ·have g2':(1114111:Int)<v:=by omega
    have HA:Hid (ansR l p=.returned (.tuple #[.int .i64 0,.int .i64 0,.bool false])):=Q3.out HALL.out (.inr (.inl g2));clear HALL Q2 Q3 Q4;go_wp2;go_ret3;exact⟨by rw[HA.out];simp,rfl⟩
   have g2':¬(1114111:Int)<v:=by omega
   by_cases g3:55296≤v∧v≤57343
   ·have g3':decide ((55296:Int)≤v∧(v:Int)≤57343)=true:=by simp;omega
    have HA:Hid (ansR l p=.returned (.tuple #[.int .i64 0,.int .i64 0,.bool false])):=Q3.out HALL.out (.inr (.inr g3));clear HALL Q2 Q3 Q4;go_wp2_with (go_at_call 47;refine (qan _ _ _ true _ g3').mono ?_;rintro e w' ⟨rfl,rfl⟩)
    go_ret3;exact⟨by rw[HA.out];simp,rfl⟩
   ·have g3':decide ((55296:Int)≤v∧(v:Int)≤57343)=false:=by simp;omega
    have HA:Hid (ansR l p=.returned (.tuple #[.int .i64 (v:Nat),.int .i64 ((p+2:Nat):Int),.bool true])):=Q4.out HALL.out g1 g2 g3;clear HALL Q2 Q3 Q4;go_wp2_with (go_at_call 47;refine (qan _ _ _ false _ g3').mono ?_;rintro e w' ⟨rfl,rfl⟩)
    go_ret3;exact⟨by rw[HA.out];simp;omega,rfl⟩

theorem plain3 {l:List UInt8} {n p x:Nat} (hl:l.length=n) (hp:p<n) (hx:bt l p=x) (h1:224≤x) (h2:x<240) :
  (n≤p+2→runeL (l.drop p)=none) ∧
  ((∃k,k<2∧(bt l (p+(k+1))<128∨191<bt l (p+(k+1))))→runeL (l.drop p)=none) ∧
  ((∀k,k<2→128≤bt l (p+(k+1))∧bt l (p+(k+1))≤191)→(conts l p (x%16) 2<2048∨1114111<conts l p (x%16) 2∨(55296≤conts l p (x%16) 2∧conts l p (x%16) 2≤57343))→runeL (l.drop p)=none) ∧
  (p+2<n→(∀k,k<2→128≤bt l (p+(k+1))∧bt l (p+(k+1))≤191)→¬(conts l p (x%16) 2<2048)→¬(1114111<conts l p (x%16) 2)→¬(55296≤conts l p (x%16) 2∧conts l p (x%16) 2≤57343)→runeL (l.drop p)=some (conts l p (x%16) 2,3)):=by
 have e:runeL (l.drop p)=(if 2<n-p∧(128≤bt l (p+1)∧bt l (p+1)≤191)∧(128≤bt l (p+2)∧bt l (p+2)≤191)∧2048≤x%16*4096+bt l (p+1)%64*64+bt l (p+2)%64∧¬(55296≤x%16*4096+bt l (p+1)%64*64+bt l (p+2)%64∧x%16*4096+bt l (p+1)%64*64+bt l (p+2)%64≤57343) then some (x%16*4096+bt l (p+1)%64*64+bt l (p+2)%64,3) else none):=by
  rw[qht hl hp,hx];unfold rune4;rw[if_neg (by omega),if_neg (by omega),if_neg (by omega),if_pos h2]
 rw[e];refine⟨fun h=>if_neg (by omega),?_,fun h hbad=>?_,fun hs h a b c=>?_⟩
 ·rintro ⟨k,hk,h⟩;have hk':k=0∨k=1:=by omega
  rcases hk' with rfl | rfl
  all_goals (simp only[Nat.zero_add,Nat.reduceAdd] at h;exact if_neg (by omega))
 ·have a0:=h 0 (by omega);have a1:=h 1 (by omega);simp only[conts,Nat.zero_add,Nat.reduceAdd] at *;exact if_neg (by omega)
 ·have a0:=h 0 (by omega);have a1:=h 1 (by omega);simp only[conts,Nat.zero_add,Nat.reduceAdd] at *;rw[if_pos (by omega)];simp only[Option.some.injEq,Prod.mk.injEq,and_true];omega

theorem qlg (b off n cap p:Nat) (l:List UInt8) (w:World) (hl:l.length=n) (hp:p<n) (hn:n<9223372036854775800) (hc:∀i,i<n→w.cell? ⟨b,off+i,none⟩ = some (.int .u8 (bt l i)))
  (h1:224≤bt l p) (h2:bt l p<240) :
  Calls Tryz.prog 72 #[.slice (some ⟨b,off,none⟩) n cap,.int .i64 p] w fun e w'=>e=ansR l p∧w'=w:=by
 have hcp:=hc p hp;have p0:(0:Int)≤p:=by omega
 have p1:(p:Int)<n:=by omega
 obtain⟨x,hx⟩ : ∃x,bt l p=x:=⟨_,rfl⟩;rw[hx] at hcp h1 h2;obtain⟨P1,P2,P3,P4⟩:=plain3 hl hp hx h1 h2;have k1:(224:Int)≤x:=by omega
 have k2:(x:Int)<240:=by omega
 have k3:(128:Int)≤x:=by omega
 have hb:bits .and .i64 (x:Int) 15=((x%16:Nat):Int):=by rw[mask15];omega
 have HX:Hid (bt l p=x):=hx;have HC:Hid (∀i,i<n→w.cell? ⟨b,off+i,none⟩ = some (.int .u8 (bt l i))):=hc;clear hc hl hx
 by_cases hs:n≤p+2
 ·have HA:Hid (ansR l p=.returned (.tuple #[.int .i64 0,.int .i64 0,.bool false])):=qce (P1 hs);clear P1 P2 P3 P4;have hs':(n:Int)-1-2<p:=by omega
  go_enter Tryz.func72,Tryz.ntmps72;go_wp2;go_ret3;exact⟨by rw[HA.out];simp,rfl⟩
 have hs':¬(n:Int)-1-2<p:=by omega
 have Q2:Hid ((∃k,k<2∧(bt l (p+(k+1))<128∨191<bt l (p+(k+1))))→ansR l p=.returned (.tuple #[.int .i64 0,.int .i64 0,.bool false])):=fun h=>qce (P2 h)
 have Q3:Hid ((∀k,k<2→128≤bt l (p+(k+1))∧bt l (p+(k+1))≤191)→(conts l p (x%16) 2<2048∨1114111<conts l p (x%16) 2∨(55296≤conts l p (x%16) 2∧conts l p (x%16) 2≤57343))→ansR l p=.returned (.tuple #[.int .i64 0,.int .i64 0,.bool false])):=fun h g=>qce (P3 h g)
 have Q4:Hid ((∀k,k<2→128≤bt l (p+(k+1))∧bt l (p+(k+1))≤191)→¬(conts l p (x%16) 2<2048)→¬(1114111<conts l p (x%16) 2)→¬(55296≤conts l p (x%16) 2∧conts l p (x%16) 2≤57343)→ansR l p=.returned (.tuple #[.int .i64 (conts l p (x%16) 2:Nat),.int .i64 ((p+3:Nat):Int),.bool true])):=fun h a b c=>qfh (P4 (by omega) h a b c)
 clear P1 P2 P3 P4;obtain⟨y,hy⟩ : ∃y,x%16=y:=⟨_,rfl⟩;have hy':y≤31:=by omega
 rw[hy] at hb Q3 Q4;clear hy;go_enter Tryz.func72,Tryz.ntmps72;go_wp2
 go_loop [10,11,12] (fun v i _=>∃k:Nat,k≤2∧i=.int .i64 ((k:Int)+1)∧v=.int .i64 (conts l p y k:Nat)∧∀j,j<k→128≤bt l (p+(j+1))∧bt l (p+(j+1))≤191) (fun _ i _=>(2+1-intOf i).toNat)
 case atStart=>exact⟨0,by omega,rfl,rfl,fun j hj=>by omega⟩
 case round=>
  obtain⟨k,hk,rfl,rfl,hall⟩:=hrel;have HALL:Hid (∀j,j<k→128≤bt l (p+(j+1))∧bt l (p+(j+1))≤191):=hall;clear hall;have hle:=qms l p y hy' k (by omega)
  by_cases hlt:k<2
  ·have hck:=HC.out (p+(k+1)) (by omega);have hq:=bt_lt l (p+(k+1));have hi0:(p:Int)+((k:Int)+1)<n:=by omega
   have hlt':(k:Int)+1≤2:=by omega
   have HS:Hid (conts l p y (k+1)=conts l p y k*64+bt l (p+(k+1))%64):=rfl;obtain⟨z,hz⟩ : ∃z,bt l (p+(k+1))=z:=⟨_,rfl⟩;rw[hz] at hck hq HS;have HZ:Hid (bt l (p+(k+1))=z):=hz;clear hz;obtain⟨v,hv⟩ : ∃v,conts l p y k=v:=⟨_,rfl⟩;rw[hv] at hle HS ⊢;clear hv
   by_cases g1:z<128
   ·have g1':(z:Int)<128:=by omega
    have HA:Hid (ansR l p=.returned (.tuple #[.int .i64 0,.int .i64 0,.bool false])):=Q2.out ⟨k,hlt,by rw[HZ.out];exact .inl g1⟩;go_wp2;go_ret3;exact⟨by rw[HA.out];simp,rfl⟩
   have g1':(128:Int)≤z:=by omega
   by_cases g2:191<z
   ·have g2':(191:Int)<z:=by omega
    have HA:Hid (ansR l p=.returned (.tuple #[.int .i64 0,.int .i64 0,.bool false])):=Q2.out ⟨k,hlt,by rw[HZ.out];exact .inr g2⟩;go_wp2;go_ret3;exact⟨by rw[HA.out];simp,rfl⟩
   ·have g2':(z:Int)≤191:=by omega
    go_wp2
    go_round
    case rel=>
     refine⟨k+1,by omega,by go_num,?_,fun j hj=>?_⟩
     ·rw[HS.out];go_num
     ·rcases Nat.lt_or_ge j k with h | h
      ·exact HALL.out j h
      ·obtain rfl:j=k:=by omega
       rw[HZ.out];omega
    case measure=>simp[intOf];omega
  ·obtain rfl:k=2:=by omega
   have hx':¬((2:Nat):Int)+1≤2:=by omega
   obtain⟨v,hv⟩ : ∃v,conts l p y 2=v:=⟨_,rfl⟩;rw[hv] at hle Q3 Q4 ⊢;clear hv
   by_cases g1:v<2048
   ·have g1':(v:Int)<2048:=by omega
    have HA:Hid (ansR l p=.returned (.tuple #[.int .i64 0,.int .i64 0,.bool false])):=Q3.out HALL.out (.inl g1);clear HALL Q2 Q3 Q4;go_wp2;go_ret3;exact⟨by rw[HA.out];simp,rfl⟩
   have g1':¬(v:Int)<2048:=by omega
   by_cases g2:1114111<v
   ·have g2':(1114111:Int)<v:=by omega
    have HA:Hid (ansR l p=.returned (.tuple #[.int .i64 0,.int .i64 0,.bool false])):=Q3.out HALL.out (.inr (.inl g2));clear HALL Q2 Q3 Q4;go_wp2;go_ret3;exact⟨by rw[HA.out];simp,rfl⟩
   have g2':¬(1114111:Int)<v:=by omega
   by_cases g3:55296≤v∧v≤57343
   ·have g3':decide ((55296:Int)≤v∧(v:Int)≤57343)=true:=by simp;omega
    have HA:Hid (ansR l p=.returned (.tuple #[.int .i64 0,.int .i64 0,.bool false])):=Q3.out HALL.out (.inr (.inr g3));clear HALL Q2 Q3 Q4;go_wp2_with (go_at_call 47;refine (qan _ _ _ true _ g3').mono ?_;rintro e w' ⟨rfl,rfl⟩)
    go_ret3;exact⟨by rw[HA.out];simp,rfl⟩
   ·have g3':decide ((55296:Int)≤v∧(v:Int)≤57343)=false:=by simp;omega
    have HA:Hid (ansR l p=.returned (.tuple #[.int .i64 (v:Nat),.int .i64 ((p+3:Nat):Int),.bool true])):=Q4.out HALL.out g1 g2 g3;clear HALL Q2 Q3 Q4;go_wp2_with (go_at_call 47;refine (qan _ _ _ false _ g3').mono ?_;rintro e w' ⟨rfl,rfl⟩)
    go_ret3;exact⟨by rw[HA.out];simp;omega,rfl⟩

theorem plain4 {l:List UInt8} {n p x:Nat} (hl:l.length=n) (hp:p<n) (hx:bt l p=x) (h1:240≤x) (h2:x<248) :
  (n≤p+3→runeL (l.drop p)=none) ∧
  ((∃k,k<3∧(bt l (p+(k+1))<128∨191<bt l (p+(k+1))))→runeL (l.drop p)=none) ∧
  ((∀k,k<3→128≤bt l (p+(k+1))∧bt l (p+(k+1))≤191)→(conts l p (x%8) 3<65536∨1114111<conts l p (x%8) 3∨(55296≤conts l p (x%8) 3∧conts l p (x%8) 3≤57343))→runeL (l.drop p)=none) ∧
  (p+3<n→(∀k,k<3→128≤bt l (p+(k+1))∧bt l (p+(k+1))≤191)→¬(conts l p (x%8) 3<65536)→¬(1114111<conts l p (x%8) 3)→¬(55296≤conts l p (x%8) 3∧conts l p (x%8) 3≤57343)→runeL (l.drop p)=some (conts l p (x%8) 3,4)):=by
 have e:runeL (l.drop p)=(if 3<n-p∧(128≤bt l (p+1)∧bt l (p+1)≤191)∧(128≤bt l (p+2)∧bt l (p+2)≤191)∧(128≤bt l (p+3)∧bt l (p+3)≤191)∧65536≤x%8*262144+bt l (p+1)%64*4096+bt l (p+2)%64*64+bt l (p+3)%64∧x%8*262144+bt l (p+1)%64*4096+bt l (p+2)%64*64+bt l (p+3)%64≤1114111 then some (x%8*262144+bt l (p+1)%64*4096+bt l (p+2)%64*64+bt l (p+3)%64,4) else none):=by
  rw[qht hl hp,hx];unfold rune4;rw[if_neg (by omega),if_neg (by omega),if_neg (by omega),if_neg (by omega),if_pos h2]
 rw[e];refine⟨fun h=>if_neg (by omega),?_,fun h hbad=>?_,fun hs h a b c=>?_⟩
 ·rintro ⟨k,hk,h⟩;have hk':k=0∨k=1∨k=2:=by omega
  rcases hk' with rfl | rfl | rfl
  all_goals (simp only[Nat.zero_add,Nat.reduceAdd] at h;exact if_neg (by omega))
 ·have a0:=h 0 (by omega);have a1:=h 1 (by omega);have a2:=h 2 (by omega);simp only[conts,Nat.zero_add,Nat.reduceAdd] at *;exact if_neg (by omega)
 ·have a0:=h 0 (by omega);have a1:=h 1 (by omega);have a2:=h 2 (by omega);simp only[conts,Nat.zero_add,Nat.reduceAdd] at *;rw[if_pos (by omega)];simp only[Option.some.injEq,Prod.mk.injEq,and_true];omega

theorem qlh (b off n cap p:Nat) (l:List UInt8) (w:World) (hl:l.length=n) (hp:p<n) (hn:n<9223372036854775800) (hc:∀i,i<n→w.cell? ⟨b,off+i,none⟩ = some (.int .u8 (bt l i)))
  (h1:240≤bt l p) (h2:bt l p<248) :
  Calls Tryz.prog 72 #[.slice (some ⟨b,off,none⟩) n cap,.int .i64 p] w fun e w'=>e=ansR l p∧w'=w:=by
 have hcp:=hc p hp;have p0:(0:Int)≤p:=by omega
 have p1:(p:Int)<n:=by omega
 obtain⟨x,hx⟩ : ∃x,bt l p=x:=⟨_,rfl⟩;rw[hx] at hcp h1 h2;obtain⟨P1,P2,P3,P4⟩:=plain4 hl hp hx h1 h2;have k1:(240:Int)≤x:=by omega
 have k2:(x:Int)<248:=by omega
 have k3:(128:Int)≤x:=by omega
 have hb:bits .and .i64 (x:Int) 7=((x%8:Nat):Int):=by rw[mask7];omega
 have HX:Hid (bt l p=x):=hx;have HC:Hid (∀i,i<n→w.cell? ⟨b,off+i,none⟩ = some (.int .u8 (bt l i))):=hc;clear hc hl hx
 by_cases hs:n≤p+3
 ·have HA:Hid (ansR l p=.returned (.tuple #[.int .i64 0,.int .i64 0,.bool false])):=qce (P1 hs);clear P1 P2 P3 P4;have hs':(n:Int)-1-3<p:=by omega
  go_enter Tryz.func72,Tryz.ntmps72;go_wp2;go_ret3;exact⟨by rw[HA.out];simp,rfl⟩
 have hs':¬(n:Int)-1-3<p:=by omega
 have Q2:Hid ((∃k,k<3∧(bt l (p+(k+1))<128∨191<bt l (p+(k+1))))→ansR l p=.returned (.tuple #[.int .i64 0,.int .i64 0,.bool false])):=fun h=>qce (P2 h)
 have Q3:Hid ((∀k,k<3→128≤bt l (p+(k+1))∧bt l (p+(k+1))≤191)→(conts l p (x%8) 3<65536∨1114111<conts l p (x%8) 3∨(55296≤conts l p (x%8) 3∧conts l p (x%8) 3≤57343))→ansR l p=.returned (.tuple #[.int .i64 0,.int .i64 0,.bool false])):=fun h g=>qce (P3 h g)
 have Q4:Hid ((∀k,k<3→128≤bt l (p+(k+1))∧bt l (p+(k+1))≤191)→¬(conts l p (x%8) 3<65536)→¬(1114111<conts l p (x%8) 3)→¬(55296≤conts l p (x%8) 3∧conts l p (x%8) 3≤57343)→ansR l p=.returned (.tuple #[.int .i64 (conts l p (x%8) 3:Nat),.int .i64 ((p+4:Nat):Int),.bool true])):=fun h a b c=>qfh (P4 (by omega) h a b c)
 clear P1 P2 P3 P4;obtain⟨y,hy⟩ : ∃y,x%8=y:=⟨_,rfl⟩;have hy':y≤31:=by omega
 rw[hy] at hb Q3 Q4;clear hy;go_enter Tryz.func72,Tryz.ntmps72;go_wp2
 go_loop [10,11,12] (fun v i _=>∃k:Nat,k≤3∧i=.int .i64 ((k:Int)+1)∧v=.int .i64 (conts l p y k:Nat)∧∀j,j<k→128≤bt l (p+(j+1))∧bt l (p+(j+1))≤191) (fun _ i _=>(3+1-intOf i).toNat)
 case atStart=>exact⟨0,by omega,rfl,rfl,fun j hj=>by omega⟩
 case round=>
  obtain⟨k,hk,rfl,rfl,hall⟩:=hrel;have HALL:Hid (∀j,j<k→128≤bt l (p+(j+1))∧bt l (p+(j+1))≤191):=hall;clear hall;have hle:=qms l p y hy' k (by omega)
  by_cases hlt:k<3
  ·have hck:=HC.out (p+(k+1)) (by omega);have hq:=bt_lt l (p+(k+1));have hi0:(p:Int)+((k:Int)+1)<n:=by omega
   have hlt':(k:Int)+1≤3:=by omega
   have HS:Hid (conts l p y (k+1)=conts l p y k*64+bt l (p+(k+1))%64):=rfl;obtain⟨z,hz⟩ : ∃z,bt l (p+(k+1))=z:=⟨_,rfl⟩;rw[hz] at hck hq HS;have HZ:Hid (bt l (p+(k+1))=z):=hz;clear hz;obtain⟨v,hv⟩ : ∃v,conts l p y k=v:=⟨_,rfl⟩;rw[hv] at hle HS ⊢;clear hv
   by_cases g1:z<128
   ·have g1':(z:Int)<128:=by omega
    have HA:Hid (ansR l p=.returned (.tuple #[.int .i64 0,.int .i64 0,.bool false])):=Q2.out ⟨k,hlt,by rw[HZ.out];exact .inl g1⟩;go_wp2;go_ret3;exact⟨by rw[HA.out];simp,rfl⟩
   have g1':(128:Int)≤z:=by omega
   by_cases g2:191<z
   ·have g2':(191:Int)<z:=by omega
    have HA:Hid (ansR l p=.returned (.tuple #[.int .i64 0,.int .i64 0,.bool false])):=Q2.out ⟨k,hlt,by rw[HZ.out];exact .inr g2⟩;go_wp2;go_ret3;exact⟨by rw[HA.out];simp,rfl⟩
   ·have g2':(z:Int)≤191:=by omega
    go_wp2
    go_round
    case rel=>
     refine⟨k+1,by omega,by go_num,?_,fun j hj=>?_⟩
     ·rw[HS.out];go_num
     ·rcases Nat.lt_or_ge j k with h | h
      ·exact HALL.out j h
      ·obtain rfl:j=k:=by omega
       rw[HZ.out];omega
    case measure=>simp[intOf];omega
  ·obtain rfl:k=3:=by omega
   have hx':¬((3:Nat):Int)+1≤3:=by omega
   obtain⟨v,hv⟩ : ∃v,conts l p y 3=v:=⟨_,rfl⟩;rw[hv] at hle Q3 Q4 ⊢;clear hv
   by_cases g1:v<65536
   ·have g1':(v:Int)<65536:=by omega
    have HA:Hid (ansR l p=.returned (.tuple #[.int .i64 0,.int .i64 0,.bool false])):=Q3.out HALL.out (.inl g1);clear HALL Q2 Q3 Q4;go_wp2;go_ret3;exact⟨by rw[HA.out];simp,rfl⟩
   have g1':¬(v:Int)<65536:=by omega
   by_cases g2:1114111<v
   ·have g2':(1114111:Int)<v:=by omega
    have HA:Hid (ansR l p=.returned (.tuple #[.int .i64 0,.int .i64 0,.bool false])):=Q3.out HALL.out (.inr (.inl g2));clear HALL Q2 Q3 Q4;go_wp2;go_ret3;exact⟨by rw[HA.out];simp,rfl⟩
   have g2':¬(1114111:Int)<v:=by omega
   by_cases g3:55296≤v∧v≤57343
   ·have g3':decide ((55296:Int)≤v∧(v:Int)≤57343)=true:=by simp;omega
    have HA:Hid (ansR l p=.returned (.tuple #[.int .i64 0,.int .i64 0,.bool false])):=Q3.out HALL.out (.inr (.inr g3));clear HALL Q2 Q3 Q4;go_wp2_with (go_at_call 47;refine (qan _ _ _ true _ g3').mono ?_;rintro e w' ⟨rfl,rfl⟩)
    go_ret3;exact⟨by rw[HA.out];simp,rfl⟩
   ·have g3':decide ((55296:Int)≤v∧(v:Int)≤57343)=false:=by simp;omega
    have HA:Hid (ansR l p=.returned (.tuple #[.int .i64 (v:Nat),.int .i64 ((p+4:Nat):Int),.bool true])):=Q4.out HALL.out g1 g2 g3;clear HALL Q2 Q3 Q4;go_wp2_with (go_at_call 47;refine (qan _ _ _ false _ g3').mono ?_;rintro e w' ⟨rfl,rfl⟩)
    go_ret3;exact⟨by rw[HA.out];simp;omega,rfl⟩

theorem qdq (ao:Option Addr) (n cap p:Nat) (l:List UInt8) (w:World) (hr:Rd w ao n l) (hp:p<n) (hn:n<9223372036854775800) :
  Calls Tryz.prog 72 #[.slice ao n cap,.int .i64 p] w fun e w'=>e=ansR l p∧w'=w:=by
 obtain⟨b,off,rfl,hc⟩:=hr.at (by omega);have hl:=hr.1;have q:=bt_lt l p
 rcases Nat.lt_or_ge (bt l p) 128 with h | h
 ·exact qju b off n cap p l w hl hp (by omega) hc h
 rcases Nat.lt_or_ge (bt l p) 192 with h1 | h1
 ·exact qfa b off n cap p l w hl hp (by omega) hc (.inl ⟨h,h1⟩)
 rcases Nat.lt_or_ge (bt l p) 224 with h2 | h2
 ·exact qlf b off n cap p l w hl hp hn hc h1 h2
 rcases Nat.lt_or_ge (bt l p) 240 with h3 | h3
 ·exact qlg b off n cap p l w hl hp hn hc h2 h3
 rcases Nat.lt_or_ge (bt l p) 248 with h4 | h4
 ·exact qlh b off n cap p l w hl hp hn hc h3 h4
 ·exact qfa b off n cap p l w hl hp (by omega) hc (.inr h4)


theorem qok (s:ByteArray) (cap i:Nat) (h:i<s.size):(bytesRow s cap)[i]? = some (.int .u8 (bt s.data.toList i)):=by
 have hs:s.size=s.data.size:=rfl;have e:bt s.data.toList i=(s.data[i]'(by omega)).toNat:=by
  simp only[bt,List.getD_eq_getElem?_getD];rw[List.getElem?_eq_getElem (by simpa using (by omega:i<s.data.size))];simp
 simp only[bytesRow];rw[Array.getElem?_append_left (by simpa using (by omega:i<s.data.size))];rw[Array.getElem?_map,Array.getElem?_eq_getElem (by omega)];simp[e]

theorem bytes_made (s:ByteArray) (w:World):∃wb cap,(convert 9 22 (.string s)).run Tryz.prog w=.ok (.slice (some ⟨w.heap.size,0,none⟩) s.size cap) wb ∧
  Rd wb (some ⟨w.heap.size,0,none⟩) s.size s.data.toList∧Below w.heap.size w wb:=by
 refine⟨_,_,run_bytes_of_string w 9 22 5 s Tryz.underlying9 Tryz.underlying22 Tryz.underlying5,⟨rfl,fun i hi=>⟨_,_,rfl,?_⟩⟩,?_⟩
 ·show (w.drew.alloc _).cell? ⟨w.drew.heap.size,_,none⟩ = _;rw[Nat.zero_add,World.cell?_alloc_mark];exact qok s _ i hi
 ·exact ((Below.refl _ _).drew).alloc (Nat.le_refl _) _

theorem qoo {l:List UInt8} (h:¬60<l.length) {n:Nat} (hc:qbm l.length l=some n):qeb l=n:=by simp[qeb,qiw,h,hc]
theorem qon {l:List UInt8} (h:¬60<l.length) (hc:qbm l.length l=none):qeb l = -1:=by simp[qeb,qiw,h,hc]

theorem qhx (s:ByteArray) (w:World) (hs:s.size<9223372036854775800) :
  Calls Tryz.prog 66 #[.string s] w fun e w'=>e=.returned (.int .i64 (qeb s.data.toList))∧Below w.heap.size w w':=by
 have e1:s.size=s.data.toList.length:=rfl
 by_cases hlong:60<s.size
 ·have h':(60:Int)<(s.size:Int):=by omega
  have hk:Hid (qeb s.data.toList = -1):=qom (by omega);clear e1;go_enter Tryz.func66,Tryz.ntmps66;go_wp2;go_ret;exact⟨qni hk.out.symm,Below.refl _ _⟩
 have h':(s.size:Int)≤60:=by omega
 have K1:Hid (∀n,qbm s.data.toList.length s.data.toList=some n→qeb s.data.toList=n):=fun n h=>qoo (by omega) h
 have K2:Hid (qbm s.data.toList.length s.data.toList=none→qeb s.data.toList = -1):=fun h=>qon (by omega) h
 have H1:Hid (s.size=s.data.toList.length):=e1;clear e1;obtain⟨wb,cap,hconv,hrd,hbel⟩:=bytes_made s w;generalize hl:s.data.toList=l at *;clear hl;go_enter Tryz.func66,Tryz.ntmps66;go_wp2
 go_loop [4,5,6,7,8] (fun n i _ _ _=>∃pos acc f:Nat,i=.int .i64 pos∧n=.int .i64 acc∧pos≤s.size∧s.size≤pos+f∧acc≤pos∧qbm l.length l=(qbm f (l.drop pos)).map (acc+·)) (fun _ i _ _ _=>s.size-(intOf i).toNat)
 case atStart=>exact⟨0,0,l.length,rfl,rfl,Nat.zero_le _,by have:=H1.out;omega,Nat.le_refl _,by simp⟩
 case round=>
  obtain⟨pos,acc,f,rfl,rfl,hpos,hf,ha,hc⟩:=hrel;have HC:Hid (qbm l.length l=(qbm f (l.drop pos)).map (acc+·)):=hc;clear hc
  by_cases hp:pos<s.size
  ·have hp':(pos:Int)<s.size:=by omega
   have hl0:(l.drop pos).length≠0:=by rw[List.length_drop,←H1.out];omega
   cases hr:runeL (l.drop pos) with
   |none=>
    have HA:Hid (ansR l pos=_):=qce hr;have HF:Hid (qbm f (l.drop pos)=none):=qgd hl0 (.inl hr);clear hr hl0;go_wp2_with (go_at_call 72;refine (qdq _ _ _ _ _ _ hrd hp hs).mono ?_;rintro e w' ⟨he,rfl⟩;rw[HA.out] at he;subst he)
    go_ret;exact⟨qni (K2.out (by rw[HC.out,HF.out];rfl)).symm,hbel⟩
   |some rk=>
    obtain⟨r,k⟩:=rk;have hw:=qcy hr;rw[List.length_drop,←H1.out] at hw;have HA:Hid (ansR l pos=_):=qfh hr
    by_cases hr0:r=0
    ·subst hr0;have HF:Hid (qbm f (l.drop pos)=none):=qgd hl0 (.inr ⟨k,hr⟩);clear hr hl0;go_wp2_with (go_at_call 72;refine (qdq _ _ _ _ _ _ hrd hp hs).mono ?_;rintro e w' ⟨he,rfl⟩;rw[HA.out] at he;subst he)
     go_ret;exact⟨qni (K2.out (by rw[HC.out,HF.out];rfl)).symm,hbel⟩
    ·have hz:((r:Int)==0)=false:=by simp;omega
     have HR:Hid (runeL (l.drop pos)=some (r,k)):=hr;have HL:Hid ((l.drop pos).length≠0):=hl0;have H0:Hid (r≠0):=hr0;clear hr hl0 hr0;go_wp2_with (go_at_call 72;refine (qdq _ _ _ _ _ _ hrd hp hs).mono ?_;rintro e w' ⟨he,rfl⟩;rw[HA.out] at he;subst he)
     go_round
     case rel=>
      cases f with
      |zero=>omega
      |succ f=>
       refine⟨pos+k,acc+1,f,by go_num,by go_num,by omega,by omega,by omega,?_⟩;rw[HC.out,qkb HL.out HR.out H0.out,List.drop_drop];cases qbm f (l.drop (pos+k))<;>simp
       omega
     case measure=>
      simp[intOf];omega
  ·have hp':¬(pos:Int)<s.size:=by omega
   have HF:Hid (qbm f (l.drop pos)=some 0):=qme f _ (by rw[List.length_drop,←H1.out];omega);go_wp2;go_ret;exact⟨qni (K1.out acc (by rw[HC.out,HF.out];rfl)).symm,hbel⟩

theorem qco (s:ByteArray) (w:World) (hs:s.size<9223372036854775800) :
  Calls Tryz.prog 51 #[.string s] w fun e w'=>e=.returned (.bool (okT s.data.toList))∧Below w.heap.size w w':=by
 have hk:Hid (decide (0≤qeb s.data.toList)=okT s.data.toList):=countI_ge _;go_enter Tryz.func51,Tryz.ntmps51;go_wp2_with (go_at_call 66;refine (qhx s _ hs).mono ?_;rintro e w' ⟨rfl,hb⟩)
 go_ret;exact⟨qac hk.out,hb⟩

