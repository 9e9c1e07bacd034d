/- Lemmas. -/
import Derived.Laws.IdiomStrings
import Derived.Laws.BytesArg
import Derived.Test.YtpjkbgdkligpdaaGreatDoorY01
set_option linter.all false
set_option maxRecDepth 100000
set_option maxHeartbeats 20000000
namespace Go.Proofs.YtpjkbgdkligpdaaGreatDoor
open Go.RowKit

def Rd (w:World) (ao:Option Addr) (n:Nat) (l:List UInt8):Prop :=
 l.length=n∧∀i,i<n→∃b off,ao=some ⟨b,off,none⟩∧w.cell? ⟨b,off+i,none⟩ = some (.int .u8 (bt l i))

theorem Rd.at {w:World} {ao:Option Addr} {n:Nat} {l:List UInt8} (h:Rd w ao n l) (hn:0<n) :
  ∃b off,ao=some ⟨b,off,none⟩∧∀i,i<n→w.cell? ⟨b,off+i,none⟩ = some (.int .u8 (bt l i)):=by
 obtain⟨b,off,e,_⟩:=h.2 0 hn;refine⟨b,off,e,fun i hi=>?_⟩;obtain⟨b',off',e',hc⟩:=h.2 i hi;rw[e] at e';simp at e';obtain⟨rfl,rfl⟩:=e';exact hc

theorem in_sl1In (x a b:Int) (w:World):Calls Tryz.prog 68 #[.int .i64 x,.int .i64 a,.int .i64 b] w fun e w'=>e=.returned (.bool (decide (a≤x∧x≤b)))∧w'=w:=by
 by_cases h1:a≤x
 ·by_cases h2:x≤b
  ·go_enter Tryz.func68,Tryz.ntmps68;go_wp2;go_ret;exact⟨qad (by simp[h1,h2]),rfl⟩
  ·go_enter Tryz.func68,Tryz.ntmps68;go_wp2;go_ret;exact⟨qad (by simp[h1,h2]),rfl⟩
 ·go_enter Tryz.func68,Tryz.ntmps68;go_wp2;go_ret;exact⟨qad (by simp;omega),rfl⟩

theorem qax (x a b:Int) (r:Bool) (w:World) (h:decide (a≤x∧x≤b)=r):Calls Tryz.prog 68 #[.int .i64 x,.int .i64 a,.int .i64 b] w fun e w'=>e=.returned (.bool r)∧w'=w:=by
 subst h;exact in_sl1In x a b w

def conts (l:List UInt8) (p base:Nat):Nat→Nat
 |0=>base
 |k+1=>conts l p base k*64+bt l (p+(k+1))%64

theorem qrq (l:List UInt8) (p base:Nat) (hb:base≤31):∀k,k≤3→conts l p base k≤8388607:=by
 intro k hk;have h1:=Nat.mod_lt (bt l (p+1)) (show 0<64 by omega);have h2:=Nat.mod_lt (bt l (p+2)) (show 0<64 by omega);have h3:=Nat.mod_lt (bt l (p+3)) (show 0<64 by omega)
 match k,hk with
 |0,_=>simp only[conts];omega
 |1,_=>simp only[conts];omega
 |2,_=>simp only[conts];omega
 |3,_=>simp only[conts];omega
 |k+4,hk=>omega

def ansR (l:List UInt8) (p:Nat):Ending:=match runeL (l.drop p) with
 |some (r,k)=>.returned (.tuple #[.int .i64 r,.int .i64 ((p+k:Nat):Int),.bool true])
 |none=>.returned (.tuple #[.int .i64 0,.int .i64 0,.bool false])

theorem qdk {l:List UInt8} {p:Nat} (h:runeL (l.drop p)=none):ansR l p=.returned (.tuple #[.int .i64 0,.int .i64 0,.bool false]):=by
 simp[ansR,h]
theorem qjf {l:List UInt8} {p r k:Nat} (h:runeL (l.drop p)=some (r,k)):ansR l p=.returned (.tuple #[.int .i64 r,.int .i64 ((p+k:Nat):Int),.bool true]):=by
 simp[ansR,h]

theorem qlv {l:List UInt8} {n p:Nat} (hl:l.length=n) (hp:p<n):runeL (l.drop p)=rune4 (n-p) (bt l p) (bt l (p+1)) (bt l (p+2)) (bt l (p+3)):=by
 unfold runeL;rw[if_neg (by rw[List.length_drop];omega),List.length_drop,qfr,qfr,qfr,qfr,Nat.add_zero,hl]

theorem qnz (b off n cap p:Nat) (l:List UInt8) (w:World) (hl:l.length=n) (hp:p<n) (hn:n<9223372036854775807) (hc:∀i,i<n→w.cell? ⟨b,off+i,none⟩ = some (.int .u8 (bt l i)))
  (h2:bt l p<128) :
  Calls Tryz.prog 148 #[.slice (some ⟨b,off,none⟩) n cap,.int .i64 p] w fun e w'=>e=ansR l p∧w'=w:=by
 have HA:Hid (ansR l p=.returned (.tuple #[.int .i64 (bt l p),.int .i64 ((p+1:Nat):Int),.bool true])):=qjf (by rw[qlv hl hp];simp[rune4,h2]);have hcp:=hc p hp;have p0:(0:Int)≤p:=by omega
 have p1:(p:Int)<n:=by omega
 clear hc hl;generalize bt l p=x at *;have k2:(x:Int)<128:=by omega
 go_enter Tryz.func148,Tryz.ntmps148;go_wp2;go_ret3;exact⟨by rw[HA.out];simp,rfl⟩

theorem qix (b off n cap p:Nat) (l:List UInt8) (w:World) (hl:l.length=n) (hp:p<n) (hn:n<9223372036854775807) (hc:∀i,i<n→w.cell? ⟨b,off+i,none⟩ = some (.int .u8 (bt l i)))
  (h2:(128≤bt l p∧bt l p<192)∨248≤bt l p) :
  Calls Tryz.prog 148 #[.slice (some ⟨b,off,none⟩) n cap,.int .i64 p] w fun e w'=>e=ansR l p∧w'=w:=by
 have q:=bt_lt l p;have HA:Hid (ansR l p=.returned (.tuple #[.int .i64 0,.int .i64 0,.bool false])):=qdk (by
  rw[qlv hl hp];unfold rune4;rw[if_neg (by omega)]
  by_cases g:bt l p<192
  ·rw[if_pos g]
  ·rw[if_neg g,if_neg (by omega),if_neg (by omega),if_neg (by omega)])
 have hcp:=hc p hp;have p0:(0:Int)≤p:=by omega
 have p1:(p:Int)<n:=by omega
 clear hc hl;generalize bt l p=x at *
 rcases h2 with ⟨h2,h3⟩ | h2
 ·have k2:(128:Int)≤x:=by omega
  have k3:(x:Int)<192:=by omega
  have k4:(x:Int)<224:=by omega
  have k5:(x:Int)<240:=by omega
  go_enter Tryz.func148,Tryz.ntmps148;go_wp2;go_ret3;exact⟨by rw[HA.out];simp,rfl⟩
 ·have k2:(248:Int)≤x:=by omega
  have k3:(192:Int)≤x:=by omega
  have k4:(224:Int)≤x:=by omega
  have k5:(240:Int)≤x:=by omega
  go_enter Tryz.func148,Tryz.ntmps148;go_wp2;go_ret3;exact⟨by rw[HA.out];simp,rfl⟩


theorem plain2 {l:List UInt8} {n p x:Nat} (hl:l.length=n) (hp:p<n) (hx:bt l p=x) (h1:192≤x) (h2:x<224) :
  (n≤p+1→runeL (l.drop p)=none) ∧
  ((∃k,k<1∧(bt l (p+(k+1))<128∨191<bt l (p+(k+1))))→runeL (l.drop p)=none) ∧
  ((∀k,k<1→128≤bt l (p+(k+1))∧bt l (p+(k+1))≤191)→(conts l p (x%32) 1<128∨1114111<conts l p (x%32) 1∨(55296≤conts l p (x%32) 1∧conts l p (x%32) 1≤57343))→runeL (l.drop p)=none) ∧
  (p+1<n→(∀k,k<1→128≤bt l (p+(k+1))∧bt l (p+(k+1))≤191)→¬(conts l p (x%32) 1<128)→¬(1114111<conts l p (x%32) 1)→¬(55296≤conts l p (x%32) 1∧conts l p (x%32) 1≤57343)→runeL (l.drop p)=some (conts l p (x%32) 1,2)):=by
 have e:runeL (l.drop p)=(if 1<n-p∧(128≤bt l (p+1)∧bt l (p+1)≤191)∧128≤x%32*64+bt l (p+1)%64 then some (x%32*64+bt l (p+1)%64,2) else none):=by
  rw[qlv hl hp,hx];unfold rune4;rw[if_neg (by omega),if_neg (by omega),if_pos h2]
 rw[e];refine⟨fun h=>if_neg (by omega),?_,fun h hbad=>?_,fun hs h a b c=>?_⟩
 ·rintro ⟨k,hk,h⟩;have hk':k=0:=by omega
  rcases hk' with rfl
  all_goals (simp only[Nat.zero_add,Nat.reduceAdd] at h;exact if_neg (by omega))
 ·have a0:=h 0 (by omega);simp only[conts,Nat.zero_add,Nat.reduceAdd] at *;exact if_neg (by omega)
 ·have a0:=h 0 (by omega);simp only[conts,Nat.zero_add,Nat.reduceAdd] at *;rw[if_pos (by omega)]

theorem qqb (b off n cap p:Nat) (l:List UInt8) (w:World) (hl:l.length=n) (hp:p<n) (hn:n<9223372036854775800) (hc:∀i,i<n→w.cell? ⟨b,off+i,none⟩ = some (.int .u8 (bt l i)))
  (h1:192≤bt l p) (h2:bt l p<224) :
  Calls Tryz.prog 148 #[.slice (some ⟨b,off,none⟩) n cap,.int .i64 p] w fun e w'=>e=ansR l p∧w'=w:=by
 have hcp:=hc p hp;have p0:(0:Int)≤p:=by omega
 have p1:(p:Int)<n:=by omega
 obtain⟨x,hx⟩ : ∃x,bt l p=x:=⟨_,rfl⟩;rw[hx] at hcp h1 h2;obtain⟨P1,P2,P3,P4⟩:=plain2 hl hp hx h1 h2;have k1:(192:Int)≤x:=by omega
 have k2:(x:Int)<224:=by omega
 have k3:(128:Int)≤x:=by omega
 have hb:bits .and .i64 (x:Int) 31=((x%32:Nat):Int):=by rw[mask31];omega
 have HX:Hid (bt l p=x):=hx;have HC:Hid (∀i,i<n→w.cell? ⟨b,off+i,none⟩ = some (.int .u8 (bt l i))):=hc;clear hc hl hx
 by_cases hs:n≤p+1
 ·have HA:Hid (ansR l p=.returned (.tuple #[.int .i64 0,.int .i64 0,.bool false])):=qdk (P1 hs);clear P1 P2 P3 P4;have hs':(n:Int)-1-1<p:=by omega
  go_enter Tryz.func148,Tryz.ntmps148;go_wp2;go_ret3;exact⟨by rw[HA.out];simp,rfl⟩
 have hs':¬(n:Int)-1-1<p:=by omega
 have Q2:Hid ((∃k,k<1∧(bt l (p+(k+1))<128∨191<bt l (p+(k+1))))→ansR l p=.returned (.tuple #[.int .i64 0,.int .i64 0,.bool false])):=fun h=>qdk (P2 h)
 have Q3:Hid ((∀k,k<1→128≤bt l (p+(k+1))∧bt l (p+(k+1))≤191)→(conts l p (x%32) 1<128∨1114111<conts l p (x%32) 1∨(55296≤conts l p (x%32) 1∧conts l p (x%32) 1≤57343))→ansR l p=.returned (.tuple #[.int .i64 0,.int .i64 0,.bool false])):=fun h g=>qdk (P3 h g)
 have Q4:Hid ((∀k,k<1→128≤bt l (p+(k+1))∧bt l (p+(k+1))≤191)→¬(conts l p (x%32) 1<128)→¬(1114111<conts l p (x%32) 1)→¬(55296≤conts l p (x%32) 1∧conts l p (x%32) 1≤57343)→ansR l p=.returned (.tuple #[.int .i64 (conts l p (x%32) 1:Nat),.int .i64 ((p+2:Nat):Int),.bool true])):=fun h a b c=>qjf (P4 (by omega) h a b c)
 clear P1 P2 P3 P4;obtain⟨y,hy⟩ : ∃y,x%32=y:=⟨_,rfl⟩;have hy':y≤31:=by omega
 rw[hy] at hb Q3 Q4;clear hy;go_enter Tryz.func148,Tryz.ntmps148;go_wp2
 go_loop [10,11,12] (fun v i _=>∃k:Nat,k≤1∧i=.int .i64 ((k:Int)+1)∧v=.int .i64 (conts l p y k:Nat)∧∀j,j<k→128≤bt l (p+(j+1))∧bt l (p+(j+1))≤191) (fun _ i _=>(1+1-intOf i).toNat)
 case atStart=>exact⟨0,by omega,rfl,rfl,fun j hj=>by omega⟩
 case round=>
  obtain⟨k,hk,rfl,rfl,hall⟩:=hrel;have HALL:Hid (∀j,j<k→128≤bt l (p+(j+1))∧bt l (p+(j+1))≤191):=hall;clear hall;have hle:=qrq l p y hy' k (by omega)
  by_cases hlt:k<1
  ·have hck:=HC.out (p+(k+1)) (by omega);have hq:=bt_lt l (p+(k+1));have hi0:(p:Int)+((k:Int)+1)<n:=by omega
   have hlt':(k:Int)+1≤1:=by omega
   have HS:Hid (conts l p y (k+1)=conts l p y k*64+bt l (p+(k+1))%64):=rfl;obtain⟨z,hz⟩ : ∃z,bt l (p+(k+1))=z:=⟨_,rfl⟩;rw[hz] at hck hq HS;have HZ:Hid (bt l (p+(k+1))=z):=hz;clear hz;obtain⟨v,hv⟩ : ∃v,conts l p y k=v:=⟨_,rfl⟩;rw[hv] at hle HS ⊢;clear hv
   by_cases g1:z<128
   ·have g1':(z:Int)<128:=by omega
    have HA:Hid (ansR l p=.returned (.tuple #[.int .i64 0,.int .i64 0,.bool false])):=Q2.out ⟨k,hlt,by rw[HZ.out];exact .inl g1⟩;go_wp2;go_ret3;exact⟨by rw[HA.out];simp,rfl⟩
   have g1':(128:Int)≤z:=by omega
   by_cases g2:191<z
   ·have g2':(191:Int)<z:=by omega
    have HA:Hid (ansR l p=.returned (.tuple #[.int .i64 0,.int .i64 0,.bool false])):=Q2.out ⟨k,hlt,by rw[HZ.out];exact .inr g2⟩;go_wp2;go_ret3;exact⟨by rw[HA.out];simp,rfl⟩
   ·have g2':(z:Int)≤191:=by omega
    go_wp2
    go_round
    case rel=>
     refine⟨k+1,by omega,by go_num,?_,fun j hj=>?_⟩
     ·rw[HS.out];go_num
     ·rcases Nat.lt_or_ge j k with h | h
      ·exact HALL.out j h
      ·obtain rfl:j=k:=by omega
       rw[HZ.out];omega
    case measure=>simp[intOf];omega
  ·obtain rfl:k=1:=by omega
   have hx':¬((1:Nat):Int)+1≤1:=by omega
   obtain⟨v,hv⟩ : ∃v,conts l p y 1=v:=⟨_,rfl⟩;rw[hv] at hle Q3 Q4 ⊢;clear hv
   by_cases g1:v<128
   ·have g1':(v:Int)<128:=by omega
    have HA:Hid (ansR l p=.returned (.tuple #[.int .i64 0,.int .i64 0,.bool false])):=Q3.out HALL.out (.inl g1);clear HALL Q2 Q3 Q4;go_wp2;go_ret3;exact⟨by rw[HA.out];simp,rfl⟩
   have g1':¬(v:Int)<128:=by omega
   by_cases g2:1114111<v
   ·have g2':(1114111:Int)<v:=by omega
    have HA:Hid (ansR l p=.returned (.tuple #[.int .i64 0,.int .i64 0,.bool false])):=Q3.out HALL.out (.inr (.inl g2));clear HALL Q2 Q3 Q4;go_wp2;go_ret3;exact⟨by rw[HA.out];simp,rfl⟩
   have g2':¬(1114111:Int)<v:=by omega
   by_cases g3:55296≤v∧v≤57343
   ·have g3':decide ((55296:Int)≤v∧(v:Int)≤57343)=true:=by simp;omega
    have HA:Hid (ansR l p=.returned (.tuple #[.int .i64 0,.int .i64 0,.bool false])):=Q3.out HALL.out (.inr (.inr g3));clear HALL Q2 Q3 Q4;go_wp2_with (go_at_call 68;refine (qax _ _ _ true _ g3').mono ?_;rintro e w' ⟨rfl,rfl⟩)
    go_ret3;exact⟨by rw[HA.out];simp,rfl⟩
   ·have g3':decide ((55296:Int)≤v∧(v:Int)≤57343)=false:=by simp;omega
    have HA:Hid (ansR l p=.returned (.tuple #[.int .i64 (v:Nat),.int .i64 ((p+2:Nat):Int),.bool true])):=Q4.out HALL.out g1 g2 g3;clear HALL Q2 Q3 Q4;go_wp2_with (go_at_call 68;refine (qax _ _ _ false _ g3').mono ?_;rintro e w' ⟨rfl,rfl⟩)
    go_ret3;exact⟨by rw[HA.out];simp;omega,rfl⟩

theorem plain3 {l:List UInt8} {n p x:Nat} (hl:l.length=n) (hp:p<n) (hx:bt l p=x) (h1:224≤x) (h2:x<240) :
  (n≤p+2→runeL (l.drop p)=none) ∧
  ((∃k,k<2∧(bt l (p+(k+1))<128∨191<bt l (p+(k+1))))→runeL (l.drop p)=none) ∧
  ((∀k,k<2→128≤bt l (p+(k+1))∧bt l (p+(k+1))≤191)→(conts l p (x%16) 2<2048∨1114111<conts l p (x%16) 2∨(55296≤conts l p (x%16) 2∧conts l p (x%16) 2≤57343))→runeL (l.drop p)=none) ∧
  (p+2<n→(∀k,k<2→128≤bt l (p+(k+1))∧bt l (p+(k+1))≤191)→¬(conts l p (x%16) 2<2048)→¬(1114111<conts l p (x%16) 2)→¬(55296≤conts l p (x%16) 2∧conts l p (x%16) 2≤57343)→runeL (l.drop p)=some (conts l p (x%16) 2,3)):=by
 have e:runeL (l.drop p)=(if 2<n-p∧(128≤bt l (p+1)∧bt l (p+1)≤191)∧(128≤bt l (p+2)∧bt l (p+2)≤191)∧2048≤x%16*4096+bt l (p+1)%64*64+bt l (p+2)%64∧¬(55296≤x%16*4096+bt l (p+1)%64*64+bt l (p+2)%64∧x%16*4096+bt l (p+1)%64*64+bt l (p+2)%64≤57343) then some (x%16*4096+bt l (p+1)%64*64+bt l (p+2)%64,3) else none):=by
  rw[qlv hl hp,hx];unfold rune4;rw[if_neg (by omega),if_neg (by omega),if_neg (by omega),if_pos h2]
 rw[e];refine⟨fun h=>if_neg (by omega),?_,fun h hbad=>?_,fun hs h a b c=>?_⟩
 ·rintro ⟨k,hk,h⟩;have hk':k=0∨k=1:=by omega
  rcases hk' with rfl | rfl
  all_goals (simp only[Nat.zero_add,Nat.reduceAdd] at h;exact if_neg (by omega))
 ·have a0:=h 0 (by omega);have a1:=h 1 (by omega);simp only[conts,Nat.zero_add,Nat.reduceAdd] at *;exact if_neg (by omega)
 ·have a0:=h 0 (by omega);have a1:=h 1 (by omega);simp only[conts,Nat.zero_add,Nat.reduceAdd] at *;rw[if_pos (by omega)];simp only[Option.some.injEq,Prod.mk.injEq,and_true];omega

theorem qqc (b off n cap p:Nat) (l:List UInt8) (w:World) (hl:l.length=n) (hp:p<n) (hn:n<9223372036854775800) (hc:∀i,i<n→w.cell? ⟨b,off+i,none⟩ = some (.int .u8 (bt l i)))
  (h1:224≤bt l p) (h2:bt l p<240) :
  Calls Tryz.prog 148 #[.slice (some ⟨b,off,none⟩) n cap,.int .i64 p] w fun e w'=>e=ansR l p∧w'=w:=by
 have hcp:=hc p hp;have p0:(0:Int)≤p:=by omega
 have p1:(p:Int)<n:=by omega
 obtain⟨x,hx⟩ : ∃x,bt l p=x:=⟨_,rfl⟩;rw[hx] at hcp h1 h2;obtain⟨P1,P2,P3,P4⟩:=plain3 hl hp hx h1 h2;have k1:(224:Int)≤x:=by omega
 have k2:(x:Int)<240:=by omega
 have k3:(128:Int)≤x:=by omega
 have hb:bits .and .i64 (x:Int) 15=((x%16:Nat):Int):=by rw[mask15];omega
 have HX:Hid (bt l p=x):=hx;have HC:Hid (∀i,i<n→w.cell? ⟨b,off+i,none⟩ = some (.int .u8 (bt l i))):=hc;clear hc hl hx
 by_cases hs:n≤p+2
 ·have HA:Hid (ansR l p=.returned (.tuple #[.int .i64 0,.int .i64 0,.bool false])):=qdk (P1 hs);clear P1 P2 P3 P4;have hs':(n:Int)-1-2<p:=by omega
  go_enter Tryz.func148,Tryz.ntmps148;go_wp2;go_ret3;exact⟨by rw[HA.out];simp,rfl⟩
 have hs':¬(n:Int)-1-2<p:=by omega
 have Q2:Hid ((∃k,k<2∧(bt l (p+(k+1))<128∨191<bt l (p+(k+1))))→ansR l p=.returned (.tuple #[.int .i64 0,.int .i64 0,.bool false])):=fun h=>qdk (P2 h)
 have Q3:Hid ((∀k,k<2→128≤bt l (p+(k+1))∧bt l (p+(k+1))≤191)→(conts l p (x%16) 2<2048∨1114111<conts l p (x%16) 2∨(55296≤conts l p (x%16) 2∧conts l p (x%16) 2≤57343))→ansR l p=.returned (.tuple #[.int .i64 0,.int .i64 0,.bool false])):=fun h g=>qdk (P3 h g)
 have Q4:Hid ((∀k,k<2→128≤bt l (p+(k+1))∧bt l (p+(k+1))≤191)→¬(conts l p (x%16) 2<2048)→¬(1114111<conts l p (x%16) 2)→¬(55296≤conts l p (x%16) 2∧conts l p (x%16) 2≤57343)→ansR l p=.returned (.tuple #[.int .i64 (conts l p (x%16) 2:Nat),.int .i64 ((p+3:Nat):Int),.bool true])):=fun h a b c=>qjf (P4 (by omega) h a b c)
 clear P1 P2 P3 P4;obtain⟨y,hy⟩ : ∃y,x%16=y:=⟨_,rfl⟩;have hy':y≤31:=by omega
 rw[hy] at hb Q3 Q4;clear hy;go_enter Tryz.func148,Tryz.ntmps148;go_wp2
 go_loop [10,11,12] (fun v i _=>∃k:Nat,k≤2∧i=.int .i64 ((k:Int)+1)∧v=.int .i64 (conts l p y k:Nat)∧∀j,j<k→128≤bt l (p+(j+1))∧bt l (p+(j+1))≤191) (fun _ i _=>(2+1-intOf i).toNat)
 case atStart=>exact⟨0,by omega,rfl,rfl,fun j hj=>by omega⟩
 case round=>
  obtain⟨k,hk,rfl,rfl,hall⟩:=hrel;have HALL:Hid (∀j,j<k→128≤bt l (p+(j+1))∧bt l (p+(j+1))≤191):=hall;clear hall;have hle:=qrq l p y hy' k (by omega)
  by_cases hlt:k<2
  ·have hck:=HC.out (p+(k+1)) (by omega);have hq:=bt_lt l (p+(k+1));have hi0:(p:Int)+((k:Int)+1)<n:=by omega
   have hlt':(k:Int)+1≤2:=by omega
   have HS:Hid (conts l p y (k+1)=conts l p y k*64+bt l (p+(k+1))%64):=rfl;obtain⟨z,hz⟩ : ∃z,bt l (p+(k+1))=z:=⟨_,rfl⟩;rw[hz] at hck hq HS;have HZ:Hid (bt l (p+(k+1))=z):=hz;clear hz;obtain⟨v,hv⟩ : ∃v,conts l p y k=v:=⟨_,rfl⟩;rw[hv] at hle HS ⊢;clear hv
   by_cases g1:z<128
   ·have g1':(z:Int)<128:=by omega
    have HA:Hid (ansR l p=.returned (.tuple #[.int .i64 0,.int .i64 0,.bool false])):=Q2.out ⟨k,hlt,by rw[HZ.out];exact .inl g1⟩;go_wp2;go_ret3;exact⟨by rw[HA.out];simp,rfl⟩
   have g1':(128:Int)≤z:=by omega
   by_cases g2:191<z
   ·have g2':(191:Int)<z:=by omega
    have HA:Hid (ansR l p=.returned (.tuple #[.int .i64 0,.int .i64 0,.bool false])):=Q2.out ⟨k,hlt,by rw[HZ.out];exact .inr g2⟩;go_wp2;go_ret3;exact⟨by rw[HA.out];simp,rfl⟩
   ·have g2':(z:Int)≤191:=by omega
    go_wp2
    go_round
    case rel=>
     refine⟨k+1,by omega,by go_num,?_,fun j hj=>?_⟩
     ·rw[HS.out];go_num
     ·rcases Nat.lt_or_ge j k with h | h
      ·exact HALL.out j h
      ·obtain rfl:j=k:=by omega
       rw[HZ.out];omega
    case measure=>simp[intOf];omega
  ·obtain rfl:k=2:=by omega
   have hx':¬((2:Nat):Int)+1≤2:=by omega
   obtain⟨v,hv⟩ : ∃v,conts l p y 2=v:=⟨_,rfl⟩;rw[hv] at hle Q3 Q4 ⊢;clear hv
   by_cases g1:v<2048
   ·have g1':(v:Int)<2048:=by omega
    have HA:Hid (ansR l p=.returned (.tuple #[.int .i64 0,.int .i64 0,.bool false])):=Q3.out HALL.out (.inl g1);clear HALL Q2 Q3 Q4;go_wp2;go_ret3;exact⟨by rw[HA.out];simp,rfl⟩
   have g1':¬(v:Int)<2048:=by omega
   by_cases g2:1114111<v
   ·have g2':(1114111:Int)<v:=by omega
    have HA:Hid (ansR l p=.returned (.tuple #[.int .i64 0,.int .i64 0,.bool false])):=Q3.out HALL.out (.inr (.inl g2));clear HALL Q2 Q3 Q4;go_wp2;go_ret3;exact⟨by rw[HA.out];simp,rfl⟩
   have g2':¬(1114111:Int)<v:=by omega
   by_cases g3:55296≤v∧v≤57343
   ·have g3':decide ((55296:Int)≤v∧(v:Int)≤57343)=true:=by simp;omega
    have HA:Hid (ansR l p=.returned (.tuple #[.int .i64 0,.int .i64 0,.bool false])):=Q3.out HALL.out (.inr (.inr g3));clear HALL Q2 Q3 Q4;go_wp2_with (go_at_call 68;refine (qax _ _ _ true _ g3').mono ?_;rintro e w' ⟨rfl,rfl⟩)
    go_ret3;exact⟨by rw[HA.out];simp,rfl⟩
   ·have g3':decide ((55296:Int)≤v∧(v:Int)≤57343)=false:=by simp;omega
    have HA:Hid (ansR l p=.returned (.tuple #[.int .i64 (v:Nat),.int .i64 ((p+3:Nat):Int),.bool true])):=Q4.out HALL.out g1 g2 g3;clear HALL Q2 Q3 Q4;go_wp2_with (go_at_call 68;refine (qax _ _ _ false _ g3').mono ?_;rintro e w' ⟨rfl,rfl⟩)
    go_ret3;exact⟨by rw[HA.out];simp;omega,rfl⟩

theorem plain4 {l:List UInt8} {n p x:Nat} (hl:l.length=n) (hp:p<n) (hx:bt l p=x) (h1:240≤x) (h2:x<248) :
  (n≤p+3→runeL (l.drop p)=none) ∧
  ((∃k,k<3∧(bt l (p+(k+1))<128∨191<bt l (p+(k+1))))→runeL (l.drop p)=none) ∧
  ((∀k,k<3→128≤bt l (p+(k+1))∧bt l (p+(k+1))≤191)→(conts l p (x%8) 3<65536∨1114111<conts l p (x%8) 3∨(55296≤conts l p (x%8) 3∧conts l p (x%8) 3≤57343))→runeL (l.drop p)=none) ∧
  (p+3<n→(∀k,k<3→128≤bt l (p+(k+1))∧bt l (p+(k+1))≤191)→¬(conts l p (x%8) 3<65536)→¬(1114111<conts l p (x%8) 3)→¬(55296≤conts l p (x%8) 3∧conts l p (x%8) 3≤57343)→runeL (l.drop p)=some (conts l p (x%8) 3,4)):=by
 have e:runeL (l.drop p)=(if 3<n-p∧(128≤bt l (p+1)∧bt l (p+1)≤191)∧(128≤bt l (p+2)∧bt l (p+2)≤191)∧(128≤bt l (p+3)∧bt l (p+3)≤191)∧65536≤x%8*262144+bt l (p+1)%64*4096+bt l (p+2)%64*64+bt l (p+3)%64∧x%8*262144+bt l (p+1)%64*4096+bt l (p+2)%64*64+bt l (p+3)%64≤1114111 then some (x%8*262144+bt l (p+1)%64*4096+bt l (p+2)%64*64+bt l (p+3)%64,4) else none):=by
  rw[qlv hl hp,hx];unfold rune4;rw[if_neg (by omega),if_neg (by omega),if_neg (by omega),if_neg (by omega),if_pos h2]
 rw[e];refine⟨fun h=>if_neg (by omega),?_,fun h hbad=>?_,fun hs h a b c=>?_⟩
 ·rintro ⟨k,hk,h⟩;have hk':k=0∨k=1∨k=2:=by omega
  rcases hk' with rfl | rfl | rfl
  all_goals (simp only[Nat.zero_add,Nat.reduceAdd] at h;exact if_neg (by omega))
 ·have a0:=h 0 (by omega);have a1:=h 1 (by omega);have a2:=h 2 (by omega);simp only[conts,Nat.zero_add,Nat.reduceAdd] at *;exact if_neg (by omega)
 ·have a0:=h 0 (by omega);have a1:=h 1 (by omega);have a2:=h 2 (by omega);simp only[conts,Nat.zero_add,Nat.reduceAdd] at *;rw[if_pos (by omega)];simp only[Option.some.injEq,Prod.mk.injEq,and_true];omega

theorem qqd (b off n cap p:Nat) (l:List UInt8) (w:World) (hl:l.length=n) (hp:p<n) (hn:n<9223372036854775800) (hc:∀i,i<n→w.cell? ⟨b,off+i,none⟩ = some (.int .u8 (bt l i)))
  (h1:240≤bt l p) (h2:bt l p<248) :
  Calls Tryz.prog 148 #[.slice (some ⟨b,off,none⟩) n cap,.int .i64 p] w fun e w'=>e=ansR l p∧w'=w:=by
 have hcp:=hc p hp;have p0:(0:Int)≤p:=by omega
 have p1:(p:Int)<n:=by omega
 obtain⟨x,hx⟩ : ∃x,bt l p=x:=⟨_,rfl⟩;rw[hx] at hcp h1 h2;obtain⟨P1,P2,P3,P4⟩:=plain4 hl hp hx h1 h2;have k1:(240:Int)≤x:=by omega
 have k2:(x:Int)<248:=by omega
 have k3:(128:Int)≤x:=by omega
 have hb:bits .and .i64 (x:Int) 7=((x%8:Nat):Int):=by rw[mask7];omega
 have HX:Hid (bt l p=x):=hx;have HC:Hid (∀i,i<n→w.cell? ⟨b,off+i,none⟩ = some (.int .u8 (bt l i))):=hc;clear hc hl hx
 by_cases hs:n≤p+3
 ·have HA:Hid (ansR l p=.returned (.tuple #[.int .i64 0,.int .i64 0,.bool false])):=qdk (P1 hs);clear P1 P2 P3 P4;have hs':(n:Int)-1-3<p:=by omega
  go_enter Tryz.func148,Tryz.ntmps148;go_wp2;go_ret3;exact⟨by rw[HA.out];simp,rfl⟩
 have hs':¬(n:Int)-1-3<p:=by omega
 have Q2:Hid ((∃k,k<3∧(bt l (p+(k+1))<128∨191<bt l (p+(k+1))))→ansR l p=.returned (.tuple #[.int .i64 0,.int .i64 0,.bool false])):=fun h=>qdk (P2 h)
 have Q3:Hid ((∀k,k<3→128≤bt l (p+(k+1))∧bt l (p+(k+1))≤191)→(conts l p (x%8) 3<65536∨1114111<conts l p (x%8) 3∨(55296≤conts l p (x%8) 3∧conts l p (x%8) 3≤57343))→ansR l p=.returned (.tuple #[.int .i64 0,.int .i64 0,.bool false])):=fun h g=>qdk (P3 h g)
 have Q4:Hid ((∀k,k<3→128≤bt l (p+(k+1))∧bt l (p+(k+1))≤191)→¬(conts l p (x%8) 3<65536)→¬(1114111<conts l p (x%8) 3)→¬(55296≤conts l p (x%8) 3∧conts l p (x%8) 3≤57343)→ansR l p=.returned (.tuple #[.int .i64 (conts l p (x%8) 3:Nat),.int .i64 ((p+4:Nat):Int),.bool true])):=fun h a b c=>qjf (P4 (by omega) h a b c)
 clear P1 P2 P3 P4;obtain⟨y,hy⟩ : ∃y,x%8=y:=⟨_,rfl⟩;have hy':y≤31:=by omega
 rw[hy] at hb Q3 Q4;clear hy;go_enter Tryz.func148,Tryz.ntmps148;go_wp2
 go_loop [10,11,12] (fun v i _=>∃k:Nat,k≤3∧i=.int .i64 ((k:Int)+1)∧v=.int .i64 (conts l p y k:Nat)∧∀j,j<k→128≤bt l (p+(j+1))∧bt l (p+(j+1))≤191) (fun _ i _=>(3+1-intOf i).toNat)
 case atStart=>exact⟨0,by omega,rfl,rfl,fun j hj=>by omega⟩
 case round=>
  obtain⟨k,hk,rfl,rfl,hall⟩:=hrel;have HALL:Hid (∀j,j<k→128≤bt l (p+(j+1))∧bt l (p+(j+1))≤191):=hall;clear hall;have hle:=qrq l p y hy' k (by omega)
  by_cases hlt:k<3
  ·have hck:=HC.out (p+(k+1)) (by omega);have hq:=bt_lt l (p+(k+1));have hi0:(p:Int)+((k:Int)+1)<n:=by omega
   have hlt':(k:Int)+1≤3:=by omega
   have HS:Hid (conts l p y (k+1)=conts l p y k*64+bt l (p+(k+1))%64):=rfl;obtain⟨z,hz⟩ : ∃z,bt l (p+(k+1))=z:=⟨_,rfl⟩;rw[hz] at hck hq HS;have HZ:Hid (bt l (p+(k+1))=z):=hz;clear hz;obtain⟨v,hv⟩ : ∃v,conts l p y k=v:=⟨_,rfl⟩;rw[hv] at hle HS ⊢;clear hv
   by_cases g1:z<128
   ·have g1':(z:Int)<128:=by omega
    have HA:Hid (ansR l p=.returned (.tuple #[.int .i64 0,.int .i64 0,.bool false])):=Q2.out ⟨k,hlt,by rw[HZ.out];exact .inl g1⟩;go_wp2;go_ret3;exact⟨by rw[HA.out];simp,rfl⟩
   have g1':(128:Int)≤z:=by omega
   by_cases g2:191<z
   ·have g2':(191:Int)<z:=by omega
    have HA:Hid (ansR l p=.returned (.tuple #[.int .i64 0,.int .i64 0,.bool false])):=Q2.out ⟨k,hlt,by rw[HZ.out];exact .inr g2⟩;go_wp2;go_ret3;exact⟨by rw[HA.out];simp,rfl⟩
   ·have g2':(z:Int)≤191:=by omega
    go_wp2
    go_round
    case rel=>
     refine⟨k+1,by omega,by go_num,?_,fun j hj=>?_⟩
     ·rw[HS.out];go_num
     ·rcases Nat.lt_or_ge j k with h | h
      ·exact HALL.out j h
      ·obtain rfl:j=k:=by omega
       rw[HZ.out];omega
    case measure=>simp[intOf];omega
  ·obtain rfl:k=3:=by omega
   have hx':¬((3:Nat):Int)+1≤3:=by omega
   obtain⟨v,hv⟩ : ∃v,conts l p y 3=v:=⟨_,rfl⟩;rw[hv] at hle Q3 Q4 ⊢;clear hv
   by_cases g1:v<65536
   ·have g1':(v:Int)<65536:=by omega
    have HA:Hid (ansR l p=.returned (.tuple #[.int .i64 0,.int .i64 0,.bool false])):=Q3.out HALL.out (.inl g1);clear HALL Q2 Q3 Q4;go_wp2;go_ret3;exact⟨by rw[HA.out];simp,rfl⟩
   have g1':¬(v:Int)<65536:=by omega
   by_cases g2:1114111<v
   ·have g2':(1114111:Int)<v:=by omega
    have HA:Hid (ansR l p=.returned (.tuple #[.int .i64 0,.int .i64 0,.bool false])):=Q3.out HALL.out (.inr (.inl g2));clear HALL Q2 Q3 Q4;go_wp2;go_ret3;exact⟨by rw[HA.out];simp,rfl⟩
   have g2':¬(1114111:Int)<v:=by omega
   by_cases g3:55296≤v∧v≤57343
   ·have g3':decide ((55296:Int)≤v∧(v:Int)≤57343)=true:=by simp;omega
    have HA:Hid (ansR l p=.returned (.tuple #[.int .i64 0,.int .i64 0,.bool false])):=Q3.out HALL.out (.inr (.inr g3));clear HALL Q2 Q3 Q4;go_wp2_with (go_at_call 68;refine (qax _ _ _ true _ g3').mono ?_;rintro e w' ⟨rfl,rfl⟩)
    go_ret3;exact⟨by rw[HA.out];simp,rfl⟩
   ·have g3':decide ((55296:Int)≤v∧(v:Int)≤57343)=false:=by simp;omega
    have HA:Hid (ansR l p=.returned (.tuple #[.int .i64 (v:Nat),.int .i64 ((p+4:Nat):Int),.bool true])):=Q4.out HALL.out g1 g2 g3;clear HALL Q2 Q3 Q4;go_wp2_with (go_at_call 68;refine (qax _ _ _ false _ g3').mono ?_;rintro e w' ⟨rfl,rfl⟩)
    go_ret3;exact⟨by rw[HA.out];simp;omega,rfl⟩

theorem qgm (ao:Option Addr) (n cap p:Nat) (l:List UInt8) (w:World) (hr:Rd w ao n l) (hp:p<n) (hn:n<9223372036854775800) :
  Calls Tryz.prog 148 #[.slice ao n cap,.int .i64 p] w fun e w'=>e=ansR l p∧w'=w:=by
 obtain⟨b,off,rfl,hc⟩:=hr.at (by omega);have hl:=hr.1;have q:=bt_lt l p
 rcases Nat.lt_or_ge (bt l p) 128 with h | h
 ·exact qnz b off n cap p l w hl hp (by omega) hc h
 rcases Nat.lt_or_ge (bt l p) 192 with h1 | h1
 ·exact qix b off n cap p l w hl hp (by omega) hc (.inl ⟨h,h1⟩)
 rcases Nat.lt_or_ge (bt l p) 224 with h2 | h2
 ·exact qqb b off n cap p l w hl hp hn hc h1 h2
 rcases Nat.lt_or_ge (bt l p) 240 with h3 | h3
 ·exact qqc b off n cap p l w hl hp hn hc h2 h3
 rcases Nat.lt_or_ge (bt l p) 248 with h4 | h4
 ·exact qqd b off n cap p l w hl hp hn hc h3 h4
 ·exact qix b off n cap p l w hl hp (by omega) hc (.inr h4)


theorem qul (s:ByteArray) (cap i:Nat) (h:i<s.size):(bytesRow s cap)[i]? = some (.int .u8 (bt s.data.toList i)):=by
 have hs:s.size=s.data.size:=rfl;have e:bt s.data.toList i=(s.data[i]'(by omega)).toNat:=by
  simp only[bt,List.getD_eq_getElem?_getD];rw[List.getElem?_eq_getElem (by simpa using (by omega:i<s.data.size))];simp
 simp only[bytesRow];rw[Array.getElem?_append_left (by simpa using (by omega:i<s.data.size))];rw[Array.getElem?_map,Array.getElem?_eq_getElem (by omega)];simp[e]

theorem bytes_made (s:ByteArray) (w:World):∃wb cap,(convert 9 22 (.string s)).run Tryz.prog w=.ok (.slice (some ⟨w.heap.size,0,none⟩) s.size cap) wb ∧
  Rd wb (some ⟨w.heap.size,0,none⟩) s.size s.data.toList∧Below w.heap.size w wb:=by
 refine⟨_,_,run_bytes_of_string w 9 22 5 s Tryz.underlying9 Tryz.underlying22 Tryz.underlying5,⟨rfl,fun i hi=>⟨_,_,rfl,?_⟩⟩,?_⟩
 ·show (w.drew.alloc _).cell? ⟨w.drew.heap.size,_,none⟩ = _;rw[Nat.zero_add,World.cell?_alloc_mark];exact qul s _ i hi
 ·exact ((Below.refl _ _).drew).alloc (Nat.le_refl _) _

theorem qup {l:List UInt8} (h:¬60<l.length) {n:Nat} (hc:qcj l.length l=some n):qhf l=n:=by simp[qhf,qnc,h,hc]
theorem quo {l:List UInt8} (h:¬60<l.length) (hc:qcj l.length l=none):qhf l = -1:=by simp[qhf,qnc,h,hc]

theorem qmb (s:ByteArray) (w:World) (hs:s.size<9223372036854775800) :
  Calls Tryz.prog 121 #[.string s] w fun e w'=>e=.returned (.int .i64 (qhf s.data.toList))∧Below w.heap.size w w':=by
 have e1:s.size=s.data.toList.length:=rfl
 by_cases hlong:60<s.size
 ·have h':(60:Int)<(s.size:Int):=by omega
  have hk:Hid (qhf s.data.toList = -1):=qun (by omega);clear e1;go_enter Tryz.func121,Tryz.ntmps121;go_wp2;go_ret;exact⟨qsj hk.out.symm,Below.refl _ _⟩
 have h':(s.size:Int)≤60:=by omega
 have K1:Hid (∀n,qcj s.data.toList.length s.data.toList=some n→qhf s.data.toList=n):=fun n h=>qup (by omega) h
 have K2:Hid (qcj s.data.toList.length s.data.toList=none→qhf s.data.toList = -1):=fun h=>quo (by omega) h
 have H1:Hid (s.size=s.data.toList.length):=e1;clear e1;obtain⟨wb,cap,hconv,hrd,hbel⟩:=bytes_made s w;generalize hl:s.data.toList=l at *;clear hl;go_enter Tryz.func121,Tryz.ntmps121;go_wp2
 go_loop [4,5,6,7,8] (fun n i _ _ _=>∃pos acc f:Nat,i=.int .i64 pos∧n=.int .i64 acc∧pos≤s.size∧s.size≤pos+f∧acc≤pos∧qcj l.length l=(qcj f (l.drop pos)).map (acc+·)) (fun _ i _ _ _=>s.size-(intOf i).toNat)
 case atStart=>exact⟨0,0,l.length,rfl,rfl,Nat.zero_le _,by have:=H1.out;omega,Nat.le_refl _,by simp⟩
 case round=>
  obtain⟨pos,acc,f,rfl,rfl,hpos,hf,ha,hc⟩:=hrel;have HC:Hid (qcj l.length l=(qcj f (l.drop pos)).map (acc+·)):=hc;clear hc
  by_cases hp:pos<s.size
  ·have hp':(pos:Int)<s.size:=by omega
   have hl0:(l.drop pos).length≠0:=by rw[List.length_drop,←H1.out];omega
   cases hr:runeL (l.drop pos) with
   |none=>
    have HA:Hid (ansR l pos=_):=qdk hr;have HF:Hid (qcj f (l.drop pos)=none):=qjz hl0 (.inl hr);clear hr hl0;go_wp2_with (go_at_call 148;refine (qgm _ _ _ _ _ _ hrd hp hs).mono ?_;rintro e w' ⟨he,rfl⟩;rw[HA.out] at he;subst he)
    go_ret;exact⟨qsj (K2.out (by rw[HC.out,HF.out];rfl)).symm,hbel⟩
   |some rk=>
    obtain⟨r,k⟩:=rk;have hw:=qfd hr;rw[List.length_drop,←H1.out] at hw;have HA:Hid (ansR l pos=_):=qjf hr
    by_cases hr0:r=0
    ·subst hr0;have HF:Hid (qcj f (l.drop pos)=none):=qjz hl0 (.inr ⟨k,hr⟩);clear hr hl0;go_wp2_with (go_at_call 148;refine (qgm _ _ _ _ _ _ hrd hp hs).mono ?_;rintro e w' ⟨he,rfl⟩;rw[HA.out] at he;subst he)
     go_ret;exact⟨qsj (K2.out (by rw[HC.out,HF.out];rfl)).symm,hbel⟩
    ·have hz:((r:Int)==0)=false:=by simp;omega
     have HR:Hid (runeL (l.drop pos)=some (r,k)):=hr;have HL:Hid ((l.drop pos).length≠0):=hl0;have H0:Hid (r≠0):=hr0;clear hr hl0 hr0;go_wp2_with (go_at_call 148;refine (qgm _ _ _ _ _ _ hrd hp hs).mono ?_;rintro e w' ⟨he,rfl⟩;rw[HA.out] at he;subst he)
     go_round
     case rel=>
      cases f with
      |zero=>omega
      |succ f=>
       refine⟨pos+k,acc+1,f,by go_num,by go_num,by omega,by omega,by omega,?_⟩;rw[HC.out,qok HL.out HR.out H0.out,List.drop_drop];cases qcj f (l.drop (pos+k))<;>simp
       omega
     case measure=>
      simp[intOf];omega
  ·have hp':¬(pos:Int)<s.size:=by omega
   have HF:Hid (qcj f (l.drop pos)=some 0):=qrb f _ (by rw[List.length_drop,←H1.out];omega);go_wp2;go_ret;exact⟨qsj (K1.out acc (by rw[HC.out,HF.out];rfl)).symm,hbel⟩

theorem qdg (s:ByteArray) (w:World) (hs:s.size<9223372036854775800) :
  Calls Tryz.prog 72 #[.string s] w fun e w'=>e=.returned (.bool (okT s.data.toList))∧Below w.heap.size w w':=by
 have hk:Hid (decide (0≤qhf s.data.toList)=okT s.data.toList):=countI_ge _;go_enter Tryz.func72,Tryz.ntmps72;go_wp2_with (go_at_call 121;refine (qmb s _ hs).mono ?_;rintro e w' ⟨rfl,hb⟩)
 go_ret;exact⟨qad hk.out,hb⟩


theorem info5:(Tryz.prog.info? 5).map (fun i=>(i.zero,i.size,i.bytes))=some (some (.int .u8 0),1,1):=by kernel_rfl

def bvals (l:List UInt8):List Value:=l.map fun u=>Value.int .u8 u.toNat

theorem qjh (l:List UInt8):(bvals l).length=l.length:=by simp[bvals]
theorem qnb (l m:List UInt8):bvals (l++m)=bvals l++bvals m:=by simp[bvals]
theorem bvals_one (l:List UInt8):∀u∈bvals l,u.oneCell'=true:=by
 intro u hu;simp only[bvals,List.mem_map] at hu;obtain⟨b,_,rfl⟩:=hu;rfl
theorem qrp (l:List UInt8) (i:Nat) (h:i<l.length):(bvals l)[i]? = some (.int .u8 (bt l i)):=by
 simp only[bvals,bt,List.getElem?_map,List.getElem?_eq_getElem h,Option.map_some,List.getD_eq_getElem?_getD,Option.getD_some]
theorem bvals_str (s:ByteArray):Lib.strCells s=bvals s.data.toList:=rfl

def RdIn (w:World) (ao:Option Addr) (n cap:Nat) (l:List UInt8):Prop:=Rd w ao n l∧n≤cap∧cap≤maxLen∧(ao=none→cap=0)

theorem RdIn.nil (w:World):RdIn w none 0 0 []:=⟨⟨rfl,fun i hi=>by omega⟩,Nat.le_refl _,Nat.zero_le _,fun _=>rfl⟩

theorem RdIn.of_ints {w:World} {x:Addr} {len cap:Nat} {zs:List Int} (hl:len≤cap) (hm:cap≤maxLen) (hz:zs.length=cap)
  (hcell:∀i,i<zs.length→w.cell? (x.add i)=some (.int .u8 (zs.getD i 0))) (hwz:∀n∈zs,(Lit.int .u8 n).wf=true):∃l,RdIn w (some x) len cap l:=by
 refine⟨(zs.take len).map (fun n=>UInt8.ofNat n.toNat),⟨by simp;omega,fun i hi=>?_⟩,hl,hm,fun h=>by simp at h⟩;obtain⟨b,off,spot⟩:=x;have hc0:=hcell 0 (by omega);have hspot:spot=none:=by simpa[Addr.add] using World.cell?_spot hc0
 subst hspot;have hc:=hcell i (by omega);have hi':i<zs.length:=by omega
 have hw:=hwz zs[i] (List.getElem_mem hi');simp[Lit.wf,IntKind.min,IntKind.max,IntKind.signed,IntKind.bits] at hw;refine⟨b,off,rfl,?_⟩;rw[Addr.add_lit] at hc;rw[hc];have e:((bt ((zs.take len).map (fun n=>UInt8.ofNat n.toNat)) i:Nat):Int)=zs.getD i 0:=by
  simp only[bt,List.getD_eq_getElem?_getD,List.getElem?_map,List.getElem?_take,hi,if_true,List.getElem?_eq_getElem hi',Option.map_some,Option.getD_some];simp;omega
 rw[e]

def Own (w:World) (B:Nat) (ao:Option Addr) (n cap:Nat) (l:List UInt8):Prop:=l.length=n∧w.ownsRow B 5 1 (.slice ao n cap) n (bvals l)

theorem Own.rd {w:World} {B:Nat} {ao:Option Addr} {n cap:Nat} {l:List UInt8} (h:Own w B ao n cap l):RdIn w ao n cap l:=by
 obtain⟨hl,h1,h2⟩:=h
 rcases h2 with ⟨e,rfl⟩ | ⟨g,c,cur,e,hb,hg,hc,hm,hs,ht⟩
 ·simp only[Value.slice.injEq] at e;obtain⟨rfl,_,rfl⟩:=e;exact⟨⟨hl,fun i hi=>by omega⟩,Nat.le_refl _,Nat.zero_le _,fun _=>rfl⟩
 ·simp only[Value.slice.injEq] at e;obtain⟨rfl,_,rfl⟩:=e;refine⟨⟨hl,fun i hi=>⟨g,0,rfl,?_⟩⟩,hc,hm,fun h=>by simp at h⟩;have own:w.ownsRow B 5 1 (.slice (some ⟨g,0,none⟩) n cap) n (bvals l):=⟨h1,.inr ⟨g,cap,cur,rfl,hb,hg,hc,hm,hs,ht⟩⟩;rw[Nat.zero_add,own.cellAt i (by omega),qrp l i (by omega)]

theorem Own.block {w:World} {B:Nat} {ao:Option Addr} {n cap:Nat} {l:List UInt8} (h:Own w B ao n cap l) {a:Addr} (e:ao=some a):B≤a.block∧a.block<w.heap.size:=by
 subst e;exact h.2.lt _ rfl

theorem RdIn.below {w w':World} {ao:Option Addr} {n cap:Nat} {l:List UInt8} (h:RdIn w ao n cap l) (hb:Below w.heap.size w w'):RdIn w' ao n cap l:=by
 refine⟨⟨h.1.1,fun i hi=>?_⟩,h.2⟩;obtain⟨b,off,e,hc⟩:=h.1.2 i hi;exact⟨b,off,e,(hb.cell (World.block_lt_of_cell? w _ hc)).trans hc⟩

theorem Own.below {w w':World} {B:Nat} {ao:Option Addr} {n cap:Nat} {l:List UInt8} (h:Own w B ao n cap l) (hb:Below w.heap.size w w'):Own w' B ao n cap l:=by
 refine⟨h.1,h.2.1,?_⟩
 rcases h.2.2 with hn | ⟨g,c,cur,e,hB,hg,rest⟩
 ·exact .inl hn
 ·exact .inr ⟨g,c,cur,e,hB,by rw[hb.block g (Array.getElem?_eq_some_iff.1 hg).1];exact hg,rest⟩

theorem Own.mono {w:World} {B B':Nat} {ao:Option Addr} {n cap:Nat} {l:List UInt8} (h:Own w B ao n cap l) (hB:B'≤B):Own w B' ao n cap l:=by
 refine⟨h.1,h.2.1,?_⟩
 rcases h.2.2 with hn | ⟨g,c,cur,e,hb,rest⟩
 ·exact .inl hn
 ·exact .inr ⟨g,c,cur,e,by omega,rest⟩

theorem RdIn.grown {w w':World} {ao:Option Addr} {n cap:Nat} {l:List UInt8} {row:Option Nat} (h:RdIn w ao n cap l) (hg:w.grownBy w' row) (hne:∀a,ao=some a→some a.block≠row):RdIn w' ao n cap l:=by
 refine⟨⟨h.1.1,fun i hi=>?_⟩,h.2⟩;obtain⟨b,off,e,hc⟩:=h.1.2 i hi;exact⟨b,off,e,hg.cell hc (show some b≠row from hne ⟨b,off,none⟩ e)⟩

theorem Own.grown {w w':World} {B:Nat} {ao:Option Addr} {n cap:Nat} {l:List UInt8} {row:Option Nat} (h:Own w B ao n cap l) (hg:w.grownBy w' row) (hne:∀a,ao=some a→some a.block≠row):Own w' B ao n cap l:=by
 refine⟨h.1,h.2.kept hg ?_⟩;cases ao with
 |none=>exact .inl rfl
 |some a=>exact .inr (hne a rfl)

theorem own_open {w:World} {B:Nat} {v:Value} {n:Nat} {l:List UInt8} (hl:l.length=n) (h:w.ownsRow B 5 1 v n (bvals l)):∃ao cap,v=.slice ao n cap∧Own w B ao n cap l:=by
 rcases h.2 with ⟨rfl,rfl⟩ | ⟨g,c,cur,rfl,_⟩
 ·exact⟨none,0,rfl,hl,h⟩
 ·exact⟨_,_,rfl,hl,h⟩

theorem w_app {ops:Array Oper} {rest:List Oper} {o:Oper} {a:Act} {Q:Exit→Act→World→Prop} (w:World) (hgd:o.guard=none) (s x:Operand)
  (ho:o.op=.call { callee:=.builtin .append,args:=#[s,x],argTypes:=#[22,22] })
  (B:Nat) (ao:Option Addr) (n cap:Nat) (l:List UInt8) (hs:a.eval s=.slice ao n cap) (hown:Own w B ao n cap l)
  (ax:Option Addr) (m c:Nat) (lx:List UInt8) (hx:a.eval x=.slice ax m c) (hr:RdIn w ax m c lx) (hb:n+m≤140737488355328) (hB:B≤w.heap.size)
  (h:∀ao' cap' w',Own w' B ao' (n+m) cap' (l++lx)→w.grownBy w' (Value.slice ao n cap).ownBlock→wpList Tryz.prog ops Q rest (a.put o.dst (.slice ao' (n+m) cap')) w') :
  wpList Tryz.prog ops Q (o :: rest) a w:=by
 obtain⟨i0,hi,hz0,hz1,hz2⟩:=info_parts info5;have hlen:(l++lx).length=n+m:=by rw[List.length_append,hown.1,hr.1.1]
 cases ax with
 |none=>
  have hc:c=0:=hr.2.2.2 rfl;have hm:m=0:=by have:=hr.2.1;omega
  subst hc;subst hm;have hlx:lx = []:=List.eq_nil_of_length_eq_zero hr.1.1;subst hlx;refine wpList_append_own_none hgd s x 22 ho B 5 i0 1 Tryz.underlying22 hi (.slice ao n cap) n (bvals l) hs hown.2 hx ?_;have:=h ao cap w (by simpa using hown) (World.grownBy.refl _ _)
  simpa using this
 |some ad=>
  refine wpList_append_own w hgd s x 22 ho B 5 i0 (.int .u8 0) 1 1 Tryz.underlying22 hi hz0 hz1 hz2 rfl (by decide) (.slice ao n cap) n (bvals l) hs hown.2 ad m c (bvals lx) hx (by rw[qjh,hr.1.1,Nat.mul_one]) ?_ (bvals_one lx) (by unfold maxLen;omega) (by omega) hB ?_
  ·intro j u hu;have hj:j<lx.length:=by
    have:=(List.getElem?_eq_some_iff.1 hu).1
    rwa [qjh] at this
   obtain⟨b,off,e,hcell⟩:=hr.1.2 j (by rw[←hr.1.1];exact hj);simp at e;subst e;rw[qrp lx j hj] at hu;rw[Addr.add_lit,hcell];exact hu
  ·intro v' w' hv hg _;rw[←qnb] at hv;obtain⟨ao',cap',rfl,hown'⟩:=own_open hlen hv;exact h ao' cap' w' hown' hg

theorem w_apps {ops:Array Oper} {rest:List Oper} {o:Oper} {a:Act} {Q:Exit→Act→World→Prop} (w:World) (hgd:o.guard=none) (s x:Operand)
  (ho:o.op=.call { callee:=.builtin .append,args:=#[s,x],argTypes:=#[22,9] })
  (B:Nat) (ao:Option Addr) (n cap:Nat) (l:List UInt8) (hs:a.eval s=.slice ao n cap) (hown:Own w B ao n cap l)
  (str:ByteArray) (hx:a.eval x=.string str) (hb:n+str.size≤140737488355328) (hB:B≤w.heap.size)
  (h:∀ao' cap' w',Own w' B ao' (n+str.size) cap' (l++str.data.toList)→w.grownBy w' (Value.slice ao n cap).ownBlock→wpList Tryz.prog ops Q rest (a.put o.dst (.slice ao' (n+str.size) cap')) w') :
  wpList Tryz.prog ops Q (o :: rest) a w:=by
 obtain⟨i0,hi,hz0,hz1,hz2⟩:=info_parts info5;have hlen:(l++str.data.toList).length=n+str.size:=by rw[List.length_append,hown.1];rfl
 refine Lib.wpList_append_own_string w hgd s x 22 9 ho B 5 i0 Tryz.underlying22 Tryz.underlying9 hi hz0 hz1 hz2 (.slice ao n cap) n (bvals l) hs hown.2 str hx (by unfold maxLen;omega) hb hB ?_;intro v' w' hv hg _;rw[bvals_str,←qnb] at hv;obtain⟨ao',cap',rfl,hown'⟩:=own_open hlen hv;exact h ao' cap' w' hown' hg

theorem w_make0 {ops:Array Oper} {rest:List Oper} {o:Oper} {a:Act} {Q:Exit→Act→World→Prop} (w:World) (hgd:o.guard=none) (l c:Operand) (hop:o.op=Op.makeSlice 22 l c)
  (C:Int) (n:Nat) (hl:a.eval l=.int .i64 0) (hc:a.eval c=.int .i64 C) (hC:C=(n:Int)) (hb:n≤140737488355328)
  (h:∀w',Own w' w.heap.size (some ⟨w.heap.size,0,none⟩) 0 n []→Below w.heap.size w w'→wpList Tryz.prog ops Q rest (a.put o.dst (.slice (some ⟨w.heap.size,0,none⟩) 0 n)) w') :
  wpList Tryz.prog ops Q (o :: rest) a w:=by
 obtain⟨i0,hi,hz0,hz1,hz2⟩:=info_parts info5;refine wpList_make_own w hgd l c 22 hop w.heap.size 5 i0 (.int .u8 0) 1 Tryz.underlying22 hi hz0 hz1 .i64 .i64 C n hl hc hC (by rw[hz2];omega) (by unfold maxLen;omega) (Nat.le_refl _) ?_;intro w' hown hg;exact h w' ⟨rfl,hown⟩ ((Below.refl _ _).grown hg (Nat.le_refl _) (fun k hk=>by cases hk))


theorem Own.frozen {w:World} {B:Nat} {g n cap:Nat} {l:List UInt8} (h:Own w B (some ⟨g,0,none⟩) n cap l) (j:Nat):w.frozen? ⟨g,j,none⟩ = false:=h.2.frozenAt j
theorem Own.cell {w:World} {B:Nat} {g n cap:Nat} {l:List UInt8} (h:Own w B (some ⟨g,0,none⟩) n cap l) (j:Nat) (hj:j<n):w.cell? ⟨g,j,none⟩ = some (.int .u8 (bt l j)):=by
 rw[h.2.cellAt j (by omega),qrp l j (by rw[h.1];exact hj)]

theorem Own.store {w:World} {B:Nat} {g n cap:Nat} {l:List UInt8} (h:Own w B (some ⟨g,0,none⟩) n cap l) (j:Nat) (u:UInt8) :
  Own (w.setCell ⟨g,j,none⟩ (.int .u8 u.toNat)) B (some ⟨g,0,none⟩) n cap (l.set j u):=by
 refine⟨by simpa using h.1,?_⟩;have:=(h.2.stored j (.int .u8 u.toNat)).1;have e:(bvals l).set j (.int .u8 u.toNat)=bvals (l.set j u):=by simp[bvals,List.map_set]
 rw[e] at this;exact this


theorem quk (l:List UInt8) (k i:Nat) (h:i<k):bt (l.take k) i=bt l i:=by
 simp only[bt,List.getD_eq_getElem?_getD,List.getElem?_take,h,if_true]

def cut (l:List UInt8) (p m:Nat):ByteArray:=⟨((l.drop p).take m).toArray⟩
theorem conv_cut {w:World} {b off n:Nat} {l:List UInt8} (hl:l.length=n) (hc:∀i,i<n→w.cell? ⟨b,off+i,none⟩ = some (.int .u8 (bt l i))) (p m:Nat) (hpm:p+m≤n) (c:Nat) :
  (convert 22 9 (.slice (some ⟨b,off+p,none⟩) m c)).run Tryz.prog w=.ok (.string (cut l p m)) w:=by
 have h:=run_convert_bytes_arg (P:=Tryz.prog) w 22 5 Tryz.underlying22 Tryz.underlying5 b (off+p) m c (((l.drop p).take m).map fun u=>(u.toNat:Int)) (by simp;omega) (fun i hi=>by
  rw[Nat.add_assoc,hc (p+i) (by omega)];have e:i<((l.drop p).take m).length:=by simp;omega
  simp only[bt,List.getD_eq_getElem?_getD,List.getElem?_map,List.getElem?_take,hi,if_true,List.getElem?_drop];rw[List.getElem?_eq_getElem (show p+i<l.length by omega)];rfl) 9 Tryz.underlying9
 rw[h]
 congr 2
 simp only[strOfNums,cut,List.map_map]
 congr 2
 apply List.ext_getElem
 ·simp
 ·intro i h1 h2;simp

theorem qcv {w w1 w2:World} (h1:Below w.heap.size w w1) (h2:Below w1.heap.size w1 w2):Below w.heap.size w w2:=h1.trans (h2.mono h1.size)


theorem qbs (ao:Option Addr) (n cap m:Nat) (l:List UInt8) (w:World) (hr:RdIn w ao n cap l) (hn:n≤1099511627776) (hm:m≤1099511627776) :
  Calls Tryz.prog 118 #[.slice ao n cap,.int .i64 m] w fun e w'=>∃ao' cap',e=.returned (.slice ao' n cap')∧Own w' w.heap.size ao' n cap' l∧Below w.heap.size w w':=by
 go_enter Tryz.func118,Tryz.ntmps118;go_wp2_with (at_make;refine w_make0 _ rfl _ _ rfl _ (n+m) rfl rfl (by omega) (by omega) ?_)
 intro w1 ho1 hb1;go_wp2_with (at_builtin;refine w_app _ rfl _ _ rfl w.heap.size _ 0 _ [] rfl ho1 _ _ _ l rfl (hr.below hb1) (by omega) (hb1.size) ?_)
 intro a2 c2 w2 ho2 hg2;go_wp2;go_ret;simp only[Nat.zero_add,List.nil_append] at ho2 ⊢;exact⟨a2,c2,rfl,ho2,hb1.grown hg2 hb1.size (fun k hk=>by simp[Value.ownBlock] at hk;omega)⟩

def wordB (x:Int):List UInt8:=[UInt8.ofNat (x / 256%256).toNat,UInt8.ofNat (x%256).toNat]
theorem qbe (x:Int):(wordB x).length=2:=rfl
theorem wordB_0 (x:Int):((bt (wordB x) 0:Nat):Int)=x / 256%256:=by
 show (((UInt8.ofNat (x / 256%256).toNat).toNat:Nat):Int)=_;simp;omega
theorem wordB_1 (x:Int):((bt (wordB x) 1:Nat):Int)=x%256:=by
 show (((UInt8.ofNat (x%256).toNat).toNat:Nat):Int)=_;simp;omega

theorem rd_word (w:World) (x:Int):RdIn (w.alloc (.cells #[.int .u8 (x / 256%256),.int .u8 (x%256)] 5)) (some ⟨w.heap.size,0,none⟩) 2 2 (wordB x):=by
 refine⟨⟨rfl,fun i hi=>⟨_,_,rfl,?_⟩⟩,Nat.le_refl _,by unfold maxLen;omega,fun h=>by simp at h⟩
 match i,hi with
 |0,_=>rw[wordB_0];simp
 |1,_=>rw[wordB_1];simp
 |i+2,hi=>omega

theorem Own.alloc {w:World} {B:Nat} {ao:Option Addr} {n cap:Nat} {l:List UInt8} (h:Own w B ao n cap l) (o:Obj):Own (w.alloc o) B ao n cap l:=h.below ((Below.refl _ _).alloc (Nat.le_refl _) _)
theorem RdIn.alloc {w:World} {ao:Option Addr} {n cap:Nat} {l:List UInt8} (h:RdIn w ao n cap l) (o:Obj):RdIn (w.alloc o) ao n cap l:=h.below ((Below.refl _ _).alloc (Nat.le_refl _) _)

theorem qba {w w1 w2:World} {B:Nat} {ao:Option Addr} {n cap:Nat} {l:List UInt8} (hb:Below B w w1) (hB:B≤w1.heap.size) (ho:Own w1 B ao n cap l) (hg:w1.grownBy w2 (Value.slice ao n cap).ownBlock):Below B w w2 :=
 hb.grown hg hB (fun k hk=>(ho.2.lt k hk).1)

theorem qbm (w:World):Own (w.alloc (.cells #[] 5)) w.heap.size (some ⟨w.heap.size,0,none⟩) 0 0 [] :=
 ⟨rfl,World.ownsRow_made w #[] 0 (Nat.le_refl _) (Nat.zero_le _) (by simp)⟩

theorem qcy (ao:Option Addr) (n cap:Nat) (x:Int) (l:List UInt8) (w:World) (hr:RdIn w ao n cap l) (hn:n≤1099511627776) :
  Calls Tryz.prog 230 #[.slice ao n cap,.int .i64 x] w fun e w'=>∃ao' cap',e=.returned (.slice ao' (n+2) cap')∧Own w' w.heap.size ao' (n+2) cap' (l++wordB x)∧Below w.heap.size w w':=by
 go_enter Tryz.func230,Tryz.ntmps230;go_wp2_with fail
 refine (qbs _ _ _ 2 l _ hr hn (by omega)).mono ?_;rintro e w1 ⟨a1,c1,rfl,ho1,hb1⟩;go_wp2_with (at_builtin;refine w_app _ rfl _ _ rfl w.heap.size _ _ _ l rfl (ho1.alloc _) _ _ _ (wordB x) rfl (rd_word w1 x) (by omega) (by have:=hb1.size;simp;omega) ?_)
 intro a2 c2 w2 ho2 hg2;go_wp2;go_ret;exact⟨a2,c2,rfl,ho2,qba (hb1.alloc hb1.size _) (by have:=hb1.size;simp;omega) (ho1.alloc _) hg2⟩

theorem qfq (ao:Option Addr) (n cap:Nat) (x:Int) (l:List UInt8) (w:World) (hr:RdIn w ao n cap l) (hn:n≤1099511627776) :
  Calls Tryz.prog 140 #[.slice ao n cap,.int .i64 x] w fun e w'=>∃ao' cap',e=.returned (.slice ao' (n+2) cap')∧Own w' w.heap.size ao' (n+2) cap' (l++wordB x)∧Below w.heap.size w w':=by
 have m1:=qvd x;have m2:=qvd (x / 256);go_enter Tryz.func140,Tryz.ntmps140;go_wp2_with (at_builtin;refine w_app _ rfl _ _ rfl w.heap.size _ 0 _ [] rfl (qbm w) _ _ _ l rfl (hr.alloc _) (by omega) (by simp) ?_)
 intro a1 c1 w1 ho1 hg1;have hb1:Below w.heap.size w w1:=qba ((Below.refl _ _).alloc (Nat.le_refl _) _) (by simp) (qbm w) hg1;clear hg1;go_wp2_with (at_builtin;refine w_app _ rfl _ _ rfl w.heap.size _ _ _ l rfl (ho1.alloc _) _ _ _ (wordB x) rfl (rd_word w1 x) (by omega) (by have:=hb1.size;simp;omega) ?_)
 intro a2 c2 w2 ho2 hg2;go_wp2;go_ret;exact⟨a2,c2,rfl,ho2,qba (hb1.alloc hb1.size _) (by have:=hb1.size;simp;omega) (ho1.alloc _) hg2⟩

def putT (l:List UInt8) (s:ByteArray):List UInt8:=if okT s.data.toList then l++(wordB s.size++s.data.toList) else l
theorem qsg {l:List UInt8} {s:ByteArray} (h:okT s.data.toList=true):putT l s=l++(wordB s.size++s.data.toList):=by simp[putT,h]
theorem qvg {l:List UInt8} {s:ByteArray} (h:okT s.data.toList=false):putT l s=l:=by simp[putT,h]
theorem qsc {s:ByteArray} (h:okT s.data.toList=true):s.size≤60:=by
 rcases Nat.lt_or_ge 60 s.size with g | g
 ·rw[qsb (show 60<s.data.toList.length from g)] at h;simp at h
 ·exact g

theorem qcx (ao:Option Addr) (n cap:Nat) (s:ByteArray) (l:List UInt8) (w:World) (hr:RdIn w ao n cap l) (hn:n≤1099511627000) (hs:s.size<9223372036854775800) :
  Calls Tryz.prog 229 #[.slice ao n cap,.string s] w fun e w'=>∃ao' n' cap',e=.returned (.slice ao' n' cap')∧Own w' w.heap.size ao' n' cap' (putT l s)∧Below w.heap.size w w':=by
 cases hok:okT s.data.toList with
 |false=>
  have HP:Hid (putT l s=l):=qvg hok;go_enter Tryz.func229,Tryz.ntmps229;go_wp2_with fail
  refine (qdf s _ (by omega)).mono ?_;rintro e w1 ⟨he,hb1⟩;rw[hok] at he;subst he;go_wp2_with fail
  refine (qbs _ _ _ 0 l _ (hr.below hb1) (by omega) (by omega)).mono ?_;rintro e w2 ⟨a2,c2,rfl,ho2,hb2⟩;go_wp2;go_ret;exact⟨a2,n,c2,rfl,by rw[HP.out];exact ho2.mono hb1.size,qcv hb1 hb2⟩
 |true=>
  have HP:Hid (putT l s=l++(wordB s.size++s.data.toList)):=qsg hok;have h60:=qsc hok;go_enter Tryz.func229,Tryz.ntmps229;go_wp2_with fail
  refine (qdf s _ (by omega)).mono ?_;rintro e w1 ⟨he,hb1⟩;rw[hok] at he;subst he;go_wp2_with fail
  refine (qcy _ _ _ s.size l _ (hr.below hb1) (by omega)).mono ?_;rintro e w2 ⟨a2,c2,rfl,ho2,hb2⟩;go_wp2_with (at_builtin;refine w_apps _ rfl _ _ rfl w1.heap.size _ _ _ (l++wordB s.size) rfl ho2 s rfl (by omega) hb2.size ?_)
  intro a3 c3 w3 ho3 hg3;have hb3:=qba hb2 hb2.size ho2 hg3;go_wp2;go_ret;exact⟨a3,_,c3,rfl,by rw[HP.out];exact ho3.mono hb1.size,qcv hb1 hb3⟩

theorem qcz (ao:Option Addr) (n cap:Nat) (s:ByteArray) (l:List UInt8) (w:World) (hr:RdIn w ao n cap l) (hn:n≤1099511627000) (hs:s.size<9223372036854775800) :
  Calls Tryz.prog 138 #[.slice ao n cap,.string s] w fun e w'=>∃ao' n' cap',e=.returned (.slice ao' n' cap')∧Own w' w.heap.size ao' n' cap' (putT l s)∧Below w.heap.size w w':=by
 cases hok:okT s.data.toList with
 |false=>
  have HP:Hid (putT l s=l):=qvg hok;go_enter Tryz.func138,Tryz.ntmps138;go_wp2_with fail
  refine (qdg s _ hs).mono ?_;rintro e w1 ⟨he,hb1⟩;rw[hok] at he;subst he;go_wp2_with (at_builtin;refine w_app _ rfl _ _ rfl w1.heap.size _ 0 _ [] rfl (qbm w1) _ _ _ l rfl ((hr.below hb1).alloc _) (by omega) (by simp) ?_)
  intro a2 c2 w2 ho2 hg2;have hb2:Below w1.heap.size w1 w2:=qba ((Below.refl _ _).alloc (Nat.le_refl _) _) (by simp) (qbm w1) hg2;go_wp2;go_ret;exact⟨a2,_,c2,rfl,by rw[HP.out];exact ho2.mono hb1.size,qcv hb1 hb2⟩
 |true=>
  have HP:Hid (putT l s=l++(wordB s.size++s.data.toList)):=qsg hok;have h60:=qsc hok;go_enter Tryz.func138,Tryz.ntmps138;go_wp2_with fail
  refine (qdg s _ hs).mono ?_;rintro e w1 ⟨he,hb1⟩;rw[hok] at he;subst he;go_wp2_with fail
  refine (qfq _ _ _ s.size l _ (hr.below hb1) (by omega)).mono ?_;rintro e w2 ⟨a2,c2,rfl,ho2,hb2⟩;go_wp2_with (at_builtin;refine w_apps _ rfl _ _ rfl w1.heap.size _ _ _ (l++wordB s.size) rfl ho2 s rfl (by omega) hb2.size ?_)
  intro a3 c3 w3 ho3 hg3;have hb3:=qba hb2 hb2.size ho2 hg3;go_wp2;go_ret;exact⟨a3,_,c3,rfl,by rw[HP.out];exact ho3.mono hb1.size,qcv hb1 hb3⟩

def putB (l x:List UInt8):List UInt8:=if x.length≤60 then l++(wordB x.length++x) else l

theorem qep (ao:Option Addr) (n cap:Nat) (l:List UInt8) (ax:Option Addr) (m c:Nat) (x:List UInt8) (w:World) (hr:RdIn w ao n cap l) (hx:RdIn w ax m c x) (hn:n≤1099511627000) :
  Calls Tryz.prog 231 #[.slice ao n cap,.slice ax m c] w fun e w'=>∃ao' n' cap',e=.returned (.slice ao' n' cap')∧Own w' w.heap.size ao' n' cap' (putB l x)∧Below w.heap.size w w':=by
 have hxl:=hx.1.1
 by_cases h:m≤60
 ·have HP:Hid (putB l x=l++(wordB m++x)):=by unfold Hid putB;rw[if_pos (by omega),hxl]
  have h':¬(60:Int)<m:=by omega
  clear hxl;go_enter Tryz.func231,Tryz.ntmps231;go_wp2_with fail
  refine (qcy _ _ _ m l _ hr (by omega)).mono ?_;rintro e w2 ⟨a2,c2,rfl,ho2,hb2⟩;go_wp2_with (at_builtin;refine w_app _ rfl _ _ rfl w.heap.size _ _ _ (l++wordB m) rfl ho2 _ _ _ x rfl (hx.below hb2) (by omega) hb2.size ?_)
  intro a3 c3 w3 ho3 hg3;have hb3:=qba hb2 hb2.size ho2 hg3;go_wp2;go_ret;exact⟨a3,_,c3,rfl,by rw[HP.out];exact ho3,hb3⟩
 ·have HP:Hid (putB l x=l):=by unfold Hid putB;rw[if_neg (by omega)]
  have h':(60:Int)<m:=by omega
  clear hxl;go_enter Tryz.func231,Tryz.ntmps231;go_wp2_with fail
  refine (qbs _ _ _ 0 l _ hr (by omega) (by omega)).mono ?_;rintro e w2 ⟨a2,c2,rfl,ho2,hb2⟩;go_wp2;go_ret;exact⟨a2,n,c2,rfl,by rw[HP.out];exact ho2,hb2⟩

theorem qeq (ao:Option Addr) (n cap:Nat) (l:List UInt8) (ax:Option Addr) (m c:Nat) (x:List UInt8) (w:World) (hr:RdIn w ao n cap l) (hx:RdIn w ax m c x) (hn:n≤1099511627000) :
  Calls Tryz.prog 141 #[.slice ao n cap,.slice ax m c] w fun e w'=>∃ao' n' cap',e=.returned (.slice ao' n' cap')∧Own w' w.heap.size ao' n' cap' (putB l x)∧Below w.heap.size w w':=by
 have hxl:=hx.1.1
 by_cases h:m≤60
 ·have HP:Hid (putB l x=l++(wordB m++x)):=by unfold Hid putB;rw[if_pos (by omega),hxl]
  have h':¬(60:Int)<m:=by omega
  clear hxl;go_enter Tryz.func141,Tryz.ntmps141;go_wp2_with fail
  refine (qfq _ _ _ m l _ hr (by omega)).mono ?_;rintro e w2 ⟨a2,c2,rfl,ho2,hb2⟩;go_wp2_with (at_builtin;refine w_app _ rfl _ _ rfl w.heap.size _ _ _ (l++wordB m) rfl ho2 _ _ _ x rfl (hx.below hb2) (by omega) hb2.size ?_)
  intro a3 c3 w3 ho3 hg3;have hb3:=qba hb2 hb2.size ho2 hg3;go_wp2;go_ret;exact⟨a3,_,c3,rfl,by rw[HP.out];exact ho3,hb3⟩
 ·have HP:Hid (putB l x=l):=by unfold Hid putB;rw[if_neg (by omega)]
  have h':(60:Int)<m:=by omega
  clear hxl;go_enter Tryz.func141,Tryz.ntmps141;go_wp2_with (at_builtin;refine w_app _ rfl _ _ rfl w.heap.size _ 0 _ [] rfl (qbm w) _ _ _ l rfl (hr.alloc _) (by omega) (by simp) ?_)
  intro a2 c2 w2 ho2 hg2;have hb2:Below w.heap.size w w2:=qba ((Below.refl _ _).alloc (Nat.le_refl _) _) (by simp) (qbm w) hg2;go_wp2;go_ret;exact⟨a2,_,c2,rfl,by rw[HP.out];exact ho2,hb2⟩

theorem Own.at {w w1 w':World} {B:Nat} {ao:Option Addr} {n cap:Nat} {l:List UInt8} (h:Own w1 B ao n cap l) (hb:Below w1.heap.size w1 w'):Own w' B ao n cap l:=h.below hb

theorem qkv (l:List UInt8) (s:ByteArray):(putT l s).length≤l.length+62:=by
 cases h:okT s.data.toList with
 |false=>rw[qvg h];omega
 |true=>
  have:=qsc h;have e:s.data.toList.length=s.size:=rfl;rw[qsg h,List.length_append,List.length_append,qbe];omega
theorem putB_le (l x:List UInt8):(putB l x).length≤l.length+62:=by
 unfold putB
 split
 ·rw[List.length_append,List.length_append,qbe];omega
 ·omega


theorem qay (n:Int) (h₀:0≤n) (h₁:n<2 ^ 62):IntKind.i64.wrap n=n:=by rw[IntKind.wrap_i64];omega
theorem or_word (x y:Nat) (hx:x<256) (hy:y<256):bits .or .i64 ((x:Int)*256) (y:Int)=(x:Int)*256+y :=
 bits_join .i64 62 (by decide) qay 8 _ _ (by omega) (by omega) (by omega) (by omega) (by omega) (by omega)

def gw (l:List UInt8) (p:Nat):Nat:=bt l p*256+bt l (p+1)
theorem qiu (ao:Option Addr) (n cap:Nat) (a:Int) (w:World) (hn:n≤1099511627776) (h:a<0∨(n:Int)-2<a) :
  Calls Tryz.prog 154 #[.slice ao n cap,.int .i64 a] w fun e w'=>e=.returned (.tuple #[.int .i64 0,.int .i64 0,.bool false])∧Below w.heap.size w w':=by
 by_cases h0:a<0
 ·go_enter Tryz.func154,Tryz.ntmps154;go_wp2;go_ret3;exact⟨rfl,Below.refl _ _⟩
 ·have h1:(n:Int)-2<a:=by omega
  have h2:0≤a:=by omega
  go_enter Tryz.func154,Tryz.ntmps154;go_wp2;go_ret3;exact⟨rfl,Below.refl _ _⟩
theorem qiw (ao:Option Addr) (n cap:Nat) (a:Int) (w:World) (hn:n≤1099511627776) (h:a<0∨(n:Int)-2<a) :
  Calls Tryz.prog 137 #[.slice ao n cap,.int .i64 a] w fun e w'=>e=.returned (.tuple #[.int .i64 0,.int .i64 0,.bool false])∧Below w.heap.size w w':=by
 by_cases h0:a<0
 ·go_enter Tryz.func137,Tryz.ntmps137;go_wp2;go_ret3;exact⟨rfl,Below.refl _ _⟩
 ·have h1:(n:Int)-2<a:=by omega
  have h2:0≤a:=by omega
  go_enter Tryz.func137,Tryz.ntmps137;go_wp2;go_ret3;exact⟨rfl,Below.refl _ _⟩

theorem qei (ao:Option Addr) (n cap p:Nat) (l:List UInt8) (w:World) (hr:RdIn w ao n cap l) (hp:p+2≤n) (hn:n≤1099511627776) :
  Calls Tryz.prog 154 #[.slice ao n cap,.int .i64 p] w fun e w'=>e=.returned (.tuple #[.int .i64 (gw l p:Nat),.int .i64 ((p+2:Nat):Int),.bool true])∧Below w.heap.size w w':=by
 obtain⟨b,off,rfl,hc⟩:=hr.1.at (show 0<n by omega);have c0:=hc p (by omega);have c1:=hc (p+1) (by omega);have q0:=bt_lt l p;have q1:=bt_lt l (p+1);have HG:Hid (((gw l p:Nat):Int)=(bt l p:Int)*256+bt l (p+1)):=by unfold Hid gw;omega
 clear hc hr;generalize bt l p=x at *;generalize bt l (p+1)=y at *;have hor:=or_word x y q0 q1;have p0:(0:Int)≤p:=by omega
 have p1:¬(n:Int)-2<p:=by omega
 have p2:(p:Int)<n:=by omega
 have p3:(p:Int)+1<n:=by omega
 go_enter Tryz.func154,Tryz.ntmps154;go_wp2
 go_quiet (fail)
 go_wp2;go_ret3;refine⟨?_,below_drewN (Below.refl _ _) _⟩;rw[HG.out];simp[hor]

theorem qej (ao:Option Addr) (n cap p:Nat) (l:List UInt8) (w:World) (hr:RdIn w ao n cap l) (hp:p+2≤n) (hn:n≤1099511627776) :
  Calls Tryz.prog 137 #[.slice ao n cap,.int .i64 p] w fun e w'=>e=.returned (.tuple #[.int .i64 (gw l p:Nat),.int .i64 ((p+2:Nat):Int),.bool true])∧Below w.heap.size w w':=by
 obtain⟨b,off,rfl,hc⟩:=hr.1.at (show 0<n by omega);have c0:=hc p (by omega);have c1:=hc (p+1) (by omega);have q0:=bt_lt l p;have q1:=bt_lt l (p+1);have HG:Hid (((gw l p:Nat):Int)=(bt l p:Int)*256+bt l (p+1)):=by unfold Hid gw;omega
 clear hc hr;generalize bt l p=x at *;generalize bt l (p+1)=y at *;have p0:(0:Int)≤p:=by omega
 have p1:¬(n:Int)-2<p:=by omega
 have p2:(p:Int)<n:=by omega
 have p3:(p:Int)+1<n:=by omega
 go_enter Tryz.func137,Tryz.ntmps137;go_wp2
 go_quiet (fail)
 go_wp2;go_ret3;refine⟨?_,below_drewN (Below.refl _ _) _⟩;rw[HG.out];simp

theorem qjr {w:World} {ao:Option Addr} {n cap:Nat} {l:List UInt8} (hr:RdIn w ao n cap l) (p m:Nat) (hpm:p+m≤n):∃ax cx,
  (∀w',(Instr.slice 22 (.slice ao n cap) (some (.int .i64 (p:Int))) (some (.int .i64 ((p:Int)+(m:Int)))) none).run Tryz.prog w'=.ok (.slice ax m cx) w')∧RdIn w ax m cx ((l.drop p).take m):=by
 obtain⟨i0,hi,hz0,hz1,hz2⟩:=info_parts info5;obtain⟨⟨hl,hc⟩,hcap,hmax,hnil⟩:=hr;have he:Tryz.prog.elem 22=5:=by kernel_rfl
 have ht:Tryz.prog.underlying 22=some (.slice (Tryz.prog.elem 22)):=by rw[he];exact Tryz.underlying22
 refine⟨if cap=p then ao else ao.map (·.add (p*1)),cap-p,fun w'=>?_,⟨by simp;omega,fun i hi'=>?_⟩,by omega,by omega,fun h=>?_⟩
 ·have h:=run_slice_lh (P:=Tryz.prog) w' 22 ao n cap ht .i64 .i64 (p:Int) ((p:Int)+(m:Int)) (by omega) (by omega) (by omega);rw[h,he];have e1:((p:Int)+(m:Int)).toNat=p+m:=by omega
  simp only[sizeOf,typeInfo,Sem.run_bind,Sem.run_pure,hi,hz1,Result.andThen_ok,sliced,Int.toNat_natCast,e1];simp[hi,hz1,Result.andThen,sliced]
 ·obtain⟨b,off,rfl,hcell⟩:=hc (p+i) (by omega);refine⟨b,off+p,?_,?_⟩
  ·rw[if_neg (by omega)];simp[Addr.add_lit]
  ·rw[Nat.add_assoc,hcell];have e:bt ((l.drop p).take m) i=bt l (p+i):=by rw[quk _ _ _ hi',qfr]
   rw[e]
 ·split at h
  ·rename_i g
   omega
  ·cases ao with
   |none=>have:=hnil rfl;omega
   |some a=>simp at h

theorem qgb {w:World} {ao:Option Addr} {n cap:Nat} {l:List UInt8} (hr:RdIn w ao n cap l):(convert 22 9 (.slice ao n cap)).run Tryz.prog w=.ok (.string ⟨l.toArray⟩) w:=by
 obtain⟨⟨hl,hc⟩,hcap,hmax,hnil⟩:=hr
 rcases Nat.eq_zero_or_pos n with h0 | h0
 ·subst h0;have hl0:l = []:=List.eq_nil_of_length_eq_zero hl;subst hl0;cases ao with
  |none=>exact run_convert_bytes_nil w 22 5 Tryz.underlying22 Tryz.underlying5 0 cap 9 Tryz.underlying9
  |some a=>
   rw[run_convert_bytes_string w 22 9 5 _ 0 cap Tryz.underlying22 Tryz.underlying5 Tryz.underlying9,run_bytesToString w a 0 cap [] (by simp[loadCells,loadCellsFrom])];rfl
 ·obtain⟨b,off,rfl,hcell⟩:=(show Rd w ao n l from ⟨hl,hc⟩).at h0;have h:=conv_cut hl hcell 0 n (by omega) cap;rw[Nat.add_zero] at h;rw[h];simp[cut,List.take_of_length_le (show l.length≤n by omega)]

def getL (l:List UInt8) (a:Int):Option (List UInt8×Nat) :=
 if 0≤a∧a≤(l.length:Int)-2∧gw l a.toNat≤60∧a.toNat+2+gw l a.toNat≤l.length then some ((l.drop (a.toNat+2)).take (gw l a.toNat),a.toNat+2+gw l a.toNat) else none

theorem qhc (ao:Option Addr) (n cap p m:Nat) (l:List UInt8) (w:World) (hr:RdIn w ao n cap l) (hp:p+2≤n) (hm:gw l p=m) (h60:m≤60) (hle:p+2+m≤n) (hn:n≤1099511627776) :
  Calls Tryz.prog 171 #[.slice ao n cap,.int .i64 p] w fun e w'=>e=.returned (.tuple #[.int .i64 ((p+2:Nat):Int),.int .i64 ((p+2+m:Nat):Int),.bool true])∧Below w.heap.size w w':=by
 have HM:Hid (gw l p=m):=hm;clear hm;have g1:¬(60:Int)<m:=by omega
 have g2:¬(n:Int)-((p:Int)+2)<m:=by omega
 go_enter Tryz.func171,Tryz.ntmps171;go_wp2_with fail
 refine (qei _ _ _ p l _ hr hp hn).mono ?_;rintro e w1 ⟨he,hb⟩;rw[HM.out] at he;subst he;go_wp2;go_ret3;exact⟨by simp,hb⟩

theorem qlx (ao:Option Addr) (n cap:Nat) (a:Int) (l:List UInt8) (w:World) (hr:RdIn w ao n cap l) (hn:n≤1099511627776) (h:getL l a=none) :
  Calls Tryz.prog 171 #[.slice ao n cap,.int .i64 a] w fun e w'=>e=.returned (.tuple #[.int .i64 0,.int .i64 0,.bool false])∧Below w.heap.size w w':=by
 by_cases hout:a<0∨(n:Int)-2<a
 ·go_enter Tryz.func171,Tryz.ntmps171;go_wp2_with fail
  refine (qiu _ _ _ _ _ hn hout).mono ?_;rintro e w1 ⟨rfl,hb⟩;go_wp2;go_ret3;exact⟨by simp,hb⟩
 ·obtain⟨p,rfl⟩:=Int.eq_ofNat_of_zero_le (show 0≤a by omega);obtain⟨m,hm⟩ : ∃m,gw l p=m:=⟨_,rfl⟩;have hl:=hr.1.1;have hbad:60<m∨n<p+2+m:=by
   unfold getL at h;rw[Int.toNat_natCast,hm,hl] at h
   split at h
   ·simp at h
   ·omega
  have HM:Hid (gw l p=m):=hm;clear hm h hl
  by_cases g1:60<m
  ·have g1':(60:Int)<m:=by omega
   go_enter Tryz.func171,Tryz.ntmps171;go_wp2_with fail
   refine (qei _ _ _ p l _ hr (by omega) hn).mono ?_;rintro e w1 ⟨he,hb⟩;rw[HM.out] at he;subst he;go_wp2;go_ret3;exact⟨by simp,hb⟩
  ·have g1':¬(60:Int)<m:=by omega
   have g2:(n:Int)-((p:Int)+2)<m:=by omega
   go_enter Tryz.func171,Tryz.ntmps171;go_wp2_with fail
   refine (qei _ _ _ p l _ hr (by omega) hn).mono ?_;rintro e w1 ⟨he,hb⟩;rw[HM.out] at he;subst he;go_wp2;go_ret3;exact⟨by simp,hb⟩

theorem qfk {l x:List UInt8} {a:Int} {k:Nat} (h:getL l a=some (x,k)):∃p m:Nat,a=(p:Int)∧gw l p=m∧p+2≤l.length∧m≤60∧p+2+m≤l.length∧x=(l.drop (p+2)).take m∧k=p+2+m∧x.length=m:=by
 unfold getL at h
 split at h
 ·rename_i g
  obtain⟨p,rfl⟩:=Int.eq_ofNat_of_zero_le g.1;simp only[Int.toNat_natCast,Option.some.injEq,Prod.mk.injEq] at h g;refine⟨p,gw l p,rfl,rfl,by omega,g.2.2.1,g.2.2.2,h.1.symm,h.2.symm,?_⟩;rw[←h.1];simp;omega
 ·simp at h

theorem qno (ao:Option Addr) (n cap:Nat) (a:Int) (l:List UInt8) (w:World) (hr:RdIn w ao n cap l) (hn:n≤1099511627776) (h:getL l a=none) :
  Calls Tryz.prog 168 #[.slice ao n cap,.int .i64 a] w fun e w'=>e=.returned (.tuple #[.slice none 0 0,.int .i64 0,.bool false])∧Below w.heap.size w w':=by
 go_enter Tryz.func168,Tryz.ntmps168;go_wp2_with fail
 refine (qlx _ _ _ _ l _ hr hn h).mono ?_;rintro e w1 ⟨rfl,hb⟩;go_wp2;go_ret3;exact⟨by simp,hb⟩

theorem qmd (ao:Option Addr) (n cap:Nat) (a:Int) (l x:List UInt8) (k:Nat) (w:World) (hr:RdIn w ao n cap l) (hn:n≤1099511627776) (h:getL l a=some (x,k)) :
  Calls Tryz.prog 168 #[.slice ao n cap,.int .i64 a] w fun e w'=>∃ax cx,e=.returned (.tuple #[.slice ax x.length cx,.int .i64 (k:Nat),.bool true])∧Own w' w.heap.size ax x.length cx x∧Below w.heap.size w w':=by
 obtain⟨p,m,rfl,hm,hp,h60,hle,hx,rfl,hxl⟩:=qfk h;have hl:=hr.1.1;rw[hxl];obtain⟨ax,cx,hsl,hrx⟩:=qjr hr (p+2) m (by omega);rw[←hx] at hrx;clear h hx hxl;have hsl':∀w',(Instr.slice 22 (.slice ao n cap) (some (.int .i64 ((p:Int)+2))) (some (.int .i64 ((p:Int)+2+(m:Int)))) none).run Tryz.prog w'=.ok (.slice ax m cx) w':=fun w'=>by
  have:=hsl w';rw[show ((p+2:Nat):Int)=(p:Int)+2 from by omega] at this;exact this
 clear hsl;rw[hl] at hp hle;clear hl;go_enter Tryz.func168,Tryz.ntmps168;go_wp2_with fail
 refine (qhc _ _ _ p m l _ hr hp hm h60 hle hn).mono ?_;rintro e w1 ⟨rfl,hb⟩;go_wp2_with fail
 refine (qbs _ _ _ 0 x _ (hrx.below hb) (by omega) (by omega)).mono ?_;rintro e w2 ⟨a2,c2,rfl,ho2,hb2⟩;go_wp2;go_ret3;exact⟨a2,c2,by simp,ho2.mono hb.size,qcv hb hb2⟩

theorem qiv (ao:Option Addr) (n cap:Nat) (a:Int) (l:List UInt8) (w:World) (hr:RdIn w ao n cap l) (hn:n≤1099511627776) (h:getL l a=none) :
  Calls Tryz.prog 164 #[.slice ao n cap,.int .i64 a] w fun e w'=>∃ax cx,e=.returned (.tuple #[.slice ax 0 cx,.int .i64 0,.bool false])∧Own w' w.heap.size ax 0 cx []∧Below w.heap.size w w':=by
 by_cases hout:a<0∨(n:Int)-2<a
 ·go_enter Tryz.func164,Tryz.ntmps164;go_wp2_with fail
  refine (qiw _ _ _ _ _ hn hout).mono ?_;rintro e w1 ⟨rfl,hb⟩;go_wp2;go_ret3;exact⟨_,_,by simp,(qbm w1).mono hb.size,hb.alloc hb.size _⟩
 ·obtain⟨p,rfl⟩:=Int.eq_ofNat_of_zero_le (show 0≤a by omega);obtain⟨m,hm⟩ : ∃m,gw l p=m:=⟨_,rfl⟩;have hl:=hr.1.1;have hbad:60<m∨n<p+2+m:=by
   unfold getL at h;rw[Int.toNat_natCast,hm,hl] at h
   split at h
   ·simp at h
   ·omega
  have HM:Hid (gw l p=m):=hm;clear hm h hl
  by_cases g1:60<m
  ·have g1':(60:Int)<m:=by omega
   go_enter Tryz.func164,Tryz.ntmps164;go_wp2_with fail
   refine (qej _ _ _ p l _ hr (by omega) hn).mono ?_;rintro e w1 ⟨he,hb⟩;rw[HM.out] at he;subst he;go_wp2;go_ret3;exact⟨_,_,by simp,(qbm w1).mono hb.size,hb.alloc hb.size _⟩
  ·have g1':¬(60:Int)<m:=by omega
   have g2:(n:Int)-((p:Int)+2)<m:=by omega
   go_enter Tryz.func164,Tryz.ntmps164;go_wp2_with fail
   refine (qej _ _ _ p l _ hr (by omega) hn).mono ?_;rintro e w1 ⟨he,hb⟩;rw[HM.out] at he;subst he;go_wp2;go_ret3;exact⟨_,_,by simp,(qbm w1).mono hb.size,hb.alloc hb.size _⟩

theorem qhl (ao:Option Addr) (n cap:Nat) (a:Int) (l x:List UInt8) (k:Nat) (w:World) (hr:RdIn w ao n cap l) (hn:n≤1099511627776) (h:getL l a=some (x,k)) :
  Calls Tryz.prog 164 #[.slice ao n cap,.int .i64 a] w fun e w'=>∃ax cx,e=.returned (.tuple #[.slice ax x.length cx,.int .i64 (k:Nat),.bool true])∧Own w' w.heap.size ax x.length cx x∧Below w.heap.size w w':=by
 obtain⟨p,m,rfl,hm,hp,h60,hle,hx,rfl,hxl⟩:=qfk h;have hl:=hr.1.1;rw[hxl];obtain⟨ax,cx,hsl,hrx⟩:=qjr hr (p+2) m (by omega);rw[←hx] at hrx;clear h hx hxl;have hsl':∀w',(Instr.slice 22 (.slice ao n cap) (some (.int .i64 ((p:Int)+2))) (some (.int .i64 ((p:Int)+2+(m:Int)))) none).run Tryz.prog w'=.ok (.slice ax m cx) w':=fun w'=>by
  have:=hsl w';rw[show ((p+2:Nat):Int)=(p:Int)+2 from by omega] at this;exact this
 clear hsl;rw[hl] at hp hle;clear hl;have HM:Hid (gw l p=m):=hm;clear hm;have g1:¬(60:Int)<m:=by omega
 have g2:¬(n:Int)-((p:Int)+2)<m:=by omega
 go_enter Tryz.func164,Tryz.ntmps164;go_wp2_with fail
 refine (qej _ _ _ p l _ hr hp hn).mono ?_;rintro e w1 ⟨he,hb⟩;rw[HM.out] at he;subst he;go_wp2_with (at_builtin;refine w_app _ rfl _ _ rfl w1.heap.size _ 0 _ [] rfl (qbm w1) _ _ _ x rfl ((hrx.below hb).alloc _) (by omega) (by simp) ?_)
 intro a2 c2 w2 ho2 hg2;have hb2:Below w1.heap.size w1 w2:=qba ((Below.refl _ _).alloc (Nat.le_refl _) _) (by simp) (qbm w1) hg2;go_wp2;go_ret3;exact⟨a2,c2,by simp,ho2.mono hb.size,qcv hb hb2⟩

def getT (l:List UInt8) (a:Int):Option (List UInt8×Nat):=match getL l a with
 |some (x,k)=>if okT x then some (x,k) else none
 |none=>none

def strOf (x:List UInt8):ByteArray:=⟨x.toArray⟩
theorem qkd (x:List UInt8):(strOf x).data.toList=x:=by simp[strOf]

def ansT (l:List UInt8) (a:Int):Ending:=match getT l a with
 |some (x,k)=>.returned (.tuple #[.string (strOf x),.int .i64 (k:Nat),.bool true])
 |none=>.returned (.tuple #[.string ⟨#[]⟩,.int .i64 0,.bool false])

theorem qsz (ao:Option Addr) (n cap:Nat) (a:Int) (l:List UInt8) (w:World) (hr:RdIn w ao n cap l) (hn:n≤1099511627776) :
  Calls Tryz.prog 159 #[.slice ao n cap,.int .i64 a] w fun e w'=>e=ansT l a∧Below w.heap.size w w':=by
 cases h:getL l a with
 |none=>
  have HA:Hid (ansT l a=.returned (.tuple #[.string ⟨#[]⟩,.int .i64 0,.bool false])):=by unfold Hid;simp[ansT,getT,h]
  go_enter Tryz.func159,Tryz.ntmps159;go_wp2_with fail
  refine (qlx _ _ _ _ l _ hr hn h).mono ?_;rintro e w1 ⟨rfl,hb⟩;clear h;go_wp2;go_ret3;exact⟨by rw[HA.out];simp,hb⟩
 |some xk=>
  obtain⟨x,k⟩:=xk;have hT:Hid (getT l a=if okT x then some (x,k) else none):=by unfold Hid;simp[getT,h]
  obtain⟨p,m,rfl,hm,hp,h60,hle,hx,rfl,hxl⟩:=qfk h;have hl:=hr.1.1;obtain⟨ax,cx,hsl,hrx⟩:=qjr hr (p+2) m (by omega);rw[←hx] at hrx;clear h hx;have hsl':∀w',(Instr.slice 22 (.slice ao n cap) (some (.int .i64 ((p:Int)+2))) (some (.int .i64 ((p:Int)+2+(m:Int)))) none).run Tryz.prog w'=.ok (.slice ax m cx) w':=fun w'=>by
   have:=hsl w';rw[show ((p+2:Nat):Int)=(p:Int)+2 from by omega] at this;exact this
  clear hsl;rw[hl] at hp hle;clear hl;have hsz:(strOf x).size<9223372036854775807:=by show x.toArray.size<_;simp;omega
  cases hok:okT x with
  |false=>
   have HA:Hid (ansT l (p:Int)=.returned (.tuple #[.string ⟨#[]⟩,.int .i64 0,.bool false])):=by unfold Hid ansT;rw[hT.out,hok];rfl
   go_enter Tryz.func159,Tryz.ntmps159;go_wp2_with fail
   refine (qhc _ _ _ p m l _ hr hp hm h60 hle hn).mono ?_;rintro e w1 ⟨rfl,hb⟩;have hcv:(convert 22 9 (.slice ax m cx)).run Tryz.prog w1=.ok (.string (strOf x)) w1:=qgb (hrx.below hb);clear hm;go_wp2_with fail
   refine (qdf (strOf x) _ hsz).mono ?_;rintro e w2 ⟨he,hb2⟩;rw[qkd,hok] at he;subst he;go_wp2;go_ret3;exact⟨by rw[HA.out];simp,qcv hb hb2⟩
  |true=>
   have HA:Hid (ansT l (p:Int)=.returned (.tuple #[.string (strOf x),.int .i64 ((p+2+m:Nat):Int),.bool true])):=by unfold Hid ansT;rw[hT.out,hok];rfl
   go_enter Tryz.func159,Tryz.ntmps159;go_wp2_with fail
   refine (qhc _ _ _ p m l _ hr hp hm h60 hle hn).mono ?_;rintro e w1 ⟨rfl,hb⟩;have hcv:(convert 22 9 (.slice ax m cx)).run Tryz.prog w1=.ok (.string (strOf x)) w1:=qgb (hrx.below hb);clear hm;go_wp2_with fail
   refine (qdf (strOf x) _ hsz).mono ?_;rintro e w2 ⟨he,hb2⟩;rw[qkd,hok] at he;subst he;go_wp2;go_ret3;exact⟨by rw[HA.out];simp,qcv hb hb2⟩

theorem qta (ao:Option Addr) (n cap:Nat) (a:Int) (l:List UInt8) (w:World) (hr:RdIn w ao n cap l) (hn:n≤1099511627776) :
  Calls Tryz.prog 136 #[.slice ao n cap,.int .i64 a] w fun e w'=>e=ansT l a∧Below w.heap.size w w':=by
 cases h:getL l a with
 |none=>
  have HA:Hid (ansT l a=.returned (.tuple #[.string ⟨#[]⟩,.int .i64 0,.bool false])):=by unfold Hid;simp[ansT,getT,h]
  go_enter Tryz.func136,Tryz.ntmps136;go_wp2_with fail
  refine (qiv _ _ _ _ l _ hr hn h).mono ?_;rintro e w1 ⟨ax,cx,rfl,ho,hb⟩;clear h;go_wp2;go_ret3;exact⟨by rw[HA.out];simp,hb⟩
 |some xk=>
  obtain⟨x,k⟩:=xk;have hT:Hid (getT l a=if okT x then some (x,k) else none):=by unfold Hid;simp[getT,h]
  obtain⟨p,m,e0,hm,hp,h60,hle,hx,hk,hxl⟩:=qfk h;have hsz:(strOf x).size<9223372036854775800:=by show x.toArray.size<_;simp;omega
  have hG:=fun w hr=>qhl ao n cap a l x k w hr hn h
  clear h hx e0 hm hp hle hk;cases hok:okT x with
  |false=>
   have HA:Hid (ansT l a=.returned (.tuple #[.string ⟨#[]⟩,.int .i64 0,.bool false])):=by unfold Hid ansT;rw[hT.out,hok];rfl
   go_enter Tryz.func136,Tryz.ntmps136;go_wp2_with fail
   refine (hG _ hr).mono ?_;rintro e w1 ⟨ax,cx,rfl,ho,hb⟩;have hcv:(convert 22 9 (.slice ax x.length cx)).run Tryz.prog w1=.ok (.string (strOf x)) w1:=qgb ho.rd;rw[hxl] at hcv;rw[hxl];clear hG;go_wp2_with fail
   refine (qdg (strOf x) _ hsz).mono ?_;rintro e w2 ⟨he,hb2⟩;rw[qkd,hok] at he;subst he;go_wp2;go_ret3;exact⟨by rw[HA.out];simp,qcv hb hb2⟩
  |true=>
   have HA:Hid (ansT l a=.returned (.tuple #[.string (strOf x),.int .i64 (k:Nat),.bool true])):=by unfold Hid ansT;rw[hT.out,hok];rfl
   go_enter Tryz.func136,Tryz.ntmps136;go_wp2_with fail
   refine (hG _ hr).mono ?_;rintro e w1 ⟨ax,cx,rfl,ho,hb⟩;have hcv:(convert 22 9 (.slice ax x.length cx)).run Tryz.prog w1=.ok (.string (strOf x)) w1:=qgb ho.rd;rw[hxl] at hcv;rw[hxl];clear hG;go_wp2_with fail
   refine (qdg (strOf x) _ hsz).mono ?_;rintro e w2 ⟨he,hb2⟩;rw[qkd,hok] at he;subst he;have hcv2:(convert 22 9 (.slice ax m cx)).run Tryz.prog w2=.ok (.string (strOf x)) w2:=by
    have:=qgb (ho.below hb2).rd;rw[hxl] at this;exact this
   clear hcv;go_wp2;go_ret3;exact⟨by rw[HA.out];simp,qcv hb hb2⟩

