/- Lemmas. -/
import Derived.Test.YtpjkbgdkligpdaaGreatDoorX10
set_option linter.unusedVariables false
set_option linter.unusedSimpArgs false
set_option maxRecDepth 100000
set_option maxHeartbeats 20000000
namespace Go.Proofs.YtpjkbgdkligpdaaGreatDoor
open Go.RowKit

def num (l:List UInt8) (p:Nat):Nat→Nat
 |0=>0
 |k+1=>num l p k+bt l (p+k)%128*128 ^ k
theorem num_lt (l:List UInt8) (p k:Nat):num l p k<128 ^ k:=by
 induction k with
 |zero=>simp[num]
 |succ k ih=>
  have h:=Nat.mod_lt (bt l (p+k)) (show 0<128 by omega);have h2:bt l (p+k)%128*128 ^ k≤127*128 ^ k:=Nat.mul_le_mul_right _ (by omega);simp only[num,Nat.pow_succ];omega

def ansG (l:List UInt8) (p:Nat):Nat→Int×Int×Int
 |0=>(0,0,2)
 |f+1=>if l.length≤p+(3-f) then (0,0,1) else if bt l (p+(3-f))<128 then
   (if 0<3-f∧bt l (p+(3-f))=0 then (0,0,2) else ((num l p (3-f+1):Nat),((p+(3-f)+1:Nat):Int),0)) else ansG l p f
def getE (l:List UInt8) (a:Int):Int×Int×Int:=if 0≤a∧a≤l.length then ansG l a.toNat 4 else (0,0,2)
def ret3 (t:Int×Int×Int):Ending:=.returned (.tuple #[.int .i64 t.1,.int .i64 t.2.1,.int .i64 t.2.2])

theorem qjc {l:List UInt8} {p k:Nat} (hk:k<4) (h:l.length≤p+k):ansG l p (4-k)=(0,0,1):=by
 rw[show 4-k=(3-k)+1 from by omega,ansG,if_pos (by omega)]
theorem qbq {l:List UInt8} {p k:Nat} (hk:k<4) (h:p+k<l.length) (hb:128≤bt l (p+k)):ansG l p (4-k)=ansG l p (4-(k+1)):=by
 rw[show 4-k=(3-k)+1 from by omega,ansG,if_neg (by omega),show 3-(3-k)=k from by omega,if_neg (by omega)];rw[show 4-(k+1)=3-k from by omega]
theorem qdy {l:List UInt8} {p k:Nat} (hk:k<4) (h:p+k<l.length) (h0:0<k) (hb:bt l (p+k)=0):ansG l p (4-k)=(0,0,2):=by
 rw[show 4-k=(3-k)+1 from by omega,ansG,if_neg (by omega),show 3-(3-k)=k from by omega,if_pos (by omega),if_pos ⟨h0,hb⟩]
theorem qbp {l:List UInt8} {p k:Nat} (hk:k<4) (h:p+k<l.length) (hb:bt l (p+k)<128) (h0:¬(0<k∧bt l (p+k)=0)):ansG l p (4-k)=(((num l p (k+1):Nat):Int),((p+k+1:Nat):Int),0):=by
 rw[show 4-k=(3-k)+1 from by omega,ansG,if_neg (by omega),show 3-(3-k)=k from by omega,if_pos hb,if_neg h0]

theorem qkk (x y:Int):bits .or .i64 x y=bits .or .i64 y x:=by
 show IntKind.i64.wrap (((BitVec.ofInt 64 x ||| BitVec.ofInt 64 y):BitVec 64).toNat:Int)=IntKind.i64.wrap (((BitVec.ofInt 64 y ||| BitVec.ofInt 64 x):BitVec 64).toNat:Int);rw[BitVec.or_comm]

theorem or_k0 (z y:Nat) (hz:z<128 ^ 0) (hy:y<128):bits .or .i64 (z:Int) (y:Int)=((z+y:Nat):Int):=by
 obtain rfl:z=0:=by omega
 rw[qkk,bits_join .i64 62 (by decide) qav 0 _ _ (by omega) (by omega) (by omega) (by omega) (by omega) (by omega)];omega
theorem or_k1 (z y:Nat) (hz:z<128 ^ 1) (hy:y<128):bits .or .i64 (z:Int) ((y:Int)*128)=((z+y*128:Nat):Int):=by
 rw[qkk,bits_join .i64 62 (by decide) qav 7 _ _ (by omega) (by omega) (by omega) (by omega) (by omega) (by omega)];omega
theorem or_k2 (z y:Nat) (hz:z<128 ^ 2) (hy:y<128):bits .or .i64 (z:Int) ((y:Int)*16384)=((z+y*16384:Nat):Int):=by
 rw[qkk,bits_join .i64 62 (by decide) qav 14 _ _ (by omega) (by omega) (by omega) (by omega) (by omega) (by omega)];omega
theorem or_k3 (z y:Nat) (hz:z<128 ^ 3) (hy:y<128):bits .or .i64 (z:Int) ((y:Int)*2097152)=((z+y*2097152:Nat):Int):=by
 rw[qkk,bits_join .i64 62 (by decide) qav 21 _ _ (by omega) (by omega) (by omega) (by omega) (by omega) (by omega)];omega

theorem qfp {w:World} {ao:Option Addr} {n cap:Nat} {l:List UInt8} (hr:RdIn w ao n cap l) (p:Nat) (hp:p≤n):∃ax cx,
  (∀w',(Instr.slice 22 (.slice ao n cap) (some (.int .i64 (p:Int))) none none).run Tryz.prog w'=.ok (.slice ax (n-p) cx) w')∧RdIn w ax (n-p) cx (l.drop p):=by
 obtain⟨i0,hi,hz0,hz1,hz2⟩:=info_parts info5;obtain⟨⟨hl,hc⟩,hcap,hmax,hnil⟩:=hr;have he:Tryz.prog.elem 22=5:=by kernel_rfl
 have ht:Tryz.prog.underlying 22=some (.slice (Tryz.prog.elem 22)):=by rw[he];exact Tryz.underlying22
 refine⟨if cap=p then ao else ao.map (·.add (p*1)),cap-p,fun w'=>?_,⟨by simp;omega,fun i hi'=>?_⟩,by omega,by omega,fun h=>?_⟩
 ·have h:=run_slice_l (P:=Tryz.prog) w' 22 ao n cap ht .i64 (p:Int) (by omega) (by omega);rw[h,he];simp only[sizeOf,typeInfo,Sem.run_bind,Sem.run_pure,hi,hz1,Result.andThen_ok,sliced,Int.toNat_natCast];simp[hi,hz1,Result.andThen,sliced]
 ·obtain⟨b,off,rfl,hcell⟩:=hc (p+i) (by omega);refine⟨b,off+p,?_,?_⟩
  ·rw[if_neg (by omega)];simp[Addr.add_lit]
  ·rw[Nat.add_assoc,hcell,qgl]
 ·split at h
  ·rename_i g
   omega
  ·cases ao with
   |none=>have:=hnil rfl;omega
   |some a=>simp at h


theorem qph (ao:Option Addr) (n cap p:Nat) (l:List UInt8) (w:World) (hr:RdIn w ao n cap l) (hp:p≤n) (hn:n≤1099511627776) :
  Calls Tryz.prog 19 #[.slice ao n cap,.int .i64 p] w fun e w'=>e=ret3 (ansG l p 4)∧w'=w:=by
 have HLEN:Hid (l.length=n):=hr.1.1;obtain⟨ax,cx,hsl,hx⟩:=qfp hr p hp;have hp1:¬(n:Int)<(p:Int):=by omega
 obtain⟨q,hq⟩ : ∃q,n-p=q:=⟨_,rfl⟩;rw[hq] at hsl hx;have HNQ:Hid (n=p+q):=by unfold Hid;omega
 clear hq;go_enter Tryz.func19,Tryz.ntmps19;go_wp2
 go_loop [7,8,9,22] (fun v _ _ i=>∃k z:Nat,i=.int .i64 k∧v=.int .i64 z∧k≤q∧k≤4∧z=num l p k∧ansG l p 4=ansG l p (4-k)) (fun _ _ _ i=>q-(intOf i).toNat)
 case atStart=>exact⟨0,0,rfl,rfl,by omega,by omega,rfl,rfl⟩
 case round=>
  obtain⟨k,z,rfl,rfl,hkq,hk4,hzn,hans⟩:=hrel;have HNUM:Hid (z=num l p k):=hzn;have HANS:Hid (ansG l p 4=ansG l p (4-k)):=hans;have hz:z<128 ^ k:=by rw[hzn];exact num_lt l p k
  clear hans hzn
  by_cases hlt:k<q
  ·have h1:(k:Int)<q:=by omega
   by_cases h4:k=4
   ·subst h4;have h5:¬(n:Int)-(p:Int)<4:=by have:=HNQ.out;omega
    obtain⟨bb,off,e,hc⟩:=hx.1.2 4 (by omega);subst e;go_wp2;go_ret3;exact⟨by rw[HANS.out];simp[ret3,ansG],rfl⟩
   obtain⟨bb,off,e,hc⟩:=hx.1.2 k hlt;subst e;rw[qgl] at hc;obtain⟨b,hbt⟩ : ∃b,bt l (p+k)=b:=⟨_,rfl⟩;have hb:b<256:=by rw[←hbt];exact bt_lt l _
   rw[hbt] at hc;have HBT:Hid (bt l (p+k)=b):=hbt;clear hbt;have hpk:p+k<n:=by have:=HNQ.out;omega
   have hnt:=not128 b hb;obtain rfl | rfl | rfl | rfl:k=0∨k=1∨k=2∨k=3:=by omega
   ·have HZ:Hid (z<128 ^ 0):=hz;have hzN:z<1:=hz;clear hz;simp only[Nat.add_zero] at hc;have hor:bits .or .i64 (z:Int) ((b:Int)%128)=((z+b%128:Nat):Int):=by
     have:=or_k0 z (b%128) HZ.out (Nat.mod_lt _ (by omega));rw[show ((b%128:Nat):Int)=(b:Int)%128 from by omega] at this;exact this
    have HS:Hid (num l p 1=z+b%128):=by
     show num l p 0+bt l (p+0)%128*128 ^ 0=_;rw[←HNUM.out,HBT.out]
     try omega
    by_cases h128:b<128
    ·have hc1:bits .and .u8 (b:Int) 128=0:=by rw[qls b hb,if_pos h128]
     by_cases hb0:b=0
     ·have hbz:((b:Int)==0)=true:=by simp;omega
      have HB0:Hid (b=0):=hb0;clear hb0;have HG:Hid (ansG l p 4=_):=HANS.out.trans (qbp (k:=0) (by omega) (by rw[HLEN.out];exact hpk) (by rw[HBT.out];exact h128) (by omega));go_wp2;go_ret3;exact⟨by rw[HG.out,HS.out];simp[ret3],rfl⟩
     ·have HG:Hid (ansG l p 4=_):=HANS.out.trans (qbp (k:=0) (by omega) (by rw[HLEN.out];exact hpk) (by rw[HBT.out];exact h128) (by rw[HBT.out];omega));have hbz:((b:Int)==0)=false:=by simp;omega
      go_wp2;go_ret3;exact⟨by rw[HG.out,HS.out];simp[ret3],rfl⟩
    ·have hc1:bits .and .u8 (b:Int) 128=128:=by rw[qls b hb,if_neg h128]
     have HG:Hid (ansG l p 4=ansG l p (4-1)):=HANS.out.trans (qbq (k:=0) (by omega) (by rw[HLEN.out];exact hpk) (by rw[HBT.out];omega));go_wp2
     go_round
     case rel=>exact⟨1,z+b%128,by go_num,by go_num,by omega,by omega,HS.out.symm,HG.out⟩
     case measure=>simp[intOf]<;>omega
   ·have HZ:Hid (z<128 ^ 1):=hz;have hzN:z<128:=hz;clear hz;have hor:bits .or .i64 (z:Int) ((b:Int)%128*128)=((z+b%128*128:Nat):Int):=by
     have:=or_k1 z (b%128) HZ.out (Nat.mod_lt _ (by omega));rw[show ((b%128:Nat):Int)=(b:Int)%128 from by omega] at this;exact this
    have HS:Hid (num l p 2=z+b%128*128):=by
     show num l p 1+bt l (p+1)%128*128 ^ 1=_;rw[←HNUM.out,HBT.out]
     try omega
    by_cases h128:b<128
    ·have hc1:bits .and .u8 (b:Int) 128=0:=by rw[qls b hb,if_pos h128]
     by_cases hb0:b=0
     ·have hbz:((b:Int)==0)=true:=by simp;omega
      have HB0:Hid (b=0):=hb0;clear hb0;have HG:Hid (ansG l p 4=_):=HANS.out.trans (qdy (k:=1) (by omega) (by rw[HLEN.out];exact hpk) (by omega) (HBT.out.trans HB0.out));go_wp2;go_ret3;exact⟨by rw[HG.out];simp[ret3],rfl⟩
     ·have HG:Hid (ansG l p 4=_):=HANS.out.trans (qbp (k:=1) (by omega) (by rw[HLEN.out];exact hpk) (by rw[HBT.out];exact h128) (by rw[HBT.out];omega));have hbz:((b:Int)==0)=false:=by simp;omega
      go_wp2;go_ret3;exact⟨by rw[HG.out,HS.out];simp[ret3],rfl⟩
    ·have hc1:bits .and .u8 (b:Int) 128=128:=by rw[qls b hb,if_neg h128]
     have HG:Hid (ansG l p 4=ansG l p (4-2)):=HANS.out.trans (qbq (k:=1) (by omega) (by rw[HLEN.out];exact hpk) (by rw[HBT.out];omega));go_wp2
     go_round
     case rel=>exact⟨2,z+b%128*128,by go_num,by go_num,by omega,by omega,HS.out.symm,HG.out⟩
     case measure=>simp[intOf]<;>omega
   ·have HZ:Hid (z<128 ^ 2):=hz;have hzN:z<16384:=hz;clear hz;have hor:bits .or .i64 (z:Int) ((b:Int)%128*16384)=((z+b%128*16384:Nat):Int):=by
     have:=or_k2 z (b%128) HZ.out (Nat.mod_lt _ (by omega));rw[show ((b%128:Nat):Int)=(b:Int)%128 from by omega] at this;exact this
    have HS:Hid (num l p 3=z+b%128*16384):=by
     show num l p 2+bt l (p+2)%128*128 ^ 2=_;rw[←HNUM.out,HBT.out]
     try omega
    by_cases h128:b<128
    ·have hc1:bits .and .u8 (b:Int) 128=0:=by rw[qls b hb,if_pos h128]
     by_cases hb0:b=0
     ·have hbz:((b:Int)==0)=true:=by simp;omega
      have HB0:Hid (b=0):=hb0;clear hb0;have HG:Hid (ansG l p 4=_):=HANS.out.trans (qdy (k:=2) (by omega) (by rw[HLEN.out];exact hpk) (by omega) (HBT.out.trans HB0.out));go_wp2;go_ret3;exact⟨by rw[HG.out];simp[ret3],rfl⟩
     ·have HG:Hid (ansG l p 4=_):=HANS.out.trans (qbp (k:=2) (by omega) (by rw[HLEN.out];exact hpk) (by rw[HBT.out];exact h128) (by rw[HBT.out];omega));have hbz:((b:Int)==0)=false:=by simp;omega
      go_wp2;go_ret3;exact⟨by rw[HG.out,HS.out];simp[ret3],rfl⟩
    ·have hc1:bits .and .u8 (b:Int) 128=128:=by rw[qls b hb,if_neg h128]
     have HG:Hid (ansG l p 4=ansG l p (4-3)):=HANS.out.trans (qbq (k:=2) (by omega) (by rw[HLEN.out];exact hpk) (by rw[HBT.out];omega));go_wp2
     go_round
     case rel=>exact⟨3,z+b%128*16384,by go_num,by go_num,by omega,by omega,HS.out.symm,HG.out⟩
     case measure=>simp[intOf]<;>omega
   ·have HZ:Hid (z<128 ^ 3):=hz;have hzN:z<2097152:=hz;clear hz;have hor:bits .or .i64 (z:Int) ((b:Int)%128*2097152)=((z+b%128*2097152:Nat):Int):=by
     have:=or_k3 z (b%128) HZ.out (Nat.mod_lt _ (by omega));rw[show ((b%128:Nat):Int)=(b:Int)%128 from by omega] at this;exact this
    have HS:Hid (num l p 4=z+b%128*2097152):=by
     show num l p 3+bt l (p+3)%128*128 ^ 3=_;rw[←HNUM.out,HBT.out]
     try omega
    by_cases h128:b<128
    ·have hc1:bits .and .u8 (b:Int) 128=0:=by rw[qls b hb,if_pos h128]
     by_cases hb0:b=0
     ·have hbz:((b:Int)==0)=true:=by simp;omega
      have HB0:Hid (b=0):=hb0;clear hb0;have HG:Hid (ansG l p 4=_):=HANS.out.trans (qdy (k:=3) (by omega) (by rw[HLEN.out];exact hpk) (by omega) (HBT.out.trans HB0.out));go_wp2;go_ret3;exact⟨by rw[HG.out];simp[ret3],rfl⟩
     ·have HG:Hid (ansG l p 4=_):=HANS.out.trans (qbp (k:=3) (by omega) (by rw[HLEN.out];exact hpk) (by rw[HBT.out];exact h128) (by rw[HBT.out];omega));have hbz:((b:Int)==0)=false:=by simp;omega
      go_wp2;go_ret3;exact⟨by rw[HG.out,HS.out];simp[ret3],rfl⟩
    ·have hc1:bits .and .u8 (b:Int) 128=128:=by rw[qls b hb,if_neg h128]
     have HG:Hid (ansG l p 4=ansG l p (4-4)):=HANS.out.trans (qbq (k:=3) (by omega) (by rw[HLEN.out];exact hpk) (by rw[HBT.out];omega));go_wp2
     go_round
     case rel=>exact⟨4,z+b%128*2097152,by go_num,by go_num,by omega,by omega,HS.out.symm,HG.out⟩
     case measure=>simp[intOf]<;>omega
  ·have h1:¬(k:Int)<q:=by omega
   obtain rfl:k=q:=by omega
   by_cases h4:k<4
   ·have h5:(n:Int)-(p:Int)<4:=by have:=HNQ.out;omega
    have HG:Hid (ansG l p 4=_):=HANS.out.trans (qjc h4 (by rw[HLEN.out];have:=HNQ.out;omega));go_wp2;go_ret3;exact⟨by rw[HG.out];simp[ret3],rfl⟩
   ·have h5:¬(n:Int)-(p:Int)<4:=by have:=HNQ.out;omega
    obtain rfl:k=4:=by omega
    go_wp2;go_ret3;exact⟨by rw[HANS.out];simp[ret3,ansG],rfl⟩

theorem qnn (ao:Option Addr) (n cap:Nat) (a:Int) (w:World) (h:a<0∨(n:Int)<a) :
  Calls Tryz.prog 19 #[.slice ao n cap,.int .i64 a] w fun e w'=>e=ret3 (0,0,2)∧w'=w:=by
 by_cases h0:a<0
 ·go_enter Tryz.func19,Tryz.ntmps19;go_wp2;go_ret3;exact⟨rfl,rfl⟩
 ·have h1:(n:Int)<a:=by omega
  have h2:0≤a:=by omega
  go_enter Tryz.func19,Tryz.ntmps19;go_wp2;go_ret3;exact⟨rfl,rfl⟩

theorem qts (ao:Option Addr) (n cap:Nat) (a:Int) (l:List UInt8) (w:World) (hr:RdIn w ao n cap l) (hn:n≤1099511627776) :
  Calls Tryz.prog 19 #[.slice ao n cap,.int .i64 a] w fun e w'=>e=ret3 (getE l a)∧w'=w:=by
 have hl:=hr.1.1
 by_cases h:0≤a∧a≤n
 ·obtain⟨p,rfl⟩:=Int.eq_ofNat_of_zero_le h.1;have e:getE l (p:Int)=ansG l p 4:=by
   unfold getE;rw[if_pos (by omega)];simp
  rw[e];exact qph ao n cap p l w hr (by omega) hn
 ·have e:getE l a=(0,0,2):=by
   unfold getE;rw[if_neg (by omega)]
  rw[e];exact qnn ao n cap a w (by omega)

theorem qpi (ao:Option Addr) (n cap p:Nat) (l:List UInt8) (w:World) (hr:RdIn w ao n cap l) (hp:p≤n) (hn:n≤1099511627776) :
  Calls Tryz.prog 87 #[.slice ao n cap,.int .i64 p] w fun e w'=>e=ret3 (ansG l p 4)∧w'=w:=by
 have HLEN:Hid (l.length=n):=hr.1.1;have hp1:¬(n:Int)<(p:Int):=by omega
 go_enter Tryz.func87,Tryz.ntmps87;go_wp2
 go_loop [7,8,9] (fun v i _=>∃k z:Nat,i=.int .i64 k∧v=.int .i64 z∧p+k≤n∧k≤4∧z=num l p k∧ansG l p 4=ansG l p (4-k)) (fun _ i _=>4-(intOf i).toNat)
 case atStart=>exact⟨0,0,rfl,rfl,by omega,by omega,rfl,rfl⟩
 case round=>
  obtain⟨k,z,rfl,rfl,hkq,hk4,hzn,hans⟩:=hrel;have HNUM:Hid (z=num l p k):=hzn;have HANS:Hid (ansG l p 4=ansG l p (4-k)):=hans;have hz:z<128 ^ k:=by rw[hzn];exact num_lt l p k
  clear hans hzn
  by_cases h4:k=4
  ·subst h4;go_wp2;go_ret3;exact⟨by rw[HANS.out];simp[ret3,ansG],rfl⟩
  have h4':(k:Int)<4:=by omega
  by_cases hpk:p+k<n
  ·have h1:¬(n:Int)≤(p:Int)+(k:Int):=by omega
   obtain⟨bb,off,e,hc⟩:=hr.1.2 (p+k) hpk;subst e;obtain⟨b,hbt⟩ : ∃b,bt l (p+k)=b:=⟨_,rfl⟩;have hb:b<256:=by rw[←hbt];exact bt_lt l _
   rw[hbt] at hc;have HBT:Hid (bt l (p+k)=b):=hbt;clear hbt;have hnt:=and127 b hb;obtain rfl | rfl | rfl | rfl:k=0∨k=1∨k=2∨k=3:=by omega
   ·have HZ:Hid (z<128 ^ 0):=hz;have hzN:z<1:=hz;clear hz;simp only[Nat.add_zero] at hc;have hor:bits .or .i64 (z:Int) ((b:Int)%128)=((z+b%128:Nat):Int):=by
     have:=or_k0 z (b%128) HZ.out (Nat.mod_lt _ (by omega));rw[show ((b%128:Nat):Int)=(b:Int)%128 from by omega] at this;exact this
    have HS:Hid (num l p 1=z+b%128):=by
     show num l p 0+bt l (p+0)%128*128 ^ 0=_;rw[←HNUM.out,HBT.out]
     try omega
    by_cases h128:b<128
    ·have hx1:(b:Int)<128:=by omega
     by_cases hb0:b=0
     ·have hbz:((b:Int)==0)=true:=by simp;omega
      have HB0:Hid (b=0):=hb0;clear hb0;have HG:Hid (ansG l p 4=_):=HANS.out.trans (qbp (k:=0) (by omega) (by rw[HLEN.out];exact hpk) (by rw[HBT.out];exact h128) (by omega));go_wp2;go_ret3;exact⟨by rw[HG.out,HS.out];simp[ret3],rfl⟩
     ·have HG:Hid (ansG l p 4=_):=HANS.out.trans (qbp (k:=0) (by omega) (by rw[HLEN.out];exact hpk) (by rw[HBT.out];exact h128) (by rw[HBT.out];omega));have hbz:((b:Int)==0)=false:=by simp;omega
      go_wp2;go_ret3;exact⟨by rw[HG.out,HS.out];simp[ret3],rfl⟩
    ·have hx1:¬(b:Int)<128:=by omega
     have HG:Hid (ansG l p 4=ansG l p (4-1)):=HANS.out.trans (qbq (k:=0) (by omega) (by rw[HLEN.out];exact hpk) (by rw[HBT.out];omega));go_wp2
     go_round
     case rel=>exact⟨1,z+b%128,by go_num,by go_num,by omega,by omega,HS.out.symm,HG.out⟩
     case measure=>simp[intOf]<;>omega
   ·have HZ:Hid (z<128 ^ 1):=hz;have hzN:z<128:=hz;clear hz;have hor:bits .or .i64 (z:Int) ((b:Int)%128*128)=((z+b%128*128:Nat):Int):=by
     have:=or_k1 z (b%128) HZ.out (Nat.mod_lt _ (by omega));rw[show ((b%128:Nat):Int)=(b:Int)%128 from by omega] at this;exact this
    have HS:Hid (num l p 2=z+b%128*128):=by
     show num l p 1+bt l (p+1)%128*128 ^ 1=_;rw[←HNUM.out,HBT.out]
     try omega
    by_cases h128:b<128
    ·have hx1:(b:Int)<128:=by omega
     by_cases hb0:b=0
     ·have hbz:((b:Int)==0)=true:=by simp;omega
      have HB0:Hid (b=0):=hb0;clear hb0;have HG:Hid (ansG l p 4=_):=HANS.out.trans (qdy (k:=1) (by omega) (by rw[HLEN.out];exact hpk) (by omega) (HBT.out.trans HB0.out));go_wp2;go_ret3;exact⟨by rw[HG.out];simp[ret3],rfl⟩
     ·have HG:Hid (ansG l p 4=_):=HANS.out.trans (qbp (k:=1) (by omega) (by rw[HLEN.out];exact hpk) (by rw[HBT.out];exact h128) (by rw[HBT.out];omega));have hbz:((b:Int)==0)=false:=by simp;omega
      go_wp2;go_ret3;exact⟨by rw[HG.out,HS.out];simp[ret3],rfl⟩
    ·have hx1:¬(b:Int)<128:=by omega
     have HG:Hid (ansG l p 4=ansG l p (4-2)):=HANS.out.trans (qbq (k:=1) (by omega) (by rw[HLEN.out];exact hpk) (by rw[HBT.out];omega));go_wp2
     go_round
     case rel=>exact⟨2,z+b%128*128,by go_num,by go_num,by omega,by omega,HS.out.symm,HG.out⟩
     case measure=>simp[intOf]<;>omega
   ·have HZ:Hid (z<128 ^ 2):=hz;have hzN:z<16384:=hz;clear hz;have hor:bits .or .i64 (z:Int) ((b:Int)%128*16384)=((z+b%128*16384:Nat):Int):=by
     have:=or_k2 z (b%128) HZ.out (Nat.mod_lt _ (by omega));rw[show ((b%128:Nat):Int)=(b:Int)%128 from by omega] at this;exact this
    have HS:Hid (num l p 3=z+b%128*16384):=by
     show num l p 2+bt l (p+2)%128*128 ^ 2=_;rw[←HNUM.out,HBT.out]
     try omega
    by_cases h128:b<128
    ·have hx1:(b:Int)<128:=by omega
     by_cases hb0:b=0
     ·have hbz:((b:Int)==0)=true:=by simp;omega
      have HB0:Hid (b=0):=hb0;clear hb0;have HG:Hid (ansG l p 4=_):=HANS.out.trans (qdy (k:=2) (by omega) (by rw[HLEN.out];exact hpk) (by omega) (HBT.out.trans HB0.out));go_wp2;go_ret3;exact⟨by rw[HG.out];simp[ret3],rfl⟩
     ·have HG:Hid (ansG l p 4=_):=HANS.out.trans (qbp (k:=2) (by omega) (by rw[HLEN.out];exact hpk) (by rw[HBT.out];exact h128) (by rw[HBT.out];omega));have hbz:((b:Int)==0)=false:=by simp;omega
      go_wp2;go_ret3;exact⟨by rw[HG.out,HS.out];simp[ret3],rfl⟩
    ·have hx1:¬(b:Int)<128:=by omega
     have HG:Hid (ansG l p 4=ansG l p (4-3)):=HANS.out.trans (qbq (k:=2) (by omega) (by rw[HLEN.out];exact hpk) (by rw[HBT.out];omega));go_wp2
     go_round
     case rel=>exact⟨3,z+b%128*16384,by go_num,by go_num,by omega,by omega,HS.out.symm,HG.out⟩
     case measure=>simp[intOf]<;>omega
   ·have HZ:Hid (z<128 ^ 3):=hz;have hzN:z<2097152:=hz;clear hz;have hor:bits .or .i64 (z:Int) ((b:Int)%128*2097152)=((z+b%128*2097152:Nat):Int):=by
     have:=or_k3 z (b%128) HZ.out (Nat.mod_lt _ (by omega));rw[show ((b%128:Nat):Int)=(b:Int)%128 from by omega] at this;exact this
    have HS:Hid (num l p 4=z+b%128*2097152):=by
     show num l p 3+bt l (p+3)%128*128 ^ 3=_;rw[←HNUM.out,HBT.out]
     try omega
    by_cases h128:b<128
    ·have hx1:(b:Int)<128:=by omega
     by_cases hb0:b=0
     ·have hbz:((b:Int)==0)=true:=by simp;omega
      have HB0:Hid (b=0):=hb0;clear hb0;have HG:Hid (ansG l p 4=_):=HANS.out.trans (qdy (k:=3) (by omega) (by rw[HLEN.out];exact hpk) (by omega) (HBT.out.trans HB0.out));go_wp2;go_ret3;exact⟨by rw[HG.out];simp[ret3],rfl⟩
     ·have HG:Hid (ansG l p 4=_):=HANS.out.trans (qbp (k:=3) (by omega) (by rw[HLEN.out];exact hpk) (by rw[HBT.out];exact h128) (by rw[HBT.out];omega));have hbz:((b:Int)==0)=false:=by simp;omega
      go_wp2;go_ret3;exact⟨by rw[HG.out,HS.out];simp[ret3],rfl⟩
    ·have hx1:¬(b:Int)<128:=by omega
     have HG:Hid (ansG l p 4=ansG l p (4-4)):=HANS.out.trans (qbq (k:=3) (by omega) (by rw[HLEN.out];exact hpk) (by rw[HBT.out];omega));go_wp2
     go_round
     case rel=>exact⟨4,z+b%128*2097152,by go_num,by go_num,by omega,by omega,HS.out.symm,HG.out⟩
     case measure=>simp[intOf]<;>omega
  ·have h1:(n:Int)≤(p:Int)+(k:Int):=by omega
   have HG:Hid (ansG l p 4=_):=HANS.out.trans (qjc (by omega) (by rw[HLEN.out];omega));go_wp2;go_ret3;exact⟨by rw[HG.out];simp[ret3],rfl⟩

theorem qno (ao:Option Addr) (n cap:Nat) (a:Int) (w:World) (h:a<0∨(n:Int)<a) :
  Calls Tryz.prog 87 #[.slice ao n cap,.int .i64 a] w fun e w'=>e=ret3 (0,0,2)∧w'=w:=by
 by_cases h0:a<0
 ·go_enter Tryz.func87,Tryz.ntmps87;go_wp2;go_ret3;exact⟨rfl,rfl⟩
 ·have h1:(n:Int)<a:=by omega
  have h2:0≤a:=by omega
  go_enter Tryz.func87,Tryz.ntmps87;go_wp2;go_ret3;exact⟨rfl,rfl⟩

theorem qtt (ao:Option Addr) (n cap:Nat) (a:Int) (l:List UInt8) (w:World) (hr:RdIn w ao n cap l) (hn:n≤1099511627776) :
  Calls Tryz.prog 87 #[.slice ao n cap,.int .i64 a] w fun e w'=>e=ret3 (getE l a)∧w'=w:=by
 have hl:=hr.1.1
 by_cases h:0≤a∧a≤n
 ·obtain⟨p,rfl⟩:=Int.eq_ofNat_of_zero_le h.1;have e:getE l (p:Int)=ansG l p 4:=by
   unfold getE;rw[if_pos (by omega)];simp
  rw[e];exact qpi ao n cap p l w hr (by omega) hn
 ·have e:getE l a=(0,0,2):=by
   unfold getE;rw[if_neg (by omega)]
  rw[e];exact qno ao n cap a w (by omega)


theorem qeu (l m:List UInt8) (i:Nat):bt (l++m) (l.length+i)=bt m i:=by
 simp[bt,List.getD_eq_getElem?_getD,List.getElem?_append_right (show l.length≤l.length+i by omega)]

theorem qkt (n:Nat) (h:n<256):(UInt8.ofNat n).toNat=n:=by simp;omega

theorem qjg (n:Nat) (h:n≤268435455) :
  (n<128∧lenF 3 n = [UInt8.ofNat n]) ∨
  (128≤n∧n<16384∧lenF 3 n = [moreB n,UInt8.ofNat (n / 128)]) ∨
  (16384≤n∧n<2097152∧lenF 3 n = [moreB n,moreB (n / 128),UInt8.ofNat (n / 16384)]) ∨
  (2097152≤n∧lenF 3 n = [moreB n,moreB (n / 128),moreB (n / 16384),UInt8.ofNat (n / 2097152)]):=by
 by_cases h1:n<128
 ·exact .inl ⟨h1,qdt 3 n h1⟩
 ·refine .inr ?_;rw[qhb 2 n h1]
  by_cases h2:n / 128<128
  ·exact .inl ⟨by omega,by omega,by rw[qdt _ _ h2]⟩
  ·refine .inr ?_;rw[qhb 1 _ h2,Nat.div_div_eq_div_mul]
   by_cases h3:n / (128*128)<128
   ·exact .inl ⟨by omega,by omega,by rw[qdt _ _ h3]⟩
   ·refine .inr ⟨by omega,?_⟩;rw[qhb 0 _ h3,Nat.div_div_eq_div_mul,qdt _ _ (by omega)]

theorem qda {l:List UInt8} {p k z b:Nat} (h:num l p k=z) (hb:bt l (p+k)=b):num l p (k+1)=z+b%128*128 ^ k:=by
 show num l p k+_=_;rw[h,hb]

theorem ansG_put (l:List UInt8) (n:Nat) (h:n≤268435455):ansG (l++lenF 3 n) l.length 4=((n:Int),((l.length+(lenF 3 n).length:Nat):Int),0):=by
 rcases qjg n h with ⟨h1,e⟩ | ⟨h1,h2,e⟩ | ⟨h1,h2,e⟩ | ⟨h1,e⟩
 ·rw[e];have b0:bt (l++[UInt8.ofNat n]) (l.length+0)=n:=by rw[qeu];exact qkt n (by omega)
  have n1:=qda (show num (l++[UInt8.ofNat n]) l.length 0=0 from rfl) b0;rw[show (4:Nat)=4-0 from rfl,qbp (k:=0) (by omega) (by simp) (by rw[b0];exact h1) (by omega),n1];simp;omega
 ·rw[e];generalize hL:l++[moreB n,UInt8.ofNat (n / 128)]=L;have b0:bt L (l.length+0)=n%128+128:=by rw[←hL,qeu];exact qhe n
  have b1:bt L (l.length+1)=n / 128:=by rw[←hL,qeu];exact qkt _ (by omega)
  have hlen:L.length=l.length+2:=by rw[←hL];simp
  have n1:=qda (show num L l.length 0=0 from rfl) b0;have n2:=qda n1 b1;rw[show (4:Nat)=4-0 from rfl,qbq (k:=0) (by omega) (by omega) (by omega),qbp (k:=1) (by omega) (by omega) (by omega) (by omega),n2];simp;omega
 ·rw[e];generalize hL:l++[moreB n,moreB (n / 128),UInt8.ofNat (n / 16384)]=L;have b0:bt L (l.length+0)=n%128+128:=by rw[←hL,qeu];exact qhe n
  have b1:bt L (l.length+1)=n / 128%128+128:=by rw[←hL,qeu];exact qhe _
  have b2:bt L (l.length+2)=n / 16384:=by rw[←hL,qeu];exact qkt _ (by omega)
  have hlen:L.length=l.length+3:=by rw[←hL];simp
  have n1:=qda (show num L l.length 0=0 from rfl) b0;have n2:=qda n1 b1;have n3:=qda n2 b2;rw[show (4:Nat)=4-0 from rfl,qbq (k:=0) (by omega) (by omega) (by omega),qbq (k:=1) (by omega) (by omega) (by omega),qbp (k:=2) (by omega) (by omega) (by omega) (by omega),n3];simp;omega
 ·rw[e];generalize hL:l++[moreB n,moreB (n / 128),moreB (n / 16384),UInt8.ofNat (n / 2097152)]=L;have b0:bt L (l.length+0)=n%128+128:=by rw[←hL,qeu];exact qhe n
  have b1:bt L (l.length+1)=n / 128%128+128:=by rw[←hL,qeu];exact qhe _
  have b2:bt L (l.length+2)=n / 16384%128+128:=by rw[←hL,qeu];exact qhe _
  have b3:bt L (l.length+3)=n / 2097152:=by rw[←hL,qeu];exact qkt _ (by omega)
  have hlen:L.length=l.length+4:=by rw[←hL];simp
  have n1:=qda (show num L l.length 0=0 from rfl) b0;have n2:=qda n1 b1;have n3:=qda n2 b2;have n4:=qda n3 b3;rw[show (4:Nat)=4-0 from rfl,qbq (k:=0) (by omega) (by omega) (by omega),qbq (k:=1) (by omega) (by omega) (by omega),qbq (k:=2) (by omega) (by omega) (by omega),qbp (k:=3) (by omega) (by omega) (by omega) (by omega),n4];simp;omega

theorem getD_is (l:List UInt8) (p:Nat) (h:p<l.length):l.getD p 0=l[p]:=by
 simp[List.getD_eq_getElem?_getD,List.getElem?_eq_getElem h]
theorem qon (l:List UInt8) (p k:Nat) (h:p+k+1≤l.length):(l.drop p).take (k+1)=l.getD p 0 :: (l.drop (p+1)).take k:=by
 rw[List.drop_eq_getElem_cons (by omega),List.take_succ_cons,getD_is l p (by omega)]
theorem piece1 (l:List UInt8) (p:Nat) (h:p+1≤l.length):(l.drop p).take 1 = [l.getD p 0]:=by
 rw[qon l p 0 (by omega),List.take_zero]

theorem qnd (u:UInt8) (n:Nat) (h:u.toNat=n):UInt8.ofNat n=u:=by
 subst h;simp
theorem qlh (u:UInt8) (n:Nat) (h:u.toNat=n%128+128):moreB n=u:=qnd u _ h

theorem ansG_good {l:List UInt8} {p:Nat} {x y:Int} (hp:p≤l.length) (h:ansG l p 4=(x,y,0)) :
  ∃k n:Nat,x=n∧n≤268435455∧y=((p+k:Nat):Int)∧p+k≤l.length∧(l.drop p).take k=lenF 3 n:=by
 have lt:=fun i=>bt_lt l i
 have dn:∀k,(l.getD (p+k) 0).toNat=bt l (p+k):=fun k=>rfl
 have l0:=lt (p+0);have l1:=lt (p+1);have l2:=lt (p+2);have l3:=lt (p+3);have d0:=dn 0;have d1:=dn 1;have d2:=dn 2;have d3:=dn 3;clear lt dn;generalize e0:bt l (p+0)=b0 at *;generalize e1:bt l (p+1)=b1 at *;generalize e2:bt l (p+2)=b2 at *;generalize e3:bt l (p+3)=b3 at *;have n1:=qda (show num l p 0=0 from rfl) e0;have n2:=qda n1 e1;have n3:=qda n2 e2;have n4:=qda n3 e3;rw[show (4:Nat)=4-0 from rfl] at h
 by_cases c0:p+0<l.length
 ·by_cases s0:b0<128
  ·rw[qbp (k:=0) (by omega) c0 (by omega) (by omega),n1] at h;simp only[Prod.mk.injEq] at h;obtain⟨rfl,rfl,_⟩:=h;refine⟨1,_,rfl,by omega,rfl,by omega,?_⟩;rw[piece1 l p (by omega),qdt _ _ (by omega)]
   congr 1
   exact (qnd _ _ (by simp only[Nat.add_zero] at d0;omega)).symm
  ·rw[qbq (k:=0) (by omega) c0 (by omega)] at h
   by_cases c1:p+1<l.length
   ·by_cases s1:b1<128
    ·by_cases z1:b1=0
     ·rw[qdy (k:=1) (by omega) c1 (by omega) (by omega)] at h;simp at h
     ·rw[qbp (k:=1) (by omega) c1 (by omega) (by omega),n2] at h;simp only[Prod.mk.injEq] at h;obtain⟨rfl,rfl,_⟩:=h;refine⟨2,_,rfl,by omega,rfl,by omega,?_⟩;rw[qon l p 1 (by omega),piece1 l (p+1) (by omega)]
      rcases qjg (0+b0%128*128 ^ 0+b1%128*128 ^ 1) (by omega) with ⟨q1,e⟩ | ⟨q1,q2,e⟩ | ⟨q1,q2,e⟩ | ⟨q1,e⟩
      ·omega
      ·rw[e,qlh (l.getD p 0) _ (by simp only[Nat.add_zero] at d0;omega),qnd (l.getD (p+1) 0) _ (by omega)]
      ·omega
      ·omega
    ·rw[qbq (k:=1) (by omega) c1 (by omega)] at h
     by_cases c2:p+2<l.length
     ·by_cases s2:b2<128
      ·by_cases z2:b2=0
       ·rw[qdy (k:=2) (by omega) c2 (by omega) (by omega)] at h;simp at h
       ·rw[qbp (k:=2) (by omega) c2 (by omega) (by omega),n3] at h;simp only[Prod.mk.injEq] at h;obtain⟨rfl,rfl,_⟩:=h;refine⟨3,_,rfl,by omega,rfl,by omega,?_⟩;rw[qon l p 2 (by omega),qon l (p+1) 1 (by omega),piece1 l (p+1+1) (by omega)]
        rcases qjg (0+b0%128*128 ^ 0+b1%128*128 ^ 1+b2%128*128 ^ 2) (by omega) with ⟨q1,e⟩ | ⟨q1,q2,e⟩ | ⟨q1,q2,e⟩ | ⟨q1,e⟩
        ·omega
        ·omega
        ·rw[e,qlh (l.getD p 0) _ (by simp only[Nat.add_zero] at d0;omega),qlh (l.getD (p+1) 0) _ (by omega),qnd (l.getD (p+1+1) 0) _ (by show (l.getD (p+2) 0).toNat=_;omega)]
        ·omega
      ·rw[qbq (k:=2) (by omega) c2 (by omega)] at h
       by_cases c3:p+3<l.length
       ·by_cases s3:b3<128
        ·by_cases z3:b3=0
         ·rw[qdy (k:=3) (by omega) c3 (by omega) (by omega)] at h;simp at h
         ·rw[qbp (k:=3) (by omega) c3 (by omega) (by omega),n4] at h;simp only[Prod.mk.injEq] at h;obtain⟨rfl,rfl,_⟩:=h;refine⟨4,_,rfl,by omega,rfl,by omega,?_⟩;rw[qon l p 3 (by omega),qon l (p+1) 2 (by omega),qon l (p+1+1) 1 (by omega),piece1 l (p+1+1+1) (by omega)]
          rcases qjg (0+b0%128*128 ^ 0+b1%128*128 ^ 1+b2%128*128 ^ 2+b3%128*128 ^ 3) (by omega) with ⟨q1,e⟩ | ⟨q1,q2,e⟩ | ⟨q1,q2,e⟩ | ⟨q1,e⟩
          ·omega
          ·omega
          ·omega
          ·rw[e,qlh (l.getD p 0) _ (by simp only[Nat.add_zero] at d0;omega),qlh (l.getD (p+1) 0) _ (by omega),qlh (l.getD (p+1+1) 0) _ (by show (l.getD (p+2) 0).toNat=_;omega),qnd (l.getD (p+1+1+1) 0) _ (by show (l.getD (p+3) 0).toNat=_;omega)]
        ·rw[qbq (k:=3) (by omega) c3 (by omega)] at h;simp[ansG] at h
       ·rw[qjc (k:=3) (by omega) (by omega)] at h;simp at h
     ·rw[qjc (k:=2) (by omega) (by omega)] at h;simp at h
   ·rw[qjc (k:=1) (by omega) (by omega)] at h;simp at h
 ·rw[qjc (k:=0) (by omega) (by omega)] at h;simp at h


theorem RdIn.cut {w:World} {a:Option Addr} {n c:Nat} {x:List UInt8} (h:RdIn w a n c x) (k:Nat) (hk:k≤n):RdIn w a k c (x.take k):=by
 obtain⟨⟨hl,hc⟩,hcap,hmax,hnil⟩:=h;refine⟨⟨by simp;omega,fun i hi=>?_⟩,by omega,hmax,hnil⟩;obtain⟨b,off,e,hcell⟩:=hc i (by omega);exact⟨b,off,e,by rw[hcell,bt_take _ _ _ hi]⟩
theorem RdIn.drewN {w:World} {a:Option Addr} {n c:Nat} {x:List UInt8} (h:RdIn w a n c x) (q:Nat):RdIn (w.drewN q) a n c x:=h.below (below_drewN (Below.refl _ _) q)

