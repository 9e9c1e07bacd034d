/- Lemmas. -/
import Derived.Test.YtpjkbgdkligpdaaGreatDoorX20
set_option linter.unusedVariables false
set_option linter.unusedSimpArgs false
set_option maxRecDepth 100000
set_option maxHeartbeats 20000000
namespace Go.Proofs.YtpjkbgdkligpdaaGreatDoor
open Go.RowKit

def Pv.fst (v:Pv):Nat:=(byte (16*v.ty+v.low)).toNat
theorem qnk {v:Pv} (k l:Int) (n:Nat) (ht:v.ty=k) (hl:v.low=l) (hn:(byte (16*k+l)).toNat=n):v.fst=n:=by
 unfold Pv.fst;rw[ht,hl,hn]
theorem bit_one (b:Bool):decide (bit b 1=1)=b:=by cases b<;>rfl
theorem back2 {v:Pv} (h:v.ok=true) (ht:v.ty=2):(∃q,qbg (qcb v.fst) v.rest=(v,q,false))∧sBody v.fst v.rest=v∧fstOk v.fst=true:=by
 have hI:qcb 32 = { Pv.zero with ty:=2 }:=by decide +kernel
 have hf:v.fst=32:=qnk 2 0 32 ht (by simp[Pv.low,ht]) (by decide +kernel);have hr:=rest2 h ht;have e:=qeg h;rw[qqc v ht] at e;have hb:=qid h;unfold Pv.body at hb;rw[if_neg (by omega),if_pos ht,qco] at hb;rw[hf,hr];generalize (v.pre&&decide (v.cod=0))=P at *;generalize v.cod=C at *;clear hr ht h hf;rw[e];clear e v;generalize hL:[byte (bit P 1),byte C]=L;have h0:L.drop 0=byte (bit P 1) :: [byte C]:=hL.symm;have b01:0≤bit P 1∧bit P 1≤255:=by have:=qdl P 1 (by omega);omega
 obtain⟨g0,h1,l1,c0⟩:=aB h0 (Nat.zero_le _) b01.1 b01.2;obtain⟨g1,h2,l2,c1⟩:=aB h1 l1 hb.1 (by omega);have hlen:L.length=2:=by rw[←hL];rfl
 refine⟨⟨0+1+1,?_⟩,?_,by decide +kernel⟩
 ·rw[hI];unfold qbg;rw[if_neg (by decide),if_pos (by decide)];simp only[qch g0,qch g1,bit_one]
 ·unfold sBody;rw[if_neg (by decide),if_pos ⟨by decide,hlen⟩];have c0':decide (bt L 0=1)=P:=by
   rw[←bit_one P,←c0];simp only[decide_eq_decide];omega
  have c1':((bt L 1:Nat):Int)=C:=c1;rw[c0',c1']
theorem back3 {v:Pv} (h:v.ok=true) (ht:v.ty=3):(∃q,qbg (qcb v.fst) v.rest=(v,q,false))∧sBody v.fst v.rest=v∧fstOk v.fst=true:=by
 have hlow:=low3 h ht;have hr:=rest3 h ht;have e:=qeg h;rw[qoh v ht] at e;have hb:=qid h;unfold Pv.body at hb;rw[if_neg (by omega),if_neg (by omega),if_pos ht] at hb;simp only[Bool.and_eq_true,Bool.or_eq_true,decide_eq_true_eq,qco] at hb;obtain⟨hq,hid,htp,hbd⟩:=hb;have hD:0<v.qos∨(if 0<v.qos then v.dup else false)=false:=by
  by_cases g:0<v.qos
  ·exact .inl g
  ·rw[if_neg g];exact .inr rfl
 have hI:(if 0<v.qos then v.id else 0)=0∨0<v.qos:=by
  by_cases g:0<v.qos
  ·exact .inr g
  ·rw[if_neg g];exact .inl rfl
 have hI2:0≤(if 0<v.qos then v.id else 0)∧(if 0<v.qos then v.id else 0)≤65535:=by
  by_cases g:0<v.qos
  ·rw[if_pos g];omega
  ·rw[if_neg g];omega
 have hfst:v.fst=(byte (48+v.low)).toNat:=by unfold Pv.fst;rw[ht];rfl
 rw[hfst,hlow,hr];generalize (if 0<v.qos then v.dup else false)=D at *;generalize (if 0<v.qos then v.id else 0)=I at *;generalize v.qos=Q at *;generalize v.ret=R at *;generalize v.top=T at *;generalize v.bod=Bd at *;clear hr ht h hfst hlow hid;rw[e];clear e v;obtain⟨k,rfl⟩:=Int.eq_ofNat_of_zero_le hq.1;have hk:k<3:=by omega
 obtain⟨a1,a2,a3,a4,a5,a6⟩:=fl_pubL D R ⟨k,hk⟩;simp only at a1 a2 a3 a4 a5 a6;have hx:=qhn (48+pubL D k R);rw[Int.emod_eq_of_lt (by omega) (by omega)] at hx;have hfo:fstOk (byte (48+pubL D k R)).toNat=true:=by
  have hh:∀(D R:Bool) (q:Fin 3),(0<q.val∨D=false)→fstOk (48+pubL D q.val R).toNat=true:=by decide +kernel
  have:=hh D R ⟨k,hk⟩ (by rcases hD with h | h;exact .inl (by simpa using h);exact .inr h);rw[←hx] at this
  simpa using this
 rw[←hx] at a1 a2 a3 a4;generalize (byte (48+pubL D k R)).toNat=X at *;have x16:X / 16=3:=by omega
 generalize hL:pubB k I T Bd=L;have h0:L.drop 0=pT T++((if 0<(k:Int) then wordB I else [])++Bd):=by rw[←hL];unfold pubB;simp
 obtain⟨a,g0,h1,l1⟩:=aT h0 (Nat.zero_le _) (wf_txt htp);obtain⟨b,g1,g2,h2,l2⟩ : ∃b,(if 0<(k:Int) then rd gW 0 L (a,false) else ((Pv.zero).id,(a,false)))=(I,b,false)∧(if 0<(k:Int) then gW L a else some (0,a))=some (I,b)∧L.drop b=Bd∧b≤L.length:=by
  by_cases g:0<(k:Int)
  ·rw[if_pos g] at h1;obtain⟨b,gk,h2,l2⟩:=aW h1 l1 hI2.1 hI2.2;exact⟨b,by rw[if_pos g];exact qch gk,by rw[if_pos g];exact gk,h2,l2⟩
  ·rw[if_neg g] at h1
   rcases hI with rfl | h'
   ·exact⟨a,by rw[if_neg g];rfl,by rw[if_neg g],h1,l1⟩
   ·exact absurd h' g
 refine⟨⟨L.length,?_⟩,?_,hfo⟩
 ·have hI:qcb X = { Pv.zero with ty:=3,dup:=D,qos:=(k:Int),ret:=R }:=by
   unfold qcb;rw[if_pos x16,a1,a2,a3]
  rw[hI];unfold qbg;simp only;rw[if_neg (by decide),if_neg (by decide),if_pos trivial];unfold iPub;have gr:gR L b=some (Bd,L.length):=by unfold gR;rw[h2]
  simp only[a1,a2,a3];simp only[qch g0];simp only[g1,qch gr]
 ·unfold sBody;rw[if_neg (by omega),if_neg (by omega),if_pos x16];unfold sPub;simp only[g0,a3,g2,a1,a2,h2]
theorem qrn {v:Pv} (h:v.ok=true) (k:Int) (ht:v.ty=k) (hk:k=4∨k=5∨k=6∨k=7∨k=11) (x:Nat) (hx:(byte (16*k+(if k=6 then 2 else 0))).toNat=x) (hI:qcb x = { Pv.zero with ty:=k }) (hx16:((x / 16:Nat):Int)=k) (ho:fstOk x=true):(∃q,qbg (qcb v.fst) v.rest=(v,q,false))∧sBody v.fst v.rest=v∧fstOk v.fst=true:=by
 have hr:=restI h k ht hk;have e:=qeg h;rw[qfa v k ht hk] at e;have hi:1≤v.id∧v.id≤65535:=by
  have hb:=qid h;unfold Pv.body at hb;rw[if_neg (by omega),if_neg (by omega),if_neg (by omega),if_neg (by omega),if_neg (by omega),if_neg (by omega),if_neg (by omega)] at hb;exact qco.1 hb
 have hf:v.fst=x:=by
  rw[←hx];unfold Pv.fst Pv.low;rw[ht]
  congr 3
  rcases hk with rfl | rfl | rfl | rfl | rfl<;>rfl
 rw[hr,hf];generalize v.id=I at *;clear hr ht hf h hx;rw[e];clear e v;generalize hL:wordB I=L;have h0:L.drop 0=wordB I++[]:=by rw[←hL];simp
 obtain⟨a,g0,h1,l1⟩:=aW h0 (Nat.zero_le _) (by omega) hi.2;refine⟨⟨a,?_⟩,?_,ho⟩
 ·rw[hI];unfold qbg;simp only;rw[if_neg (by omega),if_neg (by omega),if_neg (by omega),if_pos hk];simp only[qch g0]
 ·unfold sBody;rw[if_neg (by omega),if_neg (by omega),if_neg (by omega),if_pos (by omega)];simp only[g0];rw[if_neg (by omega),if_neg (by omega),if_neg (by omega),hx16]
theorem backI {v:Pv} (h:v.ok=true) (k:Int) (ht:v.ty=k) (hk:k=4∨k=5∨k=6∨k=7∨k=11):(∃q,qbg (qcb v.fst) v.rest=(v,q,false))∧sBody v.fst v.rest=v∧fstOk v.fst=true:=by
 rcases hk with rfl | rfl | rfl | rfl | rfl
 ·exact qrn h 4 ht (by decide) 64 (by decide +kernel) (by decide +kernel) rfl (by decide +kernel)
 ·exact qrn h 5 ht (by decide) 80 (by decide +kernel) (by decide +kernel) rfl (by decide +kernel)
 ·exact qrn h 6 ht (by decide) 98 (by decide +kernel) (by decide +kernel) rfl (by decide +kernel)
 ·exact qrn h 7 ht (by decide) 112 (by decide +kernel) (by decide +kernel) rfl (by decide +kernel)
 ·exact qrn h 11 ht (by decide) 176 (by decide +kernel) (by decide +kernel) rfl (by decide +kernel)
theorem backN {v:Pv} (h:v.ok=true) (k:Int) (ht:v.ty=k) (hk:k=12∨k=13∨k=14):(∃q,qbg (qcb v.fst) v.rest=(v,q,false))∧sBody v.fst v.rest=v∧fstOk v.fst=true:=by
 have hr:=restN h k ht hk;have e:=qeg h;rw[qit v k ht hk] at e;have hf:v.fst=(byte (16*k)).toNat:=by
  unfold Pv.fst Pv.low;rw[ht]
  congr 2
  rcases hk with rfl | rfl | rfl<;>rfl
 rw[hr,hf];clear hr ht hf h;rw[e];clear e v
 rcases hk with rfl | rfl | rfl<;>exact⟨⟨0,by decide +kernel⟩,by decide +kernel,by decide +kernel⟩
theorem back8 {v:Pv} (h:v.ok=true) (ht:v.ty=8):(∃q,qbg (qcb v.fst) v.rest=(v,q,false))∧sBody v.fst v.rest=v∧fstOk v.fst=true:=by
 have hI:qcb 130 = { Pv.zero with ty:=8 }:=by decide +kernel
 have hf:v.fst=130:=qnk 8 2 130 ht (by simp[Pv.low,ht]) (by decide +kernel);have hr:=rest8 h ht;have e:=qeg h;rw[qsp v ht] at e;have hb:=qid h;unfold Pv.body at hb;rw[if_neg (by omega),if_neg (by omega),if_neg (by omega),if_neg (by omega),if_pos ht] at hb;simp only[Bool.and_eq_true,qco,List.all_eq_true] at hb;obtain⟨hw,hi,hn⟩:=hb;rw[hf,hr];generalize v.id=I at *;generalize v.wan=W at *;clear hr ht h hf;rw[e];clear e v;generalize hL:wordB I++wanB W=L;have h0:L.drop 0=wordB I++wanB W:=hL.symm;obtain⟨a,g0,h1,l1⟩:=aW h0 (Nat.zero_le _) (by omega) hi.2;have ls:=lists (g:=gN) (d:=(ByteArray.empty,0)) (l:=L) (fun z=>pT z.1++[byte z.2]) W a L.length false (fun x hx=>by simp) (fun x hx q t hq hle=>gN_at hq hle (qtq (hw x hx).1) (hw x hx).2.1 (by have:=(hw x hx).2.2;omega)) h1 l1 (by omega);refine⟨⟨L.length,?_⟩,?_,by decide +kernel⟩
 ·rw[hI];unfold qbg;rw[if_neg (by decide),if_neg (by decide),if_neg (by decide),if_neg (by decide),if_pos (by decide)];simp only[qch g0,ls.1]
 ·unfold sBody;rw[if_neg (by decide),if_neg (by rintro ⟨hh,_⟩;revert hh;decide),if_neg (by decide),if_pos (by decide)];simp only[g0];rw[if_neg (by decide),if_pos (by decide)];simp only[ls.2]
theorem back10 {v:Pv} (h:v.ok=true) (ht:v.ty=10):(∃q,qbg (qcb v.fst) v.rest=(v,q,false))∧sBody v.fst v.rest=v∧fstOk v.fst=true:=by
 have hI:qcb 162 = { Pv.zero with ty:=10 }:=by decide +kernel
 have hf:v.fst=162:=qnk 10 2 162 ht (by simp[Pv.low,ht]) (by decide +kernel);have hr:=rest10 h ht;have e:=qeg h;rw[qog v ht] at e;have hb:=qid h;unfold Pv.body at hb;rw[if_neg (by omega),if_neg (by omega),if_neg (by omega),if_neg (by omega),if_neg (by omega),if_neg (by omega),if_pos ht] at hb;simp only[Bool.and_eq_true,qco,List.all_eq_true] at hb;obtain⟨hw,hi,hn⟩:=hb;rw[hf,hr];generalize v.id=I at *;generalize v.nam=W at *;clear hr ht h hf;rw[e];clear e v;generalize hL:wordB I++namB W=L;have h0:L.drop 0=wordB I++namB W:=hL.symm;obtain⟨a,g0,h1,l1⟩:=aW h0 (Nat.zero_le _) (by omega) hi.2;have ls:=lists (g:=gT) (d:=ByteArray.empty) (l:=L) pT W a L.length false (fun x hx=>pT_pos x (qtq (hw x hx))) (fun x hx q t hq hle=>gT_at hq hle (qtq (hw x hx))) h1 l1 (by omega);refine⟨⟨L.length,?_⟩,?_,by decide +kernel⟩
 ·rw[hI];unfold qbg;rw[if_neg (by decide),if_neg (by decide),if_neg (by decide),if_neg (by decide),if_neg (by decide),if_neg (by decide),if_pos (by decide)];simp only[qch g0,ls.1]
 ·unfold sBody;rw[if_neg (by decide),if_neg (by rintro ⟨hh,_⟩;revert hh;decide),if_neg (by decide),if_pos (by decide)];simp only[g0];rw[if_neg (by decide),if_neg (by decide),if_pos (by decide)];simp only[ls.2]
theorem cds_read (W:List Int) (h:∀x∈W,0≤x∧x≤255):(cdsB W).map (fun u=>(u.toNat:Int))=W:=by
 induction W with
 |nil=>rfl
 |cons x W ih=>
  have hx:=h x (List.mem_cons_self ..);have:=ih (fun y hy=>h y (List.mem_cons_of_mem _ hy));unfold cdsB at this ⊢;rw[List.map_cons,List.map_cons,this,qhn,Int.emod_eq_of_lt hx.1 (by omega)]
theorem back9 {v:Pv} (h:v.ok=true) (ht:v.ty=9):(∃q,qbg (qcb v.fst) v.rest=(v,q,false))∧sBody v.fst v.rest=v∧fstOk v.fst=true:=by
 have hI:qcb 144 = { Pv.zero with ty:=9 }:=by decide +kernel
 have hf:v.fst=144:=qnk 9 0 144 ht (by simp[Pv.low,ht]) (by decide +kernel);have hr:=rest9 h ht;have e:=qeg h;rw[qsq v ht] at e;have hb:=qid h;unfold Pv.body at hb;rw[if_neg (by omega),if_neg (by omega),if_neg (by omega),if_neg (by omega),if_neg (by omega),if_pos ht] at hb;simp only[Bool.and_eq_true,Bool.or_eq_true,decide_eq_true_eq,qco,List.all_eq_true] at hb;obtain⟨hw,hi,hn⟩:=hb;have hw':∀x∈v.cds,0≤x∧x≤255:=fun x hx=>by have:=hw x hx;omega
 rw[hf,hr];generalize v.id=I at *;generalize v.cds=W at *;clear hr ht h hf;rw[e];clear e v;generalize hL:wordB I++cdsB W=L;have h0:L.drop 0=wordB I++cdsB W:=hL.symm;obtain⟨a,g0,h1,l1⟩:=aW h0 (Nat.zero_le _) (by omega) hi.2;have ls:=lists (g:=gB) (d:=(0:Int)) (l:=L) (fun z=>[byte z]) W a L.length false (fun x hx=>by simp) (fun x hx q t hq hle=>(aB hq hle (hw' x hx).1 (hw' x hx).2).1) (by rw[h1,qkb]) l1 (by omega);refine⟨⟨L.length,?_⟩,?_,by decide +kernel⟩
 ·rw[hI];unfold qbg;rw[if_neg (by decide),if_neg (by decide),if_neg (by decide),if_neg (by decide),if_neg (by decide),if_pos (by decide)];simp only[qch g0,ls.1]
 ·unfold sBody;rw[if_neg (by decide),if_neg (by rintro ⟨hh,_⟩;revert hh;decide),if_neg (by decide),if_pos (by decide)];simp only[g0];rw[if_pos (by decide),h1,cds_read W hw']
theorem back1 {v:Pv} (h:v.ok=true) (ht:v.ty=1):(∃q,qbg (qcb v.fst) v.rest=(v,q,false))∧sBody v.fst v.rest=v∧fstOk v.fst=true:=by
 have hI:qcb 16 = { Pv.zero with ty:=1 }:=by decide +kernel
 have hf:v.fst=16:=qnk 1 0 16 ht (by simp[Pv.low,ht]) (by decide +kernel);obtain⟨h1,h2⟩:=con_back h ht;rw[hf];refine⟨?_,?_,by decide +kernel⟩
 ·rw[hI];unfold qbg;rw[if_pos (by decide)];exact h1
 ·unfold sBody;rw[if_pos (by decide)];exact h2
theorem back {v:Pv} (h:v.ok=true):(∃q,qbg (qcb v.fst) v.rest=(v,q,false))∧sBody v.fst v.rest=v∧fstOk v.fst=true:=by
 have ht:=ok_ty h;have h14:v.ty=1∨v.ty=2∨v.ty=3∨v.ty=8∨v.ty=9∨v.ty=10∨(v.ty=4∨v.ty=5∨v.ty=6∨v.ty=7∨v.ty=11)∨(v.ty=12∨v.ty=13∨v.ty=14):=by omega
 rcases h14 with h1 | h1 | h1 | h1 | h1 | h1 | h1 | h1
 ·exact back1 h h1
 ·exact back2 h h1
 ·exact back3 h h1
 ·exact back8 h h1
 ·exact back9 h h1
 ·exact back10 h h1
 ·exact backI h v.ty rfl h1
 ·exact backN h v.ty rfl h1
theorem num_ext (l t:List UInt8) (p k:Nat) (h:p+k≤l.length):num (l++t) p k=num l p k:=by
 induction k with
 |zero=>rfl
 |succ k ih=>
  have hb:bt (l++t) (p+k)=bt l (p+k):=by
   unfold bt;rw[List.getD_eq_getElem?_getD,List.getD_eq_getElem?_getD,List.getElem?_append_left (by omega)]
  show num (l++t) p k+_=num l p k+_;rw[ih (by omega),hb]
theorem ansG_ext (l t:List UInt8) (p:Nat):∀f,f≤4→ansG l p f≠(0,0,1)→ansG (l++t) p f=ansG l p f:=by
 intro f
 induction f with
 |zero=>intro _ _;rfl
 |succ f ih=>
  intro hf h;unfold ansG at h ⊢
  by_cases g:l.length≤p+(3-f)
  ·rw[if_pos g] at h;exact absurd rfl h
  ·have hb:bt (l++t) (p+(3-f))=bt l (p+(3-f)):=by
    unfold bt;rw[List.getD_eq_getElem?_getD,List.getD_eq_getElem?_getD,List.getElem?_append_left (by omega)]
   rw[if_neg g] at h;rw[if_neg (by rw[List.length_append];omega),if_neg g,hb]
   by_cases g1:bt l (p+(3-f))<128
   ·rw[if_pos g1,if_pos g1]
    by_cases g2:0<3-f∧bt l (p+(3-f))=0
    ·rw[if_pos g2,if_pos g2]
    ·rw[if_neg g2,if_neg g2,num_ext _ _ _ _ (by omega)]
   ·rw[if_neg g1] at h;rw[if_neg g1,if_neg g1];exact ih (by omega) h
theorem all_le {α:Type} (f:α→List UInt8) (k:Nat) (h:∀x,(f x).length≤k) (l:List α) (n:Nat) (hn:(l.length:Int)≤n):(l.flatMap f).length≤k*n:=by
 have h1:=qtp f k h l;have h2:k*l.length≤k*n:=Nat.mul_le_mul_left _ (by omega);omega
theorem rest_340 {v:Pv} (h:v.ok=true):v.rest.length≤340:=by
 have ht:=ok_ty h;have hb:=qid h;have h14:v.ty=1∨v.ty=2∨v.ty=3∨v.ty=8∨v.ty=9∨v.ty=10∨(v.ty=4∨v.ty=5∨v.ty=6∨v.ty=7∨v.ty=11)∨(v.ty=12∨v.ty=13∨v.ty=14):=by omega
 unfold Pv.body at hb
 rcases h14 with h1 | h1 | h1 | h1 | h1 | h1 | h1 | h1
 ·obtain⟨lev,cli,cln,kee,hw,wt,wb,wq,wr,hu,us,hp,pa,ev,er,w1,w2,w3,w4,hlev,hcli,hkee,u1,u2,p1,p2⟩:=qrr h h1;rw[er];unfold conB;have a1:=pT_le cli;have a0:(pT mqtt).length=6:=by decide +kernel
  have a2:=if_le hw (pT wt++pB wb) 104 (by
   have:=pT_le wt;have hB:(pB wb).length≤42:=by unfold pB;split<;>simp[qaz];omega
   simp;omega)
  have a3:=if_le hu (pT us) 62 (pT_le us);have a4:=if_le hp (pB pa) 62 (pB_le pa);simp only[List.length_append,List.length_cons,List.length_nil,qaz];omega
 ·rw[rest2 h h1];simp
 ·rw[if_neg (by omega),if_neg (by omega),if_pos h1] at hb;simp only[Bool.and_eq_true,decide_eq_true_eq] at hb;rw[rest3 h h1];have:=pubB_le v.qos (if 0<v.qos then v.id else 0) v.top v.bod;omega
 ·rw[if_neg (by omega),if_neg (by omega),if_neg (by omega),if_neg (by omega),if_pos h1] at hb;simp only[Bool.and_eq_true,qco] at hb;rw[rest8 h h1,List.length_append,qaz];have:=all_le (fun x:ByteArray×Int=>pT x.1++[byte x.2]) 63 (fun x=>by have:=pT_le x.1;simp;omega) v.wan 4 hb.2.2.2;unfold wanB;omega
 ·rw[if_neg (by omega),if_neg (by omega),if_neg (by omega),if_neg (by omega),if_neg (by omega),if_pos h1] at hb;simp only[Bool.and_eq_true,qco] at hb;rw[rest9 h h1,List.length_append,qaz,cdsB_le];omega
 ·rw[if_neg (by omega),if_neg (by omega),if_neg (by omega),if_neg (by omega),if_neg (by omega),if_neg (by omega),if_pos h1] at hb;simp only[Bool.and_eq_true,qco] at hb;rw[rest10 h h1,List.length_append,qaz];have:=all_le pT 62 pT_le v.nam 4 hb.2.2.2;unfold namB;omega
 ·rw[restI h v.ty rfl h1,qaz];omega
 ·rw[restN h v.ty rfl h1];simp
def Pv.hd (v:Pv):Nat:=1+(lenB v.rest.length).length
theorem qne {v:Pv} (h:v.ok=true):v.bytes.length=v.hd+v.rest.length:=by
 rw[qcf h];unfold Pv.hd;simp;omega
theorem qky {b p:List UInt8} : qfl b p=true ↔ ∃t,b=p++t:=by
 unfold qfl;rw[decide_eq_true_iff];constructor
 ·intro h;refine⟨b.drop p.length,?_⟩
  conv=>lhs;rw[←List.take_append_drop p.length b,h]
 ·rintro ⟨t,rfl⟩;simp
theorem qsb {v:Pv} {b:List UInt8} (h:v.ok=true) (hb:qfl b v.bytes=true) :
  headE b=.inr (v.rest.length,v.hd)∧bt b 0=v.fst∧(b.drop v.hd).take v.rest.length=v.rest∧v.bytes=b.take (v.hd+v.rest.length):=by
 obtain⟨t,rfl⟩:=qky.1 hb;have h340:=rest_340 h;have hlen:=qne h;have hB:=qcf h;have hput:=ansG_put [byte (16*v.ty+v.low)] v.rest.length (by omega);have hlf:lenB v.rest.length=lenF 3 v.rest.length:=qmw (by omega);have e:v.bytes++t=([byte (16*v.ty+v.low)]++lenF 3 v.rest.length)++(v.rest++t):=by rw[hB,hlf];simp
 have hl1:1≤(v.bytes++t).length:=by rw[List.length_append,hlen];unfold Pv.hd;omega
 have hE:getE (v.bytes++t) 1=((v.rest.length:Int),((1+(lenF 3 v.rest.length).length:Nat):Int),0):=by
  unfold getE;rw[if_pos ⟨by omega,by omega⟩,e];have:=ansG_ext ([byte (16*v.ty+v.low)]++lenF 3 v.rest.length) (v.rest++t) 1 4 (by omega) (by
   show ansG ([byte (16*v.ty+v.low)]++lenF 3 v.rest.length) [byte (16*v.ty+v.low)].length 4≠_;rw[hput];simp)
  rw[show ((1:Int)).toNat=1 from rfl,this];exact hput
 have hbt:bt (v.bytes++t) 0=v.fst:=by rw[e];rfl
 have hhd:v.hd=1+(lenF 3 v.rest.length).length:=by unfold Pv.hd;rw[hlf]
 refine⟨?_,hbt,?_,?_⟩
 ·unfold headE;rw[hE,hbt];rw[if_neg (by omega),if_neg (by rw[(back h).2.2];simp),if_neg (by simp),if_neg (by simp;omega),if_neg (by rw[List.length_append,hlen,hhd];simp;omega)];rw[hhd];simp;omega
 ·rw[e,hhd];rw[List.drop_append_of_le_length (by simp;omega)];rw[show ([byte (16*v.ty+v.low)]++lenF 3 v.rest.length).drop (1+(lenF 3 v.rest.length).length) = [] from List.drop_of_length_le (by simp;omega)];simp
 ·rw[←hlen];simp
theorem getP_good {v:Pv} {b:List UInt8} (h:v.ok=true) (hb:qfl b v.bytes=true):getP b=(v,(v.bytes.length:Int),0):=by
 obtain⟨h1,h2,h3,h4⟩:=qsb h hb;obtain⟨⟨q,hq⟩,_,_⟩:=back h;unfold getP;rw[h1];simp only[h2,h3,hq,h,hb,and_self,if_true]
theorem getS_good {v:Pv} {b:List UInt8} (h:v.ok=true) (hb:qfl b v.bytes=true):getS b=(v,(v.bytes.length:Int),0):=by
 obtain⟨h1,h2,h3,h4⟩:=qsb h hb;obtain⟨_,hq,_⟩:=back h;unfold getS;rw[h1];simp only[h2,h3,hq,h,←h4,and_self,if_true,qne h]
theorem getP_eq (b:List UInt8):getS b=getP b:=by
 cases hh:headE b with
 |inl c=>unfold getS getP;rw[hh]
 |inr nk=>
  obtain⟨n,k⟩:=nk
  by_cases g:∃v:Pv,v.ok=true∧qfl b v.bytes=true
  ·obtain⟨v,h1,h2⟩:=g;rw[getP_good h1 h2,getS_good h1 h2]
  ·unfold getS getP;rw[hh];simp only;rw[if_neg (fun e=>g ⟨_,e.1,qky.2 ⟨b.drop (k+n),by rw[e.2,List.take_append_drop]⟩⟩),if_neg (fun e=>g ⟨_,e.2.1,e.2.2⟩)]
theorem headE_ne {b:List UInt8} {c:Int} (h:headE b=.inl c):c≠0:=by
 unfold headE at h
 repeat' split at h
 all_goals first | (cases h;done) | (simp only[Sum.inl.injEq] at h;subst h;first | decide | assumption)
theorem getP_of {b:List UInt8} {v:Pv} {n:Int} (h:getP b=(v,n,0)):v.ok=true∧qfl b v.bytes=true∧n=v.bytes.length:=by
 unfold getP at h;cases hh:headE b with
 |inl c=>
  rw[hh] at h;simp only[Prod.mk.injEq] at h;exact absurd h.2.2 (headE_ne hh)
 |inr nk=>
  obtain⟨n',k⟩:=nk;rw[hh] at h;simp only at h
  split at h
  ·rename_i g
   simp only[Prod.mk.injEq] at h;obtain⟨rfl,rfl,_⟩:=h;exact⟨g.2.1,g.2.2,rfl⟩
  ·simp only[Prod.mk.injEq] at h;exact absurd h.2.2 (by decide)
theorem ansG_code (l:List UInt8) (p:Nat):∀f,(ansG l p f).2.2=0∨(ansG l p f).2.2=1∨(ansG l p f).2.2=2:=by
 intro f
 induction f with
 |zero=>exact .inr (.inr rfl)
 |succ f ih=>
  unfold ansG
  split
  ·exact .inr (.inl rfl)
  ·split
   ·split
    ·exact .inr (.inr rfl)
    ·exact .inl rfl
   ·exact ih
theorem headE_12 {b:List UInt8} {c:Int} (h:headE b=.inl c):c=1∨c=2:=by
 unfold headE at h
 repeat' split at h
 all_goals first | (cases h;done) | (simp only[Sum.inl.injEq] at h;subst h;first | decide | skip)
 rename_i g1 g2
 have hc:(getE b 1).2.2=0∨(getE b 1).2.2=1∨(getE b 1).2.2=2:=by
  unfold getE
  split
  ·exact ansG_code b _ 4
  ·exact .inr (.inr rfl)
 omega
theorem getP_bad {b:List UInt8} {v:Pv} {n c:Int} (h:getP b=(v,n,c)) (hc:c≠0):v=Pv.zero∧n=0∧(c=1∨c=2):=by
 unfold getP at h;cases hh:headE b with
 |inl c'=>
  rw[hh] at h;simp only[Prod.mk.injEq] at h;obtain⟨rfl,rfl,rfl⟩:=h;exact⟨rfl,rfl,headE_12 hh⟩
 |inr nk=>
  obtain⟨n',k⟩:=nk;rw[hh] at h;simp only at h
  split at h
  ·simp only[Prod.mk.injEq] at h;exact absurd h.2.2.symm hc
  ·simp only[Prod.mk.injEq] at h;obtain⟨rfl,rfl,rfl⟩:=h;exact⟨rfl,rfl,.inr rfl⟩
