/- Lemmas. -/
import Derived.Test.YtpjkbgdkligpdaaGreatDoorY09
set_option linter.all false
set_option maxRecDepth 100000
set_option maxHeartbeats 20000000
namespace Go.Proofs.YtpjkbgdkligpdaaGreatDoor
open Go.RowKit

def gW (l:List UInt8) (p:Nat):Option (Int×Nat):=if p+2≤l.length then some ((gw l p:Nat),p+2) else none
def gB (l:List UInt8) (p:Nat):Option (Int×Nat):=if p<l.length then some ((bt l p:Nat),p+1) else none
def gT (l:List UInt8) (p:Nat):Option (ByteArray×Nat):=match getT l (p:Nat) with
 |some (x,k)=>some (strOf x,k)
 |none=>none
def gL (l:List UInt8) (p:Nat):Option (List UInt8×Nat):=getL l (p:Nat)
def gR (l:List UInt8) (p:Nat):Option (List UInt8×Nat):=some (l.drop p,l.length)
def gN (l:List UInt8) (p:Nat):Option ((ByteArray×Int)×Nat):=match gT l p with
 |some (s,q)=>match gB l q with
  |some (x,r)=>some ((s,x),r)
  |none=>none
 |none=>none

theorem qeh {l t:List UInt8} {p:Nat} (h:l.drop p=t) (hp:p≤l.length):l.length=p+t.length:=by
 rw[←h,List.length_drop];omega
theorem qgc {l a t:List UInt8} {p:Nat} (h:l.drop p=a++t):l.drop (p+a.length)=t:=by
 rw[←List.drop_drop,h,List.drop_left]
theorem bt_at {l t:List UInt8} {p:Nat} (h:l.drop p=t) (i:Nat):bt l (p+i)=bt t i:=by rw[←h,qfr]
theorem gB_at {l t:List UInt8} {p:Nat} {c:UInt8} (h:l.drop p=c :: t) (hp:p≤l.length):gB l p=some ((c.toNat:Int),p+1):=by
 have h1:=qeh h hp;have h2:=bt_at h 0;unfold gB;rw[if_pos (by simp at h1;omega)];rw[Nat.add_zero] at h2;rw[h2];rfl
theorem gw_at {l t:List UInt8} {p:Nat} {v:Int} (h:l.drop p=wordB v++t) (h0:0≤v) (h1:v≤65535):((gw l p:Nat):Int)=v:=by
 have e0:=bt_at h 0;have e1:=bt_at h 1;have a0:=wordB_0 v;have a1:=wordB_1 v;rw[Nat.add_zero] at e0;unfold gw;rw[e0,e1];have b0:bt (wordB v++t) 0=bt (wordB v) 0:=rfl;have b1:bt (wordB v++t) 1=bt (wordB v) 1:=rfl;rw[b0,b1];omega
theorem gW_at {l t:List UInt8} {p:Nat} {v:Int} (h:l.drop p=wordB v++t) (hp:p≤l.length) (h0:0≤v) (h1:v≤65535):gW l p=some (v,p+2):=by
 have h2:=qeh h hp;rw[List.length_append,qbe] at h2;unfold gW;rw[if_pos (by omega),gw_at h h0 h1]
theorem getL_at {l x t:List UInt8} {p:Nat} (h:l.drop p=(wordB x.length++x)++t) (hp:p≤l.length) (hx:x.length≤60):getL l (p:Nat)=some (x,p+2+x.length):=by
 have h2:=qeh h hp;have hw:((gw l p:Nat):Int)=x.length:=gw_at (t:=x++t) (by rw[h,List.append_assoc]) (by omega) (by omega);simp only[List.length_append,qbe] at h2;unfold getL;rw[Int.toNat_natCast,if_pos ⟨by omega,by omega,by omega,by omega⟩];have hw':gw l p=x.length:=by omega
 rw[hw',←List.drop_drop,h];simp[wordB]
theorem gL_at {l x t:List UInt8} {p:Nat} (h:l.drop p=pB x++t) (hp:p≤l.length) (hx:x.length≤60):gL l p=some (x,p+(pB x).length):=by
 have e:pB x=wordB x.length++x:=by unfold pB;rw[if_pos hx]
 unfold gL;rw[getL_at (by rw[h,e]) hp hx,e];simp[qbe,Nat.add_assoc]
theorem okT_le {x:List UInt8} (h:okT x=true):x.length≤60:=by
 by_cases g:60<x.length
 ·rw[qsb g] at h;cases h
 ·omega
theorem gT_at {l t:List UInt8} {p:Nat} {s:ByteArray} (h:l.drop p=pT s++t) (hp:p≤l.length) (hs:txt s=true):gT l p=some (s,p+(pT s).length):=by
 have hs':okT s.data.toList=true:=hs;have e:pT s=wordB s.size++s.data.toList:=by unfold pT;rw[if_pos hs']
 have hn:s.size=s.data.toList.length:=rfl;have g:=getL_at (l:=l) (p:=p) (x:=s.data.toList) (t:=t) (by rw[h,e,hn]) hp (okT_le hs');unfold gT getT;rw[g];simp only[hs',if_true];rw[e];have hd:strOf s.data.toList=s:=by unfold strOf;rfl
 rw[hd,hn,List.length_append,qbe,Nat.add_assoc]
theorem gN_at {l t:List UInt8} {p:Nat} {z:ByteArray×Int} (h:l.drop p=(pT z.1++[byte z.2])++t) (hp:p≤l.length) (hs:txt z.1=true) (h0:0≤z.2) (h1:z.2≤255):gN l p=some (z,p+(pT z.1++[byte z.2]).length):=by
 have h':l.drop p=pT z.1++(byte z.2 :: t):=by rw[h];simp
 have hl:=qeh h' hp;have g1:=gT_at h' hp hs;have g2:=gB_at (qgc h') (by simp at hl;omega);have e:=qid z.2;rw[Int.emod_eq_of_lt h0 (by omega)] at e;rw[e] at g2;unfold gN;simp only[g1,g2];rw[List.length_append,List.length_cons,List.length_nil,Nat.add_assoc]

def rd {α:Type} (g:List UInt8→Nat→Option (α×Nat)) (d:α) (l:List UInt8) (s:Nat×Bool):α×Nat×Bool:=match g l s.1 with
 |some (x,k)=>(x,k,s.2)
 |none=>(d,l.length,true)
def rdL {α:Type} (g:List UInt8→Nat→Option (α×Nat)) (d:α) (l:List UInt8):Nat→Nat×Bool→List α×Nat×Bool
 |0,s=>([],s)
 |f+1,s=>if s.1<l.length then ((rd g d l s).1 :: (rdL g d l f (rd g d l s).2).1,(rdL g d l f (rd g d l s).2).2) else ([],s)
theorem qcs {α:Type} {g:List UInt8→Nat→Option (α×Nat)} {d x:α} {l:List UInt8} {p k:Nat} {e:Bool} (h:g l p=some (x,k)):rd g d l (p,e)=(x,k,e):=by
 unfold rd;simp only[h]
theorem rd_no {α:Type} {g:List UInt8→Nat→Option (α×Nat)} {d:α} {l:List UInt8} {p:Nat} {e:Bool} (h:g l p=none):rd g d l (p,e)=(d,l.length,true):=by
 unfold rd;simp only[h]
def allG {α:Type} (g:List UInt8→Nat→Option (α×Nat)) (l:List UInt8):Nat→Nat→Option (List α)
 |0,p=>if p<l.length then none else some []
 |f+1,p=>if p<l.length then (match g l p with
   |some (x,k)=>(match allG g l f k with
    |some xs=>some (x :: xs)
    |none=>none)
   |none=>none) else some []
theorem lists {α:Type} {g:List UInt8→Nat→Option (α×Nat)} {d:α} {l:List UInt8} (enc:α→List UInt8) (xs:List α) :
  ∀(p f:Nat) (e:Bool),(∀x∈xs,1≤(enc x).length)→(∀x∈xs,∀(q:Nat) (t:List UInt8),l.drop q=enc x++t→q≤l.length→g l q=some (x,q+(enc x).length))→l.drop p=xs.flatMap enc→p≤l.length→l.length≤p+f →
  rdL g d l f (p,e)=(xs,l.length,e)∧allG g l f p=some xs:=by
 induction xs with
 |nil=>
  intro p f e he hg h hp hf;have hl:=qeh h hp;simp at hl;obtain rfl:p=l.length:=hl.symm;cases f with
  |zero=>refine⟨rfl,?_⟩;simp only[allG];rw[if_neg (by omega)]
  |succ f=>refine⟨?_,?_⟩;simp only[rdL];rw[if_neg (by simp)];simp only[allG];rw[if_neg (by omega)]
 |cons x xs ih=>
  intro p f e he hg h hp hf;rw[List.flatMap_cons] at h;have hl:=qeh h hp;have h1:=he x (List.mem_cons_self ..);rw[List.length_append] at hl;have g1:=hg x (List.mem_cons_self ..) p _ h hp;have h2:=qgc h;cases f with
  |zero=>omega
  |succ f=>
   obtain⟨i1,i2⟩:=ih (p+(enc x).length) f e (fun y hy=>he y (List.mem_cons_of_mem _ hy)) (fun y hy=>hg y (List.mem_cons_of_mem _ hy)) h2 (by omega) (by omega);have r:rd g d l (p,e)=(x,p+(enc x).length,e):=qcs g1;refine⟨?_,?_⟩
   ·simp only[rdL];rw[if_pos (by omega),r];simp only[i1]
   ·simp only[allG];rw[if_pos (by omega),g1];simp only[i2]
def fl (f n:Int):Bool:=decide (f / n%2=1)

def iCon (l:List UInt8) (v:Pv):Pv×Nat×Bool :=
 let r0:=rd gT ByteArray.empty l (0,false)
 let r1:=rd gB 0 l r0.2
 let r2:=rd gB 0 l r1.2
 let r3:=rd gW 0 l r2.2
 let r4:=rd gT ByteArray.empty l r3.2
 let r5:=if fl r2.1 4 then rd gT ByteArray.empty l r4.2 else (v.wt,r4.2)
 let r6:=if fl r2.1 4 then rd gL [] l r5.2 else (v.wb,r5.2)
 let r7:=if fl r2.1 128 then rd gT ByteArray.empty l r6.2 else (v.us,r6.2)
 let r8:=if fl r2.1 64 then rd gL [] l r7.2 else (v.pa,r7.2)
 ({ v with lev:=r1.1,cln:=fl r2.1 2,hw:=fl r2.1 4,wr:=fl r2.1 32,hu:=fl r2.1 128,hp:=fl r2.1 64,wq:=r2.1 / 8%4,kee:=r3.1,cli:=r4.1,wt:=r5.1,wb:=r6.1,us:=r7.1,pa:=r8.1 },r8.2)
def iPub (l:List UInt8) (v:Pv):Pv×Nat×Bool :=
 let r0:=rd gT ByteArray.empty l (0,false)
 let r1:=if 0<v.qos then rd gW 0 l r0.2 else (v.id,r0.2)
 let r2:=rd gR [] l r1.2
 ({ v with top:=r0.1,id:=r1.1,bod:=r2.1 },r2.2)
def qbj (v:Pv) (l:List UInt8):Pv×Nat×Bool :=
 if v.ty=1 then iCon l v
 else if v.ty=2 then
  let r0:=rd gB 0 l (0,false)
  let r1:=rd gB 0 l r0.2
  ({ v with pre:=decide (r0.1=1),cod:=r1.1 },r1.2)
 else if v.ty=3 then iPub l v
 else if v.ty=4∨v.ty=5∨v.ty=6∨v.ty=7∨v.ty=11 then
  let r0:=rd gW 0 l (0,false)
  ({ v with id:=r0.1 },r0.2)
 else if v.ty=8 then
  let r0:=rd gW 0 l (0,false)
  let r1:=rdL gN (ByteArray.empty,0) l l.length r0.2
  ({ v with id:=r0.1,wan:=r1.1 },r1.2)
 else if v.ty=9 then
  let r0:=rd gW 0 l (0,false)
  let r1:=rdL gB 0 l l.length r0.2
  ({ v with id:=r0.1,cds:=r1.1 },r1.2)
 else if v.ty=10 then
  let r0:=rd gW 0 l (0,false)
  let r1:=rdL gT ByteArray.empty l l.length r0.2
  ({ v with id:=r0.1,nam:=r1.1 },r1.2)
 else (v,0,false)
def qck (x:Nat):Pv:=if x / 16=3 then { Pv.zero with ty:=3,dup:=fl x 8,qos:=(x:Int) / 2%4,ret:=fl x 1 } else { Pv.zero with ty:=(x / 16:Nat) }

def sCon (l:List UInt8):Pv:=match gT l 0 with
 |none=>Pv.zero
 |some (nm,a)=>if nm≠mqtt∨l.length<a+2 then Pv.zero else match gW l (a+2) with
  |none=>Pv.zero
  |some (ke,b)=>match gT l b with
   |none=>Pv.zero
   |some (s,c)=>
    let f:Int:=bt l (a+1)
    match (if fl f 4 then (match gT l c with
     |none=>none
     |some (t,n1)=>match gL l n1 with
      |none=>none
      |some (w,n2)=>some (t,w,n2)) else some (ByteArray.empty,[],c)) with
    |none=>Pv.zero
    |some (wt,wb,d)=>match (if fl f 128 then gT l d else some (ByteArray.empty,d)) with
     |none=>Pv.zero
     |some (us,e)=>match (if fl f 64 then gL l e else some ([],e)) with
      |none=>Pv.zero
      |some (pa,_)=>{ Pv.zero with ty:=1,lev:=bt l a,cln:=fl f 2,hw:=fl f 4,wq:=f / 8%4,wr:=fl f 32,hp:=fl f 64,hu:=fl f 128,kee:=ke,cli:=s,wt:=wt,wb:=wb,us:=us,pa:=pa }
def sPub (x:Nat) (l:List UInt8):Pv:=match gT l 0 with
 |none=>Pv.zero
 |some (t,a)=>match (if 0<(x:Int) / 2%4 then gW l a else some (0,a)) with
  |none=>Pv.zero
  |some (i,b)=>{ Pv.zero with ty:=3,dup:=fl x 8,qos:=(x:Int) / 2%4,ret:=fl x 1,top:=t,id:=i,bod:=l.drop b }
def sBody (x:Nat) (l:List UInt8):Pv :=
 if x / 16=1 then sCon l
 else if x / 16=2∧l.length=2 then { Pv.zero with ty:=2,pre:=decide (bt l 0=1),cod:=bt l 1 }
 else if x / 16=3 then sPub x l
 else if x / 16<12 then (match gW l 0 with
  |none=>Pv.zero
  |some (i,a)=>
   if x / 16=9 then { Pv.zero with ty:=9,id:=i,cds:=(l.drop a).map fun u=>(u.toNat:Int) }
   else if x / 16=8 then (match allG gN l l.length a with
    |none=>Pv.zero
    |some ws=>{ Pv.zero with ty:=8,id:=i,wan:=ws })
   else if x / 16=10 then (match allG gT l l.length a with
    |none=>Pv.zero
    |some ns=>{ Pv.zero with ty:=10,id:=i,nam:=ns })
   else { Pv.zero with ty:=(x / 16:Nat),id:=i })
 else { Pv.zero with ty:=(x / 16:Nat) }
def fstOk (x:Nat):Bool :=
 if x / 16=0∨x / 16=15 then false
 else if x / 16=3 then decide (x / 2%4<3)&&(decide (0<x / 2%4) || decide (x%16<8))
 else if x / 16=6∨x / 16=8∨x / 16=10 then decide (x%16=2)
 else decide (x%16=0)
def headE (b:List UInt8):Int ⊕ (Nat×Nat) :=
 if b.length=0 then .inl 1 else if fstOk (bt b 0)=false then .inl 2
 else if (getE b 1).2.2≠0 then .inl (getE b 1).2.2
 else if 340<(getE b 1).1 then .inl 2
 else if (b.length:Int)-(getE b 1).2.1<(getE b 1).1 then .inl 1
 else .inr ((getE b 1).1.toNat,(getE b 1).2.1.toNat)
def qeg (b p:List UInt8):Bool:=decide (b.take p.length=p)
def getP (b:List UInt8):Pv×Int×Int:=match headE b with
 |.inl c=>(Pv.zero,0,c)
 |.inr (n,k)=>
  let r:=qbj (qck (bt b 0)) ((b.drop k).take n)
  if r.2.2=false∧r.1.ok=true∧qeg b r.1.bytes=true then (r.1,r.1.bytes.length,0) else (Pv.zero,0,2)
def getS (b:List UInt8):Pv×Int×Int:=match headE b with
 |.inl c=>(Pv.zero,0,c)
 |.inr (n,k)=>
  let v:=sBody (bt b 0) ((b.drop k).take n)
  if v.ok=true∧v.bytes=b.take (k+n) then (v,((k+n:Nat):Int),0) else (Pv.zero,0,2)

theorem fl_conF:∀(cln hw wr hp hu:Bool) (q:Fin 3),fl (conF cln hw q.val wr hp hu) 2=cln∧fl (conF cln hw q.val wr hp hu) 4=hw∧fl (conF cln hw q.val wr hp hu) 32=wr∧fl (conF cln hw q.val wr hp hu) 64=hp∧fl (conF cln hw q.val wr hp hu) 128=hu∧conF cln hw q.val wr hp hu / 8%4=q.val∧0≤conF cln hw q.val wr hp hu∧conF cln hw q.val wr hp hu<256:=by decide +kernel
theorem flags_back (cln hw wr hp hu:Bool) (wq:Int) (h0:0≤wq) (h1:wq≤2) (c:UInt8) (hc:c=byte (conF cln hw wq wr hp hu)):fl c.toNat 2=cln∧fl c.toNat 4=hw∧fl c.toNat 32=wr∧fl c.toNat 64=hp∧fl c.toNat 128=hu∧(c.toNat:Int) / 8%4=wq:=by
 obtain⟨k,rfl⟩:=Int.eq_ofNat_of_zero_le h0;have:=fl_conF cln hw wr hp hu ⟨k,by omega⟩;simp only at this;obtain⟨a1,a2,a3,a4,a5,a6,a7,a8⟩:=this;have hb:=qid (conF cln hw k wr hp hu);rw[Int.emod_eq_of_lt a7 a8] at hb;subst hc;rw[hb];exact⟨a1,a2,a3,a4,a5,a6⟩
theorem fl_pubL:∀(dup ret:Bool) (q:Fin 3),fl (48+pubL dup q.val ret) 8=dup∧fl (48+pubL dup q.val ret) 1=ret∧(48+pubL dup q.val ret) / 2%4=q.val∧(48+pubL dup q.val ret) / 16=3∧0≤pubL dup q.val ret∧pubL dup q.val ret<16:=by decide +kernel
theorem wf_txt {s:ByteArray} (h:tpc s=true):txt s=true:=by
 unfold tpc topOk levOk at h;simp only[Bool.and_eq_true] at h;exact h.1.2.1
theorem quu {s:ByteArray} (h:flt s=true):txt s=true:=by
 unfold flt filOk levOk at h;simp only[Bool.and_eq_true] at h;exact h.1.2.1
theorem txt_no:txt ByteArray.empty=true:=by decide +kernel
theorem aT {l t:List UInt8} {p:Nat} {s:ByteArray} (h:l.drop p=pT s++t) (hp:p≤l.length) (hs:txt s=true):∃q,gT l p=some (s,q)∧l.drop q=t∧q≤l.length:=by
 have h1:=qeh h hp;rw[List.length_append] at h1;exact⟨_,gT_at h hp hs,qgc h,by omega⟩
theorem aL {l t x:List UInt8} {p:Nat} (h:l.drop p=pB x++t) (hp:p≤l.length) (hs:x.length≤60):∃q,gL l p=some (x,q)∧l.drop q=t∧q≤l.length:=by
 have h1:=qeh h hp;rw[List.length_append] at h1;exact⟨_,gL_at h hp hs,qgc h,by omega⟩
theorem aW {l t:List UInt8} {p:Nat} {v:Int} (h:l.drop p=wordB v++t) (hp:p≤l.length) (h0:0≤v) (h1:v≤65535):∃q,gW l p=some (v,q)∧l.drop q=t∧q≤l.length:=by
 have h2:=qeh h hp;rw[List.length_append,qbe] at h2;exact⟨p+2,gW_at h hp h0 h1,qgc (a:=wordB v) h,by omega⟩
theorem aB {l t:List UInt8} {p:Nat} {v:Int} (h:l.drop p=byte v :: t) (hp:p≤l.length) (h0:0≤v) (h1:v≤255):gB l p=some (v,p+1)∧l.drop (p+1)=t∧p+1≤l.length∧((bt l p:Nat):Int)=v:=by
 have h2:=qeh h hp;rw[List.length_cons] at h2;have e:=qid v;rw[Int.emod_eq_of_lt h0 (by omega)] at e;have g:=gB_at h hp;have b:=bt_at h 0;rw[Nat.add_zero] at b;refine⟨by rw[g,e],qgc (a:=[byte v]) h,by omega,?_⟩;rw[b];exact e
theorem pT_pos (s:ByteArray) (h:txt s=true):1≤(pT s).length:=by
 have h':okT s.data.toList=true:=h;unfold pT;rw[if_pos h'];simp[qbe];omega
theorem qst {v:Pv} (h:v.ok=true) (ht:v.ty=1):∃(lev:Int) (cli:ByteArray) (cln:Bool) (kee:Int) (hw:Bool) (wt:ByteArray) (wb:List UInt8) (wq:Int) (wr hu:Bool) (us:ByteArray) (hp:Bool) (pa:List UInt8),
  v = { Pv.zero with ty:=1,lev:=lev,cli:=cli,cln:=cln,kee:=kee,hw:=hw,wt:=wt,wb:=wb,wq:=wq,wr:=wr,hu:=hu,us:=us,hp:=hp,pa:=pa }∧v.rest=conB lev cli cln kee hw wt wb wq wr hu us hp pa ∧
  (hw=false→wt=ByteArray.empty∧wb = [])∧(hw=true→txt wt=true)∧wb.length≤40∧(0≤wq∧wq≤2)∧(0≤lev∧lev≤255)∧txt cli=true∧(0≤kee∧kee≤65535)∧(hu=false→us=ByteArray.empty)∧txt us=true∧(hp=false→pa = [])∧pa.length≤60:=by
 have hr:=rest1 h ht;have e:=qev h;rw[qjn v ht] at e;have hb:=qjp h;unfold Pv.body at hb;rw[if_pos ht] at hb;simp only[Bool.and_eq_true,Bool.or_eq_true,decide_eq_true_eq,qdm,Bool.not_eq_true'] at hb;obtain⟨hw,h2,h3,h4,h5,h6⟩:=hb;refine⟨_,_,_,_,_,_,_,_,_,_,_,_,_,e,hr,?_,?_,?_,?_,h2,h3,h4,?_,?_,?_,?_⟩
 ·intro hh;simp[hh]
 ·intro hh;rw[if_pos hh]
  rcases hw with hw | hw
  ·rw[hh] at hw;cases hw
  ·exact wf_txt hw.1
 ·split
  ·rename_i hh
   rcases hw with hw | hw
   ·rw[hh] at hw;cases hw
   ·exact hw.2.1
  ·simp
 ·split
  ·rename_i hh
   rcases hw with hw | hw
   ·rw[hh] at hw;cases hw
   ·exact hw.2.2
  ·omega
 ·intro hh;simp[hh]
 ·split
  ·exact h5
  ·exact txt_no
 ·intro hh;rw[hh];rfl
 ·split
  ·exact h6
  ·simp
theorem con_back {v:Pv} (h:v.ok=true) (ht:v.ty=1):(∃q,iCon v.rest { Pv.zero with ty:=1 } = (v,q,false))∧sCon v.rest=v:=by
 obtain⟨lev,cli,cln,kee,hw,wt,wb,wq,wr,hu,us,hp,pa,ev,er,w1,w2,w3,w4,hlev,hcli,hkee,u1,u2,p1,p2⟩:=qst h ht;rw[er];rw[ev];clear er ev h ht v;generalize hL:conB lev cli cln kee hw wt wb wq wr hu us hp pa=L;generalize hF:byte (conF cln hw wq wr hp hu)=F;have h0:L.drop 0=pT mqtt++(byte lev :: F :: (wordB kee++(pT cli++((if hw then pT wt++pB wb else [])++((if hu then pT us else [])++((if hp then pB pa else [])++[])))))):=by
  rw[←hL,←hF,List.drop_zero];unfold conB;simp
 obtain⟨f1,f2,f3,f4,f5,f6⟩:=flags_back cln hw wr hp hu wq w4.1 w4.2 F hF.symm;clear hL hF;obtain⟨a,g0,h1,l1⟩:=aT h0 (Nat.zero_le _) (by decide +kernel);obtain⟨gl,h2,l2,b1⟩:=aB h1 l1 hlev.1 hlev.2;have gF:=gB_at h2 l2;have bF:=bt_at h2 0;have hle2:=qeh h2 l2;have h3:=qgc (a:=[F]) h2;simp only[List.length_cons,List.length_nil,Nat.zero_add,Nat.add_assoc,Nat.reduceAdd] at h3;have l3:a+2≤L.length:=by simp at hle2;omega
 obtain⟨b,gk,h4,l4⟩:=aW h3 l3 hkee.1 hkee.2;obtain⟨c,gc,h5,l5⟩:=aT h4 l4 hcli;have bF':bt L (a+1)=F.toNat:=by rw[Nat.add_zero] at bF;exact bF
 simp only[Nat.add_assoc,Nat.reduceAdd] at gF;have F1:∀(K:Nat→Option (ByteArray×List UInt8×Nat)) ,True:=fun _=>trivial
 obtain⟨d,hd1,hd2,h6,l6⟩ : ∃d,(if fl F.toNat 4 then (rd gT ByteArray.empty L (c,false)).1 else (Pv.zero).wt)=wt ∧
   ((if fl F.toNat 4 then rd gL [] L (if fl F.toNat 4 then rd gT ByteArray.empty L (c,false) else ((Pv.zero).wt,(c,false))).2 else ((Pv.zero).wb,(if fl F.toNat 4 then rd gT ByteArray.empty L (c,false) else ((Pv.zero).wt,(c,false))).2))=(wb,d,false) ∧
    (if fl F.toNat 4 then (match gT L c with | none=>none | some (t,n1)=>match gL L n1 with | none=>none | some (w,n2)=>some (t,w,n2)) else some (ByteArray.empty,[],c))=some (wt,wb,d)) ∧
   L.drop d=(if hu then pT us else [])++((if hp then pB pa else [])++[])∧d≤L.length:=by
  rw[f2];cases hw with
  |false=>
   obtain⟨rfl,rfl⟩:=w1 rfl;exact⟨c,rfl,⟨rfl,rfl⟩,h5,l5⟩
  |true=>
   have h5':L.drop c=pT wt++(pB wb++((if hu then pT us else [])++((if hp then pB pa else [])++[]))):=by rw[h5];simp
   obtain⟨n1,gt,h7,l7⟩:=aT h5' l5 (w2 rfl);obtain⟨n2,gb,h8,l8⟩:=aL h7 l7 (by omega);refine⟨n2,?_,⟨?_,?_⟩,h8,l8⟩
   ·rw[if_pos rfl,qcs gt]
   ·rw[if_pos rfl,if_pos rfl,qcs gt];exact qcs gb
   ·rw[if_pos rfl,gt];simp only[gb]
 obtain⟨e,he1,he2,h7,l7⟩ : ∃e,(if fl F.toNat 128 then rd gT ByteArray.empty L (d,false) else ((Pv.zero).us,(d,false)))=(us,e,false)∧(if fl F.toNat 128 then gT L d else some (ByteArray.empty,d))=some (us,e)∧L.drop e=(if hp then pB pa else [])++[]∧e≤L.length:=by
  rw[f5];cases hu with
  |false=>
   obtain rfl:=u1 rfl;exact⟨d,rfl,rfl,h6,l6⟩
  |true=>
   obtain⟨n1,gt,h8,l8⟩:=aT h6 l6 u2;exact⟨n1,by rw[if_pos rfl];exact qcs gt,by rw[if_pos rfl];exact gt,h8,l8⟩
 obtain⟨z,hz1,hz2⟩ : ∃z,(if fl F.toNat 64 then rd gL [] L (e,false) else ((Pv.zero).pa,(e,false)))=(pa,z,false)∧(if fl F.toNat 64 then gL L e else some ([],e))=some (pa,z):=by
  rw[f4];cases hp with
  |false=>
   obtain rfl:=p1 rfl;exact⟨e,rfl,rfl⟩
  |true=>
   obtain⟨n1,gt,h8,l8⟩:=aL h7 l7 p2;exact⟨n1,by rw[if_pos rfl];exact qcs gt,by rw[if_pos rfl];exact gt⟩
 rw[f2] at hd1 hd2;rw[f5] at he1 he2;rw[f4] at hz1 hz2;refine⟨⟨z,?_⟩,?_⟩
 ·unfold iCon;simp only[qcs g0,qcs gl,qcs gF,qcs gk,qcs gc];have hd1':(if hw then rd gT ByteArray.empty L (c,false) else ((Pv.zero).wt,(c,false))).1=wt:=by rw[←hd1];split<;>rfl
  simp only[f1,f2,f3,f4,f5,f6];simp only[hd1',hd2.1,he1,hz1]
 ·unfold sCon;simp only[g0];rw[if_neg (by simp;omega)];simp only[gk,gc,bF',f1,f2,f3,f4,f5,f6,b1];simp only[hd2.2,he2,hz2]

def xV {α:Type} (d:α) (o:Option (α×Nat)):α:=match o with
 |some (x,_)=>x
 |none=>d
def xK {α:Type} (o:Option (α×Nat)):Nat:=match o with
 |some (_,k)=>k
 |none=>0
def rInt (o:Option (Int×Nat)):Value:=.tuple #[.int .i64 (xV 0 o),.int .i64 (xK o:Nat),.bool o.isSome]
def rTxt (o:Option (ByteArray×Nat)):Value:=.tuple #[.string (xV ByteArray.empty o),.int .i64 (xK o:Nat),.bool o.isSome]
def rWan (o:Option ((ByteArray×Int)×Nat)):Value:=.tuple #[.agg #[.string (xV (ByteArray.empty,0) o).1,.int .i64 (xV (ByteArray.empty,0) o).2],.int .i64 (xK o:Nat),.bool o.isSome]
theorem quz (ao:Option Addr) (n cap p:Nat) (l:List UInt8) (w:World) (hr:RdIn w ao n cap l) (hn:n≤1048576) :
  Calls Tryz.prog 154 #[.slice ao n cap,.int .i64 p] w fun e w'=>e=.returned (rInt (gW l p))∧Below w.heap.size w w':=by
 have hl:=hr.1.1;unfold gW
 by_cases h:p+2≤n
 ·rw[if_pos (by omega)];exact qei ao n cap p l w hr h (by omega)
 ·rw[if_neg (by omega)];exact qiu ao n cap p w (by omega) (.inr (by omega))
theorem qij (ao:Option Addr) (n cap p:Nat) (l:List UInt8) (w:World) (hr:RdIn w ao n cap l) (hn:n≤1048576) :
  Calls Tryz.prog 159 #[.slice ao n cap,.int .i64 p] w fun e w'=>e=.returned (rTxt (gT l p))∧Below w.heap.size w w':=by
 have h:=qsz ao n cap p l w hr (by omega);have e:ansT l (p:Int)=.returned (rTxt (gT l p)):=by
  unfold ansT gT;cases getT l (p:Int) with
  |none=>rfl
  |some x=>rfl
 rw[e] at h;exact h
theorem qkp (ao:Option Addr) (n cap p:Nat) (l:List UInt8) (w:World) (hr:RdIn w ao n cap l) (hn:n≤1048576) :
  Calls Tryz.prog 152 #[.slice ao n cap,.int .i64 p] w fun e w'=>e=.returned (rInt (gB l p))∧Below w.heap.size w w':=by
 have hl:=hr.1.1;unfold gB
 by_cases h:p<n
 ·rw[if_pos (by omega)];obtain⟨b,off,rfl,hc⟩:=hr.1.at (show 0<n by omega);have c0:=hc p h;have q0:=bt_lt l p;have h1:¬(n:Int)≤p:=by omega
  clear hl hr hc;go_enter Tryz.func152,Tryz.ntmps152;go_wp2;go_ret3;exact⟨by simp[rInt,xV,xK],Below.refl _ _⟩
 ·rw[if_neg (by omega)];have h1:(n:Int)≤p:=by omega
  clear hl hr;go_enter Tryz.func152,Tryz.ntmps152;go_wp2;go_ret3;exact⟨by simp[rInt,xV,xK],Below.refl _ _⟩
theorem qva (ao:Option Addr) (n cap p:Nat) (l:List UInt8) (w:World) (hr:RdIn w ao n cap l) (hn:n≤1048576) (hp:p≤n) :
  Calls Tryz.prog 169 #[.slice ao n cap,.int .i64 p] w fun e w'=>∃a c,e=.returned (.tuple #[.slice a (n-p) c,.int .i64 n,.bool true])∧Own w' w.heap.size a (n-p) c (l.drop p)∧Below w.heap.size w w':=by
 obtain⟨ax,cx,hsl,hx⟩:=qhw hr p hp;obtain⟨m,hm⟩ : ∃m,n-p=m:=⟨_,rfl⟩;rw[hm] at hsl hx ⊢;have hm':m≤1048576:=by omega
 clear hm;go_enter Tryz.func169,Tryz.ntmps169;go_wp2_with fail
 refine (qbs _ _ _ 0 _ _ hx (by omega) (by omega)).mono ?_;rintro e w1 ⟨a1,c1,rfl,ho1,hb1⟩;go_wp2;go_ret3;exact⟨a1,c1,by simp,ho1,hb1⟩
theorem qtc (ao:Option Addr) (n cap p:Nat) (l:List UInt8) (w:World) (hr:RdIn w ao n cap l) (hn:n≤1048576) :
  Calls Tryz.prog 168 #[.slice ao n cap,.int .i64 p] w fun e w'=>∃a c,e=.returned (.tuple #[.slice a (xV [] (gL l p)).length c,.int .i64 (xK (gL l p):Nat),.bool (gL l p).isSome])∧Own w' w.heap.size a (xV [] (gL l p)).length c (xV [] (gL l p))∧Below w.heap.size w w':=by
 cases h:getL l (p:Int) with
 |none=>
  have hg:gL l p=none:=h;rw[hg];refine (qno ao n cap p l w hr (by omega) h).mono ?_;rintro e w' ⟨rfl,hb⟩;exact⟨none,0,rfl,⟨rfl,World.ownsRow_nil _ _ _ _⟩,hb⟩
 |some xk=>
  obtain⟨x,k⟩:=xk;have hg:gL l p=some (x,k):=h;rw[hg];exact qmd ao n cap p l x k w hr (by omega) h
theorem qtd (ao:Option Addr) (n cap p:Nat) (l:List UInt8) (w:World) (hr:RdIn w ao n cap l) (hn:n≤1048576) (hp:p≤n) :
  Calls Tryz.prog 169 #[.slice ao n cap,.int .i64 p] w fun e w'=>∃a c,e=.returned (.tuple #[.slice a (xV [] (gR l p)).length c,.int .i64 (xK (gR l p):Nat),.bool (gR l p).isSome])∧Own w' w.heap.size a (xV [] (gR l p)).length c (xV [] (gR l p))∧Below w.heap.size w w':=by
 have hl:=hr.1.1;have e1:(xV [] (gR l p)).length=n-p:=by show (l.drop p).length=_;rw[List.length_drop,hl]
 have e2:xK (gR l p)=n:=hl;rw[e1,e2];exact qva ao n cap p l w hr hn hp
theorem qvb (ao:Option Addr) (n cap p:Nat) (l:List UInt8) (w:World) (hr:RdIn w ao n cap l) (hn:n≤1048576) :
  Calls Tryz.prog 156 #[.slice ao n cap,.int .i64 p] w fun e w'=>e=.returned (rWan (gN l p))∧Below w.heap.size w w':=by
 have hA:Row (w.alloc (.cells #[.string ByteArray.empty,.int .i64 0] 88)) w.heap.size #[.string ByteArray.empty,.int .i64 0] 88:=Row.new _ _ _;have hr0:=hr.below (qac w (.cells #[.string ByteArray.empty,.int .i64 0] 88));cases h1:gT l p with
 |none=>
  have hN:Hid (gN l p=none):=by unfold Hid gN;rw[h1]
  go_enter Tryz.func156,Tryz.ntmps156;go_wp2_with fail
  refine (qij ao n cap p l _ hr0 hn).mono ?_;rintro e w1 ⟨rfl,hb⟩;rw[h1];have B1:=hA.next hb;simp only[rTxt,xV,xK,Option.isSome_none];clear h1 hr hr0;have c0:=B1.cell 0 rfl;have c1:=B1.cell 1 rfl;have z0:=Lib.frozen_of_heap B1 0;have z1:=Lib.frozen_of_heap B1 1;go_wp2;have D2:Row ((w1.setCell ⟨w.heap.size,0,none⟩ (.string ⟨#[]⟩)).setCell ⟨w.heap.size,1,none⟩ (.int .i64 0)) w.heap.size #[.string ⟨#[]⟩,.int .i64 0] 88:=qaf (qaf B1 0 _) 1 _;have d0:=D2.cell 0 rfl;have d1:=D2.cell 1 rfl;refine bodyPost_ret (v:=rWan none) ?_ rfl ⟨by rw[hN.out],?_⟩
  ·simp[results,Tryz.results156,go_sem,d0,d1,rWan,xV,xK];rfl
  ·exact (((qac w _).trans (hb.mono (by simp))).setCell (Nat.le_refl _) _).setCell (Nat.le_refl _) _
 |some sk=>
  obtain⟨s,q⟩:=sk;cases h2:gB l q with
  |none=>
   have hN:Hid (gN l p=none):=by unfold Hid gN;rw[h1];simp only[h2]
   go_enter Tryz.func156,Tryz.ntmps156;go_wp2_with fail
   refine (qij ao n cap p l _ hr0 hn).mono ?_;rintro e w1 ⟨rfl,hb1⟩;rw[h1];simp only[rTxt,xV,xK,Option.isSome_some];have hr1:=hr0.below hb1;go_wp2_with fail
   refine (qkp ao n cap q l _ hr1 hn).mono ?_;rintro e w2 ⟨rfl,hb2⟩;rw[h2];simp only[rInt,xV,xK,Option.isSome_none];have hb:=bel hb1 hb2;have B1:=hA.next hb;clear h1 h2 hr hr0 hr1 hb1 hb2;have c0:=B1.cell 0 rfl;have c1:=B1.cell 1 rfl;have z0:=Lib.frozen_of_heap B1 0;have z1:=Lib.frozen_of_heap B1 1;go_wp2;have D2:Row ((w2.setCell ⟨w.heap.size,0,none⟩ (.string ⟨#[]⟩)).setCell ⟨w.heap.size,1,none⟩ (.int .i64 0)) w.heap.size #[.string ⟨#[]⟩,.int .i64 0] 88:=qaf (qaf B1 0 _) 1 _;have d0:=D2.cell 0 rfl;have d1:=D2.cell 1 rfl;refine bodyPost_ret (v:=rWan none) ?_ rfl ⟨by rw[hN.out],?_⟩
   ·simp[results,Tryz.results156,go_sem,d0,d1,rWan,xV,xK];rfl
   ·exact (((qac w _).trans (hb.mono (by simp))).setCell (Nat.le_refl _) _).setCell (Nat.le_refl _) _
  |some xr=>
   obtain⟨x,r⟩:=xr;have hN:Hid (gN l p=some ((s,x),r)):=by unfold Hid gN;rw[h1];simp only[h2]
   go_enter Tryz.func156,Tryz.ntmps156;go_wp2_with fail
   refine (qij ao n cap p l _ hr0 hn).mono ?_;rintro e w1 ⟨rfl,hb1⟩;rw[h1];simp only[rTxt,xV,xK,Option.isSome_some];have hr1:=hr0.below hb1;go_wp2_with fail
   refine (qkp ao n cap q l _ hr1 hn).mono ?_;rintro e w2 ⟨rfl,hb2⟩;rw[h2];simp only[rInt,xV,xK,Option.isSome_some];have hb:=bel hb1 hb2;have B1:=hA.next hb;clear h1 h2 hr hr0 hr1 hb1 hb2;have c0:=B1.cell 0 rfl;have c1:=B1.cell 1 rfl;have z0:=Lib.frozen_of_heap B1 0;have z1:=Lib.frozen_of_heap B1 1;go_wp2;have D2:Row ((w2.setCell ⟨w.heap.size,0,none⟩ (.string s)).setCell ⟨w.heap.size,1,none⟩ (.int .i64 x)) w.heap.size #[.string s,.int .i64 x] 88:=qaf (qaf B1 0 _) 1 _;have d0:=D2.cell 0 rfl;have d1:=D2.cell 1 rfl;refine bodyPost_ret (v:=rWan (some ((s,x),r))) ?_ rfl ⟨by rw[hN.out],?_⟩
   ·simp[results,Tryz.results156,go_sem,d0,d1,rWan,xV,xK]
   ·exact (((qac w _).trans (hb.mono (by simp))).setCell (Nat.le_refl _) _).setCell (Nat.le_refl _) _

section
variable {P : Program} {ops : Array Oper} {Q : Exit → Act → World → Prop}
theorem quf (hlt:∀(i:Nat) (o:Oper),ops[i]? = some o→∀e∈o.after,Region.binds .any e=true→e.on<i) (I:Act→World→Prop) (F:Nat→Act→World→Prop)
  (step:∀(i:Nat) (o:Oper) (a:Act) (w:World),ops[i]? = some o→I a w→(∀e∈o.after,Region.binds .any e=true→F e.on a w) →
   wpOp P ops Q i (fun a' w'=>I a' w'∧F i a' w'∧∀j,j≠i→(∀oj,ops[j]? = some oj→∀e∈oj.after,Region.binds .any e=true→e.on≠i)→F j a w→F j a' w') a w)
  (fin:∀(a:Act) (w:World),I a w→(∀i,i<ops.size→F i a w)→Q .normal a w) :
  ∀(fuel:Nat) (listed:Array Bool) (a:Act) (w:World),listed.size=ops.size→unl ops.size listed≤fuel→I a w→(∀i,i<ops.size→listed.getD i true=true→F i a w) →
   (∀(j:Nat) (o:Oper),ops[j]? = some o→listed.getD j true=true→∀e∈o.after,Region.binds .any e=true→listed.getD e.on true=true)→wpAny P .any ops Q fuel listed a w:=by
 intro fuel
 induction fuel with
 |zero=>
  intro listed a w hs hu hI hF hC;have hall:=unl_zero (Nat.le_zero.1 hu);refine⟨?_,fin a w hI fun i hi=>hF i hi (hall i hi)⟩;unfold Region.ready;rw[List.filter_eq_nil_iff];intro i hi;rw[hall i (List.mem_range.1 hi)];simp
 |succ fuel ih=>
  intro listed a w hs hu hI hF hC;have hdep:∀i,i∈Region.ready .any ops listed→i<ops.size∧listed.getD i true=false∧∀o,ops[i]? = some o→∀e∈o.after,Region.binds .any e=true→listed.getD e.on true=true:=by
   intro i hi;unfold Region.ready at hi;rw[List.mem_filter] at hi;obtain⟨h1,h2⟩:=hi;have hi':=List.mem_range.1 h1;rw[Bool.and_eq_true] at h2;refine⟨hi',by simpa using h2.1,fun o ho e he hb=>?_⟩;have h3:=h2.2;rw[ho] at h3;simp only[Option.map_some,Option.getD_some,Array.all_eq_true_iff_forall_mem] at h3;have h4:=h3 e he;rw[hb] at h4;have hlo:e.on<listed.size:=by have:=hlt i o ho e he hb;omega
   simp only[Bool.not_true,Bool.false_or] at h4
   simpa[Array.getD_eq_getD_getElem?,Array.getElem?_eq_getElem hlo] using h4
  refine⟨fun h0=>fin a w hI fun i hi=>?_,fun i hi=>?_⟩
  ·have hall:∀k,k<ops.size→listed.getD k true=true:=by
    intro k
    induction k using Nat.strongRecOn with
    |_ k ihk=>
     intro hk;cases hl:listed.getD k true with
     |true=>rfl
     |false=>
      exfalso
      have hmem:k∈Region.ready .any ops listed:=by
       unfold Region.ready;rw[List.mem_filter];refine⟨List.mem_range.2 hk,?_⟩;rw[hl,Array.getElem?_eq_getElem hk];simp only[Bool.not_false,Bool.true_and,Option.map_some,Option.getD_some,Array.all_eq_true_iff_forall_mem];intro e he;cases hb:Region.binds .any e with
       |false=>simp
       |true=>
        have hek:=hlt k _ (Array.getElem?_eq_getElem hk) e he hb;have hl2:=ihk e.on hek (by omega);have hlo:e.on<listed.size:=by omega
        simp only[Array.getD_eq_getD_getElem?,Array.getElem?_eq_getElem hlo,Option.getD_some] at hl2 ⊢;simp[hl2]
      rw[h0] at hmem;cases hmem
   exact hF i hi (hall i hi)
  ·obtain⟨hi1,hi2,hi3⟩:=hdep i hi;have ho:=Array.getElem?_eq_getElem hi1;refine wpOp_mono (fun a' w' hh=>?_) (step i _ a w ho hI fun e he hb=>hF e.on (by have:=hlt i _ ho e he hb;omega) (hi3 _ ho e he hb));obtain⟨hI',hFi,hst⟩:=hh;have hget:∀j,j≠i→(listed.setIfInBounds i true).getD j true=listed.getD j true:=by
    intro j e;simp only[Array.getD_eq_getD_getElem?,Array.getElem?_setIfInBounds];rw[if_neg (fun h=>e h.symm)]
   have hgi:(listed.setIfInBounds i true).getD i true=true:=by
    simp[Array.getD_eq_getD_getElem?,Array.getElem?_setIfInBounds,hs,hi1]
   refine ih _ a' w' (by simpa using hs) ?_ hI' (fun j hj hl=>?_) (fun j oj hj hl e he hb=>?_)
   ·have:=qsm hs hi1 hi2;omega
   ·by_cases e:j=i
    ·subst e;exact hFi
    ·rw[hget j e] at hl;refine hst j e (fun oj hoj e2 he2 hb2 e3=>?_) (hF j hj hl);have:=hC j oj hoj hl e2 he2 hb2;rw[e3,hi2] at this;cases this
   ·by_cases ee:e.on=i
    ·rw[ee];exact hgi
    ·rw[hget e.on ee]
     by_cases ej:j=i
     ·subst ej;exact hi3 oj hj e he hb
     ·rw[hget j ej] at hl;exact hC j oj hj hl e he hb
def shapeB (n:Nat) (l:List Oper):Bool :=
 (l.all fun o=>match o.dst with | some d=>decide (d<n) | none=>true)&&decide ((l.filterMap (fun o=>o.dst)).Nodup)&&((List.range l.length).all fun i=>match l[i]? with | some o=>o.guard.isNone&&o.after.toList.all (fun e=>!Region.binds .any e || decide (e.on<i)) | none=>true)
theorem nodup_two {l:List Oper} (h:(l.filterMap (fun o=>o.dst)).Nodup):∀(i j:Nat) (o o':Oper) (d:Nat),l[i]? = some o→l[j]? = some o'→o.dst=some d→o'.dst=some d→i=j:=by
 induction l with
 |nil=>intro i j o o' d hi;simp at hi
 |cons x l ih=>
  intro i j o o' d hi hj ho ho';have key:∀(k:Nat) (q:Oper),x.dst=some d→l[k]? = some q→q.dst=some d→False:=by
   intro k q hx hk hq;rw[List.filterMap_cons,hx,List.nodup_cons] at h;exact h.1 (List.mem_filterMap.2 ⟨q,List.mem_of_getElem? hk,hq⟩)
  have h':(l.filterMap (fun o=>o.dst)).Nodup:=by
   rw[List.filterMap_cons] at h
   split at h
   ·exact h
   ·exact (List.nodup_cons.1 h).2
  cases i with
  |zero=>
   cases j with
   |zero=>rfl
   |succ j=>
    simp only[List.getElem?_cons_zero,Option.some.injEq,List.getElem?_cons_succ] at hi hj;subst hi;exact absurd (key j o' ho hj ho') id
  |succ i=>
   cases j with
   |zero=>
    simp only[List.getElem?_cons_zero,Option.some.injEq,List.getElem?_cons_succ] at hi hj;subst hj;exact absurd (key i o ho' hi ho) id
   |succ j=>
    simp only[List.getElem?_cons_succ] at hi hj;rw[ih h' i j o o' d hi hj ho ho']
theorem puts_atB (vs:Nat→Value) (s:Nat) (l:List Oper):∀i j a o,(l.filterMap (fun o=>o.dst)).Nodup→l[j]? = some o→o.dst=some s→s<a.tmps.size→(puts vs i l a).tmps[s]? = some (vs (i+j)):=by
 induction l with
 |nil=>intro i j a o _ h;simp at h
 |cons x l ih=>
  intro i j a o hnd hj hd hs;have h':(l.filterMap (fun o=>o.dst)).Nodup:=by
   have h:=hnd;rw[List.filterMap_cons] at h
   split at h
   ·exact h
   ·exact (List.nodup_cons.1 h).2
  cases j with
  |zero=>
   simp only[List.getElem?_cons_zero,Option.some.injEq] at hj;subst hj;rw[puts,qod vs l s _ _ (fun y hy e=>?_),hd]
   ·exact qee _ hs
   ·rw[List.filterMap_cons,hd,List.nodup_cons] at hnd;exact hnd.1 (List.mem_filterMap.2 ⟨y,hy,e⟩)
  |succ j=>
   simp only[List.getElem?_cons_succ] at hj;rw[puts,ih (i+1) j _ o h' hj hd (by rw[qdp];exact hs)]
   congr 2
   omega
theorem qbt {id:Nat} {l:List Oper} {a0:Act} {w0:World} (hm:P.follows .mixedOrders=true) (hshape:shapeB a0.tmps.size l=true)
  (J:World→Prop) (hJ:J w0.drew) (R:Nat→World→World→Prop) (G:Nat→Value→World→Prop) (S:Nat→Act→World→Prop)
  (sR:∀i w w',R i w w'→J w→J w')
  (sG:∀(i j:Nat) (v:Value) (w w':World),j≠i→R i w w'→G j v w→G j v w')
  (sS:∀(i j:Nat) (o oj:Oper) (a:Act) (v:Value) (w w':World),l[i]? = some o→l[j]? = some oj→j≠i→(∀e∈oj.after,Region.binds .any e=true→e.on≠i)→R i w w'→S j a w→S j (a.put o.dst v) w')
  (step:∀(i:Nat) (o:Oper) (a:Act) (w:World),l[i]? = some o→KeepD l.toArray a0 a→J w→(∀j oj,(o.after.toList.any fun e=>e.on==j&&Region.binds .any e)=true→l[j]? = some oj→∃v,(∀d,oj.dst=some d→a.tmps[d]? = some v)∧G j v w∧S j a w) →
   Oper.wp P o a w (fun a' w'=>∃v,a'=a.put o.dst v∧R i w w'∧G i v w'∧S i a' w') Q)
  (fin:∀(vs:Nat→Value) (w:World),J w→(∀i,i<l.length→G i (vs i) w)→∀a,puts vs 0 l a0=a→(∀i,i<l.length→S i a w)→Q .normal a w) :
  (Code.region id l.toArray true).wp P Q a0 w0:=by
 simp only[shapeB,Bool.and_eq_true,decide_eq_true_eq,List.all_eq_true] at hshape;obtain⟨⟨h1,hnd⟩,h3⟩:=hshape;have hd:∀o∈l,∀d,o.dst=some d→d<a0.tmps.size:=by
  intro o ho d e;have:=h1 o ho
  simpa[e] using this
 have h4:∀(i:Nat) (o:Oper),l[i]? = some o→(∀e∈o.after,Region.binds .any e=true→e.on<i)∧o.guard=none:=by
  intro i o ho;have hi:i<l.length:=(List.getElem?_eq_some_iff.1 ho).1;have:=h3 i (List.mem_range.2 hi);rw[ho] at this;simp only[Bool.and_eq_true,List.all_eq_true,decide_eq_true_eq,Option.isNone_iff_eq_none,Bool.or_eq_true,Bool.not_eq_true'] at this;exact⟨fun e he hb=>by
   rcases this.2 e (Array.mem_toList_iff.2 he) with h | h
   ·rw[hb] at h;cases h
   ·exact h,this.1⟩
 refine wp_region_any hm ?_;refine quf (fun i o ho=>(h4 i o (by simpa using ho)).1) (fun a w=>KeepD l.toArray a0 a∧J w) (fun i a w=>∀o,l[i]? = some o→∃v,(∀d,o.dst=some d→a.tmps[d]? = some v)∧G i v w∧S i a w) ?_ ?_ _ _ _ _ ?_ ?_ ?_ ?_ ?_
 ·intro i o a w hi hI hdeps;have hi':l[i]? = some o:=by simpa using hi
  obtain⟨hk,hb⟩:=hI;refine wpOp_step hi fun K' hK'=>?_
  rw[qaa (h4 i o hi').2,if_pos rfl];refine Oper.wp_mono (fun a' w' hh=>hK' a' w' ?_) (step i o a w hi' hk hb ?_)
  ·obtain⟨v,rfl,hr,hG,hS⟩:=hh;refine⟨⟨⟨by rw[qdp,hk.size],by rw[qhu,hk.defers],fun s hs=>?_⟩,sR i w w' hr hb⟩,?_,?_⟩
   ·rw[qdt _ _ _ _ (hs o (by simpa using List.mem_of_getElem? hi')),hk.slot s hs]
   ·intro o2 ho2;obtain rfl:o2=o:=Option.some.inj (ho2.symm.trans hi');refine⟨v,fun d hd'=>?_,hG,hS⟩;rw[hd'];exact qee v (by rw[hk.size];exact hd o2 (List.mem_of_getElem? ho2) d hd')
   ·intro j hj hdj hF oj hoj;obtain⟨u,hu,hg,hs⟩:=hF oj hoj;refine⟨u,fun d hd'=>?_,sG i j u w w' hj hr hg,sS i j o oj a v w w' hi' hoj hj (fun e he hb2=>hdj oj (by simpa using hoj) e he hb2) hr hs⟩;rw[qdt _ _ _ _ ?_]
    ·exact hu d hd'
    ·intro e;exact hj (nodup_two hnd j i oj o d hoj hi' hd' e)
  ·intro j oj hj hoj;rw[List.any_eq_true] at hj;obtain⟨e,he,hej⟩:=hj;rw[Bool.and_eq_true] at hej;obtain rfl:e.on=j:=by simpa using hej.1
   exact hdeps e (Array.mem_toList_iff.1 he) hej.2 oj hoj
 ·intro a w hI hF;obtain⟨hk,hb⟩:=hI;have hvs:∀i:Nat,∃v,∀o,l[i]? = some o→(∀d,o.dst=some d→a.tmps[d]? = some v)∧G i v w∧S i a w:=by
   intro i
   by_cases hi:i<l.length
   ·obtain⟨v,hv,hg,hs⟩:=hF i (by simpa using hi) _ (List.getElem?_eq_getElem hi);refine⟨v,fun o ho=>?_⟩;obtain rfl:l[i]=o:=Option.some.inj ((List.getElem?_eq_getElem hi).symm.trans ho);exact⟨hv,hg,hs⟩
   ·refine⟨undef,fun o ho=>?_⟩;rw[List.getElem?_eq_none (by omega)] at ho;cases ho
  have hch:=fun i=>Classical.choose_spec (hvs i)
  have e:a=puts (fun i=>Classical.choose (hvs i)) 0 l a0:=by
   have e1:a.tmps=(puts (fun i=>Classical.choose (hvs i)) 0 l a0).tmps:=by
    apply Array.ext_getElem?
    intro s
    by_cases hs:∃o∈l,o.dst=some s
    ·obtain⟨o,ho,hd'⟩:=hs;obtain⟨j,hj⟩:=List.mem_iff_getElem?.1 ho;rw[puts_atB _ s l 0 j a0 o hnd hj hd' (hd o ho s hd'),(hch j o hj).1 s hd',Nat.zero_add]
    ·rw[hk.slot s (fun o ho e=>hs ⟨o,by simpa using ho,e⟩),qod _ _ _ _ _ (fun o ho e=>hs ⟨o,ho,e⟩)]
   have e2:a.defers=(puts (fun i=>Classical.choose (hvs i)) 0 l a0).defers:=by rw[qkw,hk.defers]
   obtain⟨t,dd⟩:=a;generalize puts (fun i=>Classical.choose (hvs i)) 0 l a0=p at *;obtain⟨t',dd'⟩:=p;simp only at e1 e2;rw[e1,e2]
  exact fin _ w hb (fun i hi=>((hch i _ (List.getElem?_eq_getElem hi)).2).1) a e.symm (fun i hi=>((hch i _ (List.getElem?_eq_getElem hi)).2).2)
 ·simp
 ·have:unl l.toArray.size (Array.replicate l.toArray.size false)≤(List.range l.toArray.size).length:=List.length_filter_le _ _
  simpa using this
 ·exact⟨⟨rfl,rfl,fun _ _=>rfl⟩,hJ⟩
 ·intro i hi hl;have hi':i<(Array.replicate l.toArray.size false).size:=by simpa using hi
  rw[Array.getD_eq_getD_getElem?,Array.getElem?_eq_getElem hi'] at hl;simp at hl
 ·intro j o ho hl;have hj:j<l.length:=by
   have:=(Array.getElem?_eq_some_iff.1 ho).1
   simpa using this
  have hi':j<(Array.replicate l.toArray.size false).size:=by simpa using hj
  rw[Array.getD_eq_getD_getElem?,Array.getElem?_eq_getElem hi'] at hl;simp at hl
theorem qdq {id:Nat} {l:List Oper} {a0:Act} {w0:World} (hm:P.follows .mixedOrders=true) (hshape:shapeB a0.tmps.size l=true)
  (R:Nat→World→World→Prop) (G:Nat→Value→World→Prop) (S:Nat→Act→World→Prop)
  (sR:∀i w w',R i w w'→Below w0.heap.size w0 w→Below w0.heap.size w0 w')
  (sG:∀(i j:Nat) (v:Value) (w w':World),j≠i→R i w w'→G j v w→G j v w')
  (sS:∀(i j:Nat) (o oj:Oper) (a:Act) (v:Value) (w w':World),l[i]? = some o→l[j]? = some oj→j≠i→(∀e∈oj.after,Region.binds .any e=true→e.on≠i)→R i w w'→S j a w→S j (a.put o.dst v) w')
  (step:∀(i:Nat) (o:Oper) (a:Act) (w:World),l[i]? = some o→KeepD l.toArray a0 a→Below w0.heap.size w0 w→(∀j oj,(o.after.toList.any fun e=>e.on==j&&Region.binds .any e)=true→l[j]? = some oj→∃v,(∀d,oj.dst=some d→a.tmps[d]? = some v)∧G j v w∧S j a w) →
   Oper.wp P o a w (fun a' w'=>∃v,a'=a.put o.dst v∧R i w w'∧G i v w'∧S i a' w') Q)
  (fin:∀(vs:Nat→Value) (w:World),Below w0.heap.size w0 w→(∀i,i<l.length→G i (vs i) w)→∀a,puts vs 0 l a0=a→(∀i,i<l.length→S i a w)→Q .normal a w) :
  (Code.region id l.toArray true).wp P Q a0 w0 :=
 qbt hm hshape (fun w=>Below w0.heap.size w0 w) ⟨rfl,rfl,rfl,Nat.le_refl _,fun _ _=>rfl⟩ R G S sR sG sS step fin
end
