/- Lemmas. -/
import Derived.Deep.CutBlock
import Derived.Deep.DeepCutAuto
import Derived.Test.YtpjkbgdkligpdaaGreatDoorY11
set_option linter.all false
set_option maxRecDepth 100000
set_option maxHeartbeats 20000000
namespace Go.Proofs.YtpjkbgdkligpdaaGreatDoor
open Go.RowKit

def Onw {α:Type} (g:List UInt8→Nat→Option (α×Nat)):Prop:=∀l p x k,g l p=some (x,k)→p<k∧k≤l.length
theorem onw_B:Onw gB:=by
 intro l p x k h;unfold gB at h
 split at h
 ·simp only[Option.some.injEq,Prod.mk.injEq] at h;omega
 ·cases h
theorem onw_T:Onw gT:=by
 intro l p x k h;unfold gT getT at h;cases e:getL l (p:Int) with
 |none=>rw[e] at h;cases h
 |some z=>
  obtain⟨y,q⟩:=z;obtain⟨p',m,e1,e2,e3,e4,e5,e6,e7,e8⟩:=qfk e;rw[e] at h;simp only at h
  split at h
  ·rename_i z2 h2
   split at h2
   ·simp only[Option.some.injEq,Prod.mk.injEq] at h h2;omega
   ·cases h2
  ·cases h
theorem onw_N:Onw gN:=by
 intro l p x k h;unfold gN at h;cases e:gT l p with
 |none=>rw[e] at h;cases h
 |some z=>
  obtain⟨s,q⟩:=z;have h1:=onw_T l p s q e;rw[e] at h;simp only at h;cases e2:gB l q with
  |none=>rw[e2] at h;cases h
  |some y=>
   obtain⟨y,r⟩:=y;have h2:=onw_B l q y r e2;rw[e2] at h;simp only[Option.some.injEq,Prod.mk.injEq] at h;omega
theorem qvn {α:Type} {g:List UInt8→Nat→Option (α×Nat)} (hg:Onw g) (d:α) (l:List UInt8) (p:Nat) (e:Bool) (hp:p<l.length):p<(rd g d l (p,e)).2.1∧(rd g d l (p,e)).2.1≤l.length:=by
 cases h:g l p with
 |none=>rw[rd_no h];exact⟨hp,Nat.le_refl _⟩
 |some xk=>
  obtain⟨x,k⟩:=xk;rw[qcs h];exact hg l p x k h
theorem qvk {α:Type} {g:List UInt8→Nat→Option (α×Nat)} (d:α) (l:List UInt8) (f:Nat) (s:Nat×Bool) (h:¬s.1<l.length):rdL g d l f s=([],s):=by
 cases f with
 |zero=>rfl
 |succ f=>simp only[rdL];rw[if_neg h]
theorem qsh {α:Type} {g:List UInt8→Nat→Option (α×Nat)} (d:α) (l:List UInt8) (f p:Nat) (e:Bool) (h:p<l.length) (hf:l.length≤p+f):∃f',f=f'+1∧rdL g d l f (p,e)=((rd g d l (p,e)).1 :: (rdL g d l f' (rd g d l (p,e)).2).1,(rdL g d l f' (rd g d l (p,e)).2).2):=by
 cases f with
 |zero=>omega
 |succ f=>exact⟨f,rfl,by simp only[rdL];rw[if_pos h]⟩
theorem qoy {w0 y y':World} {g:Nat} {row:Option Nat} (h:w0.grownBy y (some g)) (hg:y.grownBy y' row) (hb:∀k,row=some k→w0.heap.size≤k):w0.grownBy y' (some g) :=
 ⟨hg.os.trans h.os,hg.tape.trans h.tape,hg.output.trans h.output,Nat.le_trans h.size hg.size,fun k hk hne=>(hg.block k (Nat.lt_of_lt_of_le hk h.size) (fun e=>by have:=hb k e.symm;omega)).trans (h.block k hk hne)⟩
def qkc (v:Value):Nat:=match v with
 |.slice _ n _=>n
 |_=>0
theorem w_wapp {ops:Array Oper} {rest:List Oper} {o:Oper} {a:Act} {Q:Exit→Act→World→Prop} (w:World) (hgd:o.guard=none) (s x:Operand)
  (ho:o.op=.call { callee:=.builtin .append,args:=#[s,x],argTypes:=#[24,24] })
  (B:Nat) (ao:Option Addr) (n cap:Nat) (zs:List (ByteArray×Int)) (hs:a.eval s=.slice ao n cap) (hown:WOwn w B ao n cap zs)
  (ad:Nat) (u:ByteArray×Int) (hx:a.eval x=.slice (some ⟨ad,0,none⟩) 1 1) (hc:w.cell? ⟨ad,0,none⟩ = some (.string u.1)) (hc':w.cell? ⟨ad,1,none⟩ = some (.int .i64 u.2)) (hb:n<1099511627776) (hB:B≤w.heap.size)
  (h:∀ao' cap' w',WOwn w' B ao' (n+1) cap' (zs++[u])→w.grownBy w' (Value.slice ao n cap).ownBlock→wpList Tryz.prog ops Q rest (a.put o.dst (.slice ao' (n+1) cap')) w') :
  wpList Tryz.prog ops Q (o :: rest) a w:=by
 obtain⟨i0,hi,hz0,hz1,hz2⟩:=info_parts infoW;have hlen:(zs++[u]).length=n+1:=by rw[List.length_append,hown.1];rfl
 refine wpList_append_own w hgd s x 24 ho B 88 i0 (.agg #[.string ByteArray.empty,.int .i64 0]) 2 24 Tryz.underlying24 hi hz0 hz1 hz2 rfl (by decide) (.slice ao n cap) n (wvals zs) hs hown.2 ⟨ad,0,none⟩ 1 1 (wvals [u]) hx rfl ?_ (qrn [u]) (by unfold maxLen;omega) (by omega) hB ?_
 ·intro j v hv
  match j,hv with
  |0,hv=>
   have e4:v=.string u.1:=by simpa[wvals] using hv.symm
   rw[e4];exact hc
  |1,hv=>
   have e4:v=.int .i64 u.2:=by simpa[wvals] using hv.symm
   rw[e4];exact hc'
 ·intro v' w' hv hg _;rw[quh] at hv;obtain⟨ao',cap',rfl,hown'⟩:=que hlen hv;exact h ao' cap' w' hown' hg
theorem qtk (q:Nat) (ao:Option Addr) (n cap p:Nat) (e:Bool) (l:List UInt8) (w:World) (hR:RB w q ao n cap p e) (hr:RdIn w ao n cap l) (hn:n≤1048576) (hp:p≤n) :
  Calls Tryz.prog 157 #[.pointer (some ⟨q,0,none⟩),.func (.func 152) #[] #[]] w fun e' w'=>∃a c,e'=.returned (.slice a (rdL gB 0 l n (p,e)).1.length c)∧IOwn w' w.heap.size a (rdL gB 0 l n (p,e)).1.length c (rdL gB 0 l n (p,e)).1∧RB w' q ao n cap (rdL gB 0 l n (p,e)).2.1 (rdL gB 0 l n (p,e)).2.2∧w.grownBy w' (some q):=by
 have hl:=hr.1.1;have hq:=hR.lt;have HRD:Hid (∀w',w.grownBy w' (some q)→RdIn w' ao n cap l):=fun w' hg=>qvm hr hR hg
 clear hr;go_enter Tryz.func157,Tryz.ntmps157;go_wp2
 go_loopw [5] (fun v wr=>∃(a:Option Addr) (c:Nat) (ys:List Int) (p' f:Nat) (e':Bool),v=.slice a ys.length c∧IOwn wr w.heap.size a ys.length c ys∧RB wr q ao n cap p' e'∧w.grownBy wr (some q)∧ys.length≤p'∧p'≤n∧l.length≤p'+f∧Hid (rdL gB 0 l n (p,e)=(ys++(rdL gB 0 l f (p',e')).1,(rdL gB 0 l f (p',e')).2))) (fun v _=>n-qkc v)
 case atStart=>exact⟨none,0,[],p,n,e,rfl,⟨rfl,World.ownsRow_nil _ _ _ _⟩,hR,World.grownBy.refl _ _,Nat.zero_le _,hp,by omega,by simp[Hid]⟩
 case round=>
  obtain⟨a,c,ys,p',f,e',rfl,O,R,hg,hy,hp',hf,HF⟩:=hrel;have c0:=R.cell 0 rfl;have c1:=R.cell 1 rfl
  by_cases hlt:p'<n
  ·have hlt':(p':Int)<n:=by omega
   go_wp2
   go_quiet (fail)
   have hbq:Below wr.heap.size wr (wr.drewN nq):=below_drewN (Below.refl _ _) nq;have R1:=R.next hbq;have O1:=O.below hbq;have hg1:w.grownBy (wr.drewN nq) (some q):=qcb hg hbq;have hr1:=HRD.out _ hg1;have hnx:=qvn onw_B 0 l p' e' (by omega);obtain⟨f',rfl,hstep⟩:=qsh (g:=gB) 0 l f p' e' (by omega) hf;have HS:Hid (rdL gB 0 l n (p,e)=(ys++((rd gB 0 l (p',e')).1 :: (rdL gB 0 l f' (rd gB 0 l (p',e')).2).1),(rdL gB 0 l f' (rd gB 0 l (p',e')).2).2)):=by
    unfold Hid;rw[HF.out,hstep]
   clear HF hstep hbq O hg;generalize wr.drewN nq=w1 at *;clear R c0 c1;go_wp2_with fail
   refine (qfo q ao n cap p' e' l _ R1 hr1 hn).mono ?_;rintro e1 w2 ⟨rfl,R2,g2⟩;have O2:IOwn w2 w.heap.size a ys.length c ys:=O1.grown g2 (fun z hz=>fun e=>by have:=(O1.2.lt z.block (by rw[hz];rfl)).1;have:=hq;simp at e;omega);have hg2:w.grownBy w2 (some q):=qap hg1 g2;clear O1 hr1 hg1 R1;generalize hrd:rd gB 0 l (p',e')=r at *;obtain⟨x,p2,e2⟩:=r;simp only at R2 hnx HS ⊢;clear hrd;go_wp2_with (at_builtin;refine w_iapp _ rfl _ _ rfl w.heap.size _ _ _ ys rfl (O2.below (qac _ _)) _ x rfl ?_ (by omega) (by have:=hg2.size;simp;omega) ?_;(simp))
   intro a3 c3 w3 O3 g3;have R3:RB w3 q ao n cap p2 e2:=(g3.block q (by have:=R2.lt;simp;omega) (fun e=>by have:=(O2.2.lt q e.symm).1;omega)).trans (R2.next (qac _ _));have hg3:w.grownBy w3 (some q):=qoy (qcb hg2 (qac _ _)) g3 (fun k e=>(O2.2.lt k e).1);go_wp2;go_roundw
   case rel=>exact⟨a3,c3,ys++[x],p2,f',e2,by simp,by simpa using O3,R3,hg3,by simp;omega,by omega,by omega,by unfold Hid;rw[HS.out];simp⟩
   case measure=>simp[qkc];omega
  ·have hlt':¬(p':Int)<n:=by omega
   have he:=qvk (g:=gB) 0 l f (p',e') (by simp;omega);have HS:Hid (rdL gB 0 l n (p,e)=(ys,(p',e'))):=by
    unfold Hid;rw[HF.out,he];simp
   clear HF he;go_wp2
   go_quiet (fail)
   have hbq:Below wr.heap.size wr (wr.drewN nq):=below_drewN (Below.refl _ _) nq;have R1:=R.next hbq;have O1:=O.below hbq;have hg1:w.grownBy (wr.drewN nq) (some q):=qcb hg hbq;go_wp2;go_ret;rw[HS.out];exact⟨a,c,rfl,O1,R1,hg1⟩
theorem qtj (q:Nat) (ao:Option Addr) (n cap p:Nat) (e:Bool) (l:List UInt8) (w:World) (hR:RB w q ao n cap p e) (hr:RdIn w ao n cap l) (hn:n≤1048576) (hp:p≤n) :
  Calls Tryz.prog 158 #[.pointer (some ⟨q,0,none⟩),.func (.func 159) #[] #[]] w fun e' w'=>∃a c,e'=.returned (.slice a (rdL gT ByteArray.empty l n (p,e)).1.length c)∧SOwn w' w.heap.size a (rdL gT ByteArray.empty l n (p,e)).1.length c (rdL gT ByteArray.empty l n (p,e)).1∧RB w' q ao n cap (rdL gT ByteArray.empty l n (p,e)).2.1 (rdL gT ByteArray.empty l n (p,e)).2.2∧w.grownBy w' (some q):=by
 have hl:=hr.1.1;have hq:=hR.lt;have HRD:Hid (∀w',w.grownBy w' (some q)→RdIn w' ao n cap l):=fun w' hg=>qvm hr hR hg
 clear hr;go_enter Tryz.func158,Tryz.ntmps158;go_wp2
 go_loopw [5] (fun v wr=>∃(a:Option Addr) (c:Nat) (ys:List ByteArray) (p' f:Nat) (e':Bool),v=.slice a ys.length c∧SOwn wr w.heap.size a ys.length c ys∧RB wr q ao n cap p' e'∧w.grownBy wr (some q)∧ys.length≤p'∧p'≤n∧l.length≤p'+f∧Hid (rdL gT ByteArray.empty l n (p,e)=(ys++(rdL gT ByteArray.empty l f (p',e')).1,(rdL gT ByteArray.empty l f (p',e')).2))) (fun v _=>n-qkc v)
 case atStart=>exact⟨none,0,[],p,n,e,rfl,⟨rfl,World.ownsRow_nil _ _ _ _⟩,hR,World.grownBy.refl _ _,Nat.zero_le _,hp,by omega,by simp[Hid]⟩
 case round=>
  obtain⟨a,c,ys,p',f,e',rfl,O,R,hg,hy,hp',hf,HF⟩:=hrel;have c0:=R.cell 0 rfl;have c1:=R.cell 1 rfl
  by_cases hlt:p'<n
  ·have hlt':(p':Int)<n:=by omega
   go_wp2
   go_quiet (fail)
   have hbq:Below wr.heap.size wr (wr.drewN nq):=below_drewN (Below.refl _ _) nq;have R1:=R.next hbq;have O1:=O.below hbq;have hg1:w.grownBy (wr.drewN nq) (some q):=qcb hg hbq;have hr1:=HRD.out _ hg1;have hnx:=qvn onw_T ByteArray.empty l p' e' (by omega);obtain⟨f',rfl,hstep⟩:=qsh (g:=gT) ByteArray.empty l f p' e' (by omega) hf;have HS:Hid (rdL gT ByteArray.empty l n (p,e)=(ys++((rd gT ByteArray.empty l (p',e')).1 :: (rdL gT ByteArray.empty l f' (rd gT ByteArray.empty l (p',e')).2).1),(rdL gT ByteArray.empty l f' (rd gT ByteArray.empty l (p',e')).2).2)):=by
    unfold Hid;rw[HF.out,hstep]
   clear HF hstep hbq O hg;generalize wr.drewN nq=w1 at *;clear R c0 c1;go_wp2_with fail
   refine (qdn q ao n cap p' e' l _ R1 hr1 hn).mono ?_;rintro e1 w2 ⟨rfl,R2,g2⟩;have O2:SOwn w2 w.heap.size a ys.length c ys:=O1.grown g2 (fun z hz=>fun e=>by have:=(O1.2.lt z.block (by rw[hz];rfl)).1;have:=hq;simp at e;omega);have hg2:w.grownBy w2 (some q):=qap hg1 g2;clear O1 hr1 hg1 R1;generalize hrd:rd gT ByteArray.empty l (p',e')=r at *;obtain⟨x,p2,e2⟩:=r;simp only at R2 hnx HS ⊢;clear hrd;go_wp2_with (at_builtin;refine w_sapp _ rfl _ _ rfl w.heap.size _ _ _ ys rfl (O2.below (qac _ _)) _ x rfl ?_ (by omega) (by have:=hg2.size;simp;omega) ?_;(simp))
   intro a3 c3 w3 O3 g3;have R3:RB w3 q ao n cap p2 e2:=(g3.block q (by have:=R2.lt;simp;omega) (fun e=>by have:=(O2.2.lt q e.symm).1;omega)).trans (R2.next (qac _ _));have hg3:w.grownBy w3 (some q):=qoy (qcb hg2 (qac _ _)) g3 (fun k e=>(O2.2.lt k e).1);go_wp2;go_roundw
   case rel=>exact⟨a3,c3,ys++[x],p2,f',e2,by simp,by simpa using O3,R3,hg3,by simp;omega,by omega,by omega,by unfold Hid;rw[HS.out];simp⟩
   case measure=>simp[qkc];omega
  ·have hlt':¬(p':Int)<n:=by omega
   have he:=qvk (g:=gT) ByteArray.empty l f (p',e') (by simp;omega);have HS:Hid (rdL gT ByteArray.empty l n (p,e)=(ys,(p',e'))):=by
    unfold Hid;rw[HF.out,he];simp
   clear HF he;go_wp2
   go_quiet (fail)
   have hbq:Below wr.heap.size wr (wr.drewN nq):=below_drewN (Below.refl _ _) nq;have R1:=R.next hbq;have O1:=O.below hbq;have hg1:w.grownBy (wr.drewN nq) (some q):=qcb hg hbq;go_wp2;go_ret;rw[HS.out];exact⟨a,c,rfl,O1,R1,hg1⟩
theorem qtl (q:Nat) (ao:Option Addr) (n cap p:Nat) (e:Bool) (l:List UInt8) (w:World) (hR:RB w q ao n cap p e) (hr:RdIn w ao n cap l) (hn:n≤1048576) (hp:p≤n) :
  Calls Tryz.prog 155 #[.pointer (some ⟨q,0,none⟩),.func (.func 156) #[] #[]] w fun e' w'=>∃a c,e'=.returned (.slice a (rdL gN (ByteArray.empty,0) l n (p,e)).1.length c)∧WOwn w' w.heap.size a (rdL gN (ByteArray.empty,0) l n (p,e)).1.length c (rdL gN (ByteArray.empty,0) l n (p,e)).1∧RB w' q ao n cap (rdL gN (ByteArray.empty,0) l n (p,e)).2.1 (rdL gN (ByteArray.empty,0) l n (p,e)).2.2∧w.grownBy w' (some q):=by
 have hl:=hr.1.1;have hq:=hR.lt;have HRD:Hid (∀w',w.grownBy w' (some q)→RdIn w' ao n cap l):=fun w' hg=>qvm hr hR hg
 clear hr;go_enter Tryz.func155,Tryz.ntmps155;go_wp2
 go_loopw [5] (fun v wr=>∃(a:Option Addr) (c:Nat) (ys:List (ByteArray×Int)) (p' f:Nat) (e':Bool),v=.slice a ys.length c∧WOwn wr w.heap.size a ys.length c ys∧RB wr q ao n cap p' e'∧w.grownBy wr (some q)∧ys.length≤p'∧p'≤n∧l.length≤p'+f∧Hid (rdL gN (ByteArray.empty,0) l n (p,e)=(ys++(rdL gN (ByteArray.empty,0) l f (p',e')).1,(rdL gN (ByteArray.empty,0) l f (p',e')).2))) (fun v _=>n-qkc v)
 case atStart=>exact⟨none,0,[],p,n,e,rfl,⟨rfl,World.ownsRow_nil _ _ _ _⟩,hR,World.grownBy.refl _ _,Nat.zero_le _,hp,by omega,by simp[Hid]⟩
 case round=>
  obtain⟨a,c,ys,p',f,e',rfl,O,R,hg,hy,hp',hf,HF⟩:=hrel;have c0:=R.cell 0 rfl;have c1:=R.cell 1 rfl
  by_cases hlt:p'<n
  ·have hlt':(p':Int)<n:=by omega
   go_wp2
   go_quiet (fail)
   have hbq:Below wr.heap.size wr (wr.drewN nq):=below_drewN (Below.refl _ _) nq;have R1:=R.next hbq;have O1:=O.below hbq;have hg1:w.grownBy (wr.drewN nq) (some q):=qcb hg hbq;have hr1:=HRD.out _ hg1;have hnx:=qvn onw_N (ByteArray.empty,0) l p' e' (by omega);obtain⟨f',rfl,hstep⟩:=qsh (g:=gN) (ByteArray.empty,0) l f p' e' (by omega) hf;have HS:Hid (rdL gN (ByteArray.empty,0) l n (p,e)=(ys++((rd gN (ByteArray.empty,0) l (p',e')).1 :: (rdL gN (ByteArray.empty,0) l f' (rd gN (ByteArray.empty,0) l (p',e')).2).1),(rdL gN (ByteArray.empty,0) l f' (rd gN (ByteArray.empty,0) l (p',e')).2).2)):=by
    unfold Hid;rw[HF.out,hstep]
   clear HF hstep hbq O hg;generalize wr.drewN nq=w1 at *;clear R c0 c1;go_wp2_with fail
   refine (qts q ao n cap p' e' l _ R1 hr1 hn).mono ?_;rintro e1 w2 ⟨rfl,R2,g2⟩;have O2:WOwn w2 w.heap.size a ys.length c ys:=O1.grown g2 (fun z hz=>fun e=>by have:=(O1.2.lt z.block (by rw[hz];rfl)).1;have:=hq;simp at e;omega);have hg2:w.grownBy w2 (some q):=qap hg1 g2;clear O1 hr1 hg1 R1;generalize hrd:rd gN (ByteArray.empty,0) l (p',e')=r at *;obtain⟨x,p2,e2⟩:=r;simp only at R2 hnx HS ⊢;clear hrd;go_wp2_with (at_builtin;refine w_wapp _ rfl _ _ rfl w.heap.size _ _ _ ys rfl (O2.below (qac _ _)) _ x rfl ?_ ?_ (by omega) (by have:=hg2.size;simp;omega) ?_;(simp);(simp))
   intro a3 c3 w3 O3 g3;have R3:RB w3 q ao n cap p2 e2:=(g3.block q (by have:=R2.lt;simp;omega) (fun e=>by have:=(O2.2.lt q e.symm).1;omega)).trans (R2.next (qac _ _));have hg3:w.grownBy w3 (some q):=qoy (qcb hg2 (qac _ _)) g3 (fun k e=>(O2.2.lt k e).1);go_wp2;go_roundw
   case rel=>exact⟨a3,c3,ys++[x],p2,f',e2,by simp,by simpa using O3,R3,hg3,by simp;omega,by omega,by omega,by unfold Hid;rw[HS.out];simp⟩
   case measure=>simp[qkc];omega
  ·have hlt':¬(p':Int)<n:=by omega
   have he:=qvk (g:=gN) (ByteArray.empty,0) l f (p',e') (by simp;omega);have HS:Hid (rdL gN (ByteArray.empty,0) l n (p,e)=(ys,(p',e'))):=by
    unfold Hid;rw[HF.out,he];simp
   clear HF he;go_wp2
   go_quiet (fail)
   have hbq:Below wr.heap.size wr (wr.drewN nq):=below_drewN (Below.refl _ _) nq;have R1:=R.next hbq;have O1:=O.below hbq;have hg1:w.grownBy (wr.drewN nq) (some q):=qcb hg hbq;go_wp2;go_ret;rw[HS.out];exact⟨a,c,rfl,O1,R1,hg1⟩

structure Rt (w0 y:World) (q r b:Nat) (ao:Option Addr) (n cap z:Nat) (e:Bool) (p:Pk) (d:Pd):Prop where
 rdr:RB y q ao n cap z e
 blk:Blk y b p
 res:Blk y r Pk.zero
 own:POwn y w0.heap.size p d
 gro:Below w0.heap.size w0 y
 qn:w0.heap.size≤q
 bn:w0.heap.size≤b
 rn:w0.heap.size≤r
 rb:r≠b
 gd:Pgd 1048576 p d
section
variable {w0 y y' : World} {q r b : Nat} {ao : Option Addr} {n cap z : Nat} {e : Bool} {p : Pk} {d : Pd}
theorem Rt.qb (s:Rt w0 y q r b ao n cap z e p d):q≠b:=ty_ne s.rdr s.blk (by decide)
theorem Rt.qr (s:Rt w0 y q r b ao n cap z e p d):q≠r:=ty_ne s.rdr s.res (by decide)
theorem Rt.hasq (s:Rt w0 y q r b ao n cap z e p d):¬p.has q:=by
 rintro ⟨a,ha,hab⟩;have hq:y.heap[q]? = some (.cells #[.slice ao n cap,.int .i64 (z:Nat),errV e] 187):=s.rdr;simp only[List.mem_cons,List.not_mem_nil,or_false] at ha
 rcases ha with ha | ha | ha | ha | ha | ha
 ·have hh:=s.own.bod.2;rw[←ha] at hh;obtain⟨cur,hc⟩:=qbl hh;exact ty_ne hc hq (by decide) hab
 ·have hh:=s.own.wb.2;rw[←ha] at hh;obtain⟨cur,hc⟩:=qbl hh;exact ty_ne hc hq (by decide) hab
 ·have hh:=s.own.pa.2;rw[←ha] at hh;obtain⟨cur,hc⟩:=qbl hh;exact ty_ne hc hq (by decide) hab
 ·have hh:=s.own.wan.2;rw[←ha] at hh;obtain⟨cur,hc⟩:=qbl hh;exact ty_ne hc hq (by decide) hab
 ·have hh:=s.own.nam.2;rw[←ha] at hh;obtain⟨cur,hc⟩:=qbl hh;exact ty_ne hc hq (by decide) hab
 ·have hh:=s.own.cds.2;rw[←ha] at hh;obtain⟨cur,hc⟩:=qbl hh;exact ty_ne hc hq (by decide) hab
theorem Rt.read (s:Rt w0 y q r b ao n cap z e p d) {z':Nat} {e':Bool} (hR:RB y' q ao n cap z' e') (hg:y.grownBy y' (some q)):Rt w0 y' q r b ao n cap z' e' p d :=
 ⟨hR,(hg.block b s.blk.lt (fun e=>s.qb (by simpa using e.symm))).trans s.blk,(hg.block r s.res.lt (fun e=>s.qr (by simpa using e.symm))).trans s.res,
  s.own.grown hg (fun k e hk=>by cases e;exact s.hasq hk),s.gro.grown hg s.gro.size (fun k e=>by cases e;exact s.qn),s.qn,s.bn,s.rn,s.rb,s.gd⟩
theorem Rt.new (s:Rt w0 y q r b ao n cap z e p d) (hb:Below y.heap.size y y'):Rt w0 y' q r b ao n cap z e p d :=
 ⟨s.rdr.next hb,s.blk.next hb,s.res.next hb,s.own.below hb,s.gro.trans (hb.mono s.gro.size),s.qn,s.bn,s.rn,s.rb,s.gd⟩
theorem Rt.set (s:Rt w0 y q r b ao n cap z e p d) (i:Nat) (v:Value) (p':Pk) (hc:p.cells.setIfInBounds i v=p'.cells)
  (hl:p'.bod=p.bod∧p'.wb=p.wb∧p'.pa=p.pa∧p'.wan=p.wan∧p'.nam=p.nam∧p'.cds=p.cds) (hz:p'.top.size≤61∧p'.cli.size≤61∧p'.wt.size≤61∧p'.us.size≤61):Rt w0 (y.setCell ⟨b,i,none⟩ v) q r b ao n cap z e p' d:=by
 have hg:y.grownBy (y.setCell ⟨b,i,none⟩ v) (some b):=qai y b i v;obtain⟨h1,h2,h3,h4,h5,h6⟩:=hl;have ho:=s.own.grown hg (fun k e=>by cases e;exact s.own.ne s.blk);have hd:=s.gd;refine⟨(hg.block q s.rdr.lt (fun e=>s.qb (by simpa using e))).trans s.rdr,?_,(hg.block r s.res.lt (fun e=>by have:=s.rb;simp at e;omega)).trans s.res,?_,s.gro.grown hg s.gro.size (fun k e=>by cases e;exact s.bn),s.qn,s.bn,s.rn,s.rb,?_⟩
 ·have:=qaf s.blk i v;rw[hc] at this;exact this
 ·exact⟨by rw[h1];exact ho.bod,by rw[h2];exact ho.wb,by rw[h3];exact ho.pa,by rw[h4];exact ho.wan,by rw[h5];exact ho.nam,by rw[h6];exact ho.cds,by rw[h1,h2,h3,h4,h5,h6];exact ho.dis⟩
 ·exact⟨hz.1,hz.2.1,hz.2.2.1,hz.2.2.2,by rw[h1];exact hd.bod,by rw[h2];exact hd.wb,by rw[h3];exact hd.pa,by rw[h4];exact hd.wan,by rw[h5];exact hd.nam,by rw[h6];exact hd.cds,hd.wans,hd.nams⟩
theorem Rt.s4 (s:Rt w0 y q r b ao n cap z e p d) (x:Int):Rt w0 (y.setCell ⟨b,4,none⟩ (.int .i64 x)) q r b ao n cap z e { p with id:=x } d :=
 s.set 4 _ _ rfl ⟨rfl,rfl,rfl,rfl,rfl,rfl⟩ ⟨s.gd.top,s.gd.cli,s.gd.wt,s.gd.us⟩
theorem Rt.s5 (s:Rt w0 y q r b ao n cap z e p d) (x:ByteArray) (hx:x.size≤61):Rt w0 (y.setCell ⟨b,5,none⟩ (.string x)) q r b ao n cap z e { p with top:=x } d :=
 s.set 5 _ _ rfl ⟨rfl,rfl,rfl,rfl,rfl,rfl⟩ ⟨hx,s.gd.cli,s.gd.wt,s.gd.us⟩
theorem Rt.s7 (s:Rt w0 y q r b ao n cap z e p d) (x:ByteArray) (hx:x.size≤61):Rt w0 (y.setCell ⟨b,7,none⟩ (.string x)) q r b ao n cap z e { p with cli:=x } d :=
 s.set 7 _ _ rfl ⟨rfl,rfl,rfl,rfl,rfl,rfl⟩ ⟨s.gd.top,hx,s.gd.wt,s.gd.us⟩
theorem Rt.s8 (s:Rt w0 y q r b ao n cap z e p d) (x:Int):Rt w0 (y.setCell ⟨b,8,none⟩ (.int .i64 x)) q r b ao n cap z e { p with lev:=x } d :=
 s.set 8 _ _ rfl ⟨rfl,rfl,rfl,rfl,rfl,rfl⟩ ⟨s.gd.top,s.gd.cli,s.gd.wt,s.gd.us⟩
theorem Rt.s9 (s:Rt w0 y q r b ao n cap z e p d) (x:Bool):Rt w0 (y.setCell ⟨b,9,none⟩ (.bool x)) q r b ao n cap z e { p with cln:=x } d :=
 s.set 9 _ _ rfl ⟨rfl,rfl,rfl,rfl,rfl,rfl⟩ ⟨s.gd.top,s.gd.cli,s.gd.wt,s.gd.us⟩
theorem Rt.s10 (s:Rt w0 y q r b ao n cap z e p d) (x:Int):Rt w0 (y.setCell ⟨b,10,none⟩ (.int .i64 x)) q r b ao n cap z e { p with kee:=x } d :=
 s.set 10 _ _ rfl ⟨rfl,rfl,rfl,rfl,rfl,rfl⟩ ⟨s.gd.top,s.gd.cli,s.gd.wt,s.gd.us⟩
theorem Rt.s11 (s:Rt w0 y q r b ao n cap z e p d) (x:Bool):Rt w0 (y.setCell ⟨b,11,none⟩ (.bool x)) q r b ao n cap z e { p with hw:=x } d :=
 s.set 11 _ _ rfl ⟨rfl,rfl,rfl,rfl,rfl,rfl⟩ ⟨s.gd.top,s.gd.cli,s.gd.wt,s.gd.us⟩
theorem Rt.s12 (s:Rt w0 y q r b ao n cap z e p d) (x:ByteArray) (hx:x.size≤61):Rt w0 (y.setCell ⟨b,12,none⟩ (.string x)) q r b ao n cap z e { p with wt:=x } d :=
 s.set 12 _ _ rfl ⟨rfl,rfl,rfl,rfl,rfl,rfl⟩ ⟨s.gd.top,s.gd.cli,hx,s.gd.us⟩
theorem Rt.s14 (s:Rt w0 y q r b ao n cap z e p d) (x:Int):Rt w0 (y.setCell ⟨b,14,none⟩ (.int .i64 x)) q r b ao n cap z e { p with wq:=x } d :=
 s.set 14 _ _ rfl ⟨rfl,rfl,rfl,rfl,rfl,rfl⟩ ⟨s.gd.top,s.gd.cli,s.gd.wt,s.gd.us⟩
theorem Rt.s15 (s:Rt w0 y q r b ao n cap z e p d) (x:Bool):Rt w0 (y.setCell ⟨b,15,none⟩ (.bool x)) q r b ao n cap z e { p with wr:=x } d :=
 s.set 15 _ _ rfl ⟨rfl,rfl,rfl,rfl,rfl,rfl⟩ ⟨s.gd.top,s.gd.cli,s.gd.wt,s.gd.us⟩
theorem Rt.s16 (s:Rt w0 y q r b ao n cap z e p d) (x:Bool):Rt w0 (y.setCell ⟨b,16,none⟩ (.bool x)) q r b ao n cap z e { p with hu:=x } d :=
 s.set 16 _ _ rfl ⟨rfl,rfl,rfl,rfl,rfl,rfl⟩ ⟨s.gd.top,s.gd.cli,s.gd.wt,s.gd.us⟩
theorem Rt.s17 (s:Rt w0 y q r b ao n cap z e p d) (x:ByteArray) (hx:x.size≤61):Rt w0 (y.setCell ⟨b,17,none⟩ (.string x)) q r b ao n cap z e { p with us:=x } d :=
 s.set 17 _ _ rfl ⟨rfl,rfl,rfl,rfl,rfl,rfl⟩ ⟨s.gd.top,s.gd.cli,s.gd.wt,hx⟩
theorem Rt.s18 (s:Rt w0 y q r b ao n cap z e p d) (x:Bool):Rt w0 (y.setCell ⟨b,18,none⟩ (.bool x)) q r b ao n cap z e { p with hp:=x } d :=
 s.set 18 _ _ rfl ⟨rfl,rfl,rfl,rfl,rfl,rfl⟩ ⟨s.gd.top,s.gd.cli,s.gd.wt,s.gd.us⟩
theorem Rt.s20 (s:Rt w0 y q r b ao n cap z e p d) (x:Int):Rt w0 (y.setCell ⟨b,20,none⟩ (.int .i64 x)) q r b ao n cap z e { p with cod:=x } d :=
 s.set 20 _ _ rfl ⟨rfl,rfl,rfl,rfl,rfl,rfl⟩ ⟨s.gd.top,s.gd.cli,s.gd.wt,s.gd.us⟩
theorem Rt.s21 (s:Rt w0 y q r b ao n cap z e p d) (x:Bool):Rt w0 (y.setCell ⟨b,21,none⟩ (.bool x)) q r b ao n cap z e { p with pre:=x } d :=
 s.set 21 _ _ rfl ⟨rfl,rfl,rfl,rfl,rfl,rfl⟩ ⟨s.gd.top,s.gd.cli,s.gd.wt,s.gd.us⟩
theorem Rt.l6 (s:Rt w0 y q r b ao n cap z e p d) {a:Option Addr} {k c:Nat} {x:List UInt8} (hx:Own y w0.heap.size a k c x) (hm:k≤1048576) (hn:∀q0,a=some q0→q0.block≠b) (D2:Dis p.wb.a a) (D3:Dis p.pa.a a) (D4:Dis p.wan.a a) (D5:Dis p.nam.a a) (D6:Dis p.cds.a a) :
  Rt w0 (y.setCell ⟨b,6,none⟩ (.slice a k c)) q r b ao n cap z e { p with bod:=⟨a,k,c⟩ } { d with bod:=x }:=by
 have hg:y.grownBy (y.setCell ⟨b,6,none⟩ (.slice a k c)) (some b):=qai y b 6 _;have ho:=s.own.grown hg (fun k e=>by cases e;exact s.own.ne s.blk);have hx':=hx.grown hg (fun q0 e he=>hn q0 e (by simpa using he));have hd:=s.gd;refine⟨(hg.block q s.rdr.lt (fun e=>s.qb (by simpa using e))).trans s.rdr,qaf s.blk 6 _,(hg.block r s.res.lt (fun e=>by have:=s.rb;simp at e;omega)).trans s.res,?_,s.gro.grown hg s.gro.size (fun k e=>by cases e;exact s.bn),s.qn,s.bn,s.rn,s.rb,⟨hd.top,hd.cli,hd.wt,hd.us,hm,hd.wb,hd.pa,hd.wan,hd.nam,hd.cds,hd.wans,hd.nams⟩⟩;refine⟨hx',ho.wb,ho.pa,ho.wan,ho.nam,ho.cds,?_⟩;have hq:=pw6.1 s.own.dis;obtain⟨⟨q12,q13,q14,q15,q16⟩,⟨q23,q24,q25,q26⟩,⟨q34,q35,q36⟩,⟨q45,q46⟩,q56⟩:=hq;exact pw6.2 ⟨⟨D2.symm,D3.symm,D4.symm,D5.symm,D6.symm⟩,⟨q23,q24,q25,q26⟩,⟨q34,q35,q36⟩,⟨q45,q46⟩,q56⟩
theorem Rt.l13 (s:Rt w0 y q r b ao n cap z e p d) {a:Option Addr} {k c:Nat} {x:List UInt8} (hx:Own y w0.heap.size a k c x) (hm:k≤1048576) (hn:∀q0,a=some q0→q0.block≠b) (D1:Dis p.bod.a a) (D3:Dis p.pa.a a) (D4:Dis p.wan.a a) (D5:Dis p.nam.a a) (D6:Dis p.cds.a a) :
  Rt w0 (y.setCell ⟨b,13,none⟩ (.slice a k c)) q r b ao n cap z e { p with wb:=⟨a,k,c⟩ } { d with wb:=x }:=by
 have hg:y.grownBy (y.setCell ⟨b,13,none⟩ (.slice a k c)) (some b):=qai y b 13 _;have ho:=s.own.grown hg (fun k e=>by cases e;exact s.own.ne s.blk);have hx':=hx.grown hg (fun q0 e he=>hn q0 e (by simpa using he));have hd:=s.gd;refine⟨(hg.block q s.rdr.lt (fun e=>s.qb (by simpa using e))).trans s.rdr,qaf s.blk 13 _,(hg.block r s.res.lt (fun e=>by have:=s.rb;simp at e;omega)).trans s.res,?_,s.gro.grown hg s.gro.size (fun k e=>by cases e;exact s.bn),s.qn,s.bn,s.rn,s.rb,⟨hd.top,hd.cli,hd.wt,hd.us,hd.bod,hm,hd.pa,hd.wan,hd.nam,hd.cds,hd.wans,hd.nams⟩⟩;refine⟨ho.bod,hx',ho.pa,ho.wan,ho.nam,ho.cds,?_⟩;have hq:=pw6.1 s.own.dis;obtain⟨⟨q12,q13,q14,q15,q16⟩,⟨q23,q24,q25,q26⟩,⟨q34,q35,q36⟩,⟨q45,q46⟩,q56⟩:=hq;exact pw6.2 ⟨⟨D1,q13,q14,q15,q16⟩,⟨D3.symm,D4.symm,D5.symm,D6.symm⟩,⟨q34,q35,q36⟩,⟨q45,q46⟩,q56⟩
theorem Rt.l19 (s:Rt w0 y q r b ao n cap z e p d) {a:Option Addr} {k c:Nat} {x:List UInt8} (hx:Own y w0.heap.size a k c x) (hm:k≤1048576) (hn:∀q0,a=some q0→q0.block≠b) (D1:Dis p.bod.a a) (D2:Dis p.wb.a a) (D4:Dis p.wan.a a) (D5:Dis p.nam.a a) (D6:Dis p.cds.a a) :
  Rt w0 (y.setCell ⟨b,19,none⟩ (.slice a k c)) q r b ao n cap z e { p with pa:=⟨a,k,c⟩ } { d with pa:=x }:=by
 have hg:y.grownBy (y.setCell ⟨b,19,none⟩ (.slice a k c)) (some b):=qai y b 19 _;have ho:=s.own.grown hg (fun k e=>by cases e;exact s.own.ne s.blk);have hx':=hx.grown hg (fun q0 e he=>hn q0 e (by simpa using he));have hd:=s.gd;refine⟨(hg.block q s.rdr.lt (fun e=>s.qb (by simpa using e))).trans s.rdr,qaf s.blk 19 _,(hg.block r s.res.lt (fun e=>by have:=s.rb;simp at e;omega)).trans s.res,?_,s.gro.grown hg s.gro.size (fun k e=>by cases e;exact s.bn),s.qn,s.bn,s.rn,s.rb,⟨hd.top,hd.cli,hd.wt,hd.us,hd.bod,hd.wb,hm,hd.wan,hd.nam,hd.cds,hd.wans,hd.nams⟩⟩;refine⟨ho.bod,ho.wb,hx',ho.wan,ho.nam,ho.cds,?_⟩;have hq:=pw6.1 s.own.dis;obtain⟨⟨q12,q13,q14,q15,q16⟩,⟨q23,q24,q25,q26⟩,⟨q34,q35,q36⟩,⟨q45,q46⟩,q56⟩:=hq;exact pw6.2 ⟨⟨q12,D1,q14,q15,q16⟩,⟨D2,q24,q25,q26⟩,⟨D4.symm,D5.symm,D6.symm⟩,⟨q45,q46⟩,q56⟩
theorem Rt.l22 (s:Rt w0 y q r b ao n cap z e p d) {a:Option Addr} {k c:Nat} {x:List (ByteArray×Int)} (hx:WOwn y w0.heap.size a k c x) (hm:k≤1048576) (hX:∀z∈x,z.1.size≤61) (hn:∀q0,a=some q0→q0.block≠b) (D1:Dis p.bod.a a) (D2:Dis p.wb.a a) (D3:Dis p.pa.a a) (D5:Dis p.nam.a a) (D6:Dis p.cds.a a) :
  Rt w0 (y.setCell ⟨b,22,none⟩ (.slice a k c)) q r b ao n cap z e { p with wan:=⟨a,k,c⟩ } { d with wan:=x }:=by
 have hg:y.grownBy (y.setCell ⟨b,22,none⟩ (.slice a k c)) (some b):=qai y b 22 _;have ho:=s.own.grown hg (fun k e=>by cases e;exact s.own.ne s.blk);have hx':=hx.grown hg (fun q0 e he=>hn q0 e (by simpa using he));have hd:=s.gd;refine⟨(hg.block q s.rdr.lt (fun e=>s.qb (by simpa using e))).trans s.rdr,qaf s.blk 22 _,(hg.block r s.res.lt (fun e=>by have:=s.rb;simp at e;omega)).trans s.res,?_,s.gro.grown hg s.gro.size (fun k e=>by cases e;exact s.bn),s.qn,s.bn,s.rn,s.rb,⟨hd.top,hd.cli,hd.wt,hd.us,hd.bod,hd.wb,hd.pa,hm,hd.nam,hd.cds,hX,hd.nams⟩⟩;refine⟨ho.bod,ho.wb,ho.pa,hx',ho.nam,ho.cds,?_⟩;have hq:=pw6.1 s.own.dis;obtain⟨⟨q12,q13,q14,q15,q16⟩,⟨q23,q24,q25,q26⟩,⟨q34,q35,q36⟩,⟨q45,q46⟩,q56⟩:=hq;exact pw6.2 ⟨⟨q12,q13,D1,q15,q16⟩,⟨q23,D2,q25,q26⟩,⟨D3,q35,q36⟩,⟨D5.symm,D6.symm⟩,q56⟩
theorem Rt.l23 (s:Rt w0 y q r b ao n cap z e p d) {a:Option Addr} {k c:Nat} {x:List ByteArray} (hx:SOwn y w0.heap.size a k c x) (hm:k≤1048576) (hX:∀z∈x,z.size≤61) (hn:∀q0,a=some q0→q0.block≠b) (D1:Dis p.bod.a a) (D2:Dis p.wb.a a) (D3:Dis p.pa.a a) (D4:Dis p.wan.a a) (D6:Dis p.cds.a a) :
  Rt w0 (y.setCell ⟨b,23,none⟩ (.slice a k c)) q r b ao n cap z e { p with nam:=⟨a,k,c⟩ } { d with nam:=x }:=by
 have hg:y.grownBy (y.setCell ⟨b,23,none⟩ (.slice a k c)) (some b):=qai y b 23 _;have ho:=s.own.grown hg (fun k e=>by cases e;exact s.own.ne s.blk);have hx':=hx.grown hg (fun q0 e he=>hn q0 e (by simpa using he));have hd:=s.gd;refine⟨(hg.block q s.rdr.lt (fun e=>s.qb (by simpa using e))).trans s.rdr,qaf s.blk 23 _,(hg.block r s.res.lt (fun e=>by have:=s.rb;simp at e;omega)).trans s.res,?_,s.gro.grown hg s.gro.size (fun k e=>by cases e;exact s.bn),s.qn,s.bn,s.rn,s.rb,⟨hd.top,hd.cli,hd.wt,hd.us,hd.bod,hd.wb,hd.pa,hd.wan,hm,hd.cds,hd.wans,hX⟩⟩;refine⟨ho.bod,ho.wb,ho.pa,ho.wan,hx',ho.cds,?_⟩;have hq:=pw6.1 s.own.dis;obtain⟨⟨q12,q13,q14,q15,q16⟩,⟨q23,q24,q25,q26⟩,⟨q34,q35,q36⟩,⟨q45,q46⟩,q56⟩:=hq;exact pw6.2 ⟨⟨q12,q13,q14,D1,q16⟩,⟨q23,q24,D2,q26⟩,⟨q34,D3,q36⟩,⟨D4,q46⟩,D6.symm⟩
theorem Rt.l24 (s:Rt w0 y q r b ao n cap z e p d) {a:Option Addr} {k c:Nat} {x:List Int} (hx:IOwn y w0.heap.size a k c x) (hm:k≤1048576) (hn:∀q0,a=some q0→q0.block≠b) (D1:Dis p.bod.a a) (D2:Dis p.wb.a a) (D3:Dis p.pa.a a) (D4:Dis p.wan.a a) (D5:Dis p.nam.a a) :
  Rt w0 (y.setCell ⟨b,24,none⟩ (.slice a k c)) q r b ao n cap z e { p with cds:=⟨a,k,c⟩ } { d with cds:=x }:=by
 have hg:y.grownBy (y.setCell ⟨b,24,none⟩ (.slice a k c)) (some b):=qai y b 24 _;have ho:=s.own.grown hg (fun k e=>by cases e;exact s.own.ne s.blk);have hx':=hx.grown hg (fun q0 e he=>hn q0 e (by simpa using he));have hd:=s.gd;refine⟨(hg.block q s.rdr.lt (fun e=>s.qb (by simpa using e))).trans s.rdr,qaf s.blk 24 _,(hg.block r s.res.lt (fun e=>by have:=s.rb;simp at e;omega)).trans s.res,?_,s.gro.grown hg s.gro.size (fun k e=>by cases e;exact s.bn),s.qn,s.bn,s.rn,s.rb,⟨hd.top,hd.cli,hd.wt,hd.us,hd.bod,hd.wb,hd.pa,hd.wan,hd.nam,hm,hd.wans,hd.nams⟩⟩;refine⟨ho.bod,ho.wb,ho.pa,ho.wan,ho.nam,hx',?_⟩;have hq:=pw6.1 s.own.dis;obtain⟨⟨q12,q13,q14,q15,q16⟩,⟨q23,q24,q25,q26⟩,⟨q34,q35,q36⟩,⟨q45,q46⟩,q56⟩:=hq;exact pw6.2 ⟨⟨q12,q13,q14,q15,D1⟩,⟨q23,q24,q25,D2⟩,⟨q34,q35,D3⟩,⟨q45,D4⟩,D5⟩
theorem Rt.old (s:Rt w0 y q r b ao n cap z e p d) {a:Option Addr} (hx:∀u,a=some u→y.heap.size≤u.block) (j:Nat):Dis ([p.bod.a,p.wb.a,p.pa.a,p.wan.a,p.nam.a,p.cds.a].getD j none) a:=by
 intro t u ht hu e;have h1:=hx u hu;have h2:p.has t.block:=by
  refine⟨t,?_,rfl⟩;rw[←ht,List.getD_eq_getElem?_getD];rw[List.getD_eq_getElem?_getD] at ht;cases hj:[p.bod.a,p.wb.a,p.pa.a,p.wan.a,p.nam.a,p.cds.a][j]? with
  |none=>rw[hj] at ht;cases ht
  |some v=>exact List.mem_of_getElem? hj
 have h3:=(s.own.lt h2).2;omega
theorem Rt.n6 (s:Rt w0 y q r b ao n cap z e p d) {z':Nat} {e':Bool} (hR:RB y' q ao n cap z' e') (hg:y.grownBy y' (some q)) {a:Option Addr} {k c:Nat} {x:List UInt8} (hx:Own y' y.heap.size a k c x) (hm:k≤1048576) :
  Rt w0 (y'.setCell ⟨b,6,none⟩ (.slice a k c)) q r b ao n cap z' e' { p with bod:=⟨a,k,c⟩ } { d with bod:=x }:=by
 have s2:=s.read hR hg;have hnew:∀u,a=some u→y.heap.size≤u.block:=fun u hu=>(hx.2.lt u.block (by rw[hu];rfl)).1
 refine s2.l6 (⟨hx.1,qbc hx.2 s.gro.size⟩) hm (fun q0 e0=>?_) (s.old hnew 1) (s.old hnew 2) (s.old hnew 3) (s.old hnew 4) (s.old hnew 5);have h1:=hnew q0 e0;have h2:=s.blk.lt;omega
theorem Rt.n13 (s:Rt w0 y q r b ao n cap z e p d) {z':Nat} {e':Bool} (hR:RB y' q ao n cap z' e') (hg:y.grownBy y' (some q)) {a:Option Addr} {k c:Nat} {x:List UInt8} (hx:Own y' y.heap.size a k c x) (hm:k≤1048576) :
  Rt w0 (y'.setCell ⟨b,13,none⟩ (.slice a k c)) q r b ao n cap z' e' { p with wb:=⟨a,k,c⟩ } { d with wb:=x }:=by
 have s2:=s.read hR hg;have hnew:∀u,a=some u→y.heap.size≤u.block:=fun u hu=>(hx.2.lt u.block (by rw[hu];rfl)).1
 refine s2.l13 (⟨hx.1,qbc hx.2 s.gro.size⟩) hm (fun q0 e0=>?_) (s.old hnew 0) (s.old hnew 2) (s.old hnew 3) (s.old hnew 4) (s.old hnew 5);have h1:=hnew q0 e0;have h2:=s.blk.lt;omega
theorem Rt.n19 (s:Rt w0 y q r b ao n cap z e p d) {z':Nat} {e':Bool} (hR:RB y' q ao n cap z' e') (hg:y.grownBy y' (some q)) {a:Option Addr} {k c:Nat} {x:List UInt8} (hx:Own y' y.heap.size a k c x) (hm:k≤1048576) :
  Rt w0 (y'.setCell ⟨b,19,none⟩ (.slice a k c)) q r b ao n cap z' e' { p with pa:=⟨a,k,c⟩ } { d with pa:=x }:=by
 have s2:=s.read hR hg;have hnew:∀u,a=some u→y.heap.size≤u.block:=fun u hu=>(hx.2.lt u.block (by rw[hu];rfl)).1
 refine s2.l19 (⟨hx.1,qbc hx.2 s.gro.size⟩) hm (fun q0 e0=>?_) (s.old hnew 0) (s.old hnew 1) (s.old hnew 3) (s.old hnew 4) (s.old hnew 5);have h1:=hnew q0 e0;have h2:=s.blk.lt;omega
theorem Rt.n22 (s:Rt w0 y q r b ao n cap z e p d) {z':Nat} {e':Bool} (hR:RB y' q ao n cap z' e') (hg:y.grownBy y' (some q)) {a:Option Addr} {k c:Nat} {x:List (ByteArray×Int)} (hx:WOwn y' y.heap.size a k c x) (hm:k≤1048576) (hX:∀v∈x,v.1.size≤61) :
  Rt w0 (y'.setCell ⟨b,22,none⟩ (.slice a k c)) q r b ao n cap z' e' { p with wan:=⟨a,k,c⟩ } { d with wan:=x }:=by
 have s2:=s.read hR hg;have hnew:∀u,a=some u→y.heap.size≤u.block:=fun u hu=>(hx.2.lt u.block (by rw[hu];rfl)).1
 refine s2.l22 (⟨hx.1,qbc hx.2 s.gro.size⟩) hm hX (fun q0 e0=>?_) (s.old hnew 0) (s.old hnew 1) (s.old hnew 2) (s.old hnew 4) (s.old hnew 5);have h1:=hnew q0 e0;have h2:=s.blk.lt;omega
theorem Rt.n23 (s:Rt w0 y q r b ao n cap z e p d) {z':Nat} {e':Bool} (hR:RB y' q ao n cap z' e') (hg:y.grownBy y' (some q)) {a:Option Addr} {k c:Nat} {x:List ByteArray} (hx:SOwn y' y.heap.size a k c x) (hm:k≤1048576) (hX:∀v∈x,v.size≤61) :
  Rt w0 (y'.setCell ⟨b,23,none⟩ (.slice a k c)) q r b ao n cap z' e' { p with nam:=⟨a,k,c⟩ } { d with nam:=x }:=by
 have s2:=s.read hR hg;have hnew:∀u,a=some u→y.heap.size≤u.block:=fun u hu=>(hx.2.lt u.block (by rw[hu];rfl)).1
 refine s2.l23 (⟨hx.1,qbc hx.2 s.gro.size⟩) hm hX (fun q0 e0=>?_) (s.old hnew 0) (s.old hnew 1) (s.old hnew 2) (s.old hnew 3) (s.old hnew 5);have h1:=hnew q0 e0;have h2:=s.blk.lt;omega
theorem Rt.n24 (s:Rt w0 y q r b ao n cap z e p d) {z':Nat} {e':Bool} (hR:RB y' q ao n cap z' e') (hg:y.grownBy y' (some q)) {a:Option Addr} {k c:Nat} {x:List Int} (hx:IOwn y' y.heap.size a k c x) (hm:k≤1048576) :
  Rt w0 (y'.setCell ⟨b,24,none⟩ (.slice a k c)) q r b ao n cap z' e' { p with cds:=⟨a,k,c⟩ } { d with cds:=x }:=by
 have s2:=s.read hR hg;have hnew:∀u,a=some u→y.heap.size≤u.block:=fun u hu=>(hx.2.lt u.block (by rw[hu];rfl)).1
 refine s2.l24 (⟨hx.1,qbc hx.2 s.gro.size⟩) hm (fun q0 e0=>?_) (s.old hnew 0) (s.old hnew 1) (s.old hnew 2) (s.old hnew 3) (s.old hnew 4);have h1:=hnew q0 e0;have h2:=s.blk.lt;omega
end

def Pv.fst (v:Pv):Nat:=(byte (16*v.ty+v.low)).toNat
theorem qoq {v:Pv} (k l:Int) (n:Nat) (ht:v.ty=k) (hl:v.low=l) (hn:(byte (16*k+l)).toNat=n):v.fst=n:=by
 unfold Pv.fst;rw[ht,hl,hn]
theorem bit_one (b:Bool):decide (bit b 1=1)=b:=by cases b<;>rfl
theorem back2 {v:Pv} (h:v.ok=true) (ht:v.ty=2):(∃q,qbj (qck v.fst) v.rest=(v,q,false))∧sBody v.fst v.rest=v∧fstOk v.fst=true:=by
 have hI:qck 32 = { Pv.zero with ty:=2 }:=by decide +kernel
 have hf:v.fst=32:=qoq 2 0 32 ht (by simp[Pv.low,ht]) (by decide +kernel);have hr:=rest2 h ht;have e:=qev h;rw[qrg v ht] at e;have hb:=qjp h;unfold Pv.body at hb;rw[if_neg (by omega),if_pos ht,qdm] at hb;rw[hf,hr];generalize (v.pre&&decide (v.cod=0))=P at *;generalize v.cod=C at *;clear hr ht h hf;rw[e];clear e v;generalize hL:[byte (bit P 1),byte C]=L;have h0:L.drop 0=byte (bit P 1) :: [byte C]:=hL.symm;have b01:0≤bit P 1∧bit P 1≤255:=by have:=qds P 1 (by omega);omega
 obtain⟨g0,h1,l1,c0⟩:=aB h0 (Nat.zero_le _) b01.1 b01.2;obtain⟨g1,h2,l2,c1⟩:=aB h1 l1 hb.1 (by omega);have hlen:L.length=2:=by rw[←hL];rfl
 refine⟨⟨0+1+1,?_⟩,?_,by decide +kernel⟩
 ·rw[hI];unfold qbj;rw[if_neg (by decide),if_pos (by decide)];simp only[qcs g0,qcs g1,bit_one]
 ·unfold sBody;rw[if_neg (by decide),if_pos ⟨by decide,hlen⟩];have c0':decide (bt L 0=1)=P:=by
   rw[←bit_one P,←c0];simp only[decide_eq_decide];omega
  have c1':((bt L 1:Nat):Int)=C:=c1;rw[c0',c1']
theorem back3 {v:Pv} (h:v.ok=true) (ht:v.ty=3):(∃q,qbj (qck v.fst) v.rest=(v,q,false))∧sBody v.fst v.rest=v∧fstOk v.fst=true:=by
 have hlow:=low3 h ht;have hr:=rest3 h ht;have e:=qev h;rw[qpp v ht] at e;have hb:=qjp h;unfold Pv.body at hb;rw[if_neg (by omega),if_neg (by omega),if_pos ht] at hb;simp only[Bool.and_eq_true,Bool.or_eq_true,decide_eq_true_eq,qdm] at hb;obtain⟨hq,hid,htp,hbd⟩:=hb;have hD:0<v.qos∨(if 0<v.qos then v.dup else false)=false:=by
  by_cases g:0<v.qos
  ·exact .inl g
  ·rw[if_neg g];exact .inr rfl
 have hI:(if 0<v.qos then v.id else 0)=0∨0<v.qos:=by
  by_cases g:0<v.qos
  ·exact .inr g
  ·rw[if_neg g];exact .inl rfl
 have hI2:0≤(if 0<v.qos then v.id else 0)∧(if 0<v.qos then v.id else 0)≤65535:=by
  by_cases g:0<v.qos
  ·rw[if_pos g];omega
  ·rw[if_neg g];omega
 have hfst:v.fst=(byte (48+v.low)).toNat:=by unfold Pv.fst;rw[ht];rfl
 rw[hfst,hlow,hr];generalize (if 0<v.qos then v.dup else false)=D at *;generalize (if 0<v.qos then v.id else 0)=I at *;generalize v.qos=Q at *;generalize v.ret=R at *;generalize v.top=T at *;generalize v.bod=Bd at *;clear hr ht h hfst hlow hid;rw[e];clear e v;obtain⟨k,rfl⟩:=Int.eq_ofNat_of_zero_le hq.1;have hk:k<3:=by omega
 obtain⟨a1,a2,a3,a4,a5,a6⟩:=fl_pubL D R ⟨k,hk⟩;simp only at a1 a2 a3 a4 a5 a6;have hx:=qid (48+pubL D k R);rw[Int.emod_eq_of_lt (by omega) (by omega)] at hx;have hfo:fstOk (byte (48+pubL D k R)).toNat=true:=by
  have hh:∀(D R:Bool) (q:Fin 3),(0<q.val∨D=false)→fstOk (48+pubL D q.val R).toNat=true:=by decide +kernel
  have:=hh D R ⟨k,hk⟩ (by rcases hD with h | h;exact .inl (by simpa using h);exact .inr h);rw[←hx] at this
  simpa using this
 rw[←hx] at a1 a2 a3 a4;generalize (byte (48+pubL D k R)).toNat=X at *;have x16:X / 16=3:=by omega
 generalize hL:pubB k I T Bd=L;have h0:L.drop 0=pT T++((if 0<(k:Int) then wordB I else [])++Bd):=by rw[←hL];unfold pubB;simp
 obtain⟨a,g0,h1,l1⟩:=aT h0 (Nat.zero_le _) (wf_txt htp);obtain⟨b,g1,g2,h2,l2⟩ : ∃b,(if 0<(k:Int) then rd gW 0 L (a,false) else ((Pv.zero).id,(a,false)))=(I,b,false)∧(if 0<(k:Int) then gW L a else some (0,a))=some (I,b)∧L.drop b=Bd∧b≤L.length:=by
  by_cases g:0<(k:Int)
  ·rw[if_pos g] at h1;obtain⟨b,gk,h2,l2⟩:=aW h1 l1 hI2.1 hI2.2;exact⟨b,by rw[if_pos g];exact qcs gk,by rw[if_pos g];exact gk,h2,l2⟩
  ·rw[if_neg g] at h1
   rcases hI with rfl | h'
   ·exact⟨a,by rw[if_neg g];rfl,by rw[if_neg g],h1,l1⟩
   ·exact absurd h' g
 refine⟨⟨L.length,?_⟩,?_,hfo⟩
 ·have hI:qck X = { Pv.zero with ty:=3,dup:=D,qos:=(k:Int),ret:=R }:=by
   unfold qck;rw[if_pos x16,a1,a2,a3]
  rw[hI];unfold qbj;simp only;rw[if_neg (by decide),if_neg (by decide),if_pos trivial];unfold iPub;have gr:gR L b=some (Bd,L.length):=by unfold gR;rw[h2]
  simp only[a1,a2,a3];simp only[qcs g0];simp only[g1,qcs gr]
 ·unfold sBody;rw[if_neg (by omega),if_neg (by omega),if_pos x16];unfold sPub;simp only[g0,a3,g2,a1,a2,h2]
theorem qsp {v:Pv} (h:v.ok=true) (k:Int) (ht:v.ty=k) (hk:k=4∨k=5∨k=6∨k=7∨k=11) (x:Nat) (hx:(byte (16*k+(if k=6 then 2 else 0))).toNat=x) (hI:qck x = { Pv.zero with ty:=k }) (hx16:((x / 16:Nat):Int)=k) (ho:fstOk x=true):(∃q,qbj (qck v.fst) v.rest=(v,q,false))∧sBody v.fst v.rest=v∧fstOk v.fst=true:=by
 have hr:=restI h k ht hk;have e:=qev h;rw[qfm v k ht hk] at e;have hi:1≤v.id∧v.id≤65535:=by
  have hb:=qjp h;unfold Pv.body at hb;rw[if_neg (by omega),if_neg (by omega),if_neg (by omega),if_neg (by omega),if_neg (by omega),if_neg (by omega),if_neg (by omega)] at hb;exact qdm.1 hb
 have hf:v.fst=x:=by
  rw[←hx];unfold Pv.fst Pv.low;rw[ht]
  congr 3
  rcases hk with rfl | rfl | rfl | rfl | rfl<;>rfl
 rw[hr,hf];generalize v.id=I at *;clear hr ht hf h hx;rw[e];clear e v;generalize hL:wordB I=L;have h0:L.drop 0=wordB I++[]:=by rw[←hL];simp
 obtain⟨a,g0,h1,l1⟩:=aW h0 (Nat.zero_le _) (by omega) hi.2;refine⟨⟨a,?_⟩,?_,ho⟩
 ·rw[hI];unfold qbj;simp only;rw[if_neg (by omega),if_neg (by omega),if_neg (by omega),if_pos hk];simp only[qcs g0]
 ·unfold sBody;rw[if_neg (by omega),if_neg (by omega),if_neg (by omega),if_pos (by omega)];simp only[g0];rw[if_neg (by omega),if_neg (by omega),if_neg (by omega),hx16]
theorem backI {v:Pv} (h:v.ok=true) (k:Int) (ht:v.ty=k) (hk:k=4∨k=5∨k=6∨k=7∨k=11):(∃q,qbj (qck v.fst) v.rest=(v,q,false))∧sBody v.fst v.rest=v∧fstOk v.fst=true:=by
 rcases hk with rfl | rfl | rfl | rfl | rfl
 ·exact qsp h 4 ht (by decide) 64 (by decide +kernel) (by decide +kernel) rfl (by decide +kernel)
 ·exact qsp h 5 ht (by decide) 80 (by decide +kernel) (by decide +kernel) rfl (by decide +kernel)
 ·exact qsp h 6 ht (by decide) 98 (by decide +kernel) (by decide +kernel) rfl (by decide +kernel)
 ·exact qsp h 7 ht (by decide) 112 (by decide +kernel) (by decide +kernel) rfl (by decide +kernel)
 ·exact qsp h 11 ht (by decide) 176 (by decide +kernel) (by decide +kernel) rfl (by decide +kernel)
theorem backN {v:Pv} (h:v.ok=true) (k:Int) (ht:v.ty=k) (hk:k=12∨k=13∨k=14):(∃q,qbj (qck v.fst) v.rest=(v,q,false))∧sBody v.fst v.rest=v∧fstOk v.fst=true:=by
 have hr:=restN h k ht hk;have e:=qev h;rw[qjo v k ht hk] at e;have hf:v.fst=(byte (16*k)).toNat:=by
  unfold Pv.fst Pv.low;rw[ht]
  congr 2
  rcases hk with rfl | rfl | rfl<;>rfl
 rw[hr,hf];clear hr ht hf h;rw[e];clear e v
 rcases hk with rfl | rfl | rfl<;>exact⟨⟨0,by decide +kernel⟩,by decide +kernel,by decide +kernel⟩
theorem back8 {v:Pv} (h:v.ok=true) (ht:v.ty=8):(∃q,qbj (qck v.fst) v.rest=(v,q,false))∧sBody v.fst v.rest=v∧fstOk v.fst=true:=by
 have hI:qck 130 = { Pv.zero with ty:=8 }:=by decide +kernel
 have hf:v.fst=130:=qoq 8 2 130 ht (by simp[Pv.low,ht]) (by decide +kernel);have hr:=rest8 h ht;have e:=qev h;rw[qtp v ht] at e;have hb:=qjp h;unfold Pv.body at hb;rw[if_neg (by omega),if_neg (by omega),if_neg (by omega),if_neg (by omega),if_pos ht] at hb;simp only[Bool.and_eq_true,qdm,List.all_eq_true] at hb;obtain⟨hw,hi,hn⟩:=hb;rw[hf,hr];generalize v.id=I at *;generalize v.wan=W at *;clear hr ht h hf;rw[e];clear e v;generalize hL:wordB I++wanB W=L;have h0:L.drop 0=wordB I++wanB W:=hL.symm;obtain⟨a,g0,h1,l1⟩:=aW h0 (Nat.zero_le _) (by omega) hi.2;have ls:=lists (g:=gN) (d:=(ByteArray.empty,0)) (l:=L) (fun z=>pT z.1++[byte z.2]) W a L.length false (fun x hx=>by simp) (fun x hx q t hq hle=>gN_at hq hle (quu (hw x hx).1) (hw x hx).2.1 (by have:=(hw x hx).2.2;omega)) h1 l1 (by omega);refine⟨⟨L.length,?_⟩,?_,by decide +kernel⟩
 ·rw[hI];unfold qbj;rw[if_neg (by decide),if_neg (by decide),if_neg (by decide),if_neg (by decide),if_pos (by decide)];simp only[qcs g0,ls.1]
 ·unfold sBody;rw[if_neg (by decide),if_neg (by rintro ⟨hh,_⟩;revert hh;decide),if_neg (by decide),if_pos (by decide)];simp only[g0];rw[if_neg (by decide),if_pos (by decide)];simp only[ls.2]
theorem back10 {v:Pv} (h:v.ok=true) (ht:v.ty=10):(∃q,qbj (qck v.fst) v.rest=(v,q,false))∧sBody v.fst v.rest=v∧fstOk v.fst=true:=by
 have hI:qck 162 = { Pv.zero with ty:=10 }:=by decide +kernel
 have hf:v.fst=162:=qoq 10 2 162 ht (by simp[Pv.low,ht]) (by decide +kernel);have hr:=rest10 h ht;have e:=qev h;rw[qpo v ht] at e;have hb:=qjp h;unfold Pv.body at hb;rw[if_neg (by omega),if_neg (by omega),if_neg (by omega),if_neg (by omega),if_neg (by omega),if_neg (by omega),if_pos ht] at hb;simp only[Bool.and_eq_true,qdm,List.all_eq_true] at hb;obtain⟨hw,hi,hn⟩:=hb;rw[hf,hr];generalize v.id=I at *;generalize v.nam=W at *;clear hr ht h hf;rw[e];clear e v;generalize hL:wordB I++namB W=L;have h0:L.drop 0=wordB I++namB W:=hL.symm;obtain⟨a,g0,h1,l1⟩:=aW h0 (Nat.zero_le _) (by omega) hi.2;have ls:=lists (g:=gT) (d:=ByteArray.empty) (l:=L) pT W a L.length false (fun x hx=>pT_pos x (quu (hw x hx))) (fun x hx q t hq hle=>gT_at hq hle (quu (hw x hx))) h1 l1 (by omega);refine⟨⟨L.length,?_⟩,?_,by decide +kernel⟩
 ·rw[hI];unfold qbj;rw[if_neg (by decide),if_neg (by decide),if_neg (by decide),if_neg (by decide),if_neg (by decide),if_neg (by decide),if_pos (by decide)];simp only[qcs g0,ls.1]
 ·unfold sBody;rw[if_neg (by decide),if_neg (by rintro ⟨hh,_⟩;revert hh;decide),if_neg (by decide),if_pos (by decide)];simp only[g0];rw[if_neg (by decide),if_neg (by decide),if_pos (by decide)];simp only[ls.2]
theorem cds_read (W:List Int) (h:∀x∈W,0≤x∧x≤255):(cdsB W).map (fun u=>(u.toNat:Int))=W:=by
 induction W with
 |nil=>rfl
 |cons x W ih=>
  have hx:=h x (List.mem_cons_self ..);have:=ih (fun y hy=>h y (List.mem_cons_of_mem _ hy));unfold cdsB at this ⊢;rw[List.map_cons,List.map_cons,this,qid,Int.emod_eq_of_lt hx.1 (by omega)]
theorem back9 {v:Pv} (h:v.ok=true) (ht:v.ty=9):(∃q,qbj (qck v.fst) v.rest=(v,q,false))∧sBody v.fst v.rest=v∧fstOk v.fst=true:=by
 have hI:qck 144 = { Pv.zero with ty:=9 }:=by decide +kernel
 have hf:v.fst=144:=qoq 9 0 144 ht (by simp[Pv.low,ht]) (by decide +kernel);have hr:=rest9 h ht;have e:=qev h;rw[qtq v ht] at e;have hb:=qjp h;unfold Pv.body at hb;rw[if_neg (by omega),if_neg (by omega),if_neg (by omega),if_neg (by omega),if_neg (by omega),if_pos ht] at hb;simp only[Bool.and_eq_true,Bool.or_eq_true,decide_eq_true_eq,qdm,List.all_eq_true] at hb;obtain⟨hw,hi,hn⟩:=hb;have hw':∀x∈v.cds,0≤x∧x≤255:=fun x hx=>by have:=hw x hx;omega
 rw[hf,hr];generalize v.id=I at *;generalize v.cds=W at *;clear hr ht h hf;rw[e];clear e v;generalize hL:wordB I++cdsB W=L;have h0:L.drop 0=wordB I++cdsB W:=hL.symm;obtain⟨a,g0,h1,l1⟩:=aW h0 (Nat.zero_le _) (by omega) hi.2;have ls:=lists (g:=gB) (d:=(0:Int)) (l:=L) (fun z=>[byte z]) W a L.length false (fun x hx=>by simp) (fun x hx q t hq hle=>(aB hq hle (hw' x hx).1 (hw' x hx).2).1) (by rw[h1,qkz]) l1 (by omega);refine⟨⟨L.length,?_⟩,?_,by decide +kernel⟩
 ·rw[hI];unfold qbj;rw[if_neg (by decide),if_neg (by decide),if_neg (by decide),if_neg (by decide),if_neg (by decide),if_pos (by decide)];simp only[qcs g0,ls.1]
 ·unfold sBody;rw[if_neg (by decide),if_neg (by rintro ⟨hh,_⟩;revert hh;decide),if_neg (by decide),if_pos (by decide)];simp only[g0];rw[if_pos (by decide),h1,cds_read W hw']
theorem back1 {v:Pv} (h:v.ok=true) (ht:v.ty=1):(∃q,qbj (qck v.fst) v.rest=(v,q,false))∧sBody v.fst v.rest=v∧fstOk v.fst=true:=by
 have hI:qck 16 = { Pv.zero with ty:=1 }:=by decide +kernel
 have hf:v.fst=16:=qoq 1 0 16 ht (by simp[Pv.low,ht]) (by decide +kernel);obtain⟨h1,h2⟩:=con_back h ht;rw[hf];refine⟨?_,?_,by decide +kernel⟩
 ·rw[hI];unfold qbj;rw[if_pos (by decide)];exact h1
 ·unfold sBody;rw[if_pos (by decide)];exact h2
theorem back {v:Pv} (h:v.ok=true):(∃q,qbj (qck v.fst) v.rest=(v,q,false))∧sBody v.fst v.rest=v∧fstOk v.fst=true:=by
 have ht:=ok_ty h;have h14:v.ty=1∨v.ty=2∨v.ty=3∨v.ty=8∨v.ty=9∨v.ty=10∨(v.ty=4∨v.ty=5∨v.ty=6∨v.ty=7∨v.ty=11)∨(v.ty=12∨v.ty=13∨v.ty=14):=by omega
 rcases h14 with h1 | h1 | h1 | h1 | h1 | h1 | h1 | h1
 ·exact back1 h h1
 ·exact back2 h h1
 ·exact back3 h h1
 ·exact back8 h h1
 ·exact back9 h h1
 ·exact back10 h h1
 ·exact backI h v.ty rfl h1
 ·exact backN h v.ty rfl h1
theorem num_ext (l t:List UInt8) (p k:Nat) (h:p+k≤l.length):num (l++t) p k=num l p k:=by
 induction k with
 |zero=>rfl
 |succ k ih=>
  have hb:bt (l++t) (p+k)=bt l (p+k):=by
   unfold bt;rw[List.getD_eq_getElem?_getD,List.getD_eq_getElem?_getD,List.getElem?_append_left (by omega)]
  show num (l++t) p k+_=num l p k+_;rw[ih (by omega),hb]
theorem ansG_ext (l t:List UInt8) (p:Nat):∀f,f≤4→ansG l p f≠(0,0,1)→ansG (l++t) p f=ansG l p f:=by
 intro f
 induction f with
 |zero=>intro _ _;rfl
 |succ f ih=>
  intro hf h;unfold ansG at h ⊢
  by_cases g:l.length≤p+(3-f)
  ·rw[if_pos g] at h;exact absurd rfl h
  ·have hb:bt (l++t) (p+(3-f))=bt l (p+(3-f)):=by
    unfold bt;rw[List.getD_eq_getElem?_getD,List.getD_eq_getElem?_getD,List.getElem?_append_left (by omega)]
   rw[if_neg g] at h;rw[if_neg (by rw[List.length_append];omega),if_neg g,hb]
   by_cases g1:bt l (p+(3-f))<128
   ·rw[if_pos g1,if_pos g1]
    by_cases g2:0<3-f∧bt l (p+(3-f))=0
    ·rw[if_pos g2,if_pos g2]
    ·rw[if_neg g2,if_neg g2,num_ext _ _ _ _ (by omega)]
   ·rw[if_neg g1] at h;rw[if_neg g1,if_neg g1];exact ih (by omega) h
theorem all_le {α:Type} (f:α→List UInt8) (k:Nat) (h:∀x,(f x).length≤k) (l:List α) (n:Nat) (hn:(l.length:Int)≤n):(l.flatMap f).length≤k*n:=by
 have h1:=qut f k h l;have h2:k*l.length≤k*n:=Nat.mul_le_mul_left _ (by omega);omega
theorem qlt {v:Pv} (h:v.ok=true):v.rest.length≤340:=by
 have ht:=ok_ty h;have hb:=qjp h;have h14:v.ty=1∨v.ty=2∨v.ty=3∨v.ty=8∨v.ty=9∨v.ty=10∨(v.ty=4∨v.ty=5∨v.ty=6∨v.ty=7∨v.ty=11)∨(v.ty=12∨v.ty=13∨v.ty=14):=by omega
 unfold Pv.body at hb
 rcases h14 with h1 | h1 | h1 | h1 | h1 | h1 | h1 | h1
 ·obtain⟨lev,cli,cln,kee,hw,wt,wb,wq,wr,hu,us,hp,pa,ev,er,w1,w2,w3,w4,hlev,hcli,hkee,u1,u2,p1,p2⟩:=qst h h1;rw[er];unfold conB;have a1:=pT_le cli;have a0:(pT mqtt).length=6:=by decide +kernel
  have a2:=if_le hw (pT wt++pB wb) 104 (by
   have:=pT_le wt;have hB:(pB wb).length≤42:=by unfold pB;split<;>simp[qbe];omega
   simp;omega)
  have a3:=if_le hu (pT us) 62 (pT_le us);have a4:=if_le hp (pB pa) 62 (pB_le pa);simp only[List.length_append,List.length_cons,List.length_nil,qbe];omega
 ·rw[rest2 h h1];simp
 ·rw[if_neg (by omega),if_neg (by omega),if_pos h1] at hb;simp only[Bool.and_eq_true,decide_eq_true_eq] at hb;rw[rest3 h h1];have:=pubB_le v.qos (if 0<v.qos then v.id else 0) v.top v.bod;omega
 ·rw[if_neg (by omega),if_neg (by omega),if_neg (by omega),if_neg (by omega),if_pos h1] at hb;simp only[Bool.and_eq_true,qdm] at hb;rw[rest8 h h1,List.length_append,qbe];have:=all_le (fun x:ByteArray×Int=>pT x.1++[byte x.2]) 63 (fun x=>by have:=pT_le x.1;simp;omega) v.wan 4 hb.2.2.2;unfold wanB;omega
 ·rw[if_neg (by omega),if_neg (by omega),if_neg (by omega),if_neg (by omega),if_neg (by omega),if_pos h1] at hb;simp only[Bool.and_eq_true,qdm] at hb;rw[rest9 h h1,List.length_append,qbe,cdsB_le];omega
 ·rw[if_neg (by omega),if_neg (by omega),if_neg (by omega),if_neg (by omega),if_neg (by omega),if_neg (by omega),if_pos h1] at hb;simp only[Bool.and_eq_true,qdm] at hb;rw[rest10 h h1,List.length_append,qbe];have:=all_le pT 62 pT_le v.nam 4 hb.2.2.2;unfold namB;omega
 ·rw[restI h v.ty rfl h1,qbe];omega
 ·rw[restN h v.ty rfl h1];simp
def Pv.hd (v:Pv):Nat:=1+(lenB v.rest.length).length
theorem qhe {v:Pv} (h:v.ok=true):v.bytes.length=v.hd+v.rest.length:=by
 rw[qcp h];unfold Pv.hd;simp;omega
theorem qew {b p:List UInt8} : qeg b p=true ↔ ∃t,b=p++t:=by
 unfold qeg;rw[decide_eq_true_iff];constructor
 ·intro h;refine⟨b.drop p.length,?_⟩
  conv=>lhs;rw[←List.take_append_drop p.length b,h]
 ·rintro ⟨t,rfl⟩;simp
theorem qoz {v:Pv} {b:List UInt8} (h:v.ok=true) (hb:qeg b v.bytes=true) :
  headE b=.inr (v.rest.length,v.hd)∧bt b 0=v.fst∧(b.drop v.hd).take v.rest.length=v.rest∧v.bytes=b.take (v.hd+v.rest.length):=by
 obtain⟨t,rfl⟩:=qew.1 hb;have h340:=qlt h;have hlen:=qhe h;have hB:=qcp h;have hput:=ansG_put [byte (16*v.ty+v.low)] v.rest.length (by omega);have hlf:lenB v.rest.length=lenF 3 v.rest.length:=qlf (by omega);have e:v.bytes++t=([byte (16*v.ty+v.low)]++lenF 3 v.rest.length)++(v.rest++t):=by rw[hB,hlf];simp
 have hl1:1≤(v.bytes++t).length:=by rw[List.length_append,hlen];unfold Pv.hd;omega
 have hE:getE (v.bytes++t) 1=((v.rest.length:Int),((1+(lenF 3 v.rest.length).length:Nat):Int),0):=by
  unfold getE;rw[if_pos ⟨by omega,by omega⟩,e];have:=ansG_ext ([byte (16*v.ty+v.low)]++lenF 3 v.rest.length) (v.rest++t) 1 4 (by omega) (by
   show ansG ([byte (16*v.ty+v.low)]++lenF 3 v.rest.length) [byte (16*v.ty+v.low)].length 4≠_;rw[hput];simp)
  rw[show ((1:Int)).toNat=1 from rfl,this];exact hput
 have hbt:bt (v.bytes++t) 0=v.fst:=by rw[e];rfl
 have hhd:v.hd=1+(lenF 3 v.rest.length).length:=by unfold Pv.hd;rw[hlf]
 refine⟨?_,hbt,?_,?_⟩
 ·unfold headE;rw[hE,hbt];rw[if_neg (by omega),if_neg (by rw[(back h).2.2];simp),if_neg (by simp),if_neg (by simp;omega),if_neg (by rw[List.length_append,hlen,hhd];simp;omega)];rw[hhd];simp;omega
 ·rw[e,hhd];rw[List.drop_append_of_le_length (by simp;omega)];rw[show ([byte (16*v.ty+v.low)]++lenF 3 v.rest.length).drop (1+(lenF 3 v.rest.length).length) = [] from List.drop_of_length_le (by simp;omega)];simp
 ·rw[←hlen];simp
theorem qlc {v:Pv} {b:List UInt8} (h:v.ok=true) (hb:qeg b v.bytes=true):getP b=(v,(v.bytes.length:Int),0):=by
 obtain⟨h1,h2,h3,h4⟩:=qoz h hb;obtain⟨⟨q,hq⟩,_,_⟩:=back h;unfold getP;rw[h1];simp only[h2,h3,hq,h,hb,and_self,if_true]
theorem getS_good {v:Pv} {b:List UInt8} (h:v.ok=true) (hb:qeg b v.bytes=true):getS b=(v,(v.bytes.length:Int),0):=by
 obtain⟨h1,h2,h3,h4⟩:=qoz h hb;obtain⟨_,hq,_⟩:=back h;unfold getS;rw[h1];simp only[h2,h3,hq,h,←h4,and_self,if_true,qhe h]
theorem getP_eq (b:List UInt8):getS b=getP b:=by
 cases hh:headE b with
 |inl c=>unfold getS getP;rw[hh]
 |inr nk=>
  obtain⟨n,k⟩:=nk
  by_cases g:∃v:Pv,v.ok=true∧qeg b v.bytes=true
  ·obtain⟨v,h1,h2⟩:=g;rw[qlc h1 h2,getS_good h1 h2]
  ·unfold getS getP;rw[hh];simp only;rw[if_neg (fun e=>g ⟨_,e.1,qew.2 ⟨b.drop (k+n),by rw[e.2,List.take_append_drop]⟩⟩),if_neg (fun e=>g ⟨_,e.2.1,e.2.2⟩)]
theorem headE_ne {b:List UInt8} {c:Int} (h:headE b=.inl c):c≠0:=by
 unfold headE at h
 repeat' split at h
 all_goals first | (cases h;done) | (simp only[Sum.inl.injEq] at h;subst h;first | decide | assumption)
theorem quw {b:List UInt8} {v:Pv} {n:Int} (h:getP b=(v,n,0)):v.ok=true∧qeg b v.bytes=true∧n=v.bytes.length:=by
 unfold getP at h;cases hh:headE b with
 |inl c=>
  rw[hh] at h;simp only[Prod.mk.injEq] at h;exact absurd h.2.2 (headE_ne hh)
 |inr nk=>
  obtain⟨n',k⟩:=nk;rw[hh] at h;simp only at h
  split at h
  ·rename_i g
   simp only[Prod.mk.injEq] at h;obtain⟨rfl,rfl,_⟩:=h;exact⟨g.2.1,g.2.2,rfl⟩
  ·simp only[Prod.mk.injEq] at h;exact absurd h.2.2 (by decide)
theorem ansG_code (l:List UInt8) (p:Nat):∀f,(ansG l p f).2.2=0∨(ansG l p f).2.2=1∨(ansG l p f).2.2=2:=by
 intro f
 induction f with
 |zero=>exact .inr (.inr rfl)
 |succ f ih=>
  unfold ansG
  split
  ·exact .inr (.inl rfl)
  ·split
   ·split
    ·exact .inr (.inr rfl)
    ·exact .inl rfl
   ·exact ih
theorem headE_12 {b:List UInt8} {c:Int} (h:headE b=.inl c):c=1∨c=2:=by
 unfold headE at h
 repeat' split at h
 all_goals first | (cases h;done) | (simp only[Sum.inl.injEq] at h;subst h;first | decide | skip)
 rename_i g1 g2
 have hc:(getE b 1).2.2=0∨(getE b 1).2.2=1∨(getE b 1).2.2=2:=by
  unfold getE
  split
  ·exact ansG_code b _ 4
  ·exact .inr (.inr rfl)
 omega
theorem qob {b:List UInt8} {v:Pv} {n c:Int} (h:getP b=(v,n,c)) (hc:c≠0):v=Pv.zero∧n=0∧(c=1∨c=2):=by
 unfold getP at h;cases hh:headE b with
 |inl c'=>
  rw[hh] at h;simp only[Prod.mk.injEq] at h;obtain⟨rfl,rfl,rfl⟩:=h;exact⟨rfl,rfl,headE_12 hh⟩
 |inr nk=>
  obtain⟨n',k⟩:=nk;rw[hh] at h;simp only at h
  split at h
  ·simp only[Prod.mk.injEq] at h;exact absurd h.2.2.symm hc
  ·simp only[Prod.mk.injEq] at h;obtain⟨rfl,rfl,rfl⟩:=h;exact⟨rfl,rfl,.inr rfl⟩

theorem qig {l:List UInt8} {p k:Nat} {x:ByteArray} (h:gT l p=some (x,k)):x.size≤61:=by
 unfold gT getT at h;cases e:getL l (p:Int) with
 |none=>rw[e] at h;cases h
 |some y=>
  obtain⟨y,q⟩:=y;obtain⟨_,m,_,_,_,h60,_,_,_,hy⟩:=qfk e;rw[e] at h;simp only at h
  split at h
  ·rename_i z2 h2
   split at h2
   ·simp only[Option.some.injEq,Prod.mk.injEq] at h h2;obtain⟨rfl,rfl⟩:=h2;rw[←h.1];show y.toArray.size≤61;simp;omega
   ·cases h2
  ·cases h
theorem qin (l:List UInt8) (p:Nat) (e:Bool):(rd gT ByteArray.empty l (p,e)).1.size≤61:=by
 cases h:gT l p with
 |none=>rw[rd_no h];exact Nat.zero_le _
 |some xk=>obtain⟨x,k⟩:=xk;rw[qcs h];exact qig h
theorem gL_len {l x:List UInt8} {p k:Nat} (h:gL l p=some (x,k)):x.length≤60:=by
 obtain⟨_,m,_,_,_,h60,_,_,_,hy⟩:=qfk h;omega
theorem qpy (l:List UInt8) (p:Nat) (e:Bool):(rd gL [] l (p,e)).1.length≤60:=by
 cases h:gL l p with
 |none=>rw[rd_no h];simp
 |some xk=>obtain⟨x,k⟩:=xk;rw[qcs h];exact gL_len h
theorem rd_le {α:Type} (g:List UInt8→Nat→Option (α×Nat)) (hg:∀l p x k,g l p=some (x,k)→k≤l.length) (d:α) (l:List UInt8) (s:Nat×Bool):(rd g d l s).2.1≤l.length:=by
 unfold rd;cases h:g l s.1 with
 |none=>exact Nat.le_refl _
 |some xk=>obtain⟨x,k⟩:=xk;exact hg l s.1 x k h
theorem le_T:∀l p x k,gT l p=some (x,k)→k≤l.length:=fun l p x k h=>(onw_T l p x k h).2
theorem le_W:∀l p x k,gW l p=some (x,k)→k≤l.length:=by
 intro l p x k h;unfold gW at h
 split at h
 ·simp only[Option.some.injEq,Prod.mk.injEq] at h;omega
 ·cases h
theorem gB_lt {l:List UInt8} {p k:Nat} {x:Int} (h:gB l p=some (x,k)):0≤x∧x<256:=by
 unfold gB at h
 split at h
 ·simp only[Option.some.injEq,Prod.mk.injEq] at h;have:=bt_lt l p;omega
 ·cases h
theorem rdB_lt (l:List UInt8) (s:Nat×Bool):0≤(rd gB 0 l s).1∧(rd gB 0 l s).1<256:=by
 unfold rd;cases h:gB l s.1 with
 |none=>simp
 |some xk=>obtain⟨x,k⟩:=xk;exact gB_lt h
def RtOut (w0 y:World) (q r b:Nat) (ao:Option Addr) (n cap:Nat) (v:Pv×Nat×Bool):Prop:=∃p d,Rt w0 y q r b ao n cap v.2.1 v.2.2 p d∧v.1=pv p d
theorem RtOut.mk {w0 y:World} {q r b:Nat} {ao:Option Addr} {n cap z:Nat} {e:Bool} {p:Pk} {d:Pd} {v:Pv×Nat×Bool} (s:Rt w0 y q r b ao n cap z e p d) (h:v=(pv p d,z,e)):RtOut w0 y q r b ao n cap v:=by
 subst h;exact⟨p,d,s,rfl⟩
theorem le_B:∀l p x k,gB l p=some (x,k)→k≤l.length:=fun l p x k h=>(onw_B l p x k h).2
theorem le_L:∀l p x k,gL l p=some (x,k)→k≤l.length:=by
 intro l p x k h;obtain⟨p',m,e1,e2,e3,e4,e5,e6,e7,e8⟩:=qfk h;omega
theorem le_R:∀l p x k,gR l p=some (x,k)→k≤l.length:=by
 intro l p x k h;unfold gR at h;simp only[Option.some.injEq,Prod.mk.injEq] at h;omega
theorem rdR_len (l:List UInt8) (p:Nat) (e:Bool) (h:l.length≤1048576):(rd gR [] l (p,e)).1.length≤1048576:=by
 show (l.drop p).length≤_;rw[List.length_drop];omega
theorem read_pub (w0 y:World) (q r b:Nat) (ao:Option Addr) (n cap:Nat) (l:List UInt8) (p:Pk) (d:Pd) (s:Rt w0 y q r b ao n cap 0 false p d) (hr:RdIn w0 ao n cap l) (hn:n≤1048576) :
  Calls Tryz.prog 153 #[.pointer (some ⟨q,0,none⟩),.pointer (some ⟨b,0,none⟩)] y fun e' y'=>e'=.returned (.tuple #[])∧RtOut w0 y' q r b ao n cap (iPub l (pv p d)):=by
 have HR:Hid (RdIn w0 ao n cap l):=hr;have hl:=hr.1.1;clear hr;go_enter Tryz.func153,Tryz.ntmps153;go_wp2_with fail
 refine (qdn q ao n cap _ _ l _ s.rdr (HR.out.below s.gro) hn).mono ?_;rintro er y1 ⟨rfl,R1,g1⟩;have hz1:=rd_le gT le_T ByteArray.empty l (0,false);have hs1:=qin l 0 false;generalize hk1:rd gT ByteArray.empty l (0,false)=k1 at *;obtain⟨x1,z1,e1⟩:=k1;have H1:Hid (rd gT ByteArray.empty l (0,false)=(x1,z1,e1)):=hk1;clear hk1;simp only at R1 hz1 hs1 ⊢;replace s:=s.read R1 g1;clear R1 g1;have c5:=(s.blk.cell 5).trans (Pk.c5 _);have f5:=Lib.frozen_of_heap s.blk 5;replace s:=s.s5 x1 hs1;have c2_:=(s.blk.cell 2).trans (Pk.c2 _)
 by_cases hq:0<p.qos
 ·go_wp2_with fail
  refine (qed q ao n cap _ _ l _ s.rdr (HR.out.below s.gro) hn).mono ?_;rintro er y2 ⟨rfl,R2,g2⟩;have hz2:=rd_le gW le_W 0 l (z1,e1);generalize hk2:rd gW 0 l (z1,e1)=k2 at *;obtain⟨x2,z2,e2⟩:=k2;have H2:Hid (rd gW 0 l (z1,e1)=(x2,z2,e2)):=hk2;clear hk2;simp only at R2 hz2 ⊢;replace s:=s.read R2 g2;clear R2 g2;have c4:=(s.blk.cell 4).trans (Pk.c4 _);have f4:=Lib.frozen_of_heap s.blk 4;replace s:=s.s4 x2;go_wp2_with fail
  refine (qnj q ao n cap _ _ l _ s.rdr (HR.out.below s.gro) hn (by omega)).mono ?_;rintro er y3 ⟨a3,c3,rfl,O3,R3,g3⟩;have hz3:=rd_le gR le_R [] l (z2,e2);have hs3:(rd gR [] l (z2,e2)).1.length≤1048576:=rdR_len l z2 e2 (by omega);generalize hk3:rd gR [] l (z2,e2)=k3 at *;obtain⟨x3,z3,e3⟩:=k3;have H3:Hid (rd gR [] l (z2,e2)=(x3,z3,e3)):=hk3;clear hk3;simp only at O3 R3 hz3 hs3 ⊢;have s_:=s.read R3 g3;have c6:=(s_.blk.cell 6).trans (Pk.c6 _);have f6:=Lib.frozen_of_heap s_.blk 6;replace s:=s.n6 R3 g3 O3 (by omega);clear R3 g3 O3 s_;go_wp2
  go_end0
  refine⟨rfl,RtOut.mk s ?_⟩;unfold iPub;simp only[H1.out];rw[if_pos (show 0<(pv p d).qos from hq)];simp only[H2.out,H3.out];rfl
 ·go_wp2_with fail
  refine (qnj q ao n cap _ _ l _ s.rdr (HR.out.below s.gro) hn (by omega)).mono ?_;rintro er y2 ⟨a2,c2,rfl,O2,R2,g2⟩;have hz2:=rd_le gR le_R [] l (z1,e1);have hs2:(rd gR [] l (z1,e1)).1.length≤1048576:=rdR_len l z1 e1 (by omega);generalize hk2:rd gR [] l (z1,e1)=k2 at *;obtain⟨x2,z2,e2⟩:=k2;have H2:Hid (rd gR [] l (z1,e1)=(x2,z2,e2)):=hk2;clear hk2;simp only at O2 R2 hz2 hs2 ⊢;have s_:=s.read R2 g2;have c6:=(s_.blk.cell 6).trans (Pk.c6 _);have f6:=Lib.frozen_of_heap s_.blk 6;replace s:=s.n6 R2 g2 O2 (by omega);clear R2 g2 O2 s_;go_wp2
  go_end0
  refine⟨rfl,RtOut.mk s ?_⟩;unfold iPub;simp only[H1.out];rw[if_neg (show ¬0<(pv p d).qos from by show ¬0<p.qos;omega)];simp only[H2.out];rfl
theorem fl_bits2 (x:Int) (h0:0≤x) (h1:x<256):(bits BinOp.and IntKind.i64 x 2 != 0)=fl x 2:=by
 have h:∀y:Fin 256,(bits BinOp.and IntKind.i64 (y.val:Int) 2 != 0)=fl y.val 2:=by decide +kernel
 obtain⟨k,rfl⟩:=Int.eq_ofNat_of_zero_le h0;exact h ⟨k,by omega⟩
theorem fl_bits4 (x:Int) (h0:0≤x) (h1:x<256):(bits BinOp.and IntKind.i64 x 4 != 0)=fl x 4:=by
 have h:∀y:Fin 256,(bits BinOp.and IntKind.i64 (y.val:Int) 4 != 0)=fl y.val 4:=by decide +kernel
 obtain⟨k,rfl⟩:=Int.eq_ofNat_of_zero_le h0;exact h ⟨k,by omega⟩
theorem fl_bits32 (x:Int) (h0:0≤x) (h1:x<256):(bits BinOp.and IntKind.i64 x 32 != 0)=fl x 32:=by
 have h:∀y:Fin 256,(bits BinOp.and IntKind.i64 (y.val:Int) 32 != 0)=fl y.val 32:=by decide +kernel
 obtain⟨k,rfl⟩:=Int.eq_ofNat_of_zero_le h0;exact h ⟨k,by omega⟩
theorem fl_bits128 (x:Int) (h0:0≤x) (h1:x<256):(bits BinOp.and IntKind.i64 x 128 != 0)=fl x 128:=by
 have h:∀y:Fin 256,(bits BinOp.and IntKind.i64 (y.val:Int) 128 != 0)=fl y.val 128:=by decide +kernel
 obtain⟨k,rfl⟩:=Int.eq_ofNat_of_zero_le h0;exact h ⟨k,by omega⟩
theorem fl_bits64 (x:Int) (h0:0≤x) (h1:x<256):(bits BinOp.and IntKind.i64 x 64 != 0)=fl x 64:=by
 have h:∀y:Fin 256,(bits BinOp.and IntKind.i64 (y.val:Int) 64 != 0)=fl y.val 64:=by decide +kernel
 obtain⟨k,rfl⟩:=Int.eq_ofNat_of_zero_le h0;exact h ⟨k,by omega⟩
theorem fl_24 (x:Int) (h0:0≤x) (h1:x<256):wrap64 ((bits BinOp.and IntKind.i64 x 24).tdiv 8)=x / 8%4:=by
 have h:∀y:Fin 256,wrap64 ((bits BinOp.and IntKind.i64 (y.val:Int) 24).tdiv 8)=(y.val:Int) / 8%4:=by decide +kernel
 obtain⟨k,rfl⟩:=Int.eq_ofNat_of_zero_le h0;exact h ⟨k,by omega⟩
theorem read_con (w0 y:World) (q r b:Nat) (ao:Option Addr) (n cap:Nat) (l:List UInt8) (p:Pk) (d:Pd) (s:Rt w0 y q r b ao n cap 0 false p d) (hr:RdIn w0 ao n cap l) (hn:n≤1048576) :
  Calls Tryz.prog 150 #[.pointer (some ⟨q,0,none⟩),.pointer (some ⟨b,0,none⟩)] y fun e' y'=>e'=.returned (.tuple #[])∧RtOut w0 y' q r b ao n cap (iCon l (pv p d)):=by
 have HR:Hid (RdIn w0 ao n cap l):=hr;have hl:=hr.1.1;clear hr;go_enter Tryz.func150,Tryz.ntmps150;go_wp2_with fail
 refine (qdn q ao n cap _ _ l _ s.rdr (HR.out.below s.gro) hn).mono ?_;rintro er y1 ⟨rfl,R1,g1⟩;have hz1:=rd_le gT le_T ByteArray.empty l (0,false);have hs1:=qin l 0 false;generalize hk1:rd gT ByteArray.empty l (0,false)=k1 at *;obtain⟨x1,z1,e1⟩:=k1;have H1:Hid (rd gT ByteArray.empty l (0,false)=(x1,z1,e1)):=hk1;clear hk1;simp only at R1 hz1 hs1 ⊢;replace s:=s.read R1 g1;clear R1 g1;go_wp2_with fail
 refine (qfo q ao n cap _ _ l _ s.rdr (HR.out.below s.gro) hn).mono ?_;rintro er y2 ⟨rfl,R2,g2⟩;have hz2:=rd_le gB le_B 0 l (z1,e1);have hs2:=rdB_lt l (z1,e1);generalize hk2:rd gB 0 l (z1,e1)=k2 at *;obtain⟨x2,z2,e2⟩:=k2;have H2:Hid (rd gB 0 l (z1,e1)=(x2,z2,e2)):=hk2;clear hk2;simp only at R2 hz2 hs2 ⊢;replace s:=s.read R2 g2;clear R2 g2;have c8:=(s.blk.cell 8).trans (Pk.c8 _);have f8:=Lib.frozen_of_heap s.blk 8;replace s:=s.s8 x2;go_wp2_with fail
 refine (qfo q ao n cap _ _ l _ s.rdr (HR.out.below s.gro) hn).mono ?_;rintro er y3 ⟨rfl,R3,g3⟩;have hz3:=rd_le gB le_B 0 l (z2,e2);have hs3:=rdB_lt l (z2,e2);generalize hk3:rd gB 0 l (z2,e2)=k3 at *;obtain⟨x3,z3,e3⟩:=k3;have H3:Hid (rd gB 0 l (z2,e2)=(x3,z3,e3)):=hk3;clear hk3;simp only at R3 hz3 hs3 ⊢;replace s:=s.read R3 g3;clear R3 g3;obtain⟨hx3a,hx3b⟩:=hs3;obtain⟨f2,hf2⟩ : ∃f,(bits BinOp.and IntKind.i64 x3 2 != 0)=f:=⟨_,rfl⟩;have F2:Hid (fl x3 2=f2):=by unfold Hid;rw[←hf2];exact (fl_bits2 x3 hx3a hx3b).symm
 obtain⟨f4,hf4⟩ : ∃f,(bits BinOp.and IntKind.i64 x3 4 != 0)=f:=⟨_,rfl⟩;have F4:Hid (fl x3 4=f4):=by unfold Hid;rw[←hf4];exact (fl_bits4 x3 hx3a hx3b).symm
 obtain⟨f32,hf32⟩ : ∃f,(bits BinOp.and IntKind.i64 x3 32 != 0)=f:=⟨_,rfl⟩;have F32:Hid (fl x3 32=f32):=by unfold Hid;rw[←hf32];exact (fl_bits32 x3 hx3a hx3b).symm
 obtain⟨f128,hf128⟩ : ∃f,(bits BinOp.and IntKind.i64 x3 128 != 0)=f:=⟨_,rfl⟩;have F128:Hid (fl x3 128=f128):=by unfold Hid;rw[←hf128];exact (fl_bits128 x3 hx3a hx3b).symm
 obtain⟨f64,hf64⟩ : ∃f,(bits BinOp.and IntKind.i64 x3 64 != 0)=f:=⟨_,rfl⟩;have F64:Hid (fl x3 64=f64):=by unfold Hid;rw[←hf64];exact (fl_bits64 x3 hx3a hx3b).symm
 obtain⟨v24,hv24⟩ : ∃v,bits BinOp.and IntKind.i64 x3 24=v:=⟨_,rfl⟩;have V24:Hid (x3 / 8%4=wrap64 (v24.tdiv 8)):=by unfold Hid;rw[←hv24];exact (fl_24 x3 hx3a hx3b).symm
 clear hx3a hx3b;have c9:=(s.blk.cell 9).trans (Pk.c9 _);have f9:=Lib.frozen_of_heap s.blk 9;have c11:=(s.blk.cell 11).trans (Pk.c11 _);have f11:=Lib.frozen_of_heap s.blk 11;have c15:=(s.blk.cell 15).trans (Pk.c15 _);have f15:=Lib.frozen_of_heap s.blk 15
 go_upto_region 4 with fail
 replace s:=s.s9 f2;replace s:=s.s11 f4;replace s:=s.s15 f32;have c16:=(s.blk.cell 16).trans (Pk.c16 _);have f16:=Lib.frozen_of_heap s.blk 16;have c18:=(s.blk.cell 18).trans (Pk.c18 _);have f18:=Lib.frozen_of_heap s.blk 18
 go_upto_region 5 with fail
 replace s:=s.s16 f128;replace s:=s.s18 f64;have c14:=(s.blk.cell 14).trans (Pk.c14 _);have f14:=Lib.frozen_of_heap s.blk 14
 go_upto_region 6 with fail
 replace s:=s.s14 (wrap64 (v24.tdiv 8));clear hf2 hf4 hf32 hf128 hf64 hv24;go_wp2_with fail
 refine (qed q ao n cap _ _ l _ s.rdr (HR.out.below s.gro) hn).mono ?_;rintro er y4 ⟨rfl,R4,g4⟩;have hz4:=rd_le gW le_W 0 l (z3,e3);generalize hk4:rd gW 0 l (z3,e3)=k4 at *;obtain⟨x4,z4,e4⟩:=k4;have H4:Hid (rd gW 0 l (z3,e3)=(x4,z4,e4)):=hk4;clear hk4;simp only at R4 hz4 ⊢;replace s:=s.read R4 g4;clear R4 g4;have c10:=(s.blk.cell 10).trans (Pk.c10 _);have f10:=Lib.frozen_of_heap s.blk 10;replace s:=s.s10 x4;go_wp2_with fail
 refine (qdn q ao n cap _ _ l _ s.rdr (HR.out.below s.gro) hn).mono ?_;rintro er y5 ⟨rfl,R5,g5⟩;have hz5:=rd_le gT le_T ByteArray.empty l (z4,e4);have hs5:=qin l z4 e4;generalize hk5:rd gT ByteArray.empty l (z4,e4)=k5 at *;obtain⟨x5,z5,e5⟩:=k5;have H5:Hid (rd gT ByteArray.empty l (z4,e4)=(x5,z5,e5)):=hk5;clear hk5;simp only at R5 hz5 hs5 ⊢;replace s:=s.read R5 g5;clear R5 g5;have c7:=(s.blk.cell 7).trans (Pk.c7 _);have f7:=Lib.frozen_of_heap s.blk 7;replace s:=s.s7 x5 hs5;have c11_:=(s.blk.cell 11).trans (Pk.c11 _);cases f4 with
 |true=>
  go_wp2_with fail
  refine (qdn q ao n cap _ _ l _ s.rdr (HR.out.below s.gro) hn).mono ?_;rintro er y6 ⟨rfl,R6,g6⟩;have hz6:=rd_le gT le_T ByteArray.empty l (z5,e5);have hs6:=qin l z5 e5;generalize hk6:rd gT ByteArray.empty l (z5,e5)=k6 at *;obtain⟨x6,z6,e6⟩:=k6;have H6:Hid (rd gT ByteArray.empty l (z5,e5)=(x6,z6,e6)):=hk6;clear hk6;simp only at R6 hz6 hs6 ⊢;replace s:=s.read R6 g6;clear R6 g6;have c12:=(s.blk.cell 12).trans (Pk.c12 _);have f12:=Lib.frozen_of_heap s.blk 12;replace s:=s.s12 x6 hs6;go_wp2_with fail
  refine (qeo q ao n cap _ _ l _ s.rdr (HR.out.below s.gro) hn).mono ?_;rintro er y7 ⟨a7,c7,rfl,O7,R7,g7⟩;have hz7:=rd_le gL le_L [] l (z6,e6);have hs7:=qpy l z6 e6;generalize hk7:rd gL [] l (z6,e6)=k7 at *;obtain⟨x7,z7,e7⟩:=k7;have H7:Hid (rd gL [] l (z6,e6)=(x7,z7,e7)):=hk7;clear hk7;simp only at O7 R7 hz7 hs7 ⊢;have s_:=s.read R7 g7;have c13:=(s_.blk.cell 13).trans (Pk.c13 _);have f13:=Lib.frozen_of_heap s_.blk 13;replace s:=s.n13 R7 g7 O7 (by omega);clear R7 g7 O7 s_;have c16_:=(s.blk.cell 16).trans (Pk.c16 _);cases f128 with
  |true=>
   go_wp2_with fail
   refine (qdn q ao n cap _ _ l _ s.rdr (HR.out.below s.gro) hn).mono ?_;rintro er y8 ⟨rfl,R8,g8⟩;have hz8:=rd_le gT le_T ByteArray.empty l (z7,e7);have hs8:=qin l z7 e7;generalize hk8:rd gT ByteArray.empty l (z7,e7)=k8 at *;obtain⟨x8,z8,e8⟩:=k8;have H8:Hid (rd gT ByteArray.empty l (z7,e7)=(x8,z8,e8)):=hk8;clear hk8;simp only at R8 hz8 hs8 ⊢;replace s:=s.read R8 g8;clear R8 g8;have c17:=(s.blk.cell 17).trans (Pk.c17 _);have f17:=Lib.frozen_of_heap s.blk 17;replace s:=s.s17 x8 hs8;have c18_:=(s.blk.cell 18).trans (Pk.c18 _);cases f64 with
   |true=>
    go_wp2_with fail
    refine (qeo q ao n cap _ _ l _ s.rdr (HR.out.below s.gro) hn).mono ?_;rintro er y9 ⟨a9,c9,rfl,O9,R9,g9⟩;have hz9:=rd_le gL le_L [] l (z8,e8);have hs9:=qpy l z8 e8;generalize hk9:rd gL [] l (z8,e8)=k9 at *;obtain⟨x9,z9,e9⟩:=k9;have H9:Hid (rd gL [] l (z8,e8)=(x9,z9,e9)):=hk9;clear hk9;simp only at O9 R9 hz9 hs9 ⊢;have s_:=s.read R9 g9;have c19:=(s_.blk.cell 19).trans (Pk.c19 _);have f19:=Lib.frozen_of_heap s_.blk 19;replace s:=s.n19 R9 g9 O9 (by omega);clear R9 g9 O9 s_;go_wp2
    go_end0
    refine⟨rfl,RtOut.mk s ?_⟩;unfold iCon;simp only[H1.out,H2.out,H3.out,H4.out,H5.out,H6.out,H7.out,H8.out,H9.out,F2.out,F4.out,F32.out,F128.out,F64.out,V24.out];simp only[H1.out,H2.out,H3.out,H4.out,H5.out,H6.out,H7.out,H8.out,H9.out,if_true,Bool.false_eq_true,if_false];rfl
   |false=>
    go_wp2
    go_end0
    refine⟨rfl,RtOut.mk s ?_⟩;unfold iCon;simp only[H1.out,H2.out,H3.out,H4.out,H5.out,H6.out,H7.out,H8.out,F2.out,F4.out,F32.out,F128.out,F64.out,V24.out];simp only[H1.out,H2.out,H3.out,H4.out,H5.out,H6.out,H7.out,H8.out,if_true,Bool.false_eq_true,if_false];rfl
  |false=>
   have c18_:=(s.blk.cell 18).trans (Pk.c18 _);cases f64 with
   |true=>
    go_wp2_with fail
    refine (qeo q ao n cap _ _ l _ s.rdr (HR.out.below s.gro) hn).mono ?_;rintro er y8 ⟨a8,c8,rfl,O8,R8,g8⟩;have hz8:=rd_le gL le_L [] l (z7,e7);have hs8:=qpy l z7 e7;generalize hk8:rd gL [] l (z7,e7)=k8 at *;obtain⟨x8,z8,e8⟩:=k8;have H8:Hid (rd gL [] l (z7,e7)=(x8,z8,e8)):=hk8;clear hk8;simp only at O8 R8 hz8 hs8 ⊢;have s_:=s.read R8 g8;have c19:=(s_.blk.cell 19).trans (Pk.c19 _);have f19:=Lib.frozen_of_heap s_.blk 19;replace s:=s.n19 R8 g8 O8 (by omega);clear R8 g8 O8 s_;go_wp2
    go_end0
    refine⟨rfl,RtOut.mk s ?_⟩;unfold iCon;simp only[H1.out,H2.out,H3.out,H4.out,H5.out,H6.out,H7.out,H8.out,F2.out,F4.out,F32.out,F128.out,F64.out,V24.out];simp only[H1.out,H2.out,H3.out,H4.out,H5.out,H6.out,H7.out,H8.out,if_true,Bool.false_eq_true,if_false];rfl
   |false=>
    go_wp2
    go_end0
    refine⟨rfl,RtOut.mk s ?_⟩;unfold iCon;simp only[H1.out,H2.out,H3.out,H4.out,H5.out,H6.out,H7.out,F2.out,F4.out,F32.out,F128.out,F64.out,V24.out];simp only[H1.out,H2.out,H3.out,H4.out,H5.out,H6.out,H7.out,if_true,Bool.false_eq_true,if_false];rfl
 |false=>
  have c16_:=(s.blk.cell 16).trans (Pk.c16 _);cases f128 with
  |true=>
   go_wp2_with fail
   refine (qdn q ao n cap _ _ l _ s.rdr (HR.out.below s.gro) hn).mono ?_;rintro er y6 ⟨rfl,R6,g6⟩;have hz6:=rd_le gT le_T ByteArray.empty l (z5,e5);have hs6:=qin l z5 e5;generalize hk6:rd gT ByteArray.empty l (z5,e5)=k6 at *;obtain⟨x6,z6,e6⟩:=k6;have H6:Hid (rd gT ByteArray.empty l (z5,e5)=(x6,z6,e6)):=hk6;clear hk6;simp only at R6 hz6 hs6 ⊢;replace s:=s.read R6 g6;clear R6 g6;have c17:=(s.blk.cell 17).trans (Pk.c17 _);have f17:=Lib.frozen_of_heap s.blk 17;replace s:=s.s17 x6 hs6;have c18_:=(s.blk.cell 18).trans (Pk.c18 _);cases f64 with
   |true=>
    go_wp2_with fail
    refine (qeo q ao n cap _ _ l _ s.rdr (HR.out.below s.gro) hn).mono ?_;rintro er y7 ⟨a7,c7,rfl,O7,R7,g7⟩;have hz7:=rd_le gL le_L [] l (z6,e6);have hs7:=qpy l z6 e6;generalize hk7:rd gL [] l (z6,e6)=k7 at *;obtain⟨x7,z7,e7⟩:=k7;have H7:Hid (rd gL [] l (z6,e6)=(x7,z7,e7)):=hk7;clear hk7;simp only at O7 R7 hz7 hs7 ⊢;have s_:=s.read R7 g7;have c19:=(s_.blk.cell 19).trans (Pk.c19 _);have f19:=Lib.frozen_of_heap s_.blk 19;replace s:=s.n19 R7 g7 O7 (by omega);clear R7 g7 O7 s_;go_wp2
    go_end0
    refine⟨rfl,RtOut.mk s ?_⟩;unfold iCon;simp only[H1.out,H2.out,H3.out,H4.out,H5.out,H6.out,H7.out,F2.out,F4.out,F32.out,F128.out,F64.out,V24.out];simp only[H1.out,H2.out,H3.out,H4.out,H5.out,H6.out,H7.out,if_true,Bool.false_eq_true,if_false];rfl
   |false=>
    go_wp2
    go_end0
    refine⟨rfl,RtOut.mk s ?_⟩;unfold iCon;simp only[H1.out,H2.out,H3.out,H4.out,H5.out,H6.out,F2.out,F4.out,F32.out,F128.out,F64.out,V24.out];simp only[H1.out,H2.out,H3.out,H4.out,H5.out,H6.out,if_true,Bool.false_eq_true,if_false];rfl
  |false=>
   have c18_:=(s.blk.cell 18).trans (Pk.c18 _);cases f64 with
   |true=>
    go_wp2_with fail
    refine (qeo q ao n cap _ _ l _ s.rdr (HR.out.below s.gro) hn).mono ?_;rintro er y6 ⟨a6,c6,rfl,O6,R6,g6⟩;have hz6:=rd_le gL le_L [] l (z5,e5);have hs6:=qpy l z5 e5;generalize hk6:rd gL [] l (z5,e5)=k6 at *;obtain⟨x6,z6,e6⟩:=k6;have H6:Hid (rd gL [] l (z5,e5)=(x6,z6,e6)):=hk6;clear hk6;simp only at O6 R6 hz6 hs6 ⊢;have s_:=s.read R6 g6;have c19:=(s_.blk.cell 19).trans (Pk.c19 _);have f19:=Lib.frozen_of_heap s_.blk 19;replace s:=s.n19 R6 g6 O6 (by omega);clear R6 g6 O6 s_;go_wp2
    go_end0
    refine⟨rfl,RtOut.mk s ?_⟩;unfold iCon;simp only[H1.out,H2.out,H3.out,H4.out,H5.out,H6.out,F2.out,F4.out,F32.out,F128.out,F64.out,V24.out];simp only[H1.out,H2.out,H3.out,H4.out,H5.out,H6.out,if_true,Bool.false_eq_true,if_false];rfl
   |false=>
    go_wp2
    go_end0
    refine⟨rfl,RtOut.mk s ?_⟩;unfold iCon;simp only[H1.out,H2.out,H3.out,H4.out,H5.out,F2.out,F4.out,F32.out,F128.out,F64.out,V24.out];simp only[H1.out,H2.out,H3.out,H4.out,H5.out,if_true,Bool.false_eq_true,if_false];rfl

def dnil:Pd:=⟨[],[],[],[],[],[]⟩
def ofT (k:Int):Pk:={ Pk.zero with ty:=k }
theorem al2_old (w:World) (A C:Obj):((w.alloc A).alloc C).heap[w.heap.size]? = some A:=(Below.heap_alloc _ _ _ (by simp)).trans (heap_alloc_new w A)
theorem al2_new (w:World) (A C:Obj):((w.alloc A).alloc C).heap[w.heap.size+1]? = some C:=by
 have e:=heap_alloc_new (w.alloc A) C;rw[show (w.alloc A).heap.size=w.heap.size+1 from by simp] at e;exact e
theorem qrw (yy:World) (zs:List Int) (N:Nat) (hN:yy.heap.size=N) (i:Nat) (h:i<zs.length):(yy.alloc (.cells (zs.map (Value.int .i64)).toArray 3)).cell? ⟨N,i,none⟩ = some (.int .i64 (zs.getD i 0)):=by
 subst hN;exact ints_cells yy zs 3 i h
theorem qiz (g:Nat) (ao:Option Addr) (n cap:Nat) (l:List UInt8) (k:Int) (w:World) (hc:Cur w g ao n cap l):St 64 w ((w.alloc (.cells Pk.zero.cells 28)).alloc (.cells (ofT k).cells 28)) g w.heap.size (w.heap.size+1) ao n cap l (ofT k) dnil :=
 ⟨(hc.alloc _).alloc _,al2_new _ _ _,al2_old _ _ _,⟨⟨rfl,World.ownsRow_nil _ _ _ _⟩,⟨rfl,World.ownsRow_nil _ _ _ _⟩,⟨rfl,World.ownsRow_nil _ _ _ _⟩,⟨rfl,World.ownsRow_nil _ _ _ _⟩,⟨rfl,World.ownsRow_nil _ _ _ _⟩,⟨rfl,World.ownsRow_nil _ _ _ _⟩,by simp[ofT,Pk.zero,Dis]⟩,
  qge (qge (World.grownBy.refl _ _) _) _,hc.lt,by omega,Nat.le_refl _,by omega,⟨Nat.zero_le _,Nat.zero_le _,Nat.zero_le _,Nat.zero_le _,Nat.zero_le _,Nat.zero_le _,Nat.zero_le _,Nat.zero_le _,Nat.zero_le _,Nat.zero_le _,fun x h=>(by cases h),fun x h=>(by cases h)⟩⟩
def names5:List ByteArray:=[⟨#[97,110,110]⟩,⟨#[98,111,98]⟩,⟨#[99,105,100]⟩,⟨#[100,111,116]⟩,⟨#[101,118,101]⟩]
theorem qvf:∀s∈names5,s.size≤61:=by decide +kernel
