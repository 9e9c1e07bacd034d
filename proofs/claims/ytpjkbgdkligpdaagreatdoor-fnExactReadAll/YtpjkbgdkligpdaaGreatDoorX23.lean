/- Lemmas. -/
import Derived.Test.YtpjkbgdkligpdaaGreatDoorX22
set_option linter.unusedVariables false
set_option linter.unusedSimpArgs false
set_option maxRecDepth 100000
set_option maxHeartbeats 20000000
namespace Go.Proofs.YtpjkbgdkligpdaaGreatDoor
open Go.RowKit

def Onw {α:Type} (g:List UInt8→Nat→Option (α×Nat)):Prop:=∀l p x k,g l p=some (x,k)→p<k∧k≤l.length
theorem onw_B:Onw gB:=by
 intro l p x k h;unfold gB at h
 split at h
 ·simp only[Option.some.injEq,Prod.mk.injEq] at h;omega
 ·cases h
theorem onw_T:Onw gT:=by
 intro l p x k h;unfold gT getT at h;cases e:getL l (p:Int) with
 |none=>rw[e] at h;cases h
 |some z=>
  obtain⟨y,q⟩:=z;obtain⟨p',m,e1,e2,e3,e4,e5,e6,e7,e8⟩:=qey e;rw[e] at h;simp only at h
  split at h
  ·rename_i z2 h2
   split at h2
   ·simp only[Option.some.injEq,Prod.mk.injEq] at h h2;omega
   ·cases h2
  ·cases h
theorem onw_N:Onw gN:=by
 intro l p x k h;unfold gN at h;cases e:gT l p with
 |none=>rw[e] at h;cases h
 |some z=>
  obtain⟨s,q⟩:=z;have h1:=onw_T l p s q e;rw[e] at h;simp only at h;cases e2:gB l q with
  |none=>rw[e2] at h;cases h
  |some y=>
   obtain⟨y,r⟩:=y;have h2:=onw_B l q y r e2;rw[e2] at h;simp only[Option.some.injEq,Prod.mk.injEq] at h;omega
theorem quh {α:Type} {g:List UInt8→Nat→Option (α×Nat)} (hg:Onw g) (d:α) (l:List UInt8) (p:Nat) (e:Bool) (hp:p<l.length):p<(rd g d l (p,e)).2.1∧(rd g d l (p,e)).2.1≤l.length:=by
 cases h:g l p with
 |none=>rw[rd_no h];exact⟨hp,Nat.le_refl _⟩
 |some xk=>
  obtain⟨x,k⟩:=xk;rw[qch h];exact hg l p x k h
theorem que {α:Type} {g:List UInt8→Nat→Option (α×Nat)} (d:α) (l:List UInt8) (f:Nat) (s:Nat×Bool) (h:¬s.1<l.length):rdL g d l f s=([],s):=by
 cases f with
 |zero=>rfl
 |succ f=>simp only[rdL];rw[if_neg h]
theorem qrf {α:Type} {g:List UInt8→Nat→Option (α×Nat)} (d:α) (l:List UInt8) (f p:Nat) (e:Bool) (h:p<l.length) (hf:l.length≤p+f):∃f',f=f'+1∧rdL g d l f (p,e)=((rd g d l (p,e)).1 :: (rdL g d l f' (rd g d l (p,e)).2).1,(rdL g d l f' (rd g d l (p,e)).2).2):=by
 cases f with
 |zero=>omega
 |succ f=>exact⟨f,rfl,by simp only[rdL];rw[if_pos h]⟩
theorem qnp {w0 y y':World} {g:Nat} {row:Option Nat} (h:w0.grownBy y (some g)) (hg:y.grownBy y' row) (hb:∀k,row=some k→w0.heap.size≤k):w0.grownBy y' (some g) :=
 ⟨hg.os.trans h.os,hg.tape.trans h.tape,hg.output.trans h.output,Nat.le_trans h.size hg.size,fun k hk hne=>(hg.block k (Nat.lt_of_lt_of_le hk h.size) (fun e=>by have:=hb k e.symm;omega)).trans (h.block k hk hne)⟩
def qjh (v:Value):Nat:=match v with
 |.slice _ n _=>n
 |_=>0
theorem w_wapp {ops:Array Oper} {rest:List Oper} {o:Oper} {a:Act} {Q:Exit→Act→World→Prop} (w:World) (hgd:o.guard=none) (s x:Operand)
  (ho:o.op=.call { callee:=.builtin .append,args:=#[s,x],argTypes:=#[24,24] })
  (B:Nat) (ao:Option Addr) (n cap:Nat) (zs:List (ByteArray×Int)) (hs:a.eval s=.slice ao n cap) (hown:WOwn w B ao n cap zs)
  (ad:Nat) (u:ByteArray×Int) (hx:a.eval x=.slice (some ⟨ad,0,none⟩) 1 1) (hc:w.cell? ⟨ad,0,none⟩ = some (.string u.1)) (hc':w.cell? ⟨ad,1,none⟩ = some (.int .i64 u.2)) (hb:n<1099511627776) (hB:B≤w.heap.size)
  (h:∀ao' cap' w',WOwn w' B ao' (n+1) cap' (zs++[u])→w.grownBy w' (Value.slice ao n cap).ownBlock→wpList Tryz.prog ops Q rest (a.put o.dst (.slice ao' (n+1) cap')) w') :
  wpList Tryz.prog ops Q (o :: rest) a w:=by
 obtain⟨i0,hi,hz0,hz1,hz2⟩:=info_parts infoW;have hlen:(zs++[u]).length=n+1:=by rw[List.length_append,hown.1];rfl
 refine wpList_append_own w hgd s x 24 ho B 88 i0 (.agg #[.string ByteArray.empty,.int .i64 0]) 2 24 Tryz.underlying24 hi hz0 hz1 hz2 rfl (by decide) (.slice ao n cap) n (wvals zs) hs hown.2 ⟨ad,0,none⟩ 1 1 (wvals [u]) hx rfl ?_ (qqh [u]) (by unfold maxLen;omega) (by omega) hB ?_
 ·intro j v hv
  match j,hv with
  |0,hv=>
   have e4:v=.string u.1:=by simpa[wvals] using hv.symm
   rw[e4];exact hc
  |1,hv=>
   have e4:v=.int .i64 u.2:=by simpa[wvals] using hv.symm
   rw[e4];exact hc'
 ·intro v' w' hv hg _;rw[qte] at hv;obtain⟨ao',cap',rfl,hown'⟩:=qtb hlen hv;exact h ao' cap' w' hown' hg
theorem qsh (q:Nat) (ao:Option Addr) (n cap p:Nat) (e:Bool) (l:List UInt8) (w:World) (hR:RB w q ao n cap p e) (hr:RdIn w ao n cap l) (hn:n≤1048576) (hp:p≤n) :
  Calls Tryz.prog 157 #[.pointer (some ⟨q,0,none⟩),.func (.func 152) #[] #[]] w fun e' w'=>∃a c,e'=.returned (.slice a (rdL gB 0 l n (p,e)).1.length c)∧IOwn w' w.heap.size a (rdL gB 0 l n (p,e)).1.length c (rdL gB 0 l n (p,e)).1∧RB w' q ao n cap (rdL gB 0 l n (p,e)).2.1 (rdL gB 0 l n (p,e)).2.2∧w.grownBy w' (some q):=by
 have hl:=hr.1.1;have hq:=hR.lt;have HRD:Hid (∀w',w.grownBy w' (some q)→RdIn w' ao n cap l):=fun w' hg=>qug hr hR hg
 clear hr;go_enter Tryz.func157,Tryz.ntmps157;go_wp2
 go_loopw [5] (fun v wr=>∃(a:Option Addr) (c:Nat) (ys:List Int) (p' f:Nat) (e':Bool),v=.slice a ys.length c∧IOwn wr w.heap.size a ys.length c ys∧RB wr q ao n cap p' e'∧w.grownBy wr (some q)∧ys.length≤p'∧p'≤n∧l.length≤p'+f∧Hid (rdL gB 0 l n (p,e)=(ys++(rdL gB 0 l f (p',e')).1,(rdL gB 0 l f (p',e')).2))) (fun v _=>n-qjh v)
 case atStart=>exact⟨none,0,[],p,n,e,rfl,⟨rfl,World.ownsRow_nil _ _ _ _⟩,hR,World.grownBy.refl _ _,Nat.zero_le _,hp,by omega,by simp[Hid]⟩
 case round=>
  obtain⟨a,c,ys,p',f,e',rfl,O,R,hg,hy,hp',hf,HF⟩:=hrel;have c0:=R.cell 0 rfl;have c1:=R.cell 1 rfl
  by_cases hlt:p'<n
  ·have hlt':(p':Int)<n:=by omega
   go_wp2
   go_quiet (fail)
   have hbq:Below wr.heap.size wr (wr.drewN nq):=below_drewN (Below.refl _ _) nq;have R1:=R.next hbq;have O1:=O.below hbq;have hg1:w.grownBy (wr.drewN nq) (some q):=qcj hg hbq;have hr1:=HRD.out _ hg1;have hnx:=quh onw_B 0 l p' e' (by omega);obtain⟨f',rfl,hstep⟩:=qrf (g:=gB) 0 l f p' e' (by omega) hf;have HS:Hid (rdL gB 0 l n (p,e)=(ys++((rd gB 0 l (p',e')).1 :: (rdL gB 0 l f' (rd gB 0 l (p',e')).2).1),(rdL gB 0 l f' (rd gB 0 l (p',e')).2).2)):=by
    unfold Hid;rw[HF.out,hstep]
   clear HF hstep hbq O hg;generalize wr.drewN nq=w1 at *;clear R c0 c1;go_wp2_with fail
   refine (qfc q ao n cap p' e' l _ R1 hr1 hn).mono ?_;rintro e1 w2 ⟨rfl,R2,g2⟩;have O2:IOwn w2 w.heap.size a ys.length c ys:=O1.grown g2 (fun z hz=>fun e=>by have:=(O1.2.lt z.block (by rw[hz];rfl)).1;have:=hq;simp at e;omega);have hg2:w.grownBy w2 (some q):=qct hg1 g2;clear O1 hr1 hg1 R1;generalize hrd:rd gB 0 l (p',e')=r at *;obtain⟨x,p2,e2⟩:=r;simp only at R2 hnx HS ⊢;clear hrd;go_wp2_with (at_builtin;refine w_iapp _ rfl _ _ rfl w.heap.size _ _ _ ys rfl (O2.below (qac _ _)) _ x rfl ?_ (by omega) (by have:=hg2.size;simp;omega) ?_;(simp))
   intro a3 c3 w3 O3 g3;have R3:RB w3 q ao n cap p2 e2:=(g3.block q (by have:=R2.lt;simp;omega) (fun e=>by have:=(O2.2.lt q e.symm).1;omega)).trans (R2.next (qac _ _));have hg3:w.grownBy w3 (some q):=qnp (qcj hg2 (qac _ _)) g3 (fun k e=>(O2.2.lt k e).1);go_wp2;go_roundw
   case rel=>exact⟨a3,c3,ys++[x],p2,f',e2,by simp,by simpa using O3,R3,hg3,by simp;omega,by omega,by omega,by unfold Hid;rw[HS.out];simp⟩
   case measure=>simp[qjh];omega
  ·have hlt':¬(p':Int)<n:=by omega
   have he:=que (g:=gB) 0 l f (p',e') (by simp;omega);have HS:Hid (rdL gB 0 l n (p,e)=(ys,(p',e'))):=by
    unfold Hid;rw[HF.out,he];simp
   clear HF he;go_wp2
   go_quiet (fail)
   have hbq:Below wr.heap.size wr (wr.drewN nq):=below_drewN (Below.refl _ _) nq;have R1:=R.next hbq;have O1:=O.below hbq;have hg1:w.grownBy (wr.drewN nq) (some q):=qcj hg hbq;go_wp2;go_ret;rw[HS.out];exact⟨a,c,rfl,O1,R1,hg1⟩
theorem qsg (q:Nat) (ao:Option Addr) (n cap p:Nat) (e:Bool) (l:List UInt8) (w:World) (hR:RB w q ao n cap p e) (hr:RdIn w ao n cap l) (hn:n≤1048576) (hp:p≤n) :
  Calls Tryz.prog 158 #[.pointer (some ⟨q,0,none⟩),.func (.func 159) #[] #[]] w fun e' w'=>∃a c,e'=.returned (.slice a (rdL gT ByteArray.empty l n (p,e)).1.length c)∧SOwn w' w.heap.size a (rdL gT ByteArray.empty l n (p,e)).1.length c (rdL gT ByteArray.empty l n (p,e)).1∧RB w' q ao n cap (rdL gT ByteArray.empty l n (p,e)).2.1 (rdL gT ByteArray.empty l n (p,e)).2.2∧w.grownBy w' (some q):=by
 have hl:=hr.1.1;have hq:=hR.lt;have HRD:Hid (∀w',w.grownBy w' (some q)→RdIn w' ao n cap l):=fun w' hg=>qug hr hR hg
 clear hr;go_enter Tryz.func158,Tryz.ntmps158;go_wp2
 go_loopw [5] (fun v wr=>∃(a:Option Addr) (c:Nat) (ys:List ByteArray) (p' f:Nat) (e':Bool),v=.slice a ys.length c∧SOwn wr w.heap.size a ys.length c ys∧RB wr q ao n cap p' e'∧w.grownBy wr (some q)∧ys.length≤p'∧p'≤n∧l.length≤p'+f∧Hid (rdL gT ByteArray.empty l n (p,e)=(ys++(rdL gT ByteArray.empty l f (p',e')).1,(rdL gT ByteArray.empty l f (p',e')).2))) (fun v _=>n-qjh v)
 case atStart=>exact⟨none,0,[],p,n,e,rfl,⟨rfl,World.ownsRow_nil _ _ _ _⟩,hR,World.grownBy.refl _ _,Nat.zero_le _,hp,by omega,by simp[Hid]⟩
 case round=>
  obtain⟨a,c,ys,p',f,e',rfl,O,R,hg,hy,hp',hf,HF⟩:=hrel;have c0:=R.cell 0 rfl;have c1:=R.cell 1 rfl
  by_cases hlt:p'<n
  ·have hlt':(p':Int)<n:=by omega
   go_wp2
   go_quiet (fail)
   have hbq:Below wr.heap.size wr (wr.drewN nq):=below_drewN (Below.refl _ _) nq;have R1:=R.next hbq;have O1:=O.below hbq;have hg1:w.grownBy (wr.drewN nq) (some q):=qcj hg hbq;have hr1:=HRD.out _ hg1;have hnx:=quh onw_T ByteArray.empty l p' e' (by omega);obtain⟨f',rfl,hstep⟩:=qrf (g:=gT) ByteArray.empty l f p' e' (by omega) hf;have HS:Hid (rdL gT ByteArray.empty l n (p,e)=(ys++((rd gT ByteArray.empty l (p',e')).1 :: (rdL gT ByteArray.empty l f' (rd gT ByteArray.empty l (p',e')).2).1),(rdL gT ByteArray.empty l f' (rd gT ByteArray.empty l (p',e')).2).2)):=by
    unfold Hid;rw[HF.out,hstep]
   clear HF hstep hbq O hg;generalize wr.drewN nq=w1 at *;clear R c0 c1;go_wp2_with fail
   refine (qde q ao n cap p' e' l _ R1 hr1 hn).mono ?_;rintro e1 w2 ⟨rfl,R2,g2⟩;have O2:SOwn w2 w.heap.size a ys.length c ys:=O1.grown g2 (fun z hz=>fun e=>by have:=(O1.2.lt z.block (by rw[hz];rfl)).1;have:=hq;simp at e;omega);have hg2:w.grownBy w2 (some q):=qct hg1 g2;clear O1 hr1 hg1 R1;generalize hrd:rd gT ByteArray.empty l (p',e')=r at *;obtain⟨x,p2,e2⟩:=r;simp only at R2 hnx HS ⊢;clear hrd;go_wp2_with (at_builtin;refine w_sapp _ rfl _ _ rfl w.heap.size _ _ _ ys rfl (O2.below (qac _ _)) _ x rfl ?_ (by omega) (by have:=hg2.size;simp;omega) ?_;(simp))
   intro a3 c3 w3 O3 g3;have R3:RB w3 q ao n cap p2 e2:=(g3.block q (by have:=R2.lt;simp;omega) (fun e=>by have:=(O2.2.lt q e.symm).1;omega)).trans (R2.next (qac _ _));have hg3:w.grownBy w3 (some q):=qnp (qcj hg2 (qac _ _)) g3 (fun k e=>(O2.2.lt k e).1);go_wp2;go_roundw
   case rel=>exact⟨a3,c3,ys++[x],p2,f',e2,by simp,by simpa using O3,R3,hg3,by simp;omega,by omega,by omega,by unfold Hid;rw[HS.out];simp⟩
   case measure=>simp[qjh];omega
  ·have hlt':¬(p':Int)<n:=by omega
   have he:=que (g:=gT) ByteArray.empty l f (p',e') (by simp;omega);have HS:Hid (rdL gT ByteArray.empty l n (p,e)=(ys,(p',e'))):=by
    unfold Hid;rw[HF.out,he];simp
   clear HF he;go_wp2
   go_quiet (fail)
   have hbq:Below wr.heap.size wr (wr.drewN nq):=below_drewN (Below.refl _ _) nq;have R1:=R.next hbq;have O1:=O.below hbq;have hg1:w.grownBy (wr.drewN nq) (some q):=qcj hg hbq;go_wp2;go_ret;rw[HS.out];exact⟨a,c,rfl,O1,R1,hg1⟩
theorem qsi (q:Nat) (ao:Option Addr) (n cap p:Nat) (e:Bool) (l:List UInt8) (w:World) (hR:RB w q ao n cap p e) (hr:RdIn w ao n cap l) (hn:n≤1048576) (hp:p≤n) :
  Calls Tryz.prog 155 #[.pointer (some ⟨q,0,none⟩),.func (.func 156) #[] #[]] w fun e' w'=>∃a c,e'=.returned (.slice a (rdL gN (ByteArray.empty,0) l n (p,e)).1.length c)∧WOwn w' w.heap.size a (rdL gN (ByteArray.empty,0) l n (p,e)).1.length c (rdL gN (ByteArray.empty,0) l n (p,e)).1∧RB w' q ao n cap (rdL gN (ByteArray.empty,0) l n (p,e)).2.1 (rdL gN (ByteArray.empty,0) l n (p,e)).2.2∧w.grownBy w' (some q):=by
 have hl:=hr.1.1;have hq:=hR.lt;have HRD:Hid (∀w',w.grownBy w' (some q)→RdIn w' ao n cap l):=fun w' hg=>qug hr hR hg
 clear hr;go_enter Tryz.func155,Tryz.ntmps155;go_wp2
 go_loopw [5] (fun v wr=>∃(a:Option Addr) (c:Nat) (ys:List (ByteArray×Int)) (p' f:Nat) (e':Bool),v=.slice a ys.length c∧WOwn wr w.heap.size a ys.length c ys∧RB wr q ao n cap p' e'∧w.grownBy wr (some q)∧ys.length≤p'∧p'≤n∧l.length≤p'+f∧Hid (rdL gN (ByteArray.empty,0) l n (p,e)=(ys++(rdL gN (ByteArray.empty,0) l f (p',e')).1,(rdL gN (ByteArray.empty,0) l f (p',e')).2))) (fun v _=>n-qjh v)
 case atStart=>exact⟨none,0,[],p,n,e,rfl,⟨rfl,World.ownsRow_nil _ _ _ _⟩,hR,World.grownBy.refl _ _,Nat.zero_le _,hp,by omega,by simp[Hid]⟩
 case round=>
  obtain⟨a,c,ys,p',f,e',rfl,O,R,hg,hy,hp',hf,HF⟩:=hrel;have c0:=R.cell 0 rfl;have c1:=R.cell 1 rfl
  by_cases hlt:p'<n
  ·have hlt':(p':Int)<n:=by omega
   go_wp2
   go_quiet (fail)
   have hbq:Below wr.heap.size wr (wr.drewN nq):=below_drewN (Below.refl _ _) nq;have R1:=R.next hbq;have O1:=O.below hbq;have hg1:w.grownBy (wr.drewN nq) (some q):=qcj hg hbq;have hr1:=HRD.out _ hg1;have hnx:=quh onw_N (ByteArray.empty,0) l p' e' (by omega);obtain⟨f',rfl,hstep⟩:=qrf (g:=gN) (ByteArray.empty,0) l f p' e' (by omega) hf;have HS:Hid (rdL gN (ByteArray.empty,0) l n (p,e)=(ys++((rd gN (ByteArray.empty,0) l (p',e')).1 :: (rdL gN (ByteArray.empty,0) l f' (rd gN (ByteArray.empty,0) l (p',e')).2).1),(rdL gN (ByteArray.empty,0) l f' (rd gN (ByteArray.empty,0) l (p',e')).2).2)):=by
    unfold Hid;rw[HF.out,hstep]
   clear HF hstep hbq O hg;generalize wr.drewN nq=w1 at *;clear R c0 c1;go_wp2_with fail
   refine (qsr q ao n cap p' e' l _ R1 hr1 hn).mono ?_;rintro e1 w2 ⟨rfl,R2,g2⟩;have O2:WOwn w2 w.heap.size a ys.length c ys:=O1.grown g2 (fun z hz=>fun e=>by have:=(O1.2.lt z.block (by rw[hz];rfl)).1;have:=hq;simp at e;omega);have hg2:w.grownBy w2 (some q):=qct hg1 g2;clear O1 hr1 hg1 R1;generalize hrd:rd gN (ByteArray.empty,0) l (p',e')=r at *;obtain⟨x,p2,e2⟩:=r;simp only at R2 hnx HS ⊢;clear hrd;go_wp2_with (at_builtin;refine w_wapp _ rfl _ _ rfl w.heap.size _ _ _ ys rfl (O2.below (qac _ _)) _ x rfl ?_ ?_ (by omega) (by have:=hg2.size;simp;omega) ?_;(simp);(simp))
   intro a3 c3 w3 O3 g3;have R3:RB w3 q ao n cap p2 e2:=(g3.block q (by have:=R2.lt;simp;omega) (fun e=>by have:=(O2.2.lt q e.symm).1;omega)).trans (R2.next (qac _ _));have hg3:w.grownBy w3 (some q):=qnp (qcj hg2 (qac _ _)) g3 (fun k e=>(O2.2.lt k e).1);go_wp2;go_roundw
   case rel=>exact⟨a3,c3,ys++[x],p2,f',e2,by simp,by simpa using O3,R3,hg3,by simp;omega,by omega,by omega,by unfold Hid;rw[HS.out];simp⟩
   case measure=>simp[qjh];omega
  ·have hlt':¬(p':Int)<n:=by omega
   have he:=que (g:=gN) (ByteArray.empty,0) l f (p',e') (by simp;omega);have HS:Hid (rdL gN (ByteArray.empty,0) l n (p,e)=(ys,(p',e'))):=by
    unfold Hid;rw[HF.out,he];simp
   clear HF he;go_wp2
   go_quiet (fail)
   have hbq:Below wr.heap.size wr (wr.drewN nq):=below_drewN (Below.refl _ _) nq;have R1:=R.next hbq;have O1:=O.below hbq;have hg1:w.grownBy (wr.drewN nq) (some q):=qcj hg hbq;go_wp2;go_ret;rw[HS.out];exact⟨a,c,rfl,O1,R1,hg1⟩

structure Rt (w0 y:World) (q r b:Nat) (ao:Option Addr) (n cap z:Nat) (e:Bool) (p:Pk) (d:Pd):Prop where
 rdr:RB y q ao n cap z e
 blk:Blk y b p
 res:Blk y r Pk.zero
 own:POwn y w0.heap.size p d
 gro:Below w0.heap.size w0 y
 qn:w0.heap.size≤q
 bn:w0.heap.size≤b
 rn:w0.heap.size≤r
 rb:r≠b
 gd:Pgd 1048576 p d
section
variable {w0 y y' : World} {q r b : Nat} {ao : Option Addr} {n cap z : Nat} {e : Bool} {p : Pk} {d : Pd}
theorem Rt.qb (s:Rt w0 y q r b ao n cap z e p d):q≠b:=ty_ne s.rdr s.blk (by decide)
theorem Rt.qr (s:Rt w0 y q r b ao n cap z e p d):q≠r:=ty_ne s.rdr s.res (by decide)
theorem Rt.hasq (s:Rt w0 y q r b ao n cap z e p d):¬p.has q:=by
 rintro ⟨a,ha,hab⟩;have hq:y.heap[q]? = some (.cells #[.slice ao n cap,.int .i64 (z:Nat),errV e] 187):=s.rdr;simp only[List.mem_cons,List.not_mem_nil,or_false] at ha
 rcases ha with ha | ha | ha | ha | ha | ha
 ·have hh:=s.own.bod.2;rw[←ha] at hh;obtain⟨cur,hc⟩:=qbr hh;exact ty_ne hc hq (by decide) hab
 ·have hh:=s.own.wb.2;rw[←ha] at hh;obtain⟨cur,hc⟩:=qbr hh;exact ty_ne hc hq (by decide) hab
 ·have hh:=s.own.pa.2;rw[←ha] at hh;obtain⟨cur,hc⟩:=qbr hh;exact ty_ne hc hq (by decide) hab
 ·have hh:=s.own.wan.2;rw[←ha] at hh;obtain⟨cur,hc⟩:=qbr hh;exact ty_ne hc hq (by decide) hab
 ·have hh:=s.own.nam.2;rw[←ha] at hh;obtain⟨cur,hc⟩:=qbr hh;exact ty_ne hc hq (by decide) hab
 ·have hh:=s.own.cds.2;rw[←ha] at hh;obtain⟨cur,hc⟩:=qbr hh;exact ty_ne hc hq (by decide) hab
theorem Rt.read (s:Rt w0 y q r b ao n cap z e p d) {z':Nat} {e':Bool} (hR:RB y' q ao n cap z' e') (hg:y.grownBy y' (some q)):Rt w0 y' q r b ao n cap z' e' p d :=
 ⟨hR,(hg.block b s.blk.lt (fun e=>s.qb (by simpa using e.symm))).trans s.blk,(hg.block r s.res.lt (fun e=>s.qr (by simpa using e.symm))).trans s.res,
  s.own.grown hg (fun k e hk=>by cases e;exact s.hasq hk),s.gro.grown hg s.gro.size (fun k e=>by cases e;exact s.qn),s.qn,s.bn,s.rn,s.rb,s.gd⟩
theorem Rt.new (s:Rt w0 y q r b ao n cap z e p d) (hb:Below y.heap.size y y'):Rt w0 y' q r b ao n cap z e p d :=
 ⟨s.rdr.next hb,s.blk.next hb,s.res.next hb,s.own.below hb,s.gro.trans (hb.mono s.gro.size),s.qn,s.bn,s.rn,s.rb,s.gd⟩
theorem Rt.set (s:Rt w0 y q r b ao n cap z e p d) (i:Nat) (v:Value) (p':Pk) (hc:p.cells.setIfInBounds i v=p'.cells)
  (hl:p'.bod=p.bod∧p'.wb=p.wb∧p'.pa=p.pa∧p'.wan=p.wan∧p'.nam=p.nam∧p'.cds=p.cds) (hz:p'.top.size≤61∧p'.cli.size≤61∧p'.wt.size≤61∧p'.us.size≤61):Rt w0 (y.setCell ⟨b,i,none⟩ v) q r b ao n cap z e p' d:=by
 have hg:y.grownBy (y.setCell ⟨b,i,none⟩ v) (some b):=qah y b i v;obtain⟨h1,h2,h3,h4,h5,h6⟩:=hl;have ho:=s.own.grown hg (fun k e=>by cases e;exact s.own.ne s.blk);have hd:=s.gd;refine⟨(hg.block q s.rdr.lt (fun e=>s.qb (by simpa using e))).trans s.rdr,?_,(hg.block r s.res.lt (fun e=>by have:=s.rb;simp at e;omega)).trans s.res,?_,s.gro.grown hg s.gro.size (fun k e=>by cases e;exact s.bn),s.qn,s.bn,s.rn,s.rb,?_⟩
 ·have:=qaf s.blk i v;rw[hc] at this;exact this
 ·exact⟨by rw[h1];exact ho.bod,by rw[h2];exact ho.wb,by rw[h3];exact ho.pa,by rw[h4];exact ho.wan,by rw[h5];exact ho.nam,by rw[h6];exact ho.cds,by rw[h1,h2,h3,h4,h5,h6];exact ho.dis⟩
 ·exact⟨hz.1,hz.2.1,hz.2.2.1,hz.2.2.2,by rw[h1];exact hd.bod,by rw[h2];exact hd.wb,by rw[h3];exact hd.pa,by rw[h4];exact hd.wan,by rw[h5];exact hd.nam,by rw[h6];exact hd.cds,hd.wans,hd.nams⟩
theorem Rt.s4 (s:Rt w0 y q r b ao n cap z e p d) (x:Int):Rt w0 (y.setCell ⟨b,4,none⟩ (.int .i64 x)) q r b ao n cap z e { p with id:=x } d :=
 s.set 4 _ _ rfl ⟨rfl,rfl,rfl,rfl,rfl,rfl⟩ ⟨s.gd.top,s.gd.cli,s.gd.wt,s.gd.us⟩
theorem Rt.s5 (s:Rt w0 y q r b ao n cap z e p d) (x:ByteArray) (hx:x.size≤61):Rt w0 (y.setCell ⟨b,5,none⟩ (.string x)) q r b ao n cap z e { p with top:=x } d :=
 s.set 5 _ _ rfl ⟨rfl,rfl,rfl,rfl,rfl,rfl⟩ ⟨hx,s.gd.cli,s.gd.wt,s.gd.us⟩
theorem Rt.s7 (s:Rt w0 y q r b ao n cap z e p d) (x:ByteArray) (hx:x.size≤61):Rt w0 (y.setCell ⟨b,7,none⟩ (.string x)) q r b ao n cap z e { p with cli:=x } d :=
 s.set 7 _ _ rfl ⟨rfl,rfl,rfl,rfl,rfl,rfl⟩ ⟨s.gd.top,hx,s.gd.wt,s.gd.us⟩
theorem Rt.s8 (s:Rt w0 y q r b ao n cap z e p d) (x:Int):Rt w0 (y.setCell ⟨b,8,none⟩ (.int .i64 x)) q r b ao n cap z e { p with lev:=x } d :=
 s.set 8 _ _ rfl ⟨rfl,rfl,rfl,rfl,rfl,rfl⟩ ⟨s.gd.top,s.gd.cli,s.gd.wt,s.gd.us⟩
theorem Rt.s9 (s:Rt w0 y q r b ao n cap z e p d) (x:Bool):Rt w0 (y.setCell ⟨b,9,none⟩ (.bool x)) q r b ao n cap z e { p with cln:=x } d :=
 s.set 9 _ _ rfl ⟨rfl,rfl,rfl,rfl,rfl,rfl⟩ ⟨s.gd.top,s.gd.cli,s.gd.wt,s.gd.us⟩
theorem Rt.s10 (s:Rt w0 y q r b ao n cap z e p d) (x:Int):Rt w0 (y.setCell ⟨b,10,none⟩ (.int .i64 x)) q r b ao n cap z e { p with kee:=x } d :=
 s.set 10 _ _ rfl ⟨rfl,rfl,rfl,rfl,rfl,rfl⟩ ⟨s.gd.top,s.gd.cli,s.gd.wt,s.gd.us⟩
theorem Rt.s11 (s:Rt w0 y q r b ao n cap z e p d) (x:Bool):Rt w0 (y.setCell ⟨b,11,none⟩ (.bool x)) q r b ao n cap z e { p with hw:=x } d :=
 s.set 11 _ _ rfl ⟨rfl,rfl,rfl,rfl,rfl,rfl⟩ ⟨s.gd.top,s.gd.cli,s.gd.wt,s.gd.us⟩
theorem Rt.s12 (s:Rt w0 y q r b ao n cap z e p d) (x:ByteArray) (hx:x.size≤61):Rt w0 (y.setCell ⟨b,12,none⟩ (.string x)) q r b ao n cap z e { p with wt:=x } d :=
 s.set 12 _ _ rfl ⟨rfl,rfl,rfl,rfl,rfl,rfl⟩ ⟨s.gd.top,s.gd.cli,hx,s.gd.us⟩
theorem Rt.s14 (s:Rt w0 y q r b ao n cap z e p d) (x:Int):Rt w0 (y.setCell ⟨b,14,none⟩ (.int .i64 x)) q r b ao n cap z e { p with wq:=x } d :=
 s.set 14 _ _ rfl ⟨rfl,rfl,rfl,rfl,rfl,rfl⟩ ⟨s.gd.top,s.gd.cli,s.gd.wt,s.gd.us⟩
theorem Rt.s15 (s:Rt w0 y q r b ao n cap z e p d) (x:Bool):Rt w0 (y.setCell ⟨b,15,none⟩ (.bool x)) q r b ao n cap z e { p with wr:=x } d :=
 s.set 15 _ _ rfl ⟨rfl,rfl,rfl,rfl,rfl,rfl⟩ ⟨s.gd.top,s.gd.cli,s.gd.wt,s.gd.us⟩
theorem Rt.s16 (s:Rt w0 y q r b ao n cap z e p d) (x:Bool):Rt w0 (y.setCell ⟨b,16,none⟩ (.bool x)) q r b ao n cap z e { p with hu:=x } d :=
 s.set 16 _ _ rfl ⟨rfl,rfl,rfl,rfl,rfl,rfl⟩ ⟨s.gd.top,s.gd.cli,s.gd.wt,s.gd.us⟩
theorem Rt.s17 (s:Rt w0 y q r b ao n cap z e p d) (x:ByteArray) (hx:x.size≤61):Rt w0 (y.setCell ⟨b,17,none⟩ (.string x)) q r b ao n cap z e { p with us:=x } d :=
 s.set 17 _ _ rfl ⟨rfl,rfl,rfl,rfl,rfl,rfl⟩ ⟨s.gd.top,s.gd.cli,s.gd.wt,hx⟩
theorem Rt.s18 (s:Rt w0 y q r b ao n cap z e p d) (x:Bool):Rt w0 (y.setCell ⟨b,18,none⟩ (.bool x)) q r b ao n cap z e { p with hp:=x } d :=
 s.set 18 _ _ rfl ⟨rfl,rfl,rfl,rfl,rfl,rfl⟩ ⟨s.gd.top,s.gd.cli,s.gd.wt,s.gd.us⟩
theorem Rt.s20 (s:Rt w0 y q r b ao n cap z e p d) (x:Int):Rt w0 (y.setCell ⟨b,20,none⟩ (.int .i64 x)) q r b ao n cap z e { p with cod:=x } d :=
 s.set 20 _ _ rfl ⟨rfl,rfl,rfl,rfl,rfl,rfl⟩ ⟨s.gd.top,s.gd.cli,s.gd.wt,s.gd.us⟩
theorem Rt.s21 (s:Rt w0 y q r b ao n cap z e p d) (x:Bool):Rt w0 (y.setCell ⟨b,21,none⟩ (.bool x)) q r b ao n cap z e { p with pre:=x } d :=
 s.set 21 _ _ rfl ⟨rfl,rfl,rfl,rfl,rfl,rfl⟩ ⟨s.gd.top,s.gd.cli,s.gd.wt,s.gd.us⟩
theorem Rt.l6 (s:Rt w0 y q r b ao n cap z e p d) {a:Option Addr} {k c:Nat} {x:List UInt8} (hx:Own y w0.heap.size a k c x) (hm:k≤1048576) (hn:∀q0,a=some q0→q0.block≠b) (D2:Dis p.wb.a a) (D3:Dis p.pa.a a) (D4:Dis p.wan.a a) (D5:Dis p.nam.a a) (D6:Dis p.cds.a a) :
  Rt w0 (y.setCell ⟨b,6,none⟩ (.slice a k c)) q r b ao n cap z e { p with bod:=⟨a,k,c⟩ } { d with bod:=x }:=by
 have hg:y.grownBy (y.setCell ⟨b,6,none⟩ (.slice a k c)) (some b):=qah y b 6 _;have ho:=s.own.grown hg (fun k e=>by cases e;exact s.own.ne s.blk);have hx':=hx.grown hg (fun q0 e he=>hn q0 e (by simpa using he));have hd:=s.gd;refine⟨(hg.block q s.rdr.lt (fun e=>s.qb (by simpa using e))).trans s.rdr,qaf s.blk 6 _,(hg.block r s.res.lt (fun e=>by have:=s.rb;simp at e;omega)).trans s.res,?_,s.gro.grown hg s.gro.size (fun k e=>by cases e;exact s.bn),s.qn,s.bn,s.rn,s.rb,⟨hd.top,hd.cli,hd.wt,hd.us,hm,hd.wb,hd.pa,hd.wan,hd.nam,hd.cds,hd.wans,hd.nams⟩⟩;refine⟨hx',ho.wb,ho.pa,ho.wan,ho.nam,ho.cds,?_⟩;have hq:=pw6.1 s.own.dis;obtain⟨⟨q12,q13,q14,q15,q16⟩,⟨q23,q24,q25,q26⟩,⟨q34,q35,q36⟩,⟨q45,q46⟩,q56⟩:=hq;exact pw6.2 ⟨⟨D2.symm,D3.symm,D4.symm,D5.symm,D6.symm⟩,⟨q23,q24,q25,q26⟩,⟨q34,q35,q36⟩,⟨q45,q46⟩,q56⟩
theorem Rt.l13 (s:Rt w0 y q r b ao n cap z e p d) {a:Option Addr} {k c:Nat} {x:List UInt8} (hx:Own y w0.heap.size a k c x) (hm:k≤1048576) (hn:∀q0,a=some q0→q0.block≠b) (D1:Dis p.bod.a a) (D3:Dis p.pa.a a) (D4:Dis p.wan.a a) (D5:Dis p.nam.a a) (D6:Dis p.cds.a a) :
  Rt w0 (y.setCell ⟨b,13,none⟩ (.slice a k c)) q r b ao n cap z e { p with wb:=⟨a,k,c⟩ } { d with wb:=x }:=by
 have hg:y.grownBy (y.setCell ⟨b,13,none⟩ (.slice a k c)) (some b):=qah y b 13 _;have ho:=s.own.grown hg (fun k e=>by cases e;exact s.own.ne s.blk);have hx':=hx.grown hg (fun q0 e he=>hn q0 e (by simpa using he));have hd:=s.gd;refine⟨(hg.block q s.rdr.lt (fun e=>s.qb (by simpa using e))).trans s.rdr,qaf s.blk 13 _,(hg.block r s.res.lt (fun e=>by have:=s.rb;simp at e;omega)).trans s.res,?_,s.gro.grown hg s.gro.size (fun k e=>by cases e;exact s.bn),s.qn,s.bn,s.rn,s.rb,⟨hd.top,hd.cli,hd.wt,hd.us,hd.bod,hm,hd.pa,hd.wan,hd.nam,hd.cds,hd.wans,hd.nams⟩⟩;refine⟨ho.bod,hx',ho.pa,ho.wan,ho.nam,ho.cds,?_⟩;have hq:=pw6.1 s.own.dis;obtain⟨⟨q12,q13,q14,q15,q16⟩,⟨q23,q24,q25,q26⟩,⟨q34,q35,q36⟩,⟨q45,q46⟩,q56⟩:=hq;exact pw6.2 ⟨⟨D1,q13,q14,q15,q16⟩,⟨D3.symm,D4.symm,D5.symm,D6.symm⟩,⟨q34,q35,q36⟩,⟨q45,q46⟩,q56⟩
theorem Rt.l19 (s:Rt w0 y q r b ao n cap z e p d) {a:Option Addr} {k c:Nat} {x:List UInt8} (hx:Own y w0.heap.size a k c x) (hm:k≤1048576) (hn:∀q0,a=some q0→q0.block≠b) (D1:Dis p.bod.a a) (D2:Dis p.wb.a a) (D4:Dis p.wan.a a) (D5:Dis p.nam.a a) (D6:Dis p.cds.a a) :
  Rt w0 (y.setCell ⟨b,19,none⟩ (.slice a k c)) q r b ao n cap z e { p with pa:=⟨a,k,c⟩ } { d with pa:=x }:=by
 have hg:y.grownBy (y.setCell ⟨b,19,none⟩ (.slice a k c)) (some b):=qah y b 19 _;have ho:=s.own.grown hg (fun k e=>by cases e;exact s.own.ne s.blk);have hx':=hx.grown hg (fun q0 e he=>hn q0 e (by simpa using he));have hd:=s.gd;refine⟨(hg.block q s.rdr.lt (fun e=>s.qb (by simpa using e))).trans s.rdr,qaf s.blk 19 _,(hg.block r s.res.lt (fun e=>by have:=s.rb;simp at e;omega)).trans s.res,?_,s.gro.grown hg s.gro.size (fun k e=>by cases e;exact s.bn),s.qn,s.bn,s.rn,s.rb,⟨hd.top,hd.cli,hd.wt,hd.us,hd.bod,hd.wb,hm,hd.wan,hd.nam,hd.cds,hd.wans,hd.nams⟩⟩;refine⟨ho.bod,ho.wb,hx',ho.wan,ho.nam,ho.cds,?_⟩;have hq:=pw6.1 s.own.dis;obtain⟨⟨q12,q13,q14,q15,q16⟩,⟨q23,q24,q25,q26⟩,⟨q34,q35,q36⟩,⟨q45,q46⟩,q56⟩:=hq;exact pw6.2 ⟨⟨q12,D1,q14,q15,q16⟩,⟨D2,q24,q25,q26⟩,⟨D4.symm,D5.symm,D6.symm⟩,⟨q45,q46⟩,q56⟩
theorem Rt.l22 (s:Rt w0 y q r b ao n cap z e p d) {a:Option Addr} {k c:Nat} {x:List (ByteArray×Int)} (hx:WOwn y w0.heap.size a k c x) (hm:k≤1048576) (hX:∀z∈x,z.1.size≤61) (hn:∀q0,a=some q0→q0.block≠b) (D1:Dis p.bod.a a) (D2:Dis p.wb.a a) (D3:Dis p.pa.a a) (D5:Dis p.nam.a a) (D6:Dis p.cds.a a) :
  Rt w0 (y.setCell ⟨b,22,none⟩ (.slice a k c)) q r b ao n cap z e { p with wan:=⟨a,k,c⟩ } { d with wan:=x }:=by
 have hg:y.grownBy (y.setCell ⟨b,22,none⟩ (.slice a k c)) (some b):=qah y b 22 _;have ho:=s.own.grown hg (fun k e=>by cases e;exact s.own.ne s.blk);have hx':=hx.grown hg (fun q0 e he=>hn q0 e (by simpa using he));have hd:=s.gd;refine⟨(hg.block q s.rdr.lt (fun e=>s.qb (by simpa using e))).trans s.rdr,qaf s.blk 22 _,(hg.block r s.res.lt (fun e=>by have:=s.rb;simp at e;omega)).trans s.res,?_,s.gro.grown hg s.gro.size (fun k e=>by cases e;exact s.bn),s.qn,s.bn,s.rn,s.rb,⟨hd.top,hd.cli,hd.wt,hd.us,hd.bod,hd.wb,hd.pa,hm,hd.nam,hd.cds,hX,hd.nams⟩⟩;refine⟨ho.bod,ho.wb,ho.pa,hx',ho.nam,ho.cds,?_⟩;have hq:=pw6.1 s.own.dis;obtain⟨⟨q12,q13,q14,q15,q16⟩,⟨q23,q24,q25,q26⟩,⟨q34,q35,q36⟩,⟨q45,q46⟩,q56⟩:=hq;exact pw6.2 ⟨⟨q12,q13,D1,q15,q16⟩,⟨q23,D2,q25,q26⟩,⟨D3,q35,q36⟩,⟨D5.symm,D6.symm⟩,q56⟩
theorem Rt.l23 (s:Rt w0 y q r b ao n cap z e p d) {a:Option Addr} {k c:Nat} {x:List ByteArray} (hx:SOwn y w0.heap.size a k c x) (hm:k≤1048576) (hX:∀z∈x,z.size≤61) (hn:∀q0,a=some q0→q0.block≠b) (D1:Dis p.bod.a a) (D2:Dis p.wb.a a) (D3:Dis p.pa.a a) (D4:Dis p.wan.a a) (D6:Dis p.cds.a a) :
  Rt w0 (y.setCell ⟨b,23,none⟩ (.slice a k c)) q r b ao n cap z e { p with nam:=⟨a,k,c⟩ } { d with nam:=x }:=by
 have hg:y.grownBy (y.setCell ⟨b,23,none⟩ (.slice a k c)) (some b):=qah y b 23 _;have ho:=s.own.grown hg (fun k e=>by cases e;exact s.own.ne s.blk);have hx':=hx.grown hg (fun q0 e he=>hn q0 e (by simpa using he));have hd:=s.gd;refine⟨(hg.block q s.rdr.lt (fun e=>s.qb (by simpa using e))).trans s.rdr,qaf s.blk 23 _,(hg.block r s.res.lt (fun e=>by have:=s.rb;simp at e;omega)).trans s.res,?_,s.gro.grown hg s.gro.size (fun k e=>by cases e;exact s.bn),s.qn,s.bn,s.rn,s.rb,⟨hd.top,hd.cli,hd.wt,hd.us,hd.bod,hd.wb,hd.pa,hd.wan,hm,hd.cds,hd.wans,hX⟩⟩;refine⟨ho.bod,ho.wb,ho.pa,ho.wan,hx',ho.cds,?_⟩;have hq:=pw6.1 s.own.dis;obtain⟨⟨q12,q13,q14,q15,q16⟩,⟨q23,q24,q25,q26⟩,⟨q34,q35,q36⟩,⟨q45,q46⟩,q56⟩:=hq;exact pw6.2 ⟨⟨q12,q13,q14,D1,q16⟩,⟨q23,q24,D2,q26⟩,⟨q34,D3,q36⟩,⟨D4,q46⟩,D6.symm⟩
theorem Rt.l24 (s:Rt w0 y q r b ao n cap z e p d) {a:Option Addr} {k c:Nat} {x:List Int} (hx:IOwn y w0.heap.size a k c x) (hm:k≤1048576) (hn:∀q0,a=some q0→q0.block≠b) (D1:Dis p.bod.a a) (D2:Dis p.wb.a a) (D3:Dis p.pa.a a) (D4:Dis p.wan.a a) (D5:Dis p.nam.a a) :
  Rt w0 (y.setCell ⟨b,24,none⟩ (.slice a k c)) q r b ao n cap z e { p with cds:=⟨a,k,c⟩ } { d with cds:=x }:=by
 have hg:y.grownBy (y.setCell ⟨b,24,none⟩ (.slice a k c)) (some b):=qah y b 24 _;have ho:=s.own.grown hg (fun k e=>by cases e;exact s.own.ne s.blk);have hx':=hx.grown hg (fun q0 e he=>hn q0 e (by simpa using he));have hd:=s.gd;refine⟨(hg.block q s.rdr.lt (fun e=>s.qb (by simpa using e))).trans s.rdr,qaf s.blk 24 _,(hg.block r s.res.lt (fun e=>by have:=s.rb;simp at e;omega)).trans s.res,?_,s.gro.grown hg s.gro.size (fun k e=>by cases e;exact s.bn),s.qn,s.bn,s.rn,s.rb,⟨hd.top,hd.cli,hd.wt,hd.us,hd.bod,hd.wb,hd.pa,hd.wan,hd.nam,hm,hd.wans,hd.nams⟩⟩;refine⟨ho.bod,ho.wb,ho.pa,ho.wan,ho.nam,hx',?_⟩;have hq:=pw6.1 s.own.dis;obtain⟨⟨q12,q13,q14,q15,q16⟩,⟨q23,q24,q25,q26⟩,⟨q34,q35,q36⟩,⟨q45,q46⟩,q56⟩:=hq;exact pw6.2 ⟨⟨q12,q13,q14,q15,D1⟩,⟨q23,q24,q25,D2⟩,⟨q34,q35,D3⟩,⟨q45,D4⟩,D5⟩
theorem Rt.old (s:Rt w0 y q r b ao n cap z e p d) {a:Option Addr} (hx:∀u,a=some u→y.heap.size≤u.block) (j:Nat):Dis ([p.bod.a,p.wb.a,p.pa.a,p.wan.a,p.nam.a,p.cds.a].getD j none) a:=by
 intro t u ht hu e;have h1:=hx u hu;have h2:p.has t.block:=by
  refine⟨t,?_,rfl⟩;rw[←ht,List.getD_eq_getElem?_getD];rw[List.getD_eq_getElem?_getD] at ht;cases hj:[p.bod.a,p.wb.a,p.pa.a,p.wan.a,p.nam.a,p.cds.a][j]? with
  |none=>rw[hj] at ht;cases ht
  |some v=>exact List.mem_of_getElem? hj
 have h3:=(s.own.lt h2).2;omega
theorem Rt.n6 (s:Rt w0 y q r b ao n cap z e p d) {z':Nat} {e':Bool} (hR:RB y' q ao n cap z' e') (hg:y.grownBy y' (some q)) {a:Option Addr} {k c:Nat} {x:List UInt8} (hx:Own y' y.heap.size a k c x) (hm:k≤1048576) :
  Rt w0 (y'.setCell ⟨b,6,none⟩ (.slice a k c)) q r b ao n cap z' e' { p with bod:=⟨a,k,c⟩ } { d with bod:=x }:=by
 have s2:=s.read hR hg;have hnew:∀u,a=some u→y.heap.size≤u.block:=fun u hu=>(hx.2.lt u.block (by rw[hu];rfl)).1
 refine s2.l6 (⟨hx.1,qbc hx.2 s.gro.size⟩) hm (fun q0 e0=>?_) (s.old hnew 1) (s.old hnew 2) (s.old hnew 3) (s.old hnew 4) (s.old hnew 5);have h1:=hnew q0 e0;have h2:=s.blk.lt;omega
theorem Rt.n13 (s:Rt w0 y q r b ao n cap z e p d) {z':Nat} {e':Bool} (hR:RB y' q ao n cap z' e') (hg:y.grownBy y' (some q)) {a:Option Addr} {k c:Nat} {x:List UInt8} (hx:Own y' y.heap.size a k c x) (hm:k≤1048576) :
  Rt w0 (y'.setCell ⟨b,13,none⟩ (.slice a k c)) q r b ao n cap z' e' { p with wb:=⟨a,k,c⟩ } { d with wb:=x }:=by
 have s2:=s.read hR hg;have hnew:∀u,a=some u→y.heap.size≤u.block:=fun u hu=>(hx.2.lt u.block (by rw[hu];rfl)).1
 refine s2.l13 (⟨hx.1,qbc hx.2 s.gro.size⟩) hm (fun q0 e0=>?_) (s.old hnew 0) (s.old hnew 2) (s.old hnew 3) (s.old hnew 4) (s.old hnew 5);have h1:=hnew q0 e0;have h2:=s.blk.lt;omega
theorem Rt.n19 (s:Rt w0 y q r b ao n cap z e p d) {z':Nat} {e':Bool} (hR:RB y' q ao n cap z' e') (hg:y.grownBy y' (some q)) {a:Option Addr} {k c:Nat} {x:List UInt8} (hx:Own y' y.heap.size a k c x) (hm:k≤1048576) :
  Rt w0 (y'.setCell ⟨b,19,none⟩ (.slice a k c)) q r b ao n cap z' e' { p with pa:=⟨a,k,c⟩ } { d with pa:=x }:=by
 have s2:=s.read hR hg;have hnew:∀u,a=some u→y.heap.size≤u.block:=fun u hu=>(hx.2.lt u.block (by rw[hu];rfl)).1
 refine s2.l19 (⟨hx.1,qbc hx.2 s.gro.size⟩) hm (fun q0 e0=>?_) (s.old hnew 0) (s.old hnew 1) (s.old hnew 3) (s.old hnew 4) (s.old hnew 5);have h1:=hnew q0 e0;have h2:=s.blk.lt;omega
theorem Rt.n22 (s:Rt w0 y q r b ao n cap z e p d) {z':Nat} {e':Bool} (hR:RB y' q ao n cap z' e') (hg:y.grownBy y' (some q)) {a:Option Addr} {k c:Nat} {x:List (ByteArray×Int)} (hx:WOwn y' y.heap.size a k c x) (hm:k≤1048576) (hX:∀v∈x,v.1.size≤61) :
  Rt w0 (y'.setCell ⟨b,22,none⟩ (.slice a k c)) q r b ao n cap z' e' { p with wan:=⟨a,k,c⟩ } { d with wan:=x }:=by
 have s2:=s.read hR hg;have hnew:∀u,a=some u→y.heap.size≤u.block:=fun u hu=>(hx.2.lt u.block (by rw[hu];rfl)).1
 refine s2.l22 (⟨hx.1,qbc hx.2 s.gro.size⟩) hm hX (fun q0 e0=>?_) (s.old hnew 0) (s.old hnew 1) (s.old hnew 2) (s.old hnew 4) (s.old hnew 5);have h1:=hnew q0 e0;have h2:=s.blk.lt;omega
theorem Rt.n23 (s:Rt w0 y q r b ao n cap z e p d) {z':Nat} {e':Bool} (hR:RB y' q ao n cap z' e') (hg:y.grownBy y' (some q)) {a:Option Addr} {k c:Nat} {x:List ByteArray} (hx:SOwn y' y.heap.size a k c x) (hm:k≤1048576) (hX:∀v∈x,v.size≤61) :
  Rt w0 (y'.setCell ⟨b,23,none⟩ (.slice a k c)) q r b ao n cap z' e' { p with nam:=⟨a,k,c⟩ } { d with nam:=x }:=by
 have s2:=s.read hR hg;have hnew:∀u,a=some u→y.heap.size≤u.block:=fun u hu=>(hx.2.lt u.block (by rw[hu];rfl)).1
 refine s2.l23 (⟨hx.1,qbc hx.2 s.gro.size⟩) hm hX (fun q0 e0=>?_) (s.old hnew 0) (s.old hnew 1) (s.old hnew 2) (s.old hnew 3) (s.old hnew 5);have h1:=hnew q0 e0;have h2:=s.blk.lt;omega
theorem Rt.n24 (s:Rt w0 y q r b ao n cap z e p d) {z':Nat} {e':Bool} (hR:RB y' q ao n cap z' e') (hg:y.grownBy y' (some q)) {a:Option Addr} {k c:Nat} {x:List Int} (hx:IOwn y' y.heap.size a k c x) (hm:k≤1048576) :
  Rt w0 (y'.setCell ⟨b,24,none⟩ (.slice a k c)) q r b ao n cap z' e' { p with cds:=⟨a,k,c⟩ } { d with cds:=x }:=by
 have s2:=s.read hR hg;have hnew:∀u,a=some u→y.heap.size≤u.block:=fun u hu=>(hx.2.lt u.block (by rw[hu];rfl)).1
 refine s2.l24 (⟨hx.1,qbc hx.2 s.gro.size⟩) hm (fun q0 e0=>?_) (s.old hnew 0) (s.old hnew 1) (s.old hnew 2) (s.old hnew 3) (s.old hnew 4);have h1:=hnew q0 e0;have h2:=s.blk.lt;omega
end
