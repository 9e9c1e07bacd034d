/- Lemmas. -/
import Derived.Test.YtpjkbgdkligpdaaGreatDoorY22
import Derived.Test.YtpjkbgdkligpdaaGreatDoorY01
set_option linter.all false
set_option maxRecDepth 100000
set_option maxHeartbeats 20000000
namespace Go.Proofs.YtpjkbgdkligpdaaGreatDoor
open Go.RowKit

theorem qte:(Tryz.prog.info? 51).map (fun x=>x.size)=some 2:=by kernel_rfl
def RowB (w:World) (g:Nat) (a:Option Addr) (n c:Nat) (x:Bool):Prop:=w.heap[g]? = some (.cells #[.slice a n c,.bool x] 51)
theorem RowB.lt {w:World} {g:Nat} {a:Option Addr} {n c:Nat} {x:Bool} (h:RowB w g a n c x):g<w.heap.size:=(Array.getElem?_eq_some_iff.1 h).1
theorem RowB.next {w w':World} {g:Nat} {a:Option Addr} {n c:Nat} {x:Bool} (h:RowB w g a n c x) (hb:Below w.heap.size w w'):RowB w' g a n c x:=(hb.block g h.lt).trans h
theorem bf_ones (a:Option Addr) (n c:Nat) (x:Bool):(#[Value.slice a n c,.bool x]:Array Value).all (fun v=>v.oneCell')=true:=by simp[Value.oneCell']
theorem qcg {ops:Array Oper} {rest:List Oper} {o:Oper} {ac:Act} {w:World} {Q:Exit→Act→World→Prop} {g:Nat} {a a':Option Addr} {n c n' c':Nat} {x x':Bool} (hB:RowB w g a' n' c' x') (hgd:o.guard=none) (p y:Operand) (ho:o.op=.store 51 p y)
  (hp:ac.eval p=.pointer (some ⟨g,0,none⟩)) (hy:ac.eval y=.agg #[.slice a n c,.bool x]) (hd:o.dst=none)
  (h:∀w',RowB w' g a n c x→w.grownBy w' (some g)→wpList Tryz.prog ops Q rest ac w'):wpList Tryz.prog ops Q (o :: rest) ac w:=by
 refine wpList_store_row hgd 51 p y ho g #[.slice a n c,.bool x] hp hy 51 #[.slice a' n' c',.bool x'] hB qte rfl (bf_ones a n c x) ?_;rw[hd];exact h _ (by unfold RowB;rw[World.setRow,Array.getElem?_modify,hB];simp) (gRow w g _)
theorem qdy {ops:Array Oper} {rest:List Oper} {o:Oper} {ac:Act} {w:World} {Q:Exit→Act→World→Prop} {g:Nat} {a:Option Addr} {n c:Nat} {x:Bool} (hB:RowB w g a n c x) (hw:Region.wanted o (yielded ops ac.tmps)=true) (p:Operand) (ho:o.op=.load 51 p)
  (hp:ac.eval p=.pointer (some ⟨g,0,none⟩))
  (h:wpList Tryz.prog ops Q rest (ac.put o.dst (.agg #[.slice a n c,.bool x])) w):wpList Tryz.prog ops Q (o :: rest) ac w :=
 load_g hw 51 p ho g hp 51 #[.slice a n c,.bool x] (0,0) _ hB Tryz.underlying51 rfl qte h
theorem qrj {fn:Func} {R:Ending→World→Prop} {ac:Act} {w:World} {g:Nat} {a:Option Addr} {n c:Nat} {x:Bool} {t:Tmp} (hr:fn.results = #[.cell t 51]) (hp:ac.tmps.getD t undef=.pointer (some ⟨g,0,none⟩)) (hB:RowB w g a n c x) (hd:ac.defers = [])
  (h:R (.returned (.agg #[.slice a n c,.bool x])) w):bodyPost Tryz.prog fn R .ret ac w :=
 bodyPost_ret (results_cell_row hr ac.tmps w g 51 #[.slice a n c,.bool x] (0,0) _ hp hB Tryz.underlying51 rfl qte) hd h
theorem qky {fn:Func} {R:Ending→World→Prop} {ac:Act} {w:World} {g:Nat} {a:Option Addr} {n c:Nat} {x:Bool} {t t2:Tmp} {v2:Value} (hr:fn.results = #[.cell t 51,.tmp t2]) (hp:ac.tmps.getD t undef=.pointer (some ⟨g,0,none⟩)) (h2:ac.tmps.getD t2 undef=v2) (hB:RowB w g a n c x) (hd:ac.defers = [])
  (h:R (.returned (.tuple #[.agg #[.slice a n c,.bool x],v2])) w):bodyPost Tryz.prog fn R .ret ac w:=by
 have hp':ac.tmps[t]?.getD undef=.pointer (some ⟨g,0,none⟩):=by simpa using hp
 have h2':ac.tmps[t2]?.getD undef=v2:=by simpa using h2
 exact bodyPost_ret (by simp[results,hr,hp',h2',asAddr,run_loadVar_row w g 51 51 #[.slice a n c,.bool x] (0,0) _ hB Tryz.underlying51 rfl qte]) hd h
theorem z_bld {o:Oper} {a:Act} {w:World} {K:Act→World→Prop} {Q:Exit→Act→World→Prop} {parts:Array (Nat×Operand)} {vs:Array (Nat×Value)} {r:Value} (t:TypeId) (ho:o.op=.build t parts) (hx:(parts.map fun (i,x)=>(i,a.eval x))=vs) (hr:(Instr.build t vs).run Tryz.prog w=.ok r w) (h:K (a.put o.dst r) w):Oper.wp Tryz.prog o a w K Q :=
 qae (w':=w) (v:=r) (by simp only[execOp,ho,hx,Sem.run_bind,hr,Result.andThen_ok,Sem.run_pure]) h
theorem bld_bf (a:Option Addr) (n c:Nat) (x:Bool) (u:World):(Instr.build 51 #[(0,.slice a n c),(1,.bool x)]).run Tryz.prog u=.ok (.agg #[.slice a n c,.bool x]) u:=by kernel_rfl
theorem cf_cwr (xs:Array Value) (u:World):(callFunc 118 xs).run Tryz.prog u=.ok (.enter 118 xs) u:=by kernel_rfl
theorem qif (a:Option Addr) (n c:Nat) (l:List UInt8) (x:Bool) (w:World) (hr:RdIn w a n c l) (hn:n≤1048576) :
  Calls Tryz.prog 94 #[.agg #[.slice a n c,.bool x]] w fun e w'=>∃a' c',e=.returned (.agg #[.slice a' n c',.bool x])∧Own w' w.heap.size a' n c' l∧Below w.heap.size w w':=by
 have A0:RowB (w.alloc (.cells #[.slice a n c,.bool x] 51)) w.heap.size a n c x:=heap_alloc_new _ _;have b1:=qac w (.cells #[.slice a n c,.bool x] 51);have b2:=qac (w.alloc (.cells #[.slice a n c,.bool x] 51)) (.cells #[.slice none 0 0,.bool false] 51);have A:=A0.next b2;have Z:RowB ((w.alloc (.cells #[.slice a n c,.bool x] 51)).alloc (.cells #[.slice none 0 0,.bool false] 51)) (w.heap.size+1) none 0 0 false:=by
  have:=heap_alloc_new (w.alloc (.cells #[.slice a n c,.bool x] 51)) (.cells #[.slice none 0 0,.bool false] 51)
  rwa [World.size_alloc] at this
 have hb:=bel b1 b2;have hr2:=hr.below hb;have hszz:((w.alloc (.cells #[.slice a n c,.bool x] 51)).alloc (.cells #[.slice none 0 0,.bool false] 51)).heap.size=w.heap.size+2:=by simp
 have HS:Hid (∀u,Below w.heap.size w u→w.heap.size≤u.heap.size):=fun u hu=>hu.size
 clear A0 b1 b2 hr;go_enter Tryz.func94,Tryz.ntmps94;go_wp2;generalize hz:(w.alloc (.cells #[.slice a n c,.bool x] 51)).alloc (.cells #[.slice none 0 0,.bool false] 51)=z at *;clear hz;refine qda 6 (by kernel_rfl) rfl (fun _ u u'=>Below u.heap.size u u') (fun i v u=>match i with
  |0=>v=.pointer (some ⟨w.heap.size,0,none⟩)
  |1=>v=.slice a n c
  |2=>∃a' c',v=.slice a' n c'∧Own u w.heap.size a' n c' l
  |3=>v=.pointer (some ⟨w.heap.size,1,none⟩)
  |4=>v=.bool x
  |5=>∃a' c',v=.agg #[.slice a' n c',.bool x]∧Own u w.heap.size a' n c' l
  |_=>True) (fun _ u=>RowB u w.heap.size a n c x∧RowB u (w.heap.size+1) none 0 0 false∧Below w.heap.size w u∧RdIn u a n c l) ?_ ?_ ?_ ?_ ?_
 ·intro i j v u x_ hi hj hr hne hR hG
  match j,hj,hr,hne,hG with
  |0,_,_,_,hG=>exact hG
  |1,_,_,_,hG=>exact hG
  |2,_,_,_,hG=>
   obtain⟨a',c',e1,e2⟩:=hG;exact⟨a',c',e1,e2.below hR⟩
  |3,_,_,_,hG=>exact hG
  |4,_,_,_,hG=>exact hG
  |5,_,_,_,hG=>
   obtain⟨a',c',e1,e2⟩:=hG;exact⟨a',c',e1,e2.below hR⟩
  |(_+6),h,_,_,_=>omega
 ·exact fun i k u x_ hi hk hr hne hR hH=>⟨hH.1.next hR,hH.2.1.next hR,bel hH.2.2.1 hR,hH.2.2.2.below hR⟩
 ·exact fun k=>⟨A,Z,⟨hb.os,hb.tape,hb.output,hb.size,hb.block⟩,hr2⟩
 ·intro i o ac u hi hk hH hdep
  match i,hi with
  |0,hi=>cases hi;exact qggo rfl (z_fld (X:=⟨w.heap.size,0,none⟩) (Y:=⟨w.heap.size,0,none⟩) 51 _ 0 rfl (qevv hk 1 rfl rfl) (fun _=>by kernel_rfl) (qzqq rfl))
  |1,hi=>cases hi;obtain⟨z0,hz0,rfl⟩:=hdep 0 _ _ rfl rfl rfl;exact qggo rfl (z_ld 22 _ rfl (qab hz0) (by kernel_rfl) (qbr hH.1 0) (qzqq rfl))
  |2,hi=>cases hi;obtain⟨z1,hz1,rfl⟩:=hdep 1 _ _ rfl rfl rfl;refine qggo rfl (qal (qak _ _ _ _ _ _ _ _ cf_cwr (qab hz1) rfl (fun _=>rfl) _ _ _ _ _ _) ?_);refine (qbs a n c 0 l u hH.2.2.2 (by omega) (by omega)).mono ?_;rintro e u' ⟨a',c',rfl,hO,hb'⟩;exact⟨_,rfl,_,rfl,hb',a',c',rfl,hO.mono (HS.out _ hH.2.2.1)⟩
  |3,hi=>cases hi;exact qggo rfl (z_fld (X:=⟨w.heap.size,0,none⟩) (Y:=⟨w.heap.size,1,none⟩) 51 _ 1 rfl (qevv hk 1 rfl rfl) (fun _=>by kernel_rfl) (qzqq rfl))
  |4,hi=>cases hi;obtain⟨z3,hz3,rfl⟩:=hdep 3 _ _ rfl rfl rfl;exact qggo rfl (z_ld 4 _ rfl (qab hz3) (by kernel_rfl) (qbr hH.1 1) (qzqq rfl))
  |5,hi=>cases hi;obtain⟨z2,hz2,⟨a',c',e1,e2⟩⟩:=hdep 2 _ _ rfl rfl rfl;subst e1;obtain⟨z4,hz4,rfl⟩:=hdep 4 _ _ rfl rfl rfl;exact qggo rfl (z_bld 51 rfl (by simp[qab hz2,qab hz4]) (bld_bf a' n c' x u) ⟨_,rfl,Below.refl _ _,a',c',rfl,e2⟩)
  |(_+6),hi=>cases hi
 intro vs y9 hH hG a3_ h3;obtain⟨A9,Z9,b9,r9⟩:=hH;obtain⟨a',c',e5,O5⟩:=hG 5 (by decide);clear hG;replace h3:puts _ 1 _ (Fq9)=a3_:=h3;replace h3:puts _ 2 _ (Fq9)=a3_:=h3;replace h3:puts _ 3 _ (Fq9)=a3_:=h3;replace h3:puts _ 4 _ (Fq9)=a3_:=h3;replace h3:puts _ 5 _ (Fq9)=a3_:=h3;replace h3:Fq9=_:=h3;unfold Fq9 at h3;subst h3;simp only[List.drop_succ_cons,List.drop_zero];simp only[e5];refine qcg (a:=a') (n:=n) (c:=c') (x:=x) Z9 rfl _ _ rfl rfl rfl rfl ?_;intro w' B' g';go_wp2;exact qrj rfl rfl B' rfl ⟨a',c',rfl,O5.grown g' (fun q he hq=>by
  subst he;obtain⟨cur,hc⟩:=qbl O5.2;have hq':q.block=w.heap.size+1:=by simpa using hq
  exact ty_ne hc Z9 (by decide) hq'),qat b9 g' (by omega)⟩
theorem qvp {w:World} {ao:Option Addr} {n cap:Nat} {l:List UInt8} (hr:RdIn w ao n cap l) (p:Nat) (hp:p≤n):∃ax,
  (∀w',(Instr.slice 22 (.slice ao n cap) (some (.int .i64 (p:Int))) (some (.int .i64 (n:Int))) (some (.int .i64 (n:Int)))).run Tryz.prog w'=.ok (.slice ax (n-p) (n-p)) w')∧RdIn w ax (n-p) (n-p) (l.drop p)∧(∀y,ax=some y→∃z,ao=some z∧y.block=z.block):=by
 obtain⟨i0,hi,hz0,hz1,hz2⟩:=info_parts info5;obtain⟨⟨hl,hc⟩,hcap,hmax,hnil⟩:=hr;have he:Tryz.prog.elem 22=5:=by kernel_rfl
 have ht:Tryz.prog.underlying 22=some (.slice (Tryz.prog.elem 22)):=by rw[he];exact Tryz.underlying22
 refine⟨if n=p then ao else ao.map (·.add (p*1)),fun w'=>?_,⟨⟨by simp;omega,fun i hi'=>?_⟩,Nat.le_refl _,by omega,fun h=>?_⟩,fun y hy=>?_⟩
 ·have h:=run_slice_lhm (P:=Tryz.prog) w' 22 ao n cap ht .i64 .i64 .i64 (p:Int) (n:Int) (n:Int) (by omega) (by omega) (by omega) (by omega);rw[h,he];simp only[sizeOf,typeInfo,Sem.run_bind,Sem.run_pure,hi,hz1,Result.andThen_ok,sliced,Int.toNat_natCast];simp[hi,hz1,Result.andThen,sliced]
 ·obtain⟨b,off,rfl,hcell⟩:=hc (p+i) (by omega);refine⟨b,off+p,?_,?_⟩
  ·rw[if_neg (by omega)];simp[Addr.add_lit]
  ·rw[Nat.add_assoc,hcell,qfr]
 ·split at h
  ·rename_i g
   omega
  ·cases ao with
   |none=>have:=hnil rfl;omega
   |some a=>simp at h
 ·cases ao with
  |none=>split at hy<;>simp at hy
  |some z=>
   refine⟨z,rfl,?_⟩
   split at hy
   ·cases hy;rfl
   ·simp at hy;rw[←hy];unfold Addr.add
    split<;>rfl
theorem quq (a:Option Addr) (n c k:Nat) (l:List UInt8) (w:World) (hr:RdIn w a n c l) (hk:k≤n) :
  Calls Tryz.prog 95 #[.slice a n c,.int .i64 k] w fun e w'=>∃a',e=.returned (.slice a' (n-k) (n-k))∧RdIn w a' (n-k) (n-k) (l.drop k)∧(∀y,a'=some y→∃z,a=some z∧y.block=z.block)∧w'=w:=by
 obtain⟨a',h1,h2,h3⟩:=qvp hr k hk;go_enter Tryz.func95,Tryz.ntmps95;go_wp2;go_ret;exact⟨a',rfl,h2,h3,rfl⟩
theorem Own.rowb {u u':World} {B g:Nat} {a a':Option Addr} {n c n' c':Nat} {l:List UInt8} {x:Bool} (h:Own u B a n c l) (Z:RowB u g a' n' c' x) (hg:u.grownBy u' (some g)):Own u' B a n c l :=
 h.grown hg fun q he hq=>by
  subst he;obtain⟨cur,hc⟩:=qbl h.2;have hq':q.block=g:=by simpa using hq
  exact ty_ne hc Z (by decide) hq'
def ManyL (w w':World) (v:Value) (ps:List Pv):Prop:=∃a c q,v=.slice a (List.length q) c∧QOwn w' w.heap.size a q.length c q∧pvs q=ps∧∀x∈q,Pgd 1048576 x.1 x.2
theorem feed_if (h b:List UInt8) (x:Bool):feed h x b=if (x || !bufOk h x)=true then (h,x,[]) else if (many (h++b)).2.2=2 then ([],true,(many (h++b)).1) else ((h++b).drop (many (h++b)).2.1,false,(many (h++b)).1):=by
 unfold feed;cases x<;>cases hk:bufOk h _<;>simp
theorem feed_i (a:Option Addr) (n c:Nat) (h:List UInt8) (x:Bool) (b:Option Addr) (m d:Nat) (y:List UInt8) (w:World) (hr:RdIn w a n c h) (hy:RdIn w b m d y) (hn:n+m≤1048576) (hT:ErrTy w) :
  Calls Tryz.prog 40 #[.agg #[.slice a n c,.bool x],.slice b m d] w fun e w'=>∃a' n' c' v,e=.returned (.tuple #[.agg #[.slice a' n' c',.bool (feed h x y).2.1],v])∧RdIn w' a' n' c' (feed h x y).1∧(∀q,a'=some q→w.heap.size≤q.block)∧ManyL w w' v (feed h x y).2.2∧Below w.heap.size w w':=by
 have A0:RowB (w.alloc (.cells #[.slice a n c,.bool x] 51)) w.heap.size a n c x:=heap_alloc_new _ _;have b1:=qac w (.cells #[.slice a n c,.bool x] 51);have b2:=qac (w.alloc (.cells #[.slice a n c,.bool x] 51)) (.cells #[.slice none 0 0,.bool false] 51);have A:=A0.next b2;have Z:RowB ((w.alloc (.cells #[.slice a n c,.bool x] 51)).alloc (.cells #[.slice none 0 0,.bool false] 51)) (w.heap.size+1) none 0 0 false:=by
  have:=heap_alloc_new (w.alloc (.cells #[.slice a n c,.bool x] 51)) (.cells #[.slice none 0 0,.bool false] 51)
  rwa [World.size_alloc] at this
 have hb:=bel b1 b2;have hTl:1<w.heap.size:=World.block_lt_of_cell? _ _ hT;have HT:Hid (∀u,Below w.heap.size w u→ErrTy u):=fun u hu=>hT.below hu hTl
 have HR:Hid (∀u,Below w.heap.size w u→RdIn u a n c h):=fun u hu=>hr.below hu
 have HY:Hid (∀u,Below w.heap.size w u→RdIn u b m d y):=fun u hu=>hy.below hu
 clear A0 b1 b2 hr hy hT hTl;have hz2:w.heap.size+2≤((w.alloc (.cells #[.slice a n c,.bool x] 51)).alloc (.cells #[.slice none 0 0,.bool false] 51)).heap.size:=by simp
 rw[feed_if];cases x with
 |true=>
  simp only[Bool.true_or,if_true];go_enter Tryz.func40,Tryz.ntmps40
  go_upto_region 2 with fail
  generalize hz:(w.alloc (.cells #[.slice a n c,.bool true] 51)).alloc (.cells #[.slice none 0 0,.bool false] 51)=z at *;clear hz;have HS:Hid (∀k,z.heap.size≤k→w.heap.size+2≤k):=fun k hk=>Nat.le_trans hz2 hk
  have C:=qif a n c h true _ (HR.out _ hb) (by omega);go_wp2_with (first | refine qdy A rfl _ rfl rfl ?_ | fail)
  refine C.mono ?_;clear C;rintro e u2 ⟨a2,c2,rfl,hO,b3⟩;replace Z:=Z.next b3;replace hb:=bel hb b3;have b4:=qac u2 (.cells #[] 28);replace Z:=Z.next b4;replace hb:=bel hb b4;have hs2:=HS.out _ (b3.size);replace hO:=hO.below b4;have hQ:=qls u2;clear b3 b4 A;go_wp2_with (first | (refine qcg (a:=a2) (n:=n) (c:=c2) (x:=true) Z rfl _ _ rfl rfl rfl rfl ?_;intro w9 B9 g9) | fail)
  have hO9:=hO.rowb Z g9;refine qky rfl rfl rfl B9 rfl ⟨a2,n,c2,_,rfl,hO9.rd,fun q hq=>?_,⟨_,_,[],rfl,(hQ.cur (by omega) g9).mono (by omega),rfl,fun x hx=>(by cases hx)⟩,qat hb g9 (by omega)⟩;have:=(hO9.block hq).1;omega
 |false=>
  have C:=buf_i a n c h false _ (HR.out _ hb) (by omega) (HT.out _ hb);cases hk:bufOk h false with
  |false=>
   rw[hk] at C;simp only[Bool.false_or,Bool.not_false,if_true];clear hk;go_enter Tryz.func40,Tryz.ntmps40;go_wp2_with (first | refine qdy A rfl _ rfl rfl ?_ | fail)
   refine C.mono ?_;clear C;rintro e z ⟨rfl,b3⟩;replace A:=A.next b3;replace Z:=Z.next b3;replace hb:=bel hb b3;replace hz2:=Nat.le_trans hz2 b3.size;have HS:Hid (∀k,z.heap.size≤k→w.heap.size+2≤k):=fun k hk=>Nat.le_trans hz2 hk
   clear b3;have C:=qif a n c h false _ (HR.out _ hb) (by omega);go_wp2_with (first | refine qdy A rfl _ rfl rfl ?_ | fail)
   refine C.mono ?_;clear C;rintro e u2 ⟨a2,c2,rfl,hO,b3⟩;replace Z:=Z.next b3;replace hb:=bel hb b3;have b4:=qac u2 (.cells #[] 28);replace Z:=Z.next b4;replace hb:=bel hb b4;have hs2:=HS.out _ (b3.size);replace hO:=hO.below b4;have hQ:=qls u2;clear b3 b4 A;go_wp2_with (first | (refine qcg (a:=a2) (n:=n) (c:=c2) (x:=false) Z rfl _ _ rfl rfl rfl rfl ?_;intro w9 B9 g9) | fail)
   have hO9:=hO.rowb Z g9;refine qky rfl rfl rfl B9 rfl ⟨a2,n,c2,_,rfl,hO9.rd,fun q hq=>?_,⟨_,_,[],rfl,(hQ.cur (by omega) g9).mono (by omega),rfl,fun x hx=>(by cases hx)⟩,qat hb g9 (by omega)⟩;have:=(hO9.block hq).1;omega
  |true=>
   rw[hk] at C;simp only[Bool.false_or,Bool.not_true,Bool.false_eq_true,if_false];clear hk;obtain⟨ps,nn,cc,hm⟩ : ∃ps nn cc,many (h++y)=(ps,nn,cc):=⟨_,_,_,rfl⟩;have HM:Hid (many (h++y)=(ps,nn,cc)):=hm;rw[hm];clear hm;simp only
   by_cases h2:cc=2
   ·subst h2;rw[if_pos rfl];go_enter Tryz.func40,Tryz.ntmps40;go_wp2_with (first | refine qdy A rfl _ rfl rfl ?_ | fail)
    refine C.mono ?_;clear C;rintro e z ⟨rfl,b3⟩;replace A:=A.next b3;replace Z:=Z.next b3;replace hb:=bel hb b3;replace hz2:=Nat.le_trans hz2 b3.size;have HS:Hid (∀k,z.heap.size≤k→w.heap.size+2≤k):=fun k hk=>Nat.le_trans hz2 hk
    clear b3;have c0:=qbr A 0;simp only[List.getElem?_toArray,List.getElem?_cons_zero] at c0;go_wp2_with fail
    refine (qbx a n c h b m d y _ (HR.out _ hb) (HY.out _ hb) (by omega) (by omega)).mono ?_;rintro e u2 ⟨a2,c2,rfl,hO,b3⟩;replace Z:=Z.next b3;replace hb:=bel hb b3;have hs2:=HS.out _ b3.size;have hB2:Hid (∀q,a2=some q→w.heap.size+2≤q.block):=fun q hq=>by have:=(hO.block hq).1;omega
    have hR2:=hO.rd;have hl2:=hO.1;clear b3 A c0 hO;have hle:=(qrz (h++y)).1;rw[HM.out,hl2] at hle;have C:=many_i a2 (n+m) c2 (h++y) u2 hR2 (by omega) (HT.out _ hb);rw[HM.out] at C;simp only at C hle;go_wp2_with fail
    refine C.mono ?_;clear C;rintro e u3 ⟨v,rfl,⟨a3,c3,q3,rfl,hQ,hv3,hG3⟩,b3⟩;rw[HM.out] at hv3;have HV:Hid (pvs q3=ps):=hv3;have HG:Hid (∀x∈q3,Pgd 1048576 x.1 x.2):=hG3;replace Z:=Z.next b3;replace hR2:=hR2.below b3;replace hb:=bel hb b3;clear HM hv3 hG3 b3;go_wp2_with (first | (refine qcg (a:=none) (n:=0) (c:=0) (x:=true) Z rfl _ _ rfl rfl rfl rfl ?_;intro w9 B9 g9) | fail)
    exact qky rfl rfl rfl B9 rfl ⟨none,0,0,_,rfl,RdIn.nil _,fun q hq=>(by cases hq),⟨_,_,q3,rfl,(hQ.cur (by omega) g9).mono (by omega),HV.out,HG.out⟩,qat hb g9 (by omega)⟩
   ·have h2':(cc==2)=false:=by simpa using h2
    rw[if_neg h2];go_enter Tryz.func40,Tryz.ntmps40;go_wp2_with (first | refine qdy A rfl _ rfl rfl ?_ | fail)
    refine C.mono ?_;clear C;rintro e z ⟨rfl,b3⟩;replace A:=A.next b3;replace Z:=Z.next b3;replace hb:=bel hb b3;replace hz2:=Nat.le_trans hz2 b3.size;have HS:Hid (∀k,z.heap.size≤k→w.heap.size+2≤k):=fun k hk=>Nat.le_trans hz2 hk
    clear b3;have c0:=qbr A 0;simp only[List.getElem?_toArray,List.getElem?_cons_zero] at c0;go_wp2_with fail
    refine (qbx a n c h b m d y _ (HR.out _ hb) (HY.out _ hb) (by omega) (by omega)).mono ?_;rintro e u2 ⟨a2,c2,rfl,hO,b3⟩;replace Z:=Z.next b3;replace hb:=bel hb b3;have hs2:=HS.out _ b3.size;have hB2:Hid (∀q,a2=some q→w.heap.size+2≤q.block):=fun q hq=>by have:=(hO.block hq).1;omega
    have hR2:=hO.rd;have hl2:=hO.1;clear b3 A c0 hO;have hle:=(qrz (h++y)).1;rw[HM.out,hl2] at hle;have C:=many_i a2 (n+m) c2 (h++y) u2 hR2 (by omega) (HT.out _ hb);rw[HM.out] at C;simp only at C hle;go_wp2_with fail
    refine C.mono ?_;clear C;rintro e u3 ⟨v,rfl,⟨a3,c3,q3,rfl,hQ,hv3,hG3⟩,b3⟩;rw[HM.out] at hv3;have HV:Hid (pvs q3=ps):=hv3;have HG:Hid (∀x∈q3,Pgd 1048576 x.1 x.2):=hG3;replace Z:=Z.next b3;replace hR2:=hR2.below b3;replace hb:=bel hb b3;clear HM hv3 hG3 b3;go_wp2_with fail
    refine (quq a2 (n+m) c2 nn (h++y) _ hR2 hle).mono ?_;rintro e u4 ⟨a4,rfl,hR4,hbk,hu⟩;rw[hu];clear hu;have HN:Hid (∀q,a4=some q→w.heap.size+2≤q.block):=fun q hq=>by
     obtain⟨z,hz,e⟩:=hbk q hq;rw[e];exact hB2.out z hz
    clear hbk;go_wp2_with (first | (refine qcg (a:=a4) (n:=n+m-nn) (c:=n+m-nn) (x:=false) Z rfl _ _ rfl rfl rfl rfl ?_;intro w9 B9 g9) | fail)
    have hR9:RdIn w9 a4 (n+m-nn) (n+m-nn) (List.drop nn (h++y)):=hR4.grown g9 (fun q he hq=>by
     have h3:=HN.out q he;have h1:q.block=w.heap.size+1:=by simpa using hq
     omega)
    exact qky rfl rfl rfl B9 rfl ⟨a4,_,_,_,rfl,hR9,fun q hq=>Nat.le_trans (by omega) (HN.out q hq),⟨_,_,q3,rfl,(hQ.cur (by omega) g9).mono (by omega),HV.out,HG.out⟩,qat hb g9 (by omega)⟩

def BsRd (w:World) (ao:Option Addr) (n cap:Nat) (L:List (List UInt8)):Prop :=
 L.length=n∧∀i,i<n→∃b off,ao=some ⟨b,off,none⟩∧∃a k c,w.cell? ⟨b,off+i,none⟩ = some (.slice a k c)∧RdIn w a k c (L.getD i [])
theorem BsRd.below {w w':World} {ao:Option Addr} {n cap:Nat} {L:List (List UInt8)} (h:BsRd w ao n cap L) (hb:Below w.heap.size w w'):BsRd w' ao n cap L:=by
 refine⟨h.1,fun i hi=>?_⟩;obtain⟨b,off,e,a,k,c,hc,hr⟩:=h.2 i hi;exact⟨b,off,e,a,k,c,(hb.cell (World.block_lt_of_cell? w _ hc)).trans hc,hr.below hb⟩
theorem feed_len (h b:List UInt8) (x:Bool):(feed h x b).1.length≤h.length+b.length:=by
 unfold feed
 split
 ·show h.length≤_;omega
 split
 ·show ([]:List UInt8).length≤_;simp
 ·show ((h++b).drop _).length≤_;rw[List.length_drop,List.length_append];omega
theorem many_cnt (b:List UInt8):(many b).1.length≤(many b).2.1 :=
 qik (P:=fun b=>(many b).1.length≤(many b).2.1) (by rw[qil];simp) (fun b h0 h=>by rw[qfg h0 h];simp) (fun b h ih=>by
  have h1:=(qff h).1;rw[qdb h];simp only[List.length_cons];omega) b
theorem feed_cnt (h b:List UInt8) (x:Bool):(feed h x b).2.2.length+(feed h x b).1.length≤h.length+b.length:=by
 have h1:=many_cnt (h++b);have h2:=(qrz (h++b)).1;rw[List.length_append] at h2;unfold feed
 split
 ·simp
 split
 ·simp only[List.length_nil];omega
 ·simp only[List.length_drop,List.length_append];omega
theorem st_loadB {o:Oper} {ac:Act} {w:World} {K:Act→World→Prop} {Q:Exit→Act→World→Prop} {g:Nat} {a:Option Addr} {n c:Nat} {x:Bool} (hB:RowB w g a n c x) (p:Operand) (ho:o.op=.load 51 p)
  (hp:ac.eval p=.pointer (some ⟨g,0,none⟩)) (h:K (ac.put o.dst (.agg #[.slice a n c,.bool x])) w):Oper.wp Tryz.prog o ac w K Q :=
 wp_load_row 51 p ho g hp 51 #[.slice a n c,.bool x] (0,0) _ hB Tryz.underlying51 rfl qte h
theorem drop_cons {α:Type} (L:List α) (t:Nat) (d:α) (h:t<L.length):L.drop t=L.getD t d :: L.drop (t+1):=by
 rw[List.drop_eq_getElem_cons h]
 congr 1
 simp[List.getD_eq_getElem?_getD,List.getElem?_eq_getElem h]
theorem qsx (h:List UInt8) (x:Bool) (b:List UInt8) (L:List (List UInt8)):qce h x (b :: L)=((qce (feed h x b).1 (feed h x b).2.1 L).1,(qce (feed h x b).1 (feed h x b).2.1 L).2.1,(feed h x b).2.2++(qce (feed h x b).1 (feed h x b).2.1 L).2.2):=rfl
theorem RowB.row {u u':World} {g B:Nat} {a ao:Option Addr} {n c m cap:Nat} {x:Bool} {ps:List Pk} (h:RowB u g a n c x) (hR:POwnR u B ao m cap ps) (hg:u.grownBy u' (Value.slice ao m cap).ownBlock):RowB u' g a n c x:=by
 refine (hg.block g h.lt (fun e=>?_)).trans h;cases ao with
 |none=>simp[Value.ownBlock] at e
 |some q=>
  have e':g=q.block:=by simpa[Value.ownBlock] using e
  obtain⟨cur,hc⟩:=qbl hR.2;exact ty_ne hc h (by decide) e'.symm
theorem POwn.neB {w:World} {B:Nat} {p:Pk} {d:Pd} {b:Nat} {a:Option Addr} {n c:Nat} {x:Bool} (h:POwn w B p d) (hb:RowB w b a n c x):¬p.has b:=by
 rintro ⟨a,ha,hab⟩;simp only[List.mem_cons,List.not_mem_nil,or_false] at ha
 rcases ha with ha | ha | ha | ha | ha | ha
 ·have hh:=h.bod.2;rw[←ha] at hh;obtain⟨cur,hc⟩:=qbl hh;exact ty_ne hc hb (by decide) hab
 ·have hh:=h.wb.2;rw[←ha] at hh;obtain⟨cur,hc⟩:=qbl hh;exact ty_ne hc hb (by decide) hab
 ·have hh:=h.pa.2;rw[←ha] at hh;obtain⟨cur,hc⟩:=qbl hh;exact ty_ne hc hb (by decide) hab
 ·have hh:=h.wan.2;rw[←ha] at hh;obtain⟨cur,hc⟩:=qbl hh;exact ty_ne hc hb (by decide) hab
 ·have hh:=h.nam.2;rw[←ha] at hh;obtain⟨cur,hc⟩:=qbl hh;exact ty_ne hc hb (by decide) hab
 ·have hh:=h.cds.2;rw[←ha] at hh;obtain⟨cur,hc⟩:=qbl hh;exact ty_ne hc hb (by decide) hab
theorem QOwn.drew {w:World} {B:Nat} {ao:Option Addr} {n cap:Nat} {l:PL} (h:QOwn w B ao n cap l):QOwn w.drew B ao n cap l :=
 ⟨h.row,fun x hx=>⟨(h.own x hx).bod,(h.own x hx).wb,(h.own x hx).pa,(h.own x hx).wan,(h.own x hx).nam,(h.own x hx).cds,(h.own x hx).dis⟩,h.dis⟩
theorem z_qapps {o:Oper} {a:Act} {w:World} {K:Act→World→Prop} {Q:Exit→Act→World→Prop} (s x:Operand)
  (ho:o.op=.call { callee:=.builtin .append,args:=#[s,x],argTypes:=#[44,44] })
  (B:Nat) (ao:Option Addr) (n cap:Nat) (l:PL) (hs:a.eval s=.slice ao n cap) (hown:QOwn w B ao n cap l)
  (B2:Nat) (a2:Option Addr) (m c:Nat) (q:PL) (hx:a.eval x=.slice a2 m c) (hq:QOwn w B2 a2 m c q) (hB2:B≤B2) (hsep:∀x∈l,∀y∈q,∀k,x.1.has k→¬y.1.has k) (hb:n+m≤10737418240) (hB:B≤w.heap.size)
  (h:∀ao' cap' w',QOwn w' B ao' (n+m) cap' (l++q)→w.grownBy w' (Value.slice ao n cap).ownBlock→K (a.put o.dst (.slice ao' (n+m) cap')) w'):Oper.wp Tryz.prog o a w K Q:=by
 obtain⟨i0,hi,hz0,hz1,hz2⟩:=info_parts infoPa;have hlen:(pks l++pks q).length=n+m:=by rw[List.length_append,hown.row.1,hq.row.1]
 cases a2 with
 |none=>
  have hm:m=0∧c=0:=by
   rcases hq.row.2.2 with ⟨e,_⟩ | ⟨g,c',cur,e,_⟩
   ·simp only[Value.slice.injEq] at e;exact⟨e.2.1,e.2.2⟩
   ·simp at e
  obtain⟨rfl,rfl⟩:=hm;have hq0:q = []:=List.eq_nil_of_length_eq_zero hq.len;subst hq0;have hrun:=run_append_owned_none (P:=Tryz.prog) (w:=w) B 44 o.type 28 i0 25 Tryz.underlying44 hi (.slice ao n cap) n (pvals (pks l)) hown.row.2;refine qae (w':=w) (v:=.slice ao n cap) ?_ ?_
  ·simp[execOp,ho,resolve,invoke,builtin,hs,hx,hrun,Result.andThen]
  ·have:=h ao cap w (by simpa using hown) (World.grownBy.refl _ _)
   simpa using this
 |some ad=>
  have hr:=hq.row;refine wp_append_own w s x 44 ho B 28 i0 (.agg Pk.zero.cells) 25 320 Tryz.underlying44 hi hz0 hz1 hz2 rfl (by decide) (.slice ao n cap) n (pvals (pks l)) hs hown.row.2 ad m c (pvals (pks q)) hx (by rw[qgu,hr.1]) ?_ (qri _) (by unfold maxLen;omega) (by omega) hB ?_
  ·intro j v hv
   rcases hr.2.2 with ⟨e,_⟩ | ⟨g,c',cur,e,_⟩
   ·simp at e
   ·simp only[Value.slice.injEq,Option.some.injEq] at e;obtain⟨rfl,_,_⟩:=e;have hj:j<m*25:=by
     have:=(List.getElem?_eq_some_iff.1 hv).1
     rwa [qgu,hr.1] at this
    rw[Addr.add_lit,Nat.zero_add,hr.2.cellAt j hj];exact hv
  ·intro v' w' hv hg _;rw[qtu] at hv;obtain⟨ao',cap',rfl,hown'⟩:=qtt hlen hv;refine h ao' cap' w' ⟨?_,?_,?_⟩ hg
   ·rw[pks_app];exact hown'
   ·intro y hy;rw[List.mem_append] at hy
    rcases hy with hy | hy
    ·exact (hown.own y hy).rowed hown.row hg
    ·exact ((hq.own y hy).low hB2).rowed hown.row hg
   ·rw[List.pairwise_append];exact⟨hown.dis,hq.dis,hsep⟩
def FBase (w wr u:World) (a6:Option Addr) (n6 c6:Nat) (x6:Bool) (g:Nat) (a8:Option Addr) (n8 c8:Nat) (x8:Bool) (l8:List UInt8):Prop :=
 RowB u w.heap.size a6 n6 c6 x6∧RowB u (w.heap.size+1) none 0 0 false∧RowB u g a8 n8 c8 x8∧RdIn u a8 n8 c8 l8∧Below w.heap.size w u∧w.heap.size+2≤u.heap.size
theorem FBase.row {w wr u u':World} {a6:Option Addr} {n6 c6:Nat} {x6:Bool} {g:Nat} {a8:Option Addr} {n8 c8:Nat} {x8:Bool} {l8:List UInt8} {ao:Option Addr} {m cap:Nat} {ps:List Pk} (h:FBase w wr u a6 n6 c6 x6 g a8 n8 c8 x8 l8) (hR:POwnR u (w.heap.size+2) ao m cap ps)
  (hg:u.grownBy u' (Value.slice ao m cap).ownBlock) (hlt:∀z,ao=some z→z.block<wr.heap.size) (h8:∀q,a8=some q→wr.heap.size≤q.block):FBase w wr u' a6 n6 c6 x6 g a8 n8 c8 x8 l8:=by
 obtain⟨h1,h2,h3,h4,h5,h6⟩:=h;refine⟨h1.row hR hg,h2.row hR hg,h3.row hR hg,h4.grown hg (fun q hq e=>?_),(qpx h5 h5.size (show POwnR u w.heap.size ao m cap ps from ⟨hR.1,qbc hR.2 (by omega)⟩) hg),Nat.le_trans h6 hg.size⟩;cases ao with
 |none=>simp[Value.ownBlock] at e
 |some z=>
  have e':q.block=z.block:=by simpa[Value.ownBlock] using e
  have:=hlt z rfl;have:=h8 q hq;omega
theorem feedAll_i (a:Option Addr) (n c:Nat) (h:List UInt8) (x:Bool) (b:Option Addr) (m d:Nat) (L:List (List UInt8)) (w:World) (hr:RdIn w a n c h) (hy:BsRd w b m d L) (hn:n+L.flatten.length≤1048576) (hm:m≤1048576) (hT:ErrTy w) :
  Calls Tryz.prog 37 #[.agg #[.slice a n c,.bool x],.slice b m d] w fun e w'=>∃a' n' c' v,e=.returned (.tuple #[.agg #[.slice a' n' c',.bool (qce h x L).2.1],v])∧RdIn w' a' n' c' (qce h x L).1∧(∀q,a'=some q→w.heap.size≤q.block)∧ManyL w w' v (qce h x L).2.2∧Below w.heap.size w w':=by
 have A0:RowB (w.alloc (.cells #[.slice a n c,.bool x] 51)) w.heap.size a n c x:=heap_alloc_new _ _;have b1:=qac w (.cells #[.slice a n c,.bool x] 51);have b2:=qac (w.alloc (.cells #[.slice a n c,.bool x] 51)) (.cells #[.slice none 0 0,.bool false] 51);have A:=A0.next b2;have Z:RowB ((w.alloc (.cells #[.slice a n c,.bool x] 51)).alloc (.cells #[.slice none 0 0,.bool false] 51)) (w.heap.size+1) none 0 0 false:=by
  have:=heap_alloc_new (w.alloc (.cells #[.slice a n c,.bool x] 51)) (.cells #[.slice none 0 0,.bool false] 51)
  rwa [World.size_alloc] at this
 have hb:=bel b1 b2;have hTl:1<w.heap.size:=World.block_lt_of_cell? _ _ hT;have HT:Hid (∀u,Below w.heap.size w u→ErrTy u):=fun u hu=>hT.below hu hTl
 have HY:Hid (∀u,Below w.heap.size w u→BsRd u b m d L):=fun u hu=>hy.below hu
 have HL:Hid (L.length=m):=hy.1;have hl:h.length=n:=hr.1.1;have hz2:w.heap.size+2≤((w.alloc (.cells #[.slice a n c,.bool x] 51)).alloc (.cells #[.slice none 0 0,.bool false] 51)).heap.size:=by simp
 have C:=qif a n c h x _ (hr.below hb) (by omega);obtain⟨F1,F2,F3,hF⟩ : ∃F1 F2 F3,qce h x L=(F1,F2,F3):=⟨_,_,_,rfl⟩;have HF:Hid (qce h x L=(F1,F2,F3)):=hF;rw[hF];simp only;clear A0 b1 b2 hT hTl hy hF hr;go_enter Tryz.func37,Tryz.ntmps37;go_wp2_with (first | refine qdy A rfl _ rfl rfl ?_ | fail)
 refine C.mono ?_;clear C;rintro e z ⟨a2,c2,rfl,hO,b3⟩;replace A:=A.next b3;replace Z:=Z.next b3;replace hb:=bel hb b3;have hz3:=Nat.le_trans hz2 b3.size;have hB2:∀q,a2=some q→w.heap.size+2≤q.block:=fun q hq=>Nat.le_trans hz2 (hO.block hq).1
 go_wp2_with (first | (refine qcg (a:=a2) (n:=n) (c:=c2) (x:=x) A rfl _ _ rfl rfl rfl rfl ?_;intro y1 A1 g1) | fail)
 have Z1:RowB y1 (w.heap.size+1) none 0 0 false:=(g1.block _ Z.lt (fun e=>by simp at e)).trans Z;have hO1:=(hO.mono hz2).cur (by omega) g1;replace hb:=qat hb g1 (Nat.le_refl _);have hz4:=Nat.le_trans hz3 g1.size;have b5:=qac y1 (.cells #[] 28)
 go_loopw [6,16] (fun v i wr=>∃(t:Nat) (a5:Option Addr) (c5:Nat) (q:PL) (a6:Option Addr) (n6 c6:Nat) (x6:Bool) (h6:List UInt8),i=.int .i64 t∧v=.slice a5 (List.length q) c5∧t≤m∧RowB wr w.heap.size a6 n6 c6 x6∧RowB wr (w.heap.size+1) none 0 0 false∧RdIn wr a6 n6 c6 h6∧(∀q,a6=some q→w.heap.size+2≤q.block)∧QOwn wr (w.heap.size+2) a5 q.length c5 q∧(∀x∈q,Pgd 1048576 x.1 x.2)∧n6+(L.drop t).flatten.length≤1048576∧q.length+(n6+(L.drop t).flatten.length)≤1048576∧Hid ((F1,F2,F3)=((qce h6 x6 (L.drop t)).1,(qce h6 x6 (L.drop t)).2.1,pvs q++(qce h6 x6 (L.drop t)).2.2))∧w.heap.size+2≤wr.heap.size∧Below w.heap.size w wr) (fun _ i _=>m-(intOf i).toNat)
 case atStart=>exact⟨0,_,_,[],a2,n,c2,x,h,rfl,rfl,Nat.zero_le _,A1.next b5,Z1.next b5,hO1.rd.below b5,hB2,(qls y1).mono hz4,fun x hx=>(by cases hx),by simpa using hn,by simpa using hn,(by show _=_;rw[←HF.out];simp[pvs]),Nat.le_trans hz4 b5.size,bel hb b5⟩
 case round=>
  clear A Z hO A1 Z1 hO1 hB2 hz2 hz3 hz4 b5 g1 hb b3;obtain⟨t,a5,c5,q,a6,n6,c6,x6,h6,rfl,rfl,ht,A,Z,hR,hB6,hQ,hG,hn6,hq6,HM,hz,hb⟩:=hrel;have HG:Hid (∀x∈q,Pgd 1048576 x.1 x.2):=hG;have HB:Hid (∀q,a6=some q→w.heap.size+2≤q.block):=hB6;clear hG hB6
  by_cases hlt:t<m
  ·have hlt':(t:Int)<m:=by omega
   obtain⟨b0,off,rfl,a7,k7,c7,hcell,hR7⟩:=(HY.out _ hb).2 t hlt;have hdr:=drop_cons L t [] (by rw[HL.out];exact hlt);generalize L.getD t []=y at hdr hR7;have hy7:y.length=k7:=hR7.1.1;have h66:h6.length=n6:=hR.1.1;have hflen:=feed_len h6 y x6;rw[hdr] at hn6 hq6;rw[List.flatten_cons,List.length_append] at hn6 hq6;have HD:Hid (L.drop t=y :: L.drop (t+1)):=hdr;obtain⟨G1,G2,G3,hg⟩ : ∃G1 G2 G3,feed h6 x6 y=(G1,G2,G3):=⟨_,_,_,rfl⟩;have HGF:Hid (feed h6 x6 y=(G1,G2,G3)):=hg;have C:=feed_i a6 n6 c6 h6 x6 a7 k7 c7 y wr hR hR7 (by omega) (HT.out _ hb);rw[hg] at C hflen;simp only at C hflen;clear hg hdr;go_wp2_with (first | refine qdy A rfl _ rfl rfl ?_ | fail)
   refine C.mono ?_;clear C;rintro e u2 ⟨a8,n8,c8,v,rfl,hR8,hB8,⟨a9,c9,q9,rfl,hQ9,hv9,hG9⟩,b3⟩;have HV9:Hid (pvs q9=G3):=hv9;have HG9:Hid (∀x∈q9,Pgd 1048576 x.1 x.2):=hG9;have HN8:Hid (∀q,a8=some q→w.heap.size+2≤q.block):=fun q hq=>Nat.le_trans hz (hB8 q hq)
   have HSP:Hid (∀x∈q,∀y∈q9,∀k,x.1.has k→¬y.1.has k):=fun x hx y hy k h1 h2=>by
    have h3:=((hQ.own x hx).lt h1).2;have h4:=((hQ9.own y hy).lt h2).1;omega
   have HV3:Hid (q9.length=G3.length):=by
    have e:=congrArg List.length HV9.out;rw[pvs_length] at e;exact e
   have hG3l:G3.length+G1.length≤n6+k7:=by
    have e:=feed_cnt h6 y x6;rw[HGF.out] at e;simp only at e;omega
   have hG1:G1.length=n8:=hR8.1.1;have b4:=qac u2 (.cells #[.slice none 0 0,.bool false] 51);have hs23:=b3.size;have A4:=(A.next b3).next b4;have Z4:=(Z.next b3).next b4;have hR4:=hR8.below b4;have hQ4:=(hQ.below b3).below b4;have hQ9':=hQ9.below b4;have hb4:=bel (bel hb b3) b4;have hW:RowB (u2.alloc (.cells #[.slice none 0 0,.bool false] 51)) u2.heap.size none 0 0 false:=heap_alloc_new _ _;have HU:Hid (w.heap.size+2≤u2.heap.size):=Nat.le_trans hz hs23;have HB8:Hid (∀q,a8=some q→wr.heap.size≤q.block):=hB8;have hne8:0<n8→∀q,a8=some q→some q.block≠some u2.heap.size:=fun h0 q hq e=>by
    obtain⟨b9,o9,e9,hc9⟩:=hR8.1.2 0 h0;rw[hq] at e9;have h1:=World.block_lt_of_cell? _ _ hc9;simp only[Option.some.injEq] at e9 e;rw[e9] at e;simp only at e h1;omega
   have HLT:Hid (∀z,a5=some z→z.block<wr.heap.size):=fun z hz=>(hQ.row.lt hz).2
   clear A Z hR hQ hQ9 hR8 hb hv9 hG9 hB8 b3;go_wp2_with (first | (refine qcg (a:=a8) (n:=n8) (c:=c8) (x:=G2) hW rfl _ _ rfl rfl rfl rfl ?_;intro y3 B3 g3) | fail)
   have A5:RowB y3 w.heap.size a6 n6 c6 x6:=(g3.block _ A4.lt (fun e=>by have:=HU.out;simp at e;omega)).trans A4;have Z5:RowB y3 (w.heap.size+1) none 0 0 false:=(g3.block _ Z4.lt (fun e=>by have:=HU.out;simp at e;omega)).trans Z4;have hR5:=hR4.grown' g3 hne8;have hQ5:QOwn y3 (w.heap.size+2) a5 q.length c5 q:=⟨hQ4.row.grown g3 (fun z e he=>by have h1:=HLT.out z e;simp at he;omega),fun x hx=>(hQ4.own x hx).grown g3 (fun k e hk=>by cases e;exact (hQ4.own x hx).neB hW hk),hQ4.dis⟩;have hQ95:QOwn y3 wr.heap.size a9 q9.length c9 q9:=⟨hQ9'.row.grown g3 (fun z e he=>by
    have hR:=hQ9'.row.2;rw[e] at hR;obtain⟨cur,hc⟩:=qbl hR;exact ty_ne hc hW (by decide) (by simpa using he)),fun x hx=>(hQ9'.own x hx).grown g3 (fun k e hk=>by cases e;exact (hQ9'.own x hx).neB hW hk),hQ9'.dis⟩
   have hb5:=qat hb4 g3 (by have:=HU.out;omega);have hs5:=Nat.le_trans HU.out (Nat.le_trans b4.size g3.size);clear A4 Z4 hR4 hQ4 hQ9' hb4 hW g3 b4 hne8;refine qda 4 (by kernel_rfl) rfl (fun i u u'=>(FBase w wr u a6 n6 c6 x6 u2.heap.size a8 n8 c8 G2 G1→FBase w wr u' a6 n6 c6 x6 u2.heap.size a8 n8 c8 G2 G1)∧(i≠3→u'=u)) (fun i v u=>match i with
    |0=>v=.agg #[.slice a8 n8 c8,.bool G2]
    |1=>v=.slice a5 (List.length q) c5
    |2=>v=.slice a9 (List.length q9) c9
    |3=>∃ao' cap',v=.slice ao' (q.length+q9.length) cap'∧QOwn u (w.heap.size+2) ao' (q.length+q9.length) cap' (q++q9)
    |_=>True) (fun k u=>FBase w wr u a6 n6 c6 x6 u2.heap.size a8 n8 c8 G2 G1∧(k=3→QOwn u (w.heap.size+2) a5 q.length c5 q∧QOwn u wr.heap.size a9 q9.length c9 q9)) ?_ ?_ ?_ ?_ ?_
   ·intro i j v u u' hi hj hr hne hR hG
    match j,hj,hr,hne,hG with
    |0,_,_,_,hG=>exact hG
    |1,_,_,_,hG=>exact hG
    |2,_,_,_,hG=>exact hG
    |3,_,_,hne,hG=>rw[hR.2 (fun e=>hne e.symm)];exact hG
    |(_+4),h,_,_,_=>omega
   ·exact fun i k u u' hi hk hr hne hR hH=>⟨hR.1 hH.1,fun e=>by rw[hR.2 (fun e'=>hne (e.trans e'.symm))];exact hH.2 e⟩
   ·exact fun k=>⟨⟨A5,Z5,B3,hR5,⟨hb5.os,hb5.tape,hb5.output,hb5.size,hb5.block⟩,hs5⟩,fun _=>⟨hQ5.drew,hQ95.drew⟩⟩
   ·intro i o ac u hi hk hH hdep
    match i,hi with
    |0,hi=>cases hi;exact qggo rfl (st_loadB hH.1.2.2.1 _ rfl (qevv hk 9 rfl rfl) ⟨_,rfl,⟨fun h=>h,fun _=>rfl⟩,rfl⟩)
    |1,hi=>cases hi;exact qggo rfl (qbd _ rfl (qevv hk 6 rfl rfl) ⟨_,rfl,⟨fun h=>h,fun _=>rfl⟩,rfl⟩)
    |2,hi=>cases hi;exact qggo rfl (qbd _ rfl (qevv hk 10 rfl rfl) ⟨_,rfl,⟨fun h=>h,fun _=>rfl⟩,rfl⟩)
    |3,hi=>cases hi;obtain⟨z1,hz1,rfl⟩:=hdep 1 _ _ rfl rfl rfl;obtain⟨z2,hz2,rfl⟩:=hdep 2 _ _ rfl rfl rfl;obtain⟨hX,hY⟩:=hH.2 rfl;refine qggo rfl (z_qapps _ _ rfl (w.heap.size+2) _ _ _ q (qab hz1) hX wr.heap.size _ _ _ q9 (qab hz2) hY hz HSP.out (by have:=HV3.out;omega) hH.1.2.2.2.2.2 ?_);intro ao' cap' u' hO hg;exact⟨_,rfl,⟨fun h=>h.row hX.row hg HLT.out HB8.out,fun h=>absurd rfl h⟩,ao',cap',rfl,hO⟩
    |(_+4),hi=>cases hi
   intro vs y9 hH hG a3_ h3;obtain⟨⟨A9,Z9,W9,R9,b9,s9⟩,_⟩:=hH;have e0:=hG 0 (by decide);replace e0:vs 0=.agg #[.slice a8 n8 c8,.bool G2]:=e0;obtain⟨ao',cap',e3,Q9⟩:=hG 3 (by decide);clear hG;replace h3:puts _ 1 _ (Act.mk #[_,_,_,_,_,_,_,_,_,_,_,_,_,_,_,_,_,_,_,_,_,_,_,_,_,_,_,_,_,_,_,_,_] [])=a3_:=h3;replace h3:puts _ 2 _ (Act.mk #[_,_,_,_,_,_,_,_,_,_,_,_,_,_,_,_,_,_,_,_,_,_,_,_,_,_,_,_,_,_,_,_,_] [])=a3_:=h3;replace h3:puts _ 3 _ (Act.mk #[_,_,_,_,_,_,_,_,_,_,_,_,_,_,_,_,_,_,_,_,_,_,_,_,_,_,_,_,_,_,_,_,_] [])=a3_:=h3;replace h3:(Act.mk #[_,_,_,_,_,_,_,_,_,_,_,_,_,_,_,_,_,_,_,_,_,_,_,_,_,_,_,_,_,_,_,_,_] [])=a3_:=h3;subst h3;simp only[List.drop_succ_cons,List.drop_zero];simp only[e0,e3];clear e0 e3 A5 Z5 B3 hR5 hQ5 hQ95 hb5 hs5;refine qcg (a:=a8) (n:=n8) (c:=c8) (x:=G2) A9 rfl _ _ rfl rfl rfl rfl ?_;intro y10 A10 g10;have Z10:RowB y10 (w.heap.size+1) none 0 0 false:=(g10.block _ Z9.lt (fun e=>by simp at e)).trans Z9;have R10:=R9.grown g10 (fun z he e=>by
    have h1:=HN8.out z he;have h2:z.block=w.heap.size:=by simpa using e
    omega)
   have Q10:=Q9.cur (by omega) g10;have b10:=qat b9 g10 (Nat.le_refl _);have s10:=Nat.le_trans s9 g10.size;have HM2:Hid ((F1,F2,F3)=((qce G1 G2 (L.drop (t+1))).1,(qce G1 G2 (L.drop (t+1))).2.1,pvs (q++q9)++(qce G1 G2 (L.drop (t+1))).2.2)):=by
    have e:=HM.out;rw[HD.out,qsx,HGF.out] at e;show _=_;rw[e,qvj,HV9.out,List.append_assoc]
   have HG2:Hid (∀x∈q++q9,Pgd 1048576 x.1 x.2):=fun x hx=>by
    rw[List.mem_append] at hx
    rcases hx with hx | hx
    ·exact HG.out x hx
    ·exact HG9.out x hx
   clear A9 Z9 W9 R9 Q9 b9 s9 g10 HM HGF HG9;go_wp2;go_roundw
   case rel=>exact⟨t+1,ao',cap',q++q9,a8,n8,c8,G2,G1,by go_num,by rw[List.length_append],by omega,A10,Z10,R10,HN8.out,by rw[List.length_append];exact Q10,HG2.out,by omega,by rw[List.length_append,HV3.out];omega,HM2,s10,b10⟩
   case measure=>simp[intOf];omega
  ·have hlt':¬(t:Int)<m:=by omega
   rw[List.drop_of_length_le (by rw[HL.out];omega)] at HM;have HM2:Hid (F1=h6∧F2=x6∧F3=pvs q):=by
    have e:=HM.out;simp only[qce,List.append_nil,Prod.mk.injEq] at e;exact e
   clear HM;go_wp2_with (first | refine qdy A rfl _ rfl rfl ?_ | (refine qcg (a:=a6) (n:=n6) (c:=c6) (x:=x6) Z rfl _ _ rfl rfl rfl rfl ?_;intro w9 B9 g9) | fail)
   obtain⟨rfl,rfl,rfl⟩:=HM2.out;have hR9:RdIn w9 a6 n6 c6 F1:=hR.grown g9 (fun q he hq=>by
    have h3:=HB.out q he;have h1:q.block=w.heap.size+1:=by simpa using hq
    omega)
   exact qky rfl rfl rfl B9 rfl ⟨a6,_,_,_,rfl,hR9,fun q hq=>Nat.le_trans (by omega) (HB.out q hq),⟨_,_,q,rfl,(hQ.cur (by omega) g9).mono (by omega),rfl,HG.out⟩,qat hb g9 (by omega)⟩

theorem HH_le {A N:Nat} {S X:World→Prop} {k:Nat} {u:World} (h:HH A N S X k u) (hk:k≤A):S u:=by unfold HH at h;rwa [if_pos hk] at h
theorem HH_N {A N:Nat} {S X:World→Prop} {u:World} (h:HH A N S X N u) (hA:A<N):X u:=by unfold HH at h;rwa [if_neg (by omega),if_pos rfl] at h
theorem ints_row {u:World} {blk:Nat} {zs:List Int} (h:u.heap[blk]? = some (.cells (zs.map (Value.int .i64)).toArray 3)) (i:Nat) (hi:i<zs.length):u.cell? ⟨blk,i,none⟩ = some (.int .i64 (zs.getD i 0)):=by
 rw[qbr h];simp[List.getD_eq_getElem?_getD,List.getElem?_eq_getElem hi]
theorem mki1 (x:Int) (u:World):(Instr.buildSlice 26 1 #[(0,.int .i64 x)]).run Tryz.prog u=.ok (.slice (some ⟨u.heap.size,0,none⟩) 1 1) (u.alloc (.cells #[.int .i64 x] 3)):=by kernel_rfl
theorem mki4 (x y z v:Int) (u:World):(Instr.buildSlice 26 4 #[(0,.int .i64 x),(1,.int .i64 y),(2,.int .i64 z),(3,.int .i64 v)]).run Tryz.prog u=.ok (.slice (some ⟨u.heap.size,0,none⟩) 4 4) (u.alloc (.cells #[.int .i64 x,.int .i64 y,.int .i64 z,.int .i64 v] 3)):=by kernel_rfl
theorem mks1 (x:ByteArray) (u:World):(Instr.buildSlice 25 1 #[(0,.string x)]).run Tryz.prog u=.ok (.slice (some ⟨u.heap.size,0,none⟩) 1 1) (u.alloc (.cells #[.string x] 9)):=by kernel_rfl
theorem mkw1 (x:ByteArray) (q:Int) (u:World):(Instr.buildSlice 24 1 #[(0,.agg #[.string x,.int .i64 q])]).run Tryz.prog u=.ok (.slice (some ⟨u.heap.size,0,none⟩) 1 1) (u.alloc (.cells #[.string x,.int .i64 q] 88)):=by kernel_rfl
theorem z_build {o:Oper} {a:Act} {w:World} {K:Act→World→Prop} {Q:Exit→Act→World→Prop} {parts:Array (Nat×Operand)} {vs:Array (Nat×Value)} {r:Value} (t:TypeId) (ho:o.op=.build t parts) (hx:(parts.map fun (i,x)=>(i,a.eval x))=vs) (hr:(Instr.build t vs).run Tryz.prog w=.ok r w) (h:K (a.put o.dst r) w):Oper.wp Tryz.prog o a w K Q :=
 qae (w':=w) (v:=r) (by simp only[execOp,ho,hx,Sem.run_bind,hr,Result.andThen_ok,Sem.run_pure]) h
theorem bw (x:ByteArray) (q:Int) (u:World):(Instr.build 88 #[(0,.string x),(1,.int .i64 q)]).run Tryz.prog u=.ok (.agg #[.string x,.int .i64 q]) u:=by kernel_rfl
theorem cf_int (xs:Array Value) (u:World):(callFunc 79 xs).run Tryz.prog u=.ok (.enter 79 xs) u:=by kernel_rfl
theorem cf_bel (xs:Array Value) (u:World):(callFunc 78 xs).run Tryz.prog u=.ok (.enter 78 xs) u:=by kernel_rfl
theorem cf_fil (xs:Array Value) (u:World):(callFunc 145 xs).run Tryz.prog u=.ok (.enter 145 xs) u:=by kernel_rfl
theorem grow_all {α:Type} {P:α→Prop} {l:List α} {x:α} (h:∀z∈l,P z) (hx:P x):∀z∈l++[x],P z:=by
 intro z hz
 rcases List.mem_append.1 hz with h1 | h1
 ·exact h z h1
 ·rw[List.mem_singleton.1 h1];exact hx

theorem topics_ok:∀s∈quc,tpc s=true:=by decide +kernel
theorem topics_flt:∀s∈quc,flt s=true:=by decide +kernel
theorem filters_ok:∀s∈qrs,flt s=true:=by decide +kernel
theorem names5_ok:∀s∈names5,txt s=true:=by decide +kernel
theorem qip (g:Nat) (ao:Option Addr) (n cap:Nat) (l:List UInt8) (w:World) (hc:Cur w g ao n cap l) (hn:n≤1048576) :
  Calls Tryz.prog 144 #[.pointer (some ⟨g,0,none⟩)] w fun e w'=>∃s:ByteArray,s.size≤61∧tpc s=true∧flt s=true∧e=.returned (.string s)∧Cur w' g ao n cap l∧w.grownBy w' (some g):=by
 have hlt:=hc.lt;go_enter Tryz.func144,Tryz.ntmps144;go_wp2_with fail
 refine (qmv g ao n cap l w.heap.size 13 13 quc _ (hc.alloc _) hn (by omega) (by omega) rfl (fun i hi=>qmw w quc 9 i hi) (by omega)).mono ?_;rintro e w1 ⟨s,hs,rfl,hc1,hg1⟩;have hz:=qvt s hs;have ht:=topics_ok s hs;have hf:=topics_flt s hs;clear hs;go_wp2;go_ret;exact⟨s,hz,ht,hf,rfl,hc1,qap (World.grownBy_alloc _ _ _) hg1⟩
theorem qkh (g:Nat) (ao:Option Addr) (n cap:Nat) (l:List UInt8) (w:World) (hc:Cur w g ao n cap l) (hn:n≤1048576) :
  Calls Tryz.prog 145 #[.pointer (some ⟨g,0,none⟩)] w fun e w'=>∃s:ByteArray,s.size≤61∧flt s=true∧e=.returned (.string s)∧Cur w' g ao n cap l∧w.grownBy w' (some g):=by
 go_enter Tryz.func145,Tryz.ntmps145;go_wp2_with fail
 refine (qbq g ao n cap l 3 _ hc hn (by omega) (by omega)).mono ?_;rintro e w1 ⟨b,rfl,hc1,hg1⟩;cases b with
 |true=>
  go_wp2_with fail
  refine (qip g ao n cap l _ hc1 hn).mono ?_;rintro e w2 ⟨s,hz,ht,hf,rfl,hc2,hg2⟩;go_wp2;go_ret;exact⟨s,hz,hf,rfl,hc2,qap hg1 hg2⟩
 |false=>
  have hlt:=hc1.lt;go_wp2_with fail
  refine (qmv g ao n cap l w1.heap.size 16 16 qrs _ (hc1.alloc _) hn (by omega) (by omega) rfl (fun i hi=>qmw w1 qrs 9 i hi) (by omega)).mono ?_;rintro e w2 ⟨s,hs,rfl,hc2,hg2⟩;have hz:=qsy s hs;have hf:=filters_ok s hs;clear hs;go_wp2;go_ret;exact⟨s,hz,hf,rfl,hc2,qap hg1 (qap (World.grownBy_alloc _ _ _) hg2)⟩
theorem qtr (g:Nat) (ao:Option Addr) (n cap:Nat) (l:List UInt8) (w:World) (hc:Cur w g ao n cap l) (hn:n≤1048576) :
  Calls Tryz.prog 143 #[.pointer (some ⟨g,0,none⟩)] w fun e w'=>∃s:ByteArray,s.size≤61∧txt s=true∧e=.returned (.string s)∧Cur w' g ao n cap l∧w.grownBy w' (some g):=by
 have hlt:=hc.lt;go_enter Tryz.func143,Tryz.ntmps143;go_wp2_with fail
 refine (qmv g ao n cap l w.heap.size 5 5 names5 _ (hc.alloc _) hn (by omega) (by omega) rfl (fun i hi=>qmw w names5 9 i hi) (by omega)).mono ?_;rintro e w1 ⟨s,hs,rfl,hc1,hg1⟩;have hz:=qvf s hs;have ht:=names5_ok s hs;clear hs;go_wp2;go_ret;exact⟨s,hz,ht,rfl,hc1,qap (World.grownBy_alloc _ _ _) hg1⟩
theorem qcl {m:Nat} {w0 y:World} {g r b:Nat} {ao:Option Addr} {n cap:Nat} {l:List UInt8} {p:Pk} {d:Pd} {v:Pv} (s:St m w0 y g r b ao n cap l p d) (h:pv p d=v):∃p d,St m w0 y g r b ao n cap l p d∧pv p d=v:=⟨p,d,s,h⟩
theorem qlr (k:Int):pv (ofT k) dnil = { Pv.zero with ty:=k }:=rfl
theorem ok_id {k x:Int} (hk:k=4∨k=5∨k=6∨k=7∨k=11) (h0:0≤x) (h1:x<4):({ Pv.zero with ty:=k,id:=1+x } : Pv).ok=true:=by
 rcases hk with rfl | rfl | rfl | rfl | rfl<;>(simp[Pv.ok,Pv.named,Pv.body,Pv.zero,inB];omega)
theorem ok_no {k:Int} (hk:k=12∨k=13∨k=14):({ Pv.zero with ty:=k } : Pv).ok=true:=by
 rcases hk with rfl | rfl | rfl<;>simp[Pv.ok,Pv.named,Pv.body,Pv.zero,inB]
theorem ok_cack {c:Int} {b:Bool} (hc:0≤c∧c≤5) (hb:b=true→c=0):({ Pv.zero with ty:=2,cod:=c,pre:=b } : Pv).ok=true:=by
 cases b
 ·simp[Pv.ok,Pv.named,Pv.body,Pv.zero,inB];omega
 ·have:=hb rfl;subst this;decide +kernel
theorem ok_pub0 {t:ByteArray} {bd:List UInt8} {r:Bool} (ht:tpc t=true) (hb:bd.length≤40):({ Pv.zero with ty:=3,qos:=0,ret:=r,top:=t,bod:=bd } : Pv).ok=true:=by
 simp[Pv.ok,Pv.named,Pv.body,Pv.zero,inB,ht,hb]
theorem ok_pub {t:ByteArray} {bd:List UInt8} {r u:Bool} {q x:Int} (ht:tpc t=true) (hb:bd.length≤40) (hq:0<q) (hq2:q<3) (h0:0≤x) (h1:x<4):({ Pv.zero with ty:=3,qos:=q,ret:=r,top:=t,bod:=bd,id:=1+x,dup:=u } : Pv).ok=true:=by
 simp[Pv.ok,Pv.named,Pv.body,Pv.zero,inB,ht,hb,hq];omega
theorem ok_sub {ws:List (ByteArray×Int)} {x:Int} (h0:0≤x) (h1:x<4) (hl:1≤ws.length) (hm:ws.length≤4) (hw:∀z∈ws,flt z.1=true∧0≤z.2∧z.2≤2):({ Pv.zero with ty:=8,id:=1+x,wan:=ws } : Pv).ok=true:=by
 have e:ws.all (fun x=>flt x.1&&inB x.2 0 2)=true:=List.all_eq_true.2 fun z hz=>by
  have:=hw z hz;rw[this.1,qey this.2.1 this.2.2];rfl
 simp only[Pv.ok,Pv.named,Pv.body,Pv.zero,e];simp[inB];omega
theorem ok_uns {ns:List ByteArray} {x:Int} (h0:0≤x) (h1:x<4) (hl:1≤ns.length) (hm:ns.length≤4) (hw:∀z∈ns,flt z=true):({ Pv.zero with ty:=10,id:=1+x,nam:=ns } : Pv).ok=true:=by
 have e:ns.all (fun s=>flt s)=true:=List.all_eq_true.2 hw;simp only[Pv.ok,Pv.named,Pv.body,Pv.zero,e];simp[inB];omega
theorem ok_sack {cs:List Int} {x:Int} (h0:0≤x) (h1:x<4) (hl:1≤cs.length) (hm:cs.length≤4) (hw:∀c∈cs,(0≤c∧c≤2)∨c=128):({ Pv.zero with ty:=9,id:=1+x,cds:=cs } : Pv).ok=true:=by
 have e:cs.all (fun c=>inB c 0 2 || decide (c=128))=true:=List.all_eq_true.2 fun z hz=>by
  rcases hw z hz with h | h
  ·rw[qey h.1 h.2];rfl
  ·rw[decide_eq_true h];simp
 simp only[Pv.ok,Pv.named,Pv.body,Pv.zero,e];simp[inB];omega
theorem l5k_id4 (g:Nat) (ao:Option Addr) (n cap:Nat) (l:List UInt8) (k:Int) (w:World) (hc:Cur w g ao n cap l) (hn:n≤1048576) (t1:(k==1)=false) (t2:(k==2)=false) (t3:(k==3)=false) (t8:(k==8)=false) (t9:(k==9)=false) (t10:(k==10)=false) (t4:(k==4)=true) (t5:(k==5)=false) (t6:(k==6)=false) (t7:(k==7)=false) (t11:(k==11)=false) :
  Calls Tryz.prog 109 #[.pointer (some ⟨g,0,none⟩),.int .i64 k] w fun e w'=>∃p d,(pv p d).ok=true∧e=.returned (.agg (Pk.cells p))∧POwn w' w.heap.size p d∧Pgd 64 p d∧Cur w' g ao n cap l∧w.grownBy w' (some g):=by
 have s:=qiz g ao n cap l k w hc;have V:=qlr k;clear hc;go_enter Tryz.func109,Tryz.ntmps109
 go_upto_region 2 with (first | refine qaz (p:=ofT k) rfl rfl ?_ | refine al_pk ?_ | (refine bu_pk (ofT k) (by kernel_rfl) ?_) | fail)
 change Code.wp _ _ _ Fq164 _;unfold Fq164;simp only[World.size_alloc];go_wp2_with fail
 refine (qah g ao n cap l 4 _ s.cur hn (by omega) (by omega)).mono ?_;rintro e y25_ ⟨x,hx0,hx1,rfl,hc_,hg_⟩;replace s:=s.draw hc_ hg_;clear hc_ hg_;have c4:=(s.blk.cell 4).trans (Pk.c4 _);have z4:=Lib.frozen_of_heap s.blk 4;obtain⟨p,d,s,V⟩:=qcl (s.s4 (1+x)) (congrArg (fun v:Pv=>{ v with id:=1+x }) V);go_wp2_with (first | refine qaj s.blk rfl _ rfl rfl ?_ | (refine qag (q:=p) (old:=Pk.zero) s.res rfl rfl ?_;intro w9 B9 g9) | fail)
 exact qam rfl rfl B9 rfl ⟨p,d,(congrArg Pv.ok V).trans (ok_id (by simp at t4;omega) hx0 hx1),rfl,s.done g9⟩

theorem l5k_id5 (g:Nat) (ao:Option Addr) (n cap:Nat) (l:List UInt8) (k:Int) (w:World) (hc:Cur w g ao n cap l) (hn:n≤1048576) (t1:(k==1)=false) (t2:(k==2)=false) (t3:(k==3)=false) (t8:(k==8)=false) (t9:(k==9)=false) (t10:(k==10)=false) (t4:(k==4)=false) (t5:(k==5)=true) (t6:(k==6)=false) (t7:(k==7)=false) (t11:(k==11)=false) :
  Calls Tryz.prog 109 #[.pointer (some ⟨g,0,none⟩),.int .i64 k] w fun e w'=>∃p d,(pv p d).ok=true∧e=.returned (.agg (Pk.cells p))∧POwn w' w.heap.size p d∧Pgd 64 p d∧Cur w' g ao n cap l∧w.grownBy w' (some g):=by
 have s:=qiz g ao n cap l k w hc;have V:=qlr k;clear hc;go_enter Tryz.func109,Tryz.ntmps109
 go_upto_region 2 with (first | refine qaz (p:=ofT k) rfl rfl ?_ | refine al_pk ?_ | (refine bu_pk (ofT k) (by kernel_rfl) ?_) | fail)
 change Code.wp _ _ _ Fq164 _;unfold Fq164;simp only[World.size_alloc];go_wp2_with fail
 refine (qah g ao n cap l 4 _ s.cur hn (by omega) (by omega)).mono ?_;rintro e y26_ ⟨x,hx0,hx1,rfl,hc_,hg_⟩;replace s:=s.draw hc_ hg_;clear hc_ hg_;have c4:=(s.blk.cell 4).trans (Pk.c4 _);have z4:=Lib.frozen_of_heap s.blk 4;obtain⟨p,d,s,V⟩:=qcl (s.s4 (1+x)) (congrArg (fun v:Pv=>{ v with id:=(1+x) }) V);go_wp2_with (first | refine qaj s.blk rfl _ rfl rfl ?_ | (refine qag (q:=p) (old:=Pk.zero) s.res rfl rfl ?_;intro w9 B9 g9) | fail)
 exact qam rfl rfl B9 rfl ⟨p,d,(congrArg Pv.ok V).trans (ok_id (by simp at t5;omega) hx0 hx1),rfl,s.done g9⟩
theorem l5k_id6 (g:Nat) (ao:Option Addr) (n cap:Nat) (l:List UInt8) (k:Int) (w:World) (hc:Cur w g ao n cap l) (hn:n≤1048576) (t1:(k==1)=false) (t2:(k==2)=false) (t3:(k==3)=false) (t8:(k==8)=false) (t9:(k==9)=false) (t10:(k==10)=false) (t4:(k==4)=false) (t5:(k==5)=false) (t6:(k==6)=true) (t7:(k==7)=false) (t11:(k==11)=false) :
  Calls Tryz.prog 109 #[.pointer (some ⟨g,0,none⟩),.int .i64 k] w fun e w'=>∃p d,(pv p d).ok=true∧e=.returned (.agg (Pk.cells p))∧POwn w' w.heap.size p d∧Pgd 64 p d∧Cur w' g ao n cap l∧w.grownBy w' (some g):=by
 have s:=qiz g ao n cap l k w hc;have V:=qlr k;clear hc;go_enter Tryz.func109,Tryz.ntmps109
 go_upto_region 2 with (first | refine qaz (p:=ofT k) rfl rfl ?_ | refine al_pk ?_ | (refine bu_pk (ofT k) (by kernel_rfl) ?_) | fail)
 change Code.wp _ _ _ Fq164 _;unfold Fq164;simp only[World.size_alloc];go_wp2_with fail
 refine (qah g ao n cap l 4 _ s.cur hn (by omega) (by omega)).mono ?_;rintro e y27_ ⟨x,hx0,hx1,rfl,hc_,hg_⟩;replace s:=s.draw hc_ hg_;clear hc_ hg_;have c4:=(s.blk.cell 4).trans (Pk.c4 _);have z4:=Lib.frozen_of_heap s.blk 4;obtain⟨p,d,s,V⟩:=qcl (s.s4 (1+x)) (congrArg (fun v:Pv=>{ v with id:=(1+x) }) V);go_wp2_with (first | refine qaj s.blk rfl _ rfl rfl ?_ | (refine qag (q:=p) (old:=Pk.zero) s.res rfl rfl ?_;intro w9 B9 g9) | fail)
 exact qam rfl rfl B9 rfl ⟨p,d,(congrArg Pv.ok V).trans (ok_id (by simp at t6;omega) hx0 hx1),rfl,s.done g9⟩
theorem l5k_id7 (g:Nat) (ao:Option Addr) (n cap:Nat) (l:List UInt8) (k:Int) (w:World) (hc:Cur w g ao n cap l) (hn:n≤1048576) (t1:(k==1)=false) (t2:(k==2)=false) (t3:(k==3)=false) (t8:(k==8)=false) (t9:(k==9)=false) (t10:(k==10)=false) (t4:(k==4)=false) (t5:(k==5)=false) (t6:(k==6)=false) (t7:(k==7)=true) (t11:(k==11)=false) :
  Calls Tryz.prog 109 #[.pointer (some ⟨g,0,none⟩),.int .i64 k] w fun e w'=>∃p d,(pv p d).ok=true∧e=.returned (.agg (Pk.cells p))∧POwn w' w.heap.size p d∧Pgd 64 p d∧Cur w' g ao n cap l∧w.grownBy w' (some g):=by
 have s:=qiz g ao n cap l k w hc;have V:=qlr k;clear hc;go_enter Tryz.func109,Tryz.ntmps109
 go_upto_region 2 with (first | refine qaz (p:=ofT k) rfl rfl ?_ | refine al_pk ?_ | (refine bu_pk (ofT k) (by kernel_rfl) ?_) | fail)
 change Code.wp _ _ _ Fq164 _;unfold Fq164;simp only[World.size_alloc];go_wp2_with fail
 refine (qah g ao n cap l 4 _ s.cur hn (by omega) (by omega)).mono ?_;rintro e y28_ ⟨x,hx0,hx1,rfl,hc_,hg_⟩;replace s:=s.draw hc_ hg_;clear hc_ hg_;have c4:=(s.blk.cell 4).trans (Pk.c4 _);have z4:=Lib.frozen_of_heap s.blk 4;obtain⟨p,d,s,V⟩:=qcl (s.s4 (1+x)) (congrArg (fun v:Pv=>{ v with id:=(1+x) }) V);go_wp2_with (first | refine qaj s.blk rfl _ rfl rfl ?_ | (refine qag (q:=p) (old:=Pk.zero) s.res rfl rfl ?_;intro w9 B9 g9) | fail)
 exact qam rfl rfl B9 rfl ⟨p,d,(congrArg Pv.ok V).trans (ok_id (by simp at t7;omega) hx0 hx1),rfl,s.done g9⟩
theorem l5k_id11 (g:Nat) (ao:Option Addr) (n cap:Nat) (l:List UInt8) (k:Int) (w:World) (hc:Cur w g ao n cap l) (hn:n≤1048576) (t1:(k==1)=false) (t2:(k==2)=false) (t3:(k==3)=false) (t8:(k==8)=false) (t9:(k==9)=false) (t10:(k==10)=false) (t4:(k==4)=false) (t5:(k==5)=false) (t6:(k==6)=false) (t7:(k==7)=false) (t11:(k==11)=true) :
  Calls Tryz.prog 109 #[.pointer (some ⟨g,0,none⟩),.int .i64 k] w fun e w'=>∃p d,(pv p d).ok=true∧e=.returned (.agg (Pk.cells p))∧POwn w' w.heap.size p d∧Pgd 64 p d∧Cur w' g ao n cap l∧w.grownBy w' (some g):=by
 have s:=qiz g ao n cap l k w hc;have V:=qlr k;clear hc;go_enter Tryz.func109,Tryz.ntmps109
 go_upto_region 2 with (first | refine qaz (p:=ofT k) rfl rfl ?_ | refine al_pk ?_ | (refine bu_pk (ofT k) (by kernel_rfl) ?_) | fail)
 change Code.wp _ _ _ Fq164 _;unfold Fq164;simp only[World.size_alloc];go_wp2_with fail
 refine (qah g ao n cap l 4 _ s.cur hn (by omega) (by omega)).mono ?_;rintro e y29_ ⟨x,hx0,hx1,rfl,hc_,hg_⟩;replace s:=s.draw hc_ hg_;clear hc_ hg_;have c4:=(s.blk.cell 4).trans (Pk.c4 _);have z4:=Lib.frozen_of_heap s.blk 4;obtain⟨p,d,s,V⟩:=qcl (s.s4 (1+x)) (congrArg (fun v:Pv=>{ v with id:=(1+x) }) V);go_wp2_with (first | refine qaj s.blk rfl _ rfl rfl ?_ | (refine qag (q:=p) (old:=Pk.zero) s.res rfl rfl ?_;intro w9 B9 g9) | fail)
 exact qam rfl rfl B9 rfl ⟨p,d,(congrArg Pv.ok V).trans (ok_id (by simp at t11;omega) hx0 hx1),rfl,s.done g9⟩
theorem l5k_no (g:Nat) (ao:Option Addr) (n cap:Nat) (l:List UInt8) (k:Int) (w:World) (hc:Cur w g ao n cap l) (hn:n≤1048576) (t1:(k==1)=false) (t2:(k==2)=false) (t3:(k==3)=false) (t8:(k==8)=false) (t9:(k==9)=false) (t10:(k==10)=false) (t4:(k==4)=false) (t5:(k==5)=false) (t6:(k==6)=false) (t7:(k==7)=false) (t11:(k==11)=false) (h14:k=12∨k=13∨k=14) :
  Calls Tryz.prog 109 #[.pointer (some ⟨g,0,none⟩),.int .i64 k] w fun e w'=>∃p d,(pv p d).ok=true∧e=.returned (.agg (Pk.cells p))∧POwn w' w.heap.size p d∧Pgd 64 p d∧Cur w' g ao n cap l∧w.grownBy w' (some g):=by
 have s:=qiz g ao n cap l k w hc;have V:=qlr k;clear hc;go_enter Tryz.func109,Tryz.ntmps109
 go_upto_region 2 with (first | refine qaz (p:=ofT k) rfl rfl ?_ | refine al_pk ?_ | (refine bu_pk (ofT k) (by kernel_rfl) ?_) | fail)
 change Code.wp _ _ _ Fq164 _;unfold Fq164;simp only[World.size_alloc];go_wp2_with fail
 refine (qah g ao n cap l 4 _ s.cur hn (by omega) (by omega)).mono ?_;rintro e y30_ ⟨x,hx0,hx1,rfl,hc_,hg_⟩;replace s:=s.draw hc_ hg_;clear hc_ hg_;go_wp2_with (first | refine qaj s.blk rfl _ rfl rfl ?_ | (refine qag (q:=ofT k) (old:=Pk.zero) s.res rfl rfl ?_;intro w9 B9 g9) | fail)
 exact qam rfl rfl B9 rfl ⟨ofT k,dnil,(congrArg Pv.ok V).trans (ok_no h14),rfl,s.done g9⟩

theorem l5k_ack (g:Nat) (ao:Option Addr) (n cap:Nat) (l:List UInt8) (k:Int) (w:World) (hc:Cur w g ao n cap l) (hn:n≤1048576) (t1:(k==1)=false) (t2:(k==2)=true) (t3:(k==3)=false) (t8:(k==8)=false) (t9:(k==9)=false) (t10:(k==10)=false) (t4:(k==4)=false) (t5:(k==5)=false) (t6:(k==6)=false) (t7:(k==7)=false) (t11:(k==11)=false) :
  Calls Tryz.prog 109 #[.pointer (some ⟨g,0,none⟩),.int .i64 k] w fun e w'=>∃p d,(pv p d).ok=true∧e=.returned (.agg (Pk.cells p))∧POwn w' w.heap.size p d∧Pgd 64 p d∧Cur w' g ao n cap l∧w.grownBy w' (some g):=by
 have s:=qiz g ao n cap l k w hc;have V:=qlr k;clear hc;go_enter Tryz.func109,Tryz.ntmps109
 go_upto_region 2 with (first | refine qaz (p:=ofT k) rfl rfl ?_ | refine al_pk ?_ | (refine bu_pk (ofT k) (by kernel_rfl) ?_) | fail)
 change Code.wp _ _ _ Fq164 _;unfold Fq164;simp only[World.size_alloc];go_wp2_with fail
 refine (qah g ao n cap l 4 _ s.cur hn (by omega) (by omega)).mono ?_;rintro e y15_ ⟨x,hx0,hx1,rfl,hc_,hg_⟩;replace s:=s.draw hc_ hg_;clear hc_ hg_;have sn:=s.new (qac _ (.cells (List.map (Value.int .i64) [(0:Int),(0:Int),(0:Int),(1:Int),(2:Int),(5:Int)]).toArray 3));have lts:=s.cur.lt;go_wp2_with fail
 refine (qez g ao n cap l _ 6 6 [(0:Int),(0:Int),(0:Int),(1:Int),(2:Int),(5:Int)] _ sn.cur hn (by omega) (by omega) rfl (fun i hi=>qrw _ [(0:Int),(0:Int),(0:Int),(1:Int),(2:Int),(5:Int)] _ (by simp) i hi) (by (try simp at lts);omega)).mono ?_;rintro e y16_ ⟨cc,hcc,rfl,hc_,hg_⟩;replace s:=sn.draw hc_ hg_;clear hc_ hg_;clear sn lts;have c20:=(s.blk.cell 20).trans (Pk.c20 _);have z20:=Lib.frozen_of_heap s.blk 20;obtain⟨p,d,s,V⟩:=qcl (s.s20 cc) (congrArg (fun v:Pv=>{ v with cod:=cc }) V);have hc5:0≤cc∧cc≤5:=by simp at hcc;omega
 clear hcc
 by_cases h0:cc=0
 ·have e0:(cc==0)=true:=by simpa using h0
  clear h0;have c21:=(s.blk.cell 21).trans (Pk.c21 _);go_wp2_with fail
  refine (qbq g ao n cap l 2 _ s.cur hn (by omega) (by omega)).mono ?_;rintro e y17_ ⟨bb,rfl,hc_,hg_⟩;replace s:=s.draw hc_ hg_;clear hc_ hg_;have c21:=(s.blk.cell 21).trans (Pk.c21 _);have z21:=Lib.frozen_of_heap s.blk 21;obtain⟨p,d,s,V⟩:=qcl (s.s21 bb) (congrArg (fun v:Pv=>{ v with pre:=bb }) V);go_wp2_with (first | refine qaj s.blk rfl _ rfl rfl ?_ | (refine qag (q:=p) (old:=Pk.zero) s.res rfl rfl ?_;intro w9 B9 g9) | fail)
  exact qam rfl rfl B9 rfl ⟨p,d,(congrArg Pv.ok V).trans ((by obtain rfl:k=2:=(by simpa using t2);exact ok_cack hc5 (fun _=>(by simpa using e0)))),rfl,s.done g9⟩
 ·have e0:(cc==0)=false:=by simpa using h0
  clear h0;have c21:=(s.blk.cell 21).trans (Pk.c21 _);have z21:=Lib.frozen_of_heap s.blk 21;obtain⟨p,d,s,V⟩:=qcl (s.s21 false) (congrArg (fun v:Pv=>{ v with pre:=false }) V);go_wp2_with (first | refine qaj s.blk rfl _ rfl rfl ?_ | (refine qag (q:=p) (old:=Pk.zero) s.res rfl rfl ?_;intro w9 B9 g9) | fail)
  exact qam rfl rfl B9 rfl ⟨p,d,(congrArg Pv.ok V).trans ((by obtain rfl:k=2:=(by simpa using t2);exact ok_cack hc5 (fun h=>(by cases h)))),rfl,s.done g9⟩

theorem l5k_pub (g:Nat) (ao:Option Addr) (n cap:Nat) (l:List UInt8) (k:Int) (w:World) (hc:Cur w g ao n cap l) (hn:n≤1048576) (t1:(k==1)=false) (t2:(k==2)=false) (t3:(k==3)=true) (t8:(k==8)=false) (t9:(k==9)=false) (t10:(k==10)=false) (t4:(k==4)=false) (t5:(k==5)=false) (t6:(k==6)=false) (t7:(k==7)=false) (t11:(k==11)=false) :
  Calls Tryz.prog 109 #[.pointer (some ⟨g,0,none⟩),.int .i64 k] w fun e w'=>∃p d,(pv p d).ok=true∧e=.returned (.agg (Pk.cells p))∧POwn w' w.heap.size p d∧Pgd 64 p d∧Cur w' g ao n cap l∧w.grownBy w' (some g):=by
 have s:=qiz g ao n cap l k w hc;have V:=qlr k;clear hc;go_enter Tryz.func109,Tryz.ntmps109
 go_upto_region 2 with (first | refine qaz (p:=ofT k) rfl rfl ?_ | refine al_pk ?_ | (refine bu_pk (ofT k) (by kernel_rfl) ?_) | fail)
 change Code.wp _ _ _ Fq164 _;unfold Fq164;simp only[World.size_alloc];go_wp2_with fail
 refine (qah g ao n cap l 4 _ s.cur hn (by omega) (by omega)).mono ?_;rintro e y18_ ⟨x,hx0,hx1,rfl,hc_,hg_⟩;replace s:=s.draw hc_ hg_;clear hc_ hg_;go_wp2_with fail
 refine (qah g ao n cap l 3 _ s.cur hn (by omega) (by omega)).mono ?_;rintro e y19_ ⟨q,hq0,hq1,rfl,hc_,hg_⟩;replace s:=s.draw hc_ hg_;clear hc_ hg_;have c2:=(s.blk.cell 2).trans (Pk.c2 _);have z2:=Lib.frozen_of_heap s.blk 2;obtain⟨p,d,s,V⟩:=qcl (s.s2 q) (congrArg (fun v:Pv=>{ v with qos:=q }) V);go_wp2_with fail
 refine (qbq g ao n cap l 4 _ s.cur hn (by omega) (by omega)).mono ?_;rintro e y20_ ⟨br,rfl,hc_,hg_⟩;replace s:=s.draw hc_ hg_;clear hc_ hg_;have c3:=(s.blk.cell 3).trans (Pk.c3 _);have z3:=Lib.frozen_of_heap s.blk 3;obtain⟨p,d,s,V⟩:=qcl (s.s3 br) (congrArg (fun v:Pv=>{ v with ret:=br }) V);go_wp2_with fail
 refine (qip g ao n cap l _ s.cur hn).mono ?_;rintro e y21_ ⟨tt,htt,htp,htf,rfl,hc_,hg_⟩;replace s:=s.draw hc_ hg_;clear hc_ hg_;have c5:=(s.blk.cell 5).trans (Pk.c5 _);have z5:=Lib.frozen_of_heap s.blk 5;obtain⟨p,d,s,V⟩:=qcl (s.s5 tt htt) (congrArg (fun v:Pv=>{ v with top:=tt }) V);have sn:=s.new (qac _ (.cells (List.map (Value.int .i64) [(0:Int),(1:Int),(2:Int),(40:Int)]).toArray 3));have lts:=s.cur.lt;go_wp2_with fail
 refine (qez g ao n cap l _ 4 4 [(0:Int),(1:Int),(2:Int),(40:Int)] _ sn.cur hn (by omega) (by omega) rfl (fun i hi=>qrw _ [(0:Int),(1:Int),(2:Int),(40:Int)] _ (by simp) i hi) (by (try simp at lts);omega)).mono ?_;rintro e y22_ ⟨mm,hmm,rfl,hc_,hg_⟩;replace s:=sn.draw hc_ hg_;clear hc_ hg_;clear sn lts;have hmm2:0≤mm∧mm≤40:=by simp at hmm;omega
 obtain⟨m,rfl⟩:=Int.eq_ofNat_of_zero_le hmm2.1;go_wp2_with fail
 refine (qdd g ao n cap l m _ s.cur hn (by omega)).mono ?_;rintro e y23_ ⟨ba,bc,bx,rfl,hb_,hc_,hg_⟩;have s2_:=s.draw hc_ hg_;have c6:=(s2_.blk.cell 6).trans (Pk.c6 _);have z6:=Lib.frozen_of_heap s2_.blk 6;have hbl_:=hb_.1;obtain⟨p,d,s,V⟩:=qcl (s.n6 hc_ hg_ hb_ (by omega)) (congrArg (fun v:Pv=>{ v with bod:=bx }) V);clear hc_ hg_ hb_ s2_;have c2:=(s.blk.cell 2).trans (Pk.c2 _);have eq:p.qos=q:=congrArg Pv.qos V
 by_cases h0:0<p.qos
 ·have hq3:0<q:=by omega
  have c4:=(s.blk.cell 4).trans (Pk.c4 _);have z4:=Lib.frozen_of_heap s.blk 4;obtain⟨p,d,s,V⟩:=qcl (s.s4 (1+x)) (congrArg (fun v:Pv=>{ v with id:=(1+x) }) V);go_wp2_with fail
  refine (qbq g ao n cap l 4 _ s.cur hn (by omega) (by omega)).mono ?_;rintro e y24_ ⟨bd,rfl,hc_,hg_⟩;replace s:=s.draw hc_ hg_;clear hc_ hg_;have c1:=(s.blk.cell 1).trans (Pk.c1 _);have z1:=Lib.frozen_of_heap s.blk 1;obtain⟨p,d,s,V⟩:=qcl (s.s1 bd) (congrArg (fun v:Pv=>{ v with dup:=bd }) V);go_wp2_with (first | refine qaj s.blk rfl _ rfl rfl ?_ | (refine qag (q:=p) (old:=Pk.zero) s.res rfl rfl ?_;intro w9 B9 g9) | fail)
  exact qam rfl rfl B9 rfl ⟨p,d,(congrArg Pv.ok V).trans ((by obtain rfl:k=3:=(by simpa using t3);exact ok_pub htp (by omega) hq3 hq1 hx0 hx1)),rfl,s.done g9⟩
 ·go_wp2_with (first | refine qaj s.blk rfl _ rfl rfl ?_ | (refine qag (q:=p) (old:=Pk.zero) s.res rfl rfl ?_;intro w9 B9 g9) | fail)
  exact qam rfl rfl B9 rfl ⟨p,d,(congrArg Pv.ok V).trans ((by obtain rfl:k=3:=(by simpa using t3);obtain rfl:q=0:=(by have:=eq;omega);exact ok_pub0 htp (by omega))),rfl,s.done g9⟩
