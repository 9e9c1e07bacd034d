/- Lemmas. -/
import Derived.Test.YtobgmpaalnpdcaaGreatDoorV16
import Derived.Test.YtobgmpaalnpdcaaGreatDoorV12
import Derived.Test.YtobgmpaalnpdcaaGreatDoorV01
set_option linter.unusedVariables false
set_option linter.unusedSimpArgs false
set_option maxRecDepth 100000
set_option maxHeartbeats 20000000
namespace Go.Proofs.YtobgmpaalnpdcaaGreatDoor
open Go.RowKit

def byte (x:Int):UInt8:=UInt8.ofNat (x%256).toNat
theorem qhh (x:Int):(((byte x).toNat:Nat):Int)=x%256:=by
 unfold byte;simp;omega
def bit (b:Bool) (n:Int):Int:=if b then n else 0
theorem qdd (b:Bool) (n:Int) (h:0≤n):0≤bit b n∧bit b n≤n:=by unfold bit;split<;>omega
def pT (s:ByteArray):List UInt8:=if okT s.data.toList then wordB s.size++s.data.toList else []
def pB (x:List UInt8):List UInt8:=if x.length≤60 then wordB x.length++x else []
theorem qcy (l:List UInt8) (s:ByteArray):putT l s=l++pT s:=by
 unfold putT pT
 split
 ·rfl
 ·rw[List.append_nil]
theorem qfr (l x:List UInt8):putB l x=l++pB x:=by
 unfold putB pB
 split
 ·rfl
 ·rw[List.append_nil]
def mqtt:ByteArray:=⟨#[77,81,84,84]⟩
def conF (cln hw:Bool) (wq:Int) (wr hp hu:Bool):Int:=bit cln 2+bit hw 4+8*wq+bit wr 32+bit hp 64+bit hu 128
def conB (lev:Int) (cli:ByteArray) (cln:Bool) (kee:Int) (hw:Bool) (wt:ByteArray) (wb:List UInt8) (wq:Int) (wr:Bool) (hu:Bool) (us:ByteArray) (hp:Bool) (pa:List UInt8):List UInt8 :=
 (((pT mqtt++[byte lev,byte (conF cln hw wq wr hp hu)])++wordB kee++pT cli)++(if hw then pT wt++pB wb else [])++(if hu then pT us else []))++(if hp then pB pa else [])
def pubB (qos id:Int) (top:ByteArray) (b:List UInt8):List UInt8:=(pT top++(if 0<qos then wordB id else []))++b
def pubL (dup:Bool) (qos:Int) (ret:Bool):Int:=bit dup 8+2*qos+bit ret 1

def Row (w:World) (g:Nat) (cs:Array Value) (T:TypeId):Prop:=w.heap[g]? = some (.cells cs T)
theorem Row.new (w:World) (cs:Array Value) (T:TypeId):Row (w.alloc (.cells cs T)) w.heap.size cs T:=heap_alloc_new _ _
theorem Row.lt {w:World} {g:Nat} {cs:Array Value} {T:TypeId} (h:Row w g cs T):g<w.heap.size:=(Array.getElem?_eq_some_iff.1 h).1
theorem Row.next {w w':World} {g:Nat} {cs:Array Value} {T:TypeId} (h:Row w g cs T) (hb:Below w.heap.size w w'):Row w' g cs T:=(hb.block g h.lt).trans h
theorem Row.cell {w:World} {g:Nat} {cs:Array Value} {T:TypeId} (h:Row w g cs T) (i:Nat) {v:Value} (hv:cs[i]? = some v):w.cell? ⟨g,i,none⟩ = some v:=(cell_of_row w g i cs _ (0,0) h).trans hv

theorem z_ld {o:Oper} {a:Act} {w:World} {K:Act→World→Prop} {Q:Exit→Act→World→Prop} {X:Addr} {v:Value} (τ:TypeId) (x:Operand) (ho:o.op=.load τ x) (hx:a.eval x=.pointer (some X)) (ht:(Tryz.prog.underlying τ).map (fun d=>match d with | .struct _ | .array _ _=>true | _=>false)=some false) (hc:w.cell? X=some v) (h:K (a.put o.dst v) w):Oper.wp Tryz.prog o a w K Q:=by
 cases e:Tryz.prog.underlying τ with
 |none=>rw[e] at ht;cases ht
 |some d=>
  rw[e] at ht;exact z_load τ x ho hx e (by cases d<;>first | rfl | cases ht) hc h
theorem qmg (w:World) (B:Nat) (hB:B≤w.heap.size) (x:Int):Own (w.alloc (.cells #[.int .u8 (x%256)] 5)) B (some ⟨w.heap.size,0,none⟩) 1 1 [byte x]:=by
 refine⟨rfl,by simp[bvals],.inr ⟨w.heap.size,1,_,rfl,hB,heap_alloc_new w _,Nat.le_refl _,by decide,rfl,?_⟩⟩;simp[bvals,qhh]
theorem own_b2 (w:World) (B:Nat) (hB:B≤w.heap.size) (x y:Int):Own (w.alloc (.cells #[.int .u8 (x%256),.int .u8 (y%256)] 5)) B (some ⟨w.heap.size,0,none⟩) 2 2 [byte x,byte y]:=by
 refine⟨rfl,by simp[bvals],.inr ⟨w.heap.size,2,_,rfl,hB,heap_alloc_new w _,Nat.le_refl _,by decide,rfl,?_⟩⟩;simp[bvals,qhh]
def Gives (f:FuncId) (xs:Array Value) (u:World) (L:List UInt8):Prop:=Calls Tryz.prog f xs u fun e u'=>∃ao n cap,e=.returned (.slice ao n cap)∧Own u' u.heap.size ao n cap L∧Below u.heap.size u u'

theorem qji (xs:Array Value) (u:World):(callFunc 147 xs).run Tryz.prog u=.ok (.enter 147 xs) u:=by kernel_rfl
theorem cf_flags (xs:Array Value) (u:World):(callFunc 225 xs).run Tryz.prog u=.ok (.enter 225 xs) u:=by kernel_rfl
theorem cf_ipt (xs:Array Value) (u:World):(callFunc 229 xs).run Tryz.prog u=.ok (.enter 229 xs) u:=by kernel_rfl
theorem cf_ipw (xs:Array Value) (u:World):(callFunc 230 xs).run Tryz.prog u=.ok (.enter 230 xs) u:=by kernel_rfl
theorem cf_ipb (xs:Array Value) (u:World):(callFunc 231 xs).run Tryz.prog u=.ok (.enter 231 xs) u:=by kernel_rfl
theorem cf_beh (xs:Array Value) (u:World):(callFunc 66 xs).run Tryz.prog u=.ok (.enter 66 xs) u:=by kernel_rfl
theorem bit_i (b:Bool) (n:Int) (w:World):Calls Tryz.prog 147 #[.bool b,.int .i64 n] w fun e w'=>e=.returned (.int .i64 (bit b n))∧w'=w:=by
 cases b
 ·go_enter Tryz.func147,Tryz.ntmps147;go_wp2;go_ret;exact⟨rfl,rfl⟩
 ·go_enter Tryz.func147,Tryz.ntmps147;go_wp2;go_ret;exact⟨rfl,rfl⟩
theorem qnk (w:World):Gives 263 #[.agg #[]] w []:=by
 unfold Gives;go_enter Tryz.func263,Tryz.ntmps263;go_wp2;go_ret;exact⟨none,0,0,rfl,qrb _ _,bel_new _ _⟩
theorem qil (id:Int) (w:World):Gives 241 #[.agg #[.int .i64 id]] w (wordB id):=by
 unfold Gives;go_enter Tryz.func241,Tryz.ntmps241;go_wp2_with fail
 refine (qcj none 0 0 id [] _ (RdIn.nil _) (by omega)).mono ?_;rintro e y ⟨a1,c1,rfl,o1,b1⟩;go_wp2;go_ret;exact⟨a1,_,c1,rfl,o1.mono (by simp),bel (bel_new _ _) b1⟩
theorem flags_con (lev:Int) (cli:ByteArray) (cln:Bool) (kee:Int) (hw:Bool) (wt:ByteArray) (wb:Sl) (wq:Int) (wr:Bool) (hu:Bool) (us:ByteArray) (hp:Bool) (pa:Sl) (w:World) (hq:0≤wq∧wq≤2) :
  Calls Tryz.prog 225 #[.agg (conC lev cli cln kee hw wt wb wq wr hu us hp pa)] w fun e w'=>e=.returned (.int .i64 (conF cln hw wq wr hp hu))∧Below w.heap.size w w':=by
 have i1:=qdd cln 2 (by omega);have i2:=qdd hw 4 (by omega);have i3:=qdd wr 32 (by omega);have i4:=qdd hp 64 (by omega);have i5:=qdd hu 128 (by omega);have A:Row (w.alloc (.cells (conC lev cli cln kee hw wt wb wq wr hu us hp pa) 124)) w.heap.size (conC lev cli cln kee hw wt wb wq wr hu us hp pa) 124:=Row.new _ _ _;have hb:Below w.heap.size w (w.alloc (.cells (conC lev cli cln kee hw wt wb wq wr hu us hp pa) 124)):=bel_new _ _;go_enter Tryz.func225,Tryz.ntmps225;go_wp2;refine region_facts_g (by kernel_rfl) rfl (fun i u x=>match i with
  |0=>u=.pointer (some ⟨w.heap.size,2,none⟩)
  |1=>u=.bool cln
  |2=>u=.int .i64 (bit cln 2)
  |3=>u=.pointer (some ⟨w.heap.size,4,none⟩)
  |4=>u=.bool hw
  |5=>u=.int .i64 (bit hw 4)
  |6=>u=.int .i64 (bit cln 2+bit hw 4)
  |7=>u=.pointer (some ⟨w.heap.size,5,none⟩)
  |8=>u=.pointer (some ⟨w.heap.size,7,none⟩)
  |9=>u=.int .i64 (wq)
  |10=>u=.int .i64 (8*wq)
  |11=>u=.int .i64 (bit cln 2+bit hw 4+8*wq)
  |12=>u=.pointer (some ⟨w.heap.size,5,none⟩)
  |13=>u=.pointer (some ⟨w.heap.size,8,none⟩)
  |14=>u=.bool wr
  |15=>u=.int .i64 (bit wr 32)
  |16=>u=.int .i64 (bit cln 2+bit hw 4+8*wq+bit wr 32)
  |17=>u=.pointer (some ⟨w.heap.size,11,none⟩)
  |18=>u=.bool hp
  |19=>u=.int .i64 (bit hp 64)
  |20=>u=.int .i64 (bit cln 2+bit hw 4+8*wq+bit wr 32+bit hp 64)
  |21=>u=.pointer (some ⟨w.heap.size,9,none⟩)
  |22=>u=.bool hu
  |23=>u=.int .i64 (bit hu 128)
  |24=>u=.int .i64 (bit cln 2+bit hw 4+8*wq+bit wr 32+bit hp 64+bit hu 128)
  |25=>u=.int .i64 (bit cln 2+bit hw 4+8*wq+bit wr 32+bit hp 64+bit hu 128)
  |_=>True) ?_ ?_ ?_
 ·intro i u x x' hx h
  match i,h with
  |0,h=>exact h
  |1,h=>exact h
  |2,h=>exact h
  |3,h=>exact h
  |4,h=>exact h
  |5,h=>exact h
  |6,h=>exact h
  |7,h=>exact h
  |8,h=>exact h
  |9,h=>exact h
  |10,h=>exact h
  |11,h=>exact h
  |12,h=>exact h
  |13,h=>exact h
  |14,h=>exact h
  |15,h=>exact h
  |16,h=>exact h
  |17,h=>exact h
  |18,h=>exact h
  |19,h=>exact h
  |20,h=>exact h
  |21,h=>exact h
  |22,h=>exact h
  |23,h=>exact h
  |24,h=>exact h
  |25,h=>exact h
  |(_+26),h=>trivial
 ·intro i o a u hi hk hbu hdep
  match i,hi with
  |0,hi=>
   cases hi;exact g_run (wanted_none rfl _) (z_fld (X:=⟨w.heap.size,0,none⟩) (Y:=⟨w.heap.size,2,none⟩) 124 _ 2 rfl (eval_at ((hk.at 1 rfl).trans rfl)) (fun _=>by kernel_rfl) ⟨_,rfl,Below.refl _ _,rfl⟩)
  |1,hi=>
   cases hi;obtain⟨z0,hz0,rfl⟩:=hdep 0 _ _ rfl rfl rfl;exact g_run (wanted_none rfl _) (z_ld 4 _ rfl (eval_at hz0) (by kernel_rfl) ((A.next hbu).cell 2 rfl) ⟨_,rfl,Below.refl _ _,rfl⟩)
  |2,hi=>
   cases hi;obtain⟨z1,hz1,rfl⟩:=hdep 1 _ _ rfl rfl rfl;refine g_run (wanted_none rfl _) (st_call (exec_call2 _ _ _ _ _ _ _ _ qji (eval_at hz1) (rfl) (fun _=>rfl) _ _ _ _ _ _) ?_);refine (bit_i cln 2 u).mono ?_;rintro e u' ⟨rfl,hu⟩;exact⟨_,rfl,_,rfl,hu ▸ Below.refl _ _,rfl⟩
  |3,hi=>
   cases hi;exact g_run (wanted_none rfl _) (z_fld (X:=⟨w.heap.size,0,none⟩) (Y:=⟨w.heap.size,4,none⟩) 124 _ 4 rfl (eval_at ((hk.at 1 rfl).trans rfl)) (fun _=>by kernel_rfl) ⟨_,rfl,Below.refl _ _,rfl⟩)
  |4,hi=>
   cases hi;obtain⟨z3,hz3,rfl⟩:=hdep 3 _ _ rfl rfl rfl;exact g_run (wanted_none rfl _) (z_ld 4 _ rfl (eval_at hz3) (by kernel_rfl) ((A.next hbu).cell 4 rfl) ⟨_,rfl,Below.refl _ _,rfl⟩)
  |5,hi=>
   cases hi;obtain⟨z4,hz4,rfl⟩:=hdep 4 _ _ rfl rfl rfl;refine g_run (wanted_none rfl _) (st_call (exec_call2 _ _ _ _ _ _ _ _ qji (eval_at hz4) (rfl) (fun _=>rfl) _ _ _ _ _ _) ?_);refine (bit_i hw 4 u).mono ?_;rintro e u' ⟨rfl,hu⟩;exact⟨_,rfl,_,rfl,hu ▸ Below.refl _ _,rfl⟩
  |6,hi=>
   cases hi;obtain⟨z2,hz2,rfl⟩:=hdep 2 _ _ rfl rfl rfl;obtain⟨z5,hz5,rfl⟩:=hdep 5 _ _ rfl rfl rfl;exact g_run (wanted_none rfl _) (z_bin _ _ _ _ _ rfl (eval_at hz2) (eval_at hz5) (addi _ _ _ _ _ (by rw[qao]<;>omega)) ⟨_,rfl,Below.refl _ _,rfl⟩)
  |7,hi=>
   cases hi;exact g_run (wanted_none rfl _) (z_fld (X:=⟨w.heap.size,0,none⟩) (Y:=⟨w.heap.size,5,none⟩) 124 _ 5 rfl (eval_at ((hk.at 1 rfl).trans rfl)) (fun _=>by kernel_rfl) ⟨_,rfl,Below.refl _ _,rfl⟩)
  |8,hi=>
   cases hi;obtain⟨z7,hz7,rfl⟩:=hdep 7 _ _ rfl rfl rfl;exact g_run (wanted_none rfl _) (z_fld (X:=⟨w.heap.size,5,none⟩) (Y:=⟨w.heap.size,7,none⟩) 122 _ 2 rfl (eval_at hz7) (fun _=>by kernel_rfl) ⟨_,rfl,Below.refl _ _,rfl⟩)
  |9,hi=>
   cases hi;obtain⟨z8,hz8,rfl⟩:=hdep 8 _ _ rfl rfl rfl;exact g_run (wanted_none rfl _) (z_ld 3 _ rfl (eval_at hz8) (by kernel_rfl) ((A.next hbu).cell 7 rfl) ⟨_,rfl,Below.refl _ _,rfl⟩)
  |10,hi=>
   cases hi;obtain⟨z9,hz9,rfl⟩:=hdep 9 _ _ rfl rfl rfl;exact g_run (wanted_none rfl _) (z_bin _ _ _ _ _ rfl (rfl) (eval_at hz9) (muli _ _ _ _ _ (by rw[qao]<;>omega)) ⟨_,rfl,Below.refl _ _,rfl⟩)
  |11,hi=>
   cases hi;obtain⟨z6,hz6,rfl⟩:=hdep 6 _ _ rfl rfl rfl;obtain⟨z10,hz10,rfl⟩:=hdep 10 _ _ rfl rfl rfl;exact g_run (wanted_none rfl _) (z_bin _ _ _ _ _ rfl (eval_at hz6) (eval_at hz10) (addi _ _ _ _ _ (by rw[qao]<;>omega)) ⟨_,rfl,Below.refl _ _,rfl⟩)
  |12,hi=>
   cases hi;exact g_run (wanted_none rfl _) (z_fld (X:=⟨w.heap.size,0,none⟩) (Y:=⟨w.heap.size,5,none⟩) 124 _ 5 rfl (eval_at ((hk.at 1 rfl).trans rfl)) (fun _=>by kernel_rfl) ⟨_,rfl,Below.refl _ _,rfl⟩)
  |13,hi=>
   cases hi;obtain⟨z12,hz12,rfl⟩:=hdep 12 _ _ rfl rfl rfl;exact g_run (wanted_none rfl _) (z_fld (X:=⟨w.heap.size,5,none⟩) (Y:=⟨w.heap.size,8,none⟩) 122 _ 3 rfl (eval_at hz12) (fun _=>by kernel_rfl) ⟨_,rfl,Below.refl _ _,rfl⟩)
  |14,hi=>
   cases hi;obtain⟨z13,hz13,rfl⟩:=hdep 13 _ _ rfl rfl rfl;exact g_run (wanted_none rfl _) (z_ld 4 _ rfl (eval_at hz13) (by kernel_rfl) ((A.next hbu).cell 8 rfl) ⟨_,rfl,Below.refl _ _,rfl⟩)
  |15,hi=>
   cases hi;obtain⟨z14,hz14,rfl⟩:=hdep 14 _ _ rfl rfl rfl;refine g_run (wanted_none rfl _) (st_call (exec_call2 _ _ _ _ _ _ _ _ qji (eval_at hz14) (rfl) (fun _=>rfl) _ _ _ _ _ _) ?_);refine (bit_i wr 32 u).mono ?_;rintro e u' ⟨rfl,hu⟩;exact⟨_,rfl,_,rfl,hu ▸ Below.refl _ _,rfl⟩
  |16,hi=>
   cases hi;obtain⟨z11,hz11,rfl⟩:=hdep 11 _ _ rfl rfl rfl;obtain⟨z15,hz15,rfl⟩:=hdep 15 _ _ rfl rfl rfl;exact g_run (wanted_none rfl _) (z_bin _ _ _ _ _ rfl (eval_at hz11) (eval_at hz15) (addi _ _ _ _ _ (by rw[qao]<;>omega)) ⟨_,rfl,Below.refl _ _,rfl⟩)
  |17,hi=>
   cases hi;exact g_run (wanted_none rfl _) (z_fld (X:=⟨w.heap.size,0,none⟩) (Y:=⟨w.heap.size,11,none⟩) 124 _ 8 rfl (eval_at ((hk.at 1 rfl).trans rfl)) (fun _=>by kernel_rfl) ⟨_,rfl,Below.refl _ _,rfl⟩)
  |18,hi=>
   cases hi;obtain⟨z17,hz17,rfl⟩:=hdep 17 _ _ rfl rfl rfl;exact g_run (wanted_none rfl _) (z_ld 4 _ rfl (eval_at hz17) (by kernel_rfl) ((A.next hbu).cell 11 rfl) ⟨_,rfl,Below.refl _ _,rfl⟩)
  |19,hi=>
   cases hi;obtain⟨z18,hz18,rfl⟩:=hdep 18 _ _ rfl rfl rfl;refine g_run (wanted_none rfl _) (st_call (exec_call2 _ _ _ _ _ _ _ _ qji (eval_at hz18) (rfl) (fun _=>rfl) _ _ _ _ _ _) ?_);refine (bit_i hp 64 u).mono ?_;rintro e u' ⟨rfl,hu⟩;exact⟨_,rfl,_,rfl,hu ▸ Below.refl _ _,rfl⟩
  |20,hi=>
   cases hi;obtain⟨z16,hz16,rfl⟩:=hdep 16 _ _ rfl rfl rfl;obtain⟨z19,hz19,rfl⟩:=hdep 19 _ _ rfl rfl rfl;exact g_run (wanted_none rfl _) (z_bin _ _ _ _ _ rfl (eval_at hz16) (eval_at hz19) (addi _ _ _ _ _ (by rw[qao]<;>omega)) ⟨_,rfl,Below.refl _ _,rfl⟩)
  |21,hi=>
   cases hi;exact g_run (wanted_none rfl _) (z_fld (X:=⟨w.heap.size,0,none⟩) (Y:=⟨w.heap.size,9,none⟩) 124 _ 6 rfl (eval_at ((hk.at 1 rfl).trans rfl)) (fun _=>by kernel_rfl) ⟨_,rfl,Below.refl _ _,rfl⟩)
  |22,hi=>
   cases hi;obtain⟨z21,hz21,rfl⟩:=hdep 21 _ _ rfl rfl rfl;exact g_run (wanted_none rfl _) (z_ld 4 _ rfl (eval_at hz21) (by kernel_rfl) ((A.next hbu).cell 9 rfl) ⟨_,rfl,Below.refl _ _,rfl⟩)
  |23,hi=>
   cases hi;obtain⟨z22,hz22,rfl⟩:=hdep 22 _ _ rfl rfl rfl;refine g_run (wanted_none rfl _) (st_call (exec_call2 _ _ _ _ _ _ _ _ qji (eval_at hz22) (rfl) (fun _=>rfl) _ _ _ _ _ _) ?_);refine (bit_i hu 128 u).mono ?_;rintro e u' ⟨rfl,hu⟩;exact⟨_,rfl,_,rfl,hu ▸ Below.refl _ _,rfl⟩
  |24,hi=>
   cases hi;obtain⟨z20,hz20,rfl⟩:=hdep 20 _ _ rfl rfl rfl;obtain⟨z23,hz23,rfl⟩:=hdep 23 _ _ rfl rfl rfl;exact g_run (wanted_none rfl _) (z_bin _ _ _ _ _ rfl (eval_at hz20) (eval_at hz23) (addi _ _ _ _ _ (by rw[qao]<;>omega)) ⟨_,rfl,Below.refl _ _,rfl⟩)
  |25,hi=>
   cases hi;obtain⟨z24,hz24,rfl⟩:=hdep 24 _ _ rfl rfl rfl;exact g_run (wanted_none rfl _) (qab (v:=_) (w':=u) (by first | (simp[execOp,eval_at hz24];done) | (simp[execOp,eval_at hz24];rfl)) ⟨_,rfl,Below.refl _ _,rfl⟩)
  |(_+26),hi=>cases hi
 intro vs y3 b3 hG a3 h3;have gr:vs 25=.int .i64 (bit cln 2+bit hw 4+8*wq+bit wr 32+bit hp 64+bit hu 128):=hG 25 (by decide);have s2:=puts_slot h3 rfl 25 rfl rfl;rw[gr] at s2;have hd:=(puts_def h3).trans (show _ = [] from rfl);clear h3 hG;go_wp2;refine bodyPost_ret (results_tmp rfl _ _ _) hd ⟨?_,bel hb b3⟩;rw[getD_at s2];rfl
theorem follow_ack (cod:Int) (pre:Bool) (w:World):Gives 234 #[.agg #[.int .i64 cod,.bool pre]] w [byte (bit pre 1),byte cod]:=by
 unfold Gives;have A:Row (w.alloc (.cells #[.int .i64 cod,.bool pre] 127)) w.heap.size #[.int .i64 cod,.bool pre] 127:=Row.new _ _ _;have hb:Below w.heap.size w (w.alloc (.cells #[.int .i64 cod,.bool pre] 127)):=bel_new _ _;go_enter Tryz.func234,Tryz.ntmps234;go_wp2;refine region_facts_g (by kernel_rfl) rfl (fun i u x=>match i with
  |0=>u=.pointer (some ⟨w.heap.size,1,none⟩)
  |1=>u=.bool pre
  |2=>u=.int .i64 (bit pre 1)
  |3=>u=.int .u8 (bit pre 1%256)
  |4=>u=.pointer (some ⟨w.heap.size,0,none⟩)
  |5=>u=.int .i64 (cod)
  |6=>u=.int .u8 (cod%256)
  |7=>∃ao n cap,u=.slice ao n cap∧Own x w.heap.size ao n cap ([byte (bit pre 1),byte cod])
  |8=>∃ao n cap,u=.slice ao n cap∧Own x w.heap.size ao n cap ([byte (bit pre 1),byte cod])
  |_=>True) ?_ ?_ ?_
 ·intro i u x x' hx h
  match i,h with
  |0,h=>exact h
  |1,h=>exact h
  |2,h=>exact h
  |3,h=>exact h
  |4,h=>exact h
  |5,h=>exact h
  |6,h=>exact h
  |7,h=>(obtain⟨ao,n,cap,e,ho⟩:=h;exact⟨ao,n,cap,e,ho.below hx⟩)
  |8,h=>(obtain⟨ao,n,cap,e,ho⟩:=h;exact⟨ao,n,cap,e,ho.below hx⟩)
  |(_+9),h=>trivial
 ·intro i o a u hi hk hbu hdep
  match i,hi with
  |0,hi=>
   cases hi;exact g_run (wanted_none rfl _) (z_fld (X:=⟨w.heap.size,0,none⟩) (Y:=⟨w.heap.size,1,none⟩) 127 _ 1 rfl (eval_at ((hk.at 1 rfl).trans rfl)) (fun _=>by kernel_rfl) ⟨_,rfl,Below.refl _ _,rfl⟩)
  |1,hi=>
   cases hi;obtain⟨z0,hz0,rfl⟩:=hdep 0 _ _ rfl rfl rfl;exact g_run (wanted_none rfl _) (z_ld 4 _ rfl (eval_at hz0) (by kernel_rfl) ((A.next hbu).cell 1 rfl) ⟨_,rfl,Below.refl _ _,rfl⟩)
  |2,hi=>
   cases hi;obtain⟨z1,hz1,rfl⟩:=hdep 1 _ _ rfl rfl rfl;refine g_run (wanted_none rfl _) (st_call (exec_call2 _ _ _ _ _ _ _ _ qji (eval_at hz1) (rfl) (fun _=>rfl) _ _ _ _ _ _) ?_);refine (bit_i pre 1 u).mono ?_;rintro e u' ⟨rfl,hu⟩;exact⟨_,rfl,_,rfl,hu ▸ Below.refl _ _,rfl⟩
  |3,hi=>
   cases hi;obtain⟨z2,hz2,rfl⟩:=hdep 2 _ _ rfl rfl rfl;exact g_run (wanted_none rfl _) (qfv _ _ _ rfl (eval_at hz2) (cvb _ _) ⟨_,rfl,Below.refl _ _,rfl⟩)
  |4,hi=>
   cases hi;exact g_run (wanted_none rfl _) (z_fld (X:=⟨w.heap.size,0,none⟩) (Y:=⟨w.heap.size,0,none⟩) 127 _ 0 rfl (eval_at ((hk.at 1 rfl).trans rfl)) (fun _=>by kernel_rfl) ⟨_,rfl,Below.refl _ _,rfl⟩)
  |5,hi=>
   cases hi;obtain⟨z4,hz4,rfl⟩:=hdep 4 _ _ rfl rfl rfl;exact g_run (wanted_none rfl _) (z_ld 3 _ rfl (eval_at hz4) (by kernel_rfl) ((A.next hbu).cell 0 rfl) ⟨_,rfl,Below.refl _ _,rfl⟩)
  |6,hi=>
   cases hi;obtain⟨z5,hz5,rfl⟩:=hdep 5 _ _ rfl rfl rfl;exact g_run (wanted_none rfl _) (qfv _ _ _ rfl (eval_at hz5) (cvb _ _) ⟨_,rfl,Below.refl _ _,rfl⟩)
  |7,hi=>
   cases hi;obtain⟨z3,hz3,rfl⟩:=hdep 3 _ _ rfl rfl rfl;obtain⟨z6,hz6,rfl⟩:=hdep 6 _ _ rfl rfl rfl;exact g_run (wanted_none rfl _) (z_mk _ _ rfl (by simp[eval_at hz3,eval_at hz6]) (mkb2 _ _ _) ⟨_,rfl,bel_new _ _,⟨_,_,_,rfl,own_b2 u _ (Nat.le_trans hb.size hbu.size) _ _⟩⟩)
  |8,hi=>
   cases hi;obtain⟨z7,hz7,hg7⟩:=hdep 7 _ _ rfl rfl rfl;obtain⟨ao,n,cap,rfl,ho⟩:=hg7;exact g_run (wanted_none rfl _) (qab (v:=_) (w':=u) (by first | (simp[execOp,eval_at hz7];done) | (simp[execOp,eval_at hz7];rfl)) ⟨_,rfl,Below.refl _ _,_,_,_,rfl,ho⟩)
  |(_+9),hi=>cases hi
 intro vs y3 b3 hG a3 h3;obtain⟨ao,n,cap,gr,ho⟩:=hG 8 (by decide);have s2:=puts_slot h3 rfl 8 rfl rfl;rw[gr] at s2;have hd:=(puts_def h3).trans (show _ = [] from rfl);clear h3 hG;go_wp2;refine bodyPost_ret (results_tmp rfl _ _ _) hd ⟨ao,n,cap,?_,ho,bel hb b3⟩;rw[getD_at s2]

def wanB (l:List (ByteArray×Int)):List UInt8:=l.flatMap fun x=>pT x.1++[byte x.2]
def namB (l:List ByteArray):List UInt8:=l.flatMap pT
def cdsB (l:List Int):List UInt8:=l.map byte
theorem pT_le (s:ByteArray):(pT s).length≤62:=by have:=qjy [] s;rw[qcy] at this;simpa using this
theorem pB_le (x:List UInt8):(pB x).length≤62:=by have:=putB_le [] x;rw[qfr] at this;simpa using this
theorem qgr {α:Type} (f:α→List UInt8) (l:List α) (d:α) (k:Nat) (hk:k<l.length):(l.take (k+1)).flatMap f=(l.take k).flatMap f++f (l.getD k d):=by
 rw[List.take_add_one,List.getElem?_eq_getElem hk,List.flatMap_append];simp[List.getD,List.getElem?_eq_getElem hk]
theorem flat_all {α:Type} (f:α→List UInt8) (l:List α) (n:Nat) (hn:l.length=n):(l.take n).flatMap f=l.flatMap f:=by rw[List.take_of_length_le (by omega)]
theorem qka (l:List Int):cdsB l=l.flatMap fun x=>[byte x]:=by
 unfold cdsB
 induction l with
 |nil=>rfl
 |cons x l ih=>simp[ih]

theorem follow_pub (dup:Bool) (qos:Int) (ret:Bool) (id:Int) (top:ByteArray) (b:Sl) (l:List UInt8) (w:World) (hr:RdIn w b.a b.n b.c l) (hs:top.size≤1048576) (hn:b.n≤1048576) :
  Gives 237 #[.agg (pubC dup qos ret id top b)] w (pubB qos id top l):=by
 unfold Gives;have A:Row (w.alloc (.cells (pubC dup qos ret id top b) 129)) w.heap.size (pubC dup qos ret id top b) 129:=Row.new _ _ _;have hb:Below w.heap.size w (w.alloc (.cells (pubC dup qos ret id top b) 129)):=bel_new _ _;replace hr:=hr.below hb;have hle:=qjy [] top;obtain⟨cs,hcs⟩ : ∃cs,pubC dup qos ret id top b=cs:=⟨_,rfl⟩;have k1:cs[1]? = some (.int .i64 qos):=by rw[←hcs];rfl
 have k3:cs[3]? = some (.int .i64 id):=by rw[←hcs];rfl
 have k5:cs[5]? = some (.slice b.a b.n b.c):=by rw[←hcs];rfl
 have k4:cs[4]? = some (.string top):=by rw[←hcs];rfl
 rw[hcs] at A hb hr ⊢;clear hcs;have f4:=A.cell 4 k4;go_enter Tryz.func237,Tryz.ntmps237;go_wp2_with fail
 refine (qci none 0 0 top [] _ (RdIn.nil _) (by omega) (by omega)).mono ?_;rintro e y ⟨a1,n1,c1,rfl,o1,b1⟩;replace hle:n1≤62:=by have:=o1.1;simp at hle;omega
 rw[qcy,List.nil_append] at o1;have O1:Own y w.heap.size a1 n1 c1 (pT top):=o1.mono (by simp);replace hb:=bel hb b1;replace A:=A.next b1;replace hr:=hr.below b1;clear b1 o1 f4;have f1:=A.cell 1 k1
 by_cases h:0<qos
 ·have HP:Hid (pubB qos id top l=(pT top++wordB id)++l):=by show pubB _ _ _ _=_;unfold pubB;rw[if_pos h]
  have f3:=A.cell 3 k3;go_wp2_with fail
  refine (qcj a1 n1 c1 id (pT top) _ O1.rd (by omega)).mono ?_;rintro e y2 ⟨a2,c2,rfl,o2,b2⟩;replace hb:=bel hb b2;replace A:=A.next b2;replace hr:=hr.below b2;clear f1 f3;have f5:=A.cell 5 k5;go_wp2_with fail
  refine (qca _ _ _ _ _ _ _ l _ o2.rd hr (by omega) (by omega)).mono ?_;rintro e y3 ⟨a3,c3,rfl,o3,b3⟩;go_wp2;go_ret;exact⟨a3,_,c3,rfl,by rw[HP.out];exact o3.mono hb.size,bel hb b3⟩
 ·have HP:Hid (pubB qos id top l=pT top++l):=by show pubB _ _ _ _=_;unfold pubB;rw[if_neg h,List.append_nil]
  have f5:=A.cell 5 k5;go_wp2_with fail
  refine (qca _ _ _ _ _ _ _ l _ O1.rd hr (by omega) (by omega)).mono ?_;rintro e y3 ⟨a3,c3,rfl,o3,b3⟩;go_wp2;go_ret;exact⟨a3,_,c3,rfl,by rw[HP.out];exact o3.mono hb.size,bel hb b3⟩
theorem follow_uns (id:Int) (b:Sl) (l:List ByteArray) (w:World) (hr:SRd w b.a b.n b.c l) (hs:∀s∈l,s.size≤1048576) (hn:b.n≤1048576) :
  Gives 258 #[.agg #[.int .i64 id,.slice b.a b.n b.c]] w (wordB id++namB l):=by
 unfold Gives;have HL:Hid (l.length=b.n):=hr.1.1;obtain⟨ao,n,cap⟩:=b;simp only at hr HL hn ⊢;go_enter Tryz.func258,Tryz.ntmps258;go_wp2_with fail
 refine (qcj none 0 0 id [] _ (RdIn.nil _) (by omega)).mono ?_;rintro e y ⟨a1,c1,rfl,o1,b1⟩;have f1:y.cell? ⟨w.heap.size,1,none⟩ = some (.slice ao n cap):=(b1.cell (by simp)).trans (by simp);have hb0:=bel (bel_new _ _) b1;have O1:Own y w.heap.size a1 2 c1 (wordB id++namB (l.take 0)):=o1.mono (by simp);clear o1 b1;go_wp2
 go_loopw [3,12] (fun v i wr=>∃(k j:Nat) (a:Option Addr) (c:Nat),i=.int .i64 k∧v=.slice a j c∧k≤n∧j≤2+63*k∧Own wr w.heap.size a j c (wordB id++namB (l.take k))∧Below w.heap.size w wr) (fun _ i _=>n-(intOf i).toNat)
 case atStart=>exact⟨0,2,a1,c1,rfl,rfl,Nat.zero_le _,by omega,O1,hb0⟩
 case round=>
  obtain⟨k,j,a,c,rfl,rfl,hk,hj,ho,hb⟩:=hrel
  by_cases hlt:k<n
  ·obtain⟨b,off,e,hc⟩:=hr.1.2 k hlt;subst e;have hck:wr.cell? ⟨b,off+k,none⟩ = some (.string (st l k)):=(hb.cell (World.block_lt_of_cell? w _ hc)).trans hc;clear hc;have hlt':(k:Int)<n:=by omega
   have hkl:Hid (k<l.length):=by show k<l.length;rw[HL.out];exact hlt
   have HS:Hid (namB (l.take k)++pT (st l k)=namB (l.take (k+1))):=(qgr pT l ByteArray.empty k hkl.out).symm;have hle:=qjy (wordB id++namB (l.take k)) (st l k);rw[ho.1] at hle;go_wp2_with fail
   refine (qci a j c (st l k) _ _ ho.rd (by omega) (by have:=hs _ (qsy hkl.out);omega)).mono ?_;rintro e w2 ⟨a2,n2,c2,rfl,o2,b2⟩;rw[o2.1] at hle;rw[qcy,List.append_assoc,HS.out] at o2;have hb2:=bel hb b2;replace o2:=o2.mono hb.size;clear b2 hb ho;go_wp2;go_roundw
   case rel=>exact⟨k+1,n2,a2,c2,by go_num,rfl,by omega,by omega,o2,hb2⟩
   case measure=>simp[intOf];omega
  ·have hlt':¬(k:Int)<n:=by omega
   obtain rfl:k=n:=by omega
   go_wp2;go_ret;exact⟨a,j,c,rfl,by rw[←show namB (l.take k)=namB l from flat_all pT l _ HL.out];exact ho,hb⟩
theorem qtp (id:Int) (b:Sl) (l:List Int) (w:World) (hr:IRd w b.a b.n b.c l) (hn:b.n≤1048576) :
  Gives 252 #[.agg #[.int .i64 id,.slice b.a b.n b.c]] w (wordB id++cdsB l):=by
 unfold Gives;have HL:Hid (l.length=b.n):=hr.1.1;obtain⟨ao,n,cap⟩:=b;simp only at hr HL hn ⊢;go_enter Tryz.func252,Tryz.ntmps252;go_wp2_with fail
 refine (qcj none 0 0 id [] _ (RdIn.nil _) (by omega)).mono ?_;rintro e y ⟨a1,c1,rfl,o1,b1⟩;have f1:y.cell? ⟨w.heap.size,1,none⟩ = some (.slice ao n cap):=(b1.cell (by simp)).trans (by simp);have hb0:=bel (bel_new _ _) b1;have O1:Own y w.heap.size a1 2 c1 (wordB id++cdsB (l.take 0)):=o1.mono (by simp);clear o1 b1;go_wp2
 go_loopw [3,12] (fun v i wr=>∃(k j:Nat) (a:Option Addr) (c:Nat),i=.int .i64 k∧v=.slice a j c∧k≤n∧j≤2+63*k∧Own wr w.heap.size a j c (wordB id++cdsB (l.take k))∧Below w.heap.size w wr) (fun _ i _=>n-(intOf i).toNat)
 case atStart=>exact⟨0,2,a1,c1,rfl,rfl,Nat.zero_le _,by omega,O1,hb0⟩
 case round=>
  obtain⟨k,j,a,c,rfl,rfl,hk,hj,ho,hb⟩:=hrel
  by_cases hlt:k<n
  ·obtain⟨b,off,e,hc⟩:=hr.1.2 k hlt;subst e;have hck:wr.cell? ⟨b,off+k,none⟩ = some (.int .i64 (l.getD k 0)):=(hb.cell (World.block_lt_of_cell? w _ hc)).trans hc;clear hc;have hlt':(k:Int)<n:=by omega
   have hkl:Hid (k<l.length):=by show k<l.length;rw[HL.out];exact hlt
   have HS:Hid (cdsB (l.take k)++[byte (l.getD k 0)]=cdsB (l.take (k+1))):=by
    show _=_;rw[qka,qka];exact (qgr (fun x=>[byte x]) l 0 k hkl.out).symm
   go_wp2_with fail
   refine (qca a j c _ _ 1 1 [byte (l.getD k 0)] _ (ho.alloc _).rd (qmg wr wr.heap.size (Nat.le_refl _) _).rd (by omega) (by omega)).mono ?_;rintro e w2 ⟨a2,c2,rfl,o2,b2⟩;rw[List.append_assoc,HS.out] at o2;have hb2:=bel (hb.alloc hb.size _) b2;replace o2:=o2.mono (show w.heap.size≤_ by have:=hb.size;simp;omega);clear b2 hb ho;go_wp2;go_roundw
   case rel=>exact⟨k+1,j+1,a2,c2,by go_num,rfl,by omega,by omega,o2,hb2⟩
   case measure=>simp[intOf];omega
  ·have hlt':¬(k:Int)<n:=by omega
   obtain rfl:k=n:=by omega
   go_wp2;go_ret;exact⟨a,j,c,rfl,by rw[←show cdsB (l.take k)=cdsB l by rw[List.take_of_length_le (by rw[HL.out];omega)]];exact ho,hb⟩

theorem HH_le {A N:Nat} {S X:World→Prop} {k:Nat} {u:World} (h:HH A N S X k u) (hk:k≤A):S u:=by unfold HH at h;rwa [if_pos hk] at h
theorem HH_N {A N:Nat} {S X:World→Prop} {u:World} (h:HH A N S X N u) (hA:A<N):X u:=by unfold HH at h;rwa [if_neg (by omega),if_pos rfl] at h
theorem ints_row {u:World} {blk:Nat} {zs:List Int} (h:u.heap[blk]? = some (.cells (zs.map (Value.int .i64)).toArray 3)) (i:Nat) (hi:i<zs.length):u.cell? ⟨blk,i,none⟩ = some (.int .i64 (zs.getD i 0)):=by
 rw[qcl h];simp[List.getD_eq_getElem?_getD,List.getElem?_eq_getElem hi]
theorem mki1 (x:Int) (u:World):(Instr.buildSlice 26 1 #[(0,.int .i64 x)]).run Tryz.prog u=.ok (.slice (some ⟨u.heap.size,0,none⟩) 1 1) (u.alloc (.cells #[.int .i64 x] 3)):=by kernel_rfl
theorem mki4 (x y z v:Int) (u:World):(Instr.buildSlice 26 4 #[(0,.int .i64 x),(1,.int .i64 y),(2,.int .i64 z),(3,.int .i64 v)]).run Tryz.prog u=.ok (.slice (some ⟨u.heap.size,0,none⟩) 4 4) (u.alloc (.cells #[.int .i64 x,.int .i64 y,.int .i64 z,.int .i64 v] 3)):=by kernel_rfl
theorem mks1 (x:ByteArray) (u:World):(Instr.buildSlice 25 1 #[(0,.string x)]).run Tryz.prog u=.ok (.slice (some ⟨u.heap.size,0,none⟩) 1 1) (u.alloc (.cells #[.string x] 9)):=by kernel_rfl
theorem mkw1 (x:ByteArray) (q:Int) (u:World):(Instr.buildSlice 24 1 #[(0,.agg #[.string x,.int .i64 q])]).run Tryz.prog u=.ok (.slice (some ⟨u.heap.size,0,none⟩) 1 1) (u.alloc (.cells #[.string x,.int .i64 q] 88)):=by kernel_rfl
theorem z_build {o:Oper} {a:Act} {w:World} {K:Act→World→Prop} {Q:Exit→Act→World→Prop} {parts:Array (Nat×Operand)} {vs:Array (Nat×Value)} {r:Value} (t:TypeId) (ho:o.op=.build t parts) (hx:(parts.map fun (i,x)=>(i,a.eval x))=vs) (hr:(Instr.build t vs).run Tryz.prog w=.ok r w) (h:K (a.put o.dst r) w):Oper.wp Tryz.prog o a w K Q :=
 qab (w':=w) (v:=r) (by simp only[execOp,ho,hx,Sem.run_bind,hr,Result.andThen_ok,Sem.run_pure]) h
theorem bw (x:ByteArray) (q:Int) (u:World):(Instr.build 88 #[(0,.string x),(1,.int .i64 q)]).run Tryz.prog u=.ok (.agg #[.string x,.int .i64 q]) u:=by kernel_rfl
theorem cf_int (xs:Array Value) (u:World):(callFunc 79 xs).run Tryz.prog u=.ok (.enter 79 xs) u:=by kernel_rfl
theorem cf_bel (xs:Array Value) (u:World):(callFunc 78 xs).run Tryz.prog u=.ok (.enter 78 xs) u:=by kernel_rfl
theorem cf_fil (xs:Array Value) (u:World):(callFunc 145 xs).run Tryz.prog u=.ok (.enter 145 xs) u:=by kernel_rfl
theorem qqr {α:Type} {P:α→Prop} {l:List α} {x:α} (h:∀z∈l,P z) (hx:P x):∀z∈l++[x],P z:=by
 intro z hz
 rcases List.mem_append.1 hz with h1 | h1
 ·exact h z h1
 ·rw[List.mem_singleton.1 h1];exact hx

theorem topics_ok:∀s∈qpf,tpc s=true:=by decide +kernel
theorem topics_flt:∀s∈qpf,flt s=true:=by decide +kernel
theorem filters_ok:∀s∈qld,flt s=true:=by decide +kernel
theorem names5_ok:∀s∈names5,txt s=true:=by decide +kernel
theorem qhq (g:Nat) (ao:Option Addr) (n cap:Nat) (l:List UInt8) (w:World) (hc:Cur w g ao n cap l) (hn:n≤1048576) :
  Calls Tryz.prog 144 #[.pointer (some ⟨g,0,none⟩)] w fun e w'=>∃s:ByteArray,s.size≤61∧tpc s=true∧flt s=true∧e=.returned (.string s)∧Cur w' g ao n cap l∧w.grownBy w' (some g):=by
 have hlt:=hc.lt;go_enter Tryz.func144,Tryz.ntmps144;go_wp2_with fail
 refine (qem g ao n cap l w.heap.size 13 13 qpf _ (hc.alloc _) hn (by omega) (by omega) rfl (fun i hi=>qen w qpf 9 i hi) (by omega)).mono ?_;rintro e w1 ⟨s,hs,rfl,hc1,hg1⟩;have hz:=qpg s hs;have ht:=topics_ok s hs;have hf:=topics_flt s hs;clear hs;go_wp2;go_ret;exact⟨s,hz,ht,hf,rfl,hc1,qad (World.grownBy_alloc _ _ _) hg1⟩
theorem qjj (g:Nat) (ao:Option Addr) (n cap:Nat) (l:List UInt8) (w:World) (hc:Cur w g ao n cap l) (hn:n≤1048576) :
  Calls Tryz.prog 145 #[.pointer (some ⟨g,0,none⟩)] w fun e w'=>∃s:ByteArray,s.size≤61∧flt s=true∧e=.returned (.string s)∧Cur w' g ao n cap l∧w.grownBy w' (some g):=by
 go_enter Tryz.func145,Tryz.ntmps145;go_wp2_with fail
 refine (qax g ao n cap l 3 _ hc hn (by omega) (by omega)).mono ?_;rintro e w1 ⟨b,rfl,hc1,hg1⟩;cases b with
 |true=>
  go_wp2_with fail
  refine (qhq g ao n cap l _ hc1 hn).mono ?_;rintro e w2 ⟨s,hz,ht,hf,rfl,hc2,hg2⟩;go_wp2;go_ret;exact⟨s,hz,hf,rfl,hc2,qad hg1 hg2⟩
 |false=>
  have hlt:=hc1.lt;go_wp2_with fail
  refine (qem g ao n cap l w1.heap.size 16 16 qld _ (hc1.alloc _) hn (by omega) (by omega) rfl (fun i hi=>qen w1 qld 9 i hi) (by omega)).mono ?_;rintro e w2 ⟨s,hs,rfl,hc2,hg2⟩;have hz:=qmc s hs;have hf:=filters_ok s hs;clear hs;go_wp2;go_ret;exact⟨s,hz,hf,rfl,hc2,qad hg1 (qad (World.grownBy_alloc _ _ _) hg2)⟩
theorem qsp (g:Nat) (ao:Option Addr) (n cap:Nat) (l:List UInt8) (w:World) (hc:Cur w g ao n cap l) (hn:n≤1048576) :
  Calls Tryz.prog 143 #[.pointer (some ⟨g,0,none⟩)] w fun e w'=>∃s:ByteArray,s.size≤61∧txt s=true∧e=.returned (.string s)∧Cur w' g ao n cap l∧w.grownBy w' (some g):=by
 have hlt:=hc.lt;go_enter Tryz.func143,Tryz.ntmps143;go_wp2_with fail
 refine (qem g ao n cap l w.heap.size 5 5 names5 _ (hc.alloc _) hn (by omega) (by omega) rfl (fun i hi=>qen w names5 9 i hi) (by omega)).mono ?_;rintro e w1 ⟨s,hs,rfl,hc1,hg1⟩;have hz:=qty s hs;have ht:=names5_ok s hs;clear hs;go_wp2;go_ret;exact⟨s,hz,ht,rfl,hc1,qad (World.grownBy_alloc _ _ _) hg1⟩
theorem qbs {m:Nat} {w0 y:World} {g r b:Nat} {ao:Option Addr} {n cap:Nat} {l:List UInt8} {p:Pk} {d:Pd} {v:Pv} (s:St m w0 y g r b ao n cap l p d) (h:pv p d=v):∃p d,St m w0 y g r b ao n cap l p d∧pv p d=v:=⟨p,d,s,h⟩
theorem qks (k:Int):pv (ofT k) dnil = { Pv.zero with ty:=k }:=rfl
theorem ok_id {k x:Int} (hk:k=4∨k=5∨k=6∨k=7∨k=11) (h0:0≤x) (h1:x<4):({ Pv.zero with ty:=k,id:=1+x } : Pv).ok=true:=by
 rcases hk with rfl | rfl | rfl | rfl | rfl<;>(simp[Pv.ok,Pv.named,Pv.body,Pv.zero,inB];omega)
theorem ok_no {k:Int} (hk:k=12∨k=13∨k=14):({ Pv.zero with ty:=k } : Pv).ok=true:=by
 rcases hk with rfl | rfl | rfl<;>simp[Pv.ok,Pv.named,Pv.body,Pv.zero,inB]
theorem ok_cack {c:Int} {b:Bool} (hc:0≤c∧c≤5) (hb:b=true→c=0):({ Pv.zero with ty:=2,cod:=c,pre:=b } : Pv).ok=true:=by
 cases b
 ·simp[Pv.ok,Pv.named,Pv.body,Pv.zero,inB];omega
 ·have:=hb rfl;subst this;decide +kernel
theorem ok_pub0 {t:ByteArray} {bd:List UInt8} {r:Bool} (ht:tpc t=true) (hb:bd.length≤40):({ Pv.zero with ty:=3,qos:=0,ret:=r,top:=t,bod:=bd } : Pv).ok=true:=by
 simp[Pv.ok,Pv.named,Pv.body,Pv.zero,inB,ht,hb]
theorem ok_pub {t:ByteArray} {bd:List UInt8} {r u:Bool} {q x:Int} (ht:tpc t=true) (hb:bd.length≤40) (hq:0<q) (hq2:q<3) (h0:0≤x) (h1:x<4):({ Pv.zero with ty:=3,qos:=q,ret:=r,top:=t,bod:=bd,id:=1+x,dup:=u } : Pv).ok=true:=by
 simp[Pv.ok,Pv.named,Pv.body,Pv.zero,inB,ht,hb,hq];omega
theorem ok_sub {ws:List (ByteArray×Int)} {x:Int} (h0:0≤x) (h1:x<4) (hl:1≤ws.length) (hm:ws.length≤4) (hw:∀z∈ws,flt z.1=true∧0≤z.2∧z.2≤2):({ Pv.zero with ty:=8,id:=1+x,wan:=ws } : Pv).ok=true:=by
 have e:ws.all (fun x=>flt x.1&&inB x.2 0 2)=true:=List.all_eq_true.2 fun z hz=>by
  have:=hw z hz;rw[this.1,qeh this.2.1 this.2.2];rfl
 simp only[Pv.ok,Pv.named,Pv.body,Pv.zero,e];simp[inB];omega
theorem ok_uns {ns:List ByteArray} {x:Int} (h0:0≤x) (h1:x<4) (hl:1≤ns.length) (hm:ns.length≤4) (hw:∀z∈ns,flt z=true):({ Pv.zero with ty:=10,id:=1+x,nam:=ns } : Pv).ok=true:=by
 have e:ns.all (fun s=>flt s)=true:=List.all_eq_true.2 hw;simp only[Pv.ok,Pv.named,Pv.body,Pv.zero,e];simp[inB];omega
theorem ok_sack {cs:List Int} {x:Int} (h0:0≤x) (h1:x<4) (hl:1≤cs.length) (hm:cs.length≤4) (hw:∀c∈cs,(0≤c∧c≤2)∨c=128):({ Pv.zero with ty:=9,id:=1+x,cds:=cs } : Pv).ok=true:=by
 have e:cs.all (fun c=>inB c 0 2 || decide (c=128))=true:=List.all_eq_true.2 fun z hz=>by
  rcases hw z hz with h | h
  ·rw[qeh h.1 h.2];rfl
  ·rw[decide_eq_true h];simp
 simp only[Pv.ok,Pv.named,Pv.body,Pv.zero,e];simp[inB];omega
theorem l5k_id4 (g:Nat) (ao:Option Addr) (n cap:Nat) (l:List UInt8) (k:Int) (w:World) (hc:Cur w g ao n cap l) (hn:n≤1048576) (t1:(k==1)=false) (t2:(k==2)=false) (t3:(k==3)=false) (t8:(k==8)=false) (t9:(k==9)=false) (t10:(k==10)=false) (t4:(k==4)=true) (t5:(k==5)=false) (t6:(k==6)=false) (t7:(k==7)=false) (t11:(k==11)=false) :
  Calls Tryz.prog 109 #[.pointer (some ⟨g,0,none⟩),.int .i64 k] w fun e w'=>∃p d,(pv p d).ok=true∧e=.returned (.agg (Pk.cells p))∧POwn w' w.heap.size p d∧Pgd 64 p d∧Cur w' g ao n cap l∧w.grownBy w' (some g):=by
 have s:=qhz g ao n cap l k w hc;have V:=qks k;clear hc;go_enter Tryz.func109,Tryz.ntmps109
 go_upto_region 2 with (first | refine var_pk (p:=ofT k) rfl rfl ?_ | refine al_pk ?_ | (refine bu_pk (ofT k) (by kernel_rfl) ?_) | fail)
 change Code.wp _ _ _ Fq164 _;unfold Fq164;simp only[World.size_alloc];go_wp2_with fail
 refine (qag g ao n cap l 4 _ s.cur hn (by omega) (by omega)).mono ?_;rintro e y25_ ⟨x,hx0,hx1,rfl,hc_,hg_⟩;replace s:=s.draw hc_ hg_;clear hc_ hg_;have c4:=(s.blk.cell 4).trans (Pk.c4 _);have z4:=Lib.frozen_of_heap s.blk 4;obtain⟨p,d,s,V⟩:=qbs (s.s4 (1+x)) (congrArg (fun v:Pv=>{ v with id:=1+x }) V);go_wp2_with (first | refine load_pk s.blk rfl _ rfl rfl ?_ | (refine qac (q:=p) (old:=Pk.zero) s.res rfl rfl ?_;intro w9 B9 g9) | fail)
 exact qaf rfl rfl B9 rfl ⟨p,d,(congrArg Pv.ok V).trans (ok_id (by simp at t4;omega) hx0 hx1),rfl,s.done g9⟩
