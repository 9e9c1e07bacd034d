/- Lemmas. -/
import Derived.Test.YtpjkbgdkligpdaaGreatW19
set_option linter.unusedVariables false
set_option linter.unusedSimpArgs false
set_option maxRecDepth 100000
set_option maxHeartbeats 20000000
namespace Go.Proofs.YtpjkbgdkligpdaaGreat
open Go.RowKit

def byte (x:Int):UInt8:=UInt8.ofNat (x%256).toNat
theorem byte_nat (x:Int):(((byte x).toNat:Nat):Int)=x%256:=by
 unfold byte;simp;omega
def bit (b:Bool) (n:Int):Int:=if b then n else 0
theorem qdg (b:Bool) (n:Int) (h:0≤n):0≤bit b n∧bit b n≤n:=by unfold bit;split<;>omega
def pT (s:ByteArray):List UInt8:=if okT s.data.toList then wordB s.size++s.data.toList else []
def pB (x:List UInt8):List UInt8:=if x.length≤60 then wordB x.length++x else []
theorem qch (l:List UInt8) (s:ByteArray):putT l s=l++pT s:=by
 unfold putT pT
 split
 ·rfl
 ·rw[List.append_nil]
theorem qdp (l x:List UInt8):putB l x=l++pB x:=by
 unfold putB pB
 split
 ·rfl
 ·rw[List.append_nil]
def mqtt:ByteArray:=⟨#[77,81,84,84]⟩
def conF (cln hw:Bool) (wq:Int) (wr hp hu:Bool):Int:=bit cln 2+bit hw 4+8*wq+bit wr 32+bit hp 64+bit hu 128
def conB (lev:Int) (cli:ByteArray) (cln:Bool) (kee:Int) (hw:Bool) (wt:ByteArray) (wb:List UInt8) (wq:Int) (wr:Bool) (hu:Bool) (us:ByteArray) (hp:Bool) (pa:List UInt8):List UInt8 :=
 (((pT mqtt++[byte lev,byte (conF cln hw wq wr hp hu)])++wordB kee++pT cli)++(if hw then pT wt++pB wb else [])++(if hu then pT us else []))++(if hp then pB pa else [])
def pubB (qos id:Int) (top:ByteArray) (b:List UInt8):List UInt8:=(pT top++(if 0<qos then wordB id else []))++b
def pubL (dup:Bool) (qos:Int) (ret:Bool):Int:=bit dup 8+2*qos+bit ret 1

def Row (w:World) (g:Nat) (cs:Array Value) (T:TypeId):Prop:=w.heap[g]? = some (.cells cs T)
theorem Row.new (w:World) (cs:Array Value) (T:TypeId):Row (w.alloc (.cells cs T)) w.heap.size cs T:=heap_alloc_new _ _
theorem Row.lt {w:World} {g:Nat} {cs:Array Value} {T:TypeId} (h:Row w g cs T):g<w.heap.size:=(Array.getElem?_eq_some_iff.1 h).1
theorem Row.next {w w':World} {g:Nat} {cs:Array Value} {T:TypeId} (h:Row w g cs T) (hb:Below w.heap.size w w'):Row w' g cs T:=(hb.block g h.lt).trans h
theorem Row.cell {w:World} {g:Nat} {cs:Array Value} {T:TypeId} (h:Row w g cs T) (i:Nat) {v:Value} (hv:cs[i]? = some v):w.cell? ⟨g,i,none⟩ = some v:=(cell_of_row w g i cs _ (0,0) h).trans hv

theorem z_ld {o:Oper} {a:Act} {w:World} {K:Act→World→Prop} {Q:Exit→Act→World→Prop} {X:Addr} {v:Value} (τ:TypeId) (x:Operand) (ho:o.op=.load τ x) (hx:a.eval x=.pointer (some X)) (ht:(Tryz.prog.underlying τ).map (fun d=>match d with | .struct _ | .array _ _=>true | _=>false)=some false) (hc:w.cell? X=some v) (h:K (a.put o.dst v) w):Oper.wp Tryz.prog o a w K Q:=by
 cases e:Tryz.prog.underlying τ with
 |none=>rw[e] at ht;cases ht
 |some d=>
  rw[e] at ht;exact z_load τ x ho hx e (by cases d<;>first | rfl | cases ht) hc h
theorem qjd (w:World) (B:Nat) (hB:B≤w.heap.size) (x:Int):Own (w.alloc (.cells #[.int .u8 (x%256)] 5)) B (some ⟨w.heap.size,0,none⟩) 1 1 [byte x]:=by
 refine⟨rfl,by simp[bvals],.inr ⟨w.heap.size,1,_,rfl,hB,heap_alloc_new w _,Nat.le_refl _,by decide,rfl,?_⟩⟩;simp[bvals,byte_nat]
theorem own_b2 (w:World) (B:Nat) (hB:B≤w.heap.size) (x y:Int):Own (w.alloc (.cells #[.int .u8 (x%256),.int .u8 (y%256)] 5)) B (some ⟨w.heap.size,0,none⟩) 2 2 [byte x,byte y]:=by
 refine⟨rfl,by simp[bvals],.inr ⟨w.heap.size,2,_,rfl,hB,heap_alloc_new w _,Nat.le_refl _,by decide,rfl,?_⟩⟩;simp[bvals,byte_nat]
def Gives (f:FuncId) (xs:Array Value) (u:World) (L:List UInt8):Prop:=Calls Tryz.prog f xs u fun e u'=>∃ao n cap,e=.returned (.slice ao n cap)∧Own u' u.heap.size ao n cap L∧Below u.heap.size u u'

theorem qiv (xs:Array Value) (u:World):(callFunc 71 xs).run Tryz.prog u=.ok (.enter 71 xs) u:=by kernel_rfl
theorem cf_flags (xs:Array Value) (u:World):(callFunc 128 xs).run Tryz.prog u=.ok (.enter 128 xs) u:=by kernel_rfl
theorem cf_ipt (xs:Array Value) (u:World):(callFunc 132 xs).run Tryz.prog u=.ok (.enter 132 xs) u:=by kernel_rfl
theorem cf_ipw (xs:Array Value) (u:World):(callFunc 133 xs).run Tryz.prog u=.ok (.enter 133 xs) u:=by kernel_rfl
theorem cf_ipb (xs:Array Value) (u:World):(callFunc 134 xs).run Tryz.prog u=.ok (.enter 134 xs) u:=by kernel_rfl
theorem cf_beh (xs:Array Value) (u:World):(callFunc 38 xs).run Tryz.prog u=.ok (.enter 38 xs) u:=by kernel_rfl
theorem bit_i (b:Bool) (n:Int) (w:World):Calls Tryz.prog 71 #[.bool b,.int .i64 n] w fun e w'=>e=.returned (.int .i64 (bit b n))∧w'=w:=by
 cases b
 ·go_enter Tryz.func71,Tryz.ntmps71;go_wp2;go_ret;exact⟨rfl,rfl⟩
 ·go_enter Tryz.func71,Tryz.ntmps71;go_wp2;go_ret;exact⟨rfl,rfl⟩
theorem qkf (w:World):Gives 166 #[.agg #[]] w []:=by
 unfold Gives;go_enter Tryz.func166,Tryz.ntmps166;go_wp2;go_ret;exact⟨none,0,0,rfl,qng _ _,qae _ _⟩
theorem qfn (id:Int) (w:World):Gives 144 #[.agg #[.int .i64 id]] w (wordB id):=by
 unfold Gives;go_enter Tryz.func144,Tryz.ntmps144;go_wp2_with fail
 refine (qbv none 0 0 id [] _ (RdIn.nil _) (by omega)).mono ?_;rintro e y ⟨a1,c1,rfl,o1,b1⟩;go_wp2;go_ret;exact⟨a1,_,c1,rfl,o1.mono (by simp),bel (qae _ _) b1⟩
theorem flags_con (lev:Int) (cli:ByteArray) (cln:Bool) (kee:Int) (hw:Bool) (wt:ByteArray) (wb:Sl) (wq:Int) (wr:Bool) (hu:Bool) (us:ByteArray) (hp:Bool) (pa:Sl) (w:World) (hq:0≤wq∧wq≤2) :
  Calls Tryz.prog 128 #[.agg (conC lev cli cln kee hw wt wb wq wr hu us hp pa)] w fun e w'=>e=.returned (.int .i64 (conF cln hw wq wr hp hu))∧Below w.heap.size w w':=by
 have i1:=qdg cln 2 (by omega);have i2:=qdg hw 4 (by omega);have i3:=qdg wr 32 (by omega);have i4:=qdg hp 64 (by omega);have i5:=qdg hu 128 (by omega);have A:Row (w.alloc (.cells (conC lev cli cln kee hw wt wb wq wr hu us hp pa) 84)) w.heap.size (conC lev cli cln kee hw wt wb wq wr hu us hp pa) 84:=Row.new _ _ _;have hb:Below w.heap.size w (w.alloc (.cells (conC lev cli cln kee hw wt wb wq wr hu us hp pa) 84)):=qae _ _;go_enter Tryz.func128,Tryz.ntmps128;go_wp2;refine qar (by kernel_rfl) rfl (fun i u x=>match i with
  |0=>u=.pointer (some ⟨w.heap.size,2,none⟩)
  |1=>u=.bool cln
  |2=>u=.int .i64 (bit cln 2)
  |3=>u=.pointer (some ⟨w.heap.size,4,none⟩)
  |4=>u=.bool hw
  |5=>u=.int .i64 (bit hw 4)
  |6=>u=.int .i64 (bit cln 2+bit hw 4)
  |7=>u=.pointer (some ⟨w.heap.size,5,none⟩)
  |8=>u=.pointer (some ⟨w.heap.size,7,none⟩)
  |9=>u=.int .i64 (wq)
  |10=>u=.int .i64 (8*wq)
  |11=>u=.int .i64 (bit cln 2+bit hw 4+8*wq)
  |12=>u=.pointer (some ⟨w.heap.size,5,none⟩)
  |13=>u=.pointer (some ⟨w.heap.size,8,none⟩)
  |14=>u=.bool wr
  |15=>u=.int .i64 (bit wr 32)
  |16=>u=.int .i64 (bit cln 2+bit hw 4+8*wq+bit wr 32)
  |17=>u=.pointer (some ⟨w.heap.size,11,none⟩)
  |18=>u=.bool hp
  |19=>u=.int .i64 (bit hp 64)
  |20=>u=.int .i64 (bit cln 2+bit hw 4+8*wq+bit wr 32+bit hp 64)
  |21=>u=.pointer (some ⟨w.heap.size,9,none⟩)
  |22=>u=.bool hu
  |23=>u=.int .i64 (bit hu 128)
  |24=>u=.int .i64 (bit cln 2+bit hw 4+8*wq+bit wr 32+bit hp 64+bit hu 128)
  |25=>u=.int .i64 (bit cln 2+bit hw 4+8*wq+bit wr 32+bit hp 64+bit hu 128)
  |_=>True) ?_ ?_ ?_
 ·intro i u x x' hx h
  match i,h with
  |0,h=>exact h
  |1,h=>exact h
  |2,h=>exact h
  |3,h=>exact h
  |4,h=>exact h
  |5,h=>exact h
  |6,h=>exact h
  |7,h=>exact h
  |8,h=>exact h
  |9,h=>exact h
  |10,h=>exact h
  |11,h=>exact h
  |12,h=>exact h
  |13,h=>exact h
  |14,h=>exact h
  |15,h=>exact h
  |16,h=>exact h
  |17,h=>exact h
  |18,h=>exact h
  |19,h=>exact h
  |20,h=>exact h
  |21,h=>exact h
  |22,h=>exact h
  |23,h=>exact h
  |24,h=>exact h
  |25,h=>exact h
  |(_+26),h=>trivial
 ·intro i o a u hi hk hbu hdep
  match i,hi with
  |0,hi=>
   cases hi;exact g_run (qaa rfl _) (z_fld (X:=⟨w.heap.size,0,none⟩) (Y:=⟨w.heap.size,2,none⟩) 84 _ 2 rfl (qab ((hk.at 1 rfl).trans rfl)) (fun _=>by kernel_rfl) ⟨_,rfl,Below.refl _ _,rfl⟩)
  |1,hi=>
   cases hi;obtain⟨z0,hz0,rfl⟩:=hdep 0 _ _ rfl rfl rfl;exact g_run (qaa rfl _) (z_ld 4 _ rfl (qab hz0) (by kernel_rfl) ((A.next hbu).cell 2 rfl) ⟨_,rfl,Below.refl _ _,rfl⟩)
  |2,hi=>
   cases hi;obtain⟨z1,hz1,rfl⟩:=hdep 1 _ _ rfl rfl rfl;refine g_run (qaa rfl _) (qaj (qag _ _ _ _ _ _ _ _ qiv (qab hz1) (rfl) (fun _=>rfl) _ _ _ _ _ _) ?_);refine (bit_i cln 2 u).mono ?_;rintro e u' ⟨rfl,hu⟩;exact⟨_,rfl,_,rfl,hu ▸ Below.refl _ _,rfl⟩
  |3,hi=>
   cases hi;exact g_run (qaa rfl _) (z_fld (X:=⟨w.heap.size,0,none⟩) (Y:=⟨w.heap.size,4,none⟩) 84 _ 4 rfl (qab ((hk.at 1 rfl).trans rfl)) (fun _=>by kernel_rfl) ⟨_,rfl,Below.refl _ _,rfl⟩)
  |4,hi=>
   cases hi;obtain⟨z3,hz3,rfl⟩:=hdep 3 _ _ rfl rfl rfl;exact g_run (qaa rfl _) (z_ld 4 _ rfl (qab hz3) (by kernel_rfl) ((A.next hbu).cell 4 rfl) ⟨_,rfl,Below.refl _ _,rfl⟩)
  |5,hi=>
   cases hi;obtain⟨z4,hz4,rfl⟩:=hdep 4 _ _ rfl rfl rfl;refine g_run (qaa rfl _) (qaj (qag _ _ _ _ _ _ _ _ qiv (qab hz4) (rfl) (fun _=>rfl) _ _ _ _ _ _) ?_);refine (bit_i hw 4 u).mono ?_;rintro e u' ⟨rfl,hu⟩;exact⟨_,rfl,_,rfl,hu ▸ Below.refl _ _,rfl⟩
  |6,hi=>
   cases hi;obtain⟨z2,hz2,rfl⟩:=hdep 2 _ _ rfl rfl rfl;obtain⟨z5,hz5,rfl⟩:=hdep 5 _ _ rfl rfl rfl;exact g_run (qaa rfl _) (z_bin _ _ _ _ _ rfl (qab hz2) (qab hz5) (addi _ _ _ _ _ (by rw[qau]<;>omega)) ⟨_,rfl,Below.refl _ _,rfl⟩)
  |7,hi=>
   cases hi;exact g_run (qaa rfl _) (z_fld (X:=⟨w.heap.size,0,none⟩) (Y:=⟨w.heap.size,5,none⟩) 84 _ 5 rfl (qab ((hk.at 1 rfl).trans rfl)) (fun _=>by kernel_rfl) ⟨_,rfl,Below.refl _ _,rfl⟩)
  |8,hi=>
   cases hi;obtain⟨z7,hz7,rfl⟩:=hdep 7 _ _ rfl rfl rfl;exact g_run (qaa rfl _) (z_fld (X:=⟨w.heap.size,5,none⟩) (Y:=⟨w.heap.size,7,none⟩) 82 _ 2 rfl (qab hz7) (fun _=>by kernel_rfl) ⟨_,rfl,Below.refl _ _,rfl⟩)
  |9,hi=>
   cases hi;obtain⟨z8,hz8,rfl⟩:=hdep 8 _ _ rfl rfl rfl;exact g_run (qaa rfl _) (z_ld 3 _ rfl (qab hz8) (by kernel_rfl) ((A.next hbu).cell 7 rfl) ⟨_,rfl,Below.refl _ _,rfl⟩)
  |10,hi=>
   cases hi;obtain⟨z9,hz9,rfl⟩:=hdep 9 _ _ rfl rfl rfl;exact g_run (qaa rfl _) (z_bin _ _ _ _ _ rfl (rfl) (qab hz9) (muli _ _ _ _ _ (by rw[qau]<;>omega)) ⟨_,rfl,Below.refl _ _,rfl⟩)
  |11,hi=>
   cases hi;obtain⟨z6,hz6,rfl⟩:=hdep 6 _ _ rfl rfl rfl;obtain⟨z10,hz10,rfl⟩:=hdep 10 _ _ rfl rfl rfl;exact g_run (qaa rfl _) (z_bin _ _ _ _ _ rfl (qab hz6) (qab hz10) (addi _ _ _ _ _ (by rw[qau]<;>omega)) ⟨_,rfl,Below.refl _ _,rfl⟩)
  |12,hi=>
   cases hi;exact g_run (qaa rfl _) (z_fld (X:=⟨w.heap.size,0,none⟩) (Y:=⟨w.heap.size,5,none⟩) 84 _ 5 rfl (qab ((hk.at 1 rfl).trans rfl)) (fun _=>by kernel_rfl) ⟨_,rfl,Below.refl _ _,rfl⟩)
  |13,hi=>
   cases hi;obtain⟨z12,hz12,rfl⟩:=hdep 12 _ _ rfl rfl rfl;exact g_run (qaa rfl _) (z_fld (X:=⟨w.heap.size,5,none⟩) (Y:=⟨w.heap.size,8,none⟩) 82 _ 3 rfl (qab hz12) (fun _=>by kernel_rfl) ⟨_,rfl,Below.refl _ _,rfl⟩)
  |14,hi=>
   cases hi;obtain⟨z13,hz13,rfl⟩:=hdep 13 _ _ rfl rfl rfl;exact g_run (qaa rfl _) (z_ld 4 _ rfl (qab hz13) (by kernel_rfl) ((A.next hbu).cell 8 rfl) ⟨_,rfl,Below.refl _ _,rfl⟩)
  |15,hi=>
   cases hi;obtain⟨z14,hz14,rfl⟩:=hdep 14 _ _ rfl rfl rfl;refine g_run (qaa rfl _) (qaj (qag _ _ _ _ _ _ _ _ qiv (qab hz14) (rfl) (fun _=>rfl) _ _ _ _ _ _) ?_);refine (bit_i wr 32 u).mono ?_;rintro e u' ⟨rfl,hu⟩;exact⟨_,rfl,_,rfl,hu ▸ Below.refl _ _,rfl⟩
  |16,hi=>
   cases hi;obtain⟨z11,hz11,rfl⟩:=hdep 11 _ _ rfl rfl rfl;obtain⟨z15,hz15,rfl⟩:=hdep 15 _ _ rfl rfl rfl;exact g_run (qaa rfl _) (z_bin _ _ _ _ _ rfl (qab hz11) (qab hz15) (addi _ _ _ _ _ (by rw[qau]<;>omega)) ⟨_,rfl,Below.refl _ _,rfl⟩)
  |17,hi=>
   cases hi;exact g_run (qaa rfl _) (z_fld (X:=⟨w.heap.size,0,none⟩) (Y:=⟨w.heap.size,11,none⟩) 84 _ 8 rfl (qab ((hk.at 1 rfl).trans rfl)) (fun _=>by kernel_rfl) ⟨_,rfl,Below.refl _ _,rfl⟩)
  |18,hi=>
   cases hi;obtain⟨z17,hz17,rfl⟩:=hdep 17 _ _ rfl rfl rfl;exact g_run (qaa rfl _) (z_ld 4 _ rfl (qab hz17) (by kernel_rfl) ((A.next hbu).cell 11 rfl) ⟨_,rfl,Below.refl _ _,rfl⟩)
  |19,hi=>
   cases hi;obtain⟨z18,hz18,rfl⟩:=hdep 18 _ _ rfl rfl rfl;refine g_run (qaa rfl _) (qaj (qag _ _ _ _ _ _ _ _ qiv (qab hz18) (rfl) (fun _=>rfl) _ _ _ _ _ _) ?_);refine (bit_i hp 64 u).mono ?_;rintro e u' ⟨rfl,hu⟩;exact⟨_,rfl,_,rfl,hu ▸ Below.refl _ _,rfl⟩
  |20,hi=>
   cases hi;obtain⟨z16,hz16,rfl⟩:=hdep 16 _ _ rfl rfl rfl;obtain⟨z19,hz19,rfl⟩:=hdep 19 _ _ rfl rfl rfl;exact g_run (qaa rfl _) (z_bin _ _ _ _ _ rfl (qab hz16) (qab hz19) (addi _ _ _ _ _ (by rw[qau]<;>omega)) ⟨_,rfl,Below.refl _ _,rfl⟩)
  |21,hi=>
   cases hi;exact g_run (qaa rfl _) (z_fld (X:=⟨w.heap.size,0,none⟩) (Y:=⟨w.heap.size,9,none⟩) 84 _ 6 rfl (qab ((hk.at 1 rfl).trans rfl)) (fun _=>by kernel_rfl) ⟨_,rfl,Below.refl _ _,rfl⟩)
  |22,hi=>
   cases hi;obtain⟨z21,hz21,rfl⟩:=hdep 21 _ _ rfl rfl rfl;exact g_run (qaa rfl _) (z_ld 4 _ rfl (qab hz21) (by kernel_rfl) ((A.next hbu).cell 9 rfl) ⟨_,rfl,Below.refl _ _,rfl⟩)
  |23,hi=>
   cases hi;obtain⟨z22,hz22,rfl⟩:=hdep 22 _ _ rfl rfl rfl;refine g_run (qaa rfl _) (qaj (qag _ _ _ _ _ _ _ _ qiv (qab hz22) (rfl) (fun _=>rfl) _ _ _ _ _ _) ?_);refine (bit_i hu 128 u).mono ?_;rintro e u' ⟨rfl,hu⟩;exact⟨_,rfl,_,rfl,hu ▸ Below.refl _ _,rfl⟩
  |24,hi=>
   cases hi;obtain⟨z20,hz20,rfl⟩:=hdep 20 _ _ rfl rfl rfl;obtain⟨z23,hz23,rfl⟩:=hdep 23 _ _ rfl rfl rfl;exact g_run (qaa rfl _) (z_bin _ _ _ _ _ rfl (qab hz20) (qab hz23) (addi _ _ _ _ _ (by rw[qau]<;>omega)) ⟨_,rfl,Below.refl _ _,rfl⟩)
  |25,hi=>
   cases hi;obtain⟨z24,hz24,rfl⟩:=hdep 24 _ _ rfl rfl rfl;exact g_run (qaa rfl _) (qad (v:=_) (w':=u) (by first | (simp[execOp,qab hz24];done) | (simp[execOp,qab hz24];rfl)) ⟨_,rfl,Below.refl _ _,rfl⟩)
  |(_+26),hi=>cases hi
 intro vs y3 b3 hG a3 h3;have gr:vs 25=.int .i64 (bit cln 2+bit hw 4+8*wq+bit wr 32+bit hp 64+bit hu 128):=hG 25 (by decide);have s2:=qej h3 rfl 25 rfl rfl;rw[gr] at s2;have hd:=(qgh h3).trans (show _ = [] from rfl);clear h3 hG;go_wp2;refine bodyPost_ret (results_tmp rfl _ _ _) hd ⟨?_,bel hb b3⟩;rw[qgs s2];rfl
theorem follow_ack (cod:Int) (pre:Bool) (w:World):Gives 137 #[.agg #[.int .i64 cod,.bool pre]] w [byte (bit pre 1),byte cod]:=by
 unfold Gives;have A:Row (w.alloc (.cells #[.int .i64 cod,.bool pre] 87)) w.heap.size #[.int .i64 cod,.bool pre] 87:=Row.new _ _ _;have hb:Below w.heap.size w (w.alloc (.cells #[.int .i64 cod,.bool pre] 87)):=qae _ _;go_enter Tryz.func137,Tryz.ntmps137;go_wp2;refine qar (by kernel_rfl) rfl (fun i u x=>match i with
  |0=>u=.pointer (some ⟨w.heap.size,1,none⟩)
  |1=>u=.bool pre
  |2=>u=.int .i64 (bit pre 1)
  |3=>u=.int .u8 (bit pre 1%256)
  |4=>u=.pointer (some ⟨w.heap.size,0,none⟩)
  |5=>u=.int .i64 (cod)
  |6=>u=.int .u8 (cod%256)
  |7=>∃ao n cap,u=.slice ao n cap∧Own x w.heap.size ao n cap ([byte (bit pre 1),byte cod])
  |8=>∃ao n cap,u=.slice ao n cap∧Own x w.heap.size ao n cap ([byte (bit pre 1),byte cod])
  |_=>True) ?_ ?_ ?_
 ·intro i u x x' hx h
  match i,h with
  |0,h=>exact h
  |1,h=>exact h
  |2,h=>exact h
  |3,h=>exact h
  |4,h=>exact h
  |5,h=>exact h
  |6,h=>exact h
  |7,h=>(obtain⟨ao,n,cap,e,ho⟩:=h;exact⟨ao,n,cap,e,ho.below hx⟩)
  |8,h=>(obtain⟨ao,n,cap,e,ho⟩:=h;exact⟨ao,n,cap,e,ho.below hx⟩)
  |(_+9),h=>trivial
 ·intro i o a u hi hk hbu hdep
  match i,hi with
  |0,hi=>
   cases hi;exact g_run (qaa rfl _) (z_fld (X:=⟨w.heap.size,0,none⟩) (Y:=⟨w.heap.size,1,none⟩) 87 _ 1 rfl (qab ((hk.at 1 rfl).trans rfl)) (fun _=>by kernel_rfl) ⟨_,rfl,Below.refl _ _,rfl⟩)
  |1,hi=>
   cases hi;obtain⟨z0,hz0,rfl⟩:=hdep 0 _ _ rfl rfl rfl;exact g_run (qaa rfl _) (z_ld 4 _ rfl (qab hz0) (by kernel_rfl) ((A.next hbu).cell 1 rfl) ⟨_,rfl,Below.refl _ _,rfl⟩)
  |2,hi=>
   cases hi;obtain⟨z1,hz1,rfl⟩:=hdep 1 _ _ rfl rfl rfl;refine g_run (qaa rfl _) (qaj (qag _ _ _ _ _ _ _ _ qiv (qab hz1) (rfl) (fun _=>rfl) _ _ _ _ _ _) ?_);refine (bit_i pre 1 u).mono ?_;rintro e u' ⟨rfl,hu⟩;exact⟨_,rfl,_,rfl,hu ▸ Below.refl _ _,rfl⟩
  |3,hi=>
   cases hi;obtain⟨z2,hz2,rfl⟩:=hdep 2 _ _ rfl rfl rfl;exact g_run (qaa rfl _) (qgo _ _ _ rfl (qab hz2) (cvb _ _) ⟨_,rfl,Below.refl _ _,rfl⟩)
  |4,hi=>
   cases hi;exact g_run (qaa rfl _) (z_fld (X:=⟨w.heap.size,0,none⟩) (Y:=⟨w.heap.size,0,none⟩) 87 _ 0 rfl (qab ((hk.at 1 rfl).trans rfl)) (fun _=>by kernel_rfl) ⟨_,rfl,Below.refl _ _,rfl⟩)
  |5,hi=>
   cases hi;obtain⟨z4,hz4,rfl⟩:=hdep 4 _ _ rfl rfl rfl;exact g_run (qaa rfl _) (z_ld 3 _ rfl (qab hz4) (by kernel_rfl) ((A.next hbu).cell 0 rfl) ⟨_,rfl,Below.refl _ _,rfl⟩)
  |6,hi=>
   cases hi;obtain⟨z5,hz5,rfl⟩:=hdep 5 _ _ rfl rfl rfl;exact g_run (qaa rfl _) (qgo _ _ _ rfl (qab hz5) (cvb _ _) ⟨_,rfl,Below.refl _ _,rfl⟩)
  |7,hi=>
   cases hi;obtain⟨z3,hz3,rfl⟩:=hdep 3 _ _ rfl rfl rfl;obtain⟨z6,hz6,rfl⟩:=hdep 6 _ _ rfl rfl rfl;exact g_run (qaa rfl _) (z_mk _ _ rfl (by simp[qab hz3,qab hz6]) (mkb2 _ _ _) ⟨_,rfl,qae _ _,⟨_,_,_,rfl,own_b2 u _ (Nat.le_trans hb.size hbu.size) _ _⟩⟩)
  |8,hi=>
   cases hi;obtain⟨z7,hz7,hg7⟩:=hdep 7 _ _ rfl rfl rfl;obtain⟨ao,n,cap,rfl,ho⟩:=hg7;exact g_run (qaa rfl _) (qad (v:=_) (w':=u) (by first | (simp[execOp,qab hz7];done) | (simp[execOp,qab hz7];rfl)) ⟨_,rfl,Below.refl _ _,_,_,_,rfl,ho⟩)
  |(_+9),hi=>cases hi
 intro vs y3 b3 hG a3 h3;obtain⟨ao,n,cap,gr,ho⟩:=hG 8 (by decide);have s2:=qej h3 rfl 8 rfl rfl;rw[gr] at s2;have hd:=(qgh h3).trans (show _ = [] from rfl);clear h3 hG;go_wp2;refine bodyPost_ret (results_tmp rfl _ _ _) hd ⟨ao,n,cap,?_,ho,bel hb b3⟩;rw[qgs s2]

def wanB (l:List (ByteArray×Int)):List UInt8:=l.flatMap fun x=>pT x.1++[byte x.2]
def namB (l:List ByteArray):List UInt8:=l.flatMap pT
def cdsB (l:List Int):List UInt8:=l.map byte
theorem pT_le (s:ByteArray):(pT s).length≤62:=by have:=qgy [] s;rw[qch] at this;simpa using this
theorem pB_le (x:List UInt8):(pB x).length≤62:=by have:=putB_le [] x;rw[qdp] at this;simpa using this
theorem qec {α:Type} (f:α→List UInt8) (l:List α) (d:α) (k:Nat) (hk:k<l.length):(l.take (k+1)).flatMap f=(l.take k).flatMap f++f (l.getD k d):=by
 rw[List.take_add_one,List.getElem?_eq_getElem hk,List.flatMap_append];simp[List.getD,List.getElem?_eq_getElem hk]
theorem flat_all {α:Type} (f:α→List UInt8) (l:List α) (n:Nat) (hn:l.length=n):(l.take n).flatMap f=l.flatMap f:=by rw[List.take_of_length_le (by omega)]
theorem qjw (l:List Int):cdsB l=l.flatMap fun x=>[byte x]:=by
 unfold cdsB
 induction l with
 |nil=>rfl
 |cons x l ih=>simp[ih]

theorem follow_pub (dup:Bool) (qos:Int) (ret:Bool) (id:Int) (top:ByteArray) (b:Sl) (l:List UInt8) (w:World) (hr:RdIn w b.a b.n b.c l) (hs:top.size≤1048576) (hn:b.n≤1048576) :
  Gives 140 #[.agg (pubC dup qos ret id top b)] w (pubB qos id top l):=by
 unfold Gives;have A:Row (w.alloc (.cells (pubC dup qos ret id top b) 89)) w.heap.size (pubC dup qos ret id top b) 89:=Row.new _ _ _;have hb:Below w.heap.size w (w.alloc (.cells (pubC dup qos ret id top b) 89)):=qae _ _;replace hr:=hr.below hb;have hle:=qgy [] top;obtain⟨cs,hcs⟩ : ∃cs,pubC dup qos ret id top b=cs:=⟨_,rfl⟩;have k1:cs[1]? = some (.int .i64 qos):=by rw[←hcs];rfl
 have k3:cs[3]? = some (.int .i64 id):=by rw[←hcs];rfl
 have k5:cs[5]? = some (.slice b.a b.n b.c):=by rw[←hcs];rfl
 have k4:cs[4]? = some (.string top):=by rw[←hcs];rfl
 rw[hcs] at A hb hr ⊢;clear hcs;have f4:=A.cell 4 k4;go_enter Tryz.func140,Tryz.ntmps140;go_wp2_with fail
 refine (qbu none 0 0 top [] _ (RdIn.nil _) (by omega) (by omega)).mono ?_;rintro e y ⟨a1,n1,c1,rfl,o1,b1⟩;replace hle:n1≤62:=by have:=o1.1;simp at hle;omega
 rw[qch,List.nil_append] at o1;have O1:Own y w.heap.size a1 n1 c1 (pT top):=o1.mono (by simp);replace hb:=bel hb b1;replace A:=A.next b1;replace hr:=hr.below b1;clear b1 o1 f4;have f1:=A.cell 1 k1
 by_cases h:0<qos
 ·have HP:Hid (pubB qos id top l=(pT top++wordB id)++l):=by show pubB _ _ _ _=_;unfold pubB;rw[if_pos h]
  have f3:=A.cell 3 k3;go_wp2_with fail
  refine (qbv a1 n1 c1 id (pT top) _ O1.rd (by omega)).mono ?_;rintro e y2 ⟨a2,c2,rfl,o2,b2⟩;replace hb:=bel hb b2;replace A:=A.next b2;replace hr:=hr.below b2;clear f1 f3;have f5:=A.cell 5 k5;go_wp2_with fail
  refine (qbq _ _ _ _ _ _ _ l _ o2.rd hr (by omega) (by omega)).mono ?_;rintro e y3 ⟨a3,c3,rfl,o3,b3⟩;go_wp2;go_ret;exact⟨a3,_,c3,rfl,by rw[HP.out];exact o3.mono hb.size,bel hb b3⟩
 ·have HP:Hid (pubB qos id top l=pT top++l):=by show pubB _ _ _ _=_;unfold pubB;rw[if_neg h,List.append_nil]
  have f5:=A.cell 5 k5;go_wp2_with fail
  refine (qbq _ _ _ _ _ _ _ l _ O1.rd hr (by omega) (by omega)).mono ?_;rintro e y3 ⟨a3,c3,rfl,o3,b3⟩;go_wp2;go_ret;exact⟨a3,_,c3,rfl,by rw[HP.out];exact o3.mono hb.size,bel hb b3⟩
theorem follow_uns (id:Int) (b:Sl) (l:List ByteArray) (w:World) (hr:SRd w b.a b.n b.c l) (hs:∀s∈l,s.size≤1048576) (hn:b.n≤1048576) :
  Gives 161 #[.agg #[.int .i64 id,.slice b.a b.n b.c]] w (wordB id++namB l):=by
 unfold Gives;have HL:Hid (l.length=b.n):=hr.1.1;obtain⟨ao,n,cap⟩:=b;simp only at hr HL hn ⊢;go_enter Tryz.func161,Tryz.ntmps161;go_wp2_with fail
 refine (qbv none 0 0 id [] _ (RdIn.nil _) (by omega)).mono ?_;rintro e y ⟨a1,c1,rfl,o1,b1⟩;have f1:y.cell? ⟨w.heap.size,1,none⟩ = some (.slice ao n cap):=(b1.cell (by simp)).trans (by simp);have hb0:=bel (qae _ _) b1;have O1:Own y w.heap.size a1 2 c1 (wordB id++namB (l.take 0)):=o1.mono (by simp);clear o1 b1;go_wp2
 go_loopw [3,12] (fun v i wr=>∃(k j:Nat) (a:Option Addr) (c:Nat),i=.int .i64 k∧v=.slice a j c∧k≤n∧j≤2+63*k∧Own wr w.heap.size a j c (wordB id++namB (l.take k))∧Below w.heap.size w wr) (fun _ i _=>n-(intOf i).toNat)
 case atStart=>exact⟨0,2,a1,c1,rfl,rfl,Nat.zero_le _,by omega,O1,hb0⟩
 case round=>
  obtain⟨k,j,a,c,rfl,rfl,hk,hj,ho,hb⟩:=hrel
  by_cases hlt:k<n
  ·obtain⟨b,off,e,hc⟩:=hr.1.2 k hlt;subst e;have hck:wr.cell? ⟨b,off+k,none⟩ = some (.string (st l k)):=(hb.cell (World.block_lt_of_cell? w _ hc)).trans hc;clear hc;have hlt':(k:Int)<n:=by omega
   have hkl:Hid (k<l.length):=by show k<l.length;rw[HL.out];exact hlt
   have HS:Hid (namB (l.take k)++pT (st l k)=namB (l.take (k+1))):=(qec pT l ByteArray.empty k hkl.out).symm;have hle:=qgy (wordB id++namB (l.take k)) (st l k);rw[ho.1] at hle;go_wp2_with fail
   refine (qbu a j c (st l k) _ _ ho.rd (by omega) (by have:=hs _ (qmn hkl.out);omega)).mono ?_;rintro e w2 ⟨a2,n2,c2,rfl,o2,b2⟩;rw[o2.1] at hle;rw[qch,List.append_assoc,HS.out] at o2;have hb2:=bel hb b2;replace o2:=o2.mono hb.size;clear b2 hb ho;go_wp2;go_roundw
   case rel=>exact⟨k+1,n2,a2,c2,by go_num,rfl,by omega,by omega,o2,hb2⟩
   case measure=>simp[intOf];omega
  ·have hlt':¬(k:Int)<n:=by omega
   obtain rfl:k=n:=by omega
   go_wp2;go_ret;exact⟨a,j,c,rfl,by rw[←show namB (l.take k)=namB l from flat_all pT l _ HL.out];exact ho,hb⟩
theorem qou (id:Int) (b:Sl) (l:List Int) (w:World) (hr:IRd w b.a b.n b.c l) (hn:b.n≤1048576) :
  Gives 155 #[.agg #[.int .i64 id,.slice b.a b.n b.c]] w (wordB id++cdsB l):=by
 unfold Gives;have HL:Hid (l.length=b.n):=hr.1.1;obtain⟨ao,n,cap⟩:=b;simp only at hr HL hn ⊢;go_enter Tryz.func155,Tryz.ntmps155;go_wp2_with fail
 refine (qbv none 0 0 id [] _ (RdIn.nil _) (by omega)).mono ?_;rintro e y ⟨a1,c1,rfl,o1,b1⟩;have f1:y.cell? ⟨w.heap.size,1,none⟩ = some (.slice ao n cap):=(b1.cell (by simp)).trans (by simp);have hb0:=bel (qae _ _) b1;have O1:Own y w.heap.size a1 2 c1 (wordB id++cdsB (l.take 0)):=o1.mono (by simp);clear o1 b1;go_wp2
 go_loopw [3,12] (fun v i wr=>∃(k j:Nat) (a:Option Addr) (c:Nat),i=.int .i64 k∧v=.slice a j c∧k≤n∧j≤2+63*k∧Own wr w.heap.size a j c (wordB id++cdsB (l.take k))∧Below w.heap.size w wr) (fun _ i _=>n-(intOf i).toNat)
 case atStart=>exact⟨0,2,a1,c1,rfl,rfl,Nat.zero_le _,by omega,O1,hb0⟩
 case round=>
  obtain⟨k,j,a,c,rfl,rfl,hk,hj,ho,hb⟩:=hrel
  by_cases hlt:k<n
  ·obtain⟨b,off,e,hc⟩:=hr.1.2 k hlt;subst e;have hck:wr.cell? ⟨b,off+k,none⟩ = some (.int .i64 (l.getD k 0)):=(hb.cell (World.block_lt_of_cell? w _ hc)).trans hc;clear hc;have hlt':(k:Int)<n:=by omega
   have hkl:Hid (k<l.length):=by show k<l.length;rw[HL.out];exact hlt
   have HS:Hid (cdsB (l.take k)++[byte (l.getD k 0)]=cdsB (l.take (k+1))):=by
    show _=_;rw[qjw,qjw];exact (qec (fun x=>[byte x]) l 0 k hkl.out).symm
   go_wp2_with fail
   refine (qbq a j c _ _ 1 1 [byte (l.getD k 0)] _ (ho.alloc _).rd (qjd wr wr.heap.size (Nat.le_refl _) _).rd (by omega) (by omega)).mono ?_;rintro e w2 ⟨a2,c2,rfl,o2,b2⟩;rw[List.append_assoc,HS.out] at o2;have hb2:=bel (hb.alloc hb.size _) b2;replace o2:=o2.mono (show w.heap.size≤_ by have:=hb.size;simp;omega);clear b2 hb ho;go_wp2;go_roundw
   case rel=>exact⟨k+1,j+1,a2,c2,by go_num,rfl,by omega,by omega,o2,hb2⟩
   case measure=>simp[intOf];omega
  ·have hlt':¬(k:Int)<n:=by omega
   obtain rfl:k=n:=by omega
   go_wp2;go_ret;exact⟨a,j,c,rfl,by rw[←show cdsB (l.take k)=cdsB l by rw[List.take_of_length_le (by rw[HL.out];omega)]];exact ho,hb⟩

def Pv.head (v:Pv):List UInt8 :=
 if v.ty=1 then conB v.lev v.cli v.cln v.kee v.hw v.wt v.wb v.wq v.wr v.hu v.us v.hp v.pa
 else if v.ty=2 then [byte (bit v.pre 1),byte v.cod]
 else if v.ty=3 then pubB v.qos v.id v.top v.bod
 else []
def Pv.low (v:Pv):Int:=if v.ty=3 then pubL v.dup v.qos v.ret else if v.ty=6∨v.ty=8∨v.ty=10 then 2 else 0
def Pv.idB (v:Pv):List UInt8:=if v.ty≠3∧0<v.id then wordB v.id else []
def Pv.rest (v:Pv):List UInt8:=v.head++v.idB++wanB v.wan++cdsB v.cds++namB v.nam
def Pv.full (v:Pv):List UInt8:=[byte (16*v.ty+v.low)]++lenB v.rest.length++v.rest
def Pv.bytes (v:Pv):List UInt8:=if v.ok then v.full else []

theorem qot {α:Type} (f:α→List UInt8) (k:Nat) (h:∀x,(f x).length≤k) (l:List α):(l.flatMap f).length≤k*l.length:=by
 induction l with
 |nil=>simp
 |cons x l ih=>
  have:=h x;simp only[List.flatMap_cons,List.length_append,List.length_cons,Nat.mul_add,Nat.mul_one];omega
theorem wanB_le (l:List (ByteArray×Int)):(wanB l).length≤63*l.length:=qot _ 63 (fun x=>by have:=pT_le x.1;simp;omega) l
theorem namB_le (l:List ByteArray):(namB l).length≤62*l.length:=qot _ 62 pT_le l
theorem cdsB_le (l:List Int):(cdsB l).length=l.length:=by simp[cdsB]
theorem if_le (c:Bool) (x:List UInt8) (k:Nat) (h:x.length≤k):(if c then x else []).length≤k:=by
 cases c
 ·simp
 ·exact h
theorem conB_le (lev:Int) (cli:ByteArray) (cln:Bool) (kee:Int) (hw:Bool) (wt:ByteArray) (wb:List UInt8) (wq:Int) (wr:Bool) (hu:Bool) (us:ByteArray) (hp:Bool) (pa:List UInt8):(conB lev cli cln kee hw wt wb wq wr hu us hp pa).length≤500:=by
 unfold conB;have h1:=pT_le mqtt;have h2:=pT_le cli;have h3:=if_le hw (pT wt++pB wb) 124 (by have:=pT_le wt;have:=pB_le wb;simp;omega);have h4:=if_le hu (pT us) 62 (pT_le us);have h5:=if_le hp (pB pa) 62 (pB_le pa);simp only[List.length_append,List.length_cons,List.length_nil,qba];omega
theorem pubB_le (qos id:Int) (top:ByteArray) (b:List UInt8):(pubB qos id top b).length≤64+b.length:=by
 unfold pubB;have:=pT_le top
 split<;>simp[qba]<;>omega
theorem qcl (v:Pv) (h1:v.bod.length≤1048576) (h2:v.wan.length≤1048576) (h3:v.nam.length≤1048576) (h4:v.cds.length≤1048576):v.rest.length≤200000000:=by
 have a1:v.head.length≤1049576:=by
  unfold Pv.head
  split
  ·exact Nat.le_trans (conB_le _ _ _ _ _ _ _ _ _ _ _ _ _) (by decide)
  split
  ·simp
  split
  ·exact Nat.le_trans (pubB_le _ _ _ _) (by omega)
  ·simp
 have a2:v.idB.length≤2:=by unfold Pv.idB;split<;>simp[qba]
 have a3:=wanB_le v.wan;have a4:=namB_le v.nam;have a5:=cdsB_le v.cds;unfold Pv.rest;simp only[List.length_append];omega
theorem ok_ty {v:Pv} (h:v.ok=true):1≤v.ty∧v.ty≤14:=by
 unfold Pv.ok at h;simp only[Bool.and_eq_true] at h;exact qdn.1 h.1
theorem qft {v:Pv} (h:v.ok=true):v=v.named:=by
 unfold Pv.ok at h;simp only[Bool.and_eq_true,decide_eq_true_eq] at h;exact h.2.1
theorem qnz {v:Pv} (h:v.ok=true):v.body=true:=by
 unfold Pv.ok at h;simp only[Bool.and_eq_true] at h;exact h.2.2
theorem qbs {v:Pv} (h:v.ok=true):v.bytes = [byte (16*v.ty+v.low)]++lenB v.rest.length++v.rest:=by
 unfold Pv.bytes;rw[if_pos h];rfl
theorem qmr {v:Pv} (h:v.ok=false):v.bytes = []:=by
 unfold Pv.bytes;rw[h];rfl
theorem body1 {v:Pv} (h:v.ok=true) (ht:v.ty=1):0≤(if v.hw then v.wq else 0)∧(if v.hw then v.wq else 0)≤2:=by
 have hb:=qnz h;unfold Pv.body at hb;rw[if_pos ht] at hb;simp only[Bool.and_eq_true,Bool.or_eq_true] at hb;cases hw:v.hw with
 |false=>simp
 |true=>
  rw[hw] at hb;have:=hb.1;simp only[Bool.not_true,Bool.false_eq_true,false_or] at this
  simpa using qdn.1 this.2.2
theorem body3 {v:Pv} (h:v.ok=true) (ht:v.ty=3):0≤v.qos∧v.qos≤2:=by
 have hb:=qnz h;unfold Pv.body at hb;rw[if_neg (by omega),if_neg (by omega),if_pos ht] at hb;simp only[Bool.and_eq_true] at hb;exact qdn.1 hb.1
theorem bodyI {v:Pv} (h:v.ok=true) (ht:v.ty=4∨v.ty=5∨v.ty=6∨v.ty=7∨v.ty=8∨v.ty=9∨v.ty=10∨v.ty=11):1≤v.id:=by
 have hb:=qnz h;unfold Pv.body at hb;rw[if_neg (by omega),if_neg (by omega),if_neg (by omega),if_neg (by omega)] at hb
 split at hb
 ·simp only[Bool.and_eq_true] at hb;exact (qdn.1 hb.2.1).1
 split at hb
 ·simp only[Bool.and_eq_true] at hb;exact (qdn.1 hb.2.1).1
 split at hb
 ·simp only[Bool.and_eq_true] at hb;exact (qdn.1 hb.2.1).1
 ·exact (qdn.1 hb).1
theorem rest1 {v:Pv} (h:v.ok=true) (ht:v.ty=1):v.rest=conB v.lev v.cli v.cln v.kee v.hw (if v.hw then v.wt else ByteArray.empty) (if v.hw then v.wb else []) (if v.hw then v.wq else 0) (if v.hw then v.wr else false) v.hu (if v.hu then v.us else ByteArray.empty) (v.hu&&v.hp) (if v.hu&&v.hp then v.pa else []):=by
 have e:=qft h;rw[qfs v ht] at e
 conv=>lhs;rw[e]
 simp[Pv.rest,Pv.head,Pv.idB,Pv.zero,wanB,cdsB,namB]
theorem rest2 {v:Pv} (h:v.ok=true) (ht:v.ty=2):v.rest = [byte (bit (v.pre&&decide (v.cod=0)) 1),byte v.cod]:=by
 have e:=qft h;rw[qny v ht] at e
 conv=>lhs;rw[e]
 simp[Pv.rest,Pv.head,Pv.idB,Pv.zero,wanB,cdsB,namB]
theorem rest3 {v:Pv} (h:v.ok=true) (ht:v.ty=3):v.rest=pubB v.qos (if 0<v.qos then v.id else 0) v.top v.bod:=by
 have e:=qft h;rw[qmi v ht] at e
 conv=>lhs;rw[e]
 simp[Pv.rest,Pv.head,Pv.idB,Pv.zero,wanB,cdsB,namB]
theorem low3 {v:Pv} (h:v.ok=true) (ht:v.ty=3):v.low=pubL (if 0<v.qos then v.dup else false) v.qos v.ret:=by
 have e:=qft h;rw[qmi v ht] at e
 conv=>lhs;rw[e]
 simp[Pv.low,Pv.zero]
theorem restI {v:Pv} (h:v.ok=true) (k:Int) (ht:v.ty=k) (hk:k=4∨k=5∨k=6∨k=7∨k=11):v.rest=wordB v.id:=by
 have e:=qft h;have hi:=bodyI h (by omega);rw[qdi v k ht hk] at e
 conv=>lhs;rw[e]
 have k1:¬k=1:=by omega
 have k2:¬k=2:=by omega
 have k3:¬k=3:=by omega
 have k4:0<v.id:=by omega
 simp[Pv.rest,Pv.head,Pv.idB,Pv.zero,wanB,cdsB,namB,k1,k2,k3,k4]
theorem rest8 {v:Pv} (h:v.ok=true) (ht:v.ty=8):v.rest=wordB v.id++wanB v.wan:=by
 have e:=qft h;have hi:=bodyI h (by omega);rw[named8 v ht] at e
 conv=>lhs;rw[e]
 have k4:0<v.id:=by omega
 simp[Pv.rest,Pv.head,Pv.idB,Pv.zero,cdsB,namB,k4]
theorem rest9 {v:Pv} (h:v.ok=true) (ht:v.ty=9):v.rest=wordB v.id++cdsB v.cds:=by
 have e:=qft h;have hi:=bodyI h (by omega);rw[named9 v ht] at e
 conv=>lhs;rw[e]
 have k4:0<v.id:=by omega
 simp[Pv.rest,Pv.head,Pv.idB,Pv.zero,wanB,namB,k4]
theorem rest10 {v:Pv} (h:v.ok=true) (ht:v.ty=10):v.rest=wordB v.id++namB v.nam:=by
 have e:=qft h;have hi:=bodyI h (by omega);rw[qnb v ht] at e
 conv=>lhs;rw[e]
 have k4:0<v.id:=by omega
 simp[Pv.rest,Pv.head,Pv.idB,Pv.zero,wanB,cdsB,k4]
theorem restN {v:Pv} (h:v.ok=true) (k:Int) (ht:v.ty=k) (hk:k=12∨k=13∨k=14):v.rest = []:=by
 have e:=qft h;rw[qgn v k ht hk] at e;rw[e];have k1:¬k=1:=by omega
 have k2:¬k=2:=by omega
 have k3:¬k=3:=by omega
 simp[Pv.rest,Pv.head,Pv.idB,Pv.zero,wanB,cdsB,namB,k1,k2,k3]
def allB (l:List Pv):List UInt8:=l.flatMap Pv.bytes
