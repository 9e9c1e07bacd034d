/- Lemmas. -/
import Derived.Test.YtpjkbgdkligpdaaGreatDoorY08
import Derived.Test.YtpjkbgdkligpdaaGreatDoorY01
set_option linter.all false
set_option maxRecDepth 100000
set_option maxHeartbeats 20000000
namespace Go.Proofs.YtpjkbgdkligpdaaGreatDoor
open Go.RowKit

def byte (x:Int):UInt8:=UInt8.ofNat (x%256).toNat
theorem qid (x:Int):(((byte x).toNat:Nat):Int)=x%256:=by
 unfold byte;simp;omega
def bit (b:Bool) (n:Int):Int:=if b then n else 0
theorem qds (b:Bool) (n:Int) (h:0≤n):0≤bit b n∧bit b n≤n:=by unfold bit;split<;>omega
def pT (s:ByteArray):List UInt8:=if okT s.data.toList then wordB s.size++s.data.toList else []
def pB (x:List UInt8):List UInt8:=if x.length≤60 then wordB x.length++x else []
theorem qdo (l:List UInt8) (s:ByteArray):putT l s=l++pT s:=by
 unfold putT pT
 split
 ·rfl
 ·rw[List.append_nil]
theorem qgk (l x:List UInt8):putB l x=l++pB x:=by
 unfold putB pB
 split
 ·rfl
 ·rw[List.append_nil]
def mqtt:ByteArray:=⟨#[77,81,84,84]⟩
def conF (cln hw:Bool) (wq:Int) (wr hp hu:Bool):Int:=bit cln 2+bit hw 4+8*wq+bit wr 32+bit hp 64+bit hu 128
def conB (lev:Int) (cli:ByteArray) (cln:Bool) (kee:Int) (hw:Bool) (wt:ByteArray) (wb:List UInt8) (wq:Int) (wr:Bool) (hu:Bool) (us:ByteArray) (hp:Bool) (pa:List UInt8):List UInt8 :=
 (((pT mqtt++[byte lev,byte (conF cln hw wq wr hp hu)])++wordB kee++pT cli)++(if hw then pT wt++pB wb else [])++(if hu then pT us else []))++(if hp then pB pa else [])
def pubB (qos id:Int) (top:ByteArray) (b:List UInt8):List UInt8:=(pT top++(if 0<qos then wordB id else []))++b
def pubL (dup:Bool) (qos:Int) (ret:Bool):Int:=bit dup 8+2*qos+bit ret 1

def Row (w:World) (g:Nat) (cs:Array Value) (T:TypeId):Prop:=w.heap[g]? = some (.cells cs T)
theorem Row.new (w:World) (cs:Array Value) (T:TypeId):Row (w.alloc (.cells cs T)) w.heap.size cs T:=heap_alloc_new _ _
theorem Row.lt {w:World} {g:Nat} {cs:Array Value} {T:TypeId} (h:Row w g cs T):g<w.heap.size:=(Array.getElem?_eq_some_iff.1 h).1
theorem Row.next {w w':World} {g:Nat} {cs:Array Value} {T:TypeId} (h:Row w g cs T) (hb:Below w.heap.size w w'):Row w' g cs T:=(hb.block g h.lt).trans h
theorem Row.cell {w:World} {g:Nat} {cs:Array Value} {T:TypeId} (h:Row w g cs T) (i:Nat) {v:Value} (hv:cs[i]? = some v):w.cell? ⟨g,i,none⟩ = some v:=(cell_of_row w g i cs _ (0,0) h).trans hv

theorem z_ld {o:Oper} {a:Act} {w:World} {K:Act→World→Prop} {Q:Exit→Act→World→Prop} {X:Addr} {v:Value} (τ:TypeId) (x:Operand) (ho:o.op=.load τ x) (hx:a.eval x=.pointer (some X)) (ht:(Tryz.prog.underlying τ).map (fun d=>match d with | .struct _ | .array _ _=>true | _=>false)=some false) (hc:w.cell? X=some v) (h:K (a.put o.dst v) w):Oper.wp Tryz.prog o a w K Q:=by
 cases e:Tryz.prog.underlying τ with
 |none=>rw[e] at ht;cases ht
 |some d=>
  rw[e] at ht;exact z_load τ x ho hx e (by cases d<;>first | rfl | cases ht) hc h
theorem qni (w:World) (B:Nat) (hB:B≤w.heap.size) (x:Int):Own (w.alloc (.cells #[.int .u8 (x%256)] 5)) B (some ⟨w.heap.size,0,none⟩) 1 1 [byte x]:=by
 refine⟨rfl,by simp[bvals],.inr ⟨w.heap.size,1,_,rfl,hB,heap_alloc_new w _,Nat.le_refl _,by decide,rfl,?_⟩⟩;simp[bvals,qid]
theorem own_b2 (w:World) (B:Nat) (hB:B≤w.heap.size) (x y:Int):Own (w.alloc (.cells #[.int .u8 (x%256),.int .u8 (y%256)] 5)) B (some ⟨w.heap.size,0,none⟩) 2 2 [byte x,byte y]:=by
 refine⟨rfl,by simp[bvals],.inr ⟨w.heap.size,2,_,rfl,hB,heap_alloc_new w _,Nat.le_refl _,by decide,rfl,?_⟩⟩;simp[bvals,qid]
def Gives (f:FuncId) (xs:Array Value) (u:World) (L:List UInt8):Prop:=Calls Tryz.prog f xs u fun e u'=>∃ao n cap,e=.returned (.slice ao n cap)∧Own u' u.heap.size ao n cap L∧Below u.heap.size u u'

theorem qkg (xs:Array Value) (u:World):(callFunc 147 xs).run Tryz.prog u=.ok (.enter 147 xs) u:=by kernel_rfl
theorem cf_flags (xs:Array Value) (u:World):(callFunc 225 xs).run Tryz.prog u=.ok (.enter 225 xs) u:=by kernel_rfl
theorem cf_ipt (xs:Array Value) (u:World):(callFunc 229 xs).run Tryz.prog u=.ok (.enter 229 xs) u:=by kernel_rfl
theorem cf_ipw (xs:Array Value) (u:World):(callFunc 230 xs).run Tryz.prog u=.ok (.enter 230 xs) u:=by kernel_rfl
theorem cf_ipb (xs:Array Value) (u:World):(callFunc 231 xs).run Tryz.prog u=.ok (.enter 231 xs) u:=by kernel_rfl
theorem cf_beh (xs:Array Value) (u:World):(callFunc 66 xs).run Tryz.prog u=.ok (.enter 66 xs) u:=by kernel_rfl
theorem bit_i (b:Bool) (n:Int) (w:World):Calls Tryz.prog 147 #[.bool b,.int .i64 n] w fun e w'=>e=.returned (.int .i64 (bit b n))∧w'=w:=by
 cases b
 ·go_enter Tryz.func147,Tryz.ntmps147;go_wp2;go_ret;exact⟨rfl,rfl⟩
 ·go_enter Tryz.func147,Tryz.ntmps147;go_wp2;go_ret;exact⟨rfl,rfl⟩
theorem qop (w:World):Gives 263 #[.agg #[]] w []:=by
 unfold Gives;go_enter Tryz.func263,Tryz.ntmps263;go_wp2;go_ret;exact⟨none,0,0,rfl,qse _ _,qac _ _⟩
theorem qjk (id:Int) (w:World):Gives 241 #[.agg #[.int .i64 id]] w (wordB id):=by
 unfold Gives;go_enter Tryz.func241,Tryz.ntmps241;go_wp2_with fail
 refine (qcy none 0 0 id [] _ (RdIn.nil _) (by omega)).mono ?_;rintro e y ⟨a1,c1,rfl,o1,b1⟩;go_wp2;go_ret;exact⟨a1,_,c1,rfl,o1.mono (by simp),bel (qac _ _) b1⟩
theorem flags_con (lev:Int) (cli:ByteArray) (cln:Bool) (kee:Int) (hw:Bool) (wt:ByteArray) (wb:Sl) (wq:Int) (wr:Bool) (hu:Bool) (us:ByteArray) (hp:Bool) (pa:Sl) (w:World) (hq:0≤wq∧wq≤2) :
  Calls Tryz.prog 225 #[.agg (conC lev cli cln kee hw wt wb wq wr hu us hp pa)] w fun e w'=>e=.returned (.int .i64 (conF cln hw wq wr hp hu))∧Below w.heap.size w w':=by
 have i1:=qds cln 2 (by omega);have i2:=qds hw 4 (by omega);have i3:=qds wr 32 (by omega);have i4:=qds hp 64 (by omega);have i5:=qds hu 128 (by omega);have A:Row (w.alloc (.cells (conC lev cli cln kee hw wt wb wq wr hu us hp pa) 124)) w.heap.size (conC lev cli cln kee hw wt wb wq wr hu us hp pa) 124:=Row.new _ _ _;have hb:Below w.heap.size w (w.alloc (.cells (conC lev cli cln kee hw wt wb wq wr hu us hp pa) 124)):=qac _ _;go_enter Tryz.func225,Tryz.ntmps225;go_wp2;refine qaw (by kernel_rfl) rfl (fun i u x=>match i with
  |0=>u=.pointer (some ⟨w.heap.size,2,none⟩)
  |1=>u=.bool cln
  |2=>u=.int .i64 (bit cln 2)
  |3=>u=.pointer (some ⟨w.heap.size,4,none⟩)
  |4=>u=.bool hw
  |5=>u=.int .i64 (bit hw 4)
  |6=>u=.int .i64 (bit cln 2+bit hw 4)
  |7=>u=.pointer (some ⟨w.heap.size,5,none⟩)
  |8=>u=.pointer (some ⟨w.heap.size,7,none⟩)
  |9=>u=.int .i64 (wq)
  |10=>u=.int .i64 (8*wq)
  |11=>u=.int .i64 (bit cln 2+bit hw 4+8*wq)
  |12=>u=.pointer (some ⟨w.heap.size,5,none⟩)
  |13=>u=.pointer (some ⟨w.heap.size,8,none⟩)
  |14=>u=.bool wr
  |15=>u=.int .i64 (bit wr 32)
  |16=>u=.int .i64 (bit cln 2+bit hw 4+8*wq+bit wr 32)
  |17=>u=.pointer (some ⟨w.heap.size,11,none⟩)
  |18=>u=.bool hp
  |19=>u=.int .i64 (bit hp 64)
  |20=>u=.int .i64 (bit cln 2+bit hw 4+8*wq+bit wr 32+bit hp 64)
  |21=>u=.pointer (some ⟨w.heap.size,9,none⟩)
  |22=>u=.bool hu
  |23=>u=.int .i64 (bit hu 128)
  |24=>u=.int .i64 (bit cln 2+bit hw 4+8*wq+bit wr 32+bit hp 64+bit hu 128)
  |25=>u=.int .i64 (bit cln 2+bit hw 4+8*wq+bit wr 32+bit hp 64+bit hu 128)
  |_=>True) ?_ ?_ ?_
 ·intro i u x x' hx h
  match i,h with
  |0,h|1,h|2,h|3,h|4,h|5,h|6,h|7,h|8,h|9,h|10,h|11,h|12,h|13,h|14,h|15,h|16,h|17,h|18,h|19,h|20,h|21,h|22,h|23,h|24,h|25,h=>exact h
  |(_+26),h=>trivial
 ·intro i o a u hi hk hbu hdep;replace hdep:=qhdd hdep
  match i,hi with
  |0,hi=>cases hi;exact qggo rfl (z_fld (X:=⟨w.heap.size,0,none⟩) (Y:=⟨w.heap.size,2,none⟩) 124 _ 2 rfl (qevv hk 1 rfl rfl) (fun _=>by kernel_rfl) (qzqq rfl))
  |1,hi=>cases hi;obtain⟨z0,hz0,rfl⟩:=hdep 0 rfl;exact qggo rfl (z_ld 4 _ rfl (qab hz0) (by kernel_rfl) ((A.next hbu).cell 2 rfl) (qzqq rfl))
  |2,hi=>cases hi;obtain⟨z1,hz1,rfl⟩:=hdep 1 rfl;refine qggo rfl (qal (qak _ _ _ _ _ _ _ _ qkg (qab hz1) (rfl) (fun _=>rfl) _ _ _ _ _ _) ?_);refine (bit_i cln 2 u).mono ?_;rintro e u' ⟨rfl,hu⟩;exact⟨_,rfl,_,rfl,hu ▸ Below.refl _ _,rfl⟩
  |3,hi=>cases hi;exact qggo rfl (z_fld (X:=⟨w.heap.size,0,none⟩) (Y:=⟨w.heap.size,4,none⟩) 124 _ 4 rfl (qevv hk 1 rfl rfl) (fun _=>by kernel_rfl) (qzqq rfl))
  |4,hi=>cases hi;obtain⟨z3,hz3,rfl⟩:=hdep 3 rfl;exact qggo rfl (z_ld 4 _ rfl (qab hz3) (by kernel_rfl) ((A.next hbu).cell 4 rfl) (qzqq rfl))
  |5,hi=>cases hi;obtain⟨z4,hz4,rfl⟩:=hdep 4 rfl;refine qggo rfl (qal (qak _ _ _ _ _ _ _ _ qkg (qab hz4) (rfl) (fun _=>rfl) _ _ _ _ _ _) ?_);refine (bit_i hw 4 u).mono ?_;rintro e u' ⟨rfl,hu⟩;exact⟨_,rfl,_,rfl,hu ▸ Below.refl _ _,rfl⟩
  |6,hi=>cases hi;obtain⟨z2,hz2,rfl⟩:=hdep 2 rfl;obtain⟨z5,hz5,rfl⟩:=hdep 5 rfl;exact qggo rfl (z_bin _ _ _ _ _ rfl (qab hz2) (qab hz5) (addi _ _ _ _ _ (by rw[qay]<;>omega)) (qzqq rfl))
  |7,hi=>cases hi;exact qggo rfl (z_fld (X:=⟨w.heap.size,0,none⟩) (Y:=⟨w.heap.size,5,none⟩) 124 _ 5 rfl (qevv hk 1 rfl rfl) (fun _=>by kernel_rfl) (qzqq rfl))
  |8,hi=>cases hi;obtain⟨z7,hz7,rfl⟩:=hdep 7 rfl;exact qggo rfl (z_fld (X:=⟨w.heap.size,5,none⟩) (Y:=⟨w.heap.size,7,none⟩) 122 _ 2 rfl (qab hz7) (fun _=>by kernel_rfl) (qzqq rfl))
  |9,hi=>cases hi;obtain⟨z8,hz8,rfl⟩:=hdep 8 rfl;exact qggo rfl (z_ld 3 _ rfl (qab hz8) (by kernel_rfl) ((A.next hbu).cell 7 rfl) (qzqq rfl))
  |10,hi=>cases hi;obtain⟨z9,hz9,rfl⟩:=hdep 9 rfl;exact qggo rfl (z_bin _ _ _ _ _ rfl (rfl) (qab hz9) (muli _ _ _ _ _ (by rw[qay]<;>omega)) (qzqq rfl))
  |11,hi=>cases hi;obtain⟨z6,hz6,rfl⟩:=hdep 6 rfl;obtain⟨z10,hz10,rfl⟩:=hdep 10 rfl;exact qggo rfl (z_bin _ _ _ _ _ rfl (qab hz6) (qab hz10) (addi _ _ _ _ _ (by rw[qay]<;>omega)) (qzqq rfl))
  |12,hi=>cases hi;exact qggo rfl (z_fld (X:=⟨w.heap.size,0,none⟩) (Y:=⟨w.heap.size,5,none⟩) 124 _ 5 rfl (qevv hk 1 rfl rfl) (fun _=>by kernel_rfl) (qzqq rfl))
  |13,hi=>cases hi;obtain⟨z12,hz12,rfl⟩:=hdep 12 rfl;exact qggo rfl (z_fld (X:=⟨w.heap.size,5,none⟩) (Y:=⟨w.heap.size,8,none⟩) 122 _ 3 rfl (qab hz12) (fun _=>by kernel_rfl) (qzqq rfl))
  |14,hi=>cases hi;obtain⟨z13,hz13,rfl⟩:=hdep 13 rfl;exact qggo rfl (z_ld 4 _ rfl (qab hz13) (by kernel_rfl) ((A.next hbu).cell 8 rfl) (qzqq rfl))
  |15,hi=>cases hi;obtain⟨z14,hz14,rfl⟩:=hdep 14 rfl;refine qggo rfl (qal (qak _ _ _ _ _ _ _ _ qkg (qab hz14) (rfl) (fun _=>rfl) _ _ _ _ _ _) ?_);refine (bit_i wr 32 u).mono ?_;rintro e u' ⟨rfl,hu⟩;exact⟨_,rfl,_,rfl,hu ▸ Below.refl _ _,rfl⟩
  |16,hi=>cases hi;obtain⟨z11,hz11,rfl⟩:=hdep 11 rfl;obtain⟨z15,hz15,rfl⟩:=hdep 15 rfl;exact qggo rfl (z_bin _ _ _ _ _ rfl (qab hz11) (qab hz15) (addi _ _ _ _ _ (by rw[qay]<;>omega)) (qzqq rfl))
  |17,hi=>cases hi;exact qggo rfl (z_fld (X:=⟨w.heap.size,0,none⟩) (Y:=⟨w.heap.size,11,none⟩) 124 _ 8 rfl (qevv hk 1 rfl rfl) (fun _=>by kernel_rfl) (qzqq rfl))
  |18,hi=>cases hi;obtain⟨z17,hz17,rfl⟩:=hdep 17 rfl;exact qggo rfl (z_ld 4 _ rfl (qab hz17) (by kernel_rfl) ((A.next hbu).cell 11 rfl) (qzqq rfl))
  |19,hi=>cases hi;obtain⟨z18,hz18,rfl⟩:=hdep 18 rfl;refine qggo rfl (qal (qak _ _ _ _ _ _ _ _ qkg (qab hz18) (rfl) (fun _=>rfl) _ _ _ _ _ _) ?_);refine (bit_i hp 64 u).mono ?_;rintro e u' ⟨rfl,hu⟩;exact⟨_,rfl,_,rfl,hu ▸ Below.refl _ _,rfl⟩
  |20,hi=>cases hi;obtain⟨z16,hz16,rfl⟩:=hdep 16 rfl;obtain⟨z19,hz19,rfl⟩:=hdep 19 rfl;exact qggo rfl (z_bin _ _ _ _ _ rfl (qab hz16) (qab hz19) (addi _ _ _ _ _ (by rw[qay]<;>omega)) (qzqq rfl))
  |21,hi=>cases hi;exact qggo rfl (z_fld (X:=⟨w.heap.size,0,none⟩) (Y:=⟨w.heap.size,9,none⟩) 124 _ 6 rfl (qevv hk 1 rfl rfl) (fun _=>by kernel_rfl) (qzqq rfl))
  |22,hi=>cases hi;obtain⟨z21,hz21,rfl⟩:=hdep 21 rfl;exact qggo rfl (z_ld 4 _ rfl (qab hz21) (by kernel_rfl) ((A.next hbu).cell 9 rfl) (qzqq rfl))
  |23,hi=>cases hi;obtain⟨z22,hz22,rfl⟩:=hdep 22 rfl;refine qggo rfl (qal (qak _ _ _ _ _ _ _ _ qkg (qab hz22) (rfl) (fun _=>rfl) _ _ _ _ _ _) ?_);refine (bit_i hu 128 u).mono ?_;rintro e u' ⟨rfl,hu⟩;exact⟨_,rfl,_,rfl,hu ▸ Below.refl _ _,rfl⟩
  |24,hi=>cases hi;obtain⟨z20,hz20,rfl⟩:=hdep 20 rfl;obtain⟨z23,hz23,rfl⟩:=hdep 23 rfl;exact qggo rfl (z_bin _ _ _ _ _ rfl (qab hz20) (qab hz23) (addi _ _ _ _ _ (by rw[qay]<;>omega)) (qzqq rfl))
  |25,hi=>cases hi;obtain⟨z24,hz24,rfl⟩:=hdep 24 rfl;exact qggo rfl (qae (v:=_) (w':=u) (by first | (simp[execOp,qab hz24];done) | (simp[execOp,qab hz24];rfl)) (qzqq rfl))
  |(_+26),hi=>cases hi
 intro vs y3 b3 hG a3 h3;have gr:vs 25=.int .i64 (bit cln 2+bit hw 4+8*wq+bit wr 32+bit hp 64+bit hu 128):=hG 25 (by decide);have s2:=qgl h3 rfl 25 rfl rfl;rw[gr] at s2;have hd:=(qim h3).trans (show _ = [] from rfl);clear h3 hG;go_wp2;refine bodyPost_ret (results_tmp rfl _ _ _) hd ⟨?_,bel hb b3⟩;rw[qjl s2];rfl
theorem follow_ack (cod:Int) (pre:Bool) (w:World):Gives 234 #[.agg #[.int .i64 cod,.bool pre]] w [byte (bit pre 1),byte cod]:=by
 unfold Gives;have A:Row (w.alloc (.cells #[.int .i64 cod,.bool pre] 127)) w.heap.size #[.int .i64 cod,.bool pre] 127:=Row.new _ _ _;have hb:Below w.heap.size w (w.alloc (.cells #[.int .i64 cod,.bool pre] 127)):=qac _ _;go_enter Tryz.func234,Tryz.ntmps234;go_wp2;refine qaw (by kernel_rfl) rfl (fun i u x=>match i with
  |0=>u=.pointer (some ⟨w.heap.size,1,none⟩)
  |1=>u=.bool pre
  |2=>u=.int .i64 (bit pre 1)
  |3=>u=.int .u8 (bit pre 1%256)
  |4=>u=.pointer (some ⟨w.heap.size,0,none⟩)
  |5=>u=.int .i64 (cod)
  |6=>u=.int .u8 (cod%256)
  |7=>∃ao n cap,u=.slice ao n cap∧Own x w.heap.size ao n cap ([byte (bit pre 1),byte cod])
  |8=>∃ao n cap,u=.slice ao n cap∧Own x w.heap.size ao n cap ([byte (bit pre 1),byte cod])
  |_=>True) ?_ ?_ ?_
 ·intro i u x x' hx h
  match i,h with
  |0,h|1,h|2,h|3,h|4,h|5,h|6,h=>exact h
  |7,h=>(obtain⟨ao,n,cap,e,ho⟩:=h;exact⟨ao,n,cap,e,ho.below hx⟩)
  |8,h=>(obtain⟨ao,n,cap,e,ho⟩:=h;exact⟨ao,n,cap,e,ho.below hx⟩)
  |(_+9),h=>trivial
 ·intro i o a u hi hk hbu hdep;replace hdep:=qhdd hdep
  match i,hi with
  |0,hi=>cases hi;exact qggo rfl (z_fld (X:=⟨w.heap.size,0,none⟩) (Y:=⟨w.heap.size,1,none⟩) 127 _ 1 rfl (qevv hk 1 rfl rfl) (fun _=>by kernel_rfl) (qzqq rfl))
  |1,hi=>cases hi;obtain⟨z0,hz0,rfl⟩:=hdep 0 rfl;exact qggo rfl (z_ld 4 _ rfl (qab hz0) (by kernel_rfl) ((A.next hbu).cell 1 rfl) (qzqq rfl))
  |2,hi=>cases hi;obtain⟨z1,hz1,rfl⟩:=hdep 1 rfl;refine qggo rfl (qal (qak _ _ _ _ _ _ _ _ qkg (qab hz1) (rfl) (fun _=>rfl) _ _ _ _ _ _) ?_);refine (bit_i pre 1 u).mono ?_;rintro e u' ⟨rfl,hu⟩;exact⟨_,rfl,_,rfl,hu ▸ Below.refl _ _,rfl⟩
  |3,hi=>cases hi;obtain⟨z2,hz2,rfl⟩:=hdep 2 rfl;exact qggo rfl (qgp _ _ _ rfl (qab hz2) (cvb _ _) (qzqq rfl))
  |4,hi=>cases hi;exact qggo rfl (z_fld (X:=⟨w.heap.size,0,none⟩) (Y:=⟨w.heap.size,0,none⟩) 127 _ 0 rfl (qevv hk 1 rfl rfl) (fun _=>by kernel_rfl) (qzqq rfl))
  |5,hi=>cases hi;obtain⟨z4,hz4,rfl⟩:=hdep 4 rfl;exact qggo rfl (z_ld 3 _ rfl (qab hz4) (by kernel_rfl) ((A.next hbu).cell 0 rfl) (qzqq rfl))
  |6,hi=>cases hi;obtain⟨z5,hz5,rfl⟩:=hdep 5 rfl;exact qggo rfl (qgp _ _ _ rfl (qab hz5) (cvb _ _) (qzqq rfl))
  |7,hi=>cases hi;obtain⟨z3,hz3,rfl⟩:=hdep 3 rfl;obtain⟨z6,hz6,rfl⟩:=hdep 6 rfl;exact qggo rfl (z_mk _ _ rfl (by simp[qab hz3,qab hz6]) (mkb2 _ _ _) ⟨_,rfl,qac _ _,⟨_,_,_,rfl,own_b2 u _ (Nat.le_trans hb.size hbu.size) _ _⟩⟩)
  |8,hi=>cases hi;obtain⟨z7,hz7,hg7⟩:=hdep 7 rfl;obtain⟨ao,n,cap,rfl,ho⟩:=hg7;exact qggo rfl (qae (v:=_) (w':=u) (by first | (simp[execOp,qab hz7];done) | (simp[execOp,qab hz7];rfl)) ⟨_,rfl,Below.refl _ _,_,_,_,rfl,ho⟩)
  |(_+9),hi=>cases hi
 intro vs y3 b3 hG a3 h3;obtain⟨ao,n,cap,gr,ho⟩:=hG 8 (by decide);have s2:=qgl h3 rfl 8 rfl rfl;rw[gr] at s2;have hd:=(qim h3).trans (show _ = [] from rfl);clear h3 hG;go_wp2;refine bodyPost_ret (results_tmp rfl _ _ _) hd ⟨ao,n,cap,?_,ho,bel hb b3⟩;rw[qjl s2]

def wanB (l:List (ByteArray×Int)):List UInt8:=l.flatMap fun x=>pT x.1++[byte x.2]
def namB (l:List ByteArray):List UInt8:=l.flatMap pT
def cdsB (l:List Int):List UInt8:=l.map byte
theorem pT_le (s:ByteArray):(pT s).length≤62:=by have:=qkv [] s;rw[qdo] at this;simpa using this
theorem pB_le (x:List UInt8):(pB x).length≤62:=by have:=putB_le [] x;rw[qgk] at this;simpa using this
theorem qhk {α:Type} (f:α→List UInt8) (l:List α) (d:α) (k:Nat) (hk:k<l.length):(l.take (k+1)).flatMap f=(l.take k).flatMap f++f (l.getD k d):=by
 rw[List.take_add_one,List.getElem?_eq_getElem hk,List.flatMap_append];simp[List.getD,List.getElem?_eq_getElem hk]
theorem flat_all {α:Type} (f:α→List UInt8) (l:List α) (n:Nat) (hn:l.length=n):(l.take n).flatMap f=l.flatMap f:=by rw[List.take_of_length_le (by omega)]
theorem qkz (l:List Int):cdsB l=l.flatMap fun x=>[byte x]:=by
 unfold cdsB
 induction l with
 |nil=>rfl
 |cons x l ih=>simp[ih]

theorem follow_pub (dup:Bool) (qos:Int) (ret:Bool) (id:Int) (top:ByteArray) (b:Sl) (l:List UInt8) (w:World) (hr:RdIn w b.a b.n b.c l) (hs:top.size≤1048576) (hn:b.n≤1048576) :
  Gives 237 #[.agg (pubC dup qos ret id top b)] w (pubB qos id top l):=by
 unfold Gives;have A:Row (w.alloc (.cells (pubC dup qos ret id top b) 129)) w.heap.size (pubC dup qos ret id top b) 129:=Row.new _ _ _;have hb:Below w.heap.size w (w.alloc (.cells (pubC dup qos ret id top b) 129)):=qac _ _;replace hr:=hr.below hb;have hle:=qkv [] top;obtain⟨cs,hcs⟩ : ∃cs,pubC dup qos ret id top b=cs:=⟨_,rfl⟩;have k1:cs[1]? = some (.int .i64 qos):=by rw[←hcs];rfl
 have k3:cs[3]? = some (.int .i64 id):=by rw[←hcs];rfl
 have k5:cs[5]? = some (.slice b.a b.n b.c):=by rw[←hcs];rfl
 have k4:cs[4]? = some (.string top):=by rw[←hcs];rfl
 rw[hcs] at A hb hr ⊢;clear hcs;have f4:=A.cell 4 k4;go_enter Tryz.func237,Tryz.ntmps237;go_wp2_with fail
 refine (qcx none 0 0 top [] _ (RdIn.nil _) (by omega) (by omega)).mono ?_;rintro e y ⟨a1,n1,c1,rfl,o1,b1⟩;replace hle:n1≤62:=by have:=o1.1;simp at hle;omega
 rw[qdo,List.nil_append] at o1;have O1:Own y w.heap.size a1 n1 c1 (pT top):=o1.mono (by simp);replace hb:=bel hb b1;replace A:=A.next b1;replace hr:=hr.below b1;clear b1 o1 f4;have f1:=A.cell 1 k1
 by_cases h:0<qos
 ·have HP:Hid (pubB qos id top l=(pT top++wordB id)++l):=by show pubB _ _ _ _=_;unfold pubB;rw[if_pos h]
  have f3:=A.cell 3 k3;go_wp2_with fail
  refine (qcy a1 n1 c1 id (pT top) _ O1.rd (by omega)).mono ?_;rintro e y2 ⟨a2,c2,rfl,o2,b2⟩;replace hb:=bel hb b2;replace A:=A.next b2;replace hr:=hr.below b2;clear f1 f3;have f5:=A.cell 5 k5;go_wp2_with fail
  refine (qbx _ _ _ _ _ _ _ l _ o2.rd hr (by omega) (by omega)).mono ?_;rintro e y3 ⟨a3,c3,rfl,o3,b3⟩;go_wp2;go_ret;exact⟨a3,_,c3,rfl,by rw[HP.out];exact o3.mono hb.size,bel hb b3⟩
 ·have HP:Hid (pubB qos id top l=pT top++l):=by show pubB _ _ _ _=_;unfold pubB;rw[if_neg h,List.append_nil]
  have f5:=A.cell 5 k5;go_wp2_with fail
  refine (qbx _ _ _ _ _ _ _ l _ O1.rd hr (by omega) (by omega)).mono ?_;rintro e y3 ⟨a3,c3,rfl,o3,b3⟩;go_wp2;go_ret;exact⟨a3,_,c3,rfl,by rw[HP.out];exact o3.mono hb.size,bel hb b3⟩
theorem follow_uns (id:Int) (b:Sl) (l:List ByteArray) (w:World) (hr:SRd w b.a b.n b.c l) (hs:∀s∈l,s.size≤1048576) (hn:b.n≤1048576) :
  Gives 258 #[.agg #[.int .i64 id,.slice b.a b.n b.c]] w (wordB id++namB l):=by
 unfold Gives;have HL:Hid (l.length=b.n):=hr.1.1;obtain⟨ao,n,cap⟩:=b;simp only at hr HL hn ⊢;go_enter Tryz.func258,Tryz.ntmps258;go_wp2_with fail
 refine (qcy none 0 0 id [] _ (RdIn.nil _) (by omega)).mono ?_;rintro e y ⟨a1,c1,rfl,o1,b1⟩;have f1:y.cell? ⟨w.heap.size,1,none⟩ = some (.slice ao n cap):=(b1.cell (by simp)).trans (by simp);have hb0:=bel (qac _ _) b1;have O1:Own y w.heap.size a1 2 c1 (wordB id++namB (l.take 0)):=o1.mono (by simp);clear o1 b1;go_wp2
 go_loopw [3,12] (fun v i wr=>∃(k j:Nat) (a:Option Addr) (c:Nat),i=.int .i64 k∧v=.slice a j c∧k≤n∧j≤2+63*k∧Own wr w.heap.size a j c (wordB id++namB (l.take k))∧Below w.heap.size w wr) (fun _ i _=>n-(intOf i).toNat)
 case atStart=>exact⟨0,2,a1,c1,rfl,rfl,Nat.zero_le _,by omega,O1,hb0⟩
 case round=>
  obtain⟨k,j,a,c,rfl,rfl,hk,hj,ho,hb⟩:=hrel
  by_cases hlt:k<n
  ·obtain⟨b,off,e,hc⟩:=hr.1.2 k hlt;subst e;have hck:wr.cell? ⟨b,off+k,none⟩ = some (.string (st l k)):=(hb.cell (World.block_lt_of_cell? w _ hc)).trans hc;clear hc;have hlt':(k:Int)<n:=by omega
   have hkl:Hid (k<l.length):=by show k<l.length;rw[HL.out];exact hlt
   have HS:Hid (namB (l.take k)++pT (st l k)=namB (l.take (k+1))):=(qhk pT l ByteArray.empty k hkl.out).symm;have hle:=qkv (wordB id++namB (l.take k)) (st l k);rw[ho.1] at hle;go_wp2_with fail
   refine (qcx a j c (st l k) _ _ ho.rd (by omega) (by have:=hs _ (qub hkl.out);omega)).mono ?_;rintro e w2 ⟨a2,n2,c2,rfl,o2,b2⟩;rw[o2.1] at hle;rw[qdo,List.append_assoc,HS.out] at o2;have hb2:=bel hb b2;replace o2:=o2.mono hb.size;clear b2 hb ho;go_wp2;go_roundw
   case rel=>exact⟨k+1,n2,a2,c2,by go_num,rfl,by omega,by omega,o2,hb2⟩
   case measure=>simp[intOf];omega
  ·have hlt':¬(k:Int)<n:=by omega
   obtain rfl:k=n:=by omega
   go_wp2;go_ret;exact⟨a,j,c,rfl,by rw[←show namB (l.take k)=namB l from flat_all pT l _ HL.out];exact ho,hb⟩
theorem quv (id:Int) (b:Sl) (l:List Int) (w:World) (hr:IRd w b.a b.n b.c l) (hn:b.n≤1048576) :
  Gives 252 #[.agg #[.int .i64 id,.slice b.a b.n b.c]] w (wordB id++cdsB l):=by
 unfold Gives;have HL:Hid (l.length=b.n):=hr.1.1;obtain⟨ao,n,cap⟩:=b;simp only at hr HL hn ⊢;go_enter Tryz.func252,Tryz.ntmps252;go_wp2_with fail
 refine (qcy none 0 0 id [] _ (RdIn.nil _) (by omega)).mono ?_;rintro e y ⟨a1,c1,rfl,o1,b1⟩;have f1:y.cell? ⟨w.heap.size,1,none⟩ = some (.slice ao n cap):=(b1.cell (by simp)).trans (by simp);have hb0:=bel (qac _ _) b1;have O1:Own y w.heap.size a1 2 c1 (wordB id++cdsB (l.take 0)):=o1.mono (by simp);clear o1 b1;go_wp2
 go_loopw [3,12] (fun v i wr=>∃(k j:Nat) (a:Option Addr) (c:Nat),i=.int .i64 k∧v=.slice a j c∧k≤n∧j≤2+63*k∧Own wr w.heap.size a j c (wordB id++cdsB (l.take k))∧Below w.heap.size w wr) (fun _ i _=>n-(intOf i).toNat)
 case atStart=>exact⟨0,2,a1,c1,rfl,rfl,Nat.zero_le _,by omega,O1,hb0⟩
 case round=>
  obtain⟨k,j,a,c,rfl,rfl,hk,hj,ho,hb⟩:=hrel
  by_cases hlt:k<n
  ·obtain⟨b,off,e,hc⟩:=hr.1.2 k hlt;subst e;have hck:wr.cell? ⟨b,off+k,none⟩ = some (.int .i64 (l.getD k 0)):=(hb.cell (World.block_lt_of_cell? w _ hc)).trans hc;clear hc;have hlt':(k:Int)<n:=by omega
   have hkl:Hid (k<l.length):=by show k<l.length;rw[HL.out];exact hlt
   have HS:Hid (cdsB (l.take k)++[byte (l.getD k 0)]=cdsB (l.take (k+1))):=by
    show _=_;rw[qkz,qkz];exact (qhk (fun x=>[byte x]) l 0 k hkl.out).symm
   go_wp2_with fail
   refine (qbx a j c _ _ 1 1 [byte (l.getD k 0)] _ (ho.alloc _).rd (qni wr wr.heap.size (Nat.le_refl _) _).rd (by omega) (by omega)).mono ?_;rintro e w2 ⟨a2,c2,rfl,o2,b2⟩;rw[List.append_assoc,HS.out] at o2;have hb2:=bel (hb.alloc hb.size _) b2;replace o2:=o2.mono (show w.heap.size≤_ by have:=hb.size;simp;omega);clear b2 hb ho;go_wp2;go_roundw
   case rel=>exact⟨k+1,j+1,a2,c2,by go_num,rfl,by omega,by omega,o2,hb2⟩
   case measure=>simp[intOf];omega
  ·have hlt':¬(k:Int)<n:=by omega
   obtain rfl:k=n:=by omega
   go_wp2;go_ret;exact⟨a,j,c,rfl,by rw[←show cdsB (l.take k)=cdsB l by rw[List.take_of_length_le (by rw[HL.out];omega)]];exact ho,hb⟩

def Pv.head (v:Pv):List UInt8 :=
 if v.ty=1 then conB v.lev v.cli v.cln v.kee v.hw v.wt v.wb v.wq v.wr v.hu v.us v.hp v.pa
 else if v.ty=2 then [byte (bit v.pre 1),byte v.cod]
 else if v.ty=3 then pubB v.qos v.id v.top v.bod
 else []
def Pv.low (v:Pv):Int:=if v.ty=3 then pubL v.dup v.qos v.ret else if v.ty=6∨v.ty=8∨v.ty=10 then 2 else 0
def Pv.idB (v:Pv):List UInt8:=if v.ty≠3∧0<v.id then wordB v.id else []
def Pv.rest (v:Pv):List UInt8:=v.head++v.idB++wanB v.wan++cdsB v.cds++namB v.nam
def Pv.full (v:Pv):List UInt8:=[byte (16*v.ty+v.low)]++lenB v.rest.length++v.rest
def Pv.bytes (v:Pv):List UInt8:=if v.ok then v.full else []

theorem qut {α:Type} (f:α→List UInt8) (k:Nat) (h:∀x,(f x).length≤k) (l:List α):(l.flatMap f).length≤k*l.length:=by
 induction l with
 |nil=>simp
 |cons x l ih=>
  have:=h x;simp only[List.flatMap_cons,List.length_append,List.length_cons,Nat.mul_add,Nat.mul_one];omega
theorem wanB_le (l:List (ByteArray×Int)):(wanB l).length≤63*l.length:=qut _ 63 (fun x=>by have:=pT_le x.1;simp;omega) l
theorem namB_le (l:List ByteArray):(namB l).length≤62*l.length:=qut _ 62 pT_le l
theorem cdsB_le (l:List Int):(cdsB l).length=l.length:=by simp[cdsB]
theorem if_le (c:Bool) (x:List UInt8) (k:Nat) (h:x.length≤k):(if c then x else []).length≤k:=by
 cases c
 ·simp
 ·exact h
theorem conB_le (lev:Int) (cli:ByteArray) (cln:Bool) (kee:Int) (hw:Bool) (wt:ByteArray) (wb:List UInt8) (wq:Int) (wr:Bool) (hu:Bool) (us:ByteArray) (hp:Bool) (pa:List UInt8):(conB lev cli cln kee hw wt wb wq wr hu us hp pa).length≤500:=by
 unfold conB;have h1:=pT_le mqtt;have h2:=pT_le cli;have h3:=if_le hw (pT wt++pB wb) 124 (by have:=pT_le wt;have:=pB_le wb;simp;omega);have h4:=if_le hu (pT us) 62 (pT_le us);have h5:=if_le hp (pB pa) 62 (pB_le pa);simp only[List.length_append,List.length_cons,List.length_nil,qbe];omega
theorem pubB_le (qos id:Int) (top:ByteArray) (b:List UInt8):(pubB qos id top b).length≤64+b.length:=by
 unfold pubB;have:=pT_le top
 split<;>simp[qbe]<;>omega
theorem qdz (v:Pv) (h1:v.bod.length≤1048576) (h2:v.wan.length≤1048576) (h3:v.nam.length≤1048576) (h4:v.cds.length≤1048576):v.rest.length≤200000000:=by
 have a1:v.head.length≤1049576:=by
  unfold Pv.head
  split
  ·exact Nat.le_trans (conB_le _ _ _ _ _ _ _ _ _ _ _ _ _) (by decide)
  split
  ·simp
  split
  ·exact Nat.le_trans (pubB_le _ _ _ _) (by omega)
  ·simp
 have a2:v.idB.length≤2:=by unfold Pv.idB;split<;>simp[qbe]
 have a3:=wanB_le v.wan;have a4:=namB_le v.nam;have a5:=cdsB_le v.cds;unfold Pv.rest;simp only[List.length_append];omega
theorem ok_ty {v:Pv} (h:v.ok=true):1≤v.ty∧v.ty≤14:=by
 unfold Pv.ok at h;simp only[Bool.and_eq_true] at h;exact qdm.1 h.1
theorem qev {v:Pv} (h:v.ok=true):v=v.named:=by
 unfold Pv.ok at h;simp only[Bool.and_eq_true,decide_eq_true_eq] at h;exact h.2.1
theorem qjp {v:Pv} (h:v.ok=true):v.body=true:=by
 unfold Pv.ok at h;simp only[Bool.and_eq_true] at h;exact h.2.2
theorem qcp {v:Pv} (h:v.ok=true):v.bytes = [byte (16*v.ty+v.low)]++lenB v.rest.length++v.rest:=by
 unfold Pv.bytes;rw[if_pos h];rfl
theorem qoa {v:Pv} (h:v.ok=false):v.bytes = []:=by
 unfold Pv.bytes;rw[h];rfl
theorem body1 {v:Pv} (h:v.ok=true) (ht:v.ty=1):0≤(if v.hw then v.wq else 0)∧(if v.hw then v.wq else 0)≤2:=by
 have hb:=qjp h;unfold Pv.body at hb;rw[if_pos ht] at hb;simp only[Bool.and_eq_true,Bool.or_eq_true] at hb;cases hw:v.hw with
 |false=>simp
 |true=>
  rw[hw] at hb;have:=hb.1;simp only[Bool.not_true,Bool.false_eq_true,false_or] at this
  simpa using qdm.1 this.2.2
theorem body3 {v:Pv} (h:v.ok=true) (ht:v.ty=3):0≤v.qos∧v.qos≤2:=by
 have hb:=qjp h;unfold Pv.body at hb;rw[if_neg (by omega),if_neg (by omega),if_pos ht] at hb;simp only[Bool.and_eq_true] at hb;exact qdm.1 hb.1
theorem bodyI {v:Pv} (h:v.ok=true) (ht:v.ty=4∨v.ty=5∨v.ty=6∨v.ty=7∨v.ty=8∨v.ty=9∨v.ty=10∨v.ty=11):1≤v.id:=by
 have hb:=qjp h;unfold Pv.body at hb;rw[if_neg (by omega),if_neg (by omega),if_neg (by omega),if_neg (by omega)] at hb
 split at hb
 ·simp only[Bool.and_eq_true] at hb;exact (qdm.1 hb.2.1).1
 split at hb
 ·simp only[Bool.and_eq_true] at hb;exact (qdm.1 hb.2.1).1
 split at hb
 ·simp only[Bool.and_eq_true] at hb;exact (qdm.1 hb.2.1).1
 ·exact (qdm.1 hb).1
theorem rest1 {v:Pv} (h:v.ok=true) (ht:v.ty=1):v.rest=conB v.lev v.cli v.cln v.kee v.hw (if v.hw then v.wt else ByteArray.empty) (if v.hw then v.wb else []) (if v.hw then v.wq else 0) (if v.hw then v.wr else false) v.hu (if v.hu then v.us else ByteArray.empty) (v.hu&&v.hp) (if v.hu&&v.hp then v.pa else []):=by
 have e:=qev h;rw[qjn v ht] at e
 conv=>lhs;rw[e]
 simp[Pv.rest,Pv.head,Pv.idB,Pv.zero,wanB,cdsB,namB]
theorem rest2 {v:Pv} (h:v.ok=true) (ht:v.ty=2):v.rest = [byte (bit (v.pre&&decide (v.cod=0)) 1),byte v.cod]:=by
 have e:=qev h;rw[qrg v ht] at e
 conv=>lhs;rw[e]
 simp[Pv.rest,Pv.head,Pv.idB,Pv.zero,wanB,cdsB,namB]
theorem rest3 {v:Pv} (h:v.ok=true) (ht:v.ty=3):v.rest=pubB v.qos (if 0<v.qos then v.id else 0) v.top v.bod:=by
 have e:=qev h;rw[qpp v ht] at e
 conv=>lhs;rw[e]
 simp[Pv.rest,Pv.head,Pv.idB,Pv.zero,wanB,cdsB,namB]
theorem low3 {v:Pv} (h:v.ok=true) (ht:v.ty=3):v.low=pubL (if 0<v.qos then v.dup else false) v.qos v.ret:=by
 have e:=qev h;rw[qpp v ht] at e
 conv=>lhs;rw[e]
 simp[Pv.low,Pv.zero]
theorem restI {v:Pv} (h:v.ok=true) (k:Int) (ht:v.ty=k) (hk:k=4∨k=5∨k=6∨k=7∨k=11):v.rest=wordB v.id:=by
 have e:=qev h;have hi:=bodyI h (by omega);rw[qfm v k ht hk] at e
 conv=>lhs;rw[e]
 have k1:¬k=1:=by omega
 have k2:¬k=2:=by omega
 have k3:¬k=3:=by omega
 have k4:0<v.id:=by omega
 simp[Pv.rest,Pv.head,Pv.idB,Pv.zero,wanB,cdsB,namB,k1,k2,k3,k4]
theorem rest8 {v:Pv} (h:v.ok=true) (ht:v.ty=8):v.rest=wordB v.id++wanB v.wan:=by
 have e:=qev h;have hi:=bodyI h (by omega);rw[qtp v ht] at e
 conv=>lhs;rw[e]
 have k4:0<v.id:=by omega
 simp[Pv.rest,Pv.head,Pv.idB,Pv.zero,cdsB,namB,k4]
theorem rest9 {v:Pv} (h:v.ok=true) (ht:v.ty=9):v.rest=wordB v.id++cdsB v.cds:=by
 have e:=qev h;have hi:=bodyI h (by omega);rw[qtq v ht] at e
 conv=>lhs;rw[e]
 have k4:0<v.id:=by omega
 simp[Pv.rest,Pv.head,Pv.idB,Pv.zero,wanB,namB,k4]
theorem rest10 {v:Pv} (h:v.ok=true) (ht:v.ty=10):v.rest=wordB v.id++namB v.nam:=by
 have e:=qev h;have hi:=bodyI h (by omega);rw[qpo v ht] at e
 conv=>lhs;rw[e]
 have k4:0<v.id:=by omega
 simp[Pv.rest,Pv.head,Pv.idB,Pv.zero,wanB,cdsB,k4]
theorem restN {v:Pv} (h:v.ok=true) (k:Int) (ht:v.ty=k) (hk:k=12∨k=13∨k=14):v.rest = []:=by
 have e:=qev h;rw[qjo v k ht hk] at e;rw[e];have k1:¬k=1:=by omega
 have k2:¬k=2:=by omega
 have k3:¬k=3:=by omega
 simp[Pv.rest,Pv.head,Pv.idB,Pv.zero,wanB,cdsB,namB,k1,k2,k3]

def num (l:List UInt8) (p:Nat):Nat→Nat
 |0=>0
 |k+1=>num l p k+bt l (p+k)%128*128 ^ k
theorem num_lt (l:List UInt8) (p k:Nat):num l p k<128 ^ k:=by
 induction k with
 |zero=>simp[num]
 |succ k ih=>
  have h:=Nat.mod_lt (bt l (p+k)) (show 0<128 by omega);have h2:bt l (p+k)%128*128 ^ k≤127*128 ^ k:=Nat.mul_le_mul_right _ (by omega);simp only[num,Nat.pow_succ];omega

def ansG (l:List UInt8) (p:Nat):Nat→Int×Int×Int
 |0=>(0,0,2)
 |f+1=>if l.length≤p+(3-f) then (0,0,1) else if bt l (p+(3-f))<128 then
   (if 0<3-f∧bt l (p+(3-f))=0 then (0,0,2) else ((num l p (3-f+1):Nat),((p+(3-f)+1:Nat):Int),0)) else ansG l p f
def getE (l:List UInt8) (a:Int):Int×Int×Int:=if 0≤a∧a≤l.length then ansG l a.toNat 4 else (0,0,2)
def ret3 (t:Int×Int×Int):Ending:=.returned (.tuple #[.int .i64 t.1,.int .i64 t.2.1,.int .i64 t.2.2])

theorem qjy {l:List UInt8} {p k:Nat} (hk:k<4) (h:l.length≤p+k):ansG l p (4-k)=(0,0,1):=by
 rw[show 4-k=(3-k)+1 from by omega,ansG,if_pos (by omega)]
theorem qbw {l:List UInt8} {p k:Nat} (hk:k<4) (h:p+k<l.length) (hb:128≤bt l (p+k)):ansG l p (4-k)=ansG l p (4-(k+1)):=by
 rw[show 4-k=(3-k)+1 from by omega,ansG,if_neg (by omega),show 3-(3-k)=k from by omega,if_neg (by omega)];rw[show 4-(k+1)=3-k from by omega]
theorem qef {l:List UInt8} {p k:Nat} (hk:k<4) (h:p+k<l.length) (h0:0<k) (hb:bt l (p+k)=0):ansG l p (4-k)=(0,0,2):=by
 rw[show 4-k=(3-k)+1 from by omega,ansG,if_neg (by omega),show 3-(3-k)=k from by omega,if_pos (by omega),if_pos ⟨h0,hb⟩]
theorem qbv {l:List UInt8} {p k:Nat} (hk:k<4) (h:p+k<l.length) (hb:bt l (p+k)<128) (h0:¬(0<k∧bt l (p+k)=0)):ansG l p (4-k)=(((num l p (k+1):Nat):Int),((p+k+1:Nat):Int),0):=by
 rw[show 4-k=(3-k)+1 from by omega,ansG,if_neg (by omega),show 3-(3-k)=k from by omega,if_pos hb,if_neg h0]

theorem qlk (x y:Int):bits .or .i64 x y=bits .or .i64 y x:=by
 show IntKind.i64.wrap (((BitVec.ofInt 64 x ||| BitVec.ofInt 64 y):BitVec 64).toNat:Int)=IntKind.i64.wrap (((BitVec.ofInt 64 y ||| BitVec.ofInt 64 x):BitVec 64).toNat:Int);rw[BitVec.or_comm]

theorem or_k0 (z y:Nat) (hz:z<128 ^ 0) (hy:y<128):bits .or .i64 (z:Int) (y:Int)=((z+y:Nat):Int):=by
 obtain rfl:z=0:=by omega
 rw[qlk,bits_join .i64 62 (by decide) qay 0 _ _ (by omega) (by omega) (by omega) (by omega) (by omega) (by omega)];omega
theorem or_k1 (z y:Nat) (hz:z<128 ^ 1) (hy:y<128):bits .or .i64 (z:Int) ((y:Int)*128)=((z+y*128:Nat):Int):=by
 rw[qlk,bits_join .i64 62 (by decide) qay 7 _ _ (by omega) (by omega) (by omega) (by omega) (by omega) (by omega)];omega
theorem or_k2 (z y:Nat) (hz:z<128 ^ 2) (hy:y<128):bits .or .i64 (z:Int) ((y:Int)*16384)=((z+y*16384:Nat):Int):=by
 rw[qlk,bits_join .i64 62 (by decide) qay 14 _ _ (by omega) (by omega) (by omega) (by omega) (by omega) (by omega)];omega
theorem or_k3 (z y:Nat) (hz:z<128 ^ 3) (hy:y<128):bits .or .i64 (z:Int) ((y:Int)*2097152)=((z+y*2097152:Nat):Int):=by
 rw[qlk,bits_join .i64 62 (by decide) qay 21 _ _ (by omega) (by omega) (by omega) (by omega) (by omega) (by omega)];omega

theorem qhw {w:World} {ao:Option Addr} {n cap:Nat} {l:List UInt8} (hr:RdIn w ao n cap l) (p:Nat) (hp:p≤n):∃ax cx,
  (∀w',(Instr.slice 22 (.slice ao n cap) (some (.int .i64 (p:Int))) none none).run Tryz.prog w'=.ok (.slice ax (n-p) cx) w')∧RdIn w ax (n-p) cx (l.drop p):=by
 obtain⟨i0,hi,hz0,hz1,hz2⟩:=info_parts info5;obtain⟨⟨hl,hc⟩,hcap,hmax,hnil⟩:=hr;have he:Tryz.prog.elem 22=5:=by kernel_rfl
 have ht:Tryz.prog.underlying 22=some (.slice (Tryz.prog.elem 22)):=by rw[he];exact Tryz.underlying22
 refine⟨if cap=p then ao else ao.map (·.add (p*1)),cap-p,fun w'=>?_,⟨by simp;omega,fun i hi'=>?_⟩,by omega,by omega,fun h=>?_⟩
 ·have h:=run_slice_l (P:=Tryz.prog) w' 22 ao n cap ht .i64 (p:Int) (by omega) (by omega);rw[h,he];simp only[sizeOf,typeInfo,Sem.run_bind,Sem.run_pure,hi,hz1,Result.andThen_ok,sliced,Int.toNat_natCast];simp[hi,hz1,Result.andThen,sliced]
 ·obtain⟨b,off,rfl,hcell⟩:=hc (p+i) (by omega);refine⟨b,off+p,?_,?_⟩
  ·rw[if_neg (by omega)];simp[Addr.add_lit]
  ·rw[Nat.add_assoc,hcell,qfr]
 ·split at h
  ·rename_i g
   omega
  ·cases ao with
   |none=>have:=hnil rfl;omega
   |some a=>simp at h


theorem qqo (ao:Option Addr) (n cap p:Nat) (l:List UInt8) (w:World) (hr:RdIn w ao n cap l) (hp:p≤n) (hn:n≤1099511627776) :
  Calls Tryz.prog 19 #[.slice ao n cap,.int .i64 p] w fun e w'=>e=ret3 (ansG l p 4)∧w'=w:=by
 have HLEN:Hid (l.length=n):=hr.1.1;obtain⟨ax,cx,hsl,hx⟩:=qhw hr p hp;have hp1:¬(n:Int)<(p:Int):=by omega
 obtain⟨q,hq⟩ : ∃q,n-p=q:=⟨_,rfl⟩;rw[hq] at hsl hx;have HNQ:Hid (n=p+q):=by unfold Hid;omega
 clear hq;go_enter Tryz.func19,Tryz.ntmps19;go_wp2
 go_loop [7,8,9,22] (fun v _ _ i=>∃k z:Nat,i=.int .i64 k∧v=.int .i64 z∧k≤q∧k≤4∧z=num l p k∧ansG l p 4=ansG l p (4-k)) (fun _ _ _ i=>q-(intOf i).toNat)
 case atStart=>exact⟨0,0,rfl,rfl,by omega,by omega,rfl,rfl⟩
 case round=>
  obtain⟨k,z,rfl,rfl,hkq,hk4,hzn,hans⟩:=hrel;have HNUM:Hid (z=num l p k):=hzn;have HANS:Hid (ansG l p 4=ansG l p (4-k)):=hans;have hz:z<128 ^ k:=by rw[hzn];exact num_lt l p k
  clear hans hzn
  by_cases hlt:k<q
  ·have h1:(k:Int)<q:=by omega
   by_cases h4:k=4
   ·subst h4;have h5:¬(n:Int)-(p:Int)<4:=by have:=HNQ.out;omega
    obtain⟨bb,off,e,hc⟩:=hx.1.2 4 (by omega);subst e;go_wp2;go_ret3;exact⟨by rw[HANS.out];simp[ret3,ansG],rfl⟩
   obtain⟨bb,off,e,hc⟩:=hx.1.2 k hlt;subst e;rw[qfr] at hc;obtain⟨b,hbt⟩ : ∃b,bt l (p+k)=b:=⟨_,rfl⟩;have hb:b<256:=by rw[←hbt];exact bt_lt l _
   rw[hbt] at hc;have HBT:Hid (bt l (p+k)=b):=hbt;clear hbt;have hpk:p+k<n:=by have:=HNQ.out;omega
   have hnt:=not128 b hb;obtain rfl | rfl | rfl | rfl:k=0∨k=1∨k=2∨k=3:=by omega
   ·have HZ:Hid (z<128 ^ 0):=hz;have hzN:z<1:=hz;clear hz;simp only[Nat.add_zero] at hc;have hor:bits .or .i64 (z:Int) ((b:Int)%128)=((z+b%128:Nat):Int):=by
     have:=or_k0 z (b%128) HZ.out (Nat.mod_lt _ (by omega));rw[show ((b%128:Nat):Int)=(b:Int)%128 from by omega] at this;exact this
    have HS:Hid (num l p 1=z+b%128):=by
     show num l p 0+bt l (p+0)%128*128 ^ 0=_;rw[←HNUM.out,HBT.out]
     try omega
    by_cases h128:b<128
    ·have hc1:bits .and .u8 (b:Int) 128=0:=by rw[qmz b hb,if_pos h128]
     by_cases hb0:b=0
     ·have hbz:((b:Int)==0)=true:=by simp;omega
      have HB0:Hid (b=0):=hb0;clear hb0;have HG:Hid (ansG l p 4=_):=HANS.out.trans (qbv (k:=0) (by omega) (by rw[HLEN.out];exact hpk) (by rw[HBT.out];exact h128) (by omega));go_wp2;go_ret3;exact⟨by rw[HG.out,HS.out];simp[ret3],rfl⟩
     ·have HG:Hid (ansG l p 4=_):=HANS.out.trans (qbv (k:=0) (by omega) (by rw[HLEN.out];exact hpk) (by rw[HBT.out];exact h128) (by rw[HBT.out];omega));have hbz:((b:Int)==0)=false:=by simp;omega
      go_wp2;go_ret3;exact⟨by rw[HG.out,HS.out];simp[ret3],rfl⟩
    ·have hc1:bits .and .u8 (b:Int) 128=128:=by rw[qmz b hb,if_neg h128]
     have HG:Hid (ansG l p 4=ansG l p (4-1)):=HANS.out.trans (qbw (k:=0) (by omega) (by rw[HLEN.out];exact hpk) (by rw[HBT.out];omega));go_wp2
     go_round
     case rel=>exact⟨1,z+b%128,by go_num,by go_num,by omega,by omega,HS.out.symm,HG.out⟩
     case measure=>simp[intOf]<;>omega
   ·have HZ:Hid (z<128 ^ 1):=hz;have hzN:z<128:=hz;clear hz;have hor:bits .or .i64 (z:Int) ((b:Int)%128*128)=((z+b%128*128:Nat):Int):=by
     have:=or_k1 z (b%128) HZ.out (Nat.mod_lt _ (by omega));rw[show ((b%128:Nat):Int)=(b:Int)%128 from by omega] at this;exact this
    have HS:Hid (num l p 2=z+b%128*128):=by
     show num l p 1+bt l (p+1)%128*128 ^ 1=_;rw[←HNUM.out,HBT.out]
     try omega
    by_cases h128:b<128
    ·have hc1:bits .and .u8 (b:Int) 128=0:=by rw[qmz b hb,if_pos h128]
     by_cases hb0:b=0
     ·have hbz:((b:Int)==0)=true:=by simp;omega
      have HB0:Hid (b=0):=hb0;clear hb0;have HG:Hid (ansG l p 4=_):=HANS.out.trans (qef (k:=1) (by omega) (by rw[HLEN.out];exact hpk) (by omega) (HBT.out.trans HB0.out));go_wp2;go_ret3;exact⟨by rw[HG.out];simp[ret3],rfl⟩
     ·have HG:Hid (ansG l p 4=_):=HANS.out.trans (qbv (k:=1) (by omega) (by rw[HLEN.out];exact hpk) (by rw[HBT.out];exact h128) (by rw[HBT.out];omega));have hbz:((b:Int)==0)=false:=by simp;omega
      go_wp2;go_ret3;exact⟨by rw[HG.out,HS.out];simp[ret3],rfl⟩
    ·have hc1:bits .and .u8 (b:Int) 128=128:=by rw[qmz b hb,if_neg h128]
     have HG:Hid (ansG l p 4=ansG l p (4-2)):=HANS.out.trans (qbw (k:=1) (by omega) (by rw[HLEN.out];exact hpk) (by rw[HBT.out];omega));go_wp2
     go_round
     case rel=>exact⟨2,z+b%128*128,by go_num,by go_num,by omega,by omega,HS.out.symm,HG.out⟩
     case measure=>simp[intOf]<;>omega
   ·have HZ:Hid (z<128 ^ 2):=hz;have hzN:z<16384:=hz;clear hz;have hor:bits .or .i64 (z:Int) ((b:Int)%128*16384)=((z+b%128*16384:Nat):Int):=by
     have:=or_k2 z (b%128) HZ.out (Nat.mod_lt _ (by omega));rw[show ((b%128:Nat):Int)=(b:Int)%128 from by omega] at this;exact this
    have HS:Hid (num l p 3=z+b%128*16384):=by
     show num l p 2+bt l (p+2)%128*128 ^ 2=_;rw[←HNUM.out,HBT.out]
     try omega
    by_cases h128:b<128
    ·have hc1:bits .and .u8 (b:Int) 128=0:=by rw[qmz b hb,if_pos h128]
     by_cases hb0:b=0
     ·have hbz:((b:Int)==0)=true:=by simp;omega
      have HB0:Hid (b=0):=hb0;clear hb0;have HG:Hid (ansG l p 4=_):=HANS.out.trans (qef (k:=2) (by omega) (by rw[HLEN.out];exact hpk) (by omega) (HBT.out.trans HB0.out));go_wp2;go_ret3;exact⟨by rw[HG.out];simp[ret3],rfl⟩
     ·have HG:Hid (ansG l p 4=_):=HANS.out.trans (qbv (k:=2) (by omega) (by rw[HLEN.out];exact hpk) (by rw[HBT.out];exact h128) (by rw[HBT.out];omega));have hbz:((b:Int)==0)=false:=by simp;omega
      go_wp2;go_ret3;exact⟨by rw[HG.out,HS.out];simp[ret3],rfl⟩
    ·have hc1:bits .and .u8 (b:Int) 128=128:=by rw[qmz b hb,if_neg h128]
     have HG:Hid (ansG l p 4=ansG l p (4-3)):=HANS.out.trans (qbw (k:=2) (by omega) (by rw[HLEN.out];exact hpk) (by rw[HBT.out];omega));go_wp2
     go_round
     case rel=>exact⟨3,z+b%128*16384,by go_num,by go_num,by omega,by omega,HS.out.symm,HG.out⟩
     case measure=>simp[intOf]<;>omega
   ·have HZ:Hid (z<128 ^ 3):=hz;have hzN:z<2097152:=hz;clear hz;have hor:bits .or .i64 (z:Int) ((b:Int)%128*2097152)=((z+b%128*2097152:Nat):Int):=by
     have:=or_k3 z (b%128) HZ.out (Nat.mod_lt _ (by omega));rw[show ((b%128:Nat):Int)=(b:Int)%128 from by omega] at this;exact this
    have HS:Hid (num l p 4=z+b%128*2097152):=by
     show num l p 3+bt l (p+3)%128*128 ^ 3=_;rw[←HNUM.out,HBT.out]
     try omega
    by_cases h128:b<128
    ·have hc1:bits .and .u8 (b:Int) 128=0:=by rw[qmz b hb,if_pos h128]
     by_cases hb0:b=0
     ·have hbz:((b:Int)==0)=true:=by simp;omega
      have HB0:Hid (b=0):=hb0;clear hb0;have HG:Hid (ansG l p 4=_):=HANS.out.trans (qef (k:=3) (by omega) (by rw[HLEN.out];exact hpk) (by omega) (HBT.out.trans HB0.out));go_wp2;go_ret3;exact⟨by rw[HG.out];simp[ret3],rfl⟩
     ·have HG:Hid (ansG l p 4=_):=HANS.out.trans (qbv (k:=3) (by omega) (by rw[HLEN.out];exact hpk) (by rw[HBT.out];exact h128) (by rw[HBT.out];omega));have hbz:((b:Int)==0)=false:=by simp;omega
      go_wp2;go_ret3;exact⟨by rw[HG.out,HS.out];simp[ret3],rfl⟩
    ·have hc1:bits .and .u8 (b:Int) 128=128:=by rw[qmz b hb,if_neg h128]
     have HG:Hid (ansG l p 4=ansG l p (4-4)):=HANS.out.trans (qbw (k:=3) (by omega) (by rw[HLEN.out];exact hpk) (by rw[HBT.out];omega));go_wp2
     go_round
     case rel=>exact⟨4,z+b%128*2097152,by go_num,by go_num,by omega,by omega,HS.out.symm,HG.out⟩
     case measure=>simp[intOf]<;>omega
  ·have h1:¬(k:Int)<q:=by omega
   obtain rfl:k=q:=by omega
   by_cases h4:k<4
   ·have h5:(n:Int)-(p:Int)<4:=by have:=HNQ.out;omega
    have HG:Hid (ansG l p 4=_):=HANS.out.trans (qjy h4 (by rw[HLEN.out];have:=HNQ.out;omega));go_wp2;go_ret3;exact⟨by rw[HG.out];simp[ret3],rfl⟩
   ·have h5:¬(n:Int)-(p:Int)<4:=by have:=HNQ.out;omega
    obtain rfl:k=4:=by omega
    go_wp2;go_ret3;exact⟨by rw[HANS.out];simp[ret3,ansG],rfl⟩

theorem qou (ao:Option Addr) (n cap:Nat) (a:Int) (w:World) (h:a<0∨(n:Int)<a) :
  Calls Tryz.prog 19 #[.slice ao n cap,.int .i64 a] w fun e w'=>e=ret3 (0,0,2)∧w'=w:=by
 by_cases h0:a<0
 ·go_enter Tryz.func19,Tryz.ntmps19;go_wp2;go_ret3;exact⟨rfl,rfl⟩
 ·have h1:(n:Int)<a:=by omega
  have h2:0≤a:=by omega
  go_enter Tryz.func19,Tryz.ntmps19;go_wp2;go_ret3;exact⟨rfl,rfl⟩

theorem qux (ao:Option Addr) (n cap:Nat) (a:Int) (l:List UInt8) (w:World) (hr:RdIn w ao n cap l) (hn:n≤1099511627776) :
  Calls Tryz.prog 19 #[.slice ao n cap,.int .i64 a] w fun e w'=>e=ret3 (getE l a)∧w'=w:=by
 have hl:=hr.1.1
 by_cases h:0≤a∧a≤n
 ·obtain⟨p,rfl⟩:=Int.eq_ofNat_of_zero_le h.1;have e:getE l (p:Int)=ansG l p 4:=by
   unfold getE;rw[if_pos (by omega)];simp
  rw[e];exact qqo ao n cap p l w hr (by omega) hn
 ·have e:getE l a=(0,0,2):=by
   unfold getE;rw[if_neg (by omega)]
  rw[e];exact qou ao n cap a w (by omega)

theorem qqp (ao:Option Addr) (n cap p:Nat) (l:List UInt8) (w:World) (hr:RdIn w ao n cap l) (hp:p≤n) (hn:n≤1099511627776) :
  Calls Tryz.prog 87 #[.slice ao n cap,.int .i64 p] w fun e w'=>e=ret3 (ansG l p 4)∧w'=w:=by
 have HLEN:Hid (l.length=n):=hr.1.1;have hp1:¬(n:Int)<(p:Int):=by omega
 go_enter Tryz.func87,Tryz.ntmps87;go_wp2
 go_loop [7,8,9] (fun v i _=>∃k z:Nat,i=.int .i64 k∧v=.int .i64 z∧p+k≤n∧k≤4∧z=num l p k∧ansG l p 4=ansG l p (4-k)) (fun _ i _=>4-(intOf i).toNat)
 case atStart=>exact⟨0,0,rfl,rfl,by omega,by omega,rfl,rfl⟩
 case round=>
  obtain⟨k,z,rfl,rfl,hkq,hk4,hzn,hans⟩:=hrel;have HNUM:Hid (z=num l p k):=hzn;have HANS:Hid (ansG l p 4=ansG l p (4-k)):=hans;have hz:z<128 ^ k:=by rw[hzn];exact num_lt l p k
  clear hans hzn
  by_cases h4:k=4
  ·subst h4;go_wp2;go_ret3;exact⟨by rw[HANS.out];simp[ret3,ansG],rfl⟩
  have h4':(k:Int)<4:=by omega
  by_cases hpk:p+k<n
  ·have h1:¬(n:Int)≤(p:Int)+(k:Int):=by omega
   obtain⟨bb,off,e,hc⟩:=hr.1.2 (p+k) hpk;subst e;obtain⟨b,hbt⟩ : ∃b,bt l (p+k)=b:=⟨_,rfl⟩;have hb:b<256:=by rw[←hbt];exact bt_lt l _
   rw[hbt] at hc;have HBT:Hid (bt l (p+k)=b):=hbt;clear hbt;have hnt:=and127 b hb;obtain rfl | rfl | rfl | rfl:k=0∨k=1∨k=2∨k=3:=by omega
   ·have HZ:Hid (z<128 ^ 0):=hz;have hzN:z<1:=hz;clear hz;simp only[Nat.add_zero] at hc;have hor:bits .or .i64 (z:Int) ((b:Int)%128)=((z+b%128:Nat):Int):=by
     have:=or_k0 z (b%128) HZ.out (Nat.mod_lt _ (by omega));rw[show ((b%128:Nat):Int)=(b:Int)%128 from by omega] at this;exact this
    have HS:Hid (num l p 1=z+b%128):=by
     show num l p 0+bt l (p+0)%128*128 ^ 0=_;rw[←HNUM.out,HBT.out]
     try omega
    by_cases h128:b<128
    ·have hx1:(b:Int)<128:=by omega
     by_cases hb0:b=0
     ·have hbz:((b:Int)==0)=true:=by simp;omega
      have HB0:Hid (b=0):=hb0;clear hb0;have HG:Hid (ansG l p 4=_):=HANS.out.trans (qbv (k:=0) (by omega) (by rw[HLEN.out];exact hpk) (by rw[HBT.out];exact h128) (by omega));go_wp2;go_ret3;exact⟨by rw[HG.out,HS.out];simp[ret3],rfl⟩
     ·have HG:Hid (ansG l p 4=_):=HANS.out.trans (qbv (k:=0) (by omega) (by rw[HLEN.out];exact hpk) (by rw[HBT.out];exact h128) (by rw[HBT.out];omega));have hbz:((b:Int)==0)=false:=by simp;omega
      go_wp2;go_ret3;exact⟨by rw[HG.out,HS.out];simp[ret3],rfl⟩
    ·have hx1:¬(b:Int)<128:=by omega
     have HG:Hid (ansG l p 4=ansG l p (4-1)):=HANS.out.trans (qbw (k:=0) (by omega) (by rw[HLEN.out];exact hpk) (by rw[HBT.out];omega));go_wp2
     go_round
     case rel=>exact⟨1,z+b%128,by go_num,by go_num,by omega,by omega,HS.out.symm,HG.out⟩
     case measure=>simp[intOf]<;>omega
   ·have HZ:Hid (z<128 ^ 1):=hz;have hzN:z<128:=hz;clear hz;have hor:bits .or .i64 (z:Int) ((b:Int)%128*128)=((z+b%128*128:Nat):Int):=by
     have:=or_k1 z (b%128) HZ.out (Nat.mod_lt _ (by omega));rw[show ((b%128:Nat):Int)=(b:Int)%128 from by omega] at this;exact this
    have HS:Hid (num l p 2=z+b%128*128):=by
     show num l p 1+bt l (p+1)%128*128 ^ 1=_;rw[←HNUM.out,HBT.out]
     try omega
    by_cases h128:b<128
    ·have hx1:(b:Int)<128:=by omega
     by_cases hb0:b=0
     ·have hbz:((b:Int)==0)=true:=by simp;omega
      have HB0:Hid (b=0):=hb0;clear hb0;have HG:Hid (ansG l p 4=_):=HANS.out.trans (qef (k:=1) (by omega) (by rw[HLEN.out];exact hpk) (by omega) (HBT.out.trans HB0.out));go_wp2;go_ret3;exact⟨by rw[HG.out];simp[ret3],rfl⟩
     ·have HG:Hid (ansG l p 4=_):=HANS.out.trans (qbv (k:=1) (by omega) (by rw[HLEN.out];exact hpk) (by rw[HBT.out];exact h128) (by rw[HBT.out];omega));have hbz:((b:Int)==0)=false:=by simp;omega
      go_wp2;go_ret3;exact⟨by rw[HG.out,HS.out];simp[ret3],rfl⟩
    ·have hx1:¬(b:Int)<128:=by omega
     have HG:Hid (ansG l p 4=ansG l p (4-2)):=HANS.out.trans (qbw (k:=1) (by omega) (by rw[HLEN.out];exact hpk) (by rw[HBT.out];omega));go_wp2
     go_round
     case rel=>exact⟨2,z+b%128*128,by go_num,by go_num,by omega,by omega,HS.out.symm,HG.out⟩
     case measure=>simp[intOf]<;>omega
   ·have HZ:Hid (z<128 ^ 2):=hz;have hzN:z<16384:=hz;clear hz;have hor:bits .or .i64 (z:Int) ((b:Int)%128*16384)=((z+b%128*16384:Nat):Int):=by
     have:=or_k2 z (b%128) HZ.out (Nat.mod_lt _ (by omega));rw[show ((b%128:Nat):Int)=(b:Int)%128 from by omega] at this;exact this
    have HS:Hid (num l p 3=z+b%128*16384):=by
     show num l p 2+bt l (p+2)%128*128 ^ 2=_;rw[←HNUM.out,HBT.out]
     try omega
    by_cases h128:b<128
    ·have hx1:(b:Int)<128:=by omega
     by_cases hb0:b=0
     ·have hbz:((b:Int)==0)=true:=by simp;omega
      have HB0:Hid (b=0):=hb0;clear hb0;have HG:Hid (ansG l p 4=_):=HANS.out.trans (qef (k:=2) (by omega) (by rw[HLEN.out];exact hpk) (by omega) (HBT.out.trans HB0.out));go_wp2;go_ret3;exact⟨by rw[HG.out];simp[ret3],rfl⟩
     ·have HG:Hid (ansG l p 4=_):=HANS.out.trans (qbv (k:=2) (by omega) (by rw[HLEN.out];exact hpk) (by rw[HBT.out];exact h128) (by rw[HBT.out];omega));have hbz:((b:Int)==0)=false:=by simp;omega
      go_wp2;go_ret3;exact⟨by rw[HG.out,HS.out];simp[ret3],rfl⟩
    ·have hx1:¬(b:Int)<128:=by omega
     have HG:Hid (ansG l p 4=ansG l p (4-3)):=HANS.out.trans (qbw (k:=2) (by omega) (by rw[HLEN.out];exact hpk) (by rw[HBT.out];omega));go_wp2
     go_round
     case rel=>exact⟨3,z+b%128*16384,by go_num,by go_num,by omega,by omega,HS.out.symm,HG.out⟩
     case measure=>simp[intOf]<;>omega
   ·have HZ:Hid (z<128 ^ 3):=hz;have hzN:z<2097152:=hz;clear hz;have hor:bits .or .i64 (z:Int) ((b:Int)%128*2097152)=((z+b%128*2097152:Nat):Int):=by
     have:=or_k3 z (b%128) HZ.out (Nat.mod_lt _ (by omega));rw[show ((b%128:Nat):Int)=(b:Int)%128 from by omega] at this;exact this
    have HS:Hid (num l p 4=z+b%128*2097152):=by
     show num l p 3+bt l (p+3)%128*128 ^ 3=_;rw[←HNUM.out,HBT.out]
     try omega
    by_cases h128:b<128
    ·have hx1:(b:Int)<128:=by omega
     by_cases hb0:b=0
     ·have hbz:((b:Int)==0)=true:=by simp;omega
      have HB0:Hid (b=0):=hb0;clear hb0;have HG:Hid (ansG l p 4=_):=HANS.out.trans (qef (k:=3) (by omega) (by rw[HLEN.out];exact hpk) (by omega) (HBT.out.trans HB0.out));go_wp2;go_ret3;exact⟨by rw[HG.out];simp[ret3],rfl⟩
     ·have HG:Hid (ansG l p 4=_):=HANS.out.trans (qbv (k:=3) (by omega) (by rw[HLEN.out];exact hpk) (by rw[HBT.out];exact h128) (by rw[HBT.out];omega));have hbz:((b:Int)==0)=false:=by simp;omega
      go_wp2;go_ret3;exact⟨by rw[HG.out,HS.out];simp[ret3],rfl⟩
    ·have hx1:¬(b:Int)<128:=by omega
     have HG:Hid (ansG l p 4=ansG l p (4-4)):=HANS.out.trans (qbw (k:=3) (by omega) (by rw[HLEN.out];exact hpk) (by rw[HBT.out];omega));go_wp2
     go_round
     case rel=>exact⟨4,z+b%128*2097152,by go_num,by go_num,by omega,by omega,HS.out.symm,HG.out⟩
     case measure=>simp[intOf]<;>omega
  ·have h1:(n:Int)≤(p:Int)+(k:Int):=by omega
   have HG:Hid (ansG l p 4=_):=HANS.out.trans (qjy (by omega) (by rw[HLEN.out];omega));go_wp2;go_ret3;exact⟨by rw[HG.out];simp[ret3],rfl⟩

theorem qov (ao:Option Addr) (n cap:Nat) (a:Int) (w:World) (h:a<0∨(n:Int)<a) :
  Calls Tryz.prog 87 #[.slice ao n cap,.int .i64 a] w fun e w'=>e=ret3 (0,0,2)∧w'=w:=by
 by_cases h0:a<0
 ·go_enter Tryz.func87,Tryz.ntmps87;go_wp2;go_ret3;exact⟨rfl,rfl⟩
 ·have h1:(n:Int)<a:=by omega
  have h2:0≤a:=by omega
  go_enter Tryz.func87,Tryz.ntmps87;go_wp2;go_ret3;exact⟨rfl,rfl⟩

theorem quy (ao:Option Addr) (n cap:Nat) (a:Int) (l:List UInt8) (w:World) (hr:RdIn w ao n cap l) (hn:n≤1099511627776) :
  Calls Tryz.prog 87 #[.slice ao n cap,.int .i64 a] w fun e w'=>e=ret3 (getE l a)∧w'=w:=by
 have hl:=hr.1.1
 by_cases h:0≤a∧a≤n
 ·obtain⟨p,rfl⟩:=Int.eq_ofNat_of_zero_le h.1;have e:getE l (p:Int)=ansG l p 4:=by
   unfold getE;rw[if_pos (by omega)];simp
  rw[e];exact qqp ao n cap p l w hr (by omega) hn
 ·have e:getE l a=(0,0,2):=by
   unfold getE;rw[if_neg (by omega)]
  rw[e];exact qov ao n cap a w (by omega)


theorem qfe (l m:List UInt8) (i:Nat):bt (l++m) (l.length+i)=bt m i:=by
 simp[bt,List.getD_eq_getElem?_getD,List.getElem?_append_right (show l.length≤l.length+i by omega)]

theorem qlw (n:Nat) (h:n<256):(UInt8.ofNat n).toNat=n:=by simp;omega

theorem qhp (n:Nat) (h:n≤268435455) :
  (n<128∧lenF 3 n = [UInt8.ofNat n]) ∨
  (128≤n∧n<16384∧lenF 3 n = [moreB n,UInt8.ofNat (n / 128)]) ∨
  (16384≤n∧n<2097152∧lenF 3 n = [moreB n,moreB (n / 128),UInt8.ofNat (n / 16384)]) ∨
  (2097152≤n∧lenF 3 n = [moreB n,moreB (n / 128),moreB (n / 16384),UInt8.ofNat (n / 2097152)]):=by
 by_cases h1:n<128
 ·exact .inl ⟨h1,qeb 3 n h1⟩
 ·refine .inr ?_;rw[qhq 2 n h1]
  by_cases h2:n / 128<128
  ·exact .inl ⟨by omega,by omega,by rw[qeb _ _ h2]⟩
  ·refine .inr ?_;rw[qhq 1 _ h2,Nat.div_div_eq_div_mul]
   by_cases h3:n / (128*128)<128
   ·exact .inl ⟨by omega,by omega,by rw[qeb _ _ h3]⟩
   ·refine .inr ⟨by omega,?_⟩;rw[qhq 0 _ h3,Nat.div_div_eq_div_mul,qeb _ _ (by omega)]

theorem qdi {l:List UInt8} {p k z b:Nat} (h:num l p k=z) (hb:bt l (p+k)=b):num l p (k+1)=z+b%128*128 ^ k:=by
 show num l p k+_=_;rw[h,hb]

theorem ansG_put (l:List UInt8) (n:Nat) (h:n≤268435455):ansG (l++lenF 3 n) l.length 4=((n:Int),((l.length+(lenF 3 n).length:Nat):Int),0):=by
 rcases qhp n h with ⟨h1,e⟩ | ⟨h1,h2,e⟩ | ⟨h1,h2,e⟩ | ⟨h1,e⟩
 ·rw[e];have b0:bt (l++[UInt8.ofNat n]) (l.length+0)=n:=by rw[qfe];exact qlw n (by omega)
  have n1:=qdi (show num (l++[UInt8.ofNat n]) l.length 0=0 from rfl) b0;rw[show (4:Nat)=4-0 from rfl,qbv (k:=0) (by omega) (by simp) (by rw[b0];exact h1) (by omega),n1];simp;omega
 ·rw[e];generalize hL:l++[moreB n,UInt8.ofNat (n / 128)]=L;have b0:bt L (l.length+0)=n%128+128:=by rw[←hL,qfe];exact qht n
  have b1:bt L (l.length+1)=n / 128:=by rw[←hL,qfe];exact qlw _ (by omega)
  have hlen:L.length=l.length+2:=by rw[←hL];simp
  have n1:=qdi (show num L l.length 0=0 from rfl) b0;have n2:=qdi n1 b1;rw[show (4:Nat)=4-0 from rfl,qbw (k:=0) (by omega) (by omega) (by omega),qbv (k:=1) (by omega) (by omega) (by omega) (by omega),n2];simp;omega
 ·rw[e];generalize hL:l++[moreB n,moreB (n / 128),UInt8.ofNat (n / 16384)]=L;have b0:bt L (l.length+0)=n%128+128:=by rw[←hL,qfe];exact qht n
  have b1:bt L (l.length+1)=n / 128%128+128:=by rw[←hL,qfe];exact qht _
  have b2:bt L (l.length+2)=n / 16384:=by rw[←hL,qfe];exact qlw _ (by omega)
  have hlen:L.length=l.length+3:=by rw[←hL];simp
  have n1:=qdi (show num L l.length 0=0 from rfl) b0;have n2:=qdi n1 b1;have n3:=qdi n2 b2;rw[show (4:Nat)=4-0 from rfl,qbw (k:=0) (by omega) (by omega) (by omega),qbw (k:=1) (by omega) (by omega) (by omega),qbv (k:=2) (by omega) (by omega) (by omega) (by omega),n3];simp;omega
 ·rw[e];generalize hL:l++[moreB n,moreB (n / 128),moreB (n / 16384),UInt8.ofNat (n / 2097152)]=L;have b0:bt L (l.length+0)=n%128+128:=by rw[←hL,qfe];exact qht n
  have b1:bt L (l.length+1)=n / 128%128+128:=by rw[←hL,qfe];exact qht _
  have b2:bt L (l.length+2)=n / 16384%128+128:=by rw[←hL,qfe];exact qht _
  have b3:bt L (l.length+3)=n / 2097152:=by rw[←hL,qfe];exact qlw _ (by omega)
  have hlen:L.length=l.length+4:=by rw[←hL];simp
  have n1:=qdi (show num L l.length 0=0 from rfl) b0;have n2:=qdi n1 b1;have n3:=qdi n2 b2;have n4:=qdi n3 b3;rw[show (4:Nat)=4-0 from rfl,qbw (k:=0) (by omega) (by omega) (by omega),qbw (k:=1) (by omega) (by omega) (by omega),qbw (k:=2) (by omega) (by omega) (by omega),qbv (k:=3) (by omega) (by omega) (by omega) (by omega),n4];simp;omega

theorem getD_is (l:List UInt8) (p:Nat) (h:p<l.length):l.getD p 0=l[p]:=by
 simp[List.getD_eq_getElem?_getD,List.getElem?_eq_getElem h]
theorem qpv (l:List UInt8) (p k:Nat) (h:p+k+1≤l.length):(l.drop p).take (k+1)=l.getD p 0 :: (l.drop (p+1)).take k:=by
 rw[List.drop_eq_getElem_cons (by omega),List.take_succ_cons,getD_is l p (by omega)]
theorem piece1 (l:List UInt8) (p:Nat) (h:p+1≤l.length):(l.drop p).take 1 = [l.getD p 0]:=by
 rw[qpv l p 0 (by omega),List.take_zero]

theorem qoj (u:UInt8) (n:Nat) (h:u.toNat=n):UInt8.ofNat n=u:=by
 subst h;simp
theorem qmk (u:UInt8) (n:Nat) (h:u.toNat=n%128+128):moreB n=u:=qoj u _ h

theorem ansG_good {l:List UInt8} {p:Nat} {x y:Int} (hp:p≤l.length) (h:ansG l p 4=(x,y,0)) :
  ∃k n:Nat,x=n∧n≤268435455∧y=((p+k:Nat):Int)∧p+k≤l.length∧(l.drop p).take k=lenF 3 n:=by
 have lt:=fun i=>bt_lt l i
 have dn:∀k,(l.getD (p+k) 0).toNat=bt l (p+k):=fun k=>rfl
 have l0:=lt (p+0);have l1:=lt (p+1);have l2:=lt (p+2);have l3:=lt (p+3);have d0:=dn 0;have d1:=dn 1;have d2:=dn 2;have d3:=dn 3;clear lt dn;generalize e0:bt l (p+0)=b0 at *;generalize e1:bt l (p+1)=b1 at *;generalize e2:bt l (p+2)=b2 at *;generalize e3:bt l (p+3)=b3 at *;have n1:=qdi (show num l p 0=0 from rfl) e0;have n2:=qdi n1 e1;have n3:=qdi n2 e2;have n4:=qdi n3 e3;rw[show (4:Nat)=4-0 from rfl] at h
 by_cases c0:p+0<l.length
 ·by_cases s0:b0<128
  ·rw[qbv (k:=0) (by omega) c0 (by omega) (by omega),n1] at h;simp only[Prod.mk.injEq] at h;obtain⟨rfl,rfl,_⟩:=h;refine⟨1,_,rfl,by omega,rfl,by omega,?_⟩;rw[piece1 l p (by omega),qeb _ _ (by omega)]
   congr 1
   exact (qoj _ _ (by simp only[Nat.add_zero] at d0;omega)).symm
  ·rw[qbw (k:=0) (by omega) c0 (by omega)] at h
   by_cases c1:p+1<l.length
   ·by_cases s1:b1<128
    ·by_cases z1:b1=0
     ·rw[qef (k:=1) (by omega) c1 (by omega) (by omega)] at h;simp at h
     ·rw[qbv (k:=1) (by omega) c1 (by omega) (by omega),n2] at h;simp only[Prod.mk.injEq] at h;obtain⟨rfl,rfl,_⟩:=h;refine⟨2,_,rfl,by omega,rfl,by omega,?_⟩;rw[qpv l p 1 (by omega),piece1 l (p+1) (by omega)]
      rcases qhp (0+b0%128*128 ^ 0+b1%128*128 ^ 1) (by omega) with ⟨q1,e⟩ | ⟨q1,q2,e⟩ | ⟨q1,q2,e⟩ | ⟨q1,e⟩
      ·omega
      ·rw[e,qmk (l.getD p 0) _ (by simp only[Nat.add_zero] at d0;omega),qoj (l.getD (p+1) 0) _ (by omega)]
      ·omega
      ·omega
    ·rw[qbw (k:=1) (by omega) c1 (by omega)] at h
     by_cases c2:p+2<l.length
     ·by_cases s2:b2<128
      ·by_cases z2:b2=0
       ·rw[qef (k:=2) (by omega) c2 (by omega) (by omega)] at h;simp at h
       ·rw[qbv (k:=2) (by omega) c2 (by omega) (by omega),n3] at h;simp only[Prod.mk.injEq] at h;obtain⟨rfl,rfl,_⟩:=h;refine⟨3,_,rfl,by omega,rfl,by omega,?_⟩;rw[qpv l p 2 (by omega),qpv l (p+1) 1 (by omega),piece1 l (p+1+1) (by omega)]
        rcases qhp (0+b0%128*128 ^ 0+b1%128*128 ^ 1+b2%128*128 ^ 2) (by omega) with ⟨q1,e⟩ | ⟨q1,q2,e⟩ | ⟨q1,q2,e⟩ | ⟨q1,e⟩
        ·omega
        ·omega
        ·rw[e,qmk (l.getD p 0) _ (by simp only[Nat.add_zero] at d0;omega),qmk (l.getD (p+1) 0) _ (by omega),qoj (l.getD (p+1+1) 0) _ (by show (l.getD (p+2) 0).toNat=_;omega)]
        ·omega
      ·rw[qbw (k:=2) (by omega) c2 (by omega)] at h
       by_cases c3:p+3<l.length
       ·by_cases s3:b3<128
        ·by_cases z3:b3=0
         ·rw[qef (k:=3) (by omega) c3 (by omega) (by omega)] at h;simp at h
         ·rw[qbv (k:=3) (by omega) c3 (by omega) (by omega),n4] at h;simp only[Prod.mk.injEq] at h;obtain⟨rfl,rfl,_⟩:=h;refine⟨4,_,rfl,by omega,rfl,by omega,?_⟩;rw[qpv l p 3 (by omega),qpv l (p+1) 2 (by omega),qpv l (p+1+1) 1 (by omega),piece1 l (p+1+1+1) (by omega)]
          rcases qhp (0+b0%128*128 ^ 0+b1%128*128 ^ 1+b2%128*128 ^ 2+b3%128*128 ^ 3) (by omega) with ⟨q1,e⟩ | ⟨q1,q2,e⟩ | ⟨q1,q2,e⟩ | ⟨q1,e⟩
          ·omega
          ·omega
          ·omega
          ·rw[e,qmk (l.getD p 0) _ (by simp only[Nat.add_zero] at d0;omega),qmk (l.getD (p+1) 0) _ (by omega),qmk (l.getD (p+1+1) 0) _ (by show (l.getD (p+2) 0).toNat=_;omega),qoj (l.getD (p+1+1+1) 0) _ (by show (l.getD (p+3) 0).toNat=_;omega)]
        ·rw[qbw (k:=3) (by omega) c3 (by omega)] at h;simp[ansG] at h
       ·rw[qjy (k:=3) (by omega) (by omega)] at h;simp at h
     ·rw[qjy (k:=2) (by omega) (by omega)] at h;simp at h
   ·rw[qjy (k:=1) (by omega) (by omega)] at h;simp at h
 ·rw[qjy (k:=0) (by omega) (by omega)] at h;simp at h


theorem RdIn.cut {w:World} {a:Option Addr} {n c:Nat} {x:List UInt8} (h:RdIn w a n c x) (k:Nat) (hk:k≤n):RdIn w a k c (x.take k):=by
 obtain⟨⟨hl,hc⟩,hcap,hmax,hnil⟩:=h;refine⟨⟨by simp;omega,fun i hi=>?_⟩,by omega,hmax,hnil⟩;obtain⟨b,off,e,hcell⟩:=hc i (by omega);exact⟨b,off,e,by rw[hcell,quk _ _ _ hi]⟩
theorem RdIn.drewN {w:World} {a:Option Addr} {n c:Nat} {x:List UInt8} (h:RdIn w a n c x) (q:Nat):RdIn (w.drewN q) a n c x:=h.below (below_drewN (Below.refl _ _) q)

