/- Lemmas. -/
import Derived.Deep.Cut
import Derived.Test.YtpgkbkbhhmfgnaaDoorK09
import Derived.Test.YtpgkbkbhhmfgnaaDoorK01
set_option linter.unusedVariables false
set_option linter.unusedSimpArgs false
set_option maxRecDepth 100000
set_option maxHeartbeats 20000000
namespace Go.Proofs.YtpgkbkbhhmfgnaaDoor
open Go.RowKit

def ltK (a b:ByteArray):Bool:=Op.bytesLess a.data.toList b.data.toList
theorem qgf (a b:ByteArray):Op.bytesLess a.toList b.toList=ltK a b:=by
 unfold ltK;rw[Lib.toList_data,Lib.toList_data]
theorem cmp_less:∀x y:List UInt8,decide (Lib.compareBytes x y<0)=Op.bytesLess x y
 |[],[]=>rfl
 |[],_ :: _=>rfl
 |_ :: _,[]=>rfl
 |a :: x,b :: y=>by
  have ih:=cmp_less x y;unfold Lib.compareBytes Op.bytesLess
  by_cases h1:a<b
  ·simp[h1]
  ·by_cases h2:b<a
   ·have hne:¬a=b:=fun e=>by subst e;exact h1 h2
    simp[h1,h2,hne]
   ·have he:a=b:=UInt8.le_antisymm (UInt8.not_lt.1 h2) (UInt8.not_lt.1 h1);subst he;simp[ih]
theorem cmp_nonneg (a b:ByteArray):decide (0≤Lib.compareBytes a.data.toList b.data.toList) = !ltK a b:=by
 have h:=cmp_less a.data.toList b.data.toList;unfold ltK;rw[←h]
 by_cases hc:Lib.compareBytes a.data.toList b.data.toList<0
 ·simp[hc]
 ·simp[hc];omega
def Kv.ok (v:Kv):Bool:=topOk v.t.data.toList&&(decide (1≤(v.b.length:Int)∧(v.b.length:Int)≤40)&&decide (0≤v.q∧v.q≤2))
def vat (vs:List Kv) (i:Nat):Kv:=vs.getD i ⟨ByteArray.empty,[],0⟩
def okAt (vs:List Kv) (i:Nat):Bool:=(vat vs i).ok&&(decide (i=0) || ltK (vat vs (i-1)).t (vat vs i).t)
def keptN (vs:List Kv) (k:Nat):Bool:=(List.range k).all (okAt vs)
def keptB (vs:List Kv):Bool:=decide (vs.length≤8)&&keptN vs vs.length
theorem qbr (l:KtL) (i:Nat) (h:i<l.length):vat (kvs l) i=kv (kf l i,kd l i):=by
 unfold vat;rw[List.getD_eq_getElem?_getD,kvs_at l i h];rfl
theorem qex {vs:List Kv} {k:Nat} (h:keptN vs k=true) (e:okAt vs k=true):keptN vs (k+1)=true:=by
 unfold keptN at h ⊢;rw[List.range_succ,List.all_append,h];simp[e]
theorem keptN_no {vs:List Kv} {k n:Nat} (hk:k<n) (e:okAt vs k=false):keptN vs n=false:=by
 unfold keptN;rw[List.all_eq_false];exact⟨k,List.mem_range.2 hk,by rw[e];decide⟩
theorem qdp {l:KtL} {k n:Nat} (hl:l.length=n) (hk:k<n) (e:okAt (kvs l) k=false):keptB (kvs l)=false:=by
 unfold keptB;rw[kvs_length,hl,keptN_no hk e,Bool.and_false]
theorem okAt_no1 {l:KtL} {k:Nat} (hk:k<l.length) (h:topOk (kf l k).t.data.toList=false):okAt (kvs l) k=false:=by
 unfold okAt;rw[qbr l k hk];simp[Kv.ok,kv,h]
theorem okAt_no2 {l:KtL} {k:Nat} (hk:k<l.length) (h:decide (1≤((kd l k).length:Int)∧((kd l k).length:Int)≤40)=false):okAt (kvs l) k=false:=by
 unfold okAt;rw[qbr l k hk];show (topOk (kf l k).t.data.toList&&(decide (1≤((kd l k).length:Int)∧((kd l k).length:Int)≤40)&&_)&&_)=false;rw[h];simp
theorem okAt_no3 {l:KtL} {k:Nat} (hk:k<l.length) (h:decide (0≤(kf l k).q∧(kf l k).q≤2)=false):okAt (kvs l) k=false:=by
 unfold okAt;rw[qbr l k hk];show (topOk (kf l k).t.data.toList&&(_&&decide (0≤(kf l k).q∧(kf l k).q≤2))&&_)=false;rw[h];simp
theorem okAt_no4 {l:KtL} {k:Nat} (hk:k<l.length) (h1:1≤k) (h:ltK (kf l (k-1)).t (kf l k).t=false):okAt (kvs l) k=false:=by
 unfold okAt;rw[qbr l k hk,qbr l (k-1) (by omega)];show (_&&(decide (k=0) || ltK (kf l (k-1)).t (kf l k).t))=false;rw[h];have:decide (k=0)=false:=by simp;omega
 simp[this]
theorem okAt_yes {l:KtL} {k:Nat} (hk:k<l.length) (h1:topOk (kf l k).t.data.toList=true) (h2:decide (1≤((kd l k).length:Int)∧((kd l k).length:Int)≤40)=true) (h3:decide (0≤(kf l k).q∧(kf l k).q≤2)=true) (h4:k=0∨ltK (kf l (k-1)).t (kf l k).t=true):okAt (kvs l) k=true:=by
 unfold okAt;rw[qbr l k hk,qbr l (k-1) (by omega)];show (topOk (kf l k).t.data.toList&&(decide (1≤((kd l k).length:Int)∧((kd l k).length:Int)≤40)&&decide (0≤(kf l k).q∧(kf l k).q≤2))&&(decide (k=0) || ltK (kf l (k-1)).t (kf l k).t))=true;rw[h1,h2,h3]
 rcases h4 with h | h<;>simp[h]
theorem ix_kt (b off n c k:Nat) (h:k<n) (u:World):(Instr.indexAt 25 (.slice (some ⟨b,off,none⟩) n c) (.int .i64 (k:Int))).run Tryd.prog u=.ok (.pointer (some ⟨b,off+k*3,none⟩)) u :=
 zg_idx Tryd.underlying25 (by kernel_rfl) (fun _=>by kernel_rfl) b off n c k h u
theorem gti_t (u:World) (x y:Operand) (a b:Int) (h:b<a):(do eqGuard .gtr 3 x y (.int .i64 a) (.int .i64 b);binOp .gtr 3 (.int .i64 a) (.int .i64 b):Sem Value).run Tryd.prog u=.ok (.bool true) u:=by
 simp[go_sem,Tryd.underlying3,h]
theorem gti_f (u:World) (x y:Operand) (a b:Int) (h:¬b<a):(do eqGuard .gtr 3 x y (.int .i64 a) (.int .i64 b);binOp .gtr 3 (.int .i64 a) (.int .i64 b):Sem Value).run Tryd.prog u=.ok (.bool false) u:=by
 simp[go_sem,Tryd.underlying3,h]
theorem subk (u:World) (x y:Operand) (k:Nat) (h:1≤k∧k≤1099511627776):(do eqGuard .sub 3 x y (.int .i64 k) (.int .i64 1);binOp .sub 3 (.int .i64 k) (.int .i64 1):Sem Value).run Tryd.prog u=.ok (.int .i64 ((k-1:Nat):Int)) u:=by
 have e:IntKind.i64.wrap ((k:Int)-1)=((k-1:Nat):Int):=by rw[wraps_i64]<;>omega
 simp[go_sem,Tryd.underlying3,e]
theorem ges_t (u:World) (x y:Operand) (a b:ByteArray) (h:ltK a b=false):(do eqGuard .geq 9 x y (.string a) (.string b);binOp .geq 9 (.string a) (.string b):Sem Value).run Tryd.prog u=.ok (.bool true) u:=by
 simp[go_sem,Tryd.underlying9,qgf,h]
theorem ges_f (u:World) (x y:Operand) (a b:ByteArray) (h:ltK a b=true):(do eqGuard .geq 9 x y (.string a) (.string b);binOp .geq 9 (.string a) (.string b):Sem Value).run Tryd.prog u=.ok (.bool false) u:=by
 simp[go_sem,Tryd.underlying9,qgf,h]
abbrev Fk57 {x0 x1 x2 x3 x4 x5 x6 x7 x8 x9 x10 x11 x12 x13 x14 x15 x16 x17 x18 x19 x20 x21 x22 x23 x24 x25 x26 x27 x28 x29 x30 x31 x32 x33 x34 x35 x36 x37 x38 x39 x40 x41 x42 x43 x44 x45 x46 x47 x48 x49 x50 x51 x52 x53 x54 x55 x56:Value} : Act:=.mk #[x0,x1,x2,x3,x4,x5,x6,x7,x8,x9,x10,x11,x12,x13,x14,x15,x16,x17,x18,x19,x20,x21,x22,x23,x24,x25,x26,x27,x28,x29,x30,x31,x32,x33,x34,x35,x36,x37,x38,x39,x40,x41,x42,x43,x44,x45,x46,x47,x48,x49,x50,x51,x52,x53,x54,x55,x56] []
theorem ok_sKeptOk (ao:Option Addr) (n cap:Nat) (l:KtL) (w:World) (hr:KRd w ao n cap l) (hn:n≤1048576) (hs:∀x∈l,x.1.t.size≤1048576) :
  Calls Tryd.prog 8 #[.slice ao n cap] w fun e w'=>e=.returned (.bool (keptB (kvs l)))∧Below w.heap.size w w':=by
 have HL:Hid (l.length=n):=hr.len;have HR:Hid (KRd w ao n cap l):=hr;have HS:Hid (∀x∈l,x.1.t.size≤1048576):=hs;clear hr hs;go_enter Tryd.func8,Tryd.ntmps8;go_wp2
 go_loopw [3] (fun i wr=>∃k:Nat,i=.int .i64 k∧k≤n∧Hid (keptN (kvs l) k=true)∧Below w.heap.size w wr) (fun i _=>n-(intOf i).toNat)
 case atStart=>exact⟨0,rfl,Nat.zero_le _,rfl,Below.refl _ _⟩
 case round=>
  obtain⟨k,rfl,hk,hT,hb⟩:=hrel
  by_cases hlt:k<n
  ·obtain⟨b,off,e,hc,hd,hq,hR⟩:=HR.out.get k hlt;subst e;have hck:wr.cell? ⟨b,off+k*3,none⟩ = some (.string (kf l k).t):=(hb.cell (World.block_lt_of_cell? w _ hc)).trans hc;have hdk:wr.cell? ⟨b,off+k*3+1,none⟩ = some (.slice (kf l k).a (kf l k).n (kf l k).c):=(hb.cell (World.block_lt_of_cell? w _ hd)).trans hd;have hqk:wr.cell? ⟨b,off+k*3+2,none⟩ = some (.int .i64 (kf l k).q):=(hb.cell (World.block_lt_of_cell? w _ hq)).trans hq;have hlt':(k:Int)<n:=by omega
   have HKL:Hid (k<l.length):=by show k<l.length;rw[HL.out];exact hlt
   have HDN:Hid ((kd l k).length=(kf l k).n):=hR.1.1;have hts:=HS.out _ (kf_mem HKL.out);clear hc hd hq hR
   go_upto_region 4 with fail
   cases hto:topOk (kf l k).t.data.toList
   ·have HTO:Hid (∀u,Below wr.heap.size wr u→Calls Tryd.prog 27 #[.string (kf l k).t] u fun e w'=>e=.returned (.bool false)∧Below u.heap.size u w'):=fun u _=>by
     have h:=qce (kf l k).t u hts;rw[hto] at h;exact h
    refine qar (by kernel_rfl) rfl (fun i u x=>match i with
     |0=>u=.slice (some ⟨b,off,none⟩) n cap
     |1=>u=.int .i64 (k:Int)
     |2=>u=.pointer (some ⟨b,off+k*3,none⟩)
     |3=>u=.pointer (some ⟨b,off+k*3,none⟩)
     |4=>u=.string (kf l k).t
     |5=>u=.bool false
     |6=>u=.bool true
     |7=>u=.bool true
     |8=>u=undef
     |9=>u=undef
     |10=>u=undef
     |11=>u=undef
     |12=>u=undef
     |13=>u=undef
     |14=>u=undef
     |15=>u=undef
     |16=>u=.bool true
     |17=>u=.bool true
     |18=>u=undef
     |19=>u=undef
     |20=>u=undef
     |21=>u=undef
     |22=>u=undef
     |23=>u=undef
     |24=>u=undef
     |25=>u=.bool true
     |26=>u=.bool true
     |27=>u=undef
     |28=>u=undef
     |29=>u=undef
     |30=>u=undef
     |31=>u=undef
     |32=>u=undef
     |33=>u=undef
     |34=>u=undef
     |35=>u=undef
     |36=>u=undef
     |37=>u=undef
     |38=>u=undef
     |39=>u=undef
     |40=>u=undef
     |41=>u=undef
     |42=>u=undef
     |43=>u=.bool true
     |_=>True) ?_ ?_ ?_
    ·intro i u x x' hx h
     match i,h with
     |0,h=>exact h
     |1,h=>exact h
     |2,h=>exact h
     |3,h=>exact h
     |4,h=>exact h
     |5,h=>exact h
     |6,h=>exact h
     |7,h=>exact h
     |8,h=>exact h
     |9,h=>exact h
     |10,h=>exact h
     |11,h=>exact h
     |12,h=>exact h
     |13,h=>exact h
     |14,h=>exact h
     |15,h=>exact h
     |16,h=>exact h
     |17,h=>exact h
     |18,h=>exact h
     |19,h=>exact h
     |20,h=>exact h
     |21,h=>exact h
     |22,h=>exact h
     |23,h=>exact h
     |24,h=>exact h
     |25,h=>exact h
     |26,h=>exact h
     |27,h=>exact h
     |28,h=>exact h
     |29,h=>exact h
     |30,h=>exact h
     |31,h=>exact h
     |32,h=>exact h
     |33,h=>exact h
     |34,h=>exact h
     |35,h=>exact h
     |36,h=>exact h
     |37,h=>exact h
     |38,h=>exact h
     |39,h=>exact h
     |40,h=>exact h
     |41,h=>exact h
     |42,h=>exact h
     |43,h=>exact h
     |(_+44),h=>trivial
    ·intro i o a u hi hk hbu hdep
     match i,hi with
     |0,hi=>
      cases hi;exact g_run (qab rfl _) (qai _ rfl (qaa ((hk.at 0 rfl).trans rfl)) ⟨_,rfl,Below.refl _ _,rfl⟩)
     |1,hi=>
      cases hi;exact g_run (qab rfl _) (qai _ rfl (qaa ((hk.at 3 rfl).trans rfl)) ⟨_,rfl,Below.refl _ _,rfl⟩)
     |2,hi=>
      cases hi;obtain⟨z0,hz0,rfl⟩:=hdep 0 _ _ rfl rfl rfl;obtain⟨z1,hz1,rfl⟩:=hdep 1 _ _ rfl rfl rfl;exact g_run (qab rfl _) (zg_ix (X:=⟨b,off,none⟩) (Y:=⟨b,off+k*3,none⟩) 25 _ _ rfl (qaa hz0) (qaa hz1) (fun _=>ix_kt b off n cap k hlt _) ⟨_,rfl,Below.refl _ _,rfl⟩)
     |3,hi=>
      cases hi;obtain⟨z2,hz2,rfl⟩:=hdep 2 _ _ rfl rfl rfl;exact g_run (qab rfl _) (qaw (X:=⟨b,off+k*3,none⟩) (Y:=⟨b,off+k*3,none⟩) 57 _ 0 rfl (qaa hz2) (fun _=>by kernel_rfl) ⟨_,rfl,Below.refl _ _,rfl⟩)
     |4,hi=>
      cases hi;obtain⟨z3,hz3,rfl⟩:=hdep 3 _ _ rfl rfl rfl;exact g_run (qab rfl _) (zg_ld 9 _ rfl (qaa hz3) (by kernel_rfl) ((hbu.cell (World.block_lt_of_cell? _ _ hck)).trans hck) ⟨_,rfl,Below.refl _ _,rfl⟩)
     |5,hi=>
      cases hi;obtain⟨z4,hz4,rfl⟩:=hdep 4 _ _ rfl rfl rfl;refine g_run (qab rfl _) (qak (qav _ _ _ _ _ _ (fun _ _=>by kernel_rfl) (qaa hz4) (fun _=>rfl) _ _ _ _ _ _) ?_);refine (HTO.out u hbu).mono ?_;rintro e u' ⟨rfl,hb'⟩;exact⟨_,rfl,_,rfl,hb',rfl⟩
     |6,hi=>
      cases hi;obtain⟨z5,hz5,rfl⟩:=hdep 5 _ _ rfl rfl rfl;exact g_run (qab rfl _) (qbo _ _ rfl (qaa hz5) ⟨_,rfl,Below.refl _ _,rfl⟩)
     |7,hi=>
      cases hi;obtain⟨z6,hz6,rfl⟩:=hdep 6 _ _ rfl rfl rfl;exact g_run (qab rfl _) (qai _ rfl (qaa hz6) ⟨_,rfl,Below.refl _ _,rfl⟩)
     |8,hi=>
      cases hi;obtain⟨z7,hz7,rfl⟩:=hdep 7 _ _ rfl rfl rfl;exact qaj (qae rfl (qad rfl hz7) (by decide)) rfl
     |9,hi=>
      cases hi;obtain⟨z7,hz7,rfl⟩:=hdep 7 _ _ rfl rfl rfl;exact qaj (qae rfl (qad rfl hz7) (by decide)) rfl
     |10,hi=>
      cases hi;obtain⟨z7,hz7,rfl⟩:=hdep 7 _ _ rfl rfl rfl;exact qaj (qae rfl (qad rfl hz7) (by decide)) rfl
     |11,hi=>
      cases hi;obtain⟨z7,hz7,rfl⟩:=hdep 7 _ _ rfl rfl rfl;exact qaj (qae rfl (qad rfl hz7) (by decide)) rfl
     |12,hi=>
      cases hi;obtain⟨z7,hz7,rfl⟩:=hdep 7 _ _ rfl rfl rfl;exact qaj (qae rfl (qad rfl hz7) (by decide)) rfl
     |13,hi=>
      cases hi;obtain⟨z7,hz7,rfl⟩:=hdep 7 _ _ rfl rfl rfl;exact qaj (qae rfl (qad rfl hz7) (by decide)) rfl
     |14,hi=>
      cases hi;obtain⟨z7,hz7,rfl⟩:=hdep 7 _ _ rfl rfl rfl;exact qaj (qae rfl (qad rfl hz7) (by decide)) rfl
     |15,hi=>
      cases hi;obtain⟨z7,hz7,rfl⟩:=hdep 7 _ _ rfl rfl rfl;exact qaj (qae rfl (qad rfl hz7) (by decide)) rfl
     |16,hi=>
      cases hi;obtain⟨z7,hz7,rfl⟩:=hdep 7 _ _ rfl rfl rfl;exact g_run (qab rfl _) (qbq _ _ _ rfl (qaa hz7) rfl ⟨_,rfl,Below.refl _ _,rfl⟩)
     |17,hi=>
      cases hi;obtain⟨z16,hz16,rfl⟩:=hdep 16 _ _ rfl rfl rfl;exact g_run (qab rfl _) (qai _ rfl (qaa hz16) ⟨_,rfl,Below.refl _ _,rfl⟩)
     |18,hi=>
      cases hi;obtain⟨z17,hz17,rfl⟩:=hdep 17 _ _ rfl rfl rfl;exact qaj (qae rfl (qad rfl hz17) (by decide)) rfl
     |19,hi=>
      cases hi;obtain⟨z17,hz17,rfl⟩:=hdep 17 _ _ rfl rfl rfl;exact qaj (qae rfl (qad rfl hz17) (by decide)) rfl
     |20,hi=>
      cases hi;obtain⟨z17,hz17,rfl⟩:=hdep 17 _ _ rfl rfl rfl;exact qaj (qae rfl (qad rfl hz17) (by decide)) rfl
     |21,hi=>
      cases hi;obtain⟨z17,hz17,rfl⟩:=hdep 17 _ _ rfl rfl rfl;exact qaj (qae rfl (qad rfl hz17) (by decide)) rfl
     |22,hi=>
      cases hi;obtain⟨z17,hz17,rfl⟩:=hdep 17 _ _ rfl rfl rfl;exact qaj (qae rfl (qad rfl hz17) (by decide)) rfl
     |23,hi=>
      cases hi;obtain⟨z17,hz17,rfl⟩:=hdep 17 _ _ rfl rfl rfl;exact qaj (qae rfl (qad rfl hz17) (by decide)) rfl
     |24,hi=>
      cases hi;obtain⟨z17,hz17,rfl⟩:=hdep 17 _ _ rfl rfl rfl;exact qaj (qae rfl (qad rfl hz17) (by decide)) rfl
     |25,hi=>
      cases hi;obtain⟨z17,hz17,rfl⟩:=hdep 17 _ _ rfl rfl rfl;exact g_run (qab rfl _) (qbq _ _ _ rfl (qaa hz17) rfl ⟨_,rfl,Below.refl _ _,rfl⟩)
     |26,hi=>
      cases hi;obtain⟨z25,hz25,rfl⟩:=hdep 25 _ _ rfl rfl rfl;exact g_run (qab rfl _) (qai _ rfl (qaa hz25) ⟨_,rfl,Below.refl _ _,rfl⟩)
     |27,hi=>
      cases hi;obtain⟨z26,hz26,rfl⟩:=hdep 26 _ _ rfl rfl rfl;exact qaj (qae rfl (qad rfl hz26) (by decide)) rfl
     |28,hi=>
      cases hi;obtain⟨z26,hz26,rfl⟩:=hdep 26 _ _ rfl rfl rfl;exact qaj (qae rfl (qad rfl hz26) (by decide)) rfl
     |29,hi=>
      cases hi;obtain⟨z26,hz26,rfl⟩:=hdep 26 _ _ rfl rfl rfl;exact qaj (qae rfl (qad rfl hz26) (by decide)) rfl
     |30,hi=>
      cases hi;obtain⟨z29,hz29,rfl⟩:=hdep 29 _ _ rfl rfl rfl;exact qaj (qag rfl (qah rfl hz29)) rfl
     |31,hi=>
      cases hi;obtain⟨z29,hz29,rfl⟩:=hdep 29 _ _ rfl rfl rfl;exact qaj (qag rfl (qah rfl hz29)) rfl
     |32,hi=>
      cases hi;obtain⟨z29,hz29,rfl⟩:=hdep 29 _ _ rfl rfl rfl;exact qaj (qag rfl (qah rfl hz29)) rfl
     |33,hi=>
      cases hi;obtain⟨z29,hz29,rfl⟩:=hdep 29 _ _ rfl rfl rfl;exact qaj (qag rfl (qah rfl hz29)) rfl
     |34,hi=>
      cases hi;obtain⟨z29,hz29,rfl⟩:=hdep 29 _ _ rfl rfl rfl;exact qaj (qag rfl (qah rfl hz29)) rfl
     |35,hi=>
      cases hi;obtain⟨z29,hz29,rfl⟩:=hdep 29 _ _ rfl rfl rfl;exact qaj (qag rfl (qah rfl hz29)) rfl
     |36,hi=>
      cases hi;obtain⟨z29,hz29,rfl⟩:=hdep 29 _ _ rfl rfl rfl;exact qaj (qag rfl (qah rfl hz29)) rfl
     |37,hi=>
      cases hi;obtain⟨z29,hz29,rfl⟩:=hdep 29 _ _ rfl rfl rfl;exact qaj (qag rfl (qah rfl hz29)) rfl
     |38,hi=>
      cases hi;obtain⟨z29,hz29,rfl⟩:=hdep 29 _ _ rfl rfl rfl;exact qaj (qag rfl (qah rfl hz29)) rfl
     |39,hi=>
      cases hi;obtain⟨z29,hz29,rfl⟩:=hdep 29 _ _ rfl rfl rfl;exact qaj (qag rfl (qah rfl hz29)) rfl
     |40,hi=>
      cases hi;obtain⟨z29,hz29,rfl⟩:=hdep 29 _ _ rfl rfl rfl;exact qaj (qag rfl (qah rfl hz29)) rfl
     |41,hi=>
      cases hi;obtain⟨z29,hz29,rfl⟩:=hdep 29 _ _ rfl rfl rfl;exact qaj (qag rfl (qah rfl hz29)) rfl
     |42,hi=>
      cases hi;obtain⟨z26,hz26,rfl⟩:=hdep 26 _ _ rfl rfl rfl;exact qaj (qae rfl (qad rfl hz26) (by decide)) rfl
     |43,hi=>
      cases hi;obtain⟨z26,hz26,rfl⟩:=hdep 26 _ _ rfl rfl rfl;exact g_run (qab rfl _) (qbq _ _ _ rfl (qaa hz26) rfl ⟨_,rfl,Below.refl _ _,rfl⟩)
     |(_+44),hi=>cases hi
    intro vs y3 b3 hG a3 h3;have g9:vs 43=.bool true:=hG 43 (by decide);clear hG;replace h3:puts _ 1 _ Fk57=a3:=h3;replace h3:puts _ 2 _ Fk57=a3:=h3;replace h3:puts _ 3 _ Fk57=a3:=h3;replace h3:puts _ 4 _ Fk57=a3:=h3;replace h3:puts _ 5 _ Fk57=a3:=h3;replace h3:puts _ 6 _ Fk57=a3:=h3;replace h3:puts _ 7 _ Fk57=a3:=h3;replace h3:puts _ 8 _ Fk57=a3:=h3;replace h3:puts _ 9 _ Fk57=a3:=h3;replace h3:puts _ 10 _ Fk57=a3:=h3;replace h3:puts _ 11 _ Fk57=a3:=h3;replace h3:puts _ 12 _ Fk57=a3:=h3;replace h3:puts _ 13 _ Fk57=a3:=h3;replace h3:puts _ 14 _ Fk57=a3:=h3;replace h3:puts _ 15 _ Fk57=a3:=h3;replace h3:puts _ 16 _ Fk57=a3:=h3;replace h3:puts _ 17 _ Fk57=a3:=h3;replace h3:puts _ 18 _ Fk57=a3:=h3;replace h3:puts _ 19 _ Fk57=a3:=h3;replace h3:puts _ 20 _ Fk57=a3:=h3;replace h3:puts _ 21 _ Fk57=a3:=h3;replace h3:puts _ 22 _ Fk57=a3:=h3;replace h3:puts _ 23 _ Fk57=a3:=h3;replace h3:puts _ 24 _ Fk57=a3:=h3;replace h3:puts _ 25 _ Fk57=a3:=h3;replace h3:puts _ 26 _ Fk57=a3:=h3;replace h3:puts _ 27 _ Fk57=a3:=h3;replace h3:puts _ 28 _ Fk57=a3:=h3;replace h3:puts _ 29 _ Fk57=a3:=h3;replace h3:puts _ 30 _ Fk57=a3:=h3;replace h3:puts _ 31 _ Fk57=a3:=h3;replace h3:puts _ 32 _ Fk57=a3:=h3;replace h3:puts _ 33 _ Fk57=a3:=h3;replace h3:puts _ 34 _ Fk57=a3:=h3;replace h3:puts _ 35 _ Fk57=a3:=h3;replace h3:puts _ 36 _ Fk57=a3:=h3;replace h3:puts _ 37 _ Fk57=a3:=h3;replace h3:puts _ 38 _ Fk57=a3:=h3;replace h3:puts _ 39 _ Fk57=a3:=h3;replace h3:puts _ 40 _ Fk57=a3:=h3
    replace h3:puts _ 41 _ Fk57=a3:=h3;replace h3:puts _ 42 _ Fk57=a3:=h3;replace h3:puts _ 43 _ Fk57=a3:=h3;replace h3:(Act.mk #[_,_,_,_,_,_,_,_,_,_,_,_,_,_,_,_,_,_,_,_,_,_,_,_,_,_,_,_,_,_,_,_,_,_,_,_,_,_,_,_,_,_,_,_,_,_,_,_,_,_,_,_,_,_,_,_,_] [])=a3:=h3;subst h3;simp only[g9];clear g9;clear HTO;go_wp2;go_ret;exact⟨qaf (qdp HL.out hlt (okAt_no1 HKL.out hto)).symm,g_bel hb b3⟩
   ·have HTO:Hid (∀u,Below wr.heap.size wr u→Calls Tryd.prog 27 #[.string (kf l k).t] u fun e w'=>e=.returned (.bool true)∧Below u.heap.size u w'):=fun u _=>by
     have h:=qce (kf l k).t u hts;rw[hto] at h;exact h
    cases hln:decide (1≤((kf l k).n:Int)∧((kf l k).n:Int)≤40)
    ·have HLN:Hid (∀u,Calls Tryd.prog 28 #[.int .i64 ((kf l k).n:Int),.int .i64 1,.int .i64 40] u fun e w'=>e=.returned (.bool false)∧Below u.heap.size u w'):=fun u=>(qbe _ _ _ _ u hln).mono fun e w' h=>⟨h.1,by rw[h.2];exact Below.refl _ _⟩
     refine qar (by kernel_rfl) rfl (fun i u x=>match i with
      |0=>u=.slice (some ⟨b,off,none⟩) n cap
      |1=>u=.int .i64 (k:Int)
      |2=>u=.pointer (some ⟨b,off+k*3,none⟩)
      |3=>u=.pointer (some ⟨b,off+k*3,none⟩)
      |4=>u=.string (kf l k).t
      |5=>u=.bool true
      |6=>u=.bool false
      |7=>u=.bool false
      |8=>u=.slice (some ⟨b,off,none⟩) n cap
      |9=>u=.int .i64 (k:Int)
      |10=>u=.pointer (some ⟨b,off+k*3,none⟩)
      |11=>u=.pointer (some ⟨b,off+k*3+1,none⟩)
      |12=>u=.slice (kf l k).a (kf l k).n (kf l k).c
      |13=>u=.int .i64 ((kf l k).n:Int)
      |14=>u=.bool false
      |15=>u=.bool true
      |16=>u=.bool true
      |17=>u=.bool true
      |18=>u=undef
      |19=>u=undef
      |20=>u=undef
      |21=>u=undef
      |22=>u=undef
      |23=>u=undef
      |24=>u=undef
      |25=>u=.bool true
      |26=>u=.bool true
      |27=>u=undef
      |28=>u=undef
      |29=>u=undef
      |30=>u=undef
      |31=>u=undef
      |32=>u=undef
      |33=>u=undef
      |34=>u=undef
      |35=>u=undef
      |36=>u=undef
      |37=>u=undef
      |38=>u=undef
      |39=>u=undef
      |40=>u=undef
      |41=>u=undef
      |42=>u=undef
      |43=>u=.bool true
      |_=>True) ?_ ?_ ?_
     ·intro i u x x' hx h
      match i,h with
      |0,h=>exact h
      |1,h=>exact h
      |2,h=>exact h
      |3,h=>exact h
      |4,h=>exact h
      |5,h=>exact h
      |6,h=>exact h
      |7,h=>exact h
      |8,h=>exact h
      |9,h=>exact h
      |10,h=>exact h
      |11,h=>exact h
      |12,h=>exact h
      |13,h=>exact h
      |14,h=>exact h
      |15,h=>exact h
      |16,h=>exact h
      |17,h=>exact h
      |18,h=>exact h
      |19,h=>exact h
      |20,h=>exact h
      |21,h=>exact h
      |22,h=>exact h
      |23,h=>exact h
      |24,h=>exact h
      |25,h=>exact h
      |26,h=>exact h
      |27,h=>exact h
      |28,h=>exact h
      |29,h=>exact h
      |30,h=>exact h
      |31,h=>exact h
      |32,h=>exact h
      |33,h=>exact h
      |34,h=>exact h
      |35,h=>exact h
      |36,h=>exact h
      |37,h=>exact h
      |38,h=>exact h
      |39,h=>exact h
      |40,h=>exact h
      |41,h=>exact h
      |42,h=>exact h
      |43,h=>exact h
      |(_+44),h=>trivial
     ·intro i o a u hi hk hbu hdep
      match i,hi with
      |0,hi=>
       cases hi;exact g_run (qab rfl _) (qai _ rfl (qaa ((hk.at 0 rfl).trans rfl)) ⟨_,rfl,Below.refl _ _,rfl⟩)
      |1,hi=>
       cases hi;exact g_run (qab rfl _) (qai _ rfl (qaa ((hk.at 3 rfl).trans rfl)) ⟨_,rfl,Below.refl _ _,rfl⟩)
      |2,hi=>
       cases hi;obtain⟨z0,hz0,rfl⟩:=hdep 0 _ _ rfl rfl rfl;obtain⟨z1,hz1,rfl⟩:=hdep 1 _ _ rfl rfl rfl;exact g_run (qab rfl _) (zg_ix (X:=⟨b,off,none⟩) (Y:=⟨b,off+k*3,none⟩) 25 _ _ rfl (qaa hz0) (qaa hz1) (fun _=>ix_kt b off n cap k hlt _) ⟨_,rfl,Below.refl _ _,rfl⟩)
      |3,hi=>
       cases hi;obtain⟨z2,hz2,rfl⟩:=hdep 2 _ _ rfl rfl rfl;exact g_run (qab rfl _) (qaw (X:=⟨b,off+k*3,none⟩) (Y:=⟨b,off+k*3,none⟩) 57 _ 0 rfl (qaa hz2) (fun _=>by kernel_rfl) ⟨_,rfl,Below.refl _ _,rfl⟩)
      |4,hi=>
       cases hi;obtain⟨z3,hz3,rfl⟩:=hdep 3 _ _ rfl rfl rfl;exact g_run (qab rfl _) (zg_ld 9 _ rfl (qaa hz3) (by kernel_rfl) ((hbu.cell (World.block_lt_of_cell? _ _ hck)).trans hck) ⟨_,rfl,Below.refl _ _,rfl⟩)
      |5,hi=>
       cases hi;obtain⟨z4,hz4,rfl⟩:=hdep 4 _ _ rfl rfl rfl;refine g_run (qab rfl _) (qak (qav _ _ _ _ _ _ (fun _ _=>by kernel_rfl) (qaa hz4) (fun _=>rfl) _ _ _ _ _ _) ?_);refine (HTO.out u hbu).mono ?_;rintro e u' ⟨rfl,hb'⟩;exact⟨_,rfl,_,rfl,hb',rfl⟩
      |6,hi=>
       cases hi;obtain⟨z5,hz5,rfl⟩:=hdep 5 _ _ rfl rfl rfl;exact g_run (qab rfl _) (qbo _ _ rfl (qaa hz5) ⟨_,rfl,Below.refl _ _,rfl⟩)
      |7,hi=>
       cases hi;obtain⟨z6,hz6,rfl⟩:=hdep 6 _ _ rfl rfl rfl;exact g_run (qab rfl _) (qai _ rfl (qaa hz6) ⟨_,rfl,Below.refl _ _,rfl⟩)
      |8,hi=>
       cases hi;obtain⟨z7,hz7,rfl⟩:=hdep 7 _ _ rfl rfl rfl;exact g_run (qac rfl (qad rfl hz7)) (qai _ rfl (qaa ((hk.at 0 rfl).trans rfl)) ⟨_,rfl,Below.refl _ _,rfl⟩)
      |9,hi=>
       cases hi;obtain⟨z7,hz7,rfl⟩:=hdep 7 _ _ rfl rfl rfl;exact g_run (qac rfl (qad rfl hz7)) (qai _ rfl (qaa ((hk.at 3 rfl).trans rfl)) ⟨_,rfl,Below.refl _ _,rfl⟩)
      |10,hi=>
       cases hi;obtain⟨z7,hz7,rfl⟩:=hdep 7 _ _ rfl rfl rfl;obtain⟨z8,hz8,rfl⟩:=hdep 8 _ _ rfl rfl rfl;obtain⟨z9,hz9,rfl⟩:=hdep 9 _ _ rfl rfl rfl;exact g_run (qac rfl (qad rfl hz7)) (zg_ix (X:=⟨b,off,none⟩) (Y:=⟨b,off+k*3,none⟩) 25 _ _ rfl (qaa hz8) (qaa hz9) (fun _=>ix_kt b off n cap k hlt _) ⟨_,rfl,Below.refl _ _,rfl⟩)
      |11,hi=>
       cases hi;obtain⟨z7,hz7,rfl⟩:=hdep 7 _ _ rfl rfl rfl;obtain⟨z10,hz10,rfl⟩:=hdep 10 _ _ rfl rfl rfl;exact g_run (qac rfl (qad rfl hz7)) (qaw (X:=⟨b,off+k*3,none⟩) (Y:=⟨b,off+k*3+1,none⟩) 57 _ 1 rfl (qaa hz10) (fun _=>by kernel_rfl) ⟨_,rfl,Below.refl _ _,rfl⟩)
      |12,hi=>
       cases hi;obtain⟨z7,hz7,rfl⟩:=hdep 7 _ _ rfl rfl rfl;obtain⟨z11,hz11,rfl⟩:=hdep 11 _ _ rfl rfl rfl;exact g_run (qac rfl (qad rfl hz7)) (zg_ld 29 _ rfl (qaa hz11) (by kernel_rfl) ((hbu.cell (World.block_lt_of_cell? _ _ hdk)).trans hdk) ⟨_,rfl,Below.refl _ _,rfl⟩)
      |13,hi=>
       cases hi;obtain⟨z7,hz7,rfl⟩:=hdep 7 _ _ rfl rfl rfl;obtain⟨z12,hz12,rfl⟩:=hdep 12 _ _ rfl rfl rfl;exact g_run (qac rfl (qad rfl hz7)) (qgs _ rfl (Tryd.underlying29) (qaa hz12) ⟨_,rfl,Below.refl _ _,rfl⟩)
      |14,hi=>
       cases hi;obtain⟨z7,hz7,rfl⟩:=hdep 7 _ _ rfl rfl rfl;obtain⟨z13,hz13,rfl⟩:=hdep 13 _ _ rfl rfl rfl;refine g_run (qac rfl (qad rfl hz7)) (qak (qaq _ _ _ _ _ _ _ _ _ _ (fun _ _=>by kernel_rfl) (qaa hz13) rfl rfl (fun _=>rfl) _ _ _ _ _ _) ?_);refine (HLN.out u).mono ?_;rintro e u' ⟨rfl,hb'⟩;exact⟨_,rfl,_,rfl,hb',rfl⟩
      |15,hi=>
       cases hi;obtain⟨z7,hz7,rfl⟩:=hdep 7 _ _ rfl rfl rfl;obtain⟨z14,hz14,rfl⟩:=hdep 14 _ _ rfl rfl rfl;exact g_run (qac rfl (qad rfl hz7)) (qbo _ _ rfl (qaa hz14) ⟨_,rfl,Below.refl _ _,rfl⟩)
      |16,hi=>
       cases hi;obtain⟨z7,hz7,rfl⟩:=hdep 7 _ _ rfl rfl rfl;obtain⟨z15,hz15,rfl⟩:=hdep 15 _ _ rfl rfl rfl;exact g_run (qab rfl _) (qbb _ _ _ rfl (qaa hz7) (qaa hz15) ⟨_,rfl,Below.refl _ _,rfl⟩)
      |17,hi=>
       cases hi;obtain⟨z16,hz16,rfl⟩:=hdep 16 _ _ rfl rfl rfl;exact g_run (qab rfl _) (qai _ rfl (qaa hz16) ⟨_,rfl,Below.refl _ _,rfl⟩)
      |18,hi=>
       cases hi;obtain⟨z17,hz17,rfl⟩:=hdep 17 _ _ rfl rfl rfl;exact qaj (qae rfl (qad rfl hz17) (by decide)) rfl
      |19,hi=>
       cases hi;obtain⟨z17,hz17,rfl⟩:=hdep 17 _ _ rfl rfl rfl;exact qaj (qae rfl (qad rfl hz17) (by decide)) rfl
      |20,hi=>
       cases hi;obtain⟨z17,hz17,rfl⟩:=hdep 17 _ _ rfl rfl rfl;exact qaj (qae rfl (qad rfl hz17) (by decide)) rfl
      |21,hi=>
       cases hi;obtain⟨z17,hz17,rfl⟩:=hdep 17 _ _ rfl rfl rfl;exact qaj (qae rfl (qad rfl hz17) (by decide)) rfl
      |22,hi=>
       cases hi;obtain⟨z17,hz17,rfl⟩:=hdep 17 _ _ rfl rfl rfl;exact qaj (qae rfl (qad rfl hz17) (by decide)) rfl
      |23,hi=>
       cases hi;obtain⟨z17,hz17,rfl⟩:=hdep 17 _ _ rfl rfl rfl;exact qaj (qae rfl (qad rfl hz17) (by decide)) rfl
      |24,hi=>
       cases hi;obtain⟨z17,hz17,rfl⟩:=hdep 17 _ _ rfl rfl rfl;exact qaj (qae rfl (qad rfl hz17) (by decide)) rfl
      |25,hi=>
       cases hi;obtain⟨z17,hz17,rfl⟩:=hdep 17 _ _ rfl rfl rfl;exact g_run (qab rfl _) (qbq _ _ _ rfl (qaa hz17) rfl ⟨_,rfl,Below.refl _ _,rfl⟩)
      |26,hi=>
       cases hi;obtain⟨z25,hz25,rfl⟩:=hdep 25 _ _ rfl rfl rfl;exact g_run (qab rfl _) (qai _ rfl (qaa hz25) ⟨_,rfl,Below.refl _ _,rfl⟩)
      |27,hi=>
       cases hi;obtain⟨z26,hz26,rfl⟩:=hdep 26 _ _ rfl rfl rfl;exact qaj (qae rfl (qad rfl hz26) (by decide)) rfl
      |28,hi=>
       cases hi;obtain⟨z26,hz26,rfl⟩:=hdep 26 _ _ rfl rfl rfl;exact qaj (qae rfl (qad rfl hz26) (by decide)) rfl
      |29,hi=>
       cases hi;obtain⟨z26,hz26,rfl⟩:=hdep 26 _ _ rfl rfl rfl;exact qaj (qae rfl (qad rfl hz26) (by decide)) rfl
      |30,hi=>
       cases hi;obtain⟨z29,hz29,rfl⟩:=hdep 29 _ _ rfl rfl rfl;exact qaj (qag rfl (qah rfl hz29)) rfl
      |31,hi=>
       cases hi;obtain⟨z29,hz29,rfl⟩:=hdep 29 _ _ rfl rfl rfl;exact qaj (qag rfl (qah rfl hz29)) rfl
      |32,hi=>
       cases hi;obtain⟨z29,hz29,rfl⟩:=hdep 29 _ _ rfl rfl rfl;exact qaj (qag rfl (qah rfl hz29)) rfl
      |33,hi=>
       cases hi;obtain⟨z29,hz29,rfl⟩:=hdep 29 _ _ rfl rfl rfl;exact qaj (qag rfl (qah rfl hz29)) rfl
      |34,hi=>
       cases hi;obtain⟨z29,hz29,rfl⟩:=hdep 29 _ _ rfl rfl rfl;exact qaj (qag rfl (qah rfl hz29)) rfl
      |35,hi=>
       cases hi;obtain⟨z29,hz29,rfl⟩:=hdep 29 _ _ rfl rfl rfl;exact qaj (qag rfl (qah rfl hz29)) rfl
      |36,hi=>
       cases hi;obtain⟨z29,hz29,rfl⟩:=hdep 29 _ _ rfl rfl rfl;exact qaj (qag rfl (qah rfl hz29)) rfl
      |37,hi=>
       cases hi;obtain⟨z29,hz29,rfl⟩:=hdep 29 _ _ rfl rfl rfl;exact qaj (qag rfl (qah rfl hz29)) rfl
      |38,hi=>
       cases hi;obtain⟨z29,hz29,rfl⟩:=hdep 29 _ _ rfl rfl rfl;exact qaj (qag rfl (qah rfl hz29)) rfl
      |39,hi=>
       cases hi;obtain⟨z29,hz29,rfl⟩:=hdep 29 _ _ rfl rfl rfl;exact qaj (qag rfl (qah rfl hz29)) rfl
      |40,hi=>
       cases hi;obtain⟨z29,hz29,rfl⟩:=hdep 29 _ _ rfl rfl rfl;exact qaj (qag rfl (qah rfl hz29)) rfl
      |41,hi=>
       cases hi;obtain⟨z29,hz29,rfl⟩:=hdep 29 _ _ rfl rfl rfl;exact qaj (qag rfl (qah rfl hz29)) rfl
      |42,hi=>
       cases hi;obtain⟨z26,hz26,rfl⟩:=hdep 26 _ _ rfl rfl rfl;exact qaj (qae rfl (qad rfl hz26) (by decide)) rfl
      |43,hi=>
       cases hi;obtain⟨z26,hz26,rfl⟩:=hdep 26 _ _ rfl rfl rfl;exact g_run (qab rfl _) (qbq _ _ _ rfl (qaa hz26) rfl ⟨_,rfl,Below.refl _ _,rfl⟩)
      |(_+44),hi=>cases hi
     intro vs y3 b3 hG a3 h3;have g9:vs 43=.bool true:=hG 43 (by decide);clear hG;replace h3:puts _ 1 _ Fk57=a3:=h3;replace h3:puts _ 2 _ Fk57=a3:=h3;replace h3:puts _ 3 _ Fk57=a3:=h3;replace h3:puts _ 4 _ Fk57=a3:=h3;replace h3:puts _ 5 _ Fk57=a3:=h3;replace h3:puts _ 6 _ Fk57=a3:=h3;replace h3:puts _ 7 _ Fk57=a3:=h3;replace h3:puts _ 8 _ Fk57=a3:=h3;replace h3:puts _ 9 _ Fk57=a3:=h3;replace h3:puts _ 10 _ Fk57=a3:=h3;replace h3:puts _ 11 _ Fk57=a3:=h3;replace h3:puts _ 12 _ Fk57=a3:=h3;replace h3:puts _ 13 _ Fk57=a3:=h3;replace h3:puts _ 14 _ Fk57=a3:=h3;replace h3:puts _ 15 _ Fk57=a3:=h3;replace h3:puts _ 16 _ Fk57=a3:=h3;replace h3:puts _ 17 _ Fk57=a3:=h3;replace h3:puts _ 18 _ Fk57=a3:=h3;replace h3:puts _ 19 _ Fk57=a3:=h3;replace h3:puts _ 20 _ Fk57=a3:=h3;replace h3:puts _ 21 _ Fk57=a3:=h3;replace h3:puts _ 22 _ Fk57=a3:=h3;replace h3:puts _ 23 _ Fk57=a3:=h3;replace h3:puts _ 24 _ Fk57=a3:=h3;replace h3:puts _ 25 _ Fk57=a3:=h3;replace h3:puts _ 26 _ Fk57=a3:=h3;replace h3:puts _ 27 _ Fk57=a3:=h3;replace h3:puts _ 28 _ Fk57=a3:=h3;replace h3:puts _ 29 _ Fk57=a3:=h3;replace h3:puts _ 30 _ Fk57=a3:=h3;replace h3:puts _ 31 _ Fk57=a3:=h3;replace h3:puts _ 32 _ Fk57=a3:=h3;replace h3:puts _ 33 _ Fk57=a3:=h3;replace h3:puts _ 34 _ Fk57=a3:=h3;replace h3:puts _ 35 _ Fk57=a3:=h3;replace h3:puts _ 36 _ Fk57=a3:=h3;replace h3:puts _ 37 _ Fk57=a3:=h3;replace h3:puts _ 38 _ Fk57=a3:=h3;replace h3:puts _ 39 _ Fk57=a3:=h3;replace h3:puts _ 40 _ Fk57=a3:=h3
     replace h3:puts _ 41 _ Fk57=a3:=h3;replace h3:puts _ 42 _ Fk57=a3:=h3;replace h3:puts _ 43 _ Fk57=a3:=h3;replace h3:(Act.mk #[_,_,_,_,_,_,_,_,_,_,_,_,_,_,_,_,_,_,_,_,_,_,_,_,_,_,_,_,_,_,_,_,_,_,_,_,_,_,_,_,_,_,_,_,_,_,_,_,_,_,_,_,_,_,_,_,_] [])=a3:=h3;subst h3;simp only[g9];clear g9;clear HTO;go_wp2;go_ret;exact⟨qaf (qdp HL.out hlt (okAt_no2 HKL.out (by rw[HDN.out];exact hln))).symm,g_bel hb b3⟩
    ·have HLN:Hid (∀u,Calls Tryd.prog 28 #[.int .i64 ((kf l k).n:Int),.int .i64 1,.int .i64 40] u fun e w'=>e=.returned (.bool true)∧Below u.heap.size u w'):=fun u=>(qbe _ _ _ _ u hln).mono fun e w' h=>⟨h.1,by rw[h.2];exact Below.refl _ _⟩
     cases hqq:decide (0≤(kf l k).q∧(kf l k).q≤2)
     ·have HQ:Hid (∀u,Calls Tryd.prog 28 #[.int .i64 (kf l k).q,.int .i64 0,.int .i64 2] u fun e w'=>e=.returned (.bool false)∧Below u.heap.size u w'):=fun u=>(qbe _ _ _ _ u hqq).mono fun e w' h=>⟨h.1,by rw[h.2];exact Below.refl _ _⟩
      refine qar (by kernel_rfl) rfl (fun i u x=>match i with
       |0=>u=.slice (some ⟨b,off,none⟩) n cap
       |1=>u=.int .i64 (k:Int)
       |2=>u=.pointer (some ⟨b,off+k*3,none⟩)
       |3=>u=.pointer (some ⟨b,off+k*3,none⟩)
       |4=>u=.string (kf l k).t
       |5=>u=.bool true
       |6=>u=.bool false
       |7=>u=.bool false
       |8=>u=.slice (some ⟨b,off,none⟩) n cap
       |9=>u=.int .i64 (k:Int)
       |10=>u=.pointer (some ⟨b,off+k*3,none⟩)
       |11=>u=.pointer (some ⟨b,off+k*3+1,none⟩)
       |12=>u=.slice (kf l k).a (kf l k).n (kf l k).c
       |13=>u=.int .i64 ((kf l k).n:Int)
       |14=>u=.bool true
       |15=>u=.bool false
       |16=>u=.bool false
       |17=>u=.bool false
       |18=>u=.slice (some ⟨b,off,none⟩) n cap
       |19=>u=.int .i64 (k:Int)
       |20=>u=.pointer (some ⟨b,off+k*3,none⟩)
       |21=>u=.pointer (some ⟨b,off+k*3+2,none⟩)
       |22=>u=.int .i64 (kf l k).q
       |23=>u=.bool false
       |24=>u=.bool true
       |25=>u=.bool true
       |26=>u=.bool true
       |27=>u=undef
       |28=>u=undef
       |29=>u=undef
       |30=>u=undef
       |31=>u=undef
       |32=>u=undef
       |33=>u=undef
       |34=>u=undef
       |35=>u=undef
       |36=>u=undef
       |37=>u=undef
       |38=>u=undef
       |39=>u=undef
       |40=>u=undef
       |41=>u=undef
       |42=>u=undef
       |43=>u=.bool true
       |_=>True) ?_ ?_ ?_
      ·intro i u x x' hx h
       match i,h with
       |0,h=>exact h
       |1,h=>exact h
       |2,h=>exact h
       |3,h=>exact h
       |4,h=>exact h
       |5,h=>exact h
       |6,h=>exact h
       |7,h=>exact h
       |8,h=>exact h
       |9,h=>exact h
       |10,h=>exact h
       |11,h=>exact h
       |12,h=>exact h
       |13,h=>exact h
       |14,h=>exact h
       |15,h=>exact h
       |16,h=>exact h
       |17,h=>exact h
       |18,h=>exact h
       |19,h=>exact h
       |20,h=>exact h
       |21,h=>exact h
       |22,h=>exact h
       |23,h=>exact h
       |24,h=>exact h
       |25,h=>exact h
       |26,h=>exact h
       |27,h=>exact h
       |28,h=>exact h
       |29,h=>exact h
       |30,h=>exact h
       |31,h=>exact h
       |32,h=>exact h
       |33,h=>exact h
       |34,h=>exact h
       |35,h=>exact h
       |36,h=>exact h
       |37,h=>exact h
       |38,h=>exact h
       |39,h=>exact h
       |40,h=>exact h
       |41,h=>exact h
       |42,h=>exact h
       |43,h=>exact h
       |(_+44),h=>trivial
      ·intro i o a u hi hk hbu hdep
       match i,hi with
       |0,hi=>
        cases hi;exact g_run (qab rfl _) (qai _ rfl (qaa ((hk.at 0 rfl).trans rfl)) ⟨_,rfl,Below.refl _ _,rfl⟩)
       |1,hi=>
        cases hi;exact g_run (qab rfl _) (qai _ rfl (qaa ((hk.at 3 rfl).trans rfl)) ⟨_,rfl,Below.refl _ _,rfl⟩)
       |2,hi=>
        cases hi;obtain⟨z0,hz0,rfl⟩:=hdep 0 _ _ rfl rfl rfl;obtain⟨z1,hz1,rfl⟩:=hdep 1 _ _ rfl rfl rfl;exact g_run (qab rfl _) (zg_ix (X:=⟨b,off,none⟩) (Y:=⟨b,off+k*3,none⟩) 25 _ _ rfl (qaa hz0) (qaa hz1) (fun _=>ix_kt b off n cap k hlt _) ⟨_,rfl,Below.refl _ _,rfl⟩)
       |3,hi=>
        cases hi;obtain⟨z2,hz2,rfl⟩:=hdep 2 _ _ rfl rfl rfl;exact g_run (qab rfl _) (qaw (X:=⟨b,off+k*3,none⟩) (Y:=⟨b,off+k*3,none⟩) 57 _ 0 rfl (qaa hz2) (fun _=>by kernel_rfl) ⟨_,rfl,Below.refl _ _,rfl⟩)
       |4,hi=>
        cases hi;obtain⟨z3,hz3,rfl⟩:=hdep 3 _ _ rfl rfl rfl;exact g_run (qab rfl _) (zg_ld 9 _ rfl (qaa hz3) (by kernel_rfl) ((hbu.cell (World.block_lt_of_cell? _ _ hck)).trans hck) ⟨_,rfl,Below.refl _ _,rfl⟩)
       |5,hi=>
        cases hi;obtain⟨z4,hz4,rfl⟩:=hdep 4 _ _ rfl rfl rfl;refine g_run (qab rfl _) (qak (qav _ _ _ _ _ _ (fun _ _=>by kernel_rfl) (qaa hz4) (fun _=>rfl) _ _ _ _ _ _) ?_);refine (HTO.out u hbu).mono ?_;rintro e u' ⟨rfl,hb'⟩;exact⟨_,rfl,_,rfl,hb',rfl⟩
       |6,hi=>
        cases hi;obtain⟨z5,hz5,rfl⟩:=hdep 5 _ _ rfl rfl rfl;exact g_run (qab rfl _) (qbo _ _ rfl (qaa hz5) ⟨_,rfl,Below.refl _ _,rfl⟩)
       |7,hi=>
        cases hi;obtain⟨z6,hz6,rfl⟩:=hdep 6 _ _ rfl rfl rfl;exact g_run (qab rfl _) (qai _ rfl (qaa hz6) ⟨_,rfl,Below.refl _ _,rfl⟩)
       |8,hi=>
        cases hi;obtain⟨z7,hz7,rfl⟩:=hdep 7 _ _ rfl rfl rfl;exact g_run (qac rfl (qad rfl hz7)) (qai _ rfl (qaa ((hk.at 0 rfl).trans rfl)) ⟨_,rfl,Below.refl _ _,rfl⟩)
       |9,hi=>
        cases hi;obtain⟨z7,hz7,rfl⟩:=hdep 7 _ _ rfl rfl rfl;exact g_run (qac rfl (qad rfl hz7)) (qai _ rfl (qaa ((hk.at 3 rfl).trans rfl)) ⟨_,rfl,Below.refl _ _,rfl⟩)
       |10,hi=>
        cases hi;obtain⟨z7,hz7,rfl⟩:=hdep 7 _ _ rfl rfl rfl;obtain⟨z8,hz8,rfl⟩:=hdep 8 _ _ rfl rfl rfl;obtain⟨z9,hz9,rfl⟩:=hdep 9 _ _ rfl rfl rfl;exact g_run (qac rfl (qad rfl hz7)) (zg_ix (X:=⟨b,off,none⟩) (Y:=⟨b,off+k*3,none⟩) 25 _ _ rfl (qaa hz8) (qaa hz9) (fun _=>ix_kt b off n cap k hlt _) ⟨_,rfl,Below.refl _ _,rfl⟩)
       |11,hi=>
        cases hi;obtain⟨z7,hz7,rfl⟩:=hdep 7 _ _ rfl rfl rfl;obtain⟨z10,hz10,rfl⟩:=hdep 10 _ _ rfl rfl rfl;exact g_run (qac rfl (qad rfl hz7)) (qaw (X:=⟨b,off+k*3,none⟩) (Y:=⟨b,off+k*3+1,none⟩) 57 _ 1 rfl (qaa hz10) (fun _=>by kernel_rfl) ⟨_,rfl,Below.refl _ _,rfl⟩)
       |12,hi=>
        cases hi;obtain⟨z7,hz7,rfl⟩:=hdep 7 _ _ rfl rfl rfl;obtain⟨z11,hz11,rfl⟩:=hdep 11 _ _ rfl rfl rfl;exact g_run (qac rfl (qad rfl hz7)) (zg_ld 29 _ rfl (qaa hz11) (by kernel_rfl) ((hbu.cell (World.block_lt_of_cell? _ _ hdk)).trans hdk) ⟨_,rfl,Below.refl _ _,rfl⟩)
       |13,hi=>
        cases hi;obtain⟨z7,hz7,rfl⟩:=hdep 7 _ _ rfl rfl rfl;obtain⟨z12,hz12,rfl⟩:=hdep 12 _ _ rfl rfl rfl;exact g_run (qac rfl (qad rfl hz7)) (qgs _ rfl (Tryd.underlying29) (qaa hz12) ⟨_,rfl,Below.refl _ _,rfl⟩)
       |14,hi=>
        cases hi;obtain⟨z7,hz7,rfl⟩:=hdep 7 _ _ rfl rfl rfl;obtain⟨z13,hz13,rfl⟩:=hdep 13 _ _ rfl rfl rfl;refine g_run (qac rfl (qad rfl hz7)) (qak (qaq _ _ _ _ _ _ _ _ _ _ (fun _ _=>by kernel_rfl) (qaa hz13) rfl rfl (fun _=>rfl) _ _ _ _ _ _) ?_);refine (HLN.out u).mono ?_;rintro e u' ⟨rfl,hb'⟩;exact⟨_,rfl,_,rfl,hb',rfl⟩
       |15,hi=>
        cases hi;obtain⟨z7,hz7,rfl⟩:=hdep 7 _ _ rfl rfl rfl;obtain⟨z14,hz14,rfl⟩:=hdep 14 _ _ rfl rfl rfl;exact g_run (qac rfl (qad rfl hz7)) (qbo _ _ rfl (qaa hz14) ⟨_,rfl,Below.refl _ _,rfl⟩)
       |16,hi=>
        cases hi;obtain⟨z7,hz7,rfl⟩:=hdep 7 _ _ rfl rfl rfl;obtain⟨z15,hz15,rfl⟩:=hdep 15 _ _ rfl rfl rfl;exact g_run (qab rfl _) (qbb _ _ _ rfl (qaa hz7) (qaa hz15) ⟨_,rfl,Below.refl _ _,rfl⟩)
       |17,hi=>
        cases hi;obtain⟨z16,hz16,rfl⟩:=hdep 16 _ _ rfl rfl rfl;exact g_run (qab rfl _) (qai _ rfl (qaa hz16) ⟨_,rfl,Below.refl _ _,rfl⟩)
       |18,hi=>
        cases hi;obtain⟨z17,hz17,rfl⟩:=hdep 17 _ _ rfl rfl rfl;exact g_run (qac rfl (qad rfl hz17)) (qai _ rfl (qaa ((hk.at 0 rfl).trans rfl)) ⟨_,rfl,Below.refl _ _,rfl⟩)
       |19,hi=>
        cases hi;obtain⟨z17,hz17,rfl⟩:=hdep 17 _ _ rfl rfl rfl;exact g_run (qac rfl (qad rfl hz17)) (qai _ rfl (qaa ((hk.at 3 rfl).trans rfl)) ⟨_,rfl,Below.refl _ _,rfl⟩)
       |20,hi=>
        cases hi;obtain⟨z17,hz17,rfl⟩:=hdep 17 _ _ rfl rfl rfl;obtain⟨z18,hz18,rfl⟩:=hdep 18 _ _ rfl rfl rfl;obtain⟨z19,hz19,rfl⟩:=hdep 19 _ _ rfl rfl rfl;exact g_run (qac rfl (qad rfl hz17)) (zg_ix (X:=⟨b,off,none⟩) (Y:=⟨b,off+k*3,none⟩) 25 _ _ rfl (qaa hz18) (qaa hz19) (fun _=>ix_kt b off n cap k hlt _) ⟨_,rfl,Below.refl _ _,rfl⟩)
       |21,hi=>
        cases hi;obtain⟨z17,hz17,rfl⟩:=hdep 17 _ _ rfl rfl rfl;obtain⟨z20,hz20,rfl⟩:=hdep 20 _ _ rfl rfl rfl;exact g_run (qac rfl (qad rfl hz17)) (qaw (X:=⟨b,off+k*3,none⟩) (Y:=⟨b,off+k*3+2,none⟩) 57 _ 2 rfl (qaa hz20) (fun _=>by kernel_rfl) ⟨_,rfl,Below.refl _ _,rfl⟩)
       |22,hi=>
        cases hi;obtain⟨z17,hz17,rfl⟩:=hdep 17 _ _ rfl rfl rfl;obtain⟨z21,hz21,rfl⟩:=hdep 21 _ _ rfl rfl rfl;exact g_run (qac rfl (qad rfl hz17)) (zg_ld 3 _ rfl (qaa hz21) (by kernel_rfl) ((hbu.cell (World.block_lt_of_cell? _ _ hqk)).trans hqk) ⟨_,rfl,Below.refl _ _,rfl⟩)
       |23,hi=>
        cases hi;obtain⟨z17,hz17,rfl⟩:=hdep 17 _ _ rfl rfl rfl;obtain⟨z22,hz22,rfl⟩:=hdep 22 _ _ rfl rfl rfl;refine g_run (qac rfl (qad rfl hz17)) (qak (qaq _ _ _ _ _ _ _ _ _ _ (fun _ _=>by kernel_rfl) (qaa hz22) rfl rfl (fun _=>rfl) _ _ _ _ _ _) ?_);refine (HQ.out u).mono ?_;rintro e u' ⟨rfl,hb'⟩;exact⟨_,rfl,_,rfl,hb',rfl⟩
       |24,hi=>
        cases hi;obtain⟨z17,hz17,rfl⟩:=hdep 17 _ _ rfl rfl rfl;obtain⟨z23,hz23,rfl⟩:=hdep 23 _ _ rfl rfl rfl;exact g_run (qac rfl (qad rfl hz17)) (qbo _ _ rfl (qaa hz23) ⟨_,rfl,Below.refl _ _,rfl⟩)
       |25,hi=>
        cases hi;obtain⟨z17,hz17,rfl⟩:=hdep 17 _ _ rfl rfl rfl;obtain⟨z24,hz24,rfl⟩:=hdep 24 _ _ rfl rfl rfl;exact g_run (qab rfl _) (qbb _ _ _ rfl (qaa hz17) (qaa hz24) ⟨_,rfl,Below.refl _ _,rfl⟩)
       |26,hi=>
        cases hi;obtain⟨z25,hz25,rfl⟩:=hdep 25 _ _ rfl rfl rfl;exact g_run (qab rfl _) (qai _ rfl (qaa hz25) ⟨_,rfl,Below.refl _ _,rfl⟩)
       |27,hi=>
        cases hi;obtain⟨z26,hz26,rfl⟩:=hdep 26 _ _ rfl rfl rfl;exact qaj (qae rfl (qad rfl hz26) (by decide)) rfl
       |28,hi=>
        cases hi;obtain⟨z26,hz26,rfl⟩:=hdep 26 _ _ rfl rfl rfl;exact qaj (qae rfl (qad rfl hz26) (by decide)) rfl
       |29,hi=>
        cases hi;obtain⟨z26,hz26,rfl⟩:=hdep 26 _ _ rfl rfl rfl;exact qaj (qae rfl (qad rfl hz26) (by decide)) rfl
       |30,hi=>
        cases hi;obtain⟨z29,hz29,rfl⟩:=hdep 29 _ _ rfl rfl rfl;exact qaj (qag rfl (qah rfl hz29)) rfl
       |31,hi=>
        cases hi;obtain⟨z29,hz29,rfl⟩:=hdep 29 _ _ rfl rfl rfl;exact qaj (qag rfl (qah rfl hz29)) rfl
       |32,hi=>
        cases hi;obtain⟨z29,hz29,rfl⟩:=hdep 29 _ _ rfl rfl rfl;exact qaj (qag rfl (qah rfl hz29)) rfl
       |33,hi=>
        cases hi;obtain⟨z29,hz29,rfl⟩:=hdep 29 _ _ rfl rfl rfl;exact qaj (qag rfl (qah rfl hz29)) rfl
       |34,hi=>
        cases hi;obtain⟨z29,hz29,rfl⟩:=hdep 29 _ _ rfl rfl rfl;exact qaj (qag rfl (qah rfl hz29)) rfl
       |35,hi=>
        cases hi;obtain⟨z29,hz29,rfl⟩:=hdep 29 _ _ rfl rfl rfl;exact qaj (qag rfl (qah rfl hz29)) rfl
       |36,hi=>
        cases hi;obtain⟨z29,hz29,rfl⟩:=hdep 29 _ _ rfl rfl rfl;exact qaj (qag rfl (qah rfl hz29)) rfl
       |37,hi=>
        cases hi;obtain⟨z29,hz29,rfl⟩:=hdep 29 _ _ rfl rfl rfl;exact qaj (qag rfl (qah rfl hz29)) rfl
       |38,hi=>
        cases hi;obtain⟨z29,hz29,rfl⟩:=hdep 29 _ _ rfl rfl rfl;exact qaj (qag rfl (qah rfl hz29)) rfl
       |39,hi=>
        cases hi;obtain⟨z29,hz29,rfl⟩:=hdep 29 _ _ rfl rfl rfl;exact qaj (qag rfl (qah rfl hz29)) rfl
       |40,hi=>
        cases hi;obtain⟨z29,hz29,rfl⟩:=hdep 29 _ _ rfl rfl rfl;exact qaj (qag rfl (qah rfl hz29)) rfl
       |41,hi=>
        cases hi;obtain⟨z29,hz29,rfl⟩:=hdep 29 _ _ rfl rfl rfl;exact qaj (qag rfl (qah rfl hz29)) rfl
       |42,hi=>
        cases hi;obtain⟨z26,hz26,rfl⟩:=hdep 26 _ _ rfl rfl rfl;exact qaj (qae rfl (qad rfl hz26) (by decide)) rfl
       |43,hi=>
        cases hi;obtain⟨z26,hz26,rfl⟩:=hdep 26 _ _ rfl rfl rfl;exact g_run (qab rfl _) (qbq _ _ _ rfl (qaa hz26) rfl ⟨_,rfl,Below.refl _ _,rfl⟩)
       |(_+44),hi=>cases hi
      intro vs y3 b3 hG a3 h3;have g9:vs 43=.bool true:=hG 43 (by decide);clear hG;replace h3:puts _ 1 _ Fk57=a3:=h3;replace h3:puts _ 2 _ Fk57=a3:=h3;replace h3:puts _ 3 _ Fk57=a3:=h3;replace h3:puts _ 4 _ Fk57=a3:=h3;replace h3:puts _ 5 _ Fk57=a3:=h3;replace h3:puts _ 6 _ Fk57=a3:=h3;replace h3:puts _ 7 _ Fk57=a3:=h3;replace h3:puts _ 8 _ Fk57=a3:=h3;replace h3:puts _ 9 _ Fk57=a3:=h3;replace h3:puts _ 10 _ Fk57=a3:=h3;replace h3:puts _ 11 _ Fk57=a3:=h3;replace h3:puts _ 12 _ Fk57=a3:=h3;replace h3:puts _ 13 _ Fk57=a3:=h3;replace h3:puts _ 14 _ Fk57=a3:=h3;replace h3:puts _ 15 _ Fk57=a3:=h3;replace h3:puts _ 16 _ Fk57=a3:=h3;replace h3:puts _ 17 _ Fk57=a3:=h3;replace h3:puts _ 18 _ Fk57=a3:=h3;replace h3:puts _ 19 _ Fk57=a3:=h3;replace h3:puts _ 20 _ Fk57=a3:=h3;replace h3:puts _ 21 _ Fk57=a3:=h3;replace h3:puts _ 22 _ Fk57=a3:=h3;replace h3:puts _ 23 _ Fk57=a3:=h3;replace h3:puts _ 24 _ Fk57=a3:=h3;replace h3:puts _ 25 _ Fk57=a3:=h3;replace h3:puts _ 26 _ Fk57=a3:=h3;replace h3:puts _ 27 _ Fk57=a3:=h3;replace h3:puts _ 28 _ Fk57=a3:=h3;replace h3:puts _ 29 _ Fk57=a3:=h3;replace h3:puts _ 30 _ Fk57=a3:=h3;replace h3:puts _ 31 _ Fk57=a3:=h3;replace h3:puts _ 32 _ Fk57=a3:=h3;replace h3:puts _ 33 _ Fk57=a3:=h3;replace h3:puts _ 34 _ Fk57=a3:=h3;replace h3:puts _ 35 _ Fk57=a3:=h3;replace h3:puts _ 36 _ Fk57=a3:=h3;replace h3:puts _ 37 _ Fk57=a3:=h3;replace h3:puts _ 38 _ Fk57=a3:=h3;replace h3:puts _ 39 _ Fk57=a3:=h3;replace h3:puts _ 40 _ Fk57=a3:=h3
      replace h3:puts _ 41 _ Fk57=a3:=h3;replace h3:puts _ 42 _ Fk57=a3:=h3;replace h3:puts _ 43 _ Fk57=a3:=h3;replace h3:(Act.mk #[_,_,_,_,_,_,_,_,_,_,_,_,_,_,_,_,_,_,_,_,_,_,_,_,_,_,_,_,_,_,_,_,_,_,_,_,_,_,_,_,_,_,_,_,_,_,_,_,_,_,_,_,_,_,_,_,_] [])=a3:=h3;subst h3;simp only[g9];clear g9;clear HTO;go_wp2;go_ret;exact⟨qaf (qdp HL.out hlt (okAt_no3 HKL.out hqq)).symm,g_bel hb b3⟩
     ·have HQ:Hid (∀u,Calls Tryd.prog 28 #[.int .i64 (kf l k).q,.int .i64 0,.int .i64 2] u fun e w'=>e=.returned (.bool true)∧Below u.heap.size u w'):=fun u=>(qbe _ _ _ _ u hqq).mono fun e w' h=>⟨h.1,by rw[h.2];exact Below.refl _ _⟩
      by_cases hpos:(0:Int)<k
      ·have hk1:1≤k∧k≤1099511627776:=by omega
       have hlt1:k-1<n:=by omega
       obtain⟨b2,off2,e2,hp,_⟩:=HR.out.get (k-1) hlt1;simp only[Option.some.injEq,Addr.mk.injEq,and_true] at e2;obtain⟨rfl,rfl⟩:=e2;have hpk:wr.cell? ⟨b,off+(k-1)*3,none⟩ = some (.string (kf l (k-1)).t):=(hb.cell (World.block_lt_of_cell? w _ hp)).trans hp;clear hp;cases hls:ltK (kf l (k-1)).t (kf l k).t
       ·refine qar (by kernel_rfl) rfl (fun i u x=>match i with
         |0=>u=.slice (some ⟨b,off,none⟩) n cap
         |1=>u=.int .i64 (k:Int)
         |2=>u=.pointer (some ⟨b,off+k*3,none⟩)
         |3=>u=.pointer (some ⟨b,off+k*3,none⟩)
         |4=>u=.string (kf l k).t
         |5=>u=.bool true
         |6=>u=.bool false
         |7=>u=.bool false
         |8=>u=.slice (some ⟨b,off,none⟩) n cap
         |9=>u=.int .i64 (k:Int)
         |10=>u=.pointer (some ⟨b,off+k*3,none⟩)
         |11=>u=.pointer (some ⟨b,off+k*3+1,none⟩)
         |12=>u=.slice (kf l k).a (kf l k).n (kf l k).c
         |13=>u=.int .i64 ((kf l k).n:Int)
         |14=>u=.bool true
         |15=>u=.bool false
         |16=>u=.bool false
         |17=>u=.bool false
         |18=>u=.slice (some ⟨b,off,none⟩) n cap
         |19=>u=.int .i64 (k:Int)
         |20=>u=.pointer (some ⟨b,off+k*3,none⟩)
         |21=>u=.pointer (some ⟨b,off+k*3+2,none⟩)
         |22=>u=.int .i64 (kf l k).q
         |23=>u=.bool true
         |24=>u=.bool false
         |25=>u=.bool false
         |26=>u=.bool false
         |27=>u=.int .i64 (k:Int)
         |28=>u=.bool true
         |29=>u=.bool true
         |30=>u=.slice (some ⟨b,off,none⟩) n cap
         |31=>u=.int .i64 (k:Int)
         |32=>u=.int .i64 ((k-1:Nat):Int)
         |33=>u=.pointer (some ⟨b,off+(k-1)*3,none⟩)
         |34=>u=.pointer (some ⟨b,off+(k-1)*3,none⟩)
         |35=>u=.string (kf l (k-1)).t
         |36=>u=.slice (some ⟨b,off,none⟩) n cap
         |37=>u=.int .i64 (k:Int)
         |38=>u=.pointer (some ⟨b,off+k*3,none⟩)
         |39=>u=.pointer (some ⟨b,off+k*3,none⟩)
         |40=>u=.string (kf l k).t
         |41=>u=.bool true
         |42=>u=.bool true
         |43=>u=.bool true
         |_=>True) ?_ ?_ ?_
        ·intro i u x x' hx h
         match i,h with
         |0,h=>exact h
         |1,h=>exact h
         |2,h=>exact h
         |3,h=>exact h
         |4,h=>exact h
         |5,h=>exact h
         |6,h=>exact h
         |7,h=>exact h
         |8,h=>exact h
         |9,h=>exact h
         |10,h=>exact h
         |11,h=>exact h
         |12,h=>exact h
         |13,h=>exact h
         |14,h=>exact h
         |15,h=>exact h
         |16,h=>exact h
         |17,h=>exact h
         |18,h=>exact h
         |19,h=>exact h
         |20,h=>exact h
         |21,h=>exact h
         |22,h=>exact h
         |23,h=>exact h
         |24,h=>exact h
         |25,h=>exact h
         |26,h=>exact h
         |27,h=>exact h
         |28,h=>exact h
         |29,h=>exact h
         |30,h=>exact h
         |31,h=>exact h
         |32,h=>exact h
         |33,h=>exact h
         |34,h=>exact h
         |35,h=>exact h
         |36,h=>exact h
         |37,h=>exact h
         |38,h=>exact h
         |39,h=>exact h
         |40,h=>exact h
         |41,h=>exact h
         |42,h=>exact h
         |43,h=>exact h
         |(_+44),h=>trivial
        ·intro i o a u hi hk hbu hdep
         match i,hi with
         |0,hi=>
          cases hi;exact g_run (qab rfl _) (qai _ rfl (qaa ((hk.at 0 rfl).trans rfl)) ⟨_,rfl,Below.refl _ _,rfl⟩)
         |1,hi=>
          cases hi;exact g_run (qab rfl _) (qai _ rfl (qaa ((hk.at 3 rfl).trans rfl)) ⟨_,rfl,Below.refl _ _,rfl⟩)
         |2,hi=>
          cases hi;obtain⟨z0,hz0,rfl⟩:=hdep 0 _ _ rfl rfl rfl;obtain⟨z1,hz1,rfl⟩:=hdep 1 _ _ rfl rfl rfl;exact g_run (qab rfl _) (zg_ix (X:=⟨b,off,none⟩) (Y:=⟨b,off+k*3,none⟩) 25 _ _ rfl (qaa hz0) (qaa hz1) (fun _=>ix_kt b off n cap k hlt _) ⟨_,rfl,Below.refl _ _,rfl⟩)
         |3,hi=>
          cases hi;obtain⟨z2,hz2,rfl⟩:=hdep 2 _ _ rfl rfl rfl;exact g_run (qab rfl _) (qaw (X:=⟨b,off+k*3,none⟩) (Y:=⟨b,off+k*3,none⟩) 57 _ 0 rfl (qaa hz2) (fun _=>by kernel_rfl) ⟨_,rfl,Below.refl _ _,rfl⟩)
         |4,hi=>
          cases hi;obtain⟨z3,hz3,rfl⟩:=hdep 3 _ _ rfl rfl rfl;exact g_run (qab rfl _) (zg_ld 9 _ rfl (qaa hz3) (by kernel_rfl) ((hbu.cell (World.block_lt_of_cell? _ _ hck)).trans hck) ⟨_,rfl,Below.refl _ _,rfl⟩)
         |5,hi=>
          cases hi;obtain⟨z4,hz4,rfl⟩:=hdep 4 _ _ rfl rfl rfl;refine g_run (qab rfl _) (qak (qav _ _ _ _ _ _ (fun _ _=>by kernel_rfl) (qaa hz4) (fun _=>rfl) _ _ _ _ _ _) ?_);refine (HTO.out u hbu).mono ?_;rintro e u' ⟨rfl,hb'⟩;exact⟨_,rfl,_,rfl,hb',rfl⟩
         |6,hi=>
          cases hi;obtain⟨z5,hz5,rfl⟩:=hdep 5 _ _ rfl rfl rfl;exact g_run (qab rfl _) (qbo _ _ rfl (qaa hz5) ⟨_,rfl,Below.refl _ _,rfl⟩)
         |7,hi=>
          cases hi;obtain⟨z6,hz6,rfl⟩:=hdep 6 _ _ rfl rfl rfl;exact g_run (qab rfl _) (qai _ rfl (qaa hz6) ⟨_,rfl,Below.refl _ _,rfl⟩)
         |8,hi=>
          cases hi;obtain⟨z7,hz7,rfl⟩:=hdep 7 _ _ rfl rfl rfl;exact g_run (qac rfl (qad rfl hz7)) (qai _ rfl (qaa ((hk.at 0 rfl).trans rfl)) ⟨_,rfl,Below.refl _ _,rfl⟩)
         |9,hi=>
          cases hi;obtain⟨z7,hz7,rfl⟩:=hdep 7 _ _ rfl rfl rfl;exact g_run (qac rfl (qad rfl hz7)) (qai _ rfl (qaa ((hk.at 3 rfl).trans rfl)) ⟨_,rfl,Below.refl _ _,rfl⟩)
         |10,hi=>
          cases hi;obtain⟨z7,hz7,rfl⟩:=hdep 7 _ _ rfl rfl rfl;obtain⟨z8,hz8,rfl⟩:=hdep 8 _ _ rfl rfl rfl;obtain⟨z9,hz9,rfl⟩:=hdep 9 _ _ rfl rfl rfl;exact g_run (qac rfl (qad rfl hz7)) (zg_ix (X:=⟨b,off,none⟩) (Y:=⟨b,off+k*3,none⟩) 25 _ _ rfl (qaa hz8) (qaa hz9) (fun _=>ix_kt b off n cap k hlt _) ⟨_,rfl,Below.refl _ _,rfl⟩)
         |11,hi=>
          cases hi;obtain⟨z7,hz7,rfl⟩:=hdep 7 _ _ rfl rfl rfl;obtain⟨z10,hz10,rfl⟩:=hdep 10 _ _ rfl rfl rfl;exact g_run (qac rfl (qad rfl hz7)) (qaw (X:=⟨b,off+k*3,none⟩) (Y:=⟨b,off+k*3+1,none⟩) 57 _ 1 rfl (qaa hz10) (fun _=>by kernel_rfl) ⟨_,rfl,Below.refl _ _,rfl⟩)
         |12,hi=>
          cases hi;obtain⟨z7,hz7,rfl⟩:=hdep 7 _ _ rfl rfl rfl;obtain⟨z11,hz11,rfl⟩:=hdep 11 _ _ rfl rfl rfl;exact g_run (qac rfl (qad rfl hz7)) (zg_ld 29 _ rfl (qaa hz11) (by kernel_rfl) ((hbu.cell (World.block_lt_of_cell? _ _ hdk)).trans hdk) ⟨_,rfl,Below.refl _ _,rfl⟩)
         |13,hi=>
          cases hi;obtain⟨z7,hz7,rfl⟩:=hdep 7 _ _ rfl rfl rfl;obtain⟨z12,hz12,rfl⟩:=hdep 12 _ _ rfl rfl rfl;exact g_run (qac rfl (qad rfl hz7)) (qgs _ rfl (Tryd.underlying29) (qaa hz12) ⟨_,rfl,Below.refl _ _,rfl⟩)
         |14,hi=>
          cases hi;obtain⟨z7,hz7,rfl⟩:=hdep 7 _ _ rfl rfl rfl;obtain⟨z13,hz13,rfl⟩:=hdep 13 _ _ rfl rfl rfl;refine g_run (qac rfl (qad rfl hz7)) (qak (qaq _ _ _ _ _ _ _ _ _ _ (fun _ _=>by kernel_rfl) (qaa hz13) rfl rfl (fun _=>rfl) _ _ _ _ _ _) ?_);refine (HLN.out u).mono ?_;rintro e u' ⟨rfl,hb'⟩;exact⟨_,rfl,_,rfl,hb',rfl⟩
         |15,hi=>
          cases hi;obtain⟨z7,hz7,rfl⟩:=hdep 7 _ _ rfl rfl rfl;obtain⟨z14,hz14,rfl⟩:=hdep 14 _ _ rfl rfl rfl;exact g_run (qac rfl (qad rfl hz7)) (qbo _ _ rfl (qaa hz14) ⟨_,rfl,Below.refl _ _,rfl⟩)
         |16,hi=>
          cases hi;obtain⟨z7,hz7,rfl⟩:=hdep 7 _ _ rfl rfl rfl;obtain⟨z15,hz15,rfl⟩:=hdep 15 _ _ rfl rfl rfl;exact g_run (qab rfl _) (qbb _ _ _ rfl (qaa hz7) (qaa hz15) ⟨_,rfl,Below.refl _ _,rfl⟩)
         |17,hi=>
          cases hi;obtain⟨z16,hz16,rfl⟩:=hdep 16 _ _ rfl rfl rfl;exact g_run (qab rfl _) (qai _ rfl (qaa hz16) ⟨_,rfl,Below.refl _ _,rfl⟩)
         |18,hi=>
          cases hi;obtain⟨z17,hz17,rfl⟩:=hdep 17 _ _ rfl rfl rfl;exact g_run (qac rfl (qad rfl hz17)) (qai _ rfl (qaa ((hk.at 0 rfl).trans rfl)) ⟨_,rfl,Below.refl _ _,rfl⟩)
         |19,hi=>
          cases hi;obtain⟨z17,hz17,rfl⟩:=hdep 17 _ _ rfl rfl rfl;exact g_run (qac rfl (qad rfl hz17)) (qai _ rfl (qaa ((hk.at 3 rfl).trans rfl)) ⟨_,rfl,Below.refl _ _,rfl⟩)
         |20,hi=>
          cases hi;obtain⟨z17,hz17,rfl⟩:=hdep 17 _ _ rfl rfl rfl;obtain⟨z18,hz18,rfl⟩:=hdep 18 _ _ rfl rfl rfl;obtain⟨z19,hz19,rfl⟩:=hdep 19 _ _ rfl rfl rfl;exact g_run (qac rfl (qad rfl hz17)) (zg_ix (X:=⟨b,off,none⟩) (Y:=⟨b,off+k*3,none⟩) 25 _ _ rfl (qaa hz18) (qaa hz19) (fun _=>ix_kt b off n cap k hlt _) ⟨_,rfl,Below.refl _ _,rfl⟩)
         |21,hi=>
          cases hi;obtain⟨z17,hz17,rfl⟩:=hdep 17 _ _ rfl rfl rfl;obtain⟨z20,hz20,rfl⟩:=hdep 20 _ _ rfl rfl rfl;exact g_run (qac rfl (qad rfl hz17)) (qaw (X:=⟨b,off+k*3,none⟩) (Y:=⟨b,off+k*3+2,none⟩) 57 _ 2 rfl (qaa hz20) (fun _=>by kernel_rfl) ⟨_,rfl,Below.refl _ _,rfl⟩)
         |22,hi=>
          cases hi;obtain⟨z17,hz17,rfl⟩:=hdep 17 _ _ rfl rfl rfl;obtain⟨z21,hz21,rfl⟩:=hdep 21 _ _ rfl rfl rfl;exact g_run (qac rfl (qad rfl hz17)) (zg_ld 3 _ rfl (qaa hz21) (by kernel_rfl) ((hbu.cell (World.block_lt_of_cell? _ _ hqk)).trans hqk) ⟨_,rfl,Below.refl _ _,rfl⟩)
         |23,hi=>
          cases hi;obtain⟨z17,hz17,rfl⟩:=hdep 17 _ _ rfl rfl rfl;obtain⟨z22,hz22,rfl⟩:=hdep 22 _ _ rfl rfl rfl;refine g_run (qac rfl (qad rfl hz17)) (qak (qaq _ _ _ _ _ _ _ _ _ _ (fun _ _=>by kernel_rfl) (qaa hz22) rfl rfl (fun _=>rfl) _ _ _ _ _ _) ?_);refine (HQ.out u).mono ?_;rintro e u' ⟨rfl,hb'⟩;exact⟨_,rfl,_,rfl,hb',rfl⟩
         |24,hi=>
          cases hi;obtain⟨z17,hz17,rfl⟩:=hdep 17 _ _ rfl rfl rfl;obtain⟨z23,hz23,rfl⟩:=hdep 23 _ _ rfl rfl rfl;exact g_run (qac rfl (qad rfl hz17)) (qbo _ _ rfl (qaa hz23) ⟨_,rfl,Below.refl _ _,rfl⟩)
         |25,hi=>
          cases hi;obtain⟨z17,hz17,rfl⟩:=hdep 17 _ _ rfl rfl rfl;obtain⟨z24,hz24,rfl⟩:=hdep 24 _ _ rfl rfl rfl;exact g_run (qab rfl _) (qbb _ _ _ rfl (qaa hz17) (qaa hz24) ⟨_,rfl,Below.refl _ _,rfl⟩)
         |26,hi=>
          cases hi;obtain⟨z25,hz25,rfl⟩:=hdep 25 _ _ rfl rfl rfl;exact g_run (qab rfl _) (qai _ rfl (qaa hz25) ⟨_,rfl,Below.refl _ _,rfl⟩)
         |27,hi=>
          cases hi;obtain⟨z26,hz26,rfl⟩:=hdep 26 _ _ rfl rfl rfl;exact g_run (qac rfl (qad rfl hz26)) (qai _ rfl (qaa ((hk.at 3 rfl).trans rfl)) ⟨_,rfl,Below.refl _ _,rfl⟩)
         |28,hi=>
          cases hi;obtain⟨z26,hz26,rfl⟩:=hdep 26 _ _ rfl rfl rfl;obtain⟨z27,hz27,rfl⟩:=hdep 27 _ _ rfl rfl rfl;exact g_run (qac rfl (qad rfl hz26)) (qcf _ _ _ _ _ rfl (qaa hz27) rfl (gti_t _ _ _ _ _ hpos) ⟨_,rfl,Below.refl _ _,rfl⟩)
         |29,hi=>
          cases hi;obtain⟨z26,hz26,rfl⟩:=hdep 26 _ _ rfl rfl rfl;obtain⟨z28,hz28,rfl⟩:=hdep 28 _ _ rfl rfl rfl;exact g_run (qac rfl (qad rfl hz26)) (qai _ rfl (qaa hz28) ⟨_,rfl,Below.refl _ _,rfl⟩)
         |30,hi=>
          cases hi;obtain⟨z29,hz29,rfl⟩:=hdep 29 _ _ rfl rfl rfl;exact g_run (qac rfl (qad rfl hz29)) (qai _ rfl (qaa ((hk.at 0 rfl).trans rfl)) ⟨_,rfl,Below.refl _ _,rfl⟩)
         |31,hi=>
          cases hi;obtain⟨z29,hz29,rfl⟩:=hdep 29 _ _ rfl rfl rfl;exact g_run (qac rfl (qad rfl hz29)) (qai _ rfl (qaa ((hk.at 3 rfl).trans rfl)) ⟨_,rfl,Below.refl _ _,rfl⟩)
         |32,hi=>
          cases hi;obtain⟨z29,hz29,rfl⟩:=hdep 29 _ _ rfl rfl rfl;obtain⟨z31,hz31,rfl⟩:=hdep 31 _ _ rfl rfl rfl;exact g_run (qac rfl (qad rfl hz29)) (qcf _ _ _ _ _ rfl (qaa hz31) rfl (subk _ _ _ k hk1) ⟨_,rfl,Below.refl _ _,rfl⟩)
         |33,hi=>
          cases hi;obtain⟨z29,hz29,rfl⟩:=hdep 29 _ _ rfl rfl rfl;obtain⟨z30,hz30,rfl⟩:=hdep 30 _ _ rfl rfl rfl;obtain⟨z32,hz32,rfl⟩:=hdep 32 _ _ rfl rfl rfl;exact g_run (qac rfl (qad rfl hz29)) (zg_ix (X:=⟨b,off,none⟩) (Y:=⟨b,off+(k-1)*3,none⟩) 25 _ _ rfl (qaa hz30) (qaa hz32) (fun _=>ix_kt b off n cap (k-1) hlt1 _) ⟨_,rfl,Below.refl _ _,rfl⟩)
         |34,hi=>
          cases hi;obtain⟨z29,hz29,rfl⟩:=hdep 29 _ _ rfl rfl rfl;obtain⟨z33,hz33,rfl⟩:=hdep 33 _ _ rfl rfl rfl;exact g_run (qac rfl (qad rfl hz29)) (qaw (X:=⟨b,off+(k-1)*3,none⟩) (Y:=⟨b,off+(k-1)*3,none⟩) 57 _ 0 rfl (qaa hz33) (fun _=>by kernel_rfl) ⟨_,rfl,Below.refl _ _,rfl⟩)
         |35,hi=>
          cases hi;obtain⟨z29,hz29,rfl⟩:=hdep 29 _ _ rfl rfl rfl;obtain⟨z34,hz34,rfl⟩:=hdep 34 _ _ rfl rfl rfl;exact g_run (qac rfl (qad rfl hz29)) (zg_ld 9 _ rfl (qaa hz34) (by kernel_rfl) ((hbu.cell (World.block_lt_of_cell? _ _ hpk)).trans hpk) ⟨_,rfl,Below.refl _ _,rfl⟩)
         |36,hi=>
          cases hi;obtain⟨z29,hz29,rfl⟩:=hdep 29 _ _ rfl rfl rfl;exact g_run (qac rfl (qad rfl hz29)) (qai _ rfl (qaa ((hk.at 0 rfl).trans rfl)) ⟨_,rfl,Below.refl _ _,rfl⟩)
         |37,hi=>
          cases hi;obtain⟨z29,hz29,rfl⟩:=hdep 29 _ _ rfl rfl rfl;exact g_run (qac rfl (qad rfl hz29)) (qai _ rfl (qaa ((hk.at 3 rfl).trans rfl)) ⟨_,rfl,Below.refl _ _,rfl⟩)
         |38,hi=>
          cases hi;obtain⟨z29,hz29,rfl⟩:=hdep 29 _ _ rfl rfl rfl;obtain⟨z36,hz36,rfl⟩:=hdep 36 _ _ rfl rfl rfl;obtain⟨z37,hz37,rfl⟩:=hdep 37 _ _ rfl rfl rfl;exact g_run (qac rfl (qad rfl hz29)) (zg_ix (X:=⟨b,off,none⟩) (Y:=⟨b,off+k*3,none⟩) 25 _ _ rfl (qaa hz36) (qaa hz37) (fun _=>ix_kt b off n cap k hlt _) ⟨_,rfl,Below.refl _ _,rfl⟩)
         |39,hi=>
          cases hi;obtain⟨z29,hz29,rfl⟩:=hdep 29 _ _ rfl rfl rfl;obtain⟨z38,hz38,rfl⟩:=hdep 38 _ _ rfl rfl rfl;exact g_run (qac rfl (qad rfl hz29)) (qaw (X:=⟨b,off+k*3,none⟩) (Y:=⟨b,off+k*3,none⟩) 57 _ 0 rfl (qaa hz38) (fun _=>by kernel_rfl) ⟨_,rfl,Below.refl _ _,rfl⟩)
         |40,hi=>
          cases hi;obtain⟨z29,hz29,rfl⟩:=hdep 29 _ _ rfl rfl rfl;obtain⟨z39,hz39,rfl⟩:=hdep 39 _ _ rfl rfl rfl;exact g_run (qac rfl (qad rfl hz29)) (zg_ld 9 _ rfl (qaa hz39) (by kernel_rfl) ((hbu.cell (World.block_lt_of_cell? _ _ hck)).trans hck) ⟨_,rfl,Below.refl _ _,rfl⟩)
         |41,hi=>
          cases hi;obtain⟨z29,hz29,rfl⟩:=hdep 29 _ _ rfl rfl rfl;obtain⟨z35,hz35,rfl⟩:=hdep 35 _ _ rfl rfl rfl;obtain⟨z40,hz40,rfl⟩:=hdep 40 _ _ rfl rfl rfl;exact g_run (qac rfl (qad rfl hz29)) (qcf _ _ _ _ _ rfl (qaa hz35) (qaa hz40) (ges_t _ _ _ _ _ hls) ⟨_,rfl,Below.refl _ _,rfl⟩)
         |42,hi=>
          cases hi;obtain⟨z26,hz26,rfl⟩:=hdep 26 _ _ rfl rfl rfl;obtain⟨z29,hz29,rfl⟩:=hdep 29 _ _ rfl rfl rfl;obtain⟨z41,hz41,rfl⟩:=hdep 41 _ _ rfl rfl rfl;exact g_run (qac rfl (qad rfl hz26)) (qbq _ _ _ rfl (qaa hz29) (qaa hz41) ⟨_,rfl,Below.refl _ _,rfl⟩)
         |43,hi=>
          cases hi;obtain⟨z26,hz26,rfl⟩:=hdep 26 _ _ rfl rfl rfl;obtain⟨z42,hz42,rfl⟩:=hdep 42 _ _ rfl rfl rfl;exact g_run (qab rfl _) (qbb _ _ _ rfl (qaa hz26) (qaa hz42) ⟨_,rfl,Below.refl _ _,rfl⟩)
         |(_+44),hi=>cases hi
        intro vs y3 b3 hG a3 h3;have g9:vs 43=.bool true:=hG 43 (by decide);clear hG;replace h3:puts _ 1 _ Fk57=a3:=h3;replace h3:puts _ 2 _ Fk57=a3:=h3;replace h3:puts _ 3 _ Fk57=a3:=h3;replace h3:puts _ 4 _ Fk57=a3:=h3;replace h3:puts _ 5 _ Fk57=a3:=h3;replace h3:puts _ 6 _ Fk57=a3:=h3;replace h3:puts _ 7 _ Fk57=a3:=h3;replace h3:puts _ 8 _ Fk57=a3:=h3;replace h3:puts _ 9 _ Fk57=a3:=h3;replace h3:puts _ 10 _ Fk57=a3:=h3;replace h3:puts _ 11 _ Fk57=a3:=h3;replace h3:puts _ 12 _ Fk57=a3:=h3;replace h3:puts _ 13 _ Fk57=a3:=h3;replace h3:puts _ 14 _ Fk57=a3:=h3;replace h3:puts _ 15 _ Fk57=a3:=h3;replace h3:puts _ 16 _ Fk57=a3:=h3;replace h3:puts _ 17 _ Fk57=a3:=h3;replace h3:puts _ 18 _ Fk57=a3:=h3;replace h3:puts _ 19 _ Fk57=a3:=h3;replace h3:puts _ 20 _ Fk57=a3:=h3;replace h3:puts _ 21 _ Fk57=a3:=h3;replace h3:puts _ 22 _ Fk57=a3:=h3;replace h3:puts _ 23 _ Fk57=a3:=h3;replace h3:puts _ 24 _ Fk57=a3:=h3;replace h3:puts _ 25 _ Fk57=a3:=h3;replace h3:puts _ 26 _ Fk57=a3:=h3;replace h3:puts _ 27 _ Fk57=a3:=h3;replace h3:puts _ 28 _ Fk57=a3:=h3;replace h3:puts _ 29 _ Fk57=a3:=h3;replace h3:puts _ 30 _ Fk57=a3:=h3;replace h3:puts _ 31 _ Fk57=a3:=h3;replace h3:puts _ 32 _ Fk57=a3:=h3;replace h3:puts _ 33 _ Fk57=a3:=h3;replace h3:puts _ 34 _ Fk57=a3:=h3;replace h3:puts _ 35 _ Fk57=a3:=h3;replace h3:puts _ 36 _ Fk57=a3:=h3;replace h3:puts _ 37 _ Fk57=a3:=h3;replace h3:puts _ 38 _ Fk57=a3:=h3;replace h3:puts _ 39 _ Fk57=a3:=h3;replace h3:puts _ 40 _ Fk57=a3:=h3
        replace h3:puts _ 41 _ Fk57=a3:=h3;replace h3:puts _ 42 _ Fk57=a3:=h3;replace h3:puts _ 43 _ Fk57=a3:=h3;replace h3:(Act.mk #[_,_,_,_,_,_,_,_,_,_,_,_,_,_,_,_,_,_,_,_,_,_,_,_,_,_,_,_,_,_,_,_,_,_,_,_,_,_,_,_,_,_,_,_,_,_,_,_,_,_,_,_,_,_,_,_,_] [])=a3:=h3;subst h3;simp only[g9];clear g9;clear HTO;go_wp2;go_ret;exact⟨qaf (qdp HL.out hlt (okAt_no4 HKL.out hk1.1 hls)).symm,g_bel hb b3⟩
       ·refine qar (by kernel_rfl) rfl (fun i u x=>match i with
         |0=>u=.slice (some ⟨b,off,none⟩) n cap
         |1=>u=.int .i64 (k:Int)
         |2=>u=.pointer (some ⟨b,off+k*3,none⟩)
         |3=>u=.pointer (some ⟨b,off+k*3,none⟩)
         |4=>u=.string (kf l k).t
         |5=>u=.bool true
         |6=>u=.bool false
         |7=>u=.bool false
         |8=>u=.slice (some ⟨b,off,none⟩) n cap
         |9=>u=.int .i64 (k:Int)
         |10=>u=.pointer (some ⟨b,off+k*3,none⟩)
         |11=>u=.pointer (some ⟨b,off+k*3+1,none⟩)
         |12=>u=.slice (kf l k).a (kf l k).n (kf l k).c
         |13=>u=.int .i64 ((kf l k).n:Int)
         |14=>u=.bool true
         |15=>u=.bool false
         |16=>u=.bool false
         |17=>u=.bool false
         |18=>u=.slice (some ⟨b,off,none⟩) n cap
         |19=>u=.int .i64 (k:Int)
         |20=>u=.pointer (some ⟨b,off+k*3,none⟩)
         |21=>u=.pointer (some ⟨b,off+k*3+2,none⟩)
         |22=>u=.int .i64 (kf l k).q
         |23=>u=.bool true
         |24=>u=.bool false
         |25=>u=.bool false
         |26=>u=.bool false
         |27=>u=.int .i64 (k:Int)
         |28=>u=.bool true
         |29=>u=.bool true
         |30=>u=.slice (some ⟨b,off,none⟩) n cap
         |31=>u=.int .i64 (k:Int)
         |32=>u=.int .i64 ((k-1:Nat):Int)
         |33=>u=.pointer (some ⟨b,off+(k-1)*3,none⟩)
         |34=>u=.pointer (some ⟨b,off+(k-1)*3,none⟩)
         |35=>u=.string (kf l (k-1)).t
         |36=>u=.slice (some ⟨b,off,none⟩) n cap
         |37=>u=.int .i64 (k:Int)
         |38=>u=.pointer (some ⟨b,off+k*3,none⟩)
         |39=>u=.pointer (some ⟨b,off+k*3,none⟩)
         |40=>u=.string (kf l k).t
         |41=>u=.bool false
         |42=>u=.bool false
         |43=>u=.bool false
         |_=>True) ?_ ?_ ?_
        ·intro i u x x' hx h
         match i,h with
         |0,h=>exact h
         |1,h=>exact h
         |2,h=>exact h
         |3,h=>exact h
         |4,h=>exact h
         |5,h=>exact h
         |6,h=>exact h
         |7,h=>exact h
         |8,h=>exact h
         |9,h=>exact h
         |10,h=>exact h
         |11,h=>exact h
         |12,h=>exact h
         |13,h=>exact h
         |14,h=>exact h
         |15,h=>exact h
         |16,h=>exact h
         |17,h=>exact h
         |18,h=>exact h
         |19,h=>exact h
         |20,h=>exact h
         |21,h=>exact h
         |22,h=>exact h
         |23,h=>exact h
         |24,h=>exact h
         |25,h=>exact h
         |26,h=>exact h
         |27,h=>exact h
         |28,h=>exact h
         |29,h=>exact h
         |30,h=>exact h
         |31,h=>exact h
         |32,h=>exact h
         |33,h=>exact h
         |34,h=>exact h
         |35,h=>exact h
         |36,h=>exact h
         |37,h=>exact h
         |38,h=>exact h
         |39,h=>exact h
         |40,h=>exact h
         |41,h=>exact h
         |42,h=>exact h
         |43,h=>exact h
         |(_+44),h=>trivial
        ·intro i o a u hi hk hbu hdep
         match i,hi with
         |0,hi=>
          cases hi;exact g_run (qab rfl _) (qai _ rfl (qaa ((hk.at 0 rfl).trans rfl)) ⟨_,rfl,Below.refl _ _,rfl⟩)
         |1,hi=>
          cases hi;exact g_run (qab rfl _) (qai _ rfl (qaa ((hk.at 3 rfl).trans rfl)) ⟨_,rfl,Below.refl _ _,rfl⟩)
         |2,hi=>
          cases hi;obtain⟨z0,hz0,rfl⟩:=hdep 0 _ _ rfl rfl rfl;obtain⟨z1,hz1,rfl⟩:=hdep 1 _ _ rfl rfl rfl;exact g_run (qab rfl _) (zg_ix (X:=⟨b,off,none⟩) (Y:=⟨b,off+k*3,none⟩) 25 _ _ rfl (qaa hz0) (qaa hz1) (fun _=>ix_kt b off n cap k hlt _) ⟨_,rfl,Below.refl _ _,rfl⟩)
         |3,hi=>
          cases hi;obtain⟨z2,hz2,rfl⟩:=hdep 2 _ _ rfl rfl rfl;exact g_run (qab rfl _) (qaw (X:=⟨b,off+k*3,none⟩) (Y:=⟨b,off+k*3,none⟩) 57 _ 0 rfl (qaa hz2) (fun _=>by kernel_rfl) ⟨_,rfl,Below.refl _ _,rfl⟩)
         |4,hi=>
          cases hi;obtain⟨z3,hz3,rfl⟩:=hdep 3 _ _ rfl rfl rfl;exact g_run (qab rfl _) (zg_ld 9 _ rfl (qaa hz3) (by kernel_rfl) ((hbu.cell (World.block_lt_of_cell? _ _ hck)).trans hck) ⟨_,rfl,Below.refl _ _,rfl⟩)
         |5,hi=>
          cases hi;obtain⟨z4,hz4,rfl⟩:=hdep 4 _ _ rfl rfl rfl;refine g_run (qab rfl _) (qak (qav _ _ _ _ _ _ (fun _ _=>by kernel_rfl) (qaa hz4) (fun _=>rfl) _ _ _ _ _ _) ?_);refine (HTO.out u hbu).mono ?_;rintro e u' ⟨rfl,hb'⟩;exact⟨_,rfl,_,rfl,hb',rfl⟩
         |6,hi=>
          cases hi;obtain⟨z5,hz5,rfl⟩:=hdep 5 _ _ rfl rfl rfl;exact g_run (qab rfl _) (qbo _ _ rfl (qaa hz5) ⟨_,rfl,Below.refl _ _,rfl⟩)
         |7,hi=>
          cases hi;obtain⟨z6,hz6,rfl⟩:=hdep 6 _ _ rfl rfl rfl;exact g_run (qab rfl _) (qai _ rfl (qaa hz6) ⟨_,rfl,Below.refl _ _,rfl⟩)
         |8,hi=>
          cases hi;obtain⟨z7,hz7,rfl⟩:=hdep 7 _ _ rfl rfl rfl;exact g_run (qac rfl (qad rfl hz7)) (qai _ rfl (qaa ((hk.at 0 rfl).trans rfl)) ⟨_,rfl,Below.refl _ _,rfl⟩)
         |9,hi=>
          cases hi;obtain⟨z7,hz7,rfl⟩:=hdep 7 _ _ rfl rfl rfl;exact g_run (qac rfl (qad rfl hz7)) (qai _ rfl (qaa ((hk.at 3 rfl).trans rfl)) ⟨_,rfl,Below.refl _ _,rfl⟩)
         |10,hi=>
          cases hi;obtain⟨z7,hz7,rfl⟩:=hdep 7 _ _ rfl rfl rfl;obtain⟨z8,hz8,rfl⟩:=hdep 8 _ _ rfl rfl rfl;obtain⟨z9,hz9,rfl⟩:=hdep 9 _ _ rfl rfl rfl;exact g_run (qac rfl (qad rfl hz7)) (zg_ix (X:=⟨b,off,none⟩) (Y:=⟨b,off+k*3,none⟩) 25 _ _ rfl (qaa hz8) (qaa hz9) (fun _=>ix_kt b off n cap k hlt _) ⟨_,rfl,Below.refl _ _,rfl⟩)
         |11,hi=>
          cases hi;obtain⟨z7,hz7,rfl⟩:=hdep 7 _ _ rfl rfl rfl;obtain⟨z10,hz10,rfl⟩:=hdep 10 _ _ rfl rfl rfl;exact g_run (qac rfl (qad rfl hz7)) (qaw (X:=⟨b,off+k*3,none⟩) (Y:=⟨b,off+k*3+1,none⟩) 57 _ 1 rfl (qaa hz10) (fun _=>by kernel_rfl) ⟨_,rfl,Below.refl _ _,rfl⟩)
         |12,hi=>
          cases hi;obtain⟨z7,hz7,rfl⟩:=hdep 7 _ _ rfl rfl rfl;obtain⟨z11,hz11,rfl⟩:=hdep 11 _ _ rfl rfl rfl;exact g_run (qac rfl (qad rfl hz7)) (zg_ld 29 _ rfl (qaa hz11) (by kernel_rfl) ((hbu.cell (World.block_lt_of_cell? _ _ hdk)).trans hdk) ⟨_,rfl,Below.refl _ _,rfl⟩)
         |13,hi=>
          cases hi;obtain⟨z7,hz7,rfl⟩:=hdep 7 _ _ rfl rfl rfl;obtain⟨z12,hz12,rfl⟩:=hdep 12 _ _ rfl rfl rfl;exact g_run (qac rfl (qad rfl hz7)) (qgs _ rfl (Tryd.underlying29) (qaa hz12) ⟨_,rfl,Below.refl _ _,rfl⟩)
         |14,hi=>
          cases hi;obtain⟨z7,hz7,rfl⟩:=hdep 7 _ _ rfl rfl rfl;obtain⟨z13,hz13,rfl⟩:=hdep 13 _ _ rfl rfl rfl;refine g_run (qac rfl (qad rfl hz7)) (qak (qaq _ _ _ _ _ _ _ _ _ _ (fun _ _=>by kernel_rfl) (qaa hz13) rfl rfl (fun _=>rfl) _ _ _ _ _ _) ?_);refine (HLN.out u).mono ?_;rintro e u' ⟨rfl,hb'⟩;exact⟨_,rfl,_,rfl,hb',rfl⟩
         |15,hi=>
          cases hi;obtain⟨z7,hz7,rfl⟩:=hdep 7 _ _ rfl rfl rfl;obtain⟨z14,hz14,rfl⟩:=hdep 14 _ _ rfl rfl rfl;exact g_run (qac rfl (qad rfl hz7)) (qbo _ _ rfl (qaa hz14) ⟨_,rfl,Below.refl _ _,rfl⟩)
         |16,hi=>
          cases hi;obtain⟨z7,hz7,rfl⟩:=hdep 7 _ _ rfl rfl rfl;obtain⟨z15,hz15,rfl⟩:=hdep 15 _ _ rfl rfl rfl;exact g_run (qab rfl _) (qbb _ _ _ rfl (qaa hz7) (qaa hz15) ⟨_,rfl,Below.refl _ _,rfl⟩)
         |17,hi=>
          cases hi;obtain⟨z16,hz16,rfl⟩:=hdep 16 _ _ rfl rfl rfl;exact g_run (qab rfl _) (qai _ rfl (qaa hz16) ⟨_,rfl,Below.refl _ _,rfl⟩)
         |18,hi=>
          cases hi;obtain⟨z17,hz17,rfl⟩:=hdep 17 _ _ rfl rfl rfl;exact g_run (qac rfl (qad rfl hz17)) (qai _ rfl (qaa ((hk.at 0 rfl).trans rfl)) ⟨_,rfl,Below.refl _ _,rfl⟩)
         |19,hi=>
          cases hi;obtain⟨z17,hz17,rfl⟩:=hdep 17 _ _ rfl rfl rfl;exact g_run (qac rfl (qad rfl hz17)) (qai _ rfl (qaa ((hk.at 3 rfl).trans rfl)) ⟨_,rfl,Below.refl _ _,rfl⟩)
         |20,hi=>
          cases hi;obtain⟨z17,hz17,rfl⟩:=hdep 17 _ _ rfl rfl rfl;obtain⟨z18,hz18,rfl⟩:=hdep 18 _ _ rfl rfl rfl;obtain⟨z19,hz19,rfl⟩:=hdep 19 _ _ rfl rfl rfl;exact g_run (qac rfl (qad rfl hz17)) (zg_ix (X:=⟨b,off,none⟩) (Y:=⟨b,off+k*3,none⟩) 25 _ _ rfl (qaa hz18) (qaa hz19) (fun _=>ix_kt b off n cap k hlt _) ⟨_,rfl,Below.refl _ _,rfl⟩)
         |21,hi=>
          cases hi;obtain⟨z17,hz17,rfl⟩:=hdep 17 _ _ rfl rfl rfl;obtain⟨z20,hz20,rfl⟩:=hdep 20 _ _ rfl rfl rfl;exact g_run (qac rfl (qad rfl hz17)) (qaw (X:=⟨b,off+k*3,none⟩) (Y:=⟨b,off+k*3+2,none⟩) 57 _ 2 rfl (qaa hz20) (fun _=>by kernel_rfl) ⟨_,rfl,Below.refl _ _,rfl⟩)
         |22,hi=>
          cases hi;obtain⟨z17,hz17,rfl⟩:=hdep 17 _ _ rfl rfl rfl;obtain⟨z21,hz21,rfl⟩:=hdep 21 _ _ rfl rfl rfl;exact g_run (qac rfl (qad rfl hz17)) (zg_ld 3 _ rfl (qaa hz21) (by kernel_rfl) ((hbu.cell (World.block_lt_of_cell? _ _ hqk)).trans hqk) ⟨_,rfl,Below.refl _ _,rfl⟩)
         |23,hi=>
          cases hi;obtain⟨z17,hz17,rfl⟩:=hdep 17 _ _ rfl rfl rfl;obtain⟨z22,hz22,rfl⟩:=hdep 22 _ _ rfl rfl rfl;refine g_run (qac rfl (qad rfl hz17)) (qak (qaq _ _ _ _ _ _ _ _ _ _ (fun _ _=>by kernel_rfl) (qaa hz22) rfl rfl (fun _=>rfl) _ _ _ _ _ _) ?_);refine (HQ.out u).mono ?_;rintro e u' ⟨rfl,hb'⟩;exact⟨_,rfl,_,rfl,hb',rfl⟩
         |24,hi=>
          cases hi;obtain⟨z17,hz17,rfl⟩:=hdep 17 _ _ rfl rfl rfl;obtain⟨z23,hz23,rfl⟩:=hdep 23 _ _ rfl rfl rfl;exact g_run (qac rfl (qad rfl hz17)) (qbo _ _ rfl (qaa hz23) ⟨_,rfl,Below.refl _ _,rfl⟩)
         |25,hi=>
          cases hi;obtain⟨z17,hz17,rfl⟩:=hdep 17 _ _ rfl rfl rfl;obtain⟨z24,hz24,rfl⟩:=hdep 24 _ _ rfl rfl rfl;exact g_run (qab rfl _) (qbb _ _ _ rfl (qaa hz17) (qaa hz24) ⟨_,rfl,Below.refl _ _,rfl⟩)
         |26,hi=>
          cases hi;obtain⟨z25,hz25,rfl⟩:=hdep 25 _ _ rfl rfl rfl;exact g_run (qab rfl _) (qai _ rfl (qaa hz25) ⟨_,rfl,Below.refl _ _,rfl⟩)
         |27,hi=>
          cases hi;obtain⟨z26,hz26,rfl⟩:=hdep 26 _ _ rfl rfl rfl;exact g_run (qac rfl (qad rfl hz26)) (qai _ rfl (qaa ((hk.at 3 rfl).trans rfl)) ⟨_,rfl,Below.refl _ _,rfl⟩)
         |28,hi=>
          cases hi;obtain⟨z26,hz26,rfl⟩:=hdep 26 _ _ rfl rfl rfl;obtain⟨z27,hz27,rfl⟩:=hdep 27 _ _ rfl rfl rfl;exact g_run (qac rfl (qad rfl hz26)) (qcf _ _ _ _ _ rfl (qaa hz27) rfl (gti_t _ _ _ _ _ hpos) ⟨_,rfl,Below.refl _ _,rfl⟩)
         |29,hi=>
          cases hi;obtain⟨z26,hz26,rfl⟩:=hdep 26 _ _ rfl rfl rfl;obtain⟨z28,hz28,rfl⟩:=hdep 28 _ _ rfl rfl rfl;exact g_run (qac rfl (qad rfl hz26)) (qai _ rfl (qaa hz28) ⟨_,rfl,Below.refl _ _,rfl⟩)
         |30,hi=>
          cases hi;obtain⟨z29,hz29,rfl⟩:=hdep 29 _ _ rfl rfl rfl;exact g_run (qac rfl (qad rfl hz29)) (qai _ rfl (qaa ((hk.at 0 rfl).trans rfl)) ⟨_,rfl,Below.refl _ _,rfl⟩)
         |31,hi=>
          cases hi;obtain⟨z29,hz29,rfl⟩:=hdep 29 _ _ rfl rfl rfl;exact g_run (qac rfl (qad rfl hz29)) (qai _ rfl (qaa ((hk.at 3 rfl).trans rfl)) ⟨_,rfl,Below.refl _ _,rfl⟩)
         |32,hi=>
          cases hi;obtain⟨z29,hz29,rfl⟩:=hdep 29 _ _ rfl rfl rfl;obtain⟨z31,hz31,rfl⟩:=hdep 31 _ _ rfl rfl rfl;exact g_run (qac rfl (qad rfl hz29)) (qcf _ _ _ _ _ rfl (qaa hz31) rfl (subk _ _ _ k hk1) ⟨_,rfl,Below.refl _ _,rfl⟩)
         |33,hi=>
          cases hi;obtain⟨z29,hz29,rfl⟩:=hdep 29 _ _ rfl rfl rfl;obtain⟨z30,hz30,rfl⟩:=hdep 30 _ _ rfl rfl rfl;obtain⟨z32,hz32,rfl⟩:=hdep 32 _ _ rfl rfl rfl;exact g_run (qac rfl (qad rfl hz29)) (zg_ix (X:=⟨b,off,none⟩) (Y:=⟨b,off+(k-1)*3,none⟩) 25 _ _ rfl (qaa hz30) (qaa hz32) (fun _=>ix_kt b off n cap (k-1) hlt1 _) ⟨_,rfl,Below.refl _ _,rfl⟩)
         |34,hi=>
          cases hi;obtain⟨z29,hz29,rfl⟩:=hdep 29 _ _ rfl rfl rfl;obtain⟨z33,hz33,rfl⟩:=hdep 33 _ _ rfl rfl rfl;exact g_run (qac rfl (qad rfl hz29)) (qaw (X:=⟨b,off+(k-1)*3,none⟩) (Y:=⟨b,off+(k-1)*3,none⟩) 57 _ 0 rfl (qaa hz33) (fun _=>by kernel_rfl) ⟨_,rfl,Below.refl _ _,rfl⟩)
         |35,hi=>
          cases hi;obtain⟨z29,hz29,rfl⟩:=hdep 29 _ _ rfl rfl rfl;obtain⟨z34,hz34,rfl⟩:=hdep 34 _ _ rfl rfl rfl;exact g_run (qac rfl (qad rfl hz29)) (zg_ld 9 _ rfl (qaa hz34) (by kernel_rfl) ((hbu.cell (World.block_lt_of_cell? _ _ hpk)).trans hpk) ⟨_,rfl,Below.refl _ _,rfl⟩)
         |36,hi=>
          cases hi;obtain⟨z29,hz29,rfl⟩:=hdep 29 _ _ rfl rfl rfl;exact g_run (qac rfl (qad rfl hz29)) (qai _ rfl (qaa ((hk.at 0 rfl).trans rfl)) ⟨_,rfl,Below.refl _ _,rfl⟩)
         |37,hi=>
          cases hi;obtain⟨z29,hz29,rfl⟩:=hdep 29 _ _ rfl rfl rfl;exact g_run (qac rfl (qad rfl hz29)) (qai _ rfl (qaa ((hk.at 3 rfl).trans rfl)) ⟨_,rfl,Below.refl _ _,rfl⟩)
         |38,hi=>
          cases hi;obtain⟨z29,hz29,rfl⟩:=hdep 29 _ _ rfl rfl rfl;obtain⟨z36,hz36,rfl⟩:=hdep 36 _ _ rfl rfl rfl;obtain⟨z37,hz37,rfl⟩:=hdep 37 _ _ rfl rfl rfl;exact g_run (qac rfl (qad rfl hz29)) (zg_ix (X:=⟨b,off,none⟩) (Y:=⟨b,off+k*3,none⟩) 25 _ _ rfl (qaa hz36) (qaa hz37) (fun _=>ix_kt b off n cap k hlt _) ⟨_,rfl,Below.refl _ _,rfl⟩)
         |39,hi=>
          cases hi;obtain⟨z29,hz29,rfl⟩:=hdep 29 _ _ rfl rfl rfl;obtain⟨z38,hz38,rfl⟩:=hdep 38 _ _ rfl rfl rfl;exact g_run (qac rfl (qad rfl hz29)) (qaw (X:=⟨b,off+k*3,none⟩) (Y:=⟨b,off+k*3,none⟩) 57 _ 0 rfl (qaa hz38) (fun _=>by kernel_rfl) ⟨_,rfl,Below.refl _ _,rfl⟩)
         |40,hi=>
          cases hi;obtain⟨z29,hz29,rfl⟩:=hdep 29 _ _ rfl rfl rfl;obtain⟨z39,hz39,rfl⟩:=hdep 39 _ _ rfl rfl rfl;exact g_run (qac rfl (qad rfl hz29)) (zg_ld 9 _ rfl (qaa hz39) (by kernel_rfl) ((hbu.cell (World.block_lt_of_cell? _ _ hck)).trans hck) ⟨_,rfl,Below.refl _ _,rfl⟩)
         |41,hi=>
          cases hi;obtain⟨z29,hz29,rfl⟩:=hdep 29 _ _ rfl rfl rfl;obtain⟨z35,hz35,rfl⟩:=hdep 35 _ _ rfl rfl rfl;obtain⟨z40,hz40,rfl⟩:=hdep 40 _ _ rfl rfl rfl;exact g_run (qac rfl (qad rfl hz29)) (qcf _ _ _ _ _ rfl (qaa hz35) (qaa hz40) (ges_f _ _ _ _ _ hls) ⟨_,rfl,Below.refl _ _,rfl⟩)
         |42,hi=>
          cases hi;obtain⟨z26,hz26,rfl⟩:=hdep 26 _ _ rfl rfl rfl;obtain⟨z29,hz29,rfl⟩:=hdep 29 _ _ rfl rfl rfl;obtain⟨z41,hz41,rfl⟩:=hdep 41 _ _ rfl rfl rfl;exact g_run (qac rfl (qad rfl hz26)) (qbq _ _ _ rfl (qaa hz29) (qaa hz41) ⟨_,rfl,Below.refl _ _,rfl⟩)
         |43,hi=>
          cases hi;obtain⟨z26,hz26,rfl⟩:=hdep 26 _ _ rfl rfl rfl;obtain⟨z42,hz42,rfl⟩:=hdep 42 _ _ rfl rfl rfl;exact g_run (qab rfl _) (qbb _ _ _ rfl (qaa hz26) (qaa hz42) ⟨_,rfl,Below.refl _ _,rfl⟩)
         |(_+44),hi=>cases hi
        intro vs y3 b3 hG a3 h3;have g9:vs 43=.bool false:=hG 43 (by decide);clear hG;replace h3:puts _ 1 _ Fk57=a3:=h3;replace h3:puts _ 2 _ Fk57=a3:=h3;replace h3:puts _ 3 _ Fk57=a3:=h3;replace h3:puts _ 4 _ Fk57=a3:=h3;replace h3:puts _ 5 _ Fk57=a3:=h3;replace h3:puts _ 6 _ Fk57=a3:=h3;replace h3:puts _ 7 _ Fk57=a3:=h3;replace h3:puts _ 8 _ Fk57=a3:=h3;replace h3:puts _ 9 _ Fk57=a3:=h3;replace h3:puts _ 10 _ Fk57=a3:=h3;replace h3:puts _ 11 _ Fk57=a3:=h3;replace h3:puts _ 12 _ Fk57=a3:=h3;replace h3:puts _ 13 _ Fk57=a3:=h3;replace h3:puts _ 14 _ Fk57=a3:=h3;replace h3:puts _ 15 _ Fk57=a3:=h3;replace h3:puts _ 16 _ Fk57=a3:=h3;replace h3:puts _ 17 _ Fk57=a3:=h3;replace h3:puts _ 18 _ Fk57=a3:=h3;replace h3:puts _ 19 _ Fk57=a3:=h3;replace h3:puts _ 20 _ Fk57=a3:=h3;replace h3:puts _ 21 _ Fk57=a3:=h3;replace h3:puts _ 22 _ Fk57=a3:=h3;replace h3:puts _ 23 _ Fk57=a3:=h3;replace h3:puts _ 24 _ Fk57=a3:=h3;replace h3:puts _ 25 _ Fk57=a3:=h3;replace h3:puts _ 26 _ Fk57=a3:=h3;replace h3:puts _ 27 _ Fk57=a3:=h3;replace h3:puts _ 28 _ Fk57=a3:=h3;replace h3:puts _ 29 _ Fk57=a3:=h3;replace h3:puts _ 30 _ Fk57=a3:=h3;replace h3:puts _ 31 _ Fk57=a3:=h3;replace h3:puts _ 32 _ Fk57=a3:=h3;replace h3:puts _ 33 _ Fk57=a3:=h3;replace h3:puts _ 34 _ Fk57=a3:=h3;replace h3:puts _ 35 _ Fk57=a3:=h3;replace h3:puts _ 36 _ Fk57=a3:=h3;replace h3:puts _ 37 _ Fk57=a3:=h3;replace h3:puts _ 38 _ Fk57=a3:=h3;replace h3:puts _ 39 _ Fk57=a3:=h3;replace h3:puts _ 40 _ Fk57=a3:=h3
        replace h3:puts _ 41 _ Fk57=a3:=h3;replace h3:puts _ 42 _ Fk57=a3:=h3;replace h3:puts _ 43 _ Fk57=a3:=h3;replace h3:(Act.mk #[_,_,_,_,_,_,_,_,_,_,_,_,_,_,_,_,_,_,_,_,_,_,_,_,_,_,_,_,_,_,_,_,_,_,_,_,_,_,_,_,_,_,_,_,_,_,_,_,_,_,_,_,_,_,_,_,_] [])=a3:=h3;subst h3;simp only[g9];clear g9;clear HTO;go_wp2;go_roundw
        case rel=>exact⟨k+1,by go_num,by omega,qex hT.out (okAt_yes HKL.out hto (by rw[HDN.out];exact hln) hqq (.inr hls)),g_bel hb b3⟩
        case measure=>simp[intOf]<;>omega
      ·have hk0:k=0:=by omega
       refine qar (by kernel_rfl) rfl (fun i u x=>match i with
        |0=>u=.slice (some ⟨b,off,none⟩) n cap
        |1=>u=.int .i64 (k:Int)
        |2=>u=.pointer (some ⟨b,off+k*3,none⟩)
        |3=>u=.pointer (some ⟨b,off+k*3,none⟩)
        |4=>u=.string (kf l k).t
        |5=>u=.bool true
        |6=>u=.bool false
        |7=>u=.bool false
        |8=>u=.slice (some ⟨b,off,none⟩) n cap
        |9=>u=.int .i64 (k:Int)
        |10=>u=.pointer (some ⟨b,off+k*3,none⟩)
        |11=>u=.pointer (some ⟨b,off+k*3+1,none⟩)
        |12=>u=.slice (kf l k).a (kf l k).n (kf l k).c
        |13=>u=.int .i64 ((kf l k).n:Int)
        |14=>u=.bool true
        |15=>u=.bool false
        |16=>u=.bool false
        |17=>u=.bool false
        |18=>u=.slice (some ⟨b,off,none⟩) n cap
        |19=>u=.int .i64 (k:Int)
        |20=>u=.pointer (some ⟨b,off+k*3,none⟩)
        |21=>u=.pointer (some ⟨b,off+k*3+2,none⟩)
        |22=>u=.int .i64 (kf l k).q
        |23=>u=.bool true
        |24=>u=.bool false
        |25=>u=.bool false
        |26=>u=.bool false
        |27=>u=.int .i64 (k:Int)
        |28=>u=.bool false
        |29=>u=.bool false
        |30=>u=undef
        |31=>u=undef
        |32=>u=undef
        |33=>u=undef
        |34=>u=undef
        |35=>u=undef
        |36=>u=undef
        |37=>u=undef
        |38=>u=undef
        |39=>u=undef
        |40=>u=undef
        |41=>u=undef
        |42=>u=.bool false
        |43=>u=.bool false
        |_=>True) ?_ ?_ ?_
       ·intro i u x x' hx h
        match i,h with
        |0,h=>exact h
        |1,h=>exact h
        |2,h=>exact h
        |3,h=>exact h
        |4,h=>exact h
        |5,h=>exact h
        |6,h=>exact h
        |7,h=>exact h
        |8,h=>exact h
        |9,h=>exact h
        |10,h=>exact h
        |11,h=>exact h
        |12,h=>exact h
        |13,h=>exact h
        |14,h=>exact h
        |15,h=>exact h
        |16,h=>exact h
        |17,h=>exact h
        |18,h=>exact h
        |19,h=>exact h
        |20,h=>exact h
        |21,h=>exact h
        |22,h=>exact h
        |23,h=>exact h
        |24,h=>exact h
        |25,h=>exact h
        |26,h=>exact h
        |27,h=>exact h
        |28,h=>exact h
        |29,h=>exact h
        |30,h=>exact h
        |31,h=>exact h
        |32,h=>exact h
        |33,h=>exact h
        |34,h=>exact h
        |35,h=>exact h
        |36,h=>exact h
        |37,h=>exact h
        |38,h=>exact h
        |39,h=>exact h
        |40,h=>exact h
        |41,h=>exact h
        |42,h=>exact h
        |43,h=>exact h
        |(_+44),h=>trivial
       ·intro i o a u hi hk hbu hdep
        match i,hi with
        |0,hi=>
         cases hi;exact g_run (qab rfl _) (qai _ rfl (qaa ((hk.at 0 rfl).trans rfl)) ⟨_,rfl,Below.refl _ _,rfl⟩)
        |1,hi=>
         cases hi;exact g_run (qab rfl _) (qai _ rfl (qaa ((hk.at 3 rfl).trans rfl)) ⟨_,rfl,Below.refl _ _,rfl⟩)
        |2,hi=>
         cases hi;obtain⟨z0,hz0,rfl⟩:=hdep 0 _ _ rfl rfl rfl;obtain⟨z1,hz1,rfl⟩:=hdep 1 _ _ rfl rfl rfl;exact g_run (qab rfl _) (zg_ix (X:=⟨b,off,none⟩) (Y:=⟨b,off+k*3,none⟩) 25 _ _ rfl (qaa hz0) (qaa hz1) (fun _=>ix_kt b off n cap k hlt _) ⟨_,rfl,Below.refl _ _,rfl⟩)
        |3,hi=>
         cases hi;obtain⟨z2,hz2,rfl⟩:=hdep 2 _ _ rfl rfl rfl;exact g_run (qab rfl _) (qaw (X:=⟨b,off+k*3,none⟩) (Y:=⟨b,off+k*3,none⟩) 57 _ 0 rfl (qaa hz2) (fun _=>by kernel_rfl) ⟨_,rfl,Below.refl _ _,rfl⟩)
        |4,hi=>
         cases hi;obtain⟨z3,hz3,rfl⟩:=hdep 3 _ _ rfl rfl rfl;exact g_run (qab rfl _) (zg_ld 9 _ rfl (qaa hz3) (by kernel_rfl) ((hbu.cell (World.block_lt_of_cell? _ _ hck)).trans hck) ⟨_,rfl,Below.refl _ _,rfl⟩)
        |5,hi=>
         cases hi;obtain⟨z4,hz4,rfl⟩:=hdep 4 _ _ rfl rfl rfl;refine g_run (qab rfl _) (qak (qav _ _ _ _ _ _ (fun _ _=>by kernel_rfl) (qaa hz4) (fun _=>rfl) _ _ _ _ _ _) ?_);refine (HTO.out u hbu).mono ?_;rintro e u' ⟨rfl,hb'⟩;exact⟨_,rfl,_,rfl,hb',rfl⟩
        |6,hi=>
         cases hi;obtain⟨z5,hz5,rfl⟩:=hdep 5 _ _ rfl rfl rfl;exact g_run (qab rfl _) (qbo _ _ rfl (qaa hz5) ⟨_,rfl,Below.refl _ _,rfl⟩)
        |7,hi=>
         cases hi;obtain⟨z6,hz6,rfl⟩:=hdep 6 _ _ rfl rfl rfl;exact g_run (qab rfl _) (qai _ rfl (qaa hz6) ⟨_,rfl,Below.refl _ _,rfl⟩)
        |8,hi=>
         cases hi;obtain⟨z7,hz7,rfl⟩:=hdep 7 _ _ rfl rfl rfl;exact g_run (qac rfl (qad rfl hz7)) (qai _ rfl (qaa ((hk.at 0 rfl).trans rfl)) ⟨_,rfl,Below.refl _ _,rfl⟩)
        |9,hi=>
         cases hi;obtain⟨z7,hz7,rfl⟩:=hdep 7 _ _ rfl rfl rfl;exact g_run (qac rfl (qad rfl hz7)) (qai _ rfl (qaa ((hk.at 3 rfl).trans rfl)) ⟨_,rfl,Below.refl _ _,rfl⟩)
        |10,hi=>
         cases hi;obtain⟨z7,hz7,rfl⟩:=hdep 7 _ _ rfl rfl rfl;obtain⟨z8,hz8,rfl⟩:=hdep 8 _ _ rfl rfl rfl;obtain⟨z9,hz9,rfl⟩:=hdep 9 _ _ rfl rfl rfl;exact g_run (qac rfl (qad rfl hz7)) (zg_ix (X:=⟨b,off,none⟩) (Y:=⟨b,off+k*3,none⟩) 25 _ _ rfl (qaa hz8) (qaa hz9) (fun _=>ix_kt b off n cap k hlt _) ⟨_,rfl,Below.refl _ _,rfl⟩)
        |11,hi=>
         cases hi;obtain⟨z7,hz7,rfl⟩:=hdep 7 _ _ rfl rfl rfl;obtain⟨z10,hz10,rfl⟩:=hdep 10 _ _ rfl rfl rfl;exact g_run (qac rfl (qad rfl hz7)) (qaw (X:=⟨b,off+k*3,none⟩) (Y:=⟨b,off+k*3+1,none⟩) 57 _ 1 rfl (qaa hz10) (fun _=>by kernel_rfl) ⟨_,rfl,Below.refl _ _,rfl⟩)
        |12,hi=>
         cases hi;obtain⟨z7,hz7,rfl⟩:=hdep 7 _ _ rfl rfl rfl;obtain⟨z11,hz11,rfl⟩:=hdep 11 _ _ rfl rfl rfl;exact g_run (qac rfl (qad rfl hz7)) (zg_ld 29 _ rfl (qaa hz11) (by kernel_rfl) ((hbu.cell (World.block_lt_of_cell? _ _ hdk)).trans hdk) ⟨_,rfl,Below.refl _ _,rfl⟩)
        |13,hi=>
         cases hi;obtain⟨z7,hz7,rfl⟩:=hdep 7 _ _ rfl rfl rfl;obtain⟨z12,hz12,rfl⟩:=hdep 12 _ _ rfl rfl rfl;exact g_run (qac rfl (qad rfl hz7)) (qgs _ rfl (Tryd.underlying29) (qaa hz12) ⟨_,rfl,Below.refl _ _,rfl⟩)
        |14,hi=>
         cases hi;obtain⟨z7,hz7,rfl⟩:=hdep 7 _ _ rfl rfl rfl;obtain⟨z13,hz13,rfl⟩:=hdep 13 _ _ rfl rfl rfl;refine g_run (qac rfl (qad rfl hz7)) (qak (qaq _ _ _ _ _ _ _ _ _ _ (fun _ _=>by kernel_rfl) (qaa hz13) rfl rfl (fun _=>rfl) _ _ _ _ _ _) ?_);refine (HLN.out u).mono ?_;rintro e u' ⟨rfl,hb'⟩;exact⟨_,rfl,_,rfl,hb',rfl⟩
        |15,hi=>
         cases hi;obtain⟨z7,hz7,rfl⟩:=hdep 7 _ _ rfl rfl rfl;obtain⟨z14,hz14,rfl⟩:=hdep 14 _ _ rfl rfl rfl;exact g_run (qac rfl (qad rfl hz7)) (qbo _ _ rfl (qaa hz14) ⟨_,rfl,Below.refl _ _,rfl⟩)
        |16,hi=>
         cases hi;obtain⟨z7,hz7,rfl⟩:=hdep 7 _ _ rfl rfl rfl;obtain⟨z15,hz15,rfl⟩:=hdep 15 _ _ rfl rfl rfl;exact g_run (qab rfl _) (qbb _ _ _ rfl (qaa hz7) (qaa hz15) ⟨_,rfl,Below.refl _ _,rfl⟩)
        |17,hi=>
         cases hi;obtain⟨z16,hz16,rfl⟩:=hdep 16 _ _ rfl rfl rfl;exact g_run (qab rfl _) (qai _ rfl (qaa hz16) ⟨_,rfl,Below.refl _ _,rfl⟩)
        |18,hi=>
         cases hi;obtain⟨z17,hz17,rfl⟩:=hdep 17 _ _ rfl rfl rfl;exact g_run (qac rfl (qad rfl hz17)) (qai _ rfl (qaa ((hk.at 0 rfl).trans rfl)) ⟨_,rfl,Below.refl _ _,rfl⟩)
        |19,hi=>
         cases hi;obtain⟨z17,hz17,rfl⟩:=hdep 17 _ _ rfl rfl rfl;exact g_run (qac rfl (qad rfl hz17)) (qai _ rfl (qaa ((hk.at 3 rfl).trans rfl)) ⟨_,rfl,Below.refl _ _,rfl⟩)
        |20,hi=>
         cases hi;obtain⟨z17,hz17,rfl⟩:=hdep 17 _ _ rfl rfl rfl;obtain⟨z18,hz18,rfl⟩:=hdep 18 _ _ rfl rfl rfl;obtain⟨z19,hz19,rfl⟩:=hdep 19 _ _ rfl rfl rfl;exact g_run (qac rfl (qad rfl hz17)) (zg_ix (X:=⟨b,off,none⟩) (Y:=⟨b,off+k*3,none⟩) 25 _ _ rfl (qaa hz18) (qaa hz19) (fun _=>ix_kt b off n cap k hlt _) ⟨_,rfl,Below.refl _ _,rfl⟩)
        |21,hi=>
         cases hi;obtain⟨z17,hz17,rfl⟩:=hdep 17 _ _ rfl rfl rfl;obtain⟨z20,hz20,rfl⟩:=hdep 20 _ _ rfl rfl rfl;exact g_run (qac rfl (qad rfl hz17)) (qaw (X:=⟨b,off+k*3,none⟩) (Y:=⟨b,off+k*3+2,none⟩) 57 _ 2 rfl (qaa hz20) (fun _=>by kernel_rfl) ⟨_,rfl,Below.refl _ _,rfl⟩)
        |22,hi=>
         cases hi;obtain⟨z17,hz17,rfl⟩:=hdep 17 _ _ rfl rfl rfl;obtain⟨z21,hz21,rfl⟩:=hdep 21 _ _ rfl rfl rfl;exact g_run (qac rfl (qad rfl hz17)) (zg_ld 3 _ rfl (qaa hz21) (by kernel_rfl) ((hbu.cell (World.block_lt_of_cell? _ _ hqk)).trans hqk) ⟨_,rfl,Below.refl _ _,rfl⟩)
        |23,hi=>
         cases hi;obtain⟨z17,hz17,rfl⟩:=hdep 17 _ _ rfl rfl rfl;obtain⟨z22,hz22,rfl⟩:=hdep 22 _ _ rfl rfl rfl;refine g_run (qac rfl (qad rfl hz17)) (qak (qaq _ _ _ _ _ _ _ _ _ _ (fun _ _=>by kernel_rfl) (qaa hz22) rfl rfl (fun _=>rfl) _ _ _ _ _ _) ?_);refine (HQ.out u).mono ?_;rintro e u' ⟨rfl,hb'⟩;exact⟨_,rfl,_,rfl,hb',rfl⟩
        |24,hi=>
         cases hi;obtain⟨z17,hz17,rfl⟩:=hdep 17 _ _ rfl rfl rfl;obtain⟨z23,hz23,rfl⟩:=hdep 23 _ _ rfl rfl rfl;exact g_run (qac rfl (qad rfl hz17)) (qbo _ _ rfl (qaa hz23) ⟨_,rfl,Below.refl _ _,rfl⟩)
        |25,hi=>
         cases hi;obtain⟨z17,hz17,rfl⟩:=hdep 17 _ _ rfl rfl rfl;obtain⟨z24,hz24,rfl⟩:=hdep 24 _ _ rfl rfl rfl;exact g_run (qab rfl _) (qbb _ _ _ rfl (qaa hz17) (qaa hz24) ⟨_,rfl,Below.refl _ _,rfl⟩)
        |26,hi=>
         cases hi;obtain⟨z25,hz25,rfl⟩:=hdep 25 _ _ rfl rfl rfl;exact g_run (qab rfl _) (qai _ rfl (qaa hz25) ⟨_,rfl,Below.refl _ _,rfl⟩)
        |27,hi=>
         cases hi;obtain⟨z26,hz26,rfl⟩:=hdep 26 _ _ rfl rfl rfl;exact g_run (qac rfl (qad rfl hz26)) (qai _ rfl (qaa ((hk.at 3 rfl).trans rfl)) ⟨_,rfl,Below.refl _ _,rfl⟩)
        |28,hi=>
         cases hi;obtain⟨z26,hz26,rfl⟩:=hdep 26 _ _ rfl rfl rfl;obtain⟨z27,hz27,rfl⟩:=hdep 27 _ _ rfl rfl rfl;exact g_run (qac rfl (qad rfl hz26)) (qcf _ _ _ _ _ rfl (qaa hz27) rfl (gti_f _ _ _ _ _ hpos) ⟨_,rfl,Below.refl _ _,rfl⟩)
        |29,hi=>
         cases hi;obtain⟨z26,hz26,rfl⟩:=hdep 26 _ _ rfl rfl rfl;obtain⟨z28,hz28,rfl⟩:=hdep 28 _ _ rfl rfl rfl;exact g_run (qac rfl (qad rfl hz26)) (qai _ rfl (qaa hz28) ⟨_,rfl,Below.refl _ _,rfl⟩)
        |30,hi=>
         cases hi;obtain⟨z29,hz29,rfl⟩:=hdep 29 _ _ rfl rfl rfl;exact qaj (qae rfl (qad rfl hz29) (by decide)) rfl
        |31,hi=>
         cases hi;obtain⟨z29,hz29,rfl⟩:=hdep 29 _ _ rfl rfl rfl;exact qaj (qae rfl (qad rfl hz29) (by decide)) rfl
        |32,hi=>
         cases hi;obtain⟨z29,hz29,rfl⟩:=hdep 29 _ _ rfl rfl rfl;exact qaj (qae rfl (qad rfl hz29) (by decide)) rfl
        |33,hi=>
         cases hi;obtain⟨z29,hz29,rfl⟩:=hdep 29 _ _ rfl rfl rfl;exact qaj (qae rfl (qad rfl hz29) (by decide)) rfl
        |34,hi=>
         cases hi;obtain⟨z29,hz29,rfl⟩:=hdep 29 _ _ rfl rfl rfl;exact qaj (qae rfl (qad rfl hz29) (by decide)) rfl
        |35,hi=>
         cases hi;obtain⟨z29,hz29,rfl⟩:=hdep 29 _ _ rfl rfl rfl;exact qaj (qae rfl (qad rfl hz29) (by decide)) rfl
        |36,hi=>
         cases hi;obtain⟨z29,hz29,rfl⟩:=hdep 29 _ _ rfl rfl rfl;exact qaj (qae rfl (qad rfl hz29) (by decide)) rfl
        |37,hi=>
         cases hi;obtain⟨z29,hz29,rfl⟩:=hdep 29 _ _ rfl rfl rfl;exact qaj (qae rfl (qad rfl hz29) (by decide)) rfl
        |38,hi=>
         cases hi;obtain⟨z29,hz29,rfl⟩:=hdep 29 _ _ rfl rfl rfl;exact qaj (qae rfl (qad rfl hz29) (by decide)) rfl
        |39,hi=>
         cases hi;obtain⟨z29,hz29,rfl⟩:=hdep 29 _ _ rfl rfl rfl;exact qaj (qae rfl (qad rfl hz29) (by decide)) rfl
        |40,hi=>
         cases hi;obtain⟨z29,hz29,rfl⟩:=hdep 29 _ _ rfl rfl rfl;exact qaj (qae rfl (qad rfl hz29) (by decide)) rfl
        |41,hi=>
         cases hi;obtain⟨z29,hz29,rfl⟩:=hdep 29 _ _ rfl rfl rfl;exact qaj (qae rfl (qad rfl hz29) (by decide)) rfl
        |42,hi=>
         cases hi;obtain⟨z26,hz26,rfl⟩:=hdep 26 _ _ rfl rfl rfl;obtain⟨z29,hz29,rfl⟩:=hdep 29 _ _ rfl rfl rfl;exact g_run (qac rfl (qad rfl hz26)) (qbb _ _ _ rfl (qaa hz29) rfl ⟨_,rfl,Below.refl _ _,rfl⟩)
        |43,hi=>
         cases hi;obtain⟨z26,hz26,rfl⟩:=hdep 26 _ _ rfl rfl rfl;obtain⟨z42,hz42,rfl⟩:=hdep 42 _ _ rfl rfl rfl;exact g_run (qab rfl _) (qbb _ _ _ rfl (qaa hz26) (qaa hz42) ⟨_,rfl,Below.refl _ _,rfl⟩)
        |(_+44),hi=>cases hi
       intro vs y3 b3 hG a3 h3;have g9:vs 43=.bool false:=hG 43 (by decide);clear hG;replace h3:puts _ 1 _ Fk57=a3:=h3;replace h3:puts _ 2 _ Fk57=a3:=h3;replace h3:puts _ 3 _ Fk57=a3:=h3;replace h3:puts _ 4 _ Fk57=a3:=h3;replace h3:puts _ 5 _ Fk57=a3:=h3;replace h3:puts _ 6 _ Fk57=a3:=h3;replace h3:puts _ 7 _ Fk57=a3:=h3;replace h3:puts _ 8 _ Fk57=a3:=h3;replace h3:puts _ 9 _ Fk57=a3:=h3;replace h3:puts _ 10 _ Fk57=a3:=h3;replace h3:puts _ 11 _ Fk57=a3:=h3;replace h3:puts _ 12 _ Fk57=a3:=h3;replace h3:puts _ 13 _ Fk57=a3:=h3;replace h3:puts _ 14 _ Fk57=a3:=h3;replace h3:puts _ 15 _ Fk57=a3:=h3;replace h3:puts _ 16 _ Fk57=a3:=h3;replace h3:puts _ 17 _ Fk57=a3:=h3;replace h3:puts _ 18 _ Fk57=a3:=h3;replace h3:puts _ 19 _ Fk57=a3:=h3;replace h3:puts _ 20 _ Fk57=a3:=h3;replace h3:puts _ 21 _ Fk57=a3:=h3;replace h3:puts _ 22 _ Fk57=a3:=h3;replace h3:puts _ 23 _ Fk57=a3:=h3;replace h3:puts _ 24 _ Fk57=a3:=h3;replace h3:puts _ 25 _ Fk57=a3:=h3;replace h3:puts _ 26 _ Fk57=a3:=h3;replace h3:puts _ 27 _ Fk57=a3:=h3;replace h3:puts _ 28 _ Fk57=a3:=h3;replace h3:puts _ 29 _ Fk57=a3:=h3;replace h3:puts _ 30 _ Fk57=a3:=h3;replace h3:puts _ 31 _ Fk57=a3:=h3;replace h3:puts _ 32 _ Fk57=a3:=h3;replace h3:puts _ 33 _ Fk57=a3:=h3;replace h3:puts _ 34 _ Fk57=a3:=h3;replace h3:puts _ 35 _ Fk57=a3:=h3;replace h3:puts _ 36 _ Fk57=a3:=h3;replace h3:puts _ 37 _ Fk57=a3:=h3;replace h3:puts _ 38 _ Fk57=a3:=h3;replace h3:puts _ 39 _ Fk57=a3:=h3;replace h3:puts _ 40 _ Fk57=a3:=h3
       replace h3:puts _ 41 _ Fk57=a3:=h3;replace h3:puts _ 42 _ Fk57=a3:=h3;replace h3:puts _ 43 _ Fk57=a3:=h3;replace h3:(Act.mk #[_,_,_,_,_,_,_,_,_,_,_,_,_,_,_,_,_,_,_,_,_,_,_,_,_,_,_,_,_,_,_,_,_,_,_,_,_,_,_,_,_,_,_,_,_,_,_,_,_,_,_,_,_,_,_,_,_] [])=a3:=h3;subst h3;simp only[g9];clear g9;clear HTO;go_wp2;go_roundw
       case rel=>exact⟨k+1,by go_num,by omega,qex hT.out (okAt_yes HKL.out hto (by rw[HDN.out];exact hln) hqq (.inl hk0)),g_bel hb b3⟩
       case measure=>simp[intOf]<;>omega
  ·have hlt':¬(k:Int)<n:=by omega
   obtain rfl:k=n:=by omega
   have e8:keptB (kvs l)=decide (k≤8):=by
    unfold keptB;rw[kvs_length,HL.out,hT.out,Bool.and_true]
   have E8:Hid (keptB (kvs l)=decide (k≤8)):=e8;clear e8
   by_cases h8:k≤8
   ·have h8':(k:Int)≤8:=by omega
    have E9:Hid (keptB (kvs l)=true):=E8.out.trans (decide_eq_true h8);go_wp2;go_ret;exact⟨qaf E9.out.symm,hb⟩
   ·have h8':¬(k:Int)≤8:=by omega
    have E9:Hid (keptB (kvs l)=false):=E8.out.trans (decide_eq_false h8);go_wp2;go_ret;exact⟨qaf E9.out.symm,hb⟩
