/- Lemmas. -/
import Derived.Handy
import Derived.Deep.RegionWith
import Derived.Test.YtpgkbkbhhmfgnaaDoorK03
set_option linter.unusedVariables false
set_option linter.unusedSimpArgs false
set_option maxRecDepth 100000
set_option maxHeartbeats 20000000
namespace Go.Proofs.YtpgkbkbhhmfgnaaDoor
open Go.RowKit

theorem qfh (s:ByteArray) (i:Nat) (h:i<s.size):s.data.toList[i]? = some (s[i]'h):=by
 have e1:s.size=s.data.toList.length:=rfl;rw[List.getElem?_eq_getElem (by omega)];rfl

theorem starts_one (s:ByteArray) (h:0<s.size):qbc s.data.toList [36]=(((s[0]'h).toNat:Int)==36):=by
 have hl:s.data.toList[0]? = some (s[0]'h):=qfh s 0 h;generalize s[0]'h=x at hl;generalize s.data.toList=l at hl
 match l,hl with
 |y :: r,hl=>
  simp at hl;subst hl;simp only[qbc,List.length_cons,List.length_nil,List.take_succ_cons,List.take_zero];rw[decide_eq_true (by omega),Bool.true_and]
  by_cases hx:y=36
  ·subst hx;rfl
  ·have h1:([y]==[36])=false:=by simp[hx]
   have h2:((y.toNat:Int)==36)=false:=by
    simp only[beq_eq_false_iff_ne,ne_eq];intro e;apply hx
    apply UInt8.toNat_inj.1
    simpa using (show y.toNat=36 by omega)
   rw[h1,h2]

theorem qgp (s:ByteArray) (h:¬0<s.size):qbc s.data.toList [36]=false:=by
 have e1:s.size=s.data.toList.length:=rfl;have:s.data.toList = []:=List.eq_nil_of_length_eq_zero (by omega);rw[this];rfl

theorem qhc (s:ByteArray) (w:World) :
  Calls Tryd.prog 69 #[.string s] w fun e w'=>e=.returned (.bool (qbc s.data.toList [36]))∧w'=w:=by
 by_cases h:0<s.size
 ·have h':(0:Int)<(s.size:Int):=by omega
  have H:Hid (qbc s.data.toList [36]=(((s[0]'h).toNat:Int)==36)):=starts_one s h;go_enter Tryd.func69,Tryd.ntmps69;go_wp2;go_ret;exact⟨qaf H.out.symm,rfl⟩
 ·have h':¬(0:Int)<(s.size:Int):=by omega
  have H:Hid (qbc s.data.toList [36]=false):=qgp s h;go_enter Tryd.func69,Tryd.ntmps69;go_wp2;go_ret;exact⟨qaf H.out.symm,rfl⟩

theorem qhb (s:ByteArray) (w:World) :
  Calls Tryd.prog 98 #[.string s] w fun e w'=>e=.returned (.bool (qbc s.data.toList [36]))∧w'=w:=by
 go_enter Tryd.func98,Tryd.ntmps98;go_wp2_with (go_at_call 117;refine (qcr _ _ _).mono ?_;rintro e w' ⟨rfl,rfl⟩)
 go_ret;exact⟨rfl,rfl⟩


def pre (p:List UInt8):List (List UInt8)→List (List UInt8)
 |[]=>[p]
 |h :: t=>(p++h) :: t

def lvl:List UInt8→List (List UInt8)
 |[]=>[[]]
 |c :: r=>if c=47 then [] :: lvl r else pre [c] (lvl r)

theorem pre_nil {ls:List (List UInt8)} (h:ls≠[]):pre [] ls=ls:=by
 cases ls with
 |nil=>exact absurd rfl h
 |cons a t=>rfl
theorem pre_pre (p q:List UInt8) (ls:List (List UInt8)):pre p (pre q ls)=pre (p++q) ls:=by cases ls<;>simp[pre]
theorem pre_ne (p:List UInt8) (ls:List (List UInt8)):pre p ls≠[]:=by cases ls<;>simp[pre]
theorem pre_length (p:List UInt8) {ls:List (List UInt8)} (h:ls≠[]):(pre p ls).length=ls.length:=by
 cases ls with
 |nil=>exact absurd rfl h
 |cons a t=>rfl
theorem lvl_nil:lvl [] = [[]]:=rfl
theorem qbw (r:List UInt8):lvl (47 :: r) = [] :: lvl r:=by simp[lvl]
theorem qbv {c:UInt8} (h:c≠47) (r:List UInt8):lvl (c :: r)=pre [c] (lvl r):=by simp[lvl,h]
theorem qgg:∀l,lvl l≠[]
 |[]=>by simp[lvl]
 |c :: r=>by
  by_cases h:c=47
  ·subst h;rw[qbw];simp
  ·rw[qbv h];exact pre_ne _ _
theorem lvl_cut:∀(a r:List UInt8),(∀c∈a,c≠47)→lvl (a++47 :: r)=a :: lvl r
 |[],r,_=>by rw[List.nil_append,qbw]
 |c :: a,r,h=>by
  rw[List.cons_append,qbv (h c (by simp)),lvl_cut a r (fun x hx=>h x (by simp[hx]))];rfl
theorem qgh:∀(a:List UInt8),(∀c∈a,c≠47)→lvl a = [a]
 |[],_=>rfl
 |c :: a,h=>by
  rw[qbv (h c (by simp)),qgh a (fun x hx=>h x (by simp[hx]))];rfl

def has (l:List UInt8) (c:UInt8):Bool:=l.contains c
theorem qcq (a:UInt8) (l:List UInt8) (c:UInt8):has (a :: l) c=(c==a || has l c):=by unfold has;rw[List.contains_cons]
theorem qew (a l:List UInt8) (c:UInt8):has (a++l) c=(has a c || has l c):=by
 induction a with
 |nil=>simp[has]
 |cons x r ih=>simp[qcq,ih,Bool.or_assoc]
def wildB (l:List UInt8):Bool:=has l 43 || has l 35
def may (x:List UInt8) (last:Bool):Bool:=if x = [43] then true else if x = [35] then last else !wildB x
def qam:List (List UInt8)→Bool
 |[]=>true
 |[x]=>may x true
 |x :: y :: r=>may x false&&qam (y :: r)
def levOk (l:List UInt8):Bool:=decide (l≠[])&&(okT l&&decide ((lvl l).length≤6))
def topOk (l:List UInt8):Bool:=levOk l&&!wildB l
def filOk (l:List UInt8):Bool:=levOk l&&qam (lvl l)
theorem may_spec (x:List UInt8) (last:Bool):may x last = !((has x 43&&decide (x≠[43])) || (has x 35&&(decide (x≠[35]) || !last))):=by
 unfold may wildB
 by_cases h1:x = [43]
 ·subst h1;cases last<;>rfl
 ·rw[if_neg h1]
  by_cases h2:x = [35]
  ·subst h2;cases last<;>rfl
  ·rw[if_neg h2];simp[h1,h2]

theorem qcn (x:List UInt8) (r:List (List UInt8)):qam (x :: r)=(may x r.isEmpty&&qam r):=by
 cases r<;>simp[qam]
theorem qeg (ls:List (List UInt8)) (k:Nat) (hk:k<ls.length):qam (ls.drop k)=(may (ls.getD k []) (decide (k+1=ls.length))&&qam (ls.drop (k+1))):=by
 rw[List.drop_eq_getElem_cons hk,qcn]
 congr 2
 ·simp[List.getD_eq_getElem?_getD,List.getElem?_eq_getElem hk]
 ·rw[Bool.eq_iff_iff];simp only[List.isEmpty_iff,List.drop_eq_nil_iff,decide_eq_true_eq];omega
theorem qey (ls:List (List UInt8)) (k:Nat) (hk:ls.length≤k):qam (ls.drop k)=true:=by
 rw[List.drop_eq_nil_of_le hk];rfl


def fit1 (x y:List UInt8):Bool:=if x = [43] then decide (y≠[35]) else decide (x=y)
def fits:List (List UInt8)→List (List UInt8)→Bool
 |[],g=>g.isEmpty
 |x :: f,g=>if x = [35] then true else match g with
  |[]=>false
  |y :: g=>fit1 x y&&fits f g
theorem fits_nil (g:List (List UInt8)):fits [] g=g.isEmpty:=by cases g<;>rfl
theorem qfz {x:List UInt8} (h:x = [35]) (f g:List (List UInt8)):fits (x :: f) g=true:=by cases g<;>simp[fits,h]
theorem qcz {x:List UInt8} (h:x≠[35]) (f:List (List UInt8)):fits (x :: f) []=false:=by simp[fits,h]
theorem qdy {x:List UInt8} (h:x≠[35]) (f:List (List UInt8)) (y:List UInt8) (g:List (List UInt8)):fits (x :: f) (y :: g)=(fit1 x y&&fits f g):=by simp[fits,h]
def qao (l:List UInt8):Bool:=match l with
 |c :: _=>c==43 || c==35
 |[]=>false
def hidB (l:List UInt8):Bool:=match l with
 |c :: _=>c==36
 |[]=>false
def qbf (f t:List UInt8):Bool:=filOk f&&(topOk t&&(!(qao f&&hidB t)&&fits (lvl f) (lvl t)))
theorem qeb (l:List UInt8):qbc l [36]=hidB l:=by
 cases l with
 |nil=>rfl
 |cons a r=>
  simp only[qbc,hidB,List.length_cons,List.length_nil,List.take_succ_cons,List.take_zero];rw[decide_eq_true (by omega),Bool.true_and]
  by_cases h:a=36
  ·subst h;rfl
  ·have e1:(a==(36:UInt8))=false:=beq_eq_false_iff_ne.2 h;rw[e1];simp[h]

theorem fits_end (f g:List (List UInt8)) (k:Nat) (hk:f.length≤k):fits (f.drop k) (g.drop k)=decide (g.length≤k):=by
 rw[List.drop_eq_nil_of_le hk,fits_nil,Bool.eq_iff_iff];simp
theorem fits_all (f g:List (List UInt8)) (k:Nat) (hk:k<f.length) (h:f.getD k [] = [35]):fits (f.drop k) (g.drop k)=true:=by
 have e:f.drop k = [35] :: f.drop (k+1):=by
  rw[List.drop_eq_getElem_cons hk,←h];simp[List.getD_eq_getElem?_getD,List.getElem?_eq_getElem hk]
 rw[e,qfz rfl]
theorem fits_short (f g:List (List UInt8)) (k:Nat) (hk:k<f.length) (h:f.getD k []≠[35]) (hg:g.length≤k):fits (f.drop k) (g.drop k)=false:=by
 have e:f.drop k=f.getD k [] :: f.drop (k+1):=by
  rw[List.drop_eq_getElem_cons hk];simp[List.getD_eq_getElem?_getD,List.getElem?_eq_getElem hk]
 rw[e,List.drop_eq_nil_of_le hg,qcz h]
theorem fits_step (f g:List (List UInt8)) (k:Nat) (hk:k<f.length) (h:f.getD k []≠[35]) (hg:k<g.length):fits (f.drop k) (g.drop k)=(fit1 (f.getD k []) (g.getD k [])&&fits (f.drop (k+1)) (g.drop (k+1))):=by
 have e:f.drop k=f.getD k [] :: f.drop (k+1):=by
  rw[List.drop_eq_getElem_cons hk];simp[List.getD_eq_getElem?_getD,List.getElem?_eq_getElem hk]
 have e2:g.drop k=g.getD k [] :: g.drop (k+1):=by
  rw[List.drop_eq_getElem_cons hg];simp[List.getD_eq_getElem?_getD,List.getElem?_eq_getElem hg]
 rw[e,e2,qdy h]


structure Pv where
 ty:Int
 dup:Bool
 qos:Int
 ret:Bool
 id:Int
 top:ByteArray
 bod:List UInt8
 cli:ByteArray
 lev:Int
 cln:Bool
 kee:Int
 hw:Bool
 wt:ByteArray
 wb:List UInt8
 wq:Int
 wr:Bool
 hu:Bool
 us:ByteArray
 hp:Bool
 pa:List UInt8
 cod:Int
 pre:Bool
 wan:List (ByteArray×Int)
 nam:List ByteArray
 cds:List Int
 deriving DecidableEq

def Pv.zero:Pv:=⟨0,false,0,false,0,ByteArray.empty,[],ByteArray.empty,0,false,0,false,ByteArray.empty,[],0,false,false,ByteArray.empty,false,[],0,false,[],[],[]⟩
def Pv.named (v:Pv):Pv :=
 if v.ty=1 then { Pv.zero with
  ty:=v.ty,lev:=v.lev,cli:=v.cli,cln:=v.cln,kee:=v.kee,hw:=v.hw
  wt:=if v.hw then v.wt else ByteArray.empty
  wb:=if v.hw then v.wb else []
  wq:=if v.hw then v.wq else 0
  wr:=if v.hw then v.wr else false
  hu:=v.hu
  us:=if v.hu then v.us else ByteArray.empty
  hp:=v.hu&&v.hp
  pa:=if v.hu&&v.hp then v.pa else [] }
 else if v.ty=2 then { Pv.zero with ty:=v.ty,cod:=v.cod,pre:=v.pre&&decide (v.cod=0) }
 else if v.ty=3 then { Pv.zero with ty:=v.ty,qos:=v.qos,ret:=v.ret,top:=v.top,bod:=v.bod,dup:=if 0<v.qos then v.dup else false,id:=if 0<v.qos then v.id else 0 }
 else if v.ty=4∨v.ty=5∨v.ty=6∨v.ty=7∨v.ty=11 then { Pv.zero with ty:=v.ty,id:=v.id }
 else if v.ty=8 then { Pv.zero with ty:=v.ty,id:=v.id,wan:=v.wan }
 else if v.ty=9 then { Pv.zero with ty:=v.ty,id:=v.id,cds:=v.cds }
 else if v.ty=10 then { Pv.zero with ty:=v.ty,id:=v.id,nam:=v.nam }
 else { Pv.zero with ty:=v.ty }
def inB (x lo hi:Int):Bool:=decide (lo≤x∧x≤hi)
def txt (s:ByteArray):Bool:=okT s.data.toList
def tpc (s:ByteArray):Bool:=topOk s.data.toList
def flt (s:ByteArray):Bool:=filOk s.data.toList
def Pv.body (v:Pv):Bool :=
 if v.ty=1 then (!v.hw || (tpc v.wt&&(decide (v.wb.length≤40)&&inB v.wq 0 2)))&&(inB v.lev 0 255&&(txt v.cli&&(inB v.kee 0 65535&&(txt v.us&&decide (v.pa.length≤60)))))
 else if v.ty=2 then inB v.cod 0 5
 else if v.ty=3 then inB v.qos 0 2&&((decide (v.qos=0) || inB v.id 1 65535)&&(tpc v.top&&decide (v.bod.length≤40)))
 else if v.ty=12∨v.ty=13∨v.ty=14 then true
 else if v.ty=8 then v.wan.all (fun x=>flt x.1&&inB x.2 0 2)&&(inB v.id 1 65535&&inB v.wan.length 1 4)
 else if v.ty=9 then v.cds.all (fun c=>inB c 0 2 || decide (c=128))&&(inB v.id 1 65535&&inB v.cds.length 1 4)
 else if v.ty=10 then v.nam.all (fun s=>flt s)&&(inB v.id 1 65535&&inB v.nam.length 1 4)
 else inB v.id 1 65535
def Pv.ok (v:Pv):Bool:=inB v.ty 1 14&&(decide (v=v.named)&&v.body)


theorem bel2 {w w1 w2:World} (h1:Below w.heap.size w w1) (h2:Below w1.heap.size w1 w2):Below w.heap.size w w2:=h1.trans (h2.mono h1.size)

theorem ba_eq {s:ByteArray} {l:List UInt8} (h:s.data.toList=l):s = ⟨l.toArray⟩:=by
 subst h;rfl

theorem info9:(Tryd.prog.info? 9).map (fun i=>(i.zero,i.size,i.bytes))=some (some (.string ByteArray.empty),1,16):=by kernel_rfl

def st (ss:List ByteArray) (i:Nat):ByteArray:=ss.getD i ByteArray.empty
def svals (ss:List ByteArray):List Value:=ss.map Value.string
def dats (ss:List ByteArray):List (List UInt8):=ss.map fun s=>s.data.toList

theorem qbp (ss:List ByteArray):(svals ss).length=ss.length:=by simp[svals]
theorem qfr (ss:List ByteArray) (i:Nat) (h:i<ss.length):(svals ss)[i]? = some (.string (st ss i)):=by
 simp only[svals,st,List.getElem?_map,List.getElem?_eq_getElem h,Option.map_some,List.getD_eq_getElem?_getD,Option.getD_some]
theorem qap (ss:List ByteArray):(dats ss).length=ss.length:=by simp[dats]
theorem dats_at (ss:List ByteArray) (i:Nat) (h:i<ss.length):(dats ss).getD i []=(st ss i).data.toList:=by
 simp only[dats,st,List.getD_eq_getElem?_getD,List.getElem?_map,List.getElem?_eq_getElem h,Option.map_some,Option.getD_some]
theorem dats_inj {a b:List ByteArray} (h:dats a=dats b):a=b:=by
 apply List.map_inj_right (f:=fun s:ByteArray=>s.data.toList) (fun x y e=>?_) |>.1 h
 cases x;cases y
 simpa using e

def SRd (w:World) (ao:Option Addr) (n cap:Nat) (ss:List ByteArray):Prop :=
 (ss.length=n∧∀i,i<n→∃b off,ao=some ⟨b,off,none⟩∧w.cell? ⟨b,off+i,none⟩ = some (.string (st ss i)))∧n≤cap∧cap≤maxLen∧(ao=none→cap=0)

theorem SRd.nil (w:World):SRd w none 0 0 []:=⟨⟨rfl,fun i hi=>by omega⟩,Nat.le_refl _,Nat.zero_le _,fun _=>rfl⟩

def SOwn (w:World) (B:Nat) (ao:Option Addr) (n cap:Nat) (ss:List ByteArray):Prop:=ss.length=n∧w.ownsRow B 9 1 (.slice ao n cap) n (svals ss)

theorem SOwn.rd {w:World} {B:Nat} {ao:Option Addr} {n cap:Nat} {ss:List ByteArray} (h:SOwn w B ao n cap ss):SRd w ao n cap ss:=by
 obtain⟨hl,h1,h2⟩:=h
 rcases h2 with ⟨e,rfl⟩ | ⟨g,c,cur,e,hb,hg,hc,hm,hs,ht⟩
 ·simp only[Value.slice.injEq] at e;obtain⟨rfl,_,rfl⟩:=e;exact⟨⟨hl,fun i hi=>by omega⟩,Nat.le_refl _,Nat.zero_le _,fun _=>rfl⟩
 ·simp only[Value.slice.injEq] at e;obtain⟨rfl,_,rfl⟩:=e;refine⟨⟨hl,fun i hi=>⟨g,0,rfl,?_⟩⟩,hc,hm,fun h=>by simp at h⟩;have own:w.ownsRow B 9 1 (.slice (some ⟨g,0,none⟩) n cap) n (svals ss):=⟨h1,.inr ⟨g,cap,cur,rfl,hb,hg,hc,hm,hs,ht⟩⟩;rw[Nat.zero_add,own.cellAt i (by omega),qfr ss i (by omega)]
theorem SOwn.block {w:World} {B:Nat} {ao:Option Addr} {n cap:Nat} {ss:List ByteArray} (h:SOwn w B ao n cap ss) {a:Addr} (e:ao=some a):B≤a.block∧a.block<w.heap.size:=by
 subst e;exact h.2.lt _ rfl
theorem SRd.below {w w':World} {ao:Option Addr} {n cap:Nat} {ss:List ByteArray} (h:SRd w ao n cap ss) (hb:Below w.heap.size w w'):SRd w' ao n cap ss:=by
 refine⟨⟨h.1.1,fun i hi=>?_⟩,h.2⟩;obtain⟨b,off,e,hc⟩:=h.1.2 i hi;exact⟨b,off,e,(hb.cell (World.block_lt_of_cell? w _ hc)).trans hc⟩
theorem SOwn.below {w w':World} {B:Nat} {ao:Option Addr} {n cap:Nat} {ss:List ByteArray} (h:SOwn w B ao n cap ss) (hb:Below w.heap.size w w'):SOwn w' B ao n cap ss:=by
 refine⟨h.1,h.2.1,?_⟩
 rcases h.2.2 with hn | ⟨g,c,cur,e,hB,hg,rest⟩
 ·exact .inl hn
 ·exact .inr ⟨g,c,cur,e,hB,by rw[hb.block g (Array.getElem?_eq_some_iff.1 hg).1];exact hg,rest⟩
theorem SOwn.mono {w:World} {B B':Nat} {ao:Option Addr} {n cap:Nat} {ss:List ByteArray} (h:SOwn w B ao n cap ss) (hB:B'≤B):SOwn w B' ao n cap ss:=by
 refine⟨h.1,h.2.1,?_⟩
 rcases h.2.2 with hn | ⟨g,c,cur,e,hb,rest⟩
 ·exact .inl hn
 ·exact .inr ⟨g,c,cur,e,by omega,rest⟩
theorem SRd.grown {w w':World} {ao:Option Addr} {n cap:Nat} {ss:List ByteArray} {row:Option Nat} (h:SRd w ao n cap ss) (hg:w.grownBy w' row) (hne:∀a,ao=some a→some a.block≠row):SRd w' ao n cap ss:=by
 refine⟨⟨h.1.1,fun i hi=>?_⟩,h.2⟩;obtain⟨b,off,e,hc⟩:=h.1.2 i hi;exact⟨b,off,e,hg.cell hc (show some b≠row from hne ⟨b,off,none⟩ e)⟩
theorem SOwn.grown {w w':World} {B:Nat} {ao:Option Addr} {n cap:Nat} {ss:List ByteArray} {row:Option Nat} (h:SOwn w B ao n cap ss) (hg:w.grownBy w' row) (hne:∀a,ao=some a→some a.block≠row):SOwn w' B ao n cap ss:=by
 refine⟨h.1,h.2.kept hg ?_⟩;cases ao with
 |none=>exact .inl rfl
 |some a=>exact .inr (hne a rfl)
theorem SOwn.frozen {w:World} {B:Nat} {g n cap:Nat} {ss:List ByteArray} (h:SOwn w B (some ⟨g,0,none⟩) n cap ss) (j:Nat):w.frozen? ⟨g,j,none⟩ = false:=h.2.frozenAt j
theorem SOwn.cell {w:World} {B:Nat} {g n cap:Nat} {ss:List ByteArray} (h:SOwn w B (some ⟨g,0,none⟩) n cap ss) (j:Nat) (hj:j<n):w.cell? ⟨g,j,none⟩ = some (.string (st ss j)):=by
 rw[h.2.cellAt j (by omega),qfr ss j (by rw[h.1];exact hj)]
theorem SOwn.head {w:World} {B:Nat} {ao:Option Addr} {n cap:Nat} {ss:List ByteArray} (h:SOwn w B ao n cap ss) (hn:0<n):∃g,ao=some ⟨g,0,none⟩:=by
 rcases h.2.2 with ⟨_,h0⟩ | ⟨g,c,cur,e,_⟩
 ·omega
 ·simp only[Value.slice.injEq] at e;exact⟨g,e.1⟩
theorem SOwn.store {w:World} {B:Nat} {g n cap:Nat} {ss:List ByteArray} (h:SOwn w B (some ⟨g,0,none⟩) n cap ss) (j:Nat) (u:ByteArray) :
  SOwn (w.setCell ⟨g,j,none⟩ (.string u)) B (some ⟨g,0,none⟩) n cap (ss.set j u):=by
 refine⟨by simpa using h.1,?_⟩;have:=(h.2.stored j (.string u)).1;have e:(svals ss).set j (.string u)=svals (ss.set j u):=by simp[svals,List.map_set]
 rw[e] at this;exact this
theorem sown_open {w:World} {B:Nat} {v:Value} {n:Nat} {ss:List ByteArray} (hl:ss.length=n) (h:w.ownsRow B 9 1 v n (svals ss)):∃ao cap,v=.slice ao n cap∧SOwn w B ao n cap ss:=by
 rcases h.2 with ⟨rfl,rfl⟩ | ⟨g,c,cur,rfl,_⟩
 ·exact⟨none,0,rfl,hl,h⟩
 ·exact⟨_,_,rfl,hl,h⟩

theorem w_sapp {ops:Array Oper} {rest:List Oper} {o:Oper} {a:Act} {Q:Exit→Act→World→Prop} (w:World) (hgd:o.guard=none) (s x:Operand)
  (ho:o.op=.call { callee:=.builtin .append,args:=#[s,x],argTypes:=#[39,39] })
  (B:Nat) (ao:Option Addr) (n cap:Nat) (ss:List ByteArray) (hs:a.eval s=.slice ao n cap) (hown:SOwn w B ao n cap ss)
  (ad:Nat) (u:ByteArray) (hx:a.eval x=.slice (some ⟨ad,0,none⟩) 1 1) (hc:w.cell? ⟨ad,0,none⟩ = some (.string u)) (hb:n<1099511627776) (hB:B≤w.heap.size)
  (h:∀ao' cap' w',SOwn w' B ao' (n+1) cap' (ss++[u])→w.grownBy w' (Value.slice ao n cap).ownBlock→wpList Tryd.prog ops Q rest (a.put o.dst (.slice ao' (n+1) cap')) w') :
  wpList Tryd.prog ops Q (o :: rest) a w:=by
 obtain⟨i0,hi,hz0,hz1,hz2⟩:=info_parts info9;have hlen:(ss++[u]).length=n+1:=by rw[List.length_append,hown.1];rfl
 refine wpList_append_own w hgd s x 39 ho B 9 i0 (.string ByteArray.empty) 1 16 Tryd.underlying39 hi hz0 hz1 hz2 rfl (by decide) (.slice ao n cap) n (svals ss) hs hown.2 ⟨ad,0,none⟩ 1 1 [.string u] hx rfl ?_ (by intro v hv;simp at hv;subst hv;rfl) (by unfold maxLen;omega) (by omega) hB ?_
 ·intro j v hv
  match j,hv with
  |0,hv=>
   simp at hv;subst hv;exact hc
 ·intro v' w' hv hg _;have e:svals ss++[.string u]=svals (ss++[u]):=by simp[svals]
  rw[e] at hv;obtain⟨ao',cap',rfl,hown'⟩:=sown_open hlen hv;exact h ao' cap' w' hown' hg

theorem qel (s:ByteArray):(s.toList != s.toList)=false:=by simp


def tot (ss:List ByteArray):Nat:=(ss.map ByteArray.size).sum
theorem st_mem {ss:List ByteArray} {k:Nat} (h:k<ss.length):st ss k∈ss:=by
 have e:st ss k=ss[k]'h:=by simp[st,List.getD_eq_getElem?_getD,List.getElem?_eq_getElem h]
 rw[e];exact List.getElem_mem h


def nt (zs:List Int) (i:Nat):Int:=zs.getD i 0
def ivals (zs:List Int):List Value:=zs.map fun z=>Value.int .i64 z

theorem ivals_at (zs:List Int) (i:Nat) (h:i<zs.length):(ivals zs)[i]? = some (.int .i64 (nt zs i)):=by
 simp only[ivals,nt,List.getElem?_map,List.getElem?_eq_getElem h,Option.map_some,List.getD_eq_getElem?_getD,Option.getD_some]

def IRd (w:World) (ao:Option Addr) (n cap:Nat) (zs:List Int):Prop :=
 (zs.length=n∧∀i,i<n→∃b off,ao=some ⟨b,off,none⟩∧w.cell? ⟨b,off+i,none⟩ = some (.int .i64 (nt zs i)))∧n≤cap∧cap≤maxLen∧(ao=none→cap=0)

theorem IRd.nil (w:World):IRd w none 0 0 []:=⟨⟨rfl,fun i hi=>by omega⟩,Nat.le_refl _,Nat.zero_le _,fun _=>rfl⟩

def IOwn (w:World) (B:Nat) (ao:Option Addr) (n cap:Nat) (zs:List Int):Prop:=zs.length=n∧w.ownsRow B 3 1 (.slice ao n cap) n (ivals zs)

theorem IOwn.rd {w:World} {B:Nat} {ao:Option Addr} {n cap:Nat} {zs:List Int} (h:IOwn w B ao n cap zs):IRd w ao n cap zs:=by
 obtain⟨hl,h1,h2⟩:=h
 rcases h2 with ⟨e,rfl⟩ | ⟨g,c,cur,e,hb,hg,hc,hm,hs,ht⟩
 ·simp only[Value.slice.injEq] at e;obtain⟨rfl,_,rfl⟩:=e;exact⟨⟨hl,fun i hi=>by omega⟩,Nat.le_refl _,Nat.zero_le _,fun _=>rfl⟩
 ·simp only[Value.slice.injEq] at e;obtain⟨rfl,_,rfl⟩:=e;refine⟨⟨hl,fun i hi=>⟨g,0,rfl,?_⟩⟩,hc,hm,fun h=>by simp at h⟩;have own:w.ownsRow B 3 1 (.slice (some ⟨g,0,none⟩) n cap) n (ivals zs):=⟨h1,.inr ⟨g,cap,cur,rfl,hb,hg,hc,hm,hs,ht⟩⟩;rw[Nat.zero_add,own.cellAt i (by omega),ivals_at zs i (by omega)]
theorem IOwn.block {w:World} {B:Nat} {ao:Option Addr} {n cap:Nat} {zs:List Int} (h:IOwn w B ao n cap zs) {a:Addr} (e:ao=some a):B≤a.block∧a.block<w.heap.size:=by
 subst e;exact h.2.lt _ rfl
theorem IRd.below {w w':World} {ao:Option Addr} {n cap:Nat} {zs:List Int} (h:IRd w ao n cap zs) (hb:Below w.heap.size w w'):IRd w' ao n cap zs:=by
 refine⟨⟨h.1.1,fun i hi=>?_⟩,h.2⟩;obtain⟨b,off,e,hc⟩:=h.1.2 i hi;exact⟨b,off,e,(hb.cell (World.block_lt_of_cell? w _ hc)).trans hc⟩
theorem IOwn.below {w w':World} {B:Nat} {ao:Option Addr} {n cap:Nat} {zs:List Int} (h:IOwn w B ao n cap zs) (hb:Below w.heap.size w w'):IOwn w' B ao n cap zs:=by
 refine⟨h.1,h.2.1,?_⟩
 rcases h.2.2 with hn | ⟨g,c,cur,e,hB,hg,rest⟩
 ·exact .inl hn
 ·exact .inr ⟨g,c,cur,e,hB,by rw[hb.block g (Array.getElem?_eq_some_iff.1 hg).1];exact hg,rest⟩
theorem IOwn.grown {w w':World} {B:Nat} {ao:Option Addr} {n cap:Nat} {zs:List Int} {row:Option Nat} (h:IOwn w B ao n cap zs) (hg:w.grownBy w' row) (hne:∀a,ao=some a→some a.block≠row):IOwn w' B ao n cap zs:=by
 refine⟨h.1,h.2.kept hg ?_⟩;cases ao with
 |none=>exact .inl rfl
 |some a=>exact .inr (hne a rfl)
theorem IOwn.frozen {w:World} {B:Nat} {g n cap:Nat} {zs:List Int} (h:IOwn w B (some ⟨g,0,none⟩) n cap zs) (j:Nat):w.frozen? ⟨g,j,none⟩ = false:=h.2.frozenAt j
theorem IOwn.cell {w:World} {B:Nat} {g n cap:Nat} {zs:List Int} (h:IOwn w B (some ⟨g,0,none⟩) n cap zs) (j:Nat) (hj:j<n):w.cell? ⟨g,j,none⟩ = some (.int .i64 (nt zs j)):=by
 rw[h.2.cellAt j (by omega),ivals_at zs j (by rw[h.1];exact hj)]
theorem IOwn.head {w:World} {B:Nat} {ao:Option Addr} {n cap:Nat} {zs:List Int} (h:IOwn w B ao n cap zs) (hn:0<n):∃g,ao=some ⟨g,0,none⟩:=by
 rcases h.2.2 with ⟨_,h0⟩ | ⟨g,c,cur,e,_⟩
 ·omega
 ·simp only[Value.slice.injEq] at e;exact⟨g,e.1⟩
theorem IOwn.store {w:World} {B:Nat} {g n cap:Nat} {zs:List Int} (h:IOwn w B (some ⟨g,0,none⟩) n cap zs) (j:Nat) (u:Int) :
  IOwn (w.setCell ⟨g,j,none⟩ (.int .i64 u)) B (some ⟨g,0,none⟩) n cap (zs.set j u):=by
 refine⟨by simpa using h.1,?_⟩;have:=(h.2.stored j (.int .i64 u)).1;have e:(ivals zs).set j (.int .i64 u)=ivals (zs.set j u):=by simp[ivals,List.map_set]
 rw[e] at this;exact this

def wf (ws:List (ByteArray×Int)) (i:Nat):ByteArray:=(ws.getD i (ByteArray.empty,0)).1
def wq (ws:List (ByteArray×Int)) (i:Nat):Int:=(ws.getD i (ByteArray.empty,0)).2
def WRd (w:World) (ao:Option Addr) (n cap:Nat) (ws:List (ByteArray×Int)):Prop :=
 (ws.length=n∧∀i,i<n→∃b off,ao=some ⟨b,off,none⟩∧w.cell? ⟨b,off+i*2,none⟩ = some (.string (wf ws i))∧w.cell? ⟨b,off+i*2+1,none⟩ = some (.int .i64 (wq ws i)))∧n≤cap∧cap≤maxLen∧(ao=none→cap=0)

theorem WRd.below {w w':World} {ao:Option Addr} {n cap:Nat} {ws:List (ByteArray×Int)} (h:WRd w ao n cap ws) (hb:Below w.heap.size w w'):WRd w' ao n cap ws:=by
 refine⟨⟨h.1.1,fun i hi=>?_⟩,h.2⟩;obtain⟨b,off,e,hc,hd⟩:=h.1.2 i hi;exact⟨b,off,e,(hb.cell (World.block_lt_of_cell? w _ hc)).trans hc,(hb.cell (World.block_lt_of_cell? w _ hd)).trans hd⟩

def wtot (ws:List (ByteArray×Int)):Nat:=(ws.map fun x=>x.1.size).sum
theorem qhl (a:Option Addr) (n c L:Nat) (w:World) (hn:n≤maxLen) (hL:L≤1048576) :
  Calls Tryd.prog 56 #[.slice a n c,.int .i64 L] w fun e w'=>∃r:Int,e=.returned (.int .i64 r)∧w'=w∧(r<0∨∃R:Nat,r=R∧R+n=L):=by
 unfold maxLen at hn
 by_cases h:n≤L
 ·have h':¬(L:Int)-n<0:=by omega
  go_enter Tryd.func56,Tryd.ntmps56;go_wp2;go_ret;exact⟨_,rfl,rfl,.inr ⟨L-n,by omega,by omega⟩⟩
 ·have h':(L:Int)-n<0:=by omega
  go_enter Tryd.func56,Tryd.ntmps56;go_wp2;go_ret;exact⟨_,rfl,rfl,.inl (by decide)⟩


structure Sl where
 a:Option Addr
 n:Nat
 c:Nat
structure Pk where
 ty:Int
 dup:Bool
 qos:Int
 ret:Bool
 id:Int
 top:ByteArray
 bod:Sl
 cli:ByteArray
 lev:Int
 cln:Bool
 kee:Int
 hw:Bool
 wt:ByteArray
 wb:Sl
 wq:Int
 wr:Bool
 hu:Bool
 us:ByteArray
 hp:Bool
 pa:Sl
 cod:Int
 pre:Bool
 wan:Sl
 nam:Sl
 cds:Sl
def Pk.cells (p:Pk):Array Value:=#[.int .i64 p.ty,.bool p.dup,.int .i64 p.qos,.bool p.ret,.int .i64 p.id,.string p.top,.slice p.bod.a p.bod.n p.bod.c,.string p.cli,.int .i64 p.lev,.bool p.cln,.int .i64 p.kee,.bool p.hw,.string p.wt,.slice p.wb.a p.wb.n p.wb.c,.int .i64 p.wq,.bool p.wr,.bool p.hu,.string p.us,.bool p.hp,.slice p.pa.a p.pa.n p.pa.c,.int .i64 p.cod,.bool p.pre,.slice p.wan.a p.wan.n p.wan.c,.slice p.nam.a p.nam.n p.nam.c,.slice p.cds.a p.cds.n p.cds.c]
structure Pd where
 bod:List UInt8
 wb:List UInt8
 pa:List UInt8
 wan:List (ByteArray×Int)
 nam:List ByteArray
 cds:List Int
def PRd (w:World) (p:Pk) (d:Pd):Prop :=
 RdIn w p.bod.a p.bod.n p.bod.c d.bod∧RdIn w p.wb.a p.wb.n p.wb.c d.wb∧RdIn w p.pa.a p.pa.n p.pa.c d.pa∧WRd w p.wan.a p.wan.n p.wan.c d.wan∧SRd w p.nam.a p.nam.n p.nam.c d.nam∧IRd w p.cds.a p.cds.n p.cds.c d.cds
theorem PRd.below {w w':World} {p:Pk} {d:Pd} (h:PRd w p d) (hb:Below w.heap.size w w'):PRd w' p d :=
 ⟨h.1.below hb,h.2.1.below hb,h.2.2.1.below hb,h.2.2.2.1.below hb,h.2.2.2.2.1.below hb,h.2.2.2.2.2.below hb⟩
def Psm (p:Pk) (d:Pd) (L:Nat):Prop:=p.top.size+p.bod.n+p.cli.size+p.wt.size+p.wb.n+p.us.size+p.pa.n+(p.wan.n+wtot d.wan)+(p.nam.n+tot d.nam)+p.cds.n≤L

structure Re where
 bod:Option Addr×Nat
 wb:Option Addr×Nat
 pa:Option Addr×Nat
 wan:Option Addr×Nat
 nam:Option Addr×Nat
 cds:Option Addr×Nat
def Plen (p:Pk) (L:Nat):Prop:=p.bod.n≤L∧p.wb.n≤L∧p.pa.n≤L∧p.wan.n≤L∧p.nam.n≤L∧p.cds.n≤L
theorem Psm.len {p:Pk} {d:Pd} {L:Nat} (h:Psm p d L):Plen p L:=by
 unfold Psm at h;unfold Plen;omega

