/- Lemmas. -/
import Derived.Test.YtpjkbgdkligpdaaGreatDoorY06
set_option linter.all false
set_option maxRecDepth 100000
set_option maxHeartbeats 20000000
namespace Go.Proofs.YtpjkbgdkligpdaaGreatDoor
open Go.RowKit

theorem infoPa:(Tryz.prog.info? 28).map (fun i=>(i.zero,i.size,i.bytes))=some (some (.agg Pk.zero.cells),25,320):=by kernel_rfl
def pvals (ps:List Pk):List Value:=ps.flatMap fun p=>p.cells.toList
theorem qfc (p:Pk):p.cells.toList.length=25:=by rw[Array.length_toList];exact Pk.csize p
theorem qgu (ps:List Pk):(pvals ps).length=ps.length*25:=by
 induction ps with
 |nil=>rfl
 |cons p r ih=>
  have e:pvals (p :: r)=p.cells.toList++pvals r:=rfl;rw[e,List.length_append,qfc,ih,List.length_cons];omega
theorem qtu (a b:List Pk):pvals a++pvals b=pvals (a++b):=by simp[pvals]
theorem qri (a:List Pk):∀u∈pvals a,u.oneCell'=true:=by
 intro u hu;simp only[pvals,List.mem_flatMap] at hu;obtain⟨p,_,hp⟩:=hu;unfold Pk.cells at hp;simp only[List.mem_cons,List.not_mem_nil,or_false] at hp
 rcases hp with h | h | h | h | h | h | h | h | h | h | h | h | h | h | h | h | h | h | h | h | h | h | h | h | h<;>(rw[h];rfl)
theorem pvals_at (ps:List Pk) (i j:Nat) (h:i<ps.length) (hj:j<25):(pvals ps)[i*25+j]? = (ps.getD i Pk.zero).cells[j]?:=by
 induction ps generalizing i with
 |nil=>simp at h
 |cons p r ih=>
  have e:pvals (p :: r)=p.cells.toList++pvals r:=rfl;rw[e];cases i with
  |zero=>
   rw[List.getElem?_append_left (by rw[qfc];omega)];simp
  |succ i=>
   rw[List.getElem?_append_right (by rw[qfc];omega),qfc,show (i+1)*25+j-25=i*25+j from by omega,ih i (by simpa using h)];rfl
def POwnR (w:World) (B:Nat) (ao:Option Addr) (n cap:Nat) (ps:List Pk):Prop:=ps.length=n∧w.ownsRow B 28 25 (.slice ao n cap) n (pvals ps)
theorem qtt {w:World} {B:Nat} {v:Value} {n:Nat} {zs:List Pk} (hl:zs.length=n) (h:w.ownsRow B 28 25 v n (pvals zs)):∃ao cap,v=.slice ao n cap∧POwnR w B ao n cap zs:=by
 rcases h.2 with ⟨rfl,rfl⟩ | ⟨g,c,cur,rfl,_⟩
 ·exact⟨none,0,rfl,hl,h⟩
 ·exact⟨_,_,rfl,hl,h⟩
theorem POwnR.below {w w':World} {B:Nat} {ao:Option Addr} {n cap:Nat} {ps:List Pk} (h:POwnR w B ao n cap ps) (hb:Below w.heap.size w w'):POwnR w' B ao n cap ps:=by
 refine⟨h.1,h.2.1,?_⟩
 rcases h.2.2 with hn | ⟨g,c,cur,e,hB,hg,rest⟩
 ·exact .inl hn
 ·exact .inr ⟨g,c,cur,e,hB,(hb.block g (Array.getElem?_eq_some_iff.1 hg).1).trans hg,rest⟩
theorem POwnR.nil (w:World) (B:Nat):POwnR w B none 0 0 []:=⟨rfl,World.ownsRow_nil _ _ _ _⟩
theorem w_papp {ops:Array Oper} {rest:List Oper} {o:Oper} {a:Act} {Q:Exit→Act→World→Prop} (w:World) (hgd:o.guard=none) (s x:Operand)
  (ho:o.op=.call { callee:=.builtin .append,args:=#[s,x],argTypes:=#[44,44] })
  (B:Nat) (ao:Option Addr) (n cap:Nat) (zs:List Pk) (hs:a.eval s=.slice ao n cap) (hown:POwnR w B ao n cap zs)
  (ad:Nat) (u:Pk) (hx:a.eval x=.slice (some ⟨ad,0,none⟩) 1 1) (hc:Blk w ad u) (hb:n<10737418240) (hB:B≤w.heap.size)
  (h:∀ao' cap' w',POwnR w' B ao' (n+1) cap' (zs++[u])→w.grownBy w' (Value.slice ao n cap).ownBlock→wpList Tryz.prog ops Q rest (a.put o.dst (.slice ao' (n+1) cap')) w') :
  wpList Tryz.prog ops Q (o :: rest) a w:=by
 obtain⟨i0,hi,hz0,hz1,hz2⟩:=info_parts infoPa;have hlen:(zs++[u]).length=n+1:=by rw[List.length_append,hown.1];rfl
 refine wpList_append_own w hgd s x 44 ho B 28 i0 (.agg Pk.zero.cells) 25 320 Tryz.underlying44 hi hz0 hz1 hz2 rfl (by decide) (.slice ao n cap) n (pvals zs) hs hown.2 ⟨ad,0,none⟩ 1 1 (pvals [u]) hx (qgu [u]) ?_ (qri [u]) (by unfold maxLen;omega) (by omega) hB ?_
 ·intro j v hv;have hj:j<25:=by
   have:=(List.getElem?_eq_some_iff.1 hv).1;rw[qgu] at this
   simpa using this
  have e:=pvals_at [u] 0 j (by simp) hj;rw[Nat.zero_mul,Nat.zero_add] at e;rw[e] at hv;rw[Addr.add_lit,Nat.zero_add,qbr hc]
  simpa using hv
 ·intro v' w' hv hg _;rw[qtu] at hv;obtain⟨ao',cap',rfl,hown'⟩:=qtt hlen hv;exact h ao' cap' w' hown' hg

theorem qlm (lev:Int) (cli:ByteArray) (cln:Bool) (kee:Int) (hw:Bool) (wt:ByteArray) (wb:Sl) (wq:Int) (wr:Bool) (hu:Bool) (us:ByteArray) (hp:Bool) (pa:Sl) (w:World):Calls Tryz.prog 67 #[.iface 124 (.agg (conC lev cli cln kee hw wt wb wq wr hu us hp pa))] w fun e w'=>e=.returned (.agg ({ conP lev cli cln kee hw wt wb wq wr hu us hp pa with ty:=1 } : Pk).cells)∧Below w.heap.size w w':=by
 have A:Blk (w.alloc (.cells Pk.zero.cells 28)) w.heap.size Pk.zero:=heap_alloc_new _ _;go_enter Tryz.func67,Tryz.ntmps67;go_wp2_with (first | refine al_pk ?_ | fail)
 refine (named_con lev cli cln kee hw wt wb wq wr hu us hp pa _).mono ?_;rintro e y ⟨rfl,b1⟩;replace A:=A.next b1;have b2:=bel (qac _ _) b1;have D:Blk (y.alloc (.cells ((conP lev cli cln kee hw wt wb wq wr hu us hp pa).cells.setIfInBounds 0 (.int .i64 1)) 28)) y.heap.size ({ conP lev cli cln kee hw wt wb wq wr hu us hp pa with ty:=1 } : Pk):=heap_alloc_new _ _;have A2:Blk (y.alloc (.cells ((conP lev cli cln kee hw wt wb wq wr hu us hp pa).cells.setIfInBounds 0 (.int .i64 1)) 28)) w.heap.size Pk.zero:=A.next (qac _ _);replace b2:=bel b2 (qac y (.cells ((conP lev cli cln kee hw wt wb wq wr hu us hp pa).cells.setIfInBounds 0 (.int .i64 1)) 28));go_wp2_with (first | refine qaz (p:=(conP lev cli cln kee hw wt wb wq wr hu us hp pa)) rfl rfl ?_ | fail)
 refine (qjb _ _).mono ?_;rintro e z ⟨rfl,hz⟩;subst hz;go_wp2_with (first | refine qaj D rfl _ rfl rfl ?_ | (refine qas (q:=({ conP lev cli cln kee hw wt wb wq wr hu us hp pa with ty:=1 } : Pk)) (old:=Pk.zero) A2 rfl rfl ?_;intro w9 B9 b9) | fail)
 exact qam rfl rfl B9 rfl ⟨rfl,b2.trans b9⟩
theorem qll (cod:Int) (pre:Bool) (w:World):Calls Tryz.prog 67 #[.iface 127 (.agg #[.int .i64 cod,.bool pre])] w fun e w'=>e=.returned (.agg ({ ackP cod pre with ty:=2 } : Pk).cells)∧Below w.heap.size w w':=by
 have A:Blk (w.alloc (.cells Pk.zero.cells 28)) w.heap.size Pk.zero:=heap_alloc_new _ _;go_enter Tryz.func67,Tryz.ntmps67;go_wp2_with (first | refine al_pk ?_ | fail)
 refine (named_ack cod pre _).mono ?_;rintro e y ⟨rfl,b1⟩;replace A:=A.next b1;have b2:=bel (qac _ _) b1;have D:Blk (y.alloc (.cells ((ackP cod pre).cells.setIfInBounds 0 (.int .i64 2)) 28)) y.heap.size ({ ackP cod pre with ty:=2 } : Pk):=heap_alloc_new _ _;have A2:Blk (y.alloc (.cells ((ackP cod pre).cells.setIfInBounds 0 (.int .i64 2)) 28)) w.heap.size Pk.zero:=A.next (qac _ _);replace b2:=bel b2 (qac y (.cells ((ackP cod pre).cells.setIfInBounds 0 (.int .i64 2)) 28));go_wp2_with (first | refine qaz (p:=(ackP cod pre)) rfl rfl ?_ | fail)
 refine (qja _ _).mono ?_;rintro e z ⟨rfl,hz⟩;subst hz;go_wp2_with (first | refine qaj D rfl _ rfl rfl ?_ | (refine qas (q:=({ ackP cod pre with ty:=2 } : Pk)) (old:=Pk.zero) A2 rfl rfl ?_;intro w9 B9 b9) | fail)
 exact qam rfl rfl B9 rfl ⟨rfl,b2.trans b9⟩
theorem qlp (dup:Bool) (qos:Int) (ret:Bool) (id:Int) (top:ByteArray) (b:Sl) (w:World):Calls Tryz.prog 67 #[.iface 129 (.agg (pubC dup qos ret id top b))] w fun e w'=>e=.returned (.agg ({ pubP dup qos ret id top b with ty:=3 } : Pk).cells)∧Below w.heap.size w w':=by
 have A:Blk (w.alloc (.cells Pk.zero.cells 28)) w.heap.size Pk.zero:=heap_alloc_new _ _;go_enter Tryz.func67,Tryz.ntmps67;go_wp2_with (first | refine al_pk ?_ | fail)
 refine (named_pub dup qos ret id top b _).mono ?_;rintro e y ⟨rfl,b1⟩;replace A:=A.next b1;have b2:=bel (qac _ _) b1;have D:Blk (y.alloc (.cells ((pubP dup qos ret id top b).cells.setIfInBounds 0 (.int .i64 3)) 28)) y.heap.size ({ pubP dup qos ret id top b with ty:=3 } : Pk):=heap_alloc_new _ _;have A2:Blk (y.alloc (.cells ((pubP dup qos ret id top b).cells.setIfInBounds 0 (.int .i64 3)) 28)) w.heap.size Pk.zero:=A.next (qac _ _);replace b2:=bel b2 (qac y (.cells ((pubP dup qos ret id top b).cells.setIfInBounds 0 (.int .i64 3)) 28));go_wp2_with (first | refine qaz (p:=(pubP dup qos ret id top b)) rfl rfl ?_ | fail)
 refine (qfx _ _).mono ?_;rintro e z ⟨rfl,hz⟩;subst hz;go_wp2_with (first | refine qaj D rfl _ rfl rfl ?_ | (refine qas (q:=({ pubP dup qos ret id top b with ty:=3 } : Pk)) (old:=Pk.zero) A2 rfl rfl ?_;intro w9 B9 b9) | fail)
 exact qam rfl rfl B9 rfl ⟨rfl,b2.trans b9⟩
theorem qmm (id:Int) (w:World):Calls Tryz.prog 67 #[.iface 134 (.agg #[.int .i64 id])] w fun e w'=>e=.returned (.agg ({ idP id with ty:=4 } : Pk).cells)∧Below w.heap.size w w':=by
 have A:Blk (w.alloc (.cells Pk.zero.cells 28)) w.heap.size Pk.zero:=heap_alloc_new _ _;go_enter Tryz.func67,Tryz.ntmps67;go_wp2_with (first | refine al_pk ?_ | fail)
 refine (qli id _).mono ?_;rintro e y ⟨rfl,b1⟩;replace A:=A.next b1;have b2:=bel (qac _ _) b1;have D:Blk (y.alloc (.cells ((idP id).cells.setIfInBounds 0 (.int .i64 4)) 28)) y.heap.size ({ idP id with ty:=4 } : Pk):=heap_alloc_new _ _;have A2:Blk (y.alloc (.cells ((idP id).cells.setIfInBounds 0 (.int .i64 4)) 28)) w.heap.size Pk.zero:=A.next (qac _ _);replace b2:=bel b2 (qac y (.cells ((idP id).cells.setIfInBounds 0 (.int .i64 4)) 28));go_wp2_with (first | refine qaz (p:=(idP id)) rfl rfl ?_ | fail)
 refine (qju _ _).mono ?_;rintro e z ⟨rfl,hz⟩;subst hz;go_wp2_with (first | refine qaj D rfl _ rfl rfl ?_ | (refine qas (q:=({ idP id with ty:=4 } : Pk)) (old:=Pk.zero) A2 rfl rfl ?_;intro w9 B9 b9) | fail)
 exact qam rfl rfl B9 rfl ⟨rfl,b2.trans b9⟩
theorem qmn (id:Int) (w:World):Calls Tryz.prog 67 #[.iface 135 (.agg #[.int .i64 id])] w fun e w'=>e=.returned (.agg ({ idP id with ty:=5 } : Pk).cells)∧Below w.heap.size w w':=by
 have A:Blk (w.alloc (.cells Pk.zero.cells 28)) w.heap.size Pk.zero:=heap_alloc_new _ _;go_enter Tryz.func67,Tryz.ntmps67;go_wp2_with (first | refine al_pk ?_ | fail)
 refine (qli id _).mono ?_;rintro e y ⟨rfl,b1⟩;replace A:=A.next b1;have b2:=bel (qac _ _) b1;have D:Blk (y.alloc (.cells ((idP id).cells.setIfInBounds 0 (.int .i64 5)) 28)) y.heap.size ({ idP id with ty:=5 } : Pk):=heap_alloc_new _ _;have A2:Blk (y.alloc (.cells ((idP id).cells.setIfInBounds 0 (.int .i64 5)) 28)) w.heap.size Pk.zero:=A.next (qac _ _);replace b2:=bel b2 (qac y (.cells ((idP id).cells.setIfInBounds 0 (.int .i64 5)) 28));go_wp2_with (first | refine qaz (p:=(idP id)) rfl rfl ?_ | fail)
 refine (qjv _ _).mono ?_;rintro e z ⟨rfl,hz⟩;subst hz;go_wp2_with (first | refine qaj D rfl _ rfl rfl ?_ | (refine qas (q:=({ idP id with ty:=5 } : Pk)) (old:=Pk.zero) A2 rfl rfl ?_;intro w9 B9 b9) | fail)
 exact qam rfl rfl B9 rfl ⟨rfl,b2.trans b9⟩
theorem qmo (id:Int) (w:World):Calls Tryz.prog 67 #[.iface 136 (.agg #[.int .i64 id])] w fun e w'=>e=.returned (.agg ({ idP id with ty:=6 } : Pk).cells)∧Below w.heap.size w w':=by
 have A:Blk (w.alloc (.cells Pk.zero.cells 28)) w.heap.size Pk.zero:=heap_alloc_new _ _;go_enter Tryz.func67,Tryz.ntmps67;go_wp2_with (first | refine al_pk ?_ | fail)
 refine (qli id _).mono ?_;rintro e y ⟨rfl,b1⟩;replace A:=A.next b1;have b2:=bel (qac _ _) b1;have D:Blk (y.alloc (.cells ((idP id).cells.setIfInBounds 0 (.int .i64 6)) 28)) y.heap.size ({ idP id with ty:=6 } : Pk):=heap_alloc_new _ _;have A2:Blk (y.alloc (.cells ((idP id).cells.setIfInBounds 0 (.int .i64 6)) 28)) w.heap.size Pk.zero:=A.next (qac _ _);replace b2:=bel b2 (qac y (.cells ((idP id).cells.setIfInBounds 0 (.int .i64 6)) 28));go_wp2_with (first | refine qaz (p:=(idP id)) rfl rfl ?_ | fail)
 refine (qjw _ _).mono ?_;rintro e z ⟨rfl,hz⟩;subst hz;go_wp2_with (first | refine qaj D rfl _ rfl rfl ?_ | (refine qas (q:=({ idP id with ty:=6 } : Pk)) (old:=Pk.zero) A2 rfl rfl ?_;intro w9 B9 b9) | fail)
 exact qam rfl rfl B9 rfl ⟨rfl,b2.trans b9⟩
theorem qlo (id:Int) (w:World):Calls Tryz.prog 67 #[.iface 137 (.agg #[.int .i64 id])] w fun e w'=>e=.returned (.agg ({ idP id with ty:=7 } : Pk).cells)∧Below w.heap.size w w':=by
 have A:Blk (w.alloc (.cells Pk.zero.cells 28)) w.heap.size Pk.zero:=heap_alloc_new _ _;go_enter Tryz.func67,Tryz.ntmps67;go_wp2_with (first | refine al_pk ?_ | fail)
 refine (qli id _).mono ?_;rintro e y ⟨rfl,b1⟩;replace A:=A.next b1;have b2:=bel (qac _ _) b1;have D:Blk (y.alloc (.cells ((idP id).cells.setIfInBounds 0 (.int .i64 7)) 28)) y.heap.size ({ idP id with ty:=7 } : Pk):=heap_alloc_new _ _;have A2:Blk (y.alloc (.cells ((idP id).cells.setIfInBounds 0 (.int .i64 7)) 28)) w.heap.size Pk.zero:=A.next (qac _ _);replace b2:=bel b2 (qac y (.cells ((idP id).cells.setIfInBounds 0 (.int .i64 7)) 28));go_wp2_with (first | refine qaz (p:=(idP id)) rfl rfl ?_ | fail)
 refine (qjd _ _).mono ?_;rintro e z ⟨rfl,hz⟩;subst hz;go_wp2_with (first | refine qaj D rfl _ rfl rfl ?_ | (refine qas (q:=({ idP id with ty:=7 } : Pk)) (old:=Pk.zero) A2 rfl rfl ?_;intro w9 B9 b9) | fail)
 exact qam rfl rfl B9 rfl ⟨rfl,b2.trans b9⟩
theorem qkf (id:Int) (b:Sl) (w:World):Calls Tryz.prog 67 #[.iface 139 (.agg #[.int .i64 id,.slice b.a b.n b.c])] w fun e w'=>e=.returned (.agg ({ subP id b with ty:=8 } : Pk).cells)∧Below w.heap.size w w':=by
 have A:Blk (w.alloc (.cells Pk.zero.cells 28)) w.heap.size Pk.zero:=heap_alloc_new _ _;go_enter Tryz.func67,Tryz.ntmps67;go_wp2_with (first | refine al_pk ?_ | fail)
 refine (named_sub id b _).mono ?_;rintro e y ⟨rfl,b1⟩;replace A:=A.next b1;have b2:=bel (qac _ _) b1;have D:Blk (y.alloc (.cells ((subP id b).cells.setIfInBounds 0 (.int .i64 8)) 28)) y.heap.size ({ subP id b with ty:=8 } : Pk):=heap_alloc_new _ _;have A2:Blk (y.alloc (.cells ((subP id b).cells.setIfInBounds 0 (.int .i64 8)) 28)) w.heap.size Pk.zero:=A.next (qac _ _);replace b2:=bel b2 (qac y (.cells ((subP id b).cells.setIfInBounds 0 (.int .i64 8)) 28));go_wp2_with (first | refine qaz (p:=(subP id b)) rfl rfl ?_ | fail)
 refine (qgy _ _).mono ?_;rintro e z ⟨rfl,hz⟩;subst hz;go_wp2_with (first | refine qaj D rfl _ rfl rfl ?_ | (refine qas (q:=({ subP id b with ty:=8 } : Pk)) (old:=Pk.zero) A2 rfl rfl ?_;intro w9 B9 b9) | fail)
 exact qam rfl rfl B9 rfl ⟨rfl,b2.trans b9⟩
theorem qmp (id:Int) (b:Sl) (w:World):Calls Tryz.prog 67 #[.iface 141 (.agg #[.int .i64 id,.slice b.a b.n b.c])] w fun e w'=>e=.returned (.agg ({ sackP id b with ty:=9 } : Pk).cells)∧Below w.heap.size w w':=by
 have A:Blk (w.alloc (.cells Pk.zero.cells 28)) w.heap.size Pk.zero:=heap_alloc_new _ _;go_enter Tryz.func67,Tryz.ntmps67;go_wp2_with (first | refine al_pk ?_ | fail)
 refine (named_sack id b _).mono ?_;rintro e y ⟨rfl,b1⟩;replace A:=A.next b1;have b2:=bel (qac _ _) b1;have D:Blk (y.alloc (.cells ((sackP id b).cells.setIfInBounds 0 (.int .i64 9)) 28)) y.heap.size ({ sackP id b with ty:=9 } : Pk):=heap_alloc_new _ _;have A2:Blk (y.alloc (.cells ((sackP id b).cells.setIfInBounds 0 (.int .i64 9)) 28)) w.heap.size Pk.zero:=A.next (qac _ _);replace b2:=bel b2 (qac y (.cells ((sackP id b).cells.setIfInBounds 0 (.int .i64 9)) 28));go_wp2_with (first | refine qaz (p:=(sackP id b)) rfl rfl ?_ | fail)
 refine (qjx _ _).mono ?_;rintro e z ⟨rfl,hz⟩;subst hz;go_wp2_with (first | refine qaj D rfl _ rfl rfl ?_ | (refine qas (q:=({ sackP id b with ty:=9 } : Pk)) (old:=Pk.zero) A2 rfl rfl ?_;intro w9 B9 b9) | fail)
 exact qam rfl rfl B9 rfl ⟨rfl,b2.trans b9⟩
theorem qje (id:Int) (b:Sl) (w:World):Calls Tryz.prog 67 #[.iface 143 (.agg #[.int .i64 id,.slice b.a b.n b.c])] w fun e w'=>e=.returned (.agg ({ unsP id b with ty:=10 } : Pk).cells)∧Below w.heap.size w w':=by
 have A:Blk (w.alloc (.cells Pk.zero.cells 28)) w.heap.size Pk.zero:=heap_alloc_new _ _;go_enter Tryz.func67,Tryz.ntmps67;go_wp2_with (first | refine al_pk ?_ | fail)
 refine (named_uns id b _).mono ?_;rintro e y ⟨rfl,b1⟩;replace A:=A.next b1;have b2:=bel (qac _ _) b1;have D:Blk (y.alloc (.cells ((unsP id b).cells.setIfInBounds 0 (.int .i64 10)) 28)) y.heap.size ({ unsP id b with ty:=10 } : Pk):=heap_alloc_new _ _;have A2:Blk (y.alloc (.cells ((unsP id b).cells.setIfInBounds 0 (.int .i64 10)) 28)) w.heap.size Pk.zero:=A.next (qac _ _);replace b2:=bel b2 (qac y (.cells ((unsP id b).cells.setIfInBounds 0 (.int .i64 10)) 28));go_wp2_with (first | refine qaz (p:=(unsP id b)) rfl rfl ?_ | fail)
 refine (qfz _ _).mono ?_;rintro e z ⟨rfl,hz⟩;subst hz;go_wp2_with (first | refine qaj D rfl _ rfl rfl ?_ | (refine qas (q:=({ unsP id b with ty:=10 } : Pk)) (old:=Pk.zero) A2 rfl rfl ?_;intro w9 B9 b9) | fail)
 exact qam rfl rfl B9 rfl ⟨rfl,b2.trans b9⟩
theorem qku (id:Int) (w:World):Calls Tryz.prog 67 #[.iface 144 (.agg #[.int .i64 id])] w fun e w'=>e=.returned (.agg ({ idP id with ty:=11 } : Pk).cells)∧Below w.heap.size w w':=by
 have A:Blk (w.alloc (.cells Pk.zero.cells 28)) w.heap.size Pk.zero:=heap_alloc_new _ _;go_enter Tryz.func67,Tryz.ntmps67;go_wp2_with (first | refine al_pk ?_ | fail)
 refine (qli id _).mono ?_;rintro e y ⟨rfl,b1⟩;replace A:=A.next b1;have b2:=bel (qac _ _) b1;have D:Blk (y.alloc (.cells ((idP id).cells.setIfInBounds 0 (.int .i64 11)) 28)) y.heap.size ({ idP id with ty:=11 } : Pk):=heap_alloc_new _ _;have A2:Blk (y.alloc (.cells ((idP id).cells.setIfInBounds 0 (.int .i64 11)) 28)) w.heap.size Pk.zero:=A.next (qac _ _);replace b2:=bel b2 (qac y (.cells ((idP id).cells.setIfInBounds 0 (.int .i64 11)) 28));go_wp2_with (first | refine qaz (p:=(idP id)) rfl rfl ?_ | fail)
 refine (qhz _ _).mono ?_;rintro e z ⟨rfl,hz⟩;subst hz;go_wp2_with (first | refine qaj D rfl _ rfl rfl ?_ | (refine qas (q:=({ idP id with ty:=11 } : Pk)) (old:=Pk.zero) A2 rfl rfl ?_;intro w9 B9 b9) | fail)
 exact qam rfl rfl B9 rfl ⟨rfl,b2.trans b9⟩
theorem qln  (w:World):Calls Tryz.prog 67 #[.iface 148 (.agg #[])] w fun e w'=>e=.returned (.agg ({ noP  with ty:=12 } : Pk).cells)∧Below w.heap.size w w':=by
 have A:Blk (w.alloc (.cells Pk.zero.cells 28)) w.heap.size Pk.zero:=heap_alloc_new _ _;go_enter Tryz.func67,Tryz.ntmps67;go_wp2_with (first | refine al_pk ?_ | fail)
 refine (qsa  _).mono ?_;rintro e y ⟨rfl,b1⟩;replace A:=A.next b1;have b2:=bel (qac _ _) b1;have D:Blk (y.alloc (.cells ((noP).cells.setIfInBounds 0 (.int .i64 12)) 28)) y.heap.size ({ noP  with ty:=12 } : Pk):=heap_alloc_new _ _;have A2:Blk (y.alloc (.cells ((noP).cells.setIfInBounds 0 (.int .i64 12)) 28)) w.heap.size Pk.zero:=A.next (qac _ _);replace b2:=bel b2 (qac y (.cells ((noP).cells.setIfInBounds 0 (.int .i64 12)) 28));go_wp2_with (first | refine qaz (p:=(noP)) rfl rfl ?_ | fail)
 refine (qjc _ _).mono ?_;rintro e z ⟨rfl,hz⟩;subst hz;go_wp2_with (first | refine qaj D rfl _ rfl rfl ?_ | (refine qas (q:=({ noP  with ty:=12 } : Pk)) (old:=Pk.zero) A2 rfl rfl ?_;intro w9 B9 b9) | fail)
 exact qam rfl rfl B9 rfl ⟨rfl,b2.trans b9⟩
theorem qkt  (w:World):Calls Tryz.prog 67 #[.iface 149 (.agg #[])] w fun e w'=>e=.returned (.agg ({ noP  with ty:=13 } : Pk).cells)∧Below w.heap.size w w':=by
 have A:Blk (w.alloc (.cells Pk.zero.cells 28)) w.heap.size Pk.zero:=heap_alloc_new _ _;go_enter Tryz.func67,Tryz.ntmps67;go_wp2_with (first | refine al_pk ?_ | fail)
 refine (qsa  _).mono ?_;rintro e y ⟨rfl,b1⟩;replace A:=A.next b1;have b2:=bel (qac _ _) b1;have D:Blk (y.alloc (.cells ((noP).cells.setIfInBounds 0 (.int .i64 13)) 28)) y.heap.size ({ noP  with ty:=13 } : Pk):=heap_alloc_new _ _;have A2:Blk (y.alloc (.cells ((noP).cells.setIfInBounds 0 (.int .i64 13)) 28)) w.heap.size Pk.zero:=A.next (qac _ _);replace b2:=bel b2 (qac y (.cells ((noP).cells.setIfInBounds 0 (.int .i64 13)) 28));go_wp2_with (first | refine qaz (p:=(noP)) rfl rfl ?_ | fail)
 refine (qhy _ _).mono ?_;rintro e z ⟨rfl,hz⟩;subst hz;go_wp2_with (first | refine qaj D rfl _ rfl rfl ?_ | (refine qas (q:=({ noP  with ty:=13 } : Pk)) (old:=Pk.zero) A2 rfl rfl ?_;intro w9 B9 b9) | fail)
 exact qam rfl rfl B9 rfl ⟨rfl,b2.trans b9⟩
theorem qjq  (w:World):Calls Tryz.prog 67 #[.iface 150 (.agg #[])] w fun e w'=>e=.returned (.agg ({ noP  with ty:=14 } : Pk).cells)∧Below w.heap.size w w':=by
 have A:Blk (w.alloc (.cells Pk.zero.cells 28)) w.heap.size Pk.zero:=heap_alloc_new _ _;go_enter Tryz.func67,Tryz.ntmps67;go_wp2_with (first | refine al_pk ?_ | fail)
 refine (qsa  _).mono ?_;rintro e y ⟨rfl,b1⟩;replace A:=A.next b1;have b2:=bel (qac _ _) b1;have D:Blk (y.alloc (.cells ((noP).cells.setIfInBounds 0 (.int .i64 14)) 28)) y.heap.size ({ noP  with ty:=14 } : Pk):=heap_alloc_new _ _;have A2:Blk (y.alloc (.cells ((noP).cells.setIfInBounds 0 (.int .i64 14)) 28)) w.heap.size Pk.zero:=A.next (qac _ _);replace b2:=bel b2 (qac y (.cells ((noP).cells.setIfInBounds 0 (.int .i64 14)) 28));go_wp2_with (first | refine qaz (p:=(noP)) rfl rfl ?_ | fail)
 refine (qgo _ _).mono ?_;rintro e z ⟨rfl,hz⟩;subst hz;go_wp2_with (first | refine qaj D rfl _ rfl rfl ?_ | (refine qas (q:=({ noP  with ty:=14 } : Pk)) (old:=Pk.zero) A2 rfl rfl ?_;intro w9 B9 b9) | fail)
 exact qam rfl rfl B9 rfl ⟨rfl,b2.trans b9⟩

theorem qib {α:Type} (f:α→Bool) (l:List α) (d:α) (k:Nat) (hk:k<l.length) (h:(l.take k).all f=true) (e:f (l.getD k d)=true):(l.take (k+1)).all f=true:=by
 rw[List.take_succ_eq_append_getElem hk,List.all_append,h];simp only[List.getD_eq_getElem?_getD,List.getElem?_eq_getElem hk,Option.getD_some] at e;simp[e]
theorem qoh {α:Type} (f:α→Bool) (l:List α) (d:α) (k:Nat) (hk:k<l.length) (e:f (l.getD k d)=false):l.all f=false:=by
 simp only[List.getD_eq_getElem?_getD,List.getElem?_eq_getElem hk,Option.getD_some] at e;cases h:l.all f with
 |false=>rfl
 |true=>rw[List.all_eq_true] at h;rw[h _ (List.getElem_mem hk)] at e;cases e
theorem qlz {α:Type} (f:α→Bool) (l:List α) (n:Nat) (hn:l.length=n) (h:(l.take n).all f=true):l.all f=true:=by
 rwa [List.take_of_length_le (by omega)] at h
def qcm (x:ByteArray×Int):Bool:=flt x.1&&inB x.2 0 2
def qci (c:Int):Bool:=inB c 0 2 || decide (c=128)
theorem isByte_i (n:Int) (w:World):Calls Tryz.prog 232 #[.int .i64 n] w fun e w'=>e=.returned (.bool (inB n 0 255))∧w'=w:=by
 by_cases h1:0≤n
 ·by_cases h2:n≤255
  ·rw[qey h1 h2];go_enter Tryz.func232,Tryz.ntmps232;go_wp2;go_ret;exact⟨qad (by simp[h2]),rfl⟩
  ·rw[qnf (by omega)];go_enter Tryz.func232,Tryz.ntmps232;go_wp2;go_ret;exact⟨qad (by simp[h2]),rfl⟩
 ·rw[qng (by omega)];go_enter Tryz.func232,Tryz.ntmps232;go_wp2;go_ret;exact⟨rfl,rfl⟩
theorem isWord_i (n:Int) (w:World):Calls Tryz.prog 233 #[.int .i64 n] w fun e w'=>e=.returned (.bool (inB n 0 65535))∧w'=w:=by
 by_cases h1:0≤n
 ·by_cases h2:n≤65535
  ·rw[qey h1 h2];go_enter Tryz.func233,Tryz.ntmps233;go_wp2;go_ret;exact⟨qad (by simp[h2]),rfl⟩
  ·rw[qnf (by omega)];go_enter Tryz.func233,Tryz.ntmps233;go_wp2;go_ret;exact⟨qad (by simp[h2]),rfl⟩
 ·rw[qng (by omega)];go_enter Tryz.func233,Tryz.ntmps233;go_wp2;go_ret;exact⟨rfl,rfl⟩
theorem qmh (n:Int) (w:World):Calls Tryz.prog 165 #[.int .i64 n] w fun e w'=>e=.returned (.bool (inB n 0 2))∧w'=w:=by
 by_cases h1:0≤n
 ·by_cases h2:n≤2
  ·rw[qey h1 h2];go_enter Tryz.func165,Tryz.ntmps165;go_wp2;go_ret;exact⟨qad (by simp[h2]),rfl⟩
  ·rw[qnf (by omega)];go_enter Tryz.func165,Tryz.ntmps165;go_wp2;go_ret;exact⟨qad (by simp[h2]),rfl⟩
 ·rw[qng (by omega)];go_enter Tryz.func165,Tryz.ntmps165;go_wp2;go_ret;exact⟨rfl,rfl⟩
theorem qtg (n:Int) (w:World):Calls Tryz.prog 240 #[.int .i64 n] w fun e w'=>e=.returned (.bool (inB n 1 65535))∧w'=w:=by
 by_cases h1:1≤n
 ·by_cases h2:n≤65535
  ·rw[qey h1 h2];go_enter Tryz.func240,Tryz.ntmps240;go_wp2;go_ret;exact⟨qad (by simp[h2]),rfl⟩
  ·rw[qnf (by omega)];go_enter Tryz.func240,Tryz.ntmps240;go_wp2;go_ret;exact⟨qad (by simp[h2]),rfl⟩
 ·rw[qng (by omega)];go_enter Tryz.func240,Tryz.ntmps240;go_wp2;go_ret;exact⟨rfl,rfl⟩
theorem qth (n:Int) (w:World):Calls Tryz.prog 256 #[.int .i64 n] w fun e w'=>e=.returned (.bool (qci n))∧w'=w:=by
 unfold qci;go_enter Tryz.func256,Tryz.ntmps256;go_wp2_with fail
 refine (qmh n _).mono ?_;rintro e w2 ⟨rfl,rfl⟩;cases hv:inB n 0 2
 ·have HV:Hid (inB n 0 2=false):=hv;clear hv;go_wp2;go_ret;exact⟨qad (by rw[HV.out,Bool.eq_iff_iff];simp),rfl⟩
 ·have HV:Hid (inB n 0 2=true):=hv;clear hv;go_wp2;go_ret;exact⟨qad (by rw[HV.out];simp),rfl⟩
theorem isWant_i (f:ByteArray) (q:Int) (w:World) (hs:f.size≤1048576):Calls Tryz.prog 248 #[.agg #[.string f,.int .i64 q]] w fun e w'=>e=.returned (.bool (qcm (f,q)))∧Below w.heap.size w w':=by
 unfold qcm flt;go_enter Tryz.func248,Tryz.ntmps248;go_wp2_with fail
 refine (qla f _ hs).mono ?_;rintro e w2 ⟨rfl,hb⟩;have c1:w2.cell? ⟨w.heap.size,1,none⟩ = some (.int .i64 q):=(hb.cell (by simp)).trans (by simp);replace hb:=bel (qac _ _) hb;cases hv:filOk f.data.toList
 ·have HV:Hid (filOk f.data.toList=false):=hv;clear hv;go_wp2;go_ret;exact⟨qad (by rw[HV.out];simp),hb⟩
 ·have HV:Hid (filOk f.data.toList=true):=hv;clear hv;go_wp2_with fail
  refine (qmh q _).mono ?_;rintro e w3 ⟨rfl,rfl⟩;go_wp2;go_ret;exact⟨qad (by rw[HV.out];simp),hb⟩
theorem each_ints (ao:Option Addr) (n cap:Nat) (l:List Int) (w:World) (hr:IRd w ao n cap l) :
  Calls Tryz.prog 257 #[.slice ao n cap,.func (.func 256) #[] #[]] w fun e w'=>e=.returned (.bool (l.all qci))∧Below w.heap.size w w':=by
 have HL:Hid (l.length=n):=hr.1.1;have hM:n≤maxLen:=Nat.le_trans hr.2.1 hr.2.2.1;unfold maxLen at hM;go_enter Tryz.func257,Tryz.ntmps257;go_wp2
 go_loopw [9] (fun i wr=>∃k:Nat,i=.int .i64 k∧k≤n∧Hid ((l.take k).all qci=true)∧Below w.heap.size w wr) (fun i _=>n-(intOf i).toNat)
 case atStart=>exact⟨0,rfl,Nat.zero_le _,rfl,Below.refl _ _⟩
 case round=>
  obtain⟨k,rfl,hk,hT,hb⟩:=hrel
  by_cases hlt:k<n
  ·obtain⟨b,off,e,hc⟩:=hr.1.2 k hlt;subst e;have hck:wr.cell? ⟨b,off+k,none⟩ = some (.int .i64 (nt l k)):=(hb.cell (World.block_lt_of_cell? w _ hc)).trans hc;clear hc;have hlt':(k:Int)<n:=by omega
   have hkl:Hid (k<l.length):=by show k<l.length;rw[HL.out];exact hlt
   go_wp2_with fail
   refine (qth _ _).mono ?_;rintro e w2 ⟨rfl,hw2⟩;have hb2:=hb;subst hw2;cases hv:qci (nt l k)
   ·have HN:Hid (l.all qci=false):=qoh qci l 0 k hkl.out hv;clear hv;go_wp2;go_ret;exact⟨qad HN.out.symm,hb2⟩
   ·have HS:Hid ((l.take (k+1)).all qci=true):=qib qci l 0 k hkl.out hT.out hv;clear hv;go_wp2;go_roundw
    case rel=>exact⟨k+1,by go_num,by omega,HS,hb2⟩
    case measure=>simp[intOf];omega
  ·have hlt':¬(k:Int)<n:=by omega
   obtain rfl:k=n:=by omega
   go_wp2;go_ret;exact⟨qad (qlz qci l _ HL.out hT.out).symm,hb⟩
theorem list_ints (ao:Option Addr) (n cap:Nat) (l:List Int) (w:World) (hr:IRd w ao n cap l) :
  Calls Tryz.prog 255 #[.slice ao n cap,.func (.func 256) #[] #[]] w fun e w'=>e=.returned (.bool (l.all qci&&inB n 1 4))∧Below w.heap.size w w':=by
 by_cases h1:n<1
 ·obtain rfl:n=0:=by omega
  rw[qng (by omega),Bool.and_false];go_enter Tryz.func255,Tryz.ntmps255;go_wp2;go_ret;exact⟨rfl,Below.refl _ _⟩
 by_cases h2:4<n
 ·have h1':(1:Int)≤(n:Int):=by omega
  have h1n:1≤n:=by omega
  have h1p:0<n:=by omega
  have h2':¬(n:Int)≤4:=by omega
  rw[qnf (by omega),Bool.and_false];go_enter Tryz.func255,Tryz.ntmps255;go_wp2;go_ret;exact⟨rfl,Below.refl _ _⟩
 have h1':(1:Int)≤(n:Int):=by omega
 have h1n:1≤n:=by omega
 have h1p:0<n:=by omega
 have h2':(n:Int)≤4:=by omega
 have e14:inB (n:Int) 1 4=true:=qey (by omega) (by omega);rw[e14,Bool.and_true];clear e14;go_enter Tryz.func255,Tryz.ntmps255;go_wp2_with fail
 refine (each_ints ao n cap l _ hr).mono ?_;rintro e w2 ⟨rfl,hb⟩;go_wp2;go_ret;exact⟨rfl,hb⟩
theorem each_strs (ao:Option Addr) (n cap:Nat) (l:List ByteArray) (w:World) (hr:SRd w ao n cap l) (hs:∀s∈l,s.size≤1048576) :
  Calls Tryz.prog 262 #[.slice ao n cap,.func (.func 250) #[] #[]] w fun e w'=>e=.returned (.bool (l.all flt))∧Below w.heap.size w w':=by
 have HL:Hid (l.length=n):=hr.1.1;have hM:n≤maxLen:=Nat.le_trans hr.2.1 hr.2.2.1;unfold maxLen at hM;go_enter Tryz.func262,Tryz.ntmps262;go_wp2
 go_loopw [9] (fun i wr=>∃k:Nat,i=.int .i64 k∧k≤n∧Hid ((l.take k).all flt=true)∧Below w.heap.size w wr) (fun i _=>n-(intOf i).toNat)
 case atStart=>exact⟨0,rfl,Nat.zero_le _,rfl,Below.refl _ _⟩
 case round=>
  obtain⟨k,rfl,hk,hT,hb⟩:=hrel
  by_cases hlt:k<n
  ·obtain⟨b,off,e,hc⟩:=hr.1.2 k hlt;subst e;have hck:wr.cell? ⟨b,off+k,none⟩ = some (.string (st l k)):=(hb.cell (World.block_lt_of_cell? w _ hc)).trans hc;clear hc;have hlt':(k:Int)<n:=by omega
   have hkl:Hid (k<l.length):=by show k<l.length;rw[HL.out];exact hlt
   go_wp2_with fail
   refine (qla (st l k) _ (hs _ (qub hkl.out))).mono ?_;rintro e w2 ⟨he,hw2⟩;have hb2:=bel hb hw2;obtain rfl:e=.returned (.bool (flt (st l k))):=he;cases hv:flt (st l k)
   ·have HN:Hid (l.all flt=false):=qoh flt l ByteArray.empty k hkl.out hv;clear hv;go_wp2;go_ret;exact⟨qad HN.out.symm,hb2⟩
   ·have HS:Hid ((l.take (k+1)).all flt=true):=qib flt l ByteArray.empty k hkl.out hT.out hv;clear hv;go_wp2;go_roundw
    case rel=>exact⟨k+1,by go_num,by omega,HS,hb2⟩
    case measure=>simp[intOf];omega
  ·have hlt':¬(k:Int)<n:=by omega
   obtain rfl:k=n:=by omega
   go_wp2;go_ret;exact⟨qad (qlz flt l _ HL.out hT.out).symm,hb⟩
theorem list_strs (ao:Option Addr) (n cap:Nat) (l:List ByteArray) (w:World) (hr:SRd w ao n cap l) (hs:∀s∈l,s.size≤1048576) :
  Calls Tryz.prog 261 #[.slice ao n cap,.func (.func 250) #[] #[]] w fun e w'=>e=.returned (.bool (l.all flt&&inB n 1 4))∧Below w.heap.size w w':=by
 by_cases h1:n<1
 ·obtain rfl:n=0:=by omega
  rw[qng (by omega),Bool.and_false];go_enter Tryz.func261,Tryz.ntmps261;go_wp2;go_ret;exact⟨rfl,Below.refl _ _⟩
 by_cases h2:4<n
 ·have h1':(1:Int)≤(n:Int):=by omega
  have h1n:1≤n:=by omega
  have h1p:0<n:=by omega
  have h2':¬(n:Int)≤4:=by omega
  rw[qnf (by omega),Bool.and_false];go_enter Tryz.func261,Tryz.ntmps261;go_wp2;go_ret;exact⟨rfl,Below.refl _ _⟩
 have h1':(1:Int)≤(n:Int):=by omega
 have h1n:1≤n:=by omega
 have h1p:0<n:=by omega
 have h2':(n:Int)≤4:=by omega
 have e14:inB (n:Int) 1 4=true:=qey (by omega) (by omega);rw[e14,Bool.and_true];clear e14;go_enter Tryz.func261,Tryz.ntmps261;go_wp2_with fail
 refine (each_strs ao n cap l _ hr hs).mono ?_;rintro e w2 ⟨rfl,hb⟩;go_wp2;go_ret;exact⟨rfl,hb⟩
theorem wt_mem {l:List (ByteArray×Int)} {k:Nat} (h:k<l.length):(wf l k,wq l k)∈l:=by
 have e:(wf l k,wq l k)=l[k]'h:=by simp[wf,wq,List.getD_eq_getElem?_getD,List.getElem?_eq_getElem h]
 rw[e];exact List.getElem_mem h
theorem each_wants (ao:Option Addr) (n cap:Nat) (l:List (ByteArray×Int)) (w:World) (hr:WRd w ao n cap l) (hs:∀x∈l,x.1.size≤1048576) :
  Calls Tryz.prog 249 #[.slice ao n cap,.func (.func 248) #[] #[]] w fun e w'=>e=.returned (.bool (l.all qcm))∧Below w.heap.size w w':=by
 have HL:Hid (l.length=n):=hr.1.1;have hM:n≤maxLen:=Nat.le_trans hr.2.1 hr.2.2.1;unfold maxLen at hM;go_enter Tryz.func249,Tryz.ntmps249;go_wp2
 go_loopw [9] (fun i wr=>∃k:Nat,i=.int .i64 k∧k≤n∧Hid ((l.take k).all qcm=true)∧Below w.heap.size w wr) (fun i _=>n-(intOf i).toNat)
 case atStart=>exact⟨0,rfl,Nat.zero_le _,rfl,Below.refl _ _⟩
 case round=>
  obtain⟨k,rfl,hk,hT,hb⟩:=hrel
  by_cases hlt:k<n
  ·obtain⟨b,off,e,hc,hd⟩:=hr.1.2 k hlt;subst e;have hck:wr.cell? ⟨b,off+k*2,none⟩ = some (.string (wf l k)):=(hb.cell (World.block_lt_of_cell? w _ hc)).trans hc;have hdk:wr.cell? ⟨b,off+k*2+1,none⟩ = some (.int .i64 (wq l k)):=(hb.cell (World.block_lt_of_cell? w _ hd)).trans hd;clear hc hd;have hlt':(k:Int)<n:=by omega
   have hkl:Hid (k<l.length):=by show k<l.length;rw[HL.out];exact hlt
   go_wp2_with fail
   refine (isWant_i (wf l k) (wq l k) _ (hs _ (wt_mem hkl.out))).mono ?_;rintro e w2 ⟨rfl,hw2⟩;have hb2:=bel hb (bel (qac _ _) hw2);cases hv:qcm (wf l k,wq l k)
   ·have HN:Hid (l.all qcm=false):=qoh qcm l (ByteArray.empty,0) k hkl.out hv;clear hv;go_wp2;go_ret;exact⟨qad HN.out.symm,hb2⟩
   ·have HS:Hid ((l.take (k+1)).all qcm=true):=qib qcm l (ByteArray.empty,0) k hkl.out hT.out hv;clear hv;go_wp2;go_roundw
    case rel=>exact⟨k+1,by go_num,by omega,HS,hb2⟩
    case measure=>simp[intOf];omega
  ·have hlt':¬(k:Int)<n:=by omega
   obtain rfl:k=n:=by omega
   go_wp2;go_ret;exact⟨qad (qlz qcm l _ HL.out hT.out).symm,hb⟩
theorem list_wants (ao:Option Addr) (n cap:Nat) (l:List (ByteArray×Int)) (w:World) (hr:WRd w ao n cap l) (hs:∀x∈l,x.1.size≤1048576) :
  Calls Tryz.prog 247 #[.slice ao n cap,.func (.func 248) #[] #[]] w fun e w'=>e=.returned (.bool (l.all qcm&&inB n 1 4))∧Below w.heap.size w w':=by
 by_cases h1:n<1
 ·obtain rfl:n=0:=by omega
  rw[qng (by omega),Bool.and_false];go_enter Tryz.func247,Tryz.ntmps247;go_wp2;go_ret;exact⟨rfl,Below.refl _ _⟩
 by_cases h2:4<n
 ·have h1':(1:Int)≤(n:Int):=by omega
  have h1n:1≤n:=by omega
  have h1p:0<n:=by omega
  have h2':¬(n:Int)≤4:=by omega
  rw[qnf (by omega),Bool.and_false];go_enter Tryz.func247,Tryz.ntmps247;go_wp2;go_ret;exact⟨rfl,Below.refl _ _⟩
 have h1':(1:Int)≤(n:Int):=by omega
 have h1n:1≤n:=by omega
 have h1p:0<n:=by omega
 have h2':(n:Int)≤4:=by omega
 have e14:inB (n:Int) 1 4=true:=qey (by omega) (by omega);rw[e14,Bool.and_true];clear e14;go_enter Tryz.func247,Tryz.ntmps247;go_wp2_with fail
 refine (each_wants ao n cap l _ hr hs).mono ?_;rintro e w2 ⟨rfl,hb⟩;go_wp2;go_ret;exact⟨rfl,hb⟩

def qnm (t:ByteArray) (n:Nat) (q:Int):Bool:=tpc t&&(decide ((n:Int)≤40)&&inB q 0 2)
def conOk (lev:Int) (cli:ByteArray) (kee:Int) (hw:Bool) (wt:ByteArray) (wb:Nat) (wq:Int) (us:ByteArray) (pa:Nat):Bool :=
 (!hw || qnm wt wb wq)&&(inB lev 0 255&&(txt cli&&(inB kee 0 65535&&(txt us&&decide ((pa:Int)≤60)))))
def pubOk (qos id:Int) (top:ByteArray) (n:Nat):Bool:=inB qos 0 2&&((decide (qos=0) || inB id 1 65535)&&(tpc top&&decide ((n:Int)≤40)))
theorem beq_dec (a b:Int):(a==b)=decide (a=b):=by rw[Bool.eq_iff_iff];simp
theorem right_will (t:ByteArray) (b:Sl) (q:Int) (r:Bool) (w:World) (hs:t.size≤1048576) :
  Calls Tryz.prog 194 #[.agg #[.string t,.slice b.a b.n b.c,.int .i64 q,.bool r]] w fun e w'=>e=.returned (.bool (qnm t b.n q))∧Below w.heap.size w w':=by
 unfold qnm tpc;go_enter Tryz.func194,Tryz.ntmps194;go_wp2_with fail
 refine (qjs t _ hs).mono ?_;rintro e w2 ⟨rfl,hb⟩;have c1:w2.cell? ⟨w.heap.size,1,none⟩ = some (.slice b.a b.n b.c):=(hb.cell (by simp)).trans (by simp);have c2:w2.cell? ⟨w.heap.size,2,none⟩ = some (.int .i64 q):=(hb.cell (by simp)).trans (by simp);replace hb:=bel (qac _ _) hb;cases hv:topOk t.data.toList
 ·have V1:Hid (topOk t.data.toList=false):=hv;clear hv;go_wp2;go_ret;exact⟨qad (by rw[V1.out];simp),hb⟩
 have V1:Hid (topOk t.data.toList=true):=hv;clear hv
 by_cases h2:(b.n:Int)≤40
 ·have V2:Hid (decide ((b.n:Int)≤40)=true):=decide_eq_true h2;go_wp2_with fail
  refine (qmh q _).mono ?_;rintro e w3 ⟨rfl,rfl⟩;go_wp2;go_ret;exact⟨qad (by rw[V1.out];rw[V2.out];simp),hb⟩
 ·have V2:Hid (decide ((b.n:Int)≤40)=false):=decide_eq_false h2;go_wp2;go_ret;exact⟨qad (by rw[V1.out];rw[V2.out];simp),hb⟩
theorem right_con (lev:Int) (cli:ByteArray) (cln:Bool) (kee:Int) (hw:Bool) (wt:ByteArray) (wb:Sl) (wq:Int) (wr:Bool) (hu:Bool) (us:ByteArray) (hp:Bool) (pa:Sl) (w:World)
  (h1:cli.size≤1048576) (h2:us.size≤1048576) (h3:wt.size≤1048576) :
  Calls Tryz.prog 228 #[.agg (conC lev cli cln kee hw wt wb wq wr hu us hp pa)] w fun e w'=>e=.returned (.bool (conOk lev cli kee hw wt wb.n wq us pa.n))∧Below w.heap.size w w':=by
 unfold conC conOk txt;have hb:Below w.heap.size w (w.alloc (.cells #[.int .i64 lev,.string cli,.bool cln,.int .i64 kee,.bool hw,.string wt,.slice wb.a wb.n wb.c,.int .i64 wq,.bool wr,.bool hu,.string us,.bool hp,.slice pa.a pa.n pa.c] 124)):=qac _ _;have f0:(w.alloc (.cells #[.int .i64 lev,.string cli,.bool cln,.int .i64 kee,.bool hw,.string wt,.slice wb.a wb.n wb.c,.int .i64 wq,.bool wr,.bool hu,.string us,.bool hp,.slice pa.a pa.n pa.c] 124)).cell? ⟨w.heap.size,0,none⟩ = some (.int .i64 lev):=by simp
 have f1:(w.alloc (.cells #[.int .i64 lev,.string cli,.bool cln,.int .i64 kee,.bool hw,.string wt,.slice wb.a wb.n wb.c,.int .i64 wq,.bool wr,.bool hu,.string us,.bool hp,.slice pa.a pa.n pa.c] 124)).cell? ⟨w.heap.size,1,none⟩ = some (.string cli):=by simp
 have f3:(w.alloc (.cells #[.int .i64 lev,.string cli,.bool cln,.int .i64 kee,.bool hw,.string wt,.slice wb.a wb.n wb.c,.int .i64 wq,.bool wr,.bool hu,.string us,.bool hp,.slice pa.a pa.n pa.c] 124)).cell? ⟨w.heap.size,3,none⟩ = some (.int .i64 kee):=by simp
 have f10:(w.alloc (.cells #[.int .i64 lev,.string cli,.bool cln,.int .i64 kee,.bool hw,.string wt,.slice wb.a wb.n wb.c,.int .i64 wq,.bool wr,.bool hu,.string us,.bool hp,.slice pa.a pa.n pa.c] 124)).cell? ⟨w.heap.size,10,none⟩ = some (.string us):=by simp
 have f12:(w.alloc (.cells #[.int .i64 lev,.string cli,.bool cln,.int .i64 kee,.bool hw,.string wt,.slice wb.a wb.n wb.c,.int .i64 wq,.bool wr,.bool hu,.string us,.bool hp,.slice pa.a pa.n pa.c] 124)).cell? ⟨w.heap.size,12,none⟩ = some (.slice pa.a pa.n pa.c):=by simp
 cases hw
 ·have V0:Hid ((!false || qnm wt wb.n wq)=true):=rfl;go_enter Tryz.func228,Tryz.ntmps228;go_wp2_with fail
  refine (isByte_i lev _).mono ?_;rintro e z1 ⟨rfl,hz1⟩;subst hz1;cases hv:inB lev 0 255
  ·have V1:Hid (inB lev 0 255=false):=hv;clear hv;go_wp2;go_ret;exact⟨qad (by rw[V0.out];rw[V1.out];simp),hb⟩
  have V1:Hid (inB lev 0 255=true):=hv;clear hv;go_wp2_with fail
  refine (qdf cli _ (by omega)).mono ?_;rintro e z2 ⟨rfl,hz2⟩;replace f3:z2.cell? ⟨w.heap.size,3,none⟩ = some (.int .i64 kee):=(hz2.cell (World.block_lt_of_cell? _ _ f3)).trans f3;replace f10:z2.cell? ⟨w.heap.size,10,none⟩ = some (.string us):=(hz2.cell (World.block_lt_of_cell? _ _ f10)).trans f10;replace f12:z2.cell? ⟨w.heap.size,12,none⟩ = some (.slice pa.a pa.n pa.c):=(hz2.cell (World.block_lt_of_cell? _ _ f12)).trans f12;replace hb:=bel hb hz2;clear hz2;cases hv:okT cli.data.toList
  ·have V2:Hid (okT cli.data.toList=false):=hv;clear hv;go_wp2;go_ret;exact⟨qad (by rw[V0.out];rw[V1.out];rw[V2.out];simp),hb⟩
  have V2:Hid (okT cli.data.toList=true):=hv;clear hv;go_wp2_with fail
  refine (isWord_i kee _).mono ?_;rintro e z3 ⟨rfl,hz3⟩;subst hz3;cases hv:inB kee 0 65535
  ·have V3:Hid (inB kee 0 65535=false):=hv;clear hv;go_wp2;go_ret;exact⟨qad (by rw[V0.out];rw[V1.out];rw[V2.out];rw[V3.out];simp),hb⟩
  have V3:Hid (inB kee 0 65535=true):=hv;clear hv;go_wp2_with fail
  refine (qdf us _ (by omega)).mono ?_;rintro e z4 ⟨rfl,hz4⟩;replace f12:z4.cell? ⟨w.heap.size,12,none⟩ = some (.slice pa.a pa.n pa.c):=(hz4.cell (World.block_lt_of_cell? _ _ f12)).trans f12;replace hb:=bel hb hz4;clear hz4;cases hv:okT us.data.toList
  ·have V4:Hid (okT us.data.toList=false):=hv;clear hv;go_wp2;go_ret;exact⟨qad (by rw[V0.out];rw[V1.out];rw[V2.out];rw[V3.out];rw[V4.out];simp),hb⟩
  have V4:Hid (okT us.data.toList=true):=hv;clear hv;go_wp2;go_ret;exact⟨qad (by rw[V0.out];rw[V1.out];rw[V2.out];rw[V3.out];rw[V4.out];simp),hb⟩
 ·go_enter Tryz.func228,Tryz.ntmps228;go_wp2_with fail
  refine (right_will wt wb wq wr _ h3).mono ?_;rintro e z0 ⟨rfl,hz0⟩;replace f0:z0.cell? ⟨w.heap.size,0,none⟩ = some (.int .i64 lev):=(hz0.cell (World.block_lt_of_cell? _ _ f0)).trans f0;replace f1:z0.cell? ⟨w.heap.size,1,none⟩ = some (.string cli):=(hz0.cell (World.block_lt_of_cell? _ _ f1)).trans f1;replace f3:z0.cell? ⟨w.heap.size,3,none⟩ = some (.int .i64 kee):=(hz0.cell (World.block_lt_of_cell? _ _ f3)).trans f3;replace f10:z0.cell? ⟨w.heap.size,10,none⟩ = some (.string us):=(hz0.cell (World.block_lt_of_cell? _ _ f10)).trans f10;replace f12:z0.cell? ⟨w.heap.size,12,none⟩ = some (.slice pa.a pa.n pa.c):=(hz0.cell (World.block_lt_of_cell? _ _ f12)).trans f12;replace hb:=bel hb hz0;clear hz0;cases hv:qnm wt wb.n wq
  ·have V0:Hid ((!true || qnm wt wb.n wq)=false):=by show _=_;rw[hv];rfl
   clear hv;go_wp2;go_ret;exact⟨qad (by rw[V0.out];simp),hb⟩
  have V0:Hid ((!true || qnm wt wb.n wq)=true):=by show _=_;rw[hv];rfl
  clear hv;go_wp2_with fail
  refine (isByte_i lev _).mono ?_;rintro e z1 ⟨rfl,hz1⟩;subst hz1;cases hv:inB lev 0 255
  ·have V1:Hid (inB lev 0 255=false):=hv;clear hv;go_wp2;go_ret;exact⟨qad (by rw[V0.out];rw[V1.out];simp),hb⟩
  have V1:Hid (inB lev 0 255=true):=hv;clear hv;go_wp2_with fail
  refine (qdf cli _ (by omega)).mono ?_;rintro e z2 ⟨rfl,hz2⟩;replace f3:z2.cell? ⟨w.heap.size,3,none⟩ = some (.int .i64 kee):=(hz2.cell (World.block_lt_of_cell? _ _ f3)).trans f3;replace f10:z2.cell? ⟨w.heap.size,10,none⟩ = some (.string us):=(hz2.cell (World.block_lt_of_cell? _ _ f10)).trans f10;replace f12:z2.cell? ⟨w.heap.size,12,none⟩ = some (.slice pa.a pa.n pa.c):=(hz2.cell (World.block_lt_of_cell? _ _ f12)).trans f12;replace hb:=bel hb hz2;clear hz2;cases hv:okT cli.data.toList
  ·have V2:Hid (okT cli.data.toList=false):=hv;clear hv;go_wp2;go_ret;exact⟨qad (by rw[V0.out];rw[V1.out];rw[V2.out];simp),hb⟩
  have V2:Hid (okT cli.data.toList=true):=hv;clear hv;go_wp2_with fail
  refine (isWord_i kee _).mono ?_;rintro e z3 ⟨rfl,hz3⟩;subst hz3;cases hv:inB kee 0 65535
  ·have V3:Hid (inB kee 0 65535=false):=hv;clear hv;go_wp2;go_ret;exact⟨qad (by rw[V0.out];rw[V1.out];rw[V2.out];rw[V3.out];simp),hb⟩
  have V3:Hid (inB kee 0 65535=true):=hv;clear hv;go_wp2_with fail
  refine (qdf us _ (by omega)).mono ?_;rintro e z4 ⟨rfl,hz4⟩;replace f12:z4.cell? ⟨w.heap.size,12,none⟩ = some (.slice pa.a pa.n pa.c):=(hz4.cell (World.block_lt_of_cell? _ _ f12)).trans f12;replace hb:=bel hb hz4;clear hz4;cases hv:okT us.data.toList
  ·have V4:Hid (okT us.data.toList=false):=hv;clear hv;go_wp2;go_ret;exact⟨qad (by rw[V0.out];rw[V1.out];rw[V2.out];rw[V3.out];rw[V4.out];simp),hb⟩
  have V4:Hid (okT us.data.toList=true):=hv;clear hv;go_wp2;go_ret;exact⟨qad (by rw[V0.out];rw[V1.out];rw[V2.out];rw[V3.out];rw[V4.out];simp),hb⟩
theorem right_ack (cod:Int) (pre:Bool) (w:World) :
  Calls Tryz.prog 236 #[.agg #[.int .i64 cod,.bool pre]] w fun e w'=>e=.returned (.bool (inB cod 0 5))∧Below w.heap.size w w':=by
 by_cases h1:0≤cod
 ·by_cases h2:cod≤5
  ·rw[qey h1 h2];go_enter Tryz.func236,Tryz.ntmps236;go_wp2;go_ret;exact⟨qad (by simp[h2]),qac _ _⟩
  ·rw[qnf (by omega)];go_enter Tryz.func236,Tryz.ntmps236;go_wp2;go_ret;exact⟨qad (by simp[h2]),qac _ _⟩
 ·rw[qng (by omega)];go_enter Tryz.func236,Tryz.ntmps236;go_wp2;go_ret;exact⟨rfl,qac _ _⟩
theorem qlu (id:Int) (w:World) :
  Calls Tryz.prog 243 #[.agg #[.int .i64 id]] w fun e w'=>e=.returned (.bool (inB id 1 65535))∧Below w.heap.size w w':=by
 go_enter Tryz.func243,Tryz.ntmps243;go_wp2_with fail
 refine (qtg id _).mono ?_;rintro e z ⟨rfl,rfl⟩;go_wp2;go_ret;exact⟨rfl,qac _ _⟩
theorem qsk (w:World) :
  Calls Tryz.prog 265 #[.agg #[]] w fun e w'=>e=.returned (.bool true)∧Below w.heap.size w w':=by
 go_enter Tryz.func265,Tryz.ntmps265;go_wp2;go_ret;exact⟨rfl,by go_grown⟩
theorem right_pub (dup:Bool) (qos:Int) (ret:Bool) (id:Int) (top:ByteArray) (b:Sl) (w:World) (hs:top.size≤1048576) :
  Calls Tryz.prog 239 #[.agg (pubC dup qos ret id top b)] w fun e w'=>e=.returned (.bool (pubOk qos id top b.n))∧Below w.heap.size w w':=by
 unfold pubC pubOk tpc;have hb:Below w.heap.size w (w.alloc (.cells #[.bool dup,.int .i64 qos,.bool ret,.int .i64 id,.string top,.slice b.a b.n b.c] 129)):=qac _ _;have f5:(w.alloc (.cells #[.bool dup,.int .i64 qos,.bool ret,.int .i64 id,.string top,.slice b.a b.n b.c] 129)).cell? ⟨w.heap.size,5,none⟩ = some (.slice b.a b.n b.c):=by simp
 go_enter Tryz.func239,Tryz.ntmps239;go_wp2_with fail
 refine (qmh qos _).mono ?_;rintro e z1 ⟨rfl,rfl⟩;cases hv:inB qos 0 2
 ·have V1:Hid (inB qos 0 2=false):=hv;clear hv;go_wp2;go_ret;exact⟨qad (by rw[V1.out];simp),hb⟩
 have V1:Hid (inB qos 0 2=true):=hv;clear hv
 by_cases h0:qos=0
 ·have V2:Hid ((decide (qos=0) || inB id 1 65535)=true):=by show _=_;rw[decide_eq_true h0,Bool.true_or]
  subst h0;go_wp2_with fail
  refine (qjs top _ hs).mono ?_;rintro e z2 ⟨rfl,hz2⟩;replace f5:z2.cell? ⟨w.heap.size,5,none⟩ = some (.slice b.a b.n b.c):=(hz2.cell (World.block_lt_of_cell? _ _ f5)).trans f5;replace hb:=bel hb hz2;clear hz2;cases hv:topOk top.data.toList
  ·have V3:Hid (topOk top.data.toList=false):=hv;clear hv;go_wp2;go_ret;exact⟨qad (by rw[V1.out];rw[V3.out];simp),hb⟩
  have V3:Hid (topOk top.data.toList=true):=hv;clear hv;go_wp2;go_ret;exact⟨qad (by rw[V1.out];rw[V3.out];simp),hb⟩
 have q0:(qos==0)=false:=by simpa using h0
 go_wp2_with fail
 refine (qtg id _).mono ?_;rintro e z1 ⟨rfl,rfl⟩;cases hv:inB id 1 65535
 ·have V2:Hid ((decide (qos=0) || inB id 1 65535)=false):=by show _=_;rw[decide_eq_false h0,hv];rfl
  clear hv h0;go_wp2;go_ret;exact⟨qad (by rw[V1.out];rw[V2.out];simp),hb⟩
 have V2:Hid ((decide (qos=0) || inB id 1 65535)=true):=by show _=_;rw[hv,Bool.or_true]
 clear hv h0;go_wp2_with fail
 refine (qjs top _ hs).mono ?_;rintro e z2 ⟨rfl,hz2⟩;replace f5:z2.cell? ⟨w.heap.size,5,none⟩ = some (.slice b.a b.n b.c):=(hz2.cell (World.block_lt_of_cell? _ _ f5)).trans f5;replace hb:=bel hb hz2;clear hz2;cases hv:topOk top.data.toList
 ·have V3:Hid (topOk top.data.toList=false):=hv;clear hv;go_wp2;go_ret;exact⟨qad (by rw[V1.out];rw[V2.out];rw[V3.out];simp),hb⟩
 have V3:Hid (topOk top.data.toList=true):=hv;clear hv;go_wp2;go_ret;exact⟨qad (by rw[V1.out];rw[V2.out];rw[V3.out];simp),hb⟩
theorem qqa (id:Int) (b:Sl) (l:List (ByteArray×Int)) (w:World) (hr:WRd w b.a b.n b.c l) (hs:∀x∈l,x.1.size≤1048576) :
  Calls Tryz.prog 246 #[.agg #[.int .i64 id,.slice b.a b.n b.c]] w fun e w'=>e=.returned (.bool (inB id 1 65535&&(l.all qcm&&inB b.n 1 4)))∧Below w.heap.size w w':=by
 go_enter Tryz.func246,Tryz.ntmps246;go_wp2_with fail
 refine (qtg id _).mono ?_;rintro e z1 ⟨rfl,rfl⟩;cases hv:inB id 1 65535
 ·have V1:Hid (inB id 1 65535=false):=hv;clear hv;go_wp2;go_ret;exact⟨qad (by rw[V1.out];simp),qac _ _⟩
 have V1:Hid (inB id 1 65535=true):=hv;clear hv;go_wp2_with fail
 refine (list_wants _ _ _ l _ (hr.below (qac _ _)) hs).mono ?_;rintro e z2 ⟨rfl,hz2⟩;go_wp2;go_ret;exact⟨qad (by rw[V1.out];simp),bel (qac _ _) hz2⟩
theorem qtw (id:Int) (b:Sl) (l:List Int) (w:World) (hr:IRd w b.a b.n b.c l) :
  Calls Tryz.prog 254 #[.agg #[.int .i64 id,.slice b.a b.n b.c]] w fun e w'=>e=.returned (.bool (inB id 1 65535&&(l.all qci&&inB b.n 1 4)))∧Below w.heap.size w w':=by
 go_enter Tryz.func254,Tryz.ntmps254;go_wp2_with fail
 refine (qtg id _).mono ?_;rintro e z1 ⟨rfl,rfl⟩;cases hv:inB id 1 65535
 ·have V1:Hid (inB id 1 65535=false):=hv;clear hv;go_wp2;go_ret;exact⟨qad (by rw[V1.out];simp),qac _ _⟩
 have V1:Hid (inB id 1 65535=true):=hv;clear hv;go_wp2_with fail
 refine (list_ints _ _ _ l _ (hr.below (qac _ _))).mono ?_;rintro e z2 ⟨rfl,hz2⟩;go_wp2;go_ret;exact⟨qad (by rw[V1.out];simp),bel (qac _ _) hz2⟩
theorem qms (id:Int) (b:Sl) (l:List ByteArray) (w:World) (hr:SRd w b.a b.n b.c l) (hs:∀s∈l,s.size≤1048576) :
  Calls Tryz.prog 260 #[.agg #[.int .i64 id,.slice b.a b.n b.c]] w fun e w'=>e=.returned (.bool (inB id 1 65535&&(l.all flt&&inB b.n 1 4)))∧Below w.heap.size w w':=by
 go_enter Tryz.func260,Tryz.ntmps260;go_wp2_with fail
 refine (qtg id _).mono ?_;rintro e z1 ⟨rfl,rfl⟩;cases hv:inB id 1 65535
 ·have V1:Hid (inB id 1 65535=false):=hv;clear hv;go_wp2;go_ret;exact⟨qad (by rw[V1.out];simp),qac _ _⟩
 have V1:Hid (inB id 1 65535=true):=hv;clear hv;go_wp2_with fail
 refine (list_strs _ _ _ l _ (hr.below (qac _ _)) hs).mono ?_;rintro e z2 ⟨rfl,hz2⟩;go_wp2;go_ret;exact⟨qad (by rw[V1.out];simp),bel (qac _ _) hz2⟩
