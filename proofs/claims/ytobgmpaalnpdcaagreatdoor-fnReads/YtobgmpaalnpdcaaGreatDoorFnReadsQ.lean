/- FnReads: whatever it is handed, the law function laws.FnReads returns true, and its arguments read afterwards as before. No condition. -/
import Derived.Test.YtobgmpaalnpdcaaGreatDoorV39
import Derived.Test.YtobgmpaalnpdcaaGreatDoorV36
import Derived.Test.YtobgmpaalnpdcaaGreatDoorV16
import Derived.Test.YtobgmpaalnpdcaaGreatDoorV07
import Derived.Test.YtobgmpaalnpdcaaGreatDoorV44
import Derived.Test.YtobgmpaalnpdcaaGreatDoorV29
import Derived.Test.YtobgmpaalnpdcaaGreatDoorV20
import Derived.Test.YtobgmpaalnpdcaaGreatDoorRows
import Derived.Test.YtobgmpaalnpdcaaGreatDoorTie
import Derived.Test.YtobgmpaalnpdcaaGreatDoorCards
import Derived.LaidMore
import Derived.Lay
import Derived.SevenTiedAt
import Derived.Stop.Joined
import Derived.ChangeSame
import Derived.ChangeVars
import Derived.JoinedOf
import Derived.RowKit
import Derived.LaidLaws
import Derived.LaidHandle
import Derived.WalkKit
import Derived.ProofKit
import Derived.OpenShut
import Derived.ShutString
import Derived.ChangeOld
import Derived.Below
import Derived.Deep.Strs
namespace Go.Proofs.YtobgmpaalnpdcaaGreatDoor
open Go.ChangeShapes Go.WideShapes Go.ChangeAt Go.RowKit
open Go.ChangeMaps (open_string shut_string)
set_option linter.unusedVariables false
set_option linter.unusedSimpArgs false

theorem rs_pgd {p:Pk} {d:Pd} (h:Pgd 256 p d):Plen p 1048576:=(h.mono (by decide)).ln
set_option maxRecDepth 100000 in
set_option maxHeartbeats 8000000 in
theorem fnReads_walk (a0:Option Addr) (len0 cap0:Nat) (l:List UInt8) (w:World) (hT:ErrTy w) (w0:RdIn w a0 len0 cap0 l) :
  Calls Tryz.prog 4 #[.slice a0 len0 cap0] w fun e w'=>e=.returned (.bool true)∧Below w.heap.size w w':=by
 have hTl:1<w.heap.size:=World.block_lt_of_cell? _ _ hT
 by_cases hbig:1048576<len0
 ·go_enter Tryz.func4,Tryz.ntmps4;go_wp2_with fail
  refine (big_lbig _ _ _ true _ (decide_eq_true hbig)).mono ?_;rintro e u ⟨rfl,rfl⟩;go_wp2;go_ret;exact⟨rfl,Below.refl _ _⟩
 have HT:Hid (∀u,Below w.heap.size w u→ErrTy u):=fun u hu=>hT.below hu hTl
 have W0:Hid (∀u,Below w.heap.size w u→RdIn u a0 len0 cap0 l):=fun u hu=>w0.below hu
 clear hT hTl w0;go_enter Tryz.func4,Tryz.ntmps4;go_wp2_with fail
 refine (big_lbig _ _ _ false _ (decide_eq_false hbig)).mono ?_;rintro e u ⟨rfl,hu⟩;rw[hu];clear hu;have hb:Below w.heap.size w w:=Below.refl _ _;go_wp2_with fail
 refine (draw_sDrawPutPacket _ _ _ l _ (W0.out _ hb) (by omega)).mono ?_;rintro e u1 ⟨p,d,rfl,hp,hd,b1⟩;replace hb:=bel hb b1;clear b1;have hsz:=hd.sz;have hln:=rs_pgd hd;have A:Blk (u1.alloc (.cells p.cells 28)) u1.heap.size p:=heap_alloc_new _ _;have b2:=bel_new u1 (.cells p.cells 28);have hP:PRd (u1.alloc (.cells p.cells 28)) p d:=hp.rd.below b2;replace hb:=bel hb b2;clear hp hd b2;go_wp2_with (first | refine var_pk (p:=p) rfl rfl ?_ | refine load_pk A rfl _ rfl rfl ?_ | fail)
 refine (put_iPutPacket p d _ hP hsz hln).mono ?_;rintro e u2 ⟨ab,nb,cb,rfl,hO,b2⟩;generalize u1.heap.size=g3 at *;replace A:=A.next b2;replace hP:=hP.below b2;replace hb:=bel hb b2;have hR:=hO.rd;clear hO b2;cases hok:(pv p d).ok with
 |false=>
  rw[bytes_no hok] at hR;obtain rfl:nb=0:=by simpa using hR.1.1.symm
  go_wp2_with fail
  refine (get_i ab 0 cb [] _ hR (by omega) (HT.out _ hb)).mono ?_;intro e u3 hh;unfold Got at hh;rw[getP_nil] at hh;obtain⟨p3,d3,rfl,ow3,gd3,hpv3,b3⟩:=hh;replace hb:=bel hb b3;replace hb:=bel hb (bel_new u3 (.cells p3.cells 28));clear A hP hR b3 ow3;go_wp2_with (first | refine var_pk (p:=p3) rfl rfl ?_ | fail)
  go_ret;exact⟨rfl,hb⟩
 |true=>
  have hlen:=len_345 hok;have HN:Hid ((pv p d).bytes.length=nb):=hR.1.1;rw[hR.1.1] at hlen;have h0:((nb:Int)==0)=false:=by simp;omega
  go_wp2_with fail
  refine (draw_sDrawGetPacket _ _ _ l _ (W0.out _ hb) (by omega)).mono ?_;rintro e u3 ⟨at_,mt,ct,t,hmt,rfl,hOt,b3⟩;replace A:=A.next b3;replace hP:=hP.below b3;replace hR:=hR.below b3;replace hb:=bel hb b3;have hRt:=hOt.rd;clear hOt b3;have hs3:u3.heap.size<(u3.alloc (.cells #[] 5)).heap.size:=by simp
  go_wp2_with (at_builtin;refine w_app _ rfl _ _ rfl u3.heap.size _ 0 _ [] rfl (own_lit0 u3) _ _ _ (pv p d).bytes rfl (hR.alloc _) (by omega) (by simp) ?_)
  intro a4 c4 u4 ho4 hg4;have b4:Below u3.heap.size u3 u4:=below_grow (bel_new u3 (.cells #[] 5)) (Nat.le_of_lt hs3) (own_lit0 u3) hg4;clear hg4;have hRt4:=hRt.below b4;have hs4:=b4.size;go_wp2_with (at_builtin;refine w_app _ rfl _ _ rfl u3.heap.size _ _ _ _ rfl ho4 _ _ _ t rfl hRt4 (by omega) hs4 ?_)
  intro a5 c5 u5 ho5 hg5;have b5:Below u3.heap.size u3 u5:=below_grow b4 hs4 ho4 hg5;clear hg5 hRt4 hs4 b4 ho4 hRt;replace A:=A.next b5;replace hP:=hP.below b5;replace hR:=hR.below b5;replace hb:=bel hb b5;have hr5:=ho5.rd;clear b5 ho5;have hG5:getP ((pv p d).bytes++t)=(pv p d,(nb:Int),0):=by
   have e1:=getP_good (b:=(pv p d).bytes++t) hok (begins_iff.2 ⟨t,rfl⟩);rw[e1,HN.out]
  go_wp2_with fail
  refine (get_i _ _ _ _ _ hr5 (by omega) (HT.out _ hb)).mono ?_;intro e u6 hh;unfold Got at hh;rw[hG5] at hh;obtain⟨p6,d6,rfl,ow6,gd6,hpv6,b6⟩:=hh;replace A:=A.next b6;replace hP:=hP.below b6;replace hR:=hR.below b6;replace hb:=bel hb b6;clear b6 hG5 hr5;have HPV:Hid (pv p6 d6=pv p d):=hpv6;clear hpv6;have D:Blk (u6.alloc (.cells p6.cells 28)) u6.heap.size p6:=heap_alloc_new _ _;have b7:=bel_new u6 (.cells p6.cells 28);have hQ:PRd (u6.alloc (.cells p6.cells 28)) p6 d6:=ow6.rd.below b7;replace A:=A.next b7;replace hP:=hP.below b7;replace hR:=hR.below b7;replace hb:=bel hb b7;clear b7 ow6;go_wp2_with (first | refine var_pk (p:=p6) rfl rfl ?_ | fail)
  refine (at_lat _ _ _ 3 l _ (W0.out _ hb) (by omega) (by omega)).mono ?_;rintro e u7 ⟨z,hz,rfl,hu⟩;rw[hu];clear hu;obtain⟨k,hk,hkn⟩ : ∃k:Nat,((z:Int)).tmod (nb:Int)=k∧k<nb:=⟨z%nb,by rw[Int.tmod_eq_emod_of_nonneg (by omega)];simp,Nat.mod_lt _ (by omega)⟩;have hcb:=hR.2.1;have hsl:∀w',(Instr.slice 22 (.slice ab nb cb) none (some (.int .i64 (k:Int))) none).run Tryz.prog w'=.ok (.slice ab k cb) w':=fun w'=>slice_head ab nb cb k (by omega) w'
  have hn0:nb≠0:=by omega
  have hni:(nb:Int)≠0:=by omega
  go_wp2_with fail
  refine (get_i ab k cb _ _ (rd_headS hR (by omega)) (by omega) (HT.out _ hb)).mono ?_;intro e u8 hh;unfold Got at hh;rw[getP_part hok (by rw[HN.out];exact hkn)] at hh;obtain⟨p8,d8,rfl,ow8,gd8,hpv8,b8⟩:=hh;clear ow8 gd8 hpv8;replace A:=A.next b8;replace hP:=hP.below b8;replace hQ:=hQ.below b8;replace D:=D.next b8;replace hb:=bel hb b8;have b9:=bel_new u8 (.cells p8.cells 28);replace A:=A.next b9;replace hP:=hP.below b9;replace hQ:=hQ.below b9;replace D:=D.next b9;replace hb:=bel hb b9;clear b8 b9 hsl hR;go_wp2_with (first | refine var_pk (p:=p8) rfl rfl ?_ | refine load_pk D rfl _ rfl rfl ?_ | refine load_pk A rfl _ rfl rfl ?_ | fail)
  refine (same_iSamePacket p6 p d6 d _ hQ hP).mono ?_;rintro e u10 ⟨rfl,b10⟩;replace hb:=bel hb b10;have hdt:decide (pv p6 d6=pv p d)=true:=decide_eq_true HPV.out;rw[hdt];clear hdt;go_wp2;go_ret;exact⟨rfl,hb⟩

theorem fnReads_et : Tryz.prog.globalNamed "errors.errorType" = some 1 := by kernel_rfl
theorem fnReads_rt : (Tryz.prog.cutTypes.find? (·.1 == "internal/reflectlite.rtype")).map (·.2) = some 196 := by kernel_rfl
theorem fnReads_oneRow:((List.range 275).filter fun t=>Tryz.prog.rowNamed t [101,114,114,111,114]) = [94]:=by kernel_rfl
theorem fnReads_size:Tryz.prog.types.size=275:=by kernel_rfl
/-- What the condition gives a walk: the variable's one cell. -/
theorem fnReads_handle {W:World} (h:laidMetH Tryz.prog Rows.fnReadsRow.laid W):ErrTy W:=by
 have h':laidMet Tryz.prog [] W∧handlesMet Tryz.prog Rows.fnReadsRow.laid W:=h;obtain⟨name,u,ty,e1,e2,e3,e4,e5⟩:=h'.2 _ (List.mem_singleton.2 rfl);have en:name = [101,114,114,111,114]:=(Option.some.inj e1).symm;subst en;obtain rfl:=Option.some.inj (fnReads_rt.symm.trans e2);have hm:ty∈(List.range 275).filter fun t=>Tryz.prog.rowNamed t [101,114,114,111,114]:=List.mem_filter.2 ⟨List.mem_range.2 (by rw[←fnReads_size];exact e3),e4⟩
 rw[fnReads_oneRow] at hm;obtain rfl:=List.mem_singleton.1 hm;have hh:typeHandle Tryz.prog 94=.pointer (some ⟨5,94,none⟩):=by kernel_rfl
 rw[hh] at e5;unfold ErrTy
 simpa using World.var?_cell fnReads_et e5 0
/-- A world that meets the condition: the settled one, the variable's cell laid. -/
noncomputable def fnReads_world (os:Os):World :=
 let w0:=World.holding Tryz.prog os ⟨#[],#[],[]⟩
 { w0 with heap:=w0.heap.modify 1 fun
   |.cells _ t frozen=>.cells #[.iface 196 (.agg #[.pointer (some ⟨5,94,none⟩)])] t frozen
   |o=>o }
theorem fnReads_met (os:Os) (args:Array Value):laidMetH Tryz.prog Rows.fnReadsRow.laid ((fnReads_world os).forCall (fun _ _=>0) ⟨#[],args,[]⟩).memory :=
 laidMetH_of_parts (laidMet_nil _ _) (by kernel_rfl)
namespace fnReads
theorem own:ownKnob Tryz.prog.godebug=none:=by kernel_rfl
theorem laidOut:laidOutB Tryz.prog=true:=by kernel_rfl
set_option maxRecDepth 100000 in
theorem lifted (os:Os) (started:os.Started) (H:Type) (enc:TypeId×Value→H) :
  ReturnsInHanded {} Tryz.checked os 4 .any (fun w args=>(Rows.fnReadsSpec.pre enc Tryz.prog Tryz.f4 Rows.fnReadsRow.domain false w args∧laidMetH Tryz.prog Rows.fnReadsRow.laid w)∧sizedMet enc Tryz.prog Tryz.f4 (OpenSpec.ofChange Rows.fnReadsSpec) false w args) (Rows.fnReadsSpec.post enc Tryz.prog Tryz.f4 false true false false):=by
 refine returnsInHanded_of_change_and (C:=Tryz.checked) (X:=fun w _=>laidMetH Tryz.prog Rows.fnReadsRow.laid w) (fun _ _ _ hh h=>h.of_heap hh) own started (by kernel_rfl) Tryz.func4
  (ChangeSpec.witness_at (enc:=enc) (C:=Tryz.checked) (os:=os) (X:=fun w _=>laidMetH Tryz.prog Rows.fnReadsRow.laid w) false (fnReads_world os) #[.slice none 0 0] 8 rfl (by kernel_rfl) (by kernel_rfl) (by kernel_rfl) (by kernel_rfl) (by kernel_rfl) (fnReads_met os _)) ?_
 intro W base args ds gs before hval0 hW hcnd _ hL _;have hval:∀(j:Nat) t v,Tryz.f4.params[j]? = some t→args[j]? = some v→Value.okWide Tryz.prog W .any base t v:=hval0;have hW':=hW;obtain⟨p,q,hA0,hV,rfl,hfz,hnd⟩:=hW;have hA:DataW.TrodAll enc Tryz.prog W 0 (fun _=>true) true Tryz.f4.params.toList args.toList ds p:=hA0;rw[Tryz.params4] at hA hval;obtain⟨v0,vs0,d0,ds0,p0,q0,hargs,rfl,rfl,h0,r0⟩:=trodAll_cons hA;obtain⟨rfl,rfl,rfl⟩:=trodAll_nil r0;obtain rfl:args = #[v0]:=by cases args;simp_all
 obtain⟨rfl,rfl⟩:=trodVars_none hV;obtain⟨a0,len0,cap0,rfl⟩:=okWide_slice Tryz.underlying22 (hval 0 22 v0 rfl rfl);have k0:=h0;have lt0:∀x∈p0,x.block<W.heap.size:=by obtain⟨m,hm⟩:=k0;exact DataW.trod_lt m _ _ _ hm
 obtain⟨z0,w0⟩ : ∃l,RdIn W a0 len0 cap0 l:=by
  obtain⟨fuel,hf⟩:=h0
  rcases open_ints Tryz.underlying22 Tryz.underlying5 (by kernel_rfl) hf with ⟨hcs,_⟩ | ⟨x,l,c,zs,hcs,_,hl,hm,hz,_,hcell,hwz⟩
  ·simp[Value.cells] at hcs;obtain⟨rfl,rfl,rfl⟩:=hcs;exact⟨[],RdIn.nil _⟩
  ·simp[Value.cells] at hcs;obtain⟨rfl,rfl,rfl⟩:=hcs;exact RdIn.of_ints hl hm (by simpa using hz) hcell hwz
 clear hA0 hval0;refine (fnReads_walk a0 len0 cap0 z0 W (fnReads_handle hL) w0).mono fun e W' ⟨he,bel⟩=>?_
 subst he;exact⟨_,rfl,_,_,_,[],_,[],hW',trodAll_mk1 (shut_bool Tryz.underlying4 _),(trodAll_cons_mk (Below.trod laidOut (by kernel_rfl) (of_decide_eq_true (by kernel_rfl)) k0 bel lt0) trodAll_mk0),rfl,bel.frame _,fun h=>by cases h⟩

theorem over:Rows.fnReadsRow.holds Tryz.pinned (OpenSpec.ofChange Rows.fnReadsSpec) :=
 OpenClaim.holds_of_wide 4 Tryz.f4 rfl rfl rfl rfl rfl rfl rfl ⟨rfl,rfl,rfl,rfl,rfl⟩ rfl rfl rfl rfl rfl (by kernel_rfl) Tryz.func4 (by kernel_rfl)
  (of_decide_eq_true (by kernel_rfl)) (by unfold Func.isWrapper;first | (rw[if_pos (by decide +kernel)];kernel_rfl) | (rw[if_neg (by decide +kernel)];exact⟨rfl,rfl⟩))
  (fun os started H enc _=>lifted os started H enc)
end fnReads

theorem fnReads_holds:Rows.FnReadsCardSaid :=
 Claim7.holds_tied_plain_at .later [] [.handle] true Rows.fnReadsCard.stood.harness true fnReads.over (fun _ h=>by cases h) (by kernel_rfl) (fun _ h=>by cases h) fnReads_row_tie rfl ⟨rfl,rfl⟩ (by kernel_rfl) rfl
  (fun f fn hf hfn=>by
   obtain rfl:f=4:=Option.some.inj ((show Tryz.prog.funcNamed Rows.fnReadsRow.func=some 4 by kernel_rfl).symm.trans hf) |>.symm
   obtain rfl:fn=Tryz.f4:=(Option.some.inj (Tryz.func4.symm.trans hfn)).symm;exact⟨by kernel_rfl,fun j t ht=>by
    rw[Tryz.params4] at ht;have hm:t∈[22]:=by simpa using Array.mem_of_getElem? ht
    have hall:([22].all fun u=>!Tryz.prog.wantsStandIn u)=true:=by kernel_rfl
    exact (show Tryz.prog.wantsStandIn t=false by simpa using List.all_eq_true.1 hall t hm)⟩)
  (by kernel_rfl)
end Go.Proofs.YtobgmpaalnpdcaaGreatDoor
