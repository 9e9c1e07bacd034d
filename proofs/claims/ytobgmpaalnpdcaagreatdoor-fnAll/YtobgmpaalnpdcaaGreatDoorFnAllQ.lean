/- FnAll: whatever it is handed, the law function laws.FnAll returns true, and its arguments read afterwards as before. No condition. -/
import Derived.Test.YtobgmpaalnpdcaaGreatDoorV46
import Derived.Test.YtobgmpaalnpdcaaGreatDoorV36
import Derived.Test.YtobgmpaalnpdcaaGreatDoorV16
import Derived.Test.YtobgmpaalnpdcaaGreatDoorV07
import Derived.Test.YtobgmpaalnpdcaaGreatDoorV44
import Derived.Test.YtobgmpaalnpdcaaGreatDoorV29
import Derived.Test.YtobgmpaalnpdcaaGreatDoorV20
import Derived.Test.YtobgmpaalnpdcaaGreatDoorV25
import Derived.Test.YtobgmpaalnpdcaaGreatDoorRows
import Derived.Test.YtobgmpaalnpdcaaGreatDoorTie
import Derived.Test.YtobgmpaalnpdcaaGreatDoorCards
import Derived.LaidMore
import Derived.Lay
import Derived.SevenTiedAt
import Derived.Stop.Joined
import Derived.ChangeSame
import Derived.ChangeVars
import Derived.JoinedOf
import Derived.RowKit
import Derived.LaidLaws
import Derived.LaidHandle
import Derived.WalkKit
import Derived.ProofKit
import Derived.OpenShut
import Derived.ShutString
import Derived.ChangeOld
import Derived.Below
import Derived.Deep.Strs
namespace Go.Proofs.YtobgmpaalnpdcaaGreatDoor
open Go.ChangeShapes Go.WideShapes Go.ChangeAt Go.RowKit
open Go.ChangeMaps (open_string shut_string)
set_option linter.unusedVariables false
set_option linter.unusedSimpArgs false

theorem fa_pgd {p:Pk} {d:Pd} (h:Pgd 256 p d):Plen p 1048576:=(h.mono (by decide)).ln
/-- Those that are right. -/
def okl (l:PL):PL:=l.filter fun x=>(pv x.1 x.2).ok
theorem okl_step (l:PL) (t:Nat) (h:t<l.length) (b:Bool) (hb:(pv (pk l t) (pd l t)).ok=b):okl (l.take (t+1))=okl (l.take t)++if b=true then [(pk l t,pd l t)] else []:=by
 have e:(pk l t,pd l t)=l[t]'h:=by simp[pk,pd,List.getD_eq_getElem?_getD,List.getElem?_eq_getElem h]
 rw[List.take_succ_eq_append_getElem h,←e];unfold okl;rw[List.filter_append]
 congr 1
 cases b<;>simp[List.filter,hb]
theorem okl_pvs (l:PL):pvs (okl l)=(pvs l).filter Pv.ok:=by
 unfold pvs okl;rw[List.filter_map];rfl
theorem same2 (ao a2:Option Addr) (n n2 cap cap2:Nat) (l m:PL) (w:World) (hr:QRd w ao n cap l) (hr2:QRd w a2 n2 cap2 m) (he:pvs l=pvs m) (hn:n≤1048576) :
  Calls Tryz.prog 34 #[.slice ao n cap,.slice a2 n2 cap2] w fun e w'=>e=.returned (.bool true)∧Below w.heap.size w w':=by
 have h1:=hr.1.1;have h2:=hr2.1.1;have h3:=congrArg List.length he;rw[pvs_length,pvs_length] at h3;obtain rfl:n2=n:=by omega
 exact same_lsamePackets ao a2 n2 cap cap2 l m w hr hr2 he hn
set_option maxRecDepth 100000 in
set_option maxHeartbeats 8000000 in
theorem fnAll_walk (a0:Option Addr) (len0 cap0:Nat) (l:List UInt8) (w:World) (hT:ErrTy w) (w0:RdIn w a0 len0 cap0 l) :
  Calls Tryz.prog 6 #[.slice a0 len0 cap0] w fun e w'=>e=.returned (.bool true)∧Below w.heap.size w w':=by
 have hTl:1<w.heap.size:=World.block_lt_of_cell? _ _ hT
 by_cases hbig:1048576<len0
 ·go_enter Tryz.func6,Tryz.ntmps6;go_wp2_with fail
  refine (big_lbig _ _ _ true _ (decide_eq_true hbig)).mono ?_;rintro e u ⟨rfl,rfl⟩;go_wp2;go_ret;exact⟨rfl,Below.refl _ _⟩
 have HT:Hid (∀u,Below w.heap.size w u→ErrTy u):=fun u hu=>hT.below hu hTl
 have W0:Hid (∀u,Below w.heap.size w u→RdIn u a0 len0 cap0 l):=fun u hu=>w0.below hu
 clear hT hTl w0;go_enter Tryz.func6,Tryz.ntmps6;go_wp2_with fail
 refine (big_lbig _ _ _ false _ (decide_eq_false hbig)).mono ?_;rintro e u ⟨rfl,hu⟩;rw[hu];clear hu;have hb:Below w.heap.size w w:=Below.refl _ _;go_wp2_with fail
 refine (draw_sDrawWriteAll _ _ _ l _ (W0.out _ hb) (by omega)).mono ?_;rintro e u1 ⟨a1,c1,q1,rfl,hl1,hQ1,hG1,b1⟩;have hR1:=hQ1.rd;replace hb:=bel hb b1;have HS1:Hid (∀x∈q1,Psz x.1 x.2∧Plen x.1 1048576):=fun x hx=>⟨(hG1 x hx).sz,fa_pgd (hG1 x hx)⟩
 clear hQ1 b1 hG1;go_wp2_with fail
 refine (write_i _ _ _ q1 _ hR1 (by omega) HS1.out).mono ?_;rintro e u2 ⟨a2,m2,c2,rfl,hO2,hm2,b2⟩;replace hR1:=hR1.below b2;replace hb:=bel hb b2;have hR2:=hO2.rd;clear hO2 b2;go_wp2_with fail
 refine (all_i _ _ _ _ _ hR2 (by omega) (HT.out _ hb)).mono ?_;rintro e u3 ⟨v3,rfl,hM,b3⟩;unfold Many at hM;rw[many_back] at hM;simp only[many_back];obtain⟨a3,c3,q3,rfl,hQ3,hv3,hG3⟩:=hM;replace hR1:=hR1.below b3;replace hb:=bel hb b3;have hR3:=hQ3.rd;have HV3:Hid (pvs q3=pvs (okl q1)):=hv3.trans (okl_pvs q1).symm;have hl3:q3.length≤5:=by
  have h1:=congrArg List.length HV3.out;rw[pvs_length,pvs_length] at h1;have h2:(okl q1).length≤q1.length:=List.length_filter_le _ _;omega
 clear hQ3 b3 hG3 hv3 hR2 hm2;have H1:Hid (∀u,Below u3.heap.size u3 u→QRd u a1 q1.length c1 q1):=fun u hu=>hR1.below hu
 have H3:Hid (∀u,Below u3.heap.size u3 u→QRd u a3 q3.length c3 q3):=fun u hu=>hR3.below hu
 have HB3:Hid (∀u,Below u3.heap.size u3 u→Below w.heap.size w u):=fun u hu=>bel hb hu
 clear hR1 hR3 hb;go_wp2
 go_loopw [7,8] (fun v i wr=>∃(t:Nat) (a:Option Addr) (c:Nat),i=.int .i64 t∧v=.slice a (List.length (okl (q1.take t))) c∧t≤q1.length∧POwnR wr u3.heap.size a (List.length (okl (q1.take t))) c (pks (okl (q1.take t)))∧Below u3.heap.size u3 wr) (fun _ i _=>q1.length-(intOf i).toNat)
 case atStart=>exact⟨0,_,_,rfl,rfl,Nat.zero_le _,(qown_lit0 u3).row,bel_new _ _⟩
 case round=>
  obtain⟨t,a,c,rfl,rfl,ht,hW,hb⟩:=hrel
  by_cases hlt:t<q1.length
  ·have hlt':(t:Int)<(q1.length:Int):=by omega
   obtain⟨b0,off,rfl,hrg⟩:=(H1.out _ hb).1.2 t hlt;have hP:=(H1.out _ hb).2.1 _ (pk_mem hlt);have hsz:=(HS1.out _ (pk_mem hlt)).1;have HST:Hid (∀b,(pv (pk q1 t) (pd q1 t)).ok=b→okl (q1.take (t+1))=okl (q1.take t)++if b=true then [(pk q1 t,pd q1 t)] else []):=fun b h=>okl_step q1 t hlt b h
   have hlo:(okl (q1.take t)).length≤t:=by
    have h1:(okl (q1.take t)).length≤(q1.take t).length:=List.length_filter_le _ _;rw[List.length_take] at h1;omega
   simp only at hP hsz;generalize pk q1 t=p at hrg hP hsz HST;generalize pd q1 t=d at hP hsz HST;have hix:=idx_p b0 off q1.length c1 t hlt;generalize okl (q1.take t)=ol at hW HST hlo;go_wp2_with (first | refine load_mid hrg rfl _ rfl rfl ?_ | fail)
   refine (ok_iPacketOk p d _ hP hsz).mono ?_;rintro e u5 ⟨rfl,b5⟩;replace hrg:=range_below hrg b5;replace hW:=hW.below b5;replace hb:=bel hb b5;clear b5 hP;cases hok:(pv p d).ok with
   |true=>
    have HS2:=HST.out true hok;rw[if_pos rfl] at HS2;have HS3:Hid (okl (q1.take (t+1))=ol++[(p,d)]):=HS2;have b6:=bel_new u5 (.cells p.cells 28);have hW6:=hW.below b6;have hb6:=bel hb b6;have hs6:=hb6.size;clear HS2 HST hok;go_wp2_with (first | refine load_mid hrg rfl _ rfl rfl ?_ | refine bs_pk (p:=p) rfl _ rfl rfl ?_ | (at_builtin;refine w_papp _ rfl _ _ rfl u3.heap.size _ _ _ (pks ol) rfl hW6 _ p rfl (heap_alloc_new _ _) (by omega) hs6 ?_) | fail)
    intro a7 c7 w7 hW7 hg7;have hb7:=qbelow_grow hb6 hs6 hW6 hg7;clear hg7 hW6 hW hrg hix;go_wp2;go_roundw
    case rel=>
     refine⟨t+1,a7,c7,by go_num,?_,by omega,?_,hb7⟩
     ·rw[HS3.out,List.length_append];rfl
     ·rw[HS3.out,pks_app,List.length_append];exact hW7
    case measure=>simp[intOf];omega
   |false=>
    have HS2:=HST.out false hok;rw[if_neg (by decide),List.append_nil] at HS2;have HS3:Hid (okl (q1.take (t+1))=ol):=HS2;clear HS2 HST hok;go_wp2;go_roundw
    case rel=>
     refine⟨t+1,a,c,by go_num,?_,by omega,?_,hb⟩
     ·rw[HS3.out]
     ·rw[HS3.out];exact hW
    case measure=>simp[intOf];omega
  ·have hlt':¬(t:Int)<(q1.length:Int):=by omega
   rw[List.take_of_length_le (by omega)] at hW;have hRW:QRd wr a (okl q1).length c (okl q1):=hW.rd fun x hx=>(H1.out _ hb).2.1 x (List.mem_filter.1 hx).1
   have e1:q1.take t=q1:=List.take_of_length_le (by omega);rw[e1];have hR3:=H3.out _ hb;have hB:=HB3.out _ hb;clear hW hb H1 H3 HB3 HS1 e1;go_wp2_with fail
   refine (draw_sDrawReadAll _ _ _ l _ (W0.out _ hB) (by omega)).mono ?_;rintro e u6 ⟨a6,m6,c6,y,hm6,rfl,hO6,b6⟩;replace hRW:=hRW.below b6;replace hR3:=hR3.below b6;replace hB:=bel hB b6;have hR6:=hO6.rd;have hy6:=hO6.1;clear hO6 b6;go_wp2_with fail
   refine (all_i _ _ _ y _ hR6 (by omega) (HT.out _ hB)).mono ?_;rintro e u7 ⟨v7,rfl,⟨a7,c7,q7,rfl,hQ7,hv7,hG7⟩,b7⟩;replace hRW:=hRW.below b7;replace hR3:=hR3.below b7;replace hR6:=hR6.below b7;replace hB:=bel hB b7;have hR7:=hQ7.rd;have HS7:Hid (∀x∈q7,Psz x.1 x.2∧Plen x.1 1048576):=fun x hx=>⟨(hG7 x hx).sz,(hG7 x hx).ln⟩
   have HV7:Hid (pvs q7=(many y).1):=hv7;clear hQ7 b7 hG7 hv7;go_wp2_with fail
   refine (all_s _ _ _ y _ hR6 (by omega)).mono ?_;rintro e u8 ⟨v8,rfl,⟨a8,c8,q8,rfl,hQ8,hv8,hG8⟩,b8⟩;replace hRW:=hRW.below b8;replace hR3:=hR3.below b8;replace hR6:=hR6.below b8;replace hR7:=hR7.below b8;replace hB:=bel hB b8;have hR8:=hQ8.rd;have HV8:Hid (pvs q7=pvs q8):=HV7.out.trans hv8.symm;clear hQ8 b8 hG8 hv8;generalize hcm:(many y).2.2=cm;clear hcm;have hq7:q7.length≤2000:=by
    have h1:=congrArg List.length HV7.out;rw[pvs_length] at h1;have h2:=(many_le y).2;omega
   go_wp2_with fail
   refine (same2 _ _ _ _ _ _ q3 (okl q1) _ hR3 hRW HV3.out (by omega)).mono ?_;rintro e u9 ⟨rfl,b9⟩;replace hR6:=hR6.below b9;replace hR7:=hR7.below b9;replace hR8:=hR8.below b9;replace hB:=bel hB b9;clear b9 hRW hR3;go_wp2_with fail
   refine (same2 _ _ _ _ _ _ q7 q8 _ hR7 hR8 HV8.out (by omega)).mono ?_;rintro e u10 ⟨rfl,b10⟩;replace hR6:=hR6.below b10;replace hR7:=hR7.below b10;replace hB:=bel hB b10;clear b10 hR8;go_wp2_with fail
   refine (write_i _ _ _ q7 _ hR7 (by omega) HS7.out).mono ?_;rintro e u11 ⟨a11,m11,c11,rfl,hO11,hm11,b11⟩;replace hR6:=hR6.below b11;replace hB:=bel hB b11;have hR11:=hO11.rd;have hl11:=hO11.1;rw[HV7.out,←many_bytes] at hR11 hl11;have hle:=(many_le y).1;rw[List.length_take] at hl11;have hk:m11=(many y).2.1:=by omega
   subst hk;clear b11 hO11 hR7;go_wp2_with fail
   refine (starts_lstarts _ _ _ _ _ _ y _ _ hR6 hR11 (by omega) rfl (by omega)).mono ?_;rintro e u12 ⟨rfl,b12⟩;replace hB:=bel hB b12;go_wp2;go_ret;exact⟨rfl,hB⟩

theorem fnAll_et : Tryz.prog.globalNamed "errors.errorType" = some 1 := by kernel_rfl
theorem fnAll_rt : (Tryz.prog.cutTypes.find? (·.1 == "internal/reflectlite.rtype")).map (·.2) = some 196 := by kernel_rfl
theorem fnAll_oneRow:((List.range 275).filter fun t=>Tryz.prog.rowNamed t [101,114,114,111,114]) = [94]:=by kernel_rfl
theorem fnAll_size:Tryz.prog.types.size=275:=by kernel_rfl
/-- What the condition gives a walk: the variable's one cell. -/
theorem fnAll_handle {W:World} (h:laidMetH Tryz.prog Rows.fnAllRow.laid W):ErrTy W:=by
 have h':laidMet Tryz.prog [] W∧handlesMet Tryz.prog Rows.fnAllRow.laid W:=h;obtain⟨name,u,ty,e1,e2,e3,e4,e5⟩:=h'.2 _ (List.mem_singleton.2 rfl);have en:name = [101,114,114,111,114]:=(Option.some.inj e1).symm;subst en;obtain rfl:=Option.some.inj (fnAll_rt.symm.trans e2);have hm:ty∈(List.range 275).filter fun t=>Tryz.prog.rowNamed t [101,114,114,111,114]:=List.mem_filter.2 ⟨List.mem_range.2 (by rw[←fnAll_size];exact e3),e4⟩
 rw[fnAll_oneRow] at hm;obtain rfl:=List.mem_singleton.1 hm;have hh:typeHandle Tryz.prog 94=.pointer (some ⟨5,94,none⟩):=by kernel_rfl
 rw[hh] at e5;unfold ErrTy
 simpa using World.var?_cell fnAll_et e5 0
/-- A world that meets the condition: the settled one, the variable's cell laid. -/
noncomputable def fnAll_world (os:Os):World :=
 let w0:=World.holding Tryz.prog os ⟨#[],#[],[]⟩
 { w0 with heap:=w0.heap.modify 1 fun
   |.cells _ t frozen=>.cells #[.iface 196 (.agg #[.pointer (some ⟨5,94,none⟩)])] t frozen
   |o=>o }
theorem fnAll_met (os:Os) (args:Array Value):laidMetH Tryz.prog Rows.fnAllRow.laid ((fnAll_world os).forCall (fun _ _=>0) ⟨#[],args,[]⟩).memory :=
 laidMetH_of_parts (laidMet_nil _ _) (by kernel_rfl)
namespace fnAll
theorem own:ownKnob Tryz.prog.godebug=none:=by kernel_rfl
theorem laidOut:laidOutB Tryz.prog=true:=by kernel_rfl
set_option maxRecDepth 100000 in
theorem lifted (os:Os) (started:os.Started) (H:Type) (enc:TypeId×Value→H) :
  ReturnsInHanded {} Tryz.checked os 6 .any (fun w args=>(Rows.fnAllSpec.pre enc Tryz.prog Tryz.f6 Rows.fnAllRow.domain false w args∧laidMetH Tryz.prog Rows.fnAllRow.laid w)∧sizedMet enc Tryz.prog Tryz.f6 (OpenSpec.ofChange Rows.fnAllSpec) false w args) (Rows.fnAllSpec.post enc Tryz.prog Tryz.f6 false true false false):=by
 refine returnsInHanded_of_change_and (C:=Tryz.checked) (X:=fun w _=>laidMetH Tryz.prog Rows.fnAllRow.laid w) (fun _ _ _ hh h=>h.of_heap hh) own started (by kernel_rfl) Tryz.func6
  (ChangeSpec.witness_at (enc:=enc) (C:=Tryz.checked) (os:=os) (X:=fun w _=>laidMetH Tryz.prog Rows.fnAllRow.laid w) false (fnAll_world os) #[.slice none 0 0] 8 rfl (by kernel_rfl) (by kernel_rfl) (by kernel_rfl) (by kernel_rfl) (by kernel_rfl) (fnAll_met os _)) ?_
 intro W base args ds gs before hval0 hW hcnd _ hL _;have hval:∀(j:Nat) t v,Tryz.f6.params[j]? = some t→args[j]? = some v→Value.okWide Tryz.prog W .any base t v:=hval0;have hW':=hW;obtain⟨p,q,hA0,hV,rfl,hfz,hnd⟩:=hW;have hA:DataW.TrodAll enc Tryz.prog W 0 (fun _=>true) true Tryz.f6.params.toList args.toList ds p:=hA0;rw[Tryz.params6] at hA hval;obtain⟨v0,vs0,d0,ds0,p0,q0,hargs,rfl,rfl,h0,r0⟩:=trodAll_cons hA;obtain⟨rfl,rfl,rfl⟩:=trodAll_nil r0;obtain rfl:args = #[v0]:=by cases args;simp_all
 obtain⟨rfl,rfl⟩:=trodVars_none hV;obtain⟨a0,len0,cap0,rfl⟩:=okWide_slice Tryz.underlying22 (hval 0 22 v0 rfl rfl);have k0:=h0;have lt0:∀x∈p0,x.block<W.heap.size:=by obtain⟨m,hm⟩:=k0;exact DataW.trod_lt m _ _ _ hm
 obtain⟨z0,w0⟩ : ∃l,RdIn W a0 len0 cap0 l:=by
  obtain⟨fuel,hf⟩:=h0
  rcases open_ints Tryz.underlying22 Tryz.underlying5 (by kernel_rfl) hf with ⟨hcs,_⟩ | ⟨x,l,c,zs,hcs,_,hl,hm,hz,_,hcell,hwz⟩
  ·simp[Value.cells] at hcs;obtain⟨rfl,rfl,rfl⟩:=hcs;exact⟨[],RdIn.nil _⟩
  ·simp[Value.cells] at hcs;obtain⟨rfl,rfl,rfl⟩:=hcs;exact RdIn.of_ints hl hm (by simpa using hz) hcell hwz
 clear hA0 hval0;refine (fnAll_walk a0 len0 cap0 z0 W (fnAll_handle hL) w0).mono fun e W' ⟨he,bel⟩=>?_
 subst he;exact⟨_,rfl,_,_,_,[],_,[],hW',trodAll_mk1 (shut_bool Tryz.underlying4 _),(trodAll_cons_mk (Below.trod laidOut (by kernel_rfl) (of_decide_eq_true (by kernel_rfl)) k0 bel lt0) trodAll_mk0),rfl,bel.frame _,fun h=>by cases h⟩

theorem over:Rows.fnAllRow.holds Tryz.pinned (OpenSpec.ofChange Rows.fnAllSpec) :=
 OpenClaim.holds_of_wide 6 Tryz.f6 rfl rfl rfl rfl rfl rfl rfl ⟨rfl,rfl,rfl,rfl,rfl⟩ rfl rfl rfl rfl rfl (by kernel_rfl) Tryz.func6 (by kernel_rfl)
  (of_decide_eq_true (by kernel_rfl)) (by unfold Func.isWrapper;first | (rw[if_pos (by decide +kernel)];kernel_rfl) | (rw[if_neg (by decide +kernel)];exact⟨rfl,rfl⟩))
  (fun os started H enc _=>lifted os started H enc)
end fnAll

theorem fnAll_holds:Rows.FnAllCardSaid :=
 Claim7.holds_tied_plain_at .later [] [.handle] true Rows.fnAllCard.stood.harness true fnAll.over (fun _ h=>by cases h) (by kernel_rfl) (fun _ h=>by cases h) fnAll_row_tie rfl ⟨rfl,rfl⟩ (by kernel_rfl) rfl
  (fun f fn hf hfn=>by
   obtain rfl:f=6:=Option.some.inj ((show Tryz.prog.funcNamed Rows.fnAllRow.func=some 6 by kernel_rfl).symm.trans hf) |>.symm
   obtain rfl:fn=Tryz.f6:=(Option.some.inj (Tryz.func6.symm.trans hfn)).symm;exact⟨by kernel_rfl,fun j t ht=>by
    rw[Tryz.params6] at ht;have hm:t∈[22]:=by simpa using Array.mem_of_getElem? ht
    have hall:([22].all fun u=>!Tryz.prog.wantsStandIn u)=true:=by kernel_rfl
    exact (show Tryz.prog.wantsStandIn t=false by simpa using List.all_eq_true.1 hall t hm)⟩)
  (by kernel_rfl)
end Go.Proofs.YtobgmpaalnpdcaaGreatDoor
