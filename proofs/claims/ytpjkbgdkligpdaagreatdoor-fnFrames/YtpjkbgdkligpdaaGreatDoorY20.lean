/- Lemmas. -/
import Derived.Test.YtpjkbgdkligpdaaGreatDoorY19
import Derived.Test.YtpjkbgdkligpdaaGreatDoorY01
set_option linter.all false
set_option maxRecDepth 100000
set_option maxHeartbeats 20000000
namespace Go.Proofs.YtpjkbgdkligpdaaGreatDoor
open Go.RowKit

theorem sok_1 (p:Pk) (d:Pd) (w:World) (hp:PRd w p d) (q:Pk) (dq:Pd) (ht:1≤p.ty∧p.ty≤14)
  (hnam:∀u:World,Calls Tryz.prog 70 #[.agg p.cells] u fun e u'=>e=.returned (.agg q.cells)∧Below u.heap.size u u')
  (hq:∀u:World,PRd u p d→PRd u q dq) (hk:p.ty=1) (heq:pv p d=pv q dq) (h1:p.cli.size≤1048576) (h2:p.us.size≤1048576) (h3:p.wt.size≤1048576) :
  Calls Tryz.prog 17 #[.agg p.cells] w fun e w'=>e=.returned (.bool ((!p.hw || (topOk p.wt.data.toList&&(decide ((p.wb.n:Int)≤40)&&inB p.wq 0 2)))&&(inB p.lev 0 255&&(okT p.cli.data.toList&&(inB p.kee 0 65535&&(okT p.us.data.toList&&decide ((p.pa.n:Int)≤60)))))))∧Below w.heap.size w w':=by
 have hb:Below w.heap.size w (w.alloc (.cells p.cells 28)):=qac _ _;have A:Blk (w.alloc (.cells p.cells 28)) w.heap.size p:=heap_alloc_new _ _;replace hp:=hp.below hb;go_enter Tryz.func17,Tryz.ntmps17;go_wp2;refine qaw (by kernel_rfl) rfl (fun i u x=>match i with
  |0=>u=.pointer (some ((⟨w.heap.size,0,none⟩ : Addr).add 0))
  |1=>u=.int .i64 p.ty
  |2=>u=.bool true
  |3 | 4=>u=.bool false
  |5 | 6=>u=.agg p.cells
  |7=>u=.agg q.cells
  |8=>u=.bool (decide (pv p d=pv q dq))
  |_=>u=.bool (!decide (pv p d=pv q dq))) ?_ ?_ ?_
 ·intro i u x x' hx h;exact h
 ·intro i o a u hi hk hbu hdep;replace hdep:=qhdd hdep
  match i,hi with
  |0,hi=>cases hi;have e1:a.tmps[1]? = some (.pointer (some ⟨w.heap.size,0,none⟩)):=(hk.at 1 rfl).trans rfl;exact qggo rfl (qae (w':=u) (v:=.pointer (some ((⟨w.heap.size,0,none⟩ : Addr).add 0))) (by simp only[execOp,qab e1,Sem.run_bind,fld0,Result.andThen_ok,Sem.run_pure]) (qzqq rfl))
  |1,hi=>cases hi;obtain⟨z,hz,rfl⟩:=hdep 0 rfl;have hl:=qan (P:=Tryz.prog) (w:=u) Tryz.underlying3 rfl (X:=(⟨w.heap.size,0,none⟩ : Addr).add 0) (((A.next hbu).cell 0).trans p.c0);exact qggo rfl (qae (w':=u) (v:=.int .i64 p.ty) (by simp only[execOp,qab hz,Sem.run_bind,hl,Result.andThen_ok,Sem.run_pure]) (qzqq rfl))
  |2,hi=>cases hi;obtain⟨z,hz,rfl⟩:=hdep 1 rfl;refine qggo rfl (qal (qde _ _ _ _ _ _ _ _ _ _ qgz (qab hz) rfl rfl (fun _=>rfl) _ _ _ _ _ _) ?_);refine (qax _ _ _ true _ (decide_eq_true ht)).mono ?_;rintro e u' ⟨rfl,rfl⟩;exact⟨_,rfl,_,rfl,Below.refl _ _,rfl⟩
  |3,hi=>cases hi;obtain⟨z,hz,rfl⟩:=hdep 2 rfl;exact qggo rfl (qae (v:=.bool false) (w':=u) (by simp[execOp,qab hz,Op.unary]) (qzqq rfl))
  |4,hi=>cases hi;obtain⟨z,hz,rfl⟩:=hdep 3 rfl;exact qggo rfl (qae (by simp[execOp,qab hz]) (qzqq rfl))
  |5,hi=>cases hi;obtain⟨z,hz,rfl⟩:=hdep 4 rfl;exact g_run (qao rfl (qaq rfl hz)) (qbg (A.next hbu) _ rfl (qevv hk 1 rfl rfl) (qzqq rfl))
  |6,hi=>cases hi;obtain⟨z,hz,rfl⟩:=hdep 4 rfl;exact g_run (qao rfl (qaq rfl hz)) (qbg (A.next hbu) _ rfl (qevv hk 1 rfl rfl) (qzqq rfl))
  |7,hi=>cases hi;obtain⟨z,hz,rfl⟩:=hdep 4 rfl;obtain⟨z',hz',rfl⟩:=hdep 6 rfl;refine g_run (qao rfl (qaq rfl hz)) (qal (qbu _ _ _ _ _ _ qie (qab hz') (fun _=>rfl) _ _ _ _ _ _) ?_);refine (hnam u).mono ?_;rintro e u' ⟨rfl,hb'⟩;exact⟨_,rfl,_,rfl,hb',rfl⟩
  |8,hi=>cases hi;obtain⟨z,hz,rfl⟩:=hdep 4 rfl;obtain⟨z5,hz5,rfl⟩:=hdep 5 rfl;obtain⟨z7,hz7,rfl⟩:=hdep 7 rfl;refine g_run (qao rfl (qaq rfl hz)) (qal (qak _ _ _ _ _ _ _ _ qga (qab hz5) (qab hz7) (fun _=>rfl) _ _ _ _ _ _) ?_);refine (qbo p q d dq u (hp.below hbu) (hq u (hp.below hbu))).mono ?_;rintro e u' ⟨rfl,hb'⟩;exact⟨_,rfl,_,rfl,hb',rfl⟩
  |9,hi=>cases hi;obtain⟨z,hz,rfl⟩:=hdep 4 rfl;obtain⟨z',hz',rfl⟩:=hdep 8 rfl;exact g_run (qao rfl (qaq rfl hz)) (qae (v:=.bool (!decide (pv p d=pv q dq))) (w':=u) (by simp[execOp,qab hz',Op.unary]) (qzqq rfl))
  |10,hi=>cases hi;obtain⟨z,hz,rfl⟩:=hdep 4 rfl;obtain⟨z',hz',rfl⟩:=hdep 9 rfl;exact qggo rfl (qae (v:=.bool (!decide (pv p d=pv q dq))) (w':=u) (by simp[execOp,qab hz,qab hz',asBool]) (qzqq rfl))
  |(_+11),hi=>cases hi
 intro vs y b1 hG a3 h3;have g10:vs 10=.bool (!decide (pv p d=pv q dq)):=hG 10 (by decide);clear hG;replace h3:puts _ 2 _ Fr191=a3:=h3;replace h3:puts _ 4 _ Fr191=a3:=h3;replace h3:puts _ 6 _ Fr191=a3:=h3;replace h3:puts _ 8 _ Fr191=a3:=h3;replace h3:puts _ 10 _ Fr191=a3:=h3;replace h3:Fr191=_:=h3;unfold Fr191 at h3;subst h3;replace hb:=bel hb b1;replace A:=A.next b1;replace hp:=hp.below b1;clear b1;rw[decide_eq_true heq] at g10;simp only[g10];clear hnam hq g10 heq;have f0:y.cell? ⟨w.heap.size,0,none⟩ = some (.int .i64 1):=(A.cell 0).trans (p.c0.trans (by rw[hk]));have f4:y.cell? ⟨w.heap.size,4,none⟩ = some (.int .i64 p.id):=(A.cell 4).trans p.c4;have f11:y.cell? ⟨w.heap.size,11,none⟩ = some (.bool p.hw):=(A.cell 11).trans p.c11;have f12:y.cell? ⟨w.heap.size,12,none⟩ = some (.string p.wt):=(A.cell 12).trans p.c12;have f13:y.cell? ⟨w.heap.size,13,none⟩ = some (.slice p.wb.a p.wb.n p.wb.c):=(A.cell 13).trans p.c13;have f14:y.cell? ⟨w.heap.size,14,none⟩ = some (.int .i64 p.wq):=(A.cell 14).trans p.c14;have f8:y.cell? ⟨w.heap.size,8,none⟩ = some (.int .i64 p.lev):=(A.cell 8).trans p.c8;have f7:y.cell? ⟨w.heap.size,7,none⟩ = some (.string p.cli):=(A.cell 7).trans p.c7;have f10:y.cell? ⟨w.heap.size,10,none⟩ = some (.int .i64 p.kee):=(A.cell 10).trans p.c10
 have f17:y.cell? ⟨w.heap.size,17,none⟩ = some (.string p.us):=(A.cell 17).trans p.c17;have f19:y.cell? ⟨w.heap.size,19,none⟩ = some (.slice p.pa.a p.pa.n p.pa.c):=(A.cell 19).trans p.c19;clear A;cases hw:p.hw
 ·rw[hw] at f11;have V0:Hid ((!p.hw || (topOk p.wt.data.toList&&(decide ((p.wb.n:Int)≤40)&&inB p.wq 0 2)))=true):=by show _=_;rw[hw];rfl
  clear hw;go_wp2_with fail
  refine (qax p.id 1 65535 (inB p.id 1 65535) _ rfl).mono ?_;rintro e zi ⟨rfl,hzi⟩;subst hzi;go_wp2_with fail
  refine (qax p.lev 0 255 (inB p.lev 0 255) _ rfl).mono ?_;rintro e z1 ⟨rfl,hz1⟩;subst hz1;cases hv:inB p.lev 0 255
  ·have V1:Hid (inB p.lev 0 255=false):=hv;clear hv;go_wp2;go_ret;exact⟨qad (by rw[V0.out];rw[V1.out];simp),hb⟩
  have V1:Hid (inB p.lev 0 255=true):=hv;clear hv;go_wp2_with fail
  refine (qdg p.cli _ (by omega)).mono ?_;rintro e z2 ⟨rfl,hz2⟩;replace f10:z2.cell? ⟨w.heap.size,10,none⟩ = some (.int .i64 p.kee):=(hz2.cell (World.block_lt_of_cell? _ _ f10)).trans f10;replace f17:z2.cell? ⟨w.heap.size,17,none⟩ = some (.string p.us):=(hz2.cell (World.block_lt_of_cell? _ _ f17)).trans f17;replace f19:z2.cell? ⟨w.heap.size,19,none⟩ = some (.slice p.pa.a p.pa.n p.pa.c):=(hz2.cell (World.block_lt_of_cell? _ _ f19)).trans f19;replace hb:=bel hb hz2;clear hz2;cases hv:okT p.cli.data.toList
  ·have V2:Hid (okT p.cli.data.toList=false):=hv;clear hv;go_wp2;go_ret;exact⟨qad (by rw[V0.out];rw[V1.out];rw[V2.out];simp),hb⟩
  have V2:Hid (okT p.cli.data.toList=true):=hv;clear hv;go_wp2_with fail
  refine (qax p.kee 0 65535 (inB p.kee 0 65535) _ rfl).mono ?_;rintro e z3 ⟨rfl,hz3⟩;subst hz3;cases hv:inB p.kee 0 65535
  ·have V3:Hid (inB p.kee 0 65535=false):=hv;clear hv;go_wp2;go_ret;exact⟨qad (by rw[V0.out];rw[V1.out];rw[V2.out];rw[V3.out];simp),hb⟩
  have V3:Hid (inB p.kee 0 65535=true):=hv;clear hv;go_wp2_with fail
  refine (qdg p.us _ (by omega)).mono ?_;rintro e z4 ⟨rfl,hz4⟩;replace f19:z4.cell? ⟨w.heap.size,19,none⟩ = some (.slice p.pa.a p.pa.n p.pa.c):=(hz4.cell (World.block_lt_of_cell? _ _ f19)).trans f19;replace hb:=bel hb hz4;clear hz4;cases hv:okT p.us.data.toList
  ·have V4:Hid (okT p.us.data.toList=false):=hv;clear hv;go_wp2;go_ret;exact⟨qad (by rw[V0.out];rw[V1.out];rw[V2.out];rw[V3.out];rw[V4.out];simp),hb⟩
  have V4:Hid (okT p.us.data.toList=true):=hv;clear hv;go_wp2;go_ret;exact⟨qad (by rw[V0.out];rw[V1.out];rw[V2.out];rw[V3.out];rw[V4.out];simp),hb⟩
 rw[hw] at f11;go_wp2_with fail
 refine (qax p.id 1 65535 (inB p.id 1 65535) _ rfl).mono ?_;rintro e zi ⟨rfl,hzi⟩;subst hzi;go_wp2_with fail
 refine (qjt p.wt _ h3).mono ?_;rintro e z0 ⟨rfl,hz0⟩;replace f8:z0.cell? ⟨w.heap.size,8,none⟩ = some (.int .i64 p.lev):=(hz0.cell (World.block_lt_of_cell? _ _ f8)).trans f8;replace f7:z0.cell? ⟨w.heap.size,7,none⟩ = some (.string p.cli):=(hz0.cell (World.block_lt_of_cell? _ _ f7)).trans f7;replace f10:z0.cell? ⟨w.heap.size,10,none⟩ = some (.int .i64 p.kee):=(hz0.cell (World.block_lt_of_cell? _ _ f10)).trans f10;replace f17:z0.cell? ⟨w.heap.size,17,none⟩ = some (.string p.us):=(hz0.cell (World.block_lt_of_cell? _ _ f17)).trans f17;replace f19:z0.cell? ⟨w.heap.size,19,none⟩ = some (.slice p.pa.a p.pa.n p.pa.c):=(hz0.cell (World.block_lt_of_cell? _ _ f19)).trans f19;replace f13:z0.cell? ⟨w.heap.size,13,none⟩ = some (.slice p.wb.a p.wb.n p.wb.c):=(hz0.cell (World.block_lt_of_cell? _ _ f13)).trans f13;replace f14:z0.cell? ⟨w.heap.size,14,none⟩ = some (.int .i64 p.wq):=(hz0.cell (World.block_lt_of_cell? _ _ f14)).trans f14;replace hb:=bel hb hz0;clear hz0;cases hT:topOk p.wt.data.toList
 ·have V0:Hid ((!p.hw || (topOk p.wt.data.toList&&(decide ((p.wb.n:Int)≤40)&&inB p.wq 0 2)))=false):=by show _=_;rw[hw,hT];rfl
  clear hw hT;go_wp2;go_ret;exact⟨qad (by rw[V0.out];simp),hb⟩
 by_cases hn:(p.wb.n:Int)≤40
 rotate_left
 ·have V0:Hid ((!p.hw || (topOk p.wt.data.toList&&(decide ((p.wb.n:Int)≤40)&&inB p.wq 0 2)))=false):=by show _=_;rw[hw,hT,decide_eq_false hn];rfl
  clear hw hT;go_wp2;go_ret;exact⟨qad (by rw[V0.out];simp),hb⟩
 go_wp2_with fail
 refine (qax p.wq 0 2 (inB p.wq 0 2) _ rfl).mono ?_;rintro e z9 ⟨rfl,hz9⟩;subst hz9;cases hq2:inB p.wq 0 2
 ·have V0:Hid ((!p.hw || (topOk p.wt.data.toList&&(decide ((p.wb.n:Int)≤40)&&inB p.wq 0 2)))=false):=by show _=_;rw[hw,hT,hq2,Bool.and_false,Bool.and_false];rfl
  clear hw hT hq2;go_wp2;go_ret;exact⟨qad (by rw[V0.out];simp),hb⟩
 have V0:Hid ((!p.hw || (topOk p.wt.data.toList&&(decide ((p.wb.n:Int)≤40)&&inB p.wq 0 2)))=true):=by show _=_;rw[hw,hT,hq2,decide_eq_true hn];rfl
 clear hw hT hq2;go_wp2_with fail
 refine (qax p.lev 0 255 (inB p.lev 0 255) _ rfl).mono ?_;rintro e z1 ⟨rfl,hz1⟩;subst hz1;cases hv:inB p.lev 0 255
 ·have V1:Hid (inB p.lev 0 255=false):=hv;clear hv;go_wp2;go_ret;exact⟨qad (by rw[V0.out];rw[V1.out];simp),hb⟩
 have V1:Hid (inB p.lev 0 255=true):=hv;clear hv;go_wp2_with fail
 refine (qdg p.cli _ (by omega)).mono ?_;rintro e z2 ⟨rfl,hz2⟩;replace f10:z2.cell? ⟨w.heap.size,10,none⟩ = some (.int .i64 p.kee):=(hz2.cell (World.block_lt_of_cell? _ _ f10)).trans f10;replace f17:z2.cell? ⟨w.heap.size,17,none⟩ = some (.string p.us):=(hz2.cell (World.block_lt_of_cell? _ _ f17)).trans f17;replace f19:z2.cell? ⟨w.heap.size,19,none⟩ = some (.slice p.pa.a p.pa.n p.pa.c):=(hz2.cell (World.block_lt_of_cell? _ _ f19)).trans f19;replace hb:=bel hb hz2;clear hz2;cases hv:okT p.cli.data.toList
 ·have V2:Hid (okT p.cli.data.toList=false):=hv;clear hv;go_wp2;go_ret;exact⟨qad (by rw[V0.out];rw[V1.out];rw[V2.out];simp),hb⟩
 have V2:Hid (okT p.cli.data.toList=true):=hv;clear hv;go_wp2_with fail
 refine (qax p.kee 0 65535 (inB p.kee 0 65535) _ rfl).mono ?_;rintro e z3 ⟨rfl,hz3⟩;subst hz3;cases hv:inB p.kee 0 65535
 ·have V3:Hid (inB p.kee 0 65535=false):=hv;clear hv;go_wp2;go_ret;exact⟨qad (by rw[V0.out];rw[V1.out];rw[V2.out];rw[V3.out];simp),hb⟩
 have V3:Hid (inB p.kee 0 65535=true):=hv;clear hv;go_wp2_with fail
 refine (qdg p.us _ (by omega)).mono ?_;rintro e z4 ⟨rfl,hz4⟩;replace f19:z4.cell? ⟨w.heap.size,19,none⟩ = some (.slice p.pa.a p.pa.n p.pa.c):=(hz4.cell (World.block_lt_of_cell? _ _ f19)).trans f19;replace hb:=bel hb hz4;clear hz4;cases hv:okT p.us.data.toList
 ·have V4:Hid (okT p.us.data.toList=false):=hv;clear hv;go_wp2;go_ret;exact⟨qad (by rw[V0.out];rw[V1.out];rw[V2.out];rw[V3.out];rw[V4.out];simp),hb⟩
 have V4:Hid (okT p.us.data.toList=true):=hv;clear hv;go_wp2;go_ret;exact⟨qad (by rw[V0.out];rw[V1.out];rw[V2.out];rw[V3.out];rw[V4.out];simp),hb⟩

theorem sok_9 (p:Pk) (d:Pd) (w:World) (hp:PRd w p d) (q:Pk) (dq:Pd) (ht:1≤p.ty∧p.ty≤14)
  (hnam:∀u:World,Calls Tryz.prog 70 #[.agg p.cells] u fun e u'=>e=.returned (.agg q.cells)∧Below u.heap.size u u')
  (hq:∀u:World,PRd u p d→PRd u q dq) (hk:p.ty=9) (heq:pv p d=pv q dq) :
  Calls Tryz.prog 17 #[.agg p.cells] w fun e w'=>e=.returned (.bool (d.cds.all qci&&(inB p.id 1 65535&&inB p.cds.n 1 4)))∧Below w.heap.size w w':=by
 have hb:Below w.heap.size w (w.alloc (.cells p.cells 28)):=qac _ _;have A:Blk (w.alloc (.cells p.cells 28)) w.heap.size p:=heap_alloc_new _ _;replace hp:=hp.below hb;go_enter Tryz.func17,Tryz.ntmps17;go_wp2;refine qaw (by kernel_rfl) rfl (fun i u x=>match i with
  |0=>u=.pointer (some ((⟨w.heap.size,0,none⟩ : Addr).add 0))
  |1=>u=.int .i64 p.ty
  |2=>u=.bool true
  |3 | 4=>u=.bool false
  |5 | 6=>u=.agg p.cells
  |7=>u=.agg q.cells
  |8=>u=.bool (decide (pv p d=pv q dq))
  |_=>u=.bool (!decide (pv p d=pv q dq))) ?_ ?_ ?_
 ·intro i u x x' hx h;exact h
 ·intro i o a u hi hk hbu hdep;replace hdep:=qhdd hdep
  match i,hi with
  |0,hi=>cases hi;have e1:a.tmps[1]? = some (.pointer (some ⟨w.heap.size,0,none⟩)):=(hk.at 1 rfl).trans rfl;exact qggo rfl (qae (w':=u) (v:=.pointer (some ((⟨w.heap.size,0,none⟩ : Addr).add 0))) (by simp only[execOp,qab e1,Sem.run_bind,fld0,Result.andThen_ok,Sem.run_pure]) (qzqq rfl))
  |1,hi=>cases hi;obtain⟨z,hz,rfl⟩:=hdep 0 rfl;have hl:=qan (P:=Tryz.prog) (w:=u) Tryz.underlying3 rfl (X:=(⟨w.heap.size,0,none⟩ : Addr).add 0) (((A.next hbu).cell 0).trans p.c0);exact qggo rfl (qae (w':=u) (v:=.int .i64 p.ty) (by simp only[execOp,qab hz,Sem.run_bind,hl,Result.andThen_ok,Sem.run_pure]) (qzqq rfl))
  |2,hi=>cases hi;obtain⟨z,hz,rfl⟩:=hdep 1 rfl;refine qggo rfl (qal (qde _ _ _ _ _ _ _ _ _ _ qgz (qab hz) rfl rfl (fun _=>rfl) _ _ _ _ _ _) ?_);refine (qax _ _ _ true _ (decide_eq_true ht)).mono ?_;rintro e u' ⟨rfl,rfl⟩;exact⟨_,rfl,_,rfl,Below.refl _ _,rfl⟩
  |3,hi=>cases hi;obtain⟨z,hz,rfl⟩:=hdep 2 rfl;exact qggo rfl (qae (v:=.bool false) (w':=u) (by simp[execOp,qab hz,Op.unary]) (qzqq rfl))
  |4,hi=>cases hi;obtain⟨z,hz,rfl⟩:=hdep 3 rfl;exact qggo rfl (qae (by simp[execOp,qab hz]) (qzqq rfl))
  |5,hi=>cases hi;obtain⟨z,hz,rfl⟩:=hdep 4 rfl;exact g_run (qao rfl (qaq rfl hz)) (qbg (A.next hbu) _ rfl (qevv hk 1 rfl rfl) (qzqq rfl))
  |6,hi=>cases hi;obtain⟨z,hz,rfl⟩:=hdep 4 rfl;exact g_run (qao rfl (qaq rfl hz)) (qbg (A.next hbu) _ rfl (qevv hk 1 rfl rfl) (qzqq rfl))
  |7,hi=>cases hi;obtain⟨z,hz,rfl⟩:=hdep 4 rfl;obtain⟨z',hz',rfl⟩:=hdep 6 rfl;refine g_run (qao rfl (qaq rfl hz)) (qal (qbu _ _ _ _ _ _ qie (qab hz') (fun _=>rfl) _ _ _ _ _ _) ?_);refine (hnam u).mono ?_;rintro e u' ⟨rfl,hb'⟩;exact⟨_,rfl,_,rfl,hb',rfl⟩
  |8,hi=>cases hi;obtain⟨z,hz,rfl⟩:=hdep 4 rfl;obtain⟨z5,hz5,rfl⟩:=hdep 5 rfl;obtain⟨z7,hz7,rfl⟩:=hdep 7 rfl;refine g_run (qao rfl (qaq rfl hz)) (qal (qak _ _ _ _ _ _ _ _ qga (qab hz5) (qab hz7) (fun _=>rfl) _ _ _ _ _ _) ?_);refine (qbo p q d dq u (hp.below hbu) (hq u (hp.below hbu))).mono ?_;rintro e u' ⟨rfl,hb'⟩;exact⟨_,rfl,_,rfl,hb',rfl⟩
  |9,hi=>cases hi;obtain⟨z,hz,rfl⟩:=hdep 4 rfl;obtain⟨z',hz',rfl⟩:=hdep 8 rfl;exact g_run (qao rfl (qaq rfl hz)) (qae (v:=.bool (!decide (pv p d=pv q dq))) (w':=u) (by simp[execOp,qab hz',Op.unary]) (qzqq rfl))
  |10,hi=>cases hi;obtain⟨z,hz,rfl⟩:=hdep 4 rfl;obtain⟨z',hz',rfl⟩:=hdep 9 rfl;exact qggo rfl (qae (v:=.bool (!decide (pv p d=pv q dq))) (w':=u) (by simp[execOp,qab hz,qab hz',asBool]) (qzqq rfl))
  |(_+11),hi=>cases hi
 intro vs y b1 hG a3 h3;have g10:vs 10=.bool (!decide (pv p d=pv q dq)):=hG 10 (by decide);clear hG;replace h3:puts _ 2 _ Fr191=a3:=h3;replace h3:puts _ 4 _ Fr191=a3:=h3;replace h3:puts _ 6 _ Fr191=a3:=h3;replace h3:puts _ 8 _ Fr191=a3:=h3;replace h3:puts _ 10 _ Fr191=a3:=h3;replace h3:Fr191=_:=h3;unfold Fr191 at h3;subst h3;replace hb:=bel hb b1;replace A:=A.next b1;replace hp:=hp.below b1;clear b1;rw[decide_eq_true heq] at g10;simp only[g10];clear hnam hq g10 heq;have f0:y.cell? ⟨w.heap.size,0,none⟩ = some (.int .i64 9):=(A.cell 0).trans (p.c0.trans (by rw[hk]));have f4:y.cell? ⟨w.heap.size,4,none⟩ = some (.int .i64 p.id):=(A.cell 4).trans p.c4;have f24:y.cell? ⟨w.heap.size,24,none⟩ = some (.slice p.cds.a p.cds.n p.cds.c):=(A.cell 24).trans p.c24;clear A;go_wp2_with fail
 refine (qax p.id 1 65535 (inB p.id 1 65535) _ rfl).mono ?_;rintro e zi ⟨rfl,hzi⟩;subst hzi;generalize hI:inB p.id 1 65535=I;have HI:Hid (inB p.id 1 65535=I):=hI;clear hI;have R:=hp.2.2.2.2.2;have HL:Hid (d.cds.length=p.cds.n):=R.1.1;have tn:p.cds.n≤maxLen:=Nat.le_trans R.2.1 R.2.2.1;unfold maxLen at tn;go_wp2
 go_loopw [5] (fun i wr=>∃k:Nat,i=.int .i64 k∧k≤p.cds.n∧Hid ((d.cds.take k).all qci=true)∧Below zi.heap.size zi wr) (fun i _=>p.cds.n-(intOf i).toNat)
 case atStart=>exact⟨0,rfl,Nat.zero_le _,rfl,Below.refl _ _⟩
 case round=>
  obtain⟨k,rfl,hkn,hT,hbr⟩:=hrel;have f24':wr.cell? ⟨w.heap.size,24,none⟩ = some (.slice p.cds.a p.cds.n p.cds.c):=(hbr.cell (World.block_lt_of_cell? _ _ f24)).trans f24
  by_cases hlt:k<p.cds.n
  ·obtain⟨b,off,e,hc⟩:=R.1.2 k hlt;rw[e] at f24';have hck:wr.cell? ⟨b,off+k,none⟩ = some (.int .i64 (nt d.cds k)):=(hbr.cell (World.block_lt_of_cell? _ _ hc)).trans hc;clear hc e;have hlt':(k:Int)<p.cds.n:=by omega
   have k0:(0:Int)≤k:=by omega
   have hkl:Hid (k<d.cds.length):=by show k<d.cds.length;rw[HL.out];exact hlt
   go_wp2_with fail
   refine (qax (nt d.cds k) 0 2 (inB (nt d.cds k) 0 2) _ rfl).mono ?_;rintro e z1 ⟨rfl,hz1⟩;subst hz1;cases hv:inB (nt d.cds k) 0 2
   ·by_cases h128:nt d.cds k=128
    ·have hok:qci (nt d.cds k)=true:=by simp[qci,hv,h128]
     have q1:(nt d.cds k != 128)=false:=by simpa using h128
     have HS:Hid ((d.cds.take (k+1)).all qci=true):=qib qci d.cds 0 k hkl.out hT.out hok;clear hok hv h128;go_wp2;go_roundw
     case rel=>exact⟨k+1,by go_num,by omega,HS,hbr⟩
     case measure=>simp[intOf];omega
    ·have hok:qci (nt d.cds k)=false:=by simp[qci,hv,h128]
     have q1:(nt d.cds k != 128)=true:=by simpa using h128
     have HN:Hid (d.cds.all qci=false):=qoh qci d.cds 0 k hkl.out hok;clear hok hv h128;go_wp2;go_ret;exact⟨qad (by rw[HN.out];simp),bel hb hbr⟩
   ·have hok:qci (nt d.cds k)=true:=by simp[qci,hv]
    have HS:Hid ((d.cds.take (k+1)).all qci=true):=qib qci d.cds 0 k hkl.out hT.out hok;clear hok hv;go_wp2;go_roundw
    case rel=>exact⟨k+1,by go_num,by omega,HS,hbr⟩
    case measure=>simp[intOf];omega
  ·have hlt':¬(k:Int)<p.cds.n:=by omega
   obtain rfl:k=p.cds.n:=by omega
   have VA:Hid (d.cds.all qci=true):=qlz qci d.cds _ HL.out hT.out;cases I
   ·go_wp2;go_ret;exact⟨qad (by rw[VA.out,HI.out];simp),bel hb hbr⟩
   ·go_wp2_with fail
    refine (qax (p.cds.n:Int) 1 4 (inB p.cds.n 1 4) _ rfl).mono ?_;rintro e z9 ⟨rfl,hz9⟩;subst hz9;go_wp2;go_ret;exact⟨qad (by rw[VA.out,HI.out];simp),bel hb hbr⟩
theorem sok_10 (p:Pk) (d:Pd) (w:World) (hp:PRd w p d) (q:Pk) (dq:Pd) (ht:1≤p.ty∧p.ty≤14)
  (hnam:∀u:World,Calls Tryz.prog 70 #[.agg p.cells] u fun e u'=>e=.returned (.agg q.cells)∧Below u.heap.size u u')
  (hq:∀u:World,PRd u p d→PRd u q dq) (hk:p.ty=10) (heq:pv p d=pv q dq) (hs:∀s∈d.nam,s.size≤1048576) :
  Calls Tryz.prog 17 #[.agg p.cells] w fun e w'=>e=.returned (.bool (d.nam.all flt&&(inB p.id 1 65535&&inB p.nam.n 1 4)))∧Below w.heap.size w w':=by
 have hb:Below w.heap.size w (w.alloc (.cells p.cells 28)):=qac _ _;have A:Blk (w.alloc (.cells p.cells 28)) w.heap.size p:=heap_alloc_new _ _;replace hp:=hp.below hb;go_enter Tryz.func17,Tryz.ntmps17;go_wp2;refine qaw (by kernel_rfl) rfl (fun i u x=>match i with
  |0=>u=.pointer (some ((⟨w.heap.size,0,none⟩ : Addr).add 0))
  |1=>u=.int .i64 p.ty
  |2=>u=.bool true
  |3 | 4=>u=.bool false
  |5 | 6=>u=.agg p.cells
  |7=>u=.agg q.cells
  |8=>u=.bool (decide (pv p d=pv q dq))
  |_=>u=.bool (!decide (pv p d=pv q dq))) ?_ ?_ ?_
 ·intro i u x x' hx h;exact h
 ·intro i o a u hi hk hbu hdep;replace hdep:=qhdd hdep
  match i,hi with
  |0,hi=>cases hi;have e1:a.tmps[1]? = some (.pointer (some ⟨w.heap.size,0,none⟩)):=(hk.at 1 rfl).trans rfl;exact qggo rfl (qae (w':=u) (v:=.pointer (some ((⟨w.heap.size,0,none⟩ : Addr).add 0))) (by simp only[execOp,qab e1,Sem.run_bind,fld0,Result.andThen_ok,Sem.run_pure]) (qzqq rfl))
  |1,hi=>cases hi;obtain⟨z,hz,rfl⟩:=hdep 0 rfl;have hl:=qan (P:=Tryz.prog) (w:=u) Tryz.underlying3 rfl (X:=(⟨w.heap.size,0,none⟩ : Addr).add 0) (((A.next hbu).cell 0).trans p.c0);exact qggo rfl (qae (w':=u) (v:=.int .i64 p.ty) (by simp only[execOp,qab hz,Sem.run_bind,hl,Result.andThen_ok,Sem.run_pure]) (qzqq rfl))
  |2,hi=>cases hi;obtain⟨z,hz,rfl⟩:=hdep 1 rfl;refine qggo rfl (qal (qde _ _ _ _ _ _ _ _ _ _ qgz (qab hz) rfl rfl (fun _=>rfl) _ _ _ _ _ _) ?_);refine (qax _ _ _ true _ (decide_eq_true ht)).mono ?_;rintro e u' ⟨rfl,rfl⟩;exact⟨_,rfl,_,rfl,Below.refl _ _,rfl⟩
  |3,hi=>cases hi;obtain⟨z,hz,rfl⟩:=hdep 2 rfl;exact qggo rfl (qae (v:=.bool false) (w':=u) (by simp[execOp,qab hz,Op.unary]) (qzqq rfl))
  |4,hi=>cases hi;obtain⟨z,hz,rfl⟩:=hdep 3 rfl;exact qggo rfl (qae (by simp[execOp,qab hz]) (qzqq rfl))
  |5,hi=>cases hi;obtain⟨z,hz,rfl⟩:=hdep 4 rfl;exact g_run (qao rfl (qaq rfl hz)) (qbg (A.next hbu) _ rfl (qevv hk 1 rfl rfl) (qzqq rfl))
  |6,hi=>cases hi;obtain⟨z,hz,rfl⟩:=hdep 4 rfl;exact g_run (qao rfl (qaq rfl hz)) (qbg (A.next hbu) _ rfl (qevv hk 1 rfl rfl) (qzqq rfl))
  |7,hi=>cases hi;obtain⟨z,hz,rfl⟩:=hdep 4 rfl;obtain⟨z',hz',rfl⟩:=hdep 6 rfl;refine g_run (qao rfl (qaq rfl hz)) (qal (qbu _ _ _ _ _ _ qie (qab hz') (fun _=>rfl) _ _ _ _ _ _) ?_);refine (hnam u).mono ?_;rintro e u' ⟨rfl,hb'⟩;exact⟨_,rfl,_,rfl,hb',rfl⟩
  |8,hi=>cases hi;obtain⟨z,hz,rfl⟩:=hdep 4 rfl;obtain⟨z5,hz5,rfl⟩:=hdep 5 rfl;obtain⟨z7,hz7,rfl⟩:=hdep 7 rfl;refine g_run (qao rfl (qaq rfl hz)) (qal (qak _ _ _ _ _ _ _ _ qga (qab hz5) (qab hz7) (fun _=>rfl) _ _ _ _ _ _) ?_);refine (qbo p q d dq u (hp.below hbu) (hq u (hp.below hbu))).mono ?_;rintro e u' ⟨rfl,hb'⟩;exact⟨_,rfl,_,rfl,hb',rfl⟩
  |9,hi=>cases hi;obtain⟨z,hz,rfl⟩:=hdep 4 rfl;obtain⟨z',hz',rfl⟩:=hdep 8 rfl;exact g_run (qao rfl (qaq rfl hz)) (qae (v:=.bool (!decide (pv p d=pv q dq))) (w':=u) (by simp[execOp,qab hz',Op.unary]) (qzqq rfl))
  |10,hi=>cases hi;obtain⟨z,hz,rfl⟩:=hdep 4 rfl;obtain⟨z',hz',rfl⟩:=hdep 9 rfl;exact qggo rfl (qae (v:=.bool (!decide (pv p d=pv q dq))) (w':=u) (by simp[execOp,qab hz,qab hz',asBool]) (qzqq rfl))
  |(_+11),hi=>cases hi
 intro vs y b1 hG a3 h3;have g10:vs 10=.bool (!decide (pv p d=pv q dq)):=hG 10 (by decide);clear hG;replace h3:puts _ 2 _ Fr191=a3:=h3;replace h3:puts _ 4 _ Fr191=a3:=h3;replace h3:puts _ 6 _ Fr191=a3:=h3;replace h3:puts _ 8 _ Fr191=a3:=h3;replace h3:puts _ 10 _ Fr191=a3:=h3;replace h3:Fr191=_:=h3;unfold Fr191 at h3;subst h3;replace hb:=bel hb b1;replace A:=A.next b1;replace hp:=hp.below b1;clear b1;rw[decide_eq_true heq] at g10;simp only[g10];clear hnam hq g10 heq;have f0:y.cell? ⟨w.heap.size,0,none⟩ = some (.int .i64 10):=(A.cell 0).trans (p.c0.trans (by rw[hk]));have f4:y.cell? ⟨w.heap.size,4,none⟩ = some (.int .i64 p.id):=(A.cell 4).trans p.c4;have f23:y.cell? ⟨w.heap.size,23,none⟩ = some (.slice p.nam.a p.nam.n p.nam.c):=(A.cell 23).trans p.c23;clear A;go_wp2_with fail
 refine (qax p.id 1 65535 (inB p.id 1 65535) _ rfl).mono ?_;rintro e zi ⟨rfl,hzi⟩;subst hzi;generalize hI:inB p.id 1 65535=I;have HI:Hid (inB p.id 1 65535=I):=hI;clear hI;have R:=hp.2.2.2.2.1;have HL:Hid (d.nam.length=p.nam.n):=R.1.1;have tn:p.nam.n≤maxLen:=Nat.le_trans R.2.1 R.2.2.1;unfold maxLen at tn;go_wp2
 go_loopw [6] (fun i wr=>∃k:Nat,i=.int .i64 k∧k≤p.nam.n∧Hid ((d.nam.take k).all flt=true)∧Below zi.heap.size zi wr) (fun i _=>p.nam.n-(intOf i).toNat)
 case atStart=>exact⟨0,rfl,Nat.zero_le _,rfl,Below.refl _ _⟩
 case round=>
  obtain⟨k,rfl,hkn,hT,hbr⟩:=hrel;have f23':wr.cell? ⟨w.heap.size,23,none⟩ = some (.slice p.nam.a p.nam.n p.nam.c):=(hbr.cell (World.block_lt_of_cell? _ _ f23)).trans f23
  by_cases hlt:k<p.nam.n
  ·obtain⟨b,off,e,hc⟩:=R.1.2 k hlt;rw[e] at f23';have hck:wr.cell? ⟨b,off+k,none⟩ = some (.string (st d.nam k)):=(hbr.cell (World.block_lt_of_cell? _ _ hc)).trans hc;clear hc e;have hlt':(k:Int)<p.nam.n:=by omega
   have k0:(0:Int)≤k:=by omega
   have hkl:Hid (k<d.nam.length):=by show k<d.nam.length;rw[HL.out];exact hlt
   go_wp2_with fail
   refine (qlb (st d.nam k) _ (hs _ (qub hkl.out))).mono ?_;rintro e z1 ⟨he,hz1⟩;obtain rfl:e=.returned (.bool (flt (st d.nam k))):=he;cases hv:flt (st d.nam k)
   ·have HN:Hid (d.nam.all flt=false):=qoh flt d.nam ByteArray.empty k hkl.out hv;clear hv;go_wp2;go_ret;exact⟨qad (by rw[HN.out];simp),bel hb (bel hbr hz1)⟩
   ·have HS:Hid ((d.nam.take (k+1)).all flt=true):=qib flt d.nam ByteArray.empty k hkl.out hT.out hv;clear hv;go_wp2;go_roundw
    case rel=>exact⟨k+1,by go_num,by omega,HS,bel hbr hz1⟩
    case measure=>simp[intOf];omega
  ·have hlt':¬(k:Int)<p.nam.n:=by omega
   obtain rfl:k=p.nam.n:=by omega
   have VA:Hid (d.nam.all flt=true):=qlz flt d.nam _ HL.out hT.out;cases I
   ·go_wp2;go_ret;exact⟨qad (by rw[VA.out,HI.out];simp),bel hb hbr⟩
   ·go_wp2_with fail
    refine (qax (p.nam.n:Int) 1 4 (inB p.nam.n 1 4) _ rfl).mono ?_;rintro e z9 ⟨rfl,hz9⟩;subst hz9;go_wp2;go_ret;exact⟨qad (by rw[VA.out,HI.out];simp),bel hb hbr⟩
theorem sok_8 (p:Pk) (d:Pd) (w:World) (hp:PRd w p d) (q:Pk) (dq:Pd) (ht:1≤p.ty∧p.ty≤14)
  (hnam:∀u:World,Calls Tryz.prog 70 #[.agg p.cells] u fun e u'=>e=.returned (.agg q.cells)∧Below u.heap.size u u')
  (hq:∀u:World,PRd u p d→PRd u q dq) (hk:p.ty=8) (heq:pv p d=pv q dq) (hs:∀x∈d.wan,x.1.size≤1048576) :
  Calls Tryz.prog 17 #[.agg p.cells] w fun e w'=>e=.returned (.bool (d.wan.all qcm&&(inB p.id 1 65535&&inB p.wan.n 1 4)))∧Below w.heap.size w w':=by
 have hb:Below w.heap.size w (w.alloc (.cells p.cells 28)):=qac _ _;have A:Blk (w.alloc (.cells p.cells 28)) w.heap.size p:=heap_alloc_new _ _;replace hp:=hp.below hb;go_enter Tryz.func17,Tryz.ntmps17;go_wp2;refine qaw (by kernel_rfl) rfl (fun i u x=>match i with
  |0=>u=.pointer (some ((⟨w.heap.size,0,none⟩ : Addr).add 0))
  |1=>u=.int .i64 p.ty
  |2=>u=.bool true
  |3 | 4=>u=.bool false
  |5 | 6=>u=.agg p.cells
  |7=>u=.agg q.cells
  |8=>u=.bool (decide (pv p d=pv q dq))
  |_=>u=.bool (!decide (pv p d=pv q dq))) ?_ ?_ ?_
 ·intro i u x x' hx h;exact h
 ·intro i o a u hi hk hbu hdep;replace hdep:=qhdd hdep
  match i,hi with
  |0,hi=>cases hi;have e1:a.tmps[1]? = some (.pointer (some ⟨w.heap.size,0,none⟩)):=(hk.at 1 rfl).trans rfl;exact qggo rfl (qae (w':=u) (v:=.pointer (some ((⟨w.heap.size,0,none⟩ : Addr).add 0))) (by simp only[execOp,qab e1,Sem.run_bind,fld0,Result.andThen_ok,Sem.run_pure]) (qzqq rfl))
  |1,hi=>cases hi;obtain⟨z,hz,rfl⟩:=hdep 0 rfl;have hl:=qan (P:=Tryz.prog) (w:=u) Tryz.underlying3 rfl (X:=(⟨w.heap.size,0,none⟩ : Addr).add 0) (((A.next hbu).cell 0).trans p.c0);exact qggo rfl (qae (w':=u) (v:=.int .i64 p.ty) (by simp only[execOp,qab hz,Sem.run_bind,hl,Result.andThen_ok,Sem.run_pure]) (qzqq rfl))
  |2,hi=>cases hi;obtain⟨z,hz,rfl⟩:=hdep 1 rfl;refine qggo rfl (qal (qde _ _ _ _ _ _ _ _ _ _ qgz (qab hz) rfl rfl (fun _=>rfl) _ _ _ _ _ _) ?_);refine (qax _ _ _ true _ (decide_eq_true ht)).mono ?_;rintro e u' ⟨rfl,rfl⟩;exact⟨_,rfl,_,rfl,Below.refl _ _,rfl⟩
  |3,hi=>cases hi;obtain⟨z,hz,rfl⟩:=hdep 2 rfl;exact qggo rfl (qae (v:=.bool false) (w':=u) (by simp[execOp,qab hz,Op.unary]) (qzqq rfl))
  |4,hi=>cases hi;obtain⟨z,hz,rfl⟩:=hdep 3 rfl;exact qggo rfl (qae (by simp[execOp,qab hz]) (qzqq rfl))
  |5,hi=>cases hi;obtain⟨z,hz,rfl⟩:=hdep 4 rfl;exact g_run (qao rfl (qaq rfl hz)) (qbg (A.next hbu) _ rfl (qevv hk 1 rfl rfl) (qzqq rfl))
  |6,hi=>cases hi;obtain⟨z,hz,rfl⟩:=hdep 4 rfl;exact g_run (qao rfl (qaq rfl hz)) (qbg (A.next hbu) _ rfl (qevv hk 1 rfl rfl) (qzqq rfl))
  |7,hi=>cases hi;obtain⟨z,hz,rfl⟩:=hdep 4 rfl;obtain⟨z',hz',rfl⟩:=hdep 6 rfl;refine g_run (qao rfl (qaq rfl hz)) (qal (qbu _ _ _ _ _ _ qie (qab hz') (fun _=>rfl) _ _ _ _ _ _) ?_);refine (hnam u).mono ?_;rintro e u' ⟨rfl,hb'⟩;exact⟨_,rfl,_,rfl,hb',rfl⟩
  |8,hi=>cases hi;obtain⟨z,hz,rfl⟩:=hdep 4 rfl;obtain⟨z5,hz5,rfl⟩:=hdep 5 rfl;obtain⟨z7,hz7,rfl⟩:=hdep 7 rfl;refine g_run (qao rfl (qaq rfl hz)) (qal (qak _ _ _ _ _ _ _ _ qga (qab hz5) (qab hz7) (fun _=>rfl) _ _ _ _ _ _) ?_);refine (qbo p q d dq u (hp.below hbu) (hq u (hp.below hbu))).mono ?_;rintro e u' ⟨rfl,hb'⟩;exact⟨_,rfl,_,rfl,hb',rfl⟩
  |9,hi=>cases hi;obtain⟨z,hz,rfl⟩:=hdep 4 rfl;obtain⟨z',hz',rfl⟩:=hdep 8 rfl;exact g_run (qao rfl (qaq rfl hz)) (qae (v:=.bool (!decide (pv p d=pv q dq))) (w':=u) (by simp[execOp,qab hz',Op.unary]) (qzqq rfl))
  |10,hi=>cases hi;obtain⟨z,hz,rfl⟩:=hdep 4 rfl;obtain⟨z',hz',rfl⟩:=hdep 9 rfl;exact qggo rfl (qae (v:=.bool (!decide (pv p d=pv q dq))) (w':=u) (by simp[execOp,qab hz,qab hz',asBool]) (qzqq rfl))
  |(_+11),hi=>cases hi
 intro vs y b1 hG a3 h3;have g10:vs 10=.bool (!decide (pv p d=pv q dq)):=hG 10 (by decide);clear hG;replace h3:puts _ 2 _ Fr191=a3:=h3;replace h3:puts _ 4 _ Fr191=a3:=h3;replace h3:puts _ 6 _ Fr191=a3:=h3;replace h3:puts _ 8 _ Fr191=a3:=h3;replace h3:puts _ 10 _ Fr191=a3:=h3;replace h3:Fr191=_:=h3;unfold Fr191 at h3;subst h3;replace hb:=bel hb b1;replace A:=A.next b1;replace hp:=hp.below b1;clear b1;rw[decide_eq_true heq] at g10;simp only[g10];clear hnam hq g10 heq;have f0:y.cell? ⟨w.heap.size,0,none⟩ = some (.int .i64 8):=(A.cell 0).trans (p.c0.trans (by rw[hk]));have f4:y.cell? ⟨w.heap.size,4,none⟩ = some (.int .i64 p.id):=(A.cell 4).trans p.c4;have f22:y.cell? ⟨w.heap.size,22,none⟩ = some (.slice p.wan.a p.wan.n p.wan.c):=(A.cell 22).trans p.c22;clear A;go_wp2_with fail
 refine (qax p.id 1 65535 (inB p.id 1 65535) _ rfl).mono ?_;rintro e zi ⟨rfl,hzi⟩;subst hzi;generalize hI:inB p.id 1 65535=I;have HI:Hid (inB p.id 1 65535=I):=hI;clear hI;have R:=hp.2.2.2.1;have HL:Hid (d.wan.length=p.wan.n):=R.1.1;have tn:p.wan.n≤maxLen:=Nat.le_trans R.2.1 R.2.2.1;unfold maxLen at tn;go_wp2
 go_loopw [4] (fun i wr=>∃k:Nat,i=.int .i64 k∧k≤p.wan.n∧Hid ((d.wan.take k).all qcm=true)∧Below zi.heap.size zi wr) (fun i _=>p.wan.n-(intOf i).toNat)
 case atStart=>exact⟨0,rfl,Nat.zero_le _,rfl,Below.refl _ _⟩
 case round=>
  obtain⟨k,rfl,hkn,hT,hbr⟩:=hrel;have f22':wr.cell? ⟨w.heap.size,22,none⟩ = some (.slice p.wan.a p.wan.n p.wan.c):=(hbr.cell (World.block_lt_of_cell? _ _ f22)).trans f22
  by_cases hlt:k<p.wan.n
  ·obtain⟨b,off,e,hc,hd⟩:=R.1.2 k hlt;rw[e] at f22';have hck:wr.cell? ⟨b,off+k*2,none⟩ = some (.string (wf d.wan k)):=(hbr.cell (World.block_lt_of_cell? _ _ hc)).trans hc;have hdk:wr.cell? ⟨b,off+k*2+1,none⟩ = some (.int .i64 (wq d.wan k)):=(hbr.cell (World.block_lt_of_cell? _ _ hd)).trans hd;clear hc hd e;have hlt':(k:Int)<p.wan.n:=by omega
   have k0:(0:Int)≤k:=by omega
   have hkl:Hid (k<d.wan.length):=by show k<d.wan.length;rw[HL.out];exact hlt
   go_wp2_with fail
   refine (qlb (wf d.wan k) _ (hs _ (wt_mem hkl.out))).mono ?_;rintro e z1 ⟨he,hz1⟩;obtain rfl:e=.returned (.bool (flt (wf d.wan k))):=he;replace f22':z1.cell? ⟨w.heap.size,22,none⟩ = some (.slice (some ⟨b,off,none⟩) p.wan.n p.wan.c):=(hz1.cell (World.block_lt_of_cell? _ _ f22')).trans f22';replace hdk:z1.cell? ⟨b,off+k*2+1,none⟩ = some (.int .i64 (wq d.wan k)):=(hz1.cell (World.block_lt_of_cell? _ _ hdk)).trans hdk;cases hv:flt (wf d.wan k)
   ·have hok:qcm (wf d.wan k,wq d.wan k)=false:=by simp[qcm,hv]
    have HN:Hid (d.wan.all qcm=false):=qoh qcm d.wan (ByteArray.empty,0) k hkl.out hok;clear hok hv;go_wp2;go_ret;exact⟨qad (by rw[HN.out];simp),bel hb (bel hbr hz1)⟩
   ·go_wp2_with fail
    refine (qax (wq d.wan k) 0 2 (inB (wq d.wan k) 0 2) _ rfl).mono ?_;rintro e z2 ⟨rfl,hz2⟩;subst hz2;cases hv2:inB (wq d.wan k) 0 2
    ·have hok:qcm (wf d.wan k,wq d.wan k)=false:=by simp[qcm,hv2]
     have HN:Hid (d.wan.all qcm=false):=qoh qcm d.wan (ByteArray.empty,0) k hkl.out hok;clear hok hv hv2;go_wp2;go_ret;exact⟨qad (by rw[HN.out];simp),bel hb (bel hbr hz1)⟩
    ·have hok:qcm (wf d.wan k,wq d.wan k)=true:=by simp[qcm,hv,hv2]
     have HS:Hid ((d.wan.take (k+1)).all qcm=true):=qib qcm d.wan (ByteArray.empty,0) k hkl.out hT.out hok;clear hok hv hv2;go_wp2;go_roundw
     case rel=>exact⟨k+1,by go_num,by omega,HS,bel hbr hz1⟩
     case measure=>simp[intOf];omega
  ·have hlt':¬(k:Int)<p.wan.n:=by omega
   obtain rfl:k=p.wan.n:=by omega
   have VA:Hid (d.wan.all qcm=true):=qlz qcm d.wan _ HL.out hT.out;cases I
   ·go_wp2;go_ret;exact⟨qad (by rw[VA.out,HI.out];simp),bel hb hbr⟩
   ·go_wp2_with fail
    refine (qax (p.wan.n:Int) 1 4 (inB p.wan.n 1 4) _ rfl).mono ?_;rintro e z9 ⟨rfl,hz9⟩;subst hz9;go_wp2;go_ret;exact⟨qad (by rw[VA.out,HI.out];simp),bel hb hbr⟩

theorem ok_ne {v n:Pv} (hn:n=v.named) (h:v≠n):v.ok=false:=by
 unfold Pv.ok;rw[←hn,decide_eq_false h,Bool.false_and,Bool.and_false]
theorem ok_eq {v n:Pv} (hn:n=v.named) (ht:1≤v.ty∧v.ty≤14) (h:v=n):v.ok=v.body:=by
 unfold Pv.ok;rw[←hn,qey ht.1 ht.2,decide_eq_true h,Bool.true_and,Bool.true_and]
theorem qia {o:Oper} {k:Nat} {y:Nat→Option Bool} (h:o.guard=some (k,false)) (hy:y k=some true):Region.wanted o y=false:=by
 simp[Region.wanted,h,hy]
theorem sok_off (p:Pk) (w:World) (ht:¬(1≤p.ty∧p.ty≤14)) :
  Calls Tryz.prog 17 #[.agg p.cells] w fun e w'=>e=.returned (.bool false)∧Below w.heap.size w w':=by
 have hb:Below w.heap.size w (w.alloc (.cells p.cells 28)):=qac _ _;have A:Blk (w.alloc (.cells p.cells 28)) w.heap.size p:=heap_alloc_new _ _;go_enter Tryz.func17,Tryz.ntmps17;go_wp2;refine qaw (by kernel_rfl) rfl (fun i u x=>match i with
  |0=>u=.pointer (some ((⟨w.heap.size,0,none⟩ : Addr).add 0))
  |1=>u=.int .i64 p.ty
  |2=>u=.bool false
  |3 | 4 | 10=>u=.bool true
  |_=>True) ?_ ?_ ?_
 ·intro i u x x' hx h;exact h
 ·intro i o a u hi hk hbu hdep;replace hdep:=qhdd hdep
  match i,hi with
  |0,hi=>cases hi;have e1:a.tmps[1]? = some (.pointer (some ⟨w.heap.size,0,none⟩)):=(hk.at 1 rfl).trans rfl;exact qggo rfl (qae (w':=u) (v:=.pointer (some ((⟨w.heap.size,0,none⟩ : Addr).add 0))) (by simp only[execOp,qab e1,Sem.run_bind,fld0,Result.andThen_ok,Sem.run_pure]) (qzqq rfl))
  |1,hi=>cases hi;obtain⟨z,hz,rfl⟩:=hdep 0 rfl;have hl:=qan (P:=Tryz.prog) (w:=u) Tryz.underlying3 rfl (X:=(⟨w.heap.size,0,none⟩ : Addr).add 0) (((A.next hbu).cell 0).trans p.c0);exact qggo rfl (qae (w':=u) (v:=.int .i64 p.ty) (by simp only[execOp,qab hz,Sem.run_bind,hl,Result.andThen_ok,Sem.run_pure]) (qzqq rfl))
  |2,hi=>cases hi;obtain⟨z,hz,rfl⟩:=hdep 1 rfl;refine qggo rfl (qal (qde _ _ _ _ _ _ _ _ _ _ qgz (qab hz) rfl rfl (fun _=>rfl) _ _ _ _ _ _) ?_);refine (qax _ _ _ false _ (decide_eq_false ht)).mono ?_;rintro e u' ⟨rfl,rfl⟩;exact⟨_,rfl,_,rfl,Below.refl _ _,rfl⟩
  |3,hi=>cases hi;obtain⟨z,hz,rfl⟩:=hdep 2 rfl;exact qggo rfl (qae (v:=.bool true) (w':=u) (by simp[execOp,qab hz,Op.unary]) (qzqq rfl))
  |4,hi=>cases hi;obtain⟨z,hz,rfl⟩:=hdep 3 rfl;exact qggo rfl (qae (by simp[execOp,qab hz]) (qzqq rfl))
  |5,hi=>cases hi;obtain⟨z,hz,rfl⟩:=hdep 4 rfl;exact qdh (qia rfl (qaq rfl hz)) trivial
  |6,hi=>cases hi;obtain⟨z,hz,rfl⟩:=hdep 4 rfl;exact qdh (qia rfl (qaq rfl hz)) trivial
  |7,hi=>cases hi;obtain⟨z,hz,rfl⟩:=hdep 4 rfl;exact qdh (qia rfl (qaq rfl hz)) trivial
  |8,hi=>cases hi;obtain⟨z,hz,rfl⟩:=hdep 4 rfl;exact qdh (qia rfl (qaq rfl hz)) trivial
  |9,hi=>cases hi;obtain⟨z,hz,rfl⟩:=hdep 4 rfl;exact qdh (qia rfl (qaq rfl hz)) trivial
  |10,hi=>cases hi;obtain⟨z,hz,rfl⟩:=hdep 4 rfl;have ev:a.eval (.const (.bool true))=.bool true:=rfl;exact qggo rfl (qae (v:=.bool true) (w':=u) (by simp[execOp,qab hz,ev,asBool]) (qzqq rfl))
  |(_+11),hi=>cases hi
 intro vs y b1 hG a3 h3;have g10:vs 10=.bool true:=hG 10 (by decide);clear hG;replace h3:puts _ 2 _ Fr191=a3:=h3;replace h3:puts _ 4 _ Fr191=a3:=h3;replace h3:puts _ 6 _ Fr191=a3:=h3;replace h3:puts _ 8 _ Fr191=a3:=h3;replace h3:puts _ 10 _ Fr191=a3:=h3;replace h3:Fr191=_:=h3;unfold Fr191 at h3;subst h3;replace hb:=bel hb b1;clear b1;simp only[g10];go_wp2;go_ret;exact⟨rfl,hb⟩
theorem oks_4 (p:Pk) (d:Pd) (w:World) (hp:PRd w p d) (hz:Psz p d) (ht:p.ty=4) :
  Calls Tryz.prog 17 #[.agg p.cells] w fun e w'=>e=.returned (.bool (pv p d).ok)∧Below w.heap.size w w':=by
 obtain⟨z1,z2,z3,z4,z5,z6⟩:=hz;have l1:d.bod.length=p.bod.n:=hp.1.1.1;have l2:d.wb.length=p.wb.n:=hp.2.1.1.1;have l3:d.pa.length=p.pa.n:=hp.2.2.1.1.1;have l4:d.wan.length=p.wan.n:=hp.2.2.2.1.1.1;have l5:d.nam.length=p.nam.n:=hp.2.2.2.2.1.1.1;have l6:d.cds.length=p.cds.n:=hp.2.2.2.2.2.1.1;have hty:(pv p d).ty=4:=ht;have h14:1≤p.ty∧p.ty≤14:=by rw[ht];decide
 have hv:pv (n4 p) ⟨[],[],[],[],[],[]⟩ = (pv p d).named:=by
  rw[qfm _ 4 hty (by decide)];rfl
 have hq:∀u:World,PRd u p d→PRd u (n4 p) ⟨[],[],[],[],[],[]⟩:=fun u hu=>PRd0 u
 have hn:∀u:World,Calls Tryz.prog 70 #[.agg p.cells] u fun e u'=>e=.returned (.agg (n4 p).cells)∧Below u.heap.size u u':=fun u=>snam_4 p u ht 
 by_cases heq:pv p d=pv (n4 p) ⟨[],[],[],[],[],[]⟩
 ·rw[ok_eq hv h14 heq];have hB:inB p.id 1 65535=(pv p d).body:=by
   unfold Pv.body;rw[hty];rfl
  rw[←hB];exact sok_c p d w hp (n4 p) ⟨[],[],[],[],[],[]⟩ h14 hn hq (by omega) heq 
 ·rw[ok_ne hv heq];exact qdu p d w hp (n4 p) ⟨[],[],[],[],[],[]⟩ h14 hn hq heq
theorem oks_5 (p:Pk) (d:Pd) (w:World) (hp:PRd w p d) (hz:Psz p d) (ht:p.ty=5) :
  Calls Tryz.prog 17 #[.agg p.cells] w fun e w'=>e=.returned (.bool (pv p d).ok)∧Below w.heap.size w w':=by
 obtain⟨z1,z2,z3,z4,z5,z6⟩:=hz;have l1:d.bod.length=p.bod.n:=hp.1.1.1;have l2:d.wb.length=p.wb.n:=hp.2.1.1.1;have l3:d.pa.length=p.pa.n:=hp.2.2.1.1.1;have l4:d.wan.length=p.wan.n:=hp.2.2.2.1.1.1;have l5:d.nam.length=p.nam.n:=hp.2.2.2.2.1.1.1;have l6:d.cds.length=p.cds.n:=hp.2.2.2.2.2.1.1;have hty:(pv p d).ty=5:=ht;have h14:1≤p.ty∧p.ty≤14:=by rw[ht];decide
 have hv:pv (n5 p) ⟨[],[],[],[],[],[]⟩ = (pv p d).named:=by
  rw[qfm _ 5 hty (by decide)];rfl
 have hq:∀u:World,PRd u p d→PRd u (n5 p) ⟨[],[],[],[],[],[]⟩:=fun u hu=>PRd0 u
 have hn:∀u:World,Calls Tryz.prog 70 #[.agg p.cells] u fun e u'=>e=.returned (.agg (n5 p).cells)∧Below u.heap.size u u':=fun u=>snam_5 p u ht 
 by_cases heq:pv p d=pv (n5 p) ⟨[],[],[],[],[],[]⟩
 ·rw[ok_eq hv h14 heq];have hB:inB p.id 1 65535=(pv p d).body:=by
   unfold Pv.body;rw[hty];rfl
  rw[←hB];exact sok_c p d w hp (n5 p) ⟨[],[],[],[],[],[]⟩ h14 hn hq (by omega) heq 
 ·rw[ok_ne hv heq];exact qdu p d w hp (n5 p) ⟨[],[],[],[],[],[]⟩ h14 hn hq heq
theorem oks_6 (p:Pk) (d:Pd) (w:World) (hp:PRd w p d) (hz:Psz p d) (ht:p.ty=6) :
  Calls Tryz.prog 17 #[.agg p.cells] w fun e w'=>e=.returned (.bool (pv p d).ok)∧Below w.heap.size w w':=by
 obtain⟨z1,z2,z3,z4,z5,z6⟩:=hz;have l1:d.bod.length=p.bod.n:=hp.1.1.1;have l2:d.wb.length=p.wb.n:=hp.2.1.1.1;have l3:d.pa.length=p.pa.n:=hp.2.2.1.1.1;have l4:d.wan.length=p.wan.n:=hp.2.2.2.1.1.1;have l5:d.nam.length=p.nam.n:=hp.2.2.2.2.1.1.1;have l6:d.cds.length=p.cds.n:=hp.2.2.2.2.2.1.1;have hty:(pv p d).ty=6:=ht;have h14:1≤p.ty∧p.ty≤14:=by rw[ht];decide
 have hv:pv (n6 p) ⟨[],[],[],[],[],[]⟩ = (pv p d).named:=by
  rw[qfm _ 6 hty (by decide)];rfl
 have hq:∀u:World,PRd u p d→PRd u (n6 p) ⟨[],[],[],[],[],[]⟩:=fun u hu=>PRd0 u
 have hn:∀u:World,Calls Tryz.prog 70 #[.agg p.cells] u fun e u'=>e=.returned (.agg (n6 p).cells)∧Below u.heap.size u u':=fun u=>snam_6 p u ht 
 by_cases heq:pv p d=pv (n6 p) ⟨[],[],[],[],[],[]⟩
 ·rw[ok_eq hv h14 heq];have hB:inB p.id 1 65535=(pv p d).body:=by
   unfold Pv.body;rw[hty];rfl
  rw[←hB];exact sok_c p d w hp (n6 p) ⟨[],[],[],[],[],[]⟩ h14 hn hq (by omega) heq 
 ·rw[ok_ne hv heq];exact qdu p d w hp (n6 p) ⟨[],[],[],[],[],[]⟩ h14 hn hq heq
theorem oks_7 (p:Pk) (d:Pd) (w:World) (hp:PRd w p d) (hz:Psz p d) (ht:p.ty=7) :
  Calls Tryz.prog 17 #[.agg p.cells] w fun e w'=>e=.returned (.bool (pv p d).ok)∧Below w.heap.size w w':=by
 obtain⟨z1,z2,z3,z4,z5,z6⟩:=hz;have l1:d.bod.length=p.bod.n:=hp.1.1.1;have l2:d.wb.length=p.wb.n:=hp.2.1.1.1;have l3:d.pa.length=p.pa.n:=hp.2.2.1.1.1;have l4:d.wan.length=p.wan.n:=hp.2.2.2.1.1.1;have l5:d.nam.length=p.nam.n:=hp.2.2.2.2.1.1.1;have l6:d.cds.length=p.cds.n:=hp.2.2.2.2.2.1.1;have hty:(pv p d).ty=7:=ht;have h14:1≤p.ty∧p.ty≤14:=by rw[ht];decide
 have hv:pv (n7 p) ⟨[],[],[],[],[],[]⟩ = (pv p d).named:=by
  rw[qfm _ 7 hty (by decide)];rfl
 have hq:∀u:World,PRd u p d→PRd u (n7 p) ⟨[],[],[],[],[],[]⟩:=fun u hu=>PRd0 u
 have hn:∀u:World,Calls Tryz.prog 70 #[.agg p.cells] u fun e u'=>e=.returned (.agg (n7 p).cells)∧Below u.heap.size u u':=fun u=>snam_7 p u ht 
 by_cases heq:pv p d=pv (n7 p) ⟨[],[],[],[],[],[]⟩
 ·rw[ok_eq hv h14 heq];have hB:inB p.id 1 65535=(pv p d).body:=by
   unfold Pv.body;rw[hty];rfl
  rw[←hB];exact sok_c p d w hp (n7 p) ⟨[],[],[],[],[],[]⟩ h14 hn hq (by omega) heq 
 ·rw[ok_ne hv heq];exact qdu p d w hp (n7 p) ⟨[],[],[],[],[],[]⟩ h14 hn hq heq
theorem oks_11 (p:Pk) (d:Pd) (w:World) (hp:PRd w p d) (hz:Psz p d) (ht:p.ty=11) :
  Calls Tryz.prog 17 #[.agg p.cells] w fun e w'=>e=.returned (.bool (pv p d).ok)∧Below w.heap.size w w':=by
 obtain⟨z1,z2,z3,z4,z5,z6⟩:=hz;have l1:d.bod.length=p.bod.n:=hp.1.1.1;have l2:d.wb.length=p.wb.n:=hp.2.1.1.1;have l3:d.pa.length=p.pa.n:=hp.2.2.1.1.1;have l4:d.wan.length=p.wan.n:=hp.2.2.2.1.1.1;have l5:d.nam.length=p.nam.n:=hp.2.2.2.2.1.1.1;have l6:d.cds.length=p.cds.n:=hp.2.2.2.2.2.1.1;have hty:(pv p d).ty=11:=ht;have h14:1≤p.ty∧p.ty≤14:=by rw[ht];decide
 have hv:pv (n11 p) ⟨[],[],[],[],[],[]⟩ = (pv p d).named:=by
  rw[qfm _ 11 hty (by decide)];rfl
 have hq:∀u:World,PRd u p d→PRd u (n11 p) ⟨[],[],[],[],[],[]⟩:=fun u hu=>PRd0 u
 have hn:∀u:World,Calls Tryz.prog 70 #[.agg p.cells] u fun e u'=>e=.returned (.agg (n11 p).cells)∧Below u.heap.size u u':=fun u=>snam_11 p u ht 
 by_cases heq:pv p d=pv (n11 p) ⟨[],[],[],[],[],[]⟩
 ·rw[ok_eq hv h14 heq];have hB:inB p.id 1 65535=(pv p d).body:=by
   unfold Pv.body;rw[hty];rfl
  rw[←hB];exact sok_c p d w hp (n11 p) ⟨[],[],[],[],[],[]⟩ h14 hn hq (by omega) heq 
 ·rw[ok_ne hv heq];exact qdu p d w hp (n11 p) ⟨[],[],[],[],[],[]⟩ h14 hn hq heq
theorem oks_12 (p:Pk) (d:Pd) (w:World) (hp:PRd w p d) (hz:Psz p d) (ht:p.ty=12) :
  Calls Tryz.prog 17 #[.agg p.cells] w fun e w'=>e=.returned (.bool (pv p d).ok)∧Below w.heap.size w w':=by
 obtain⟨z1,z2,z3,z4,z5,z6⟩:=hz;have l1:d.bod.length=p.bod.n:=hp.1.1.1;have l2:d.wb.length=p.wb.n:=hp.2.1.1.1;have l3:d.pa.length=p.pa.n:=hp.2.2.1.1.1;have l4:d.wan.length=p.wan.n:=hp.2.2.2.1.1.1;have l5:d.nam.length=p.nam.n:=hp.2.2.2.2.1.1.1;have l6:d.cds.length=p.cds.n:=hp.2.2.2.2.2.1.1;have hty:(pv p d).ty=12:=ht;have h14:1≤p.ty∧p.ty≤14:=by rw[ht];decide
 have hv:pv (n12 p) ⟨[],[],[],[],[],[]⟩ = (pv p d).named:=by
  rw[qjo _ 12 hty (by decide)];rfl
 have hq:∀u:World,PRd u p d→PRd u (n12 p) ⟨[],[],[],[],[],[]⟩:=fun u hu=>PRd0 u
 have hn:∀u:World,Calls Tryz.prog 70 #[.agg p.cells] u fun e u'=>e=.returned (.agg (n12 p).cells)∧Below u.heap.size u u':=fun u=>snam_12 p u ht 
 by_cases heq:pv p d=pv (n12 p) ⟨[],[],[],[],[],[]⟩
 ·rw[ok_eq hv h14 heq];have hB:true=(pv p d).body:=by
   unfold Pv.body;rw[hty];rfl
  rw[←hB];exact sok_n p d w hp (n12 p) ⟨[],[],[],[],[],[]⟩ h14 hn hq (by omega) heq 
 ·rw[ok_ne hv heq];exact qdu p d w hp (n12 p) ⟨[],[],[],[],[],[]⟩ h14 hn hq heq
theorem oks_13 (p:Pk) (d:Pd) (w:World) (hp:PRd w p d) (hz:Psz p d) (ht:p.ty=13) :
  Calls Tryz.prog 17 #[.agg p.cells] w fun e w'=>e=.returned (.bool (pv p d).ok)∧Below w.heap.size w w':=by
 obtain⟨z1,z2,z3,z4,z5,z6⟩:=hz;have l1:d.bod.length=p.bod.n:=hp.1.1.1;have l2:d.wb.length=p.wb.n:=hp.2.1.1.1;have l3:d.pa.length=p.pa.n:=hp.2.2.1.1.1;have l4:d.wan.length=p.wan.n:=hp.2.2.2.1.1.1;have l5:d.nam.length=p.nam.n:=hp.2.2.2.2.1.1.1;have l6:d.cds.length=p.cds.n:=hp.2.2.2.2.2.1.1;have hty:(pv p d).ty=13:=ht;have h14:1≤p.ty∧p.ty≤14:=by rw[ht];decide
 have hv:pv (n13 p) ⟨[],[],[],[],[],[]⟩ = (pv p d).named:=by
  rw[qjo _ 13 hty (by decide)];rfl
 have hq:∀u:World,PRd u p d→PRd u (n13 p) ⟨[],[],[],[],[],[]⟩:=fun u hu=>PRd0 u
 have hn:∀u:World,Calls Tryz.prog 70 #[.agg p.cells] u fun e u'=>e=.returned (.agg (n13 p).cells)∧Below u.heap.size u u':=fun u=>snam_13 p u ht 
 by_cases heq:pv p d=pv (n13 p) ⟨[],[],[],[],[],[]⟩
 ·rw[ok_eq hv h14 heq];have hB:true=(pv p d).body:=by
   unfold Pv.body;rw[hty];rfl
  rw[←hB];exact sok_n p d w hp (n13 p) ⟨[],[],[],[],[],[]⟩ h14 hn hq (by omega) heq 
 ·rw[ok_ne hv heq];exact qdu p d w hp (n13 p) ⟨[],[],[],[],[],[]⟩ h14 hn hq heq
theorem oks_14 (p:Pk) (d:Pd) (w:World) (hp:PRd w p d) (hz:Psz p d) (ht:p.ty=14) :
  Calls Tryz.prog 17 #[.agg p.cells] w fun e w'=>e=.returned (.bool (pv p d).ok)∧Below w.heap.size w w':=by
 obtain⟨z1,z2,z3,z4,z5,z6⟩:=hz;have l1:d.bod.length=p.bod.n:=hp.1.1.1;have l2:d.wb.length=p.wb.n:=hp.2.1.1.1;have l3:d.pa.length=p.pa.n:=hp.2.2.1.1.1;have l4:d.wan.length=p.wan.n:=hp.2.2.2.1.1.1;have l5:d.nam.length=p.nam.n:=hp.2.2.2.2.1.1.1;have l6:d.cds.length=p.cds.n:=hp.2.2.2.2.2.1.1;have hty:(pv p d).ty=14:=ht;have h14:1≤p.ty∧p.ty≤14:=by rw[ht];decide
 have hv:pv (n14 p) ⟨[],[],[],[],[],[]⟩ = (pv p d).named:=by
  rw[qjo _ 14 hty (by decide)];rfl
 have hq:∀u:World,PRd u p d→PRd u (n14 p) ⟨[],[],[],[],[],[]⟩:=fun u hu=>PRd0 u
 have hn:∀u:World,Calls Tryz.prog 70 #[.agg p.cells] u fun e u'=>e=.returned (.agg (n14 p).cells)∧Below u.heap.size u u':=fun u=>snam_14 p u ht 
 by_cases heq:pv p d=pv (n14 p) ⟨[],[],[],[],[],[]⟩
 ·rw[ok_eq hv h14 heq];have hB:true=(pv p d).body:=by
   unfold Pv.body;rw[hty];rfl
  rw[←hB];exact sok_n p d w hp (n14 p) ⟨[],[],[],[],[],[]⟩ h14 hn hq (by omega) heq 
 ·rw[ok_ne hv heq];exact qdu p d w hp (n14 p) ⟨[],[],[],[],[],[]⟩ h14 hn hq heq
theorem oks_2n (p:Pk) (d:Pd) (w:World) (hp:PRd w p d) (hz:Psz p d) (ht:p.ty=2) (h1:p.pre=false) :
  Calls Tryz.prog 17 #[.agg p.cells] w fun e w'=>e=.returned (.bool (pv p d).ok)∧Below w.heap.size w w':=by
 obtain⟨z1,z2,z3,z4,z5,z6⟩:=hz;have l1:d.bod.length=p.bod.n:=hp.1.1.1;have l2:d.wb.length=p.wb.n:=hp.2.1.1.1;have l3:d.pa.length=p.pa.n:=hp.2.2.1.1.1;have l4:d.wan.length=p.wan.n:=hp.2.2.2.1.1.1;have l5:d.nam.length=p.nam.n:=hp.2.2.2.2.1.1.1;have l6:d.cds.length=p.cds.n:=hp.2.2.2.2.2.1.1;have hty:(pv p d).ty=2:=ht;have h14:1≤p.ty∧p.ty≤14:=by rw[ht];decide
 have hv:pv (n2n p) ⟨[],[],[],[],[],[]⟩ = (pv p d).named:=by
  rw[qrg _ hty];simp only[pv,h1];rfl
 have hq:∀u:World,PRd u p d→PRd u (n2n p) ⟨[],[],[],[],[],[]⟩:=fun u hu=>PRd0 u
 have hn:∀u:World,Calls Tryz.prog 70 #[.agg p.cells] u fun e u'=>e=.returned (.agg (n2n p).cells)∧Below u.heap.size u u':=fun u=>snam_2n p u ht h1
 by_cases heq:pv p d=pv (n2n p) ⟨[],[],[],[],[],[]⟩
 ·rw[ok_eq hv h14 heq];have hB:inB p.cod 0 5=(pv p d).body:=by
   unfold Pv.body;rw[hty];rfl
  rw[←hB];exact sok_2 p d w hp (n2n p) ⟨[],[],[],[],[],[]⟩ h14 hn hq ht heq 
 ·rw[ok_ne hv heq];exact qdu p d w hp (n2n p) ⟨[],[],[],[],[],[]⟩ h14 hn hq heq
theorem oks_2p (p:Pk) (d:Pd) (w:World) (hp:PRd w p d) (hz:Psz p d) (ht:p.ty=2) (h1:p.pre=true) :
  Calls Tryz.prog 17 #[.agg p.cells] w fun e w'=>e=.returned (.bool (pv p d).ok)∧Below w.heap.size w w':=by
 obtain⟨z1,z2,z3,z4,z5,z6⟩:=hz;have l1:d.bod.length=p.bod.n:=hp.1.1.1;have l2:d.wb.length=p.wb.n:=hp.2.1.1.1;have l3:d.pa.length=p.pa.n:=hp.2.2.1.1.1;have l4:d.wan.length=p.wan.n:=hp.2.2.2.1.1.1;have l5:d.nam.length=p.nam.n:=hp.2.2.2.2.1.1.1;have l6:d.cds.length=p.cds.n:=hp.2.2.2.2.2.1.1;have hty:(pv p d).ty=2:=ht;have h14:1≤p.ty∧p.ty≤14:=by rw[ht];decide
 have hv:pv (n2p p) ⟨[],[],[],[],[],[]⟩ = (pv p d).named:=by
  rw[qrg _ hty];simp only[pv,h1];simp only[Bool.true_and,←beq_dec];rfl
 have hq:∀u:World,PRd u p d→PRd u (n2p p) ⟨[],[],[],[],[],[]⟩:=fun u hu=>PRd0 u
 have hn:∀u:World,Calls Tryz.prog 70 #[.agg p.cells] u fun e u'=>e=.returned (.agg (n2p p).cells)∧Below u.heap.size u u':=fun u=>snam_2p p u ht h1
 by_cases heq:pv p d=pv (n2p p) ⟨[],[],[],[],[],[]⟩
 ·rw[ok_eq hv h14 heq];have hB:inB p.cod 0 5=(pv p d).body:=by
   unfold Pv.body;rw[hty];rfl
  rw[←hB];exact sok_2 p d w hp (n2p p) ⟨[],[],[],[],[],[]⟩ h14 hn hq ht heq 
 ·rw[ok_ne hv heq];exact qdu p d w hp (n2p p) ⟨[],[],[],[],[],[]⟩ h14 hn hq heq
theorem oks_3n (p:Pk) (d:Pd) (w:World) (hp:PRd w p d) (hz:Psz p d) (ht:p.ty=3) (h1:¬0<p.qos) :
  Calls Tryz.prog 17 #[.agg p.cells] w fun e w'=>e=.returned (.bool (pv p d).ok)∧Below w.heap.size w w':=by
 obtain⟨z1,z2,z3,z4,z5,z6⟩:=hz;have l1:d.bod.length=p.bod.n:=hp.1.1.1;have l2:d.wb.length=p.wb.n:=hp.2.1.1.1;have l3:d.pa.length=p.pa.n:=hp.2.2.1.1.1;have l4:d.wan.length=p.wan.n:=hp.2.2.2.1.1.1;have l5:d.nam.length=p.nam.n:=hp.2.2.2.2.1.1.1;have l6:d.cds.length=p.cds.n:=hp.2.2.2.2.2.1.1;have hty:(pv p d).ty=3:=ht;have h14:1≤p.ty∧p.ty≤14:=by rw[ht];decide
 have hv:pv (n3n p) ⟨d.bod,[],[],[],[],[]⟩ = (pv p d).named:=by
  rw[qpp _ hty];simp only[pv,h1,if_true,if_false];rfl
 have hq:∀u:World,PRd u p d→PRd u (n3n p) ⟨d.bod,[],[],[],[],[]⟩:=fun u hu=>⟨hu.1,RdIn.nil _,RdIn.nil _,W0 _,SRd.nil _,IRd.nil _⟩
 have hn:∀u:World,Calls Tryz.prog 70 #[.agg p.cells] u fun e u'=>e=.returned (.agg (n3n p).cells)∧Below u.heap.size u u':=fun u=>snam_3n p u ht h1
 by_cases heq:pv p d=pv (n3n p) ⟨d.bod,[],[],[],[],[]⟩
 ·rw[ok_eq hv h14 heq];have hB:(inB p.qos 0 2&&((decide (p.qos=0) || inB p.id 1 65535)&&(topOk p.top.data.toList&&decide ((p.bod.n:Int)≤40))))=(pv p d).body:=by
   unfold Pv.body;rw[hty,show (40:Int)=((40:Nat):Int) from rfl,dec_n 40 l1];rfl
  rw[←hB];exact sok_3 p d w hp (n3n p) ⟨d.bod,[],[],[],[],[]⟩ h14 hn hq ht heq z1
 ·rw[ok_ne hv heq];exact qdu p d w hp (n3n p) ⟨d.bod,[],[],[],[],[]⟩ h14 hn hq heq
theorem oks_3q (p:Pk) (d:Pd) (w:World) (hp:PRd w p d) (hz:Psz p d) (ht:p.ty=3) (h1:0<p.qos) :
  Calls Tryz.prog 17 #[.agg p.cells] w fun e w'=>e=.returned (.bool (pv p d).ok)∧Below w.heap.size w w':=by
 obtain⟨z1,z2,z3,z4,z5,z6⟩:=hz;have l1:d.bod.length=p.bod.n:=hp.1.1.1;have l2:d.wb.length=p.wb.n:=hp.2.1.1.1;have l3:d.pa.length=p.pa.n:=hp.2.2.1.1.1;have l4:d.wan.length=p.wan.n:=hp.2.2.2.1.1.1;have l5:d.nam.length=p.nam.n:=hp.2.2.2.2.1.1.1;have l6:d.cds.length=p.cds.n:=hp.2.2.2.2.2.1.1;have hty:(pv p d).ty=3:=ht;have h14:1≤p.ty∧p.ty≤14:=by rw[ht];decide
 have hv:pv (n3q p) ⟨d.bod,[],[],[],[],[]⟩ = (pv p d).named:=by
  rw[qpp _ hty];simp only[pv,h1,if_true,if_false];rfl
 have hq:∀u:World,PRd u p d→PRd u (n3q p) ⟨d.bod,[],[],[],[],[]⟩:=fun u hu=>⟨hu.1,RdIn.nil _,RdIn.nil _,W0 _,SRd.nil _,IRd.nil _⟩
 have hn:∀u:World,Calls Tryz.prog 70 #[.agg p.cells] u fun e u'=>e=.returned (.agg (n3q p).cells)∧Below u.heap.size u u':=fun u=>snam_3q p u ht h1
 by_cases heq:pv p d=pv (n3q p) ⟨d.bod,[],[],[],[],[]⟩
 ·rw[ok_eq hv h14 heq];have hB:(inB p.qos 0 2&&((decide (p.qos=0) || inB p.id 1 65535)&&(topOk p.top.data.toList&&decide ((p.bod.n:Int)≤40))))=(pv p d).body:=by
   unfold Pv.body;rw[hty,show (40:Int)=((40:Nat):Int) from rfl,dec_n 40 l1];rfl
  rw[←hB];exact sok_3 p d w hp (n3q p) ⟨d.bod,[],[],[],[],[]⟩ h14 hn hq ht heq z1
 ·rw[ok_ne hv heq];exact qdu p d w hp (n3q p) ⟨d.bod,[],[],[],[],[]⟩ h14 hn hq heq
theorem oks_1nnn (p:Pk) (d:Pd) (w:World) (hp:PRd w p d) (hz:Psz p d) (ht:p.ty=1) (h1:p.hw=false) (h2:p.hu=false) :
  Calls Tryz.prog 17 #[.agg p.cells] w fun e w'=>e=.returned (.bool (pv p d).ok)∧Below w.heap.size w w':=by
 obtain⟨z1,z2,z3,z4,z5,z6⟩:=hz;have l1:d.bod.length=p.bod.n:=hp.1.1.1;have l2:d.wb.length=p.wb.n:=hp.2.1.1.1;have l3:d.pa.length=p.pa.n:=hp.2.2.1.1.1;have l4:d.wan.length=p.wan.n:=hp.2.2.2.1.1.1;have l5:d.nam.length=p.nam.n:=hp.2.2.2.2.1.1.1;have l6:d.cds.length=p.cds.n:=hp.2.2.2.2.2.1.1;have hty:(pv p d).ty=1:=ht;have h14:1≤p.ty∧p.ty≤14:=by rw[ht];decide
 have hv:pv (n1nnn p) ⟨[],[],[],[],[],[]⟩ = (pv p d).named:=by
  rw[qjn _ hty];simp only[pv,h1,h2,if_true,Bool.false_eq_true,if_false,Bool.and_true,Bool.true_and,Bool.and_false,Bool.false_and];rfl
 have hq:∀u:World,PRd u p d→PRd u (n1nnn p) ⟨[],[],[],[],[],[]⟩:=fun u hu=>⟨RdIn.nil _,RdIn.nil _,RdIn.nil _,W0 _,SRd.nil _,IRd.nil _⟩
 have hn:∀u:World,Calls Tryz.prog 70 #[.agg p.cells] u fun e u'=>e=.returned (.agg (n1nnn p).cells)∧Below u.heap.size u u':=fun u=>snam_1nnn p u ht h1 h2
 by_cases heq:pv p d=pv (n1nnn p) ⟨[],[],[],[],[],[]⟩
 ·rw[ok_eq hv h14 heq];have hB:((!p.hw || (topOk p.wt.data.toList&&(decide ((p.wb.n:Int)≤40)&&inB p.wq 0 2)))&&(inB p.lev 0 255&&(okT p.cli.data.toList&&(inB p.kee 0 65535&&(okT p.us.data.toList&&decide ((p.pa.n:Int)≤60))))))=(pv p d).body:=by
   unfold Pv.body;rw[hty,show (40:Int)=((40:Nat):Int) from rfl,show (60:Int)=((60:Nat):Int) from rfl,dec_n 40 l2,dec_n 60 l3];rfl
  rw[←hB];exact sok_1 p d w hp (n1nnn p) ⟨[],[],[],[],[],[]⟩ h14 hn hq ht heq z2 z4 z3
 ·rw[ok_ne hv heq];exact qdu p d w hp (n1nnn p) ⟨[],[],[],[],[],[]⟩ h14 hn hq heq
theorem oks_1nun (p:Pk) (d:Pd) (w:World) (hp:PRd w p d) (hz:Psz p d) (ht:p.ty=1) (h1:p.hw=false) (h2:p.hu=true) (h3:p.hp=false) :
  Calls Tryz.prog 17 #[.agg p.cells] w fun e w'=>e=.returned (.bool (pv p d).ok)∧Below w.heap.size w w':=by
 obtain⟨z1,z2,z3,z4,z5,z6⟩:=hz;have l1:d.bod.length=p.bod.n:=hp.1.1.1;have l2:d.wb.length=p.wb.n:=hp.2.1.1.1;have l3:d.pa.length=p.pa.n:=hp.2.2.1.1.1;have l4:d.wan.length=p.wan.n:=hp.2.2.2.1.1.1;have l5:d.nam.length=p.nam.n:=hp.2.2.2.2.1.1.1;have l6:d.cds.length=p.cds.n:=hp.2.2.2.2.2.1.1;have hty:(pv p d).ty=1:=ht;have h14:1≤p.ty∧p.ty≤14:=by rw[ht];decide
 have hv:pv (n1nun p) ⟨[],[],[],[],[],[]⟩ = (pv p d).named:=by
  rw[qjn _ hty];simp only[pv,h1,h2,h3,if_true,Bool.false_eq_true,if_false,Bool.and_true,Bool.true_and,Bool.and_false,Bool.false_and];rfl
 have hq:∀u:World,PRd u p d→PRd u (n1nun p) ⟨[],[],[],[],[],[]⟩:=fun u hu=>⟨RdIn.nil _,RdIn.nil _,RdIn.nil _,W0 _,SRd.nil _,IRd.nil _⟩
 have hn:∀u:World,Calls Tryz.prog 70 #[.agg p.cells] u fun e u'=>e=.returned (.agg (n1nun p).cells)∧Below u.heap.size u u':=fun u=>snam_1nun p u ht h1 h2 h3
 by_cases heq:pv p d=pv (n1nun p) ⟨[],[],[],[],[],[]⟩
 ·rw[ok_eq hv h14 heq];have hB:((!p.hw || (topOk p.wt.data.toList&&(decide ((p.wb.n:Int)≤40)&&inB p.wq 0 2)))&&(inB p.lev 0 255&&(okT p.cli.data.toList&&(inB p.kee 0 65535&&(okT p.us.data.toList&&decide ((p.pa.n:Int)≤60))))))=(pv p d).body:=by
   unfold Pv.body;rw[hty,show (40:Int)=((40:Nat):Int) from rfl,show (60:Int)=((60:Nat):Int) from rfl,dec_n 40 l2,dec_n 60 l3];rfl
  rw[←hB];exact sok_1 p d w hp (n1nun p) ⟨[],[],[],[],[],[]⟩ h14 hn hq ht heq z2 z4 z3
 ·rw[ok_ne hv heq];exact qdu p d w hp (n1nun p) ⟨[],[],[],[],[],[]⟩ h14 hn hq heq
theorem oks_1nup (p:Pk) (d:Pd) (w:World) (hp:PRd w p d) (hz:Psz p d) (ht:p.ty=1) (h1:p.hw=false) (h2:p.hu=true) (h3:p.hp=true) :
  Calls Tryz.prog 17 #[.agg p.cells] w fun e w'=>e=.returned (.bool (pv p d).ok)∧Below w.heap.size w w':=by
 obtain⟨z1,z2,z3,z4,z5,z6⟩:=hz;have l1:d.bod.length=p.bod.n:=hp.1.1.1;have l2:d.wb.length=p.wb.n:=hp.2.1.1.1;have l3:d.pa.length=p.pa.n:=hp.2.2.1.1.1;have l4:d.wan.length=p.wan.n:=hp.2.2.2.1.1.1;have l5:d.nam.length=p.nam.n:=hp.2.2.2.2.1.1.1;have l6:d.cds.length=p.cds.n:=hp.2.2.2.2.2.1.1;have hty:(pv p d).ty=1:=ht;have h14:1≤p.ty∧p.ty≤14:=by rw[ht];decide
 have hv:pv (n1nup p) ⟨[],[],d.pa,[],[],[]⟩ = (pv p d).named:=by
  rw[qjn _ hty];simp only[pv,h1,h2,h3,if_true,Bool.false_eq_true,if_false,Bool.and_true,Bool.true_and,Bool.and_false,Bool.false_and];rfl
 have hq:∀u:World,PRd u p d→PRd u (n1nup p) ⟨[],[],d.pa,[],[],[]⟩:=fun u hu=>⟨RdIn.nil _,RdIn.nil _,hu.2.2.1,W0 _,SRd.nil _,IRd.nil _⟩
 have hn:∀u:World,Calls Tryz.prog 70 #[.agg p.cells] u fun e u'=>e=.returned (.agg (n1nup p).cells)∧Below u.heap.size u u':=fun u=>snam_1nup p u ht h1 h2 h3
 by_cases heq:pv p d=pv (n1nup p) ⟨[],[],d.pa,[],[],[]⟩
 ·rw[ok_eq hv h14 heq];have hB:((!p.hw || (topOk p.wt.data.toList&&(decide ((p.wb.n:Int)≤40)&&inB p.wq 0 2)))&&(inB p.lev 0 255&&(okT p.cli.data.toList&&(inB p.kee 0 65535&&(okT p.us.data.toList&&decide ((p.pa.n:Int)≤60))))))=(pv p d).body:=by
   unfold Pv.body;rw[hty,show (40:Int)=((40:Nat):Int) from rfl,show (60:Int)=((60:Nat):Int) from rfl,dec_n 40 l2,dec_n 60 l3];rfl
  rw[←hB];exact sok_1 p d w hp (n1nup p) ⟨[],[],d.pa,[],[],[]⟩ h14 hn hq ht heq z2 z4 z3
 ·rw[ok_ne hv heq];exact qdu p d w hp (n1nup p) ⟨[],[],d.pa,[],[],[]⟩ h14 hn hq heq
theorem oks_1wnn (p:Pk) (d:Pd) (w:World) (hp:PRd w p d) (hz:Psz p d) (ht:p.ty=1) (h1:p.hw=true) (h2:p.hu=false) :
  Calls Tryz.prog 17 #[.agg p.cells] w fun e w'=>e=.returned (.bool (pv p d).ok)∧Below w.heap.size w w':=by
 obtain⟨z1,z2,z3,z4,z5,z6⟩:=hz;have l1:d.bod.length=p.bod.n:=hp.1.1.1;have l2:d.wb.length=p.wb.n:=hp.2.1.1.1;have l3:d.pa.length=p.pa.n:=hp.2.2.1.1.1;have l4:d.wan.length=p.wan.n:=hp.2.2.2.1.1.1;have l5:d.nam.length=p.nam.n:=hp.2.2.2.2.1.1.1;have l6:d.cds.length=p.cds.n:=hp.2.2.2.2.2.1.1;have hty:(pv p d).ty=1:=ht;have h14:1≤p.ty∧p.ty≤14:=by rw[ht];decide
 have hv:pv (n1wnn p) ⟨[],d.wb,[],[],[],[]⟩ = (pv p d).named:=by
  rw[qjn _ hty];simp only[pv,h1,h2,if_true,Bool.false_eq_true,if_false,Bool.and_true,Bool.true_and,Bool.and_false,Bool.false_and];rfl
 have hq:∀u:World,PRd u p d→PRd u (n1wnn p) ⟨[],d.wb,[],[],[],[]⟩:=fun u hu=>⟨RdIn.nil _,hu.2.1,RdIn.nil _,W0 _,SRd.nil _,IRd.nil _⟩
 have hn:∀u:World,Calls Tryz.prog 70 #[.agg p.cells] u fun e u'=>e=.returned (.agg (n1wnn p).cells)∧Below u.heap.size u u':=fun u=>snam_1wnn p u ht h1 h2
 by_cases heq:pv p d=pv (n1wnn p) ⟨[],d.wb,[],[],[],[]⟩
 ·rw[ok_eq hv h14 heq];have hB:((!p.hw || (topOk p.wt.data.toList&&(decide ((p.wb.n:Int)≤40)&&inB p.wq 0 2)))&&(inB p.lev 0 255&&(okT p.cli.data.toList&&(inB p.kee 0 65535&&(okT p.us.data.toList&&decide ((p.pa.n:Int)≤60))))))=(pv p d).body:=by
   unfold Pv.body;rw[hty,show (40:Int)=((40:Nat):Int) from rfl,show (60:Int)=((60:Nat):Int) from rfl,dec_n 40 l2,dec_n 60 l3];rfl
  rw[←hB];exact sok_1 p d w hp (n1wnn p) ⟨[],d.wb,[],[],[],[]⟩ h14 hn hq ht heq z2 z4 z3
 ·rw[ok_ne hv heq];exact qdu p d w hp (n1wnn p) ⟨[],d.wb,[],[],[],[]⟩ h14 hn hq heq
theorem oks_1wun (p:Pk) (d:Pd) (w:World) (hp:PRd w p d) (hz:Psz p d) (ht:p.ty=1) (h1:p.hw=true) (h2:p.hu=true) (h3:p.hp=false) :
  Calls Tryz.prog 17 #[.agg p.cells] w fun e w'=>e=.returned (.bool (pv p d).ok)∧Below w.heap.size w w':=by
 obtain⟨z1,z2,z3,z4,z5,z6⟩:=hz;have l1:d.bod.length=p.bod.n:=hp.1.1.1;have l2:d.wb.length=p.wb.n:=hp.2.1.1.1;have l3:d.pa.length=p.pa.n:=hp.2.2.1.1.1;have l4:d.wan.length=p.wan.n:=hp.2.2.2.1.1.1;have l5:d.nam.length=p.nam.n:=hp.2.2.2.2.1.1.1;have l6:d.cds.length=p.cds.n:=hp.2.2.2.2.2.1.1;have hty:(pv p d).ty=1:=ht;have h14:1≤p.ty∧p.ty≤14:=by rw[ht];decide
 have hv:pv (n1wun p) ⟨[],d.wb,[],[],[],[]⟩ = (pv p d).named:=by
  rw[qjn _ hty];simp only[pv,h1,h2,h3,if_true,Bool.false_eq_true,if_false,Bool.and_true,Bool.true_and,Bool.and_false,Bool.false_and];rfl
 have hq:∀u:World,PRd u p d→PRd u (n1wun p) ⟨[],d.wb,[],[],[],[]⟩:=fun u hu=>⟨RdIn.nil _,hu.2.1,RdIn.nil _,W0 _,SRd.nil _,IRd.nil _⟩
 have hn:∀u:World,Calls Tryz.prog 70 #[.agg p.cells] u fun e u'=>e=.returned (.agg (n1wun p).cells)∧Below u.heap.size u u':=fun u=>snam_1wun p u ht h1 h2 h3
 by_cases heq:pv p d=pv (n1wun p) ⟨[],d.wb,[],[],[],[]⟩
 ·rw[ok_eq hv h14 heq];have hB:((!p.hw || (topOk p.wt.data.toList&&(decide ((p.wb.n:Int)≤40)&&inB p.wq 0 2)))&&(inB p.lev 0 255&&(okT p.cli.data.toList&&(inB p.kee 0 65535&&(okT p.us.data.toList&&decide ((p.pa.n:Int)≤60))))))=(pv p d).body:=by
   unfold Pv.body;rw[hty,show (40:Int)=((40:Nat):Int) from rfl,show (60:Int)=((60:Nat):Int) from rfl,dec_n 40 l2,dec_n 60 l3];rfl
  rw[←hB];exact sok_1 p d w hp (n1wun p) ⟨[],d.wb,[],[],[],[]⟩ h14 hn hq ht heq z2 z4 z3
 ·rw[ok_ne hv heq];exact qdu p d w hp (n1wun p) ⟨[],d.wb,[],[],[],[]⟩ h14 hn hq heq
theorem oks_1wup (p:Pk) (d:Pd) (w:World) (hp:PRd w p d) (hz:Psz p d) (ht:p.ty=1) (h1:p.hw=true) (h2:p.hu=true) (h3:p.hp=true) :
  Calls Tryz.prog 17 #[.agg p.cells] w fun e w'=>e=.returned (.bool (pv p d).ok)∧Below w.heap.size w w':=by
 obtain⟨z1,z2,z3,z4,z5,z6⟩:=hz;have l1:d.bod.length=p.bod.n:=hp.1.1.1;have l2:d.wb.length=p.wb.n:=hp.2.1.1.1;have l3:d.pa.length=p.pa.n:=hp.2.2.1.1.1;have l4:d.wan.length=p.wan.n:=hp.2.2.2.1.1.1;have l5:d.nam.length=p.nam.n:=hp.2.2.2.2.1.1.1;have l6:d.cds.length=p.cds.n:=hp.2.2.2.2.2.1.1;have hty:(pv p d).ty=1:=ht;have h14:1≤p.ty∧p.ty≤14:=by rw[ht];decide
 have hv:pv (n1wup p) ⟨[],d.wb,d.pa,[],[],[]⟩ = (pv p d).named:=by
  rw[qjn _ hty];simp only[pv,h1,h2,h3,if_true,Bool.false_eq_true,if_false,Bool.and_true,Bool.true_and,Bool.and_false,Bool.false_and];rfl
 have hq:∀u:World,PRd u p d→PRd u (n1wup p) ⟨[],d.wb,d.pa,[],[],[]⟩:=fun u hu=>⟨RdIn.nil _,hu.2.1,hu.2.2.1,W0 _,SRd.nil _,IRd.nil _⟩
 have hn:∀u:World,Calls Tryz.prog 70 #[.agg p.cells] u fun e u'=>e=.returned (.agg (n1wup p).cells)∧Below u.heap.size u u':=fun u=>snam_1wup p u ht h1 h2 h3
 by_cases heq:pv p d=pv (n1wup p) ⟨[],d.wb,d.pa,[],[],[]⟩
 ·rw[ok_eq hv h14 heq];have hB:((!p.hw || (topOk p.wt.data.toList&&(decide ((p.wb.n:Int)≤40)&&inB p.wq 0 2)))&&(inB p.lev 0 255&&(okT p.cli.data.toList&&(inB p.kee 0 65535&&(okT p.us.data.toList&&decide ((p.pa.n:Int)≤60))))))=(pv p d).body:=by
   unfold Pv.body;rw[hty,show (40:Int)=((40:Nat):Int) from rfl,show (60:Int)=((60:Nat):Int) from rfl,dec_n 40 l2,dec_n 60 l3];rfl
  rw[←hB];exact sok_1 p d w hp (n1wup p) ⟨[],d.wb,d.pa,[],[],[]⟩ h14 hn hq ht heq z2 z4 z3
 ·rw[ok_ne hv heq];exact qdu p d w hp (n1wup p) ⟨[],d.wb,d.pa,[],[],[]⟩ h14 hn hq heq
theorem oks_8 (p:Pk) (d:Pd) (w:World) (hp:PRd w p d) (hz:Psz p d) (ht:p.ty=8) :
  Calls Tryz.prog 17 #[.agg p.cells] w fun e w'=>e=.returned (.bool (pv p d).ok)∧Below w.heap.size w w':=by
 obtain⟨z1,z2,z3,z4,z5,z6⟩:=hz;have l1:d.bod.length=p.bod.n:=hp.1.1.1;have l2:d.wb.length=p.wb.n:=hp.2.1.1.1;have l3:d.pa.length=p.pa.n:=hp.2.2.1.1.1;have l4:d.wan.length=p.wan.n:=hp.2.2.2.1.1.1;have l5:d.nam.length=p.nam.n:=hp.2.2.2.2.1.1.1;have l6:d.cds.length=p.cds.n:=hp.2.2.2.2.2.1.1;have hty:(pv p d).ty=8:=ht;have h14:1≤p.ty∧p.ty≤14:=by rw[ht];decide
 have hv:pv (n8 p) ⟨[],[],[],d.wan,[],[]⟩ = (pv p d).named:=by
  rw[qtp _ hty];rfl
 have hq:∀u:World,PRd u p d→PRd u (n8 p) ⟨[],[],[],d.wan,[],[]⟩:=fun u hu=>⟨RdIn.nil _,RdIn.nil _,RdIn.nil _,hu.2.2.2.1,SRd.nil _,IRd.nil _⟩
 have hn:∀u:World,Calls Tryz.prog 70 #[.agg p.cells] u fun e u'=>e=.returned (.agg (n8 p).cells)∧Below u.heap.size u u':=fun u=>snam_8 p u ht 
 by_cases heq:pv p d=pv (n8 p) ⟨[],[],[],d.wan,[],[]⟩
 ·rw[ok_eq hv h14 heq];have hB:(d.wan.all qcm&&(inB p.id 1 65535&&inB p.wan.n 1 4))=(pv p d).body:=by
   unfold Pv.body;rw[hty,←l4];rfl
  rw[←hB];exact sok_8 p d w hp (n8 p) ⟨[],[],[],d.wan,[],[]⟩ h14 hn hq ht heq z5
 ·rw[ok_ne hv heq];exact qdu p d w hp (n8 p) ⟨[],[],[],d.wan,[],[]⟩ h14 hn hq heq
theorem oks_9 (p:Pk) (d:Pd) (w:World) (hp:PRd w p d) (hz:Psz p d) (ht:p.ty=9) :
  Calls Tryz.prog 17 #[.agg p.cells] w fun e w'=>e=.returned (.bool (pv p d).ok)∧Below w.heap.size w w':=by
 obtain⟨z1,z2,z3,z4,z5,z6⟩:=hz;have l1:d.bod.length=p.bod.n:=hp.1.1.1;have l2:d.wb.length=p.wb.n:=hp.2.1.1.1;have l3:d.pa.length=p.pa.n:=hp.2.2.1.1.1;have l4:d.wan.length=p.wan.n:=hp.2.2.2.1.1.1;have l5:d.nam.length=p.nam.n:=hp.2.2.2.2.1.1.1;have l6:d.cds.length=p.cds.n:=hp.2.2.2.2.2.1.1;have hty:(pv p d).ty=9:=ht;have h14:1≤p.ty∧p.ty≤14:=by rw[ht];decide
 have hv:pv (n9 p) ⟨[],[],[],[],[],d.cds⟩ = (pv p d).named:=by
  rw[qtq _ hty];rfl
 have hq:∀u:World,PRd u p d→PRd u (n9 p) ⟨[],[],[],[],[],d.cds⟩:=fun u hu=>⟨RdIn.nil _,RdIn.nil _,RdIn.nil _,W0 _,SRd.nil _,hu.2.2.2.2.2⟩
 have hn:∀u:World,Calls Tryz.prog 70 #[.agg p.cells] u fun e u'=>e=.returned (.agg (n9 p).cells)∧Below u.heap.size u u':=fun u=>snam_9 p u ht 
 by_cases heq:pv p d=pv (n9 p) ⟨[],[],[],[],[],d.cds⟩
 ·rw[ok_eq hv h14 heq];have hB:(d.cds.all qci&&(inB p.id 1 65535&&inB p.cds.n 1 4))=(pv p d).body:=by
   unfold Pv.body;rw[hty,←l6];rfl
  rw[←hB];exact sok_9 p d w hp (n9 p) ⟨[],[],[],[],[],d.cds⟩ h14 hn hq ht heq 
 ·rw[ok_ne hv heq];exact qdu p d w hp (n9 p) ⟨[],[],[],[],[],d.cds⟩ h14 hn hq heq
theorem oks_10 (p:Pk) (d:Pd) (w:World) (hp:PRd w p d) (hz:Psz p d) (ht:p.ty=10) :
  Calls Tryz.prog 17 #[.agg p.cells] w fun e w'=>e=.returned (.bool (pv p d).ok)∧Below w.heap.size w w':=by
 obtain⟨z1,z2,z3,z4,z5,z6⟩:=hz;have l1:d.bod.length=p.bod.n:=hp.1.1.1;have l2:d.wb.length=p.wb.n:=hp.2.1.1.1;have l3:d.pa.length=p.pa.n:=hp.2.2.1.1.1;have l4:d.wan.length=p.wan.n:=hp.2.2.2.1.1.1;have l5:d.nam.length=p.nam.n:=hp.2.2.2.2.1.1.1;have l6:d.cds.length=p.cds.n:=hp.2.2.2.2.2.1.1;have hty:(pv p d).ty=10:=ht;have h14:1≤p.ty∧p.ty≤14:=by rw[ht];decide
 have hv:pv (n10 p) ⟨[],[],[],[],d.nam,[]⟩ = (pv p d).named:=by
  rw[qpo _ hty];rfl
 have hq:∀u:World,PRd u p d→PRd u (n10 p) ⟨[],[],[],[],d.nam,[]⟩:=fun u hu=>⟨RdIn.nil _,RdIn.nil _,RdIn.nil _,W0 _,hu.2.2.2.2.1,IRd.nil _⟩
 have hn:∀u:World,Calls Tryz.prog 70 #[.agg p.cells] u fun e u'=>e=.returned (.agg (n10 p).cells)∧Below u.heap.size u u':=fun u=>snam_10 p u ht 
 by_cases heq:pv p d=pv (n10 p) ⟨[],[],[],[],d.nam,[]⟩
 ·rw[ok_eq hv h14 heq];have hB:(d.nam.all flt&&(inB p.id 1 65535&&inB p.nam.n 1 4))=(pv p d).body:=by
   unfold Pv.body;rw[hty,←l5];rfl
  rw[←hB];exact sok_10 p d w hp (n10 p) ⟨[],[],[],[],d.nam,[]⟩ h14 hn hq ht heq z6
 ·rw[ok_ne hv heq];exact qdu p d w hp (n10 p) ⟨[],[],[],[],d.nam,[]⟩ h14 hn hq heq
theorem qgt (p:Pk) (d:Pd) (w:World) (hp:PRd w p d) (hz:Psz p d) :
  Calls Tryz.prog 17 #[.agg p.cells] w fun e w'=>e=.returned (.bool (pv p d).ok)∧Below w.heap.size w w':=by
 by_cases h:1≤p.ty∧p.ty≤14
 rotate_left
 ·rw[ok_off (pv p d) h];exact sok_off p w h
 have h14:p.ty=1∨p.ty=2∨p.ty=3∨p.ty=4∨p.ty=5∨p.ty=6∨p.ty=7∨p.ty=8∨p.ty=9∨p.ty=10∨p.ty=11∨p.ty=12∨p.ty=13∨p.ty=14:=by omega
 rcases h14 with ht | ht | ht | ht | ht | ht | ht | ht | ht | ht | ht | ht | ht | ht
 ·cases h1:p.hw<;>cases h2:p.hu<;>cases h3:p.hp
  ·exact oks_1nnn p d w hp hz ht h1 h2
  ·exact oks_1nnn p d w hp hz ht h1 h2
  ·exact oks_1nun p d w hp hz ht h1 h2 h3
  ·exact oks_1nup p d w hp hz ht h1 h2 h3
  ·exact oks_1wnn p d w hp hz ht h1 h2
  ·exact oks_1wnn p d w hp hz ht h1 h2
  ·exact oks_1wun p d w hp hz ht h1 h2 h3
  ·exact oks_1wup p d w hp hz ht h1 h2 h3
 ·cases h1:p.pre
  ·exact oks_2n p d w hp hz ht h1
  ·exact oks_2p p d w hp hz ht h1
 ·by_cases h1:0<p.qos
  ·exact oks_3q p d w hp hz ht h1
  ·exact oks_3n p d w hp hz ht h1
 ·exact oks_4 p d w hp hz ht
 ·exact oks_5 p d w hp hz ht
 ·exact oks_6 p d w hp hz ht
 ·exact oks_7 p d w hp hz ht
 ·exact oks_8 p d w hp hz ht
 ·exact oks_9 p d w hp hz ht
 ·exact oks_10 p d w hp hz ht
 ·exact oks_11 p d w hp hz ht
 ·exact oks_12 p d w hp hz ht
 ·exact oks_13 p d w hp hz ht
 ·exact oks_14 p d w hp hz ht
