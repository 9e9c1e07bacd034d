/- Lemmas. -/
import Derived.Test.YtpjkbgdkligpdaaGreatDoorY18
import Derived.Test.YtpjkbgdkligpdaaGreatDoorY01
set_option linter.all false
set_option maxRecDepth 100000
set_option maxHeartbeats 20000000
namespace Go.Proofs.YtpjkbgdkligpdaaGreatDoor
open Go.RowKit

theorem sok_c (p:Pk) (d:Pd) (w:World) (hp:PRd w p d) (q:Pk) (dq:Pd) (ht:1≤p.ty∧p.ty≤14)
  (hnam:∀u:World,Calls Tryz.prog 70 #[.agg p.cells] u fun e u'=>e=.returned (.agg q.cells)∧Below u.heap.size u u')
  (hq:∀u:World,PRd u p d→PRd u q dq) (hk:p.ty=4∨p.ty=5∨p.ty=6∨p.ty=7∨p.ty=11) (heq:pv p d=pv q dq) :
  Calls Tryz.prog 17 #[.agg p.cells] w fun e w'=>e=.returned (.bool (inB p.id 1 65535))∧Below w.heap.size w w':=by
 have hb:Below w.heap.size w (w.alloc (.cells p.cells 28)):=qac _ _;have A:Blk (w.alloc (.cells p.cells 28)) w.heap.size p:=heap_alloc_new _ _;replace hp:=hp.below hb;go_enter Tryz.func17,Tryz.ntmps17;go_wp2;refine qaw (by kernel_rfl) rfl (fun i u x=>match i with
  |0=>u=.pointer (some ((⟨w.heap.size,0,none⟩ : Addr).add 0))
  |1=>u=.int .i64 p.ty
  |2=>u=.bool true
  |3 | 4=>u=.bool false
  |5 | 6=>u=.agg p.cells
  |7=>u=.agg q.cells
  |8=>u=.bool (decide (pv p d=pv q dq))
  |_=>u=.bool (!decide (pv p d=pv q dq))) ?_ ?_ ?_
 ·intro i u x x' hx h;exact h
 ·intro i o a u hi hk hbu hdep;replace hdep:=qhdd hdep
  match i,hi with
  |0,hi=>cases hi;have e1:a.tmps[1]? = some (.pointer (some ⟨w.heap.size,0,none⟩)):=(hk.at 1 rfl).trans rfl;exact qggo rfl (qae (w':=u) (v:=.pointer (some ((⟨w.heap.size,0,none⟩ : Addr).add 0))) (by simp only[execOp,qab e1,Sem.run_bind,fld0,Result.andThen_ok,Sem.run_pure]) (qzqq rfl))
  |1,hi=>cases hi;obtain⟨z,hz,rfl⟩:=hdep 0 rfl;have hl:=qan (P:=Tryz.prog) (w:=u) Tryz.underlying3 rfl (X:=(⟨w.heap.size,0,none⟩ : Addr).add 0) (((A.next hbu).cell 0).trans p.c0);exact qggo rfl (qae (w':=u) (v:=.int .i64 p.ty) (by simp only[execOp,qab hz,Sem.run_bind,hl,Result.andThen_ok,Sem.run_pure]) (qzqq rfl))
  |2,hi=>cases hi;obtain⟨z,hz,rfl⟩:=hdep 1 rfl;refine qggo rfl (qal (qde _ _ _ _ _ _ _ _ _ _ qgz (qab hz) rfl rfl (fun _=>rfl) _ _ _ _ _ _) ?_);refine (qax _ _ _ true _ (decide_eq_true ht)).mono ?_;rintro e u' ⟨rfl,rfl⟩;exact⟨_,rfl,_,rfl,Below.refl _ _,rfl⟩
  |3,hi=>cases hi;obtain⟨z,hz,rfl⟩:=hdep 2 rfl;exact qggo rfl (qae (v:=.bool false) (w':=u) (by simp[execOp,qab hz,Op.unary]) (qzqq rfl))
  |4,hi=>cases hi;obtain⟨z,hz,rfl⟩:=hdep 3 rfl;exact qggo rfl (qae (by simp[execOp,qab hz]) (qzqq rfl))
  |5,hi=>cases hi;obtain⟨z,hz,rfl⟩:=hdep 4 rfl;exact g_run (qao rfl (qaq rfl hz)) (qbg (A.next hbu) _ rfl (qevv hk 1 rfl rfl) (qzqq rfl))
  |6,hi=>cases hi;obtain⟨z,hz,rfl⟩:=hdep 4 rfl;exact g_run (qao rfl (qaq rfl hz)) (qbg (A.next hbu) _ rfl (qevv hk 1 rfl rfl) (qzqq rfl))
  |7,hi=>cases hi;obtain⟨z,hz,rfl⟩:=hdep 4 rfl;obtain⟨z',hz',rfl⟩:=hdep 6 rfl;refine g_run (qao rfl (qaq rfl hz)) (qal (qbu _ _ _ _ _ _ qie (qab hz') (fun _=>rfl) _ _ _ _ _ _) ?_);refine (hnam u).mono ?_;rintro e u' ⟨rfl,hb'⟩;exact⟨_,rfl,_,rfl,hb',rfl⟩
  |8,hi=>cases hi;obtain⟨z,hz,rfl⟩:=hdep 4 rfl;obtain⟨z5,hz5,rfl⟩:=hdep 5 rfl;obtain⟨z7,hz7,rfl⟩:=hdep 7 rfl;refine g_run (qao rfl (qaq rfl hz)) (qal (qak _ _ _ _ _ _ _ _ qga (qab hz5) (qab hz7) (fun _=>rfl) _ _ _ _ _ _) ?_);refine (qbo p q d dq u (hp.below hbu) (hq u (hp.below hbu))).mono ?_;rintro e u' ⟨rfl,hb'⟩;exact⟨_,rfl,_,rfl,hb',rfl⟩
  |9,hi=>cases hi;obtain⟨z,hz,rfl⟩:=hdep 4 rfl;obtain⟨z',hz',rfl⟩:=hdep 8 rfl;exact g_run (qao rfl (qaq rfl hz)) (qae (v:=.bool (!decide (pv p d=pv q dq))) (w':=u) (by simp[execOp,qab hz',Op.unary]) (qzqq rfl))
  |10,hi=>cases hi;obtain⟨z,hz,rfl⟩:=hdep 4 rfl;obtain⟨z',hz',rfl⟩:=hdep 9 rfl;exact qggo rfl (qae (v:=.bool (!decide (pv p d=pv q dq))) (w':=u) (by simp[execOp,qab hz,qab hz',asBool]) (qzqq rfl))
  |(_+11),hi=>cases hi
 intro vs y b1 hG a3 h3;have g10:vs 10=.bool (!decide (pv p d=pv q dq)):=hG 10 (by decide);clear hG;replace h3:puts _ 2 _ Fr191=a3:=h3;replace h3:puts _ 4 _ Fr191=a3:=h3;replace h3:puts _ 6 _ Fr191=a3:=h3;replace h3:puts _ 8 _ Fr191=a3:=h3;replace h3:puts _ 10 _ Fr191=a3:=h3;replace h3:Fr191=_:=h3;unfold Fr191 at h3;subst h3;replace hb:=bel hb b1;replace A:=A.next b1;replace hp:=hp.below b1;clear b1;rw[decide_eq_true heq] at g10;simp only[g10];clear hnam hq g10 heq;have f0:y.cell? ⟨w.heap.size,0,none⟩ = some (.int .i64 p.ty):=(A.cell 0).trans p.c0;have f4:y.cell? ⟨w.heap.size,4,none⟩ = some (.int .i64 p.id):=(A.cell 4).trans p.c4;clear A
 rcases hk with hk | hk | hk | hk | hk
 all_goals
  rw[hk] at f0;go_wp2_with fail
  refine (qax p.id 1 65535 (inB p.id 1 65535) _ rfl).mono ?_;rintro e zi ⟨rfl,hzi⟩;subst hzi;go_wp2;go_ret;exact⟨rfl,hb⟩
theorem sok_n (p:Pk) (d:Pd) (w:World) (hp:PRd w p d) (q:Pk) (dq:Pd) (ht:1≤p.ty∧p.ty≤14)
  (hnam:∀u:World,Calls Tryz.prog 70 #[.agg p.cells] u fun e u'=>e=.returned (.agg q.cells)∧Below u.heap.size u u')
  (hq:∀u:World,PRd u p d→PRd u q dq) (hk:p.ty=12∨p.ty=13∨p.ty=14) (heq:pv p d=pv q dq) :
  Calls Tryz.prog 17 #[.agg p.cells] w fun e w'=>e=.returned (.bool (true))∧Below w.heap.size w w':=by
 have hb:Below w.heap.size w (w.alloc (.cells p.cells 28)):=qac _ _;have A:Blk (w.alloc (.cells p.cells 28)) w.heap.size p:=heap_alloc_new _ _;replace hp:=hp.below hb;go_enter Tryz.func17,Tryz.ntmps17;go_wp2;refine qaw (by kernel_rfl) rfl (fun i u x=>match i with
  |0=>u=.pointer (some ((⟨w.heap.size,0,none⟩ : Addr).add 0))
  |1=>u=.int .i64 p.ty
  |2=>u=.bool true
  |3 | 4=>u=.bool false
  |5 | 6=>u=.agg p.cells
  |7=>u=.agg q.cells
  |8=>u=.bool (decide (pv p d=pv q dq))
  |_=>u=.bool (!decide (pv p d=pv q dq))) ?_ ?_ ?_
 ·intro i u x x' hx h;exact h
 ·intro i o a u hi hk hbu hdep;replace hdep:=qhdd hdep
  match i,hi with
  |0,hi=>cases hi;have e1:a.tmps[1]? = some (.pointer (some ⟨w.heap.size,0,none⟩)):=(hk.at 1 rfl).trans rfl;exact qggo rfl (qae (w':=u) (v:=.pointer (some ((⟨w.heap.size,0,none⟩ : Addr).add 0))) (by simp only[execOp,qab e1,Sem.run_bind,fld0,Result.andThen_ok,Sem.run_pure]) (qzqq rfl))
  |1,hi=>cases hi;obtain⟨z,hz,rfl⟩:=hdep 0 rfl;have hl:=qan (P:=Tryz.prog) (w:=u) Tryz.underlying3 rfl (X:=(⟨w.heap.size,0,none⟩ : Addr).add 0) (((A.next hbu).cell 0).trans p.c0);exact qggo rfl (qae (w':=u) (v:=.int .i64 p.ty) (by simp only[execOp,qab hz,Sem.run_bind,hl,Result.andThen_ok,Sem.run_pure]) (qzqq rfl))
  |2,hi=>cases hi;obtain⟨z,hz,rfl⟩:=hdep 1 rfl;refine qggo rfl (qal (qde _ _ _ _ _ _ _ _ _ _ qgz (qab hz) rfl rfl (fun _=>rfl) _ _ _ _ _ _) ?_);refine (qax _ _ _ true _ (decide_eq_true ht)).mono ?_;rintro e u' ⟨rfl,rfl⟩;exact⟨_,rfl,_,rfl,Below.refl _ _,rfl⟩
  |3,hi=>cases hi;obtain⟨z,hz,rfl⟩:=hdep 2 rfl;exact qggo rfl (qae (v:=.bool false) (w':=u) (by simp[execOp,qab hz,Op.unary]) (qzqq rfl))
  |4,hi=>cases hi;obtain⟨z,hz,rfl⟩:=hdep 3 rfl;exact qggo rfl (qae (by simp[execOp,qab hz]) (qzqq rfl))
  |5,hi=>cases hi;obtain⟨z,hz,rfl⟩:=hdep 4 rfl;exact g_run (qao rfl (qaq rfl hz)) (qbg (A.next hbu) _ rfl (qevv hk 1 rfl rfl) (qzqq rfl))
  |6,hi=>cases hi;obtain⟨z,hz,rfl⟩:=hdep 4 rfl;exact g_run (qao rfl (qaq rfl hz)) (qbg (A.next hbu) _ rfl (qevv hk 1 rfl rfl) (qzqq rfl))
  |7,hi=>cases hi;obtain⟨z,hz,rfl⟩:=hdep 4 rfl;obtain⟨z',hz',rfl⟩:=hdep 6 rfl;refine g_run (qao rfl (qaq rfl hz)) (qal (qbu _ _ _ _ _ _ qie (qab hz') (fun _=>rfl) _ _ _ _ _ _) ?_);refine (hnam u).mono ?_;rintro e u' ⟨rfl,hb'⟩;exact⟨_,rfl,_,rfl,hb',rfl⟩
  |8,hi=>cases hi;obtain⟨z,hz,rfl⟩:=hdep 4 rfl;obtain⟨z5,hz5,rfl⟩:=hdep 5 rfl;obtain⟨z7,hz7,rfl⟩:=hdep 7 rfl;refine g_run (qao rfl (qaq rfl hz)) (qal (qak _ _ _ _ _ _ _ _ qga (qab hz5) (qab hz7) (fun _=>rfl) _ _ _ _ _ _) ?_);refine (qbo p q d dq u (hp.below hbu) (hq u (hp.below hbu))).mono ?_;rintro e u' ⟨rfl,hb'⟩;exact⟨_,rfl,_,rfl,hb',rfl⟩
  |9,hi=>cases hi;obtain⟨z,hz,rfl⟩:=hdep 4 rfl;obtain⟨z',hz',rfl⟩:=hdep 8 rfl;exact g_run (qao rfl (qaq rfl hz)) (qae (v:=.bool (!decide (pv p d=pv q dq))) (w':=u) (by simp[execOp,qab hz',Op.unary]) (qzqq rfl))
  |10,hi=>cases hi;obtain⟨z,hz,rfl⟩:=hdep 4 rfl;obtain⟨z',hz',rfl⟩:=hdep 9 rfl;exact qggo rfl (qae (v:=.bool (!decide (pv p d=pv q dq))) (w':=u) (by simp[execOp,qab hz,qab hz',asBool]) (qzqq rfl))
  |(_+11),hi=>cases hi
 intro vs y b1 hG a3 h3;have g10:vs 10=.bool (!decide (pv p d=pv q dq)):=hG 10 (by decide);clear hG;replace h3:puts _ 2 _ Fr191=a3:=h3;replace h3:puts _ 4 _ Fr191=a3:=h3;replace h3:puts _ 6 _ Fr191=a3:=h3;replace h3:puts _ 8 _ Fr191=a3:=h3;replace h3:puts _ 10 _ Fr191=a3:=h3;replace h3:Fr191=_:=h3;unfold Fr191 at h3;subst h3;replace hb:=bel hb b1;replace A:=A.next b1;replace hp:=hp.below b1;clear b1;rw[decide_eq_true heq] at g10;simp only[g10];clear hnam hq g10 heq;have f0:y.cell? ⟨w.heap.size,0,none⟩ = some (.int .i64 p.ty):=(A.cell 0).trans p.c0;have f4:y.cell? ⟨w.heap.size,4,none⟩ = some (.int .i64 p.id):=(A.cell 4).trans p.c4;clear A
 rcases hk with hk | hk | hk
 all_goals
  rw[hk] at f0;go_wp2_with fail
  refine (qax p.id 1 65535 (inB p.id 1 65535) _ rfl).mono ?_;rintro e zi ⟨rfl,hzi⟩;subst hzi;go_wp2;go_ret;exact⟨rfl,hb⟩
theorem sok_2 (p:Pk) (d:Pd) (w:World) (hp:PRd w p d) (q:Pk) (dq:Pd) (ht:1≤p.ty∧p.ty≤14)
  (hnam:∀u:World,Calls Tryz.prog 70 #[.agg p.cells] u fun e u'=>e=.returned (.agg q.cells)∧Below u.heap.size u u')
  (hq:∀u:World,PRd u p d→PRd u q dq) (hk:p.ty=2) (heq:pv p d=pv q dq) :
  Calls Tryz.prog 17 #[.agg p.cells] w fun e w'=>e=.returned (.bool (inB p.cod 0 5))∧Below w.heap.size w w':=by
 have hb:Below w.heap.size w (w.alloc (.cells p.cells 28)):=qac _ _;have A:Blk (w.alloc (.cells p.cells 28)) w.heap.size p:=heap_alloc_new _ _;replace hp:=hp.below hb;go_enter Tryz.func17,Tryz.ntmps17;go_wp2;refine qaw (by kernel_rfl) rfl (fun i u x=>match i with
  |0=>u=.pointer (some ((⟨w.heap.size,0,none⟩ : Addr).add 0))
  |1=>u=.int .i64 p.ty
  |2=>u=.bool true
  |3 | 4=>u=.bool false
  |5 | 6=>u=.agg p.cells
  |7=>u=.agg q.cells
  |8=>u=.bool (decide (pv p d=pv q dq))
  |_=>u=.bool (!decide (pv p d=pv q dq))) ?_ ?_ ?_
 ·intro i u x x' hx h;exact h
 ·intro i o a u hi hk hbu hdep;replace hdep:=qhdd hdep
  match i,hi with
  |0,hi=>cases hi;have e1:a.tmps[1]? = some (.pointer (some ⟨w.heap.size,0,none⟩)):=(hk.at 1 rfl).trans rfl;exact qggo rfl (qae (w':=u) (v:=.pointer (some ((⟨w.heap.size,0,none⟩ : Addr).add 0))) (by simp only[execOp,qab e1,Sem.run_bind,fld0,Result.andThen_ok,Sem.run_pure]) (qzqq rfl))
  |1,hi=>cases hi;obtain⟨z,hz,rfl⟩:=hdep 0 rfl;have hl:=qan (P:=Tryz.prog) (w:=u) Tryz.underlying3 rfl (X:=(⟨w.heap.size,0,none⟩ : Addr).add 0) (((A.next hbu).cell 0).trans p.c0);exact qggo rfl (qae (w':=u) (v:=.int .i64 p.ty) (by simp only[execOp,qab hz,Sem.run_bind,hl,Result.andThen_ok,Sem.run_pure]) (qzqq rfl))
  |2,hi=>cases hi;obtain⟨z,hz,rfl⟩:=hdep 1 rfl;refine qggo rfl (qal (qde _ _ _ _ _ _ _ _ _ _ qgz (qab hz) rfl rfl (fun _=>rfl) _ _ _ _ _ _) ?_);refine (qax _ _ _ true _ (decide_eq_true ht)).mono ?_;rintro e u' ⟨rfl,rfl⟩;exact⟨_,rfl,_,rfl,Below.refl _ _,rfl⟩
  |3,hi=>cases hi;obtain⟨z,hz,rfl⟩:=hdep 2 rfl;exact qggo rfl (qae (v:=.bool false) (w':=u) (by simp[execOp,qab hz,Op.unary]) (qzqq rfl))
  |4,hi=>cases hi;obtain⟨z,hz,rfl⟩:=hdep 3 rfl;exact qggo rfl (qae (by simp[execOp,qab hz]) (qzqq rfl))
  |5,hi=>cases hi;obtain⟨z,hz,rfl⟩:=hdep 4 rfl;exact g_run (qao rfl (qaq rfl hz)) (qbg (A.next hbu) _ rfl (qevv hk 1 rfl rfl) (qzqq rfl))
  |6,hi=>cases hi;obtain⟨z,hz,rfl⟩:=hdep 4 rfl;exact g_run (qao rfl (qaq rfl hz)) (qbg (A.next hbu) _ rfl (qevv hk 1 rfl rfl) (qzqq rfl))
  |7,hi=>cases hi;obtain⟨z,hz,rfl⟩:=hdep 4 rfl;obtain⟨z',hz',rfl⟩:=hdep 6 rfl;refine g_run (qao rfl (qaq rfl hz)) (qal (qbu _ _ _ _ _ _ qie (qab hz') (fun _=>rfl) _ _ _ _ _ _) ?_);refine (hnam u).mono ?_;rintro e u' ⟨rfl,hb'⟩;exact⟨_,rfl,_,rfl,hb',rfl⟩
  |8,hi=>cases hi;obtain⟨z,hz,rfl⟩:=hdep 4 rfl;obtain⟨z5,hz5,rfl⟩:=hdep 5 rfl;obtain⟨z7,hz7,rfl⟩:=hdep 7 rfl;refine g_run (qao rfl (qaq rfl hz)) (qal (qak _ _ _ _ _ _ _ _ qga (qab hz5) (qab hz7) (fun _=>rfl) _ _ _ _ _ _) ?_);refine (qbo p q d dq u (hp.below hbu) (hq u (hp.below hbu))).mono ?_;rintro e u' ⟨rfl,hb'⟩;exact⟨_,rfl,_,rfl,hb',rfl⟩
  |9,hi=>cases hi;obtain⟨z,hz,rfl⟩:=hdep 4 rfl;obtain⟨z',hz',rfl⟩:=hdep 8 rfl;exact g_run (qao rfl (qaq rfl hz)) (qae (v:=.bool (!decide (pv p d=pv q dq))) (w':=u) (by simp[execOp,qab hz',Op.unary]) (qzqq rfl))
  |10,hi=>cases hi;obtain⟨z,hz,rfl⟩:=hdep 4 rfl;obtain⟨z',hz',rfl⟩:=hdep 9 rfl;exact qggo rfl (qae (v:=.bool (!decide (pv p d=pv q dq))) (w':=u) (by simp[execOp,qab hz,qab hz',asBool]) (qzqq rfl))
  |(_+11),hi=>cases hi
 intro vs y b1 hG a3 h3;have g10:vs 10=.bool (!decide (pv p d=pv q dq)):=hG 10 (by decide);clear hG;replace h3:puts _ 2 _ Fr191=a3:=h3;replace h3:puts _ 4 _ Fr191=a3:=h3;replace h3:puts _ 6 _ Fr191=a3:=h3;replace h3:puts _ 8 _ Fr191=a3:=h3;replace h3:puts _ 10 _ Fr191=a3:=h3;replace h3:Fr191=_:=h3;unfold Fr191 at h3;subst h3;replace hb:=bel hb b1;replace A:=A.next b1;replace hp:=hp.below b1;clear b1;rw[decide_eq_true heq] at g10;simp only[g10];clear hnam hq g10 heq;have f0:y.cell? ⟨w.heap.size,0,none⟩ = some (.int .i64 2):=(A.cell 0).trans (p.c0.trans (by rw[hk]));have f4:y.cell? ⟨w.heap.size,4,none⟩ = some (.int .i64 p.id):=(A.cell 4).trans p.c4;have f20:y.cell? ⟨w.heap.size,20,none⟩ = some (.int .i64 p.cod):=(A.cell 20).trans p.c20;clear A;go_wp2_with fail
 refine (qax p.id 1 65535 (inB p.id 1 65535) _ rfl).mono ?_;rintro e zi ⟨rfl,hzi⟩;subst hzi;go_wp2_with fail
 refine (qax p.cod 0 5 (inB p.cod 0 5) _ rfl).mono ?_;rintro e z2 ⟨rfl,hz2⟩;subst hz2;go_wp2;go_ret;exact⟨rfl,hb⟩
theorem sok_3 (p:Pk) (d:Pd) (w:World) (hp:PRd w p d) (q:Pk) (dq:Pd) (ht:1≤p.ty∧p.ty≤14)
  (hnam:∀u:World,Calls Tryz.prog 70 #[.agg p.cells] u fun e u'=>e=.returned (.agg q.cells)∧Below u.heap.size u u')
  (hq:∀u:World,PRd u p d→PRd u q dq) (hk:p.ty=3) (heq:pv p d=pv q dq) (hs:p.top.size≤1048576) :
  Calls Tryz.prog 17 #[.agg p.cells] w fun e w'=>e=.returned (.bool (inB p.qos 0 2&&((decide (p.qos=0) || inB p.id 1 65535)&&(topOk p.top.data.toList&&decide ((p.bod.n:Int)≤40)))))∧Below w.heap.size w w':=by
 have hb:Below w.heap.size w (w.alloc (.cells p.cells 28)):=qac _ _;have A:Blk (w.alloc (.cells p.cells 28)) w.heap.size p:=heap_alloc_new _ _;replace hp:=hp.below hb;go_enter Tryz.func17,Tryz.ntmps17;go_wp2;refine qaw (by kernel_rfl) rfl (fun i u x=>match i with
  |0=>u=.pointer (some ((⟨w.heap.size,0,none⟩ : Addr).add 0))
  |1=>u=.int .i64 p.ty
  |2=>u=.bool true
  |3 | 4=>u=.bool false
  |5 | 6=>u=.agg p.cells
  |7=>u=.agg q.cells
  |8=>u=.bool (decide (pv p d=pv q dq))
  |_=>u=.bool (!decide (pv p d=pv q dq))) ?_ ?_ ?_
 ·intro i u x x' hx h;exact h
 ·intro i o a u hi hk hbu hdep;replace hdep:=qhdd hdep
  match i,hi with
  |0,hi=>cases hi;have e1:a.tmps[1]? = some (.pointer (some ⟨w.heap.size,0,none⟩)):=(hk.at 1 rfl).trans rfl;exact qggo rfl (qae (w':=u) (v:=.pointer (some ((⟨w.heap.size,0,none⟩ : Addr).add 0))) (by simp only[execOp,qab e1,Sem.run_bind,fld0,Result.andThen_ok,Sem.run_pure]) (qzqq rfl))
  |1,hi=>cases hi;obtain⟨z,hz,rfl⟩:=hdep 0 rfl;have hl:=qan (P:=Tryz.prog) (w:=u) Tryz.underlying3 rfl (X:=(⟨w.heap.size,0,none⟩ : Addr).add 0) (((A.next hbu).cell 0).trans p.c0);exact qggo rfl (qae (w':=u) (v:=.int .i64 p.ty) (by simp only[execOp,qab hz,Sem.run_bind,hl,Result.andThen_ok,Sem.run_pure]) (qzqq rfl))
  |2,hi=>cases hi;obtain⟨z,hz,rfl⟩:=hdep 1 rfl;refine qggo rfl (qal (qde _ _ _ _ _ _ _ _ _ _ qgz (qab hz) rfl rfl (fun _=>rfl) _ _ _ _ _ _) ?_);refine (qax _ _ _ true _ (decide_eq_true ht)).mono ?_;rintro e u' ⟨rfl,rfl⟩;exact⟨_,rfl,_,rfl,Below.refl _ _,rfl⟩
  |3,hi=>cases hi;obtain⟨z,hz,rfl⟩:=hdep 2 rfl;exact qggo rfl (qae (v:=.bool false) (w':=u) (by simp[execOp,qab hz,Op.unary]) (qzqq rfl))
  |4,hi=>cases hi;obtain⟨z,hz,rfl⟩:=hdep 3 rfl;exact qggo rfl (qae (by simp[execOp,qab hz]) (qzqq rfl))
  |5,hi=>cases hi;obtain⟨z,hz,rfl⟩:=hdep 4 rfl;exact g_run (qao rfl (qaq rfl hz)) (qbg (A.next hbu) _ rfl (qevv hk 1 rfl rfl) (qzqq rfl))
  |6,hi=>cases hi;obtain⟨z,hz,rfl⟩:=hdep 4 rfl;exact g_run (qao rfl (qaq rfl hz)) (qbg (A.next hbu) _ rfl (qevv hk 1 rfl rfl) (qzqq rfl))
  |7,hi=>cases hi;obtain⟨z,hz,rfl⟩:=hdep 4 rfl;obtain⟨z',hz',rfl⟩:=hdep 6 rfl;refine g_run (qao rfl (qaq rfl hz)) (qal (qbu _ _ _ _ _ _ qie (qab hz') (fun _=>rfl) _ _ _ _ _ _) ?_);refine (hnam u).mono ?_;rintro e u' ⟨rfl,hb'⟩;exact⟨_,rfl,_,rfl,hb',rfl⟩
  |8,hi=>cases hi;obtain⟨z,hz,rfl⟩:=hdep 4 rfl;obtain⟨z5,hz5,rfl⟩:=hdep 5 rfl;obtain⟨z7,hz7,rfl⟩:=hdep 7 rfl;refine g_run (qao rfl (qaq rfl hz)) (qal (qak _ _ _ _ _ _ _ _ qga (qab hz5) (qab hz7) (fun _=>rfl) _ _ _ _ _ _) ?_);refine (qbo p q d dq u (hp.below hbu) (hq u (hp.below hbu))).mono ?_;rintro e u' ⟨rfl,hb'⟩;exact⟨_,rfl,_,rfl,hb',rfl⟩
  |9,hi=>cases hi;obtain⟨z,hz,rfl⟩:=hdep 4 rfl;obtain⟨z',hz',rfl⟩:=hdep 8 rfl;exact g_run (qao rfl (qaq rfl hz)) (qae (v:=.bool (!decide (pv p d=pv q dq))) (w':=u) (by simp[execOp,qab hz',Op.unary]) (qzqq rfl))
  |10,hi=>cases hi;obtain⟨z,hz,rfl⟩:=hdep 4 rfl;obtain⟨z',hz',rfl⟩:=hdep 9 rfl;exact qggo rfl (qae (v:=.bool (!decide (pv p d=pv q dq))) (w':=u) (by simp[execOp,qab hz,qab hz',asBool]) (qzqq rfl))
  |(_+11),hi=>cases hi
 intro vs y b1 hG a3 h3;have g10:vs 10=.bool (!decide (pv p d=pv q dq)):=hG 10 (by decide);clear hG;replace h3:puts _ 2 _ Fr191=a3:=h3;replace h3:puts _ 4 _ Fr191=a3:=h3;replace h3:puts _ 6 _ Fr191=a3:=h3;replace h3:puts _ 8 _ Fr191=a3:=h3;replace h3:puts _ 10 _ Fr191=a3:=h3;replace h3:Fr191=_:=h3;unfold Fr191 at h3;subst h3;replace hb:=bel hb b1;replace A:=A.next b1;replace hp:=hp.below b1;clear b1;rw[decide_eq_true heq] at g10;simp only[g10];clear hnam hq g10 heq;have f0:y.cell? ⟨w.heap.size,0,none⟩ = some (.int .i64 3):=(A.cell 0).trans (p.c0.trans (by rw[hk]));have f4:y.cell? ⟨w.heap.size,4,none⟩ = some (.int .i64 p.id):=(A.cell 4).trans p.c4;have f2:y.cell? ⟨w.heap.size,2,none⟩ = some (.int .i64 p.qos):=(A.cell 2).trans p.c2;have f5:y.cell? ⟨w.heap.size,5,none⟩ = some (.string p.top):=(A.cell 5).trans p.c5;have f6:y.cell? ⟨w.heap.size,6,none⟩ = some (.slice p.bod.a p.bod.n p.bod.c):=(A.cell 6).trans p.c6;clear A;go_wp2_with fail
 refine (qax p.id 1 65535 (inB p.id 1 65535) _ rfl).mono ?_;rintro e zi ⟨rfl,hzi⟩;subst hzi;generalize hI:inB p.id 1 65535=I;have HI:Hid (inB p.id 1 65535=I):=hI;clear hI;go_wp2_with fail
 refine (qax p.qos 0 2 (inB p.qos 0 2) _ rfl).mono ?_;rintro e z2 ⟨rfl,hz2⟩;subst hz2;cases hv:inB p.qos 0 2
 ·have V1:Hid (inB p.qos 0 2=false):=hv;clear hv;go_wp2;go_ret;exact⟨qad (by rw[V1.out];simp),hb⟩
 have V1:Hid (inB p.qos 0 2=true):=hv;clear hv
 by_cases h0:p.qos=0
 ·have V2:Hid ((decide (p.qos=0) || inB p.id 1 65535)=true):=by show _=_;rw[decide_eq_true h0,Bool.true_or]
  have q0:(p.qos==0)=true:=by simpa using h0
  clear h0;go_wp2_with fail
  refine (qjt p.top _ hs).mono ?_;rintro e z5 ⟨rfl,hz5⟩;replace f6:z5.cell? ⟨w.heap.size,6,none⟩ = some (.slice p.bod.a p.bod.n p.bod.c):=(hz5.cell (World.block_lt_of_cell? _ _ f6)).trans f6;replace hb:=bel hb hz5;clear hz5;cases hv:topOk p.top.data.toList
  ·have V3:Hid (topOk p.top.data.toList=false):=hv;clear hv;go_wp2;go_ret;exact⟨qad (by rw[V1.out];rw[V2.out];rw[V3.out];simp),hb⟩
  have V3:Hid (topOk p.top.data.toList=true):=hv;clear hv;go_wp2;go_ret;exact⟨qad (by rw[V1.out];rw[V2.out];rw[V3.out];simp),hb⟩
 have q0:(p.qos==0)=false:=by simpa using h0
 cases I
 ·have V2:Hid ((decide (p.qos=0) || inB p.id 1 65535)=false):=by show _=_;rw[decide_eq_false h0,HI.out];rfl
  clear h0;go_wp2;go_ret;exact⟨qad (by rw[V1.out];rw[V2.out];simp),hb⟩
 have V2:Hid ((decide (p.qos=0) || inB p.id 1 65535)=true):=by show _=_;rw[HI.out,Bool.or_true]
 clear h0;go_wp2_with fail
 refine (qjt p.top _ hs).mono ?_;rintro e z5 ⟨rfl,hz5⟩;replace f6:z5.cell? ⟨w.heap.size,6,none⟩ = some (.slice p.bod.a p.bod.n p.bod.c):=(hz5.cell (World.block_lt_of_cell? _ _ f6)).trans f6;replace hb:=bel hb hz5;clear hz5;cases hv:topOk p.top.data.toList
 ·have V3:Hid (topOk p.top.data.toList=false):=hv;clear hv;go_wp2;go_ret;exact⟨qad (by rw[V1.out];rw[V2.out];rw[V3.out];simp),hb⟩
 have V3:Hid (topOk p.top.data.toList=true):=hv;clear hv;go_wp2;go_ret;exact⟨qad (by rw[V1.out];rw[V2.out];rw[V3.out];simp),hb⟩
