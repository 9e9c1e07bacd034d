/- FnTexts: whatever it is handed, the law function laws.FnTexts returns true, and its arguments read afterwards as before. No condition. -/
import Derived.Test.YtbleangknnjlcaaRows
import Derived.Test.YtbleangknnjlcaaDraws
import Derived.WalkKit
import Derived.ProofKit
import Derived.OpenShut
import Derived.ShutString
import Derived.ChangeOld
import Derived.Below
namespace Go.Proofs.Ytbleangknnjlcaa
open Go.ChangeShapes Go.WideShapes Go.ChangeAt Go.RowKit
open Go.ChangeMaps (open_string shut_string)
set_option linter.unusedVariables false
set_option linter.unusedSimpArgs false

theorem bt_right (l m : List UInt8) (i : Nat) : bt (l ++ m) (l.length + i) = bt m i := by
  simp [bt, List.getD_eq_getElem?_getD, List.getElem?_append_right]

theorem bt_left (l m : List UInt8) (i : Nat) (h : i < l.length) : bt (l ++ m) i = bt l i := by
  simp [bt, List.getD_eq_getElem?_getD, List.getElem?_append_left h]

theorem gw_put (l x : List UInt8) (n : Int) : ((gw (l ++ (wordB n ++ x)) l.length : Nat) : Int) = n % 65536 := by
  have e0 : bt (l ++ (wordB n ++ x)) l.length = bt (wordB n) 0 := by
    have := bt_right l (wordB n ++ x) 0
    rw [Nat.add_zero] at this
    rw [this, bt_left _ _ _ (by rw [wordB_length]; omega)]
  have e1 : bt (l ++ (wordB n ++ x)) (l.length + 1) = bt (wordB n) 1 := by
    rw [bt_right l (wordB n ++ x) 1, bt_left _ _ _ (by rw [wordB_length]; omega)]
  unfold gw
  rw [e0, e1]
  have h0 := wordB_0 n
  have h1 := wordB_1 n
  omega

theorem gw_putN (l x : List UInt8) (h : x.length ≤ 60) : gw (l ++ (wordB x.length ++ x)) l.length = x.length := by
  have := gw_put l x x.length
  omega

theorem put_length (l x : List UInt8) (n : Int) : (l ++ (wordB n ++ x)).length = l.length + 2 + x.length := by
  rw [List.length_append, List.length_append, wordB_length]
  omega

/-- What was put comes back. -/
theorem getL_put (l x : List UInt8) (h : x.length ≤ 60) : getL (l ++ (wordB x.length ++ x)) (l.length : Nat) = some (x, l.length + 2 + x.length) := by
  unfold getL
  rw [Int.toNat_natCast, gw_putN l x h, put_length, if_pos (by omega)]
  simp only [Option.some.injEq, Prod.mk.injEq, and_true]
  have e : (l ++ (wordB x.length ++ x)).drop (l.length + 2) = x := by
    rw [← List.append_assoc, List.drop_append_of_le_length (by rw [List.length_append, wordB_length]; omega)]
    rw [List.drop_of_length_le (by rw [List.length_append, wordB_length]; omega), List.nil_append]
  rw [e, List.take_of_length_le (Nat.le_refl _)]

/-- Cut it does not. -/
theorem getL_cut (l x : List UInt8) (h : x.length ≤ 60) : getL ((l ++ (wordB x.length ++ x)).take (l.length + 2 + x.length - 1)) (l.length : Nat) = none := by
  have hlen : ((l ++ (wordB x.length ++ x)).take (l.length + 2 + x.length - 1)).length = l.length + 2 + x.length - 1 := by
    rw [List.length_take, put_length]
    omega
  unfold getL
  rw [Int.toNat_natCast, hlen]
  refine if_neg ?_
  rintro ⟨h1, h2, h3, h4⟩
  have e : gw ((l ++ (wordB x.length ++ x)).take (l.length + 2 + x.length - 1)) l.length = x.length := by
    have := gw_putN l x h
    unfold gw at this ⊢
    rw [bt_take _ _ _ (by omega), bt_take _ _ _ (by omega)]
    exact this
  omega

theorem strOf_self (s : ByteArray) : strOf s.data.toList = s := by simp [strOf]

/-- GetText of what PutText put. -/
theorem ansT_put (l : List UInt8) (s : ByteArray) (h : okT s.data.toList = true) : ansT (l ++ (wordB s.size ++ s.data.toList)) (l.length : Nat) = .returned (.tuple #[.string s, .int .i64 ((l.length + 2 + s.size : Nat) : Int), .bool true]) := by
  have h60 := okT_size h
  have e := getL_put l s.data.toList h60
  have es : s.data.toList.length = s.size := rfl
  rw [es] at e
  simp only [ansT, getT, e, h, if_true, strOf_self]

theorem ansT_cut (l : List UInt8) (s : ByteArray) (h : okT s.data.toList = true) : ansT ((l ++ (wordB s.size ++ s.data.toList)).take (l.length + 2 + s.size - 1)) (l.length : Nat) = .returned (.tuple #[.string ⟨#[]⟩, .int .i64 0, .bool false]) := by
  have h60 := okT_size h
  have e := getL_cut l s.data.toList h60
  have es : s.data.toList.length = s.size := rfl
  rw [es] at e
  simp only [ansT, getT, e]

set_option maxRecDepth 100000 in
set_option maxHeartbeats 4000000 in
theorem fnTexts_walk (a0 : Option Addr) (len0 cap0 : Nat) (l0 : List UInt8) (w : World) (w0 : RdIn w a0 len0 cap0 l0) :
    Calls Try.prog 4 #[.slice a0 len0 cap0] w fun e w' => e = .returned (.bool true) ∧ Below w.heap.size w w' := by
  by_cases hbig : 1048576 < len0
  · go_enter Try.func4, Try.ntmps4
    go_wp2_with fail
    refine (big15 _ _ _ true _ (by simpa using hbig)).mono ?_
    rintro e u ⟨rfl, rfl⟩
    go_wp2
    go_ret
    exact ⟨rfl, Below.refl _ _⟩
  go_enter Try.func4, Try.ntmps4
  go_wp2_with fail
  refine (big15 _ _ _ false _ (by simpa using hbig)).mono ?_
  rintro e u ⟨rfl, rfl⟩
  go_wp2_with fail
  refine (draw23 _ _ _ l0 _ w0 (by omega)).mono ?_
  rintro e u1 ⟨a, m, c, x, s, hm, hs, rfl, ho1, hb1⟩
  have hxl := ho1.1
  obtain ⟨N, hN⟩ : ∃ N, (putT x s).length = N := ⟨_, rfl⟩
  have hNle : N ≤ m + 62 := by have := putT_le x s; omega
  have HN : Hid ((putT x s).length = N) := hN
  have HX : Hid (x.length = m) := hxl
  clear hN hxl
  go_wp2_with fail
  refine (put24N N _ _ _ s x _ HN.out ho1.rd (by omega) (by omega)).mono ?_
  rintro e u2 ⟨ap, cp, rfl, ho2, hb2⟩
  have d2 := below_next hb1 hb2
  go_wp2_with fail
  refine (draw25 _ _ _ l0 _ (w0.below d2) (by omega)).mono ?_
  rintro e u3 ⟨b, k, d, y, b', k', d', z, hk, hk', rfl, ho3, ho3', hb3⟩
  obtain ⟨M, hM⟩ : ∃ M, (putB y z).length = M := ⟨_, rfl⟩
  have hMle : M ≤ k + 62 := by have := putB_le y z; have := ho3.1; omega
  have HM : Hid ((putB y z).length = M) := hM
  have HY : Hid (y.length = k) := ho3.1
  have HZ : Hid (z.length = k') := ho3'.1
  clear hM
  go_wp2_with fail
  refine (put26N M _ _ _ y _ _ _ z _ HM.out ho3.rd ho3'.rd (by omega)).mono ?_
  rintro e u4 ⟨aq, cq, rfl, ho4, hb4⟩
  have d4 := below_next d2 (below_next hb3 hb4)
  go_wp2_with fail
  refine (draw27 _ _ _ l0 _ (w0.below d4) (by omega)).mono ?_
  rintro e u5 ⟨f, t, g, v, q, ht, rfl, ho5, hb5⟩
  have HV : Hid (v.length = t) := ho5.1
  go_wp2_with fail
  refine (put28 _ _ _ q v _ ho5.rd (by omega)).mono ?_
  rintro e u6 ⟨ar, cr, rfl, ho6, hb6⟩
  have HG : Hid (((gw (v ++ wordB q) t : Nat) : Int) = q % 65536) := by
    have := gw_put v [] q
    rw [List.append_nil, HV.out] at this
    exact this
  have hmask := mask65535 q
  go_wp2_with fail
  refine (get29_in _ _ _ t (v ++ wordB q) _ ho6.rd (by omega) (by omega)).mono ?_
  rintro e u7 ⟨he, hb7⟩
  rw [HG.out] at he
  subst he
  have d7 := below_next hb5 (below_next hb6 hb7)
  have p4 := below_next hb3 (below_next hb4 d7)
  have q4 := below_next hb4 d7
  go_wp2_with fail
  refine (ok22 s _ (by omega)).mono ?_
  rintro e u8 ⟨rfl, hb8⟩
  go_wp2_with fail
  refine (ok30 s _ (by omega)).mono ?_
  rintro e u9 ⟨rfl, hb9⟩
  have hnn : (okT s.data.toList != okT s.data.toList) = false := by simp
  go_wp2_with fail
  refine (ok22 s _ (by omega)).mono ?_
  rintro e u10 ⟨he, hb10⟩
  have e10 := below_next hb8 (below_next hb9 hb10)
  have p10 := below_next p4 e10
  have q10 := below_next q4 e10
  have z10 := below_next d7 e10
  have D10 := below_next d4 z10
  clear HG hmask hnn
  cases hok : okT s.data.toList with
  | true =>
    rw [hok] at he
    subst he
    have HP : Hid (putT x s = x ++ (wordB s.size ++ s.data.toList)) := putT_yes hok
    have hNe : N = m + 2 + s.size := by have := HN.out; rw [HP.out, put_length, HX.out] at this; exact this.symm
    subst hNe
    have A1 : Hid (ansT (putT x s) (m : Nat) = .returned (.tuple #[.string s, .int .i64 ((m + 2 + s.size : Nat) : Int), .bool true])) := by
      have := ansT_put x s hok
      rw [HX.out] at this
      rw [HP.out]
      exact this
    have A2 : Hid (ansT ((putT x s).take (m + 2 + s.size - 1)) (m : Nat) = .returned (.tuple #[.string ⟨#[]⟩, .int .i64 0, .bool false])) := by
      have := ansT_cut x s hok
      rw [HX.out] at this
      rw [HP.out]
      exact this
    clear hok HP
    have hp10 := ho2.below p10
    go_wp2_with fail
    refine (get31 _ _ _ (m : Nat) (putT x s) _ hp10.rd (by omega)).mono ?_
    rintro e u11 ⟨he, hb11⟩
    rw [A1.out] at he
    subst he
    have hp11 := hp10.below hb11
    have hcut := hp11.cut (m + 2 + s.size - 1) (by omega)
    have hcap := hp11.rd.2.1
    have hsl : ∀ w', (Instr.slice 22 (.slice ap (m + 2 + s.size) cp) none (some (.int .i64 ((m : Int) + 2 + s.size - 1))) none).run Try.prog w' = .ok (.slice ap (m + 2 + s.size - 1) cp) w' := fun w' => by
      have := slice_head ap (m + 2 + s.size) cp (m + 2 + s.size - 1) (by omega) w'
      rw [show ((m + 2 + s.size - 1 : Nat) : Int) = (m : Int) + 2 + s.size - 1 from by omega] at this
      exact this
    obtain ⟨K, hK⟩ : ∃ K, m + 2 + s.size - 1 = K := ⟨_, rfl⟩
    rw [hK] at hcut hsl A2
    have hK' : K ≤ 1000 := by omega
    clear hK
    go_wp2_with fail
    refine (get31 _ _ _ (m : Nat) _ _ hcut.rd (by omega)).mono ?_
    rintro e u12 ⟨he, hb12⟩
    rw [A2.out] at he
    subst he
    clear hsl hcut hcap A1 A2
    have w12 := below_next hb11 hb12
    have q12 := below_next q10 w12
    have D12 := below_next D10 w12
    have y12 := below_next hb4 (below_next z10 w12)
    by_cases h60 : 60 < k'
    · have h60' : (60 : Int) < k' := by omega
      have HB : Hid (putB y z = y) := by unfold Hid putB; rw [if_neg (by rw [HZ.out]; omega)]
      have hMe : M = k := by have := HM.out; rw [HB.out, HY.out] at this; exact this.symm
      subst hMe
      have hq12 := ho4.below (below_next z10 w12)
      rw [HB.out] at hq12
      have hy12 := ho3.below y12
      clear HB
      go_wp2_with fail
      refine (same32 _ _ _ _ _ _ y _ hq12.rd hy12.rd).mono ?_
      rintro e u13 ⟨rfl, rfl⟩
      go_wp2
      go_ret
      exact ⟨rfl, D12⟩
    · have h60' : ¬ (60 : Int) < k' := by omega
      have HB : Hid (putB y z = y ++ (wordB z.length ++ z)) := by unfold Hid putB; rw [if_pos (by rw [HZ.out]; omega)]
      have hMe : M = k + 2 + k' := by have := HM.out; rw [HB.out, put_length, HY.out, HZ.out] at this; exact this.symm
      subst hMe
      have B1 : getL (putB y z) (k : Nat) = some (z, k + 2 + k') := by
        have := getL_put y z (by rw [HZ.out]; omega)
        rw [HY.out] at this
        rw [HB.out, this, HZ.out]
      have B2 : getL ((putB y z).take (k + 2 + k' - 1)) (k : Nat) = none := by
        have := getL_cut y z (by rw [HZ.out]; omega)
        rw [HB.out, ← HZ.out, ← HY.out]
        exact this
      clear HB
      have hq12 := ho4.below (below_next z10 w12)
      have G1 : Hid (∀ w, RdIn w aq (k + 2 + k') cq (putB y z) → Calls Try.prog 33 #[.slice aq (k + 2 + k') cq, .int .i64 k] w fun e w' => ∃ ax cx, e = .returned (.tuple #[.slice ax k' cx, .int .i64 ((k + 2 + k' : Nat) : Int), .bool true]) ∧ Own w' w.heap.size ax k' cx z ∧ Below w.heap.size w w') := fun w hr => by
        have := get33_yes aq (k + 2 + k') cq (k : Nat) (putB y z) z (k + 2 + k') w hr (by omega) B1
        rw [HZ.out] at this
        exact this
      clear B1
      have hz12 := ho3'.below y12
      have hcut := hq12.cut (k + 2 + k' - 1) (by omega)
      have hcap := hq12.rd.2.1
      have hsl : ∀ w', (Instr.slice 22 (.slice aq (k + 2 + k') cq) none (some (.int .i64 ((k : Int) + 2 + k' - 1))) none).run Try.prog w' = .ok (.slice aq (k + 2 + k' - 1) cq) w' := fun w' => by
        have := slice_head aq (k + 2 + k') cq (k + 2 + k' - 1) (by omega) w'
        rw [show ((k + 2 + k' - 1 : Nat) : Int) = (k : Int) + 2 + k' - 1 from by omega] at this
        exact this
      obtain ⟨K2, hK2⟩ : ∃ K2, k + 2 + k' - 1 = K2 := ⟨_, rfl⟩
      rw [hK2] at hcut hsl B2
      have hK2' : K2 ≤ 1000 := by omega
      clear hK2
      have G2 : Hid (∀ w, RdIn w aq K2 cq ((putB y z).take K2) → Calls Try.prog 33 #[.slice aq K2 cq, .int .i64 k] w fun e w' => e = .returned (.tuple #[.slice none 0 0, .int .i64 0, .bool false]) ∧ Below w.heap.size w w') := fun w hr => get33_no aq K2 cq (k : Nat) _ w hr (by omega) B2
      clear B2
      go_wp2_with fail
      refine (G1.out _ hq12.rd).mono ?_
      rintro e u13 ⟨ax, cx, rfl, ho13, hb13⟩
      have hcut13 := hcut.below hb13
      go_wp2_with fail
      refine (G2.out _ hcut13.rd).mono ?_
      rintro e u14 ⟨rfl, hb14⟩
      have s1 := ho13.below hb14
      have s2 := hz12.below (below_next hb13 hb14)
      clear hsl hcut hcut13 hcap
      go_wp2_with fail
      refine (same32 _ _ _ _ _ _ z _ s1.rd s2.rd).mono ?_
      rintro e u15 ⟨rfl, rfl⟩
      go_wp2
      go_ret
      exact ⟨by simp, below_next D12 (below_next hb13 hb14)⟩
  | false =>
    rw [hok] at he
    subst he
    have HP : Hid (putT x s = x) := putT_no hok
    have hNe : N = m := by have := HN.out; rw [HP.out, HX.out] at this; exact this.symm
    subst hNe
    clear hok
    have hp10 := ho2.below p10
    rw [HP.out] at hp10
    have hx10 := ho1.below (below_next hb2 p10)
    clear HP
    go_wp2_with fail
    refine (same32 _ _ _ _ _ _ x _ hp10.rd hx10.rd).mono ?_
    rintro e u11 ⟨rfl, rfl⟩
    have q12 := q10
    have D12 := D10
    have y12 := below_next hb4 z10
    by_cases h60 : 60 < k'
    · have h60' : (60 : Int) < k' := by omega
      have HB : Hid (putB y z = y) := by unfold Hid putB; rw [if_neg (by rw [HZ.out]; omega)]
      have hMe : M = k := by have := HM.out; rw [HB.out, HY.out] at this; exact this.symm
      subst hMe
      have hq12 := ho4.below z10
      rw [HB.out] at hq12
      have hy12 := ho3.below y12
      clear HB
      go_wp2_with fail
      refine (same32 _ _ _ _ _ _ y _ hq12.rd hy12.rd).mono ?_
      rintro e u13 ⟨rfl, rfl⟩
      go_wp2
      go_ret
      exact ⟨rfl, D12⟩
    · have h60' : ¬ (60 : Int) < k' := by omega
      have HB : Hid (putB y z = y ++ (wordB z.length ++ z)) := by unfold Hid putB; rw [if_pos (by rw [HZ.out]; omega)]
      have hMe : M = k + 2 + k' := by have := HM.out; rw [HB.out, put_length, HY.out, HZ.out] at this; exact this.symm
      subst hMe
      have B1 : getL (putB y z) (k : Nat) = some (z, k + 2 + k') := by
        have := getL_put y z (by rw [HZ.out]; omega)
        rw [HY.out] at this
        rw [HB.out, this, HZ.out]
      have B2 : getL ((putB y z).take (k + 2 + k' - 1)) (k : Nat) = none := by
        have := getL_cut y z (by rw [HZ.out]; omega)
        rw [HB.out, ← HZ.out, ← HY.out]
        exact this
      clear HB
      have hq12 := ho4.below z10
      have G1 : Hid (∀ w, RdIn w aq (k + 2 + k') cq (putB y z) → Calls Try.prog 33 #[.slice aq (k + 2 + k') cq, .int .i64 k] w fun e w' => ∃ ax cx, e = .returned (.tuple #[.slice ax k' cx, .int .i64 ((k + 2 + k' : Nat) : Int), .bool true]) ∧ Own w' w.heap.size ax k' cx z ∧ Below w.heap.size w w') := fun w hr => by
        have := get33_yes aq (k + 2 + k') cq (k : Nat) (putB y z) z (k + 2 + k') w hr (by omega) B1
        rw [HZ.out] at this
        exact this
      clear B1
      have hz12 := ho3'.below y12
      have hcut := hq12.cut (k + 2 + k' - 1) (by omega)
      have hcap := hq12.rd.2.1
      have hsl : ∀ w', (Instr.slice 22 (.slice aq (k + 2 + k') cq) none (some (.int .i64 ((k : Int) + 2 + k' - 1))) none).run Try.prog w' = .ok (.slice aq (k + 2 + k' - 1) cq) w' := fun w' => by
        have := slice_head aq (k + 2 + k') cq (k + 2 + k' - 1) (by omega) w'
        rw [show ((k + 2 + k' - 1 : Nat) : Int) = (k : Int) + 2 + k' - 1 from by omega] at this
        exact this
      obtain ⟨K2, hK2⟩ : ∃ K2, k + 2 + k' - 1 = K2 := ⟨_, rfl⟩
      rw [hK2] at hcut hsl B2
      have hK2' : K2 ≤ 1000 := by omega
      clear hK2
      have G2 : Hid (∀ w, RdIn w aq K2 cq ((putB y z).take K2) → Calls Try.prog 33 #[.slice aq K2 cq, .int .i64 k] w fun e w' => e = .returned (.tuple #[.slice none 0 0, .int .i64 0, .bool false]) ∧ Below w.heap.size w w') := fun w hr => get33_no aq K2 cq (k : Nat) _ w hr (by omega) B2
      clear B2
      go_wp2_with fail
      refine (G1.out _ hq12.rd).mono ?_
      rintro e u13 ⟨ax, cx, rfl, ho13, hb13⟩
      have hcut13 := hcut.below hb13
      go_wp2_with fail
      refine (G2.out _ hcut13.rd).mono ?_
      rintro e u14 ⟨rfl, hb14⟩
      have s1 := ho13.below hb14
      have s2 := hz12.below (below_next hb13 hb14)
      clear hsl hcut hcut13 hcap
      go_wp2_with fail
      refine (same32 _ _ _ _ _ _ z _ s1.rd s2.rd).mono ?_
      rintro e u15 ⟨rfl, rfl⟩
      go_wp2
      go_ret
      exact ⟨by simp, below_next D12 (below_next hb13 hb14)⟩

namespace fnTexts
theorem own : ownKnob Try.prog.godebug = none := by kernel_rfl
theorem laidOut : laidOutB Try.prog = true := by kernel_rfl
set_option maxRecDepth 100000 in
theorem lifted (os : Os) (started : os.Started) (H : Type) (enc : TypeId × Value → H) :
    ReturnsInHanded {} Try.checked os 4 .any (Rows.fnTextsSpec.pre6 enc Try.prog Try.f4 Rows.fnTextsRow.domain false) (Rows.fnTextsSpec.post enc Try.prog Try.f4 false true false false) := by
  refine returnsInHanded_of_change (C := Try.checked) own started (by kernel_rfl) Try.func4
    (ChangeSpec.witness6 (enc := enc) (C := Try.checked) false ⟨#[], #[.slice none 0 0], []⟩ 8 (by kernel_rfl) (by kernel_rfl) (by kernel_rfl) (by kernel_rfl)) ?_
  intro W base args ds gs before hval0 hW hcnd _
  have hval : ∀ (j : Nat) t v, Try.f4.params[j]? = some t → args[j]? = some v → Value.okWide Try.prog W .any base t v := hval0
  have hW' := hW
  obtain ⟨p, q, hA0, hV, rfl, hfz, hnd⟩ := hW
  have hA : DataW.TrodAll enc Try.prog W 0 (fun _ => true) true Try.f4.params.toList args.toList ds p := hA0
  rw [Try.params4] at hA hval
  obtain ⟨v0, vs0, d0, ds0, p0, q0, hargs, rfl, rfl, h0, r0⟩ := trodAll_cons hA
  obtain ⟨rfl, rfl, rfl⟩ := trodAll_nil r0
  obtain rfl : args = #[v0] := by cases args; simp_all
  obtain ⟨rfl, rfl⟩ := trodVars_none hV
  obtain ⟨a0, len0, cap0, rfl⟩ := okWide_slice Try.underlying22 (hval 0 22 v0 rfl rfl)
  have k0 := h0
  have lt0 : ∀ x ∈ p0, x.block < W.heap.size := by obtain ⟨m, hm⟩ := k0; exact DataW.trod_lt m _ _ _ hm
  obtain ⟨z0, w0⟩ : ∃ l, RdIn W a0 len0 cap0 l := by
    obtain ⟨fuel, hf⟩ := h0
    rcases open_ints Try.underlying22 Try.underlying5 (by kernel_rfl) hf with ⟨hcs, _⟩ | ⟨x, l, c, zs, hcs, _, hl, hm, hz, _, hcell, hwz⟩
    · simp [Value.cells] at hcs
      obtain ⟨rfl, rfl, rfl⟩ := hcs
      exact ⟨[], RdIn.nil _⟩
    · simp [Value.cells] at hcs
      obtain ⟨rfl, rfl, rfl⟩ := hcs
      exact RdIn.of_ints hl hm (by simpa using hz) hcell hwz
  clear hA0 hval0
  refine (fnTexts_walk a0 len0 cap0 z0 W w0).mono fun e W' ⟨he, bel⟩ => ?_
  subst he
  exact ⟨_, rfl, _, _, _, [], _, [], hW', trodAll_mk1 (shut_bool Try.underlying4 _), (trodAll_cons_mk (Below.trod laidOut (by kernel_rfl) (of_decide_eq_true (by kernel_rfl)) k0 bel lt0) trodAll_mk0), rfl, bel.frame _, fun h => by cases h⟩

theorem over : Rows.fnTextsRow.holds Try.pinned (OpenSpec.ofChange Rows.fnTextsSpec) :=
  OpenClaim.holds_of_wide 4 Try.f4 rfl rfl rfl rfl rfl rfl rfl ⟨rfl, rfl, rfl, rfl, rfl⟩ rfl rfl rfl rfl rfl (by kernel_rfl) Try.func4 (by kernel_rfl)
    (of_decide_eq_true (by kernel_rfl)) (by unfold Func.isWrapper; first | (rw [if_pos (by decide +kernel)]; kernel_rfl) | (rw [if_neg (by decide +kernel)]; exact ⟨rfl, rfl⟩))
    (fun os started H enc _ => lifted os started H enc)
end fnTexts

theorem fnTexts_holds : Rows.FnTextsSaid := fnTexts.over
end Go.Proofs.Ytbleangknnjlcaa
