/-
  For every two rows of options (the first 20 of each, each with the first 20 bytes of its data) behind a ConfRej of which nego.Learn tells true just as many fewer options are asked for as were told, and behind a ConfNak as many, of the same types (conciergelaw15.NegoLess answers true). No conditions.
-/
import Derived.Test.YtbldcjngccmhpaaNgN
import Derived.Test.YtbldcjngccmhpaaNgV
import Derived.Test.YtbldcjngccmhpaaNgW
import Derived.Test.YtbldcjngccmhpaaNgR
import Derived.Test.YtbldcjngccmhpaaOpenN
import Derived.ProofKit
import Derived.OpenShut
import Derived.ChangeOld
namespace Go.Proofs.Ytbldcjngccmhpaa.negoLess
open Go.ChangeShapes Go.WideShapes Go.ChangeAt Go.RowKit O Ng
set_option linter.unusedVariables false
set_option linter.unusedSimpArgs false

set_option maxRecDepth 20000 in
set_option maxHeartbeats 4000000 in
theorem walk (W : World) (a0 : Option Addr) (n0 c0 : Nat) (ts0 : List Tg) (b0 : TR W (.slice a0 n0 c0) n0 ts0) (i0 : ∀ x ∈ ts0, I64 x.typ) (a2 : Option Addr) (n2 c2 : Nat) (ts2 : List Tg) (b2 : TR W (.slice a2 n2 c2) n2 ts2) (i2 : ∀ x ∈ ts2, I64 x.typ) :
    Calls Try.prog 7 #[.slice a0 n0 c0, .slice a2 n2 c2] W fun e w' => e = .returned (.bool true) ∧ Below W.heap.size W w' := by
  have AW := Lib.hid awake_any
  have OP := Lib.hid (opts_any a0 n0 c0 ts0 W b0 i0)
  have HB2' := Lib.hid b2
  have HI2' := Lib.hid i2
  clear b0 b2 i0 i2
  go_enter Try.func7, Try.ntmps7
  go_wp2_with fail
  refine OP.out.mono ?_
  rintro e w2 ⟨a4, n, c4, qs, rfl, htr, hn20, hlen, hi, hb2⟩
  have HB2 := Lib.hid hb2
  have HQ2 := Lib.hid htr
  have HQL : Hid (∀ x ∈ qs, x.l.length ≤ 1000) := fun x hx => Nat.le_trans (hlen x hx) (by decide)
  have HQI := Lib.hid hi
  have hn : n ≤ 1000 := by omega
  have OP2 := Lib.hid (opts_any a2 n2 c2 ts2 w2 (HB2'.out.below hb2) HI2'.out)
  clear hb2 htr hlen hi OP HB2' HI2'
  go_wp2_with fail
  refine OP2.out.mono ?_
  rintro e w3 ⟨a5, m, c5, ts, rfl, htr, hm20, hlen, hi, hb3⟩
  have HB3 := Lib.hid (HB2.out.trans (hb3.mono HB2.out.size))
  have HQ3 := Lib.hid (HQ2.out.below hb3)
  have HT3 := Lib.hid htr
  have hm : m ≤ 1000 := by omega
  have HTL : Hid (∀ x ∈ ts, x.l.length ≤ 1000) := fun x hx => Nat.le_trans (hlen x hx) (by decide)
  have HTI := Lib.hid hi
  have L1 := Lib.hid (learn_any a4 n c4 qs 4 a5 m c5 ts w3 HQ3.out htr hn hm HQL.out HTL.out HQI.out hi)
  clear hb3 htr hlen hi OP2 HQ2 HB2
  go_wp2_with fail
  refine L1.out.mono ?_
  rintro e w4 ⟨v4, us4, rfl, hp4, hto4, hb4⟩
  obtain ⟨x4, y4, ev, _, _⟩ := hto4.tr.shape
  subst ev
  have HB4 := Lib.hid (HB3.out.trans (hb4.mono HB3.out.size))
  have HQ4 := Lib.hid (HQ3.out.below hb4)
  have L2 := Lib.hid (learn_any a4 n c4 qs 3 a5 m c5 ts w4 HQ4.out (HT3.out.below hb4) hn hm HQL.out HTL.out HQI.out HTI.out)
  obtain ⟨M4, hM4⟩ : ∃ N, N = us4.length := ⟨_, rfl⟩
  obtain ⟨K, hK⟩ : ∃ K, K = (lrn (plain qs) 4 (plain ts)).2 := ⟨_, rfl⟩
  have hql := HQ4.out.len
  have htl := HT3.out.len
  have HF : Hid (K = true → 0 < m ∧ M4 + m = n) := fun h => by
    have h1 : lrn (plain qs) 4 (plain ts) = ((lrn (plain qs) 4 (plain ts)).1, true) := Prod.ext rfl (hK.symm.trans h)
    have h2 := less_rej h1
    rw [← hp4, plain_length, plain_length, plain_length, ← hM4, hql, htl] at h2
    refine ⟨Nat.pos_of_ne_zero fun e => h2.1 (plain_nil_iff.2 (htl.trans e)), h2.2⟩
  rw [← hM4, ← hK]
  clear hp4 hto4 hb4 L1 HQ3 HB3 hM4 hK
  go_wp2_with fail
  refine L2.out.mono ?_
  rintro e w5 ⟨v5, us5, rfl, hp5, hto5, hb5⟩
  have hnak := less_nak (plain qs) (plain ts)
  have e1 : (lrn (plain qs) 3 (plain ts)).2 = decide (0 < m) := by
    rw [hnak.1]
    rw [Bool.eq_iff_iff, decide_eq_true_eq, decide_eq_true_eq]
    exact ⟨fun h => Nat.pos_of_ne_zero fun e => h (plain_nil_iff.2 (htl.trans e)), fun h e => by have := plain_nil_iff.1 e; omega⟩
  have e2 : us5.length = n := by
    have := hnak.2.1
    rw [← hp5, plain_length, plain_length, hql] at this
    exact this
  have e3 : (plain us5).map (·.1) = (plain qs).map (·.1) := by rw [hp5]; exact hnak.2.2
  obtain ⟨x5, y5, ev, _, _⟩ := hto5.tr.shape
  rw [e2] at ev
  subst ev
  have HB5 := Lib.hid (HB4.out.trans (hb5.mono HB4.out.size))
  have HQ5 := Lib.hid (HQ4.out.below hb5)
  have HU5 : Hid (TR w5 (.slice x5 n y5) n us5) := by have := hto5.tr; rwa [e2] at this
  have HTY : Hid (∀ i (h1 : i < us5.length) (h2 : i < qs.length), us5[i].typ = qs[i].typ) := fun i h1 h2 => by
    have h3 : ((plain us5).map (·.1))[i]? = ((plain qs).map (·.1))[i]? := by rw [e3]
    rw [List.getElem?_map, List.getElem?_map, List.getElem?_eq_getElem (by rw [plain_length]; exact h1), List.getElem?_eq_getElem (by rw [plain_length]; exact h2), plain_get _ _ h1, plain_get _ _ h2] at h3
    exact Option.some.inj h3
  have HE2 := Lib.hid e2
  have HQL2 := Lib.hid hql
  rw [e1]
  clear hp5 hto5 hb5 L2 HQ4 HB4 e1 e2 e3 hnak hql htl HT3
  go_upto_region 4 with fail
  go_cut [6, 8, 14, 17, 19, 20, 23, 25, 58] (fun _ _ _ _ _ _ _ _ s wx => s = .bool false ∧ w5 = wx)
  case first =>
    cases K with
    | true =>
      obtain ⟨h0, h1⟩ := HF.out rfl
      have hz : ¬ (m : Int) = 0 := by omega
      have hzb : ((m : Int) == 0) = false := by simpa using hz
      have hp : (0 : Int) < (m : Int) := by omega
      have hd : decide (0 < m) = true := decide_eq_true h0
      have hnm : ((M4 : Int) != (n : Int) - (m : Int)) = false := by
        have e : (M4 : Int) = (n : Int) - (m : Int) := by omega
        rw [e]; simp
      clear h1
      go_wp2
      go_meet
      exact ⟨rfl, rfl⟩
    | false =>
      by_cases h0 : 0 < m
      · have hp : (0 : Int) < (m : Int) := by omega
        have hd : decide (0 < m) = true := decide_eq_true h0
        go_wp2
        go_meet
        exact ⟨rfl, rfl⟩
      · obtain rfl : m = 0 := by omega
        go_wp2
        go_meet
        exact ⟨rfl, rfl⟩
  case rest =>
    obtain ⟨rfl, rfl⟩ := hcut
    go_wp2
    go_loopw [9] (fun iv wr => ∃ i : Nat, i ≤ n ∧ iv = .int .i64 (i : Int) ∧ Below w5.heap.size w5 wr) (fun iv _ => n - (intOf iv).toNat)
    case atStart => exact ⟨0, Nat.zero_le _, rfl, Below.refl _ _⟩
    case round =>
      obtain ⟨i, hin, rfl, hb⟩ := hrel
      have HB := Lib.hid hb
      clear hb
      by_cases hlt : i < n
      · obtain ⟨b, o, rfl, hbl, hc⟩ := HQ5.out.cells (by omega)
        obtain ⟨b2, o2, rfl, hbl2, hd⟩ := HU5.out.cells (by omega)
        have c0 := (hc i (by rw [HQL2.out]; exact hlt)).1
        have d0 := (hd i (by rw [HE2.out]; exact hlt)).1
        rw [HTY.out i (by rw [HE2.out]; exact hlt) (by rw [HQL2.out]; exact hlt)] at d0
        obtain ⟨T, hT⟩ : ∃ T, T = (qs[i]'(by rw [HQL2.out]; exact hlt)).typ := ⟨_, rfl⟩
        rw [← hT] at c0 d0
        have HC0 := Lib.hid c0
        have HD0 := Lib.hid d0
        have hin2 : (i : Int) < (n : Int) := by omega
        clear hc hd c0 d0 hT
        go_upto_region 9 with fail
        refine wp_region_G 11 Gr (by kernel_rfl) ?_
        -- 0: slot 65
        refine wpG_take preGr (i := 0) (v := ?_) (by kernel_rfl) (some 65) (by kernel_rfl) rfl (by kernel_rfl) (by kernel_rfl) (by kernel_rfl) (fun _ _ _ h => h) (by rfl) (fun w' hw' => ?_) rfl ?_
        rotate_left
        · try have g0 := cellB' (HB.out.drew.trans (hw'.mono HB.out.size)) hbl HC0.out
          try have g1 := cellB' (HB.out.drew.trans (hw'.mono HB.out.size)) hbl2 HD0.out
          go_simp
          with_reducible rfl
        simp only [Act.put, List.setIfInBounds_toArray, List.set_cons_zero, List.set_cons_succ]
        -- 1: slot 66
        refine wpG_take preGr (i := 1) (v := ?_) (by kernel_rfl) (some 66) (by kernel_rfl) rfl (by kernel_rfl) (by kernel_rfl) (by kernel_rfl) (fun _ _ _ h => h) (by rfl) (fun w' hw' => ?_) rfl ?_
        rotate_left
        · try have g0 := cellB' (HB.out.drew.trans (hw'.mono HB.out.size)) hbl HC0.out
          try have g1 := cellB' (HB.out.drew.trans (hw'.mono HB.out.size)) hbl2 HD0.out
          go_simp
          with_reducible rfl
        simp only [Act.put, List.setIfInBounds_toArray, List.set_cons_zero, List.set_cons_succ]
        -- 2: slot 67
        refine wpG_take preGr (i := 2) (v := ?_) (by kernel_rfl) (some 67) (by kernel_rfl) rfl (by kernel_rfl) (by kernel_rfl) (by kernel_rfl) (fun _ _ _ h => h) (by rfl) (fun w' hw' => ?_) rfl ?_
        rotate_left
        · try have g0 := cellB' (HB.out.drew.trans (hw'.mono HB.out.size)) hbl HC0.out
          try have g1 := cellB' (HB.out.drew.trans (hw'.mono HB.out.size)) hbl2 HD0.out
          go_simp
          with_reducible rfl
        simp only [Act.put, List.setIfInBounds_toArray, List.set_cons_zero, List.set_cons_succ]
        -- 3: slot 68
        refine wpG_take preGr (i := 3) (v := ?_) (by kernel_rfl) (some 68) (by kernel_rfl) rfl (by kernel_rfl) (by kernel_rfl) (by kernel_rfl) (fun _ _ _ h => h) (by rfl) (fun w' hw' => ?_) rfl ?_
        rotate_left
        · try have g0 := cellB' (HB.out.drew.trans (hw'.mono HB.out.size)) hbl HC0.out
          try have g1 := cellB' (HB.out.drew.trans (hw'.mono HB.out.size)) hbl2 HD0.out
          go_simp
          with_reducible rfl
        simp only [Act.put, List.setIfInBounds_toArray, List.set_cons_zero, List.set_cons_succ]
        -- 4: slot 69
        refine wpG_take preGr (i := 4) (v := ?_) (by kernel_rfl) (some 69) (by kernel_rfl) rfl (by kernel_rfl) (by kernel_rfl) (by kernel_rfl) (fun _ _ _ h => h) (by rfl) (fun w' hw' => ?_) rfl ?_
        rotate_left
        · try have g0 := cellB' (HB.out.drew.trans (hw'.mono HB.out.size)) hbl HC0.out
          try have g1 := cellB' (HB.out.drew.trans (hw'.mono HB.out.size)) hbl2 HD0.out
          go_simp
          with_reducible rfl
        simp only [Act.put, List.setIfInBounds_toArray, List.set_cons_zero, List.set_cons_succ]
        -- 5: slot 70
        refine wpG_take preGr (i := 5) (v := ?_) (by kernel_rfl) (some 70) (by kernel_rfl) rfl (by kernel_rfl) (by kernel_rfl) (by kernel_rfl) (fun _ _ _ h => h) (by rfl) (fun w' hw' => ?_) rfl ?_
        rotate_left
        · try have g0 := cellB' (HB.out.drew.trans (hw'.mono HB.out.size)) hbl HC0.out
          try have g1 := cellB' (HB.out.drew.trans (hw'.mono HB.out.size)) hbl2 HD0.out
          go_simp
          with_reducible rfl
        simp only [Act.put, List.setIfInBounds_toArray, List.set_cons_zero, List.set_cons_succ]
        -- 6: slot 71
        refine wpG_take preGr (i := 6) (v := ?_) (by kernel_rfl) (some 71) (by kernel_rfl) rfl (by kernel_rfl) (by kernel_rfl) (by kernel_rfl) (fun _ _ _ h => h) (by rfl) (fun w' hw' => ?_) rfl ?_
        rotate_left
        · try have g0 := cellB' (HB.out.drew.trans (hw'.mono HB.out.size)) hbl HC0.out
          try have g1 := cellB' (HB.out.drew.trans (hw'.mono HB.out.size)) hbl2 HD0.out
          go_simp
          with_reducible rfl
        simp only [Act.put, List.setIfInBounds_toArray, List.set_cons_zero, List.set_cons_succ]
        -- 7: slot 72
        refine wpG_take preGr (i := 7) (v := ?_) (by kernel_rfl) (some 72) (by kernel_rfl) rfl (by kernel_rfl) (by kernel_rfl) (by kernel_rfl) (fun _ _ _ h => h) (by rfl) (fun w' hw' => ?_) rfl ?_
        rotate_left
        · try have g0 := cellB' (HB.out.drew.trans (hw'.mono HB.out.size)) hbl HC0.out
          try have g1 := cellB' (HB.out.drew.trans (hw'.mono HB.out.size)) hbl2 HD0.out
          go_simp
          with_reducible rfl
        simp only [Act.put, List.setIfInBounds_toArray, List.set_cons_zero, List.set_cons_succ]
        -- 8: slot 73
        refine wpG_take preGr (i := 8) (v := ?_) (by kernel_rfl) (some 73) (by kernel_rfl) rfl (by kernel_rfl) (by kernel_rfl) (by kernel_rfl) (fun _ _ _ h => h) (by rfl) (fun w' hw' => ?_) rfl ?_
        rotate_left
        · try have g0 := cellB' (HB.out.drew.trans (hw'.mono HB.out.size)) hbl HC0.out
          try have g1 := cellB' (HB.out.drew.trans (hw'.mono HB.out.size)) hbl2 HD0.out
          go_simp
          with_reducible rfl
        simp only [Act.put, List.setIfInBounds_toArray, List.set_cons_zero, List.set_cons_succ]
        -- 9: slot 74
        refine wpG_take preGr (i := 9) (v := ?_) (by kernel_rfl) (some 74) (by kernel_rfl) rfl (by kernel_rfl) (by kernel_rfl) (by kernel_rfl) (fun _ _ _ h => h) (by rfl) (fun w' hw' => ?_) rfl ?_
        rotate_left
        · try have g0 := cellB' (HB.out.drew.trans (hw'.mono HB.out.size)) hbl HC0.out
          try have g1 := cellB' (HB.out.drew.trans (hw'.mono HB.out.size)) hbl2 HD0.out
          go_simp
          with_reducible rfl
        simp only [Act.put, List.setIfInBounds_toArray, List.set_cons_zero, List.set_cons_succ]
        -- 10: slot 75
        refine wpG_take preGr (i := 10) (v := ?_) (by kernel_rfl) (some 75) (by kernel_rfl) rfl (by kernel_rfl) (by kernel_rfl) (by kernel_rfl) (fun _ _ _ h => h) (by rfl) (fun w' hw' => ?_) rfl ?_
        rotate_left
        · try have g0 := cellB' (HB.out.drew.trans (hw'.mono HB.out.size)) hbl HC0.out
          try have g1 := cellB' (HB.out.drew.trans (hw'.mono HB.out.size)) hbl2 HD0.out
          go_simp
          with_reducible rfl
        simp only [Act.put, List.setIfInBounds_toArray, List.set_cons_zero, List.set_cons_succ]
        refine wpG_done (by kernel_rfl) ?_ _
        go_wp2
        go_roundw
        case rel =>
          first | exact ⟨i + 1, by omega, by go_num, HB.out.drew⟩ | ((repeat apply Exists.intro); exact ⟨⟨i + 1, by omega, by go_num, HB.out.drew⟩, rfl⟩)
        case measure => simp [intOf]; omega
      · obtain rfl : i = n := by omega
        go_wp2_with fail
        refine (AW.out wr).mono ?_
        rintro e w7 ⟨rfl, hb7⟩
        have HB7 := Lib.hid (HB5.out.trans (Below.mono (HB.out.trans (hb7.mono HB.out.size)) HB5.out.size))
        clear hb7
        go_wp2
        go_ret
        exact ⟨rfl, HB7.out⟩

theorem own : ownKnob Try.prog.godebug = none := by kernel_rfl
theorem laidOut : laidOutB Try.prog = true := by kernel_rfl
set_option maxRecDepth 100000 in
theorem lifted (os : Os) (started : os.Started) (H : Type) (enc : TypeId × Value → H) :
    ReturnsInHanded {} Try.checked os 7 .any (Rows.negoLessSpec.pre6 enc Try.prog Try.f7 Rows.negoLessRow.domain false) (Rows.negoLessSpec.post enc Try.prog Try.f7 false true false false) := by
  refine returnsInHanded_of_change (C := Try.checked) own started (by kernel_rfl) Try.func7
    (ChangeSpec.witness6 (enc := enc) (C := Try.checked) false ⟨#[], #[.slice none 0 0, .slice none 0 0], []⟩ 8 (by kernel_rfl) (by kernel_rfl) (by kernel_rfl) (by kernel_rfl)) ?_
  intro W base args ds gs before hval0 hW hcnd _
  have hval : ∀ (j : Nat) t v, Try.f7.params[j]? = some t → args[j]? = some v → Value.okWide Try.prog W .any base t v := hval0
  have hW' := hW
  obtain ⟨p, q, hA0, hV, rfl, hfz, hnd⟩ := hW
  have hA : DataW.TrodAll enc Try.prog W 0 (fun _ => true) true Try.f7.params.toList args.toList ds p := hA0
  rw [Try.params7] at hA hval
  obtain ⟨v0, vs0, d0, ds0, p0, q0, hargs, rfl, rfl, h0, r0⟩ := trodAll_cons hA
  obtain ⟨v1, vs1, d1, ds1, p1, q1, rfl, rfl, rfl, h1, r1⟩ := trodAll_cons r0
  obtain ⟨rfl, rfl, rfl⟩ := trodAll_nil r1
  obtain rfl : args = #[v0, v1] := by cases args; simp_all
  obtain ⟨rfl, rfl⟩ := trodVars_none hV
  have k0 := h0
  have lt0 : ∀ x ∈ p0, x.block < W.heap.size := by obtain ⟨m, hm⟩ := k0; exact DataW.trod_lt m _ _ _ hm
  obtain ⟨a0, n0, c0, ts0, rfl, b0, i0⟩ := Ng.open_optw Try.underlying23 Try.underlying42 ⟨rfl, rfl⟩ Try.underlying3 Try.underlying40 Try.underlying5 ⟨by kernel_rfl, by kernel_rfl, by kernel_rfl, by kernel_rfl⟩ (hval 0 23 v0 rfl rfl) h0
  have k1 := h1
  have lt1 : ∀ x ∈ p1, x.block < W.heap.size := by obtain ⟨m, hm⟩ := k1; exact DataW.trod_lt m _ _ _ hm
  obtain ⟨a1, n1, c1, ts1, rfl, b1, i1⟩ := Ng.open_optw Try.underlying23 Try.underlying42 ⟨rfl, rfl⟩ Try.underlying3 Try.underlying40 Try.underlying5 ⟨by kernel_rfl, by kernel_rfl, by kernel_rfl, by kernel_rfl⟩ (hval 1 23 v1 rfl rfl) h1
  clear hA0 hval0
  refine (walk W a0 n0 c0 ts0 b0 i0 a1 n1 c1 ts1 b1 i1).mono fun e W' ⟨he, bel⟩ => ?_
  subst he
  exact ⟨_, rfl, _, _, _, [], _, [], hW', trodAll_mk1 (shut_bool Try.underlying4 _), (trodAll_cons_mk (Below.trod laidOut (by kernel_rfl) (of_decide_eq_true (by kernel_rfl)) k0 bel lt0) (trodAll_cons_mk (Below.trod laidOut (by kernel_rfl) (of_decide_eq_true (by kernel_rfl)) k1 bel lt1) trodAll_mk0)), rfl, bel.frame _, fun h => by cases h⟩
theorem over : Rows.negoLessRow.holds Try.pinned (OpenSpec.ofChange Rows.negoLessSpec) :=
  OpenClaim.holds_of_wide 7 Try.f7 rfl rfl rfl rfl rfl rfl rfl ⟨rfl, rfl, rfl, rfl, rfl⟩ rfl rfl rfl rfl rfl (by kernel_rfl) Try.func7 (by kernel_rfl)
    (of_decide_eq_true (by kernel_rfl)) (by unfold Func.isWrapper; first | (rw [if_pos (by decide +kernel)]; kernel_rfl) | (rw [if_neg (by decide +kernel)]; exact ⟨rfl, rfl⟩))
    (fun os started H enc _ => lifted os started H enc)
/-- The statement. -/
theorem proved : Rows.NegoLessSaid := over
end Go.Proofs.Ytbldcjngccmhpaa.negoLess
