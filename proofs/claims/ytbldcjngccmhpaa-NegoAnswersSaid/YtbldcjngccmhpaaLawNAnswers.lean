/-
  For every rules (the first 18), every options (the first 20, each with the first 20 bytes of its data) and every two numbers nego.Answer tells the code and the options that the document tells, and nego.Check tells whether the rules may be as the document does (conciergelaw15.NegoAnswers answers true). No conditions.
-/
import Derived.Test.YtbldcjngccmhpaaNgSb
import Derived.Test.YtbldcjngccmhpaaNgV
import Derived.Test.YtbldcjngccmhpaaNgW
import Derived.Test.YtbldcjngccmhpaaOpenN
import Derived.ProofKit
import Derived.OpenShut
import Derived.ChangeOld
namespace Go.Proofs.Ytbldcjngccmhpaa.negoAnswers
open Go.ChangeShapes Go.WideShapes Go.ChangeAt Go.RowKit O Ng
set_option linter.unusedVariables false
set_option linter.unusedSimpArgs false

set_option maxRecDepth 20000 in
set_option maxHeartbeats 4000000 in
theorem walk (W : World) (a0 : Option Addr) (n0 c0 : Nat) (rs0 : List Ru) (b0 : RR W (.slice a0 n0 c0) n0 rs0) (a1 : Option Addr) (n1 c1 : Nat) (ts1 : List Tg) (b1 : TR W (.slice a1 n1 c1) n1 ts1) (i1 : ∀ x ∈ ts1, I64 x.typ) (a2 : Int) (w2 : (Lit.int .i64 a2).wf = true) (a3 : Int) (w3 : (Lit.int .i64 a3).wf = true) :
    Calls Try.prog 3 #[.slice a0 n0 c0, .slice a1 n1 c1, .int .i64 a2, .int .i64 a3] W fun e w' => e = .returned (.bool true) ∧ Below W.heap.size W w' := by
  have AW := Lib.hid awake_any
  obtain ⟨m, rs, hm18, hrr, hrules⟩ := rules_in b0
  have HRU := Lib.hid hrules
  have HRR := Lib.hid hrr
  have OP := Lib.hid (opts_any a1 n1 c1 ts1 W b1 i1)
  clear b0 b1 i1 w2 w3 hrr hrules
  go_enter Try.func3, Try.ntmps3
  go_wp2_with fail
  refine (HRU.out W).mono ?_
  rintro e w1 ⟨rfl, rfl⟩
  go_wp2_with fail
  refine OP.out.mono ?_
  rintro e w2 ⟨a4, n, c4, ts, rfl, htr, hn20, hlen, _, hb2⟩
  have HB2 := Lib.hid hb2
  have HT2 := Lib.hid htr
  have HR2 := Lib.hid (HRR.out.below hb2)
  have hm : ∀ x ∈ ts, x.l.length ≤ 1000 := fun x hx => Nat.le_trans (hlen x hx) (by decide)
  have hn : n ≤ 1000 := by omega
  have A1 := Lib.hid (answer_any a0 m c0 rs a4 n c4 ts a2 a3 w2 HR2.out htr hn hm)
  clear hb2 htr hlen hm OP HRU HRR
  go_wp2_with fail
  refine A1.out.mono ?_
  rintro e w3 ⟨v3, us3, rfl, hp3, hto3, hb3⟩
  obtain ⟨x3, y3, ev, _, _⟩ := hto3.tr.shape
  subst ev
  have HP3 := Lib.hid hp3
  have HB3 := Lib.hid (HB2.out.trans (hb3.mono HB2.out.size))
  have HT3 := Lib.hid (HT2.out.below hb3)
  have HR3 := Lib.hid (HR2.out.below hb3)
  have HU3 := Lib.hid hto3.tr
  have A2 := Lib.hid (ranswer_any a0 m c0 rs a4 n c4 ts a2 a3 w3 HR3.out HT3.out hn)
  clear hp3 hto3 hb3 A1 HT2 HR2
  obtain ⟨K, hK⟩ : ∃ K, K = (ans rs (plain ts) a2 a3).1 := ⟨_, rfl⟩
  have HK := Lib.hid hK
  rw [← hK]
  clear hK
  obtain ⟨N3, hN3⟩ : ∃ N, N = us3.length := ⟨_, rfl⟩
  rw [← hN3] at HU3 ⊢
  clear hN3
  go_wp2_with fail
  refine A2.out.mono ?_
  rintro e w4 ⟨x4, N4, y4, us4, rfl, hp4, htr4, hb4⟩
  rw [← HK.out]
  have HB4 := Lib.hid (HB3.out.trans (hb4.mono HB3.out.size))
  have HR4 := Lib.hid (HR3.out.below hb4)
  have HU4 := Lib.hid (HU3.out.below hb4)
  have HV4 := Lib.hid htr4
  have HPP : Hid (decide (plain us3 = plain us4) = true) := decide_eq_true (HP3.out.trans hp4.symm)
  have CK := Lib.hid (fun (w' : World) (hw : Gr w4 w') => check_any a0 m c0 rs w' (HR4.out.below hw))
  have AR := Lib.hid (fun (w' : World) (hw : Gr w4 w') => are_any a0 m c0 rs w' (HR4.out.below hw))
  clear hp4 htr4 hb4 A2 HT3 HR3 HU3
  have HSM : Hid (∀ w', Gr w4 w' → Calls Try.prog 14 #[.slice x3 N3 y3, .slice x4 N4 y4] w' fun e w'' => e = .returned (.bool true) ∧ Below w'.heap.size w' w'') := fun w' hw' => by
    have := rsame_any x3 x4 N3 N4 y3 y4 us3 us4 w' (HU4.out.below hw') (HV4.out.below hw')
    rwa [HPP.out] at this
  by_cases ha : areR rs
  · simp only [if_pos ha, decide_eq_true ha] at CK AR
    clear ha
    go_wp2_with fail
    refine (CK.out w4 (Gr.refl _)).mono ?_
    rintro e w5 ⟨rfl, hb5⟩
    have HQ5 : Hid (Gr w4 w5) := hb5
    clear hb5
    go_wp2_with fail
    refine (HSM.out w5 HQ5.out).mono ?_
    rintro e w6 ⟨rfl, hb6⟩
    have HQ6 : Hid (Gr w4 w6) := HQ5.out.trans hb6
    clear hb6
    go_wp2_with fail
    refine (AR.out w6 HQ6.out).mono ?_
    rintro e w7 ⟨rfl, hb7⟩
    have HQ7 : Hid (Gr w4 w7) := HQ6.out.trans hb7
    clear hb7
    go_wp2_with fail
    refine (AW.out w7).mono ?_
    rintro e w8 ⟨rfl, hb8⟩
    have HB8 := Lib.hid (HB4.out.trans (Below.mono (HQ7.out.trans hb8) HB4.out.size))
    clear hb8
    go_wp2
    go_ret
    exact ⟨rfl, HB8.out⟩
  · simp only [if_neg ha, decide_eq_false ha] at CK AR
    clear ha
    go_wp2_with fail
    refine (CK.out w4 (Gr.refl _)).mono ?_
    rintro e w5 ⟨rfl, hb5⟩
    have HQ5 : Hid (Gr w4 w5) := hb5
    clear hb5
    go_wp2_with fail
    refine (HSM.out w5 HQ5.out).mono ?_
    rintro e w6 ⟨rfl, hb6⟩
    have HQ6 : Hid (Gr w4 w6) := HQ5.out.trans hb6
    clear hb6
    go_wp2_with fail
    refine (AR.out w6 HQ6.out).mono ?_
    rintro e w7 ⟨rfl, hb7⟩
    have HQ7 : Hid (Gr w4 w7) := HQ6.out.trans hb7
    clear hb7
    go_wp2_with fail
    refine (CK.out w7 HQ7.out).mono ?_
    rintro e w8 ⟨rfl, hb8⟩
    have HQ8 : Hid (Gr w4 w8) := HQ7.out.trans hb8
    clear hb8
    go_wp2_with fail
    refine (AW.out w8).mono ?_
    rintro e w9 ⟨rfl, hb9⟩
    have HB9 := Lib.hid (HB4.out.trans (Below.mono (HQ8.out.trans hb9) HB4.out.size))
    clear hb9
    go_wp2
    go_ret
    exact ⟨rfl, HB9.out⟩

theorem own : ownKnob Try.prog.godebug = none := by kernel_rfl
theorem laidOut : laidOutB Try.prog = true := by kernel_rfl
set_option maxRecDepth 100000 in
theorem lifted (os : Os) (started : os.Started) (H : Type) (enc : TypeId × Value → H) :
    ReturnsInHanded {} Try.checked os 3 .any (Rows.negoAnswersSpec.pre6 enc Try.prog Try.f3 Rows.negoAnswersRow.domain false) (Rows.negoAnswersSpec.post enc Try.prog Try.f3 false true false false) := by
  refine returnsInHanded_of_change (C := Try.checked) own started (by kernel_rfl) Try.func3
    (ChangeSpec.witness6 (enc := enc) (C := Try.checked) false ⟨#[], #[.slice none 0 0, .slice none 0 0, .int .i64 0, .int .i64 0], []⟩ 8 (by kernel_rfl) (by kernel_rfl) (by kernel_rfl) (by kernel_rfl)) ?_
  intro W base args ds gs before hval0 hW hcnd _
  have hval : ∀ (j : Nat) t v, Try.f3.params[j]? = some t → args[j]? = some v → Value.okWide Try.prog W .any base t v := hval0
  have hW' := hW
  obtain ⟨p, q, hA0, hV, rfl, hfz, hnd⟩ := hW
  have hA : DataW.TrodAll enc Try.prog W 0 (fun _ => true) true Try.f3.params.toList args.toList ds p := hA0
  rw [Try.params3] at hA hval
  obtain ⟨v0, vs0, d0, ds0, p0, q0, hargs, rfl, rfl, h0, r0⟩ := trodAll_cons hA
  obtain ⟨v1, vs1, d1, ds1, p1, q1, rfl, rfl, rfl, h1, r1⟩ := trodAll_cons r0
  obtain ⟨v2, vs2, d2, ds2, p2, q2, rfl, rfl, rfl, h2, r2⟩ := trodAll_cons r1
  obtain ⟨v3, vs3, d3, ds3, p3, q3, rfl, rfl, rfl, h3, r3⟩ := trodAll_cons r2
  obtain ⟨rfl, rfl, rfl⟩ := trodAll_nil r3
  obtain rfl : args = #[v0, v1, v2, v3] := by cases args; simp_all
  obtain ⟨rfl, rfl⟩ := trodVars_none hV
  have k0 := h0
  have lt0 : ∀ x ∈ p0, x.block < W.heap.size := by obtain ⟨m, hm⟩ := k0; exact DataW.trod_lt m _ _ _ hm
  obtain ⟨a0, n0, c0, rs0, rfl, b0⟩ := Ng.open_rules Try.underlying22 Try.underlying39 ⟨rfl, rfl, rfl, rfl, rfl, rfl, rfl⟩ Try.underlying3 Try.underlying3 Try.underlying37 Try.underlying3 Try.underlying3 Try.underlying3 Try.underlying4 ⟨by kernel_rfl, by kernel_rfl, by kernel_rfl, by kernel_rfl, by kernel_rfl, by kernel_rfl, by kernel_rfl, by kernel_rfl⟩ (hval 0 22 v0 rfl rfl) h0
  have k1 := h1
  have lt1 : ∀ x ∈ p1, x.block < W.heap.size := by obtain ⟨m, hm⟩ := k1; exact DataW.trod_lt m _ _ _ hm
  obtain ⟨a1, n1, c1, ts1, rfl, b1, i1⟩ := Ng.open_optw Try.underlying23 Try.underlying42 ⟨rfl, rfl⟩ Try.underlying3 Try.underlying40 Try.underlying5 ⟨by kernel_rfl, by kernel_rfl, by kernel_rfl, by kernel_rfl⟩ (hval 1 23 v1 rfl rfl) h1
  have k2 := h2
  have lt2 : ∀ x ∈ p2, x.block < W.heap.size := by obtain ⟨m, hm⟩ := k2; exact DataW.trod_lt m _ _ _ hm
  obtain ⟨a2, rfl, rfl, rfl, w2⟩ := open_int Try.underlying3 (hval 2 3 v2 rfl rfl) h2
  have k3 := h3
  have lt3 : ∀ x ∈ p3, x.block < W.heap.size := by obtain ⟨m, hm⟩ := k3; exact DataW.trod_lt m _ _ _ hm
  obtain ⟨a3, rfl, rfl, rfl, w3⟩ := open_int Try.underlying3 (hval 3 3 v3 rfl rfl) h3
  clear hA0 hval0
  refine (walk W a0 n0 c0 rs0 b0 a1 n1 c1 ts1 b1 i1 a2 w2 a3 w3).mono fun e W' ⟨he, bel⟩ => ?_
  subst he
  exact ⟨_, rfl, _, _, _, [], _, [], hW', trodAll_mk1 (shut_bool Try.underlying4 _), (trodAll_cons_mk (Below.trod laidOut (by kernel_rfl) (of_decide_eq_true (by kernel_rfl)) k0 bel lt0) (trodAll_cons_mk (Below.trod laidOut (by kernel_rfl) (of_decide_eq_true (by kernel_rfl)) k1 bel lt1) (trodAll_cons_mk (Below.trod laidOut (by kernel_rfl) (of_decide_eq_true (by kernel_rfl)) k2 bel lt2) (trodAll_cons_mk (Below.trod laidOut (by kernel_rfl) (of_decide_eq_true (by kernel_rfl)) k3 bel lt3) trodAll_mk0)))), rfl, bel.frame _, fun h => by cases h⟩
theorem over : Rows.negoAnswersRow.holds Try.pinned (OpenSpec.ofChange Rows.negoAnswersSpec) :=
  OpenClaim.holds_of_wide 3 Try.f3 rfl rfl rfl rfl rfl rfl rfl ⟨rfl, rfl, rfl, rfl, rfl⟩ rfl rfl rfl rfl rfl (by kernel_rfl) Try.func3 (by kernel_rfl)
    (of_decide_eq_true (by kernel_rfl)) (by unfold Func.isWrapper; first | (rw [if_pos (by decide +kernel)]; kernel_rfl) | (rw [if_neg (by decide +kernel)]; exact ⟨rfl, rfl⟩))
    (fun os started H enc _ => lifted os started H enc)
/-- The statement. -/
theorem proved : Rows.NegoAnswersSaid := over
end Go.Proofs.Ytbldcjngccmhpaa.negoAnswers
