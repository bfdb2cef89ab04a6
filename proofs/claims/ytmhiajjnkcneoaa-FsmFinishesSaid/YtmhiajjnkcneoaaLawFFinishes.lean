/-
  tlf comes just where it comes to rest, a request goes out just where one is waited for, and an end is asked just where that is waited for (conciergelaw14.FsmFinishes answers true). No condition.
-/
import Derived.Test.YtmhiajjnkcneoaaFsO
import Derived.Test.YtmhiajjnkcneoaaFsH
import Derived.Test.YtmhiajjnkcneoaaOpenE
import Derived.ProofKit
import Derived.OpenShut
import Derived.ChangeOld
import Derived.Deep.Cut
namespace Go.Proofs.Ytmhiajjnkcneoaa.fsmFinishes
open Go.ChangeShapes Go.WideShapes Go.ChangeAt Go.RowKit
open Go.Proofs.Ytmhiajjnkcneoaa.Fs
set_option linter.unusedVariables false
set_option linter.unusedSimpArgs false

set_option maxRecDepth 20000 in
set_option maxHeartbeats 8000000 in
theorem ways {n : Int} {b4 b7 b10 : Bool} (hn : InS n) (h4 : b4 = true → n = 0 ∨ n = 2 ∨ n = 3) (h7 : b7 = true → n = 6 ∨ n = 7 ∨ n = 8) (h10 : b10 = true → n = 4 ∨ n = 5) :
    ((n = 0 ∨ n = 2 ∨ n = 3) ∧ b7 = false ∧ b10 = false) ∨ ((n = 6 ∨ n = 7 ∨ n = 8) ∧ b4 = false ∧ b10 = false) ∨ ((n = 4 ∨ n = 5) ∧ b4 = false ∧ b7 = false) ∨ ((n = 1 ∨ n = 9) ∧ b4 = false ∧ b7 = false ∧ b10 = false) := by
  unfold InS at hn
  cases b4 <;> cases b7 <;> cases b10 <;> simp at h4 h7 h10 ⊢ <;> omega
set_option maxRecDepth 20000 in
set_option maxHeartbeats 8000000 in
theorem walk (W : World) (s : Int) (ws : (Lit.int .i64 s).wf = true) (e : Int) (we : (Lit.int .i64 e).wf = true) :
    Calls Try.prog 8 #[.int .i64 s, .int .i64 e] W fun x w' => x = .returned (.bool true) ∧ Below W.heap.size W w' := by
  have HA := Lib.hid (fun w => awake_any w)
  have HS := Lib.hid (Step_any s e W)
  clear ws we
  by_cases h0 : (stp s e).2.2 = 0
  · have hu := fins h0
    have hin := stp_in h0
    have HSH := Lib.hid (stp_short s e)
    unfold TRes at HS
    rw [h0] at HS
    obtain ⟨n, hn⟩ : ∃ n, n = (stp s e).1 := ⟨_, rfl⟩
    obtain ⟨l, hl⟩ : ∃ l, l = (stp s e).2.1 := ⟨_, rfl⟩
    rw [← hn] at hin
    rw [← hn, ← hl] at HS hu
    rw [← hl] at HSH
    obtain ⟨b4, h4⟩ : ∃ b, decide (4 ∈ l) = b := ⟨_, rfl⟩
    obtain ⟨b7, h7⟩ : ∃ b, decide (7 ∈ l) = b := ⟨_, rfl⟩
    obtain ⟨b10, h10⟩ : ∃ b, decide (10 ∈ l) = b := ⟨_, rfl⟩
    have hw := ways hin (fun h => hu.1 (of_decide_eq_true (h4.trans h))) (fun h => hu.2.1 (of_decide_eq_true (h7.trans h))) (fun h => hu.2.2 (of_decide_eq_true (h10.trans h)))
    have HH4 := Lib.hid h4
    have HH7 := Lib.hid h7
    have HH10 := Lib.hid h10
    have HWW := Lib.hid hw
    clear h0 hn hl hu hin h4 h7 h10 hw
    go_enter Try.func8, Try.ntmps8
    go_wp2_with fail
    refine HS.out.mono ?_
    rintro x w1 ⟨v1, rfl, ho1, hb1⟩
    have HB1 := Lib.hid hb1
    have H1 := Lib.hid (has_any 4 w1 ho1.ar (by have := HSH.out; omega))
    have H2 := Lib.hid (has_any 7 w1 ho1.ar (by have := HSH.out; omega))
    have H3 := Lib.hid (has_any 10 w1 ho1.ar (by have := HSH.out; omega))
    rw [HH4.out] at H1
    rw [HH7.out] at H2
    rw [HH10.out] at H3
    clear hb1 ho1 HS HSH HH4 HH7 HH10
    rcases HWW.out with ⟨rfl | rfl | rfl, rfl, rfl⟩ | ⟨rfl | rfl | rfl, rfl, rfl⟩ | ⟨rfl | rfl, rfl, rfl⟩ | ⟨rfl | rfl, rfl, rfl, rfl⟩
    all_goals
      clear HWW
      try cases b4
      all_goals try cases b7
      all_goals try cases b10
      all_goals
        go_wp2_with fail
        refine H1.out.mono ?_
        rintro x w2 ⟨rfl, rfl⟩
        go_wp2_with fail
        refine H2.out.mono ?_
        rintro x w2 ⟨rfl, rfl⟩
        go_wp2_with fail
        refine H3.out.mono ?_
        rintro x w2 ⟨rfl, rfl⟩
        go_wp2_with fail
        refine (HA.out _).mono ?_
        rintro x w3 ⟨rfl, hb⟩
        have HB3 := Lib.hid (HB1.out.trans (hb.mono HB1.out.size))
        clear hb HB1 HA
        go_wp2_with fail
        go_ret
        exact ⟨rfl, HB3.out⟩
  · have hx := (stp_err h0).2
    unfold TRes at HS
    rw [hx] at HS
    obtain ⟨f, hf⟩ : ∃ f, f = (stp s e).2.2 := ⟨_, rfl⟩
    rw [← hf] at HS h0
    obtain ⟨n, hn⟩ : ∃ n, n = (stp s e).1 := ⟨_, rfl⟩
    rw [← hn] at HS
    clear hx hf hn
    go_enter Try.func8, Try.ntmps8
    go_wp2_with fail
    refine HS.out.mono ?_
    rintro x w1 ⟨v1, rfl, ho1, hb1⟩
    have HB1 := Lib.hid hb1
    obtain ⟨A, C, rfl, _, _⟩ := ho1.ar.shape
    clear hb1 ho1 HS
    go_wp2_with fail
    refine (HA.out _).mono ?_
    rintro x w3 ⟨rfl, hb⟩
    have HB3 := Lib.hid (HB1.out.trans (hb.mono HB1.out.size))
    clear hb HB1 HA
    go_wp2_with fail
    go_ret
    exact ⟨rfl, HB3.out⟩
theorem own : ownKnob Try.prog.godebug = none := by kernel_rfl
theorem laidOut : laidOutB Try.prog = true := by kernel_rfl
set_option maxRecDepth 100000 in
theorem lifted (os : Os) (started : os.Started) (H : Type) (enc : TypeId × Value → H) :
    ReturnsInHanded {} Try.checked os 8 .any (Rows.fsmFinishesSpec.pre6 enc Try.prog Try.f8 Rows.fsmFinishesRow.domain false) (Rows.fsmFinishesSpec.post enc Try.prog Try.f8 false true false false) := by
  refine returnsInHanded_of_change (C := Try.checked) own started (by kernel_rfl) Try.func8
    (ChangeSpec.witness6 (enc := enc) (C := Try.checked) false ⟨#[], #[.int .i64 0, .int .i64 0], []⟩ 8 (by kernel_rfl) (by kernel_rfl) (by kernel_rfl) (by kernel_rfl)) ?_
  intro W base args ds gs before hval0 hW hcnd _
  have hval : ∀ (j : Nat) t v, Try.f8.params[j]? = some t → args[j]? = some v → Value.okWide Try.prog W .any base t v := hval0
  have hW' := hW
  obtain ⟨p, q, hA0, hV, rfl, hfz, hnd⟩ := hW
  have hA : DataW.TrodAll enc Try.prog W 0 (fun _ => true) true Try.f8.params.toList args.toList ds p := hA0
  rw [Try.params8] at hA hval
  obtain ⟨v0, vs0, d0, ds0, p0, q0, hargs, rfl, rfl, h0, r0⟩ := trodAll_cons hA
  obtain ⟨v1, vs1, d1, ds1, p1, q1, rfl, rfl, rfl, h1, r1⟩ := trodAll_cons r0
  obtain ⟨rfl, rfl, rfl⟩ := trodAll_nil r1
  obtain rfl : args = #[v0, v1] := by cases args; simp_all
  obtain ⟨rfl, rfl⟩ := trodVars_none hV
  have k0 := h0
  have lt0 : ∀ x ∈ p0, x.block < W.heap.size := by obtain ⟨m, hm⟩ := k0; exact DataW.trod_lt m _ _ _ hm
  obtain ⟨a0, rfl, rfl, rfl, w0⟩ := open_int Try.underlying22 (hval 0 22 v0 rfl rfl) h0
  have k1 := h1
  have lt1 : ∀ x ∈ p1, x.block < W.heap.size := by obtain ⟨m, hm⟩ := k1; exact DataW.trod_lt m _ _ _ hm
  obtain ⟨a1, rfl, rfl, rfl, w1⟩ := open_int Try.underlying23 (hval 1 23 v1 rfl rfl) h1
  clear hA0 hval0
  refine (walk W a0 w0 a1 w1).mono fun e W' ⟨he, bel⟩ => ?_
  subst he
  exact ⟨_, rfl, _, _, _, [], _, [], hW', trodAll_mk1 (shut_bool Try.underlying4 _), (trodAll_cons_mk (Below.trod laidOut (by kernel_rfl) (of_decide_eq_true (by kernel_rfl)) k0 bel lt0) (trodAll_cons_mk (Below.trod laidOut (by kernel_rfl) (of_decide_eq_true (by kernel_rfl)) k1 bel lt1) trodAll_mk0)), rfl, bel.frame _, fun h => by cases h⟩
theorem over : Rows.fsmFinishesRow.holds Try.pinned (OpenSpec.ofChange Rows.fsmFinishesSpec) :=
  OpenClaim.holds_of_wide 8 Try.f8 rfl rfl rfl rfl rfl rfl rfl ⟨rfl, rfl, rfl, rfl, rfl⟩ rfl rfl rfl rfl rfl (by kernel_rfl) Try.func8 (by kernel_rfl)
    (of_decide_eq_true (by kernel_rfl)) (by unfold Func.isWrapper; first | (rw [if_pos (by decide +kernel)]; kernel_rfl) | (rw [if_neg (by decide +kernel)]; exact ⟨rfl, rfl⟩))
    (fun os started H enc _ => lifted os started H enc)
/-- The statement. -/
theorem proved : Rows.FsmFinishesSaid := over
end Go.Proofs.Ytmhiajjnkcneoaa.fsmFinishes
