/-
  A state's name is that state's alone; a name of none is no state's (conciergelaw14.FsmParses answers true). No condition.
-/
import Derived.Test.YtmhiajjnkcneoaaFsO
import Derived.Test.YtmhiajjnkcneoaaFsH
import Derived.Test.YtmhiajjnkcneoaaOpenE
import Derived.ProofKit
import Derived.OpenShut
import Derived.ChangeOld
import Derived.Deep.Cut
namespace Go.Proofs.Ytmhiajjnkcneoaa.fsmParses
open Go.ChangeShapes Go.WideShapes Go.ChangeAt Go.RowKit
open Go.Proofs.Ytmhiajjnkcneoaa.Fs
set_option linter.unusedVariables false
set_option linter.unusedSimpArgs false

set_option maxRecDepth 20000 in
set_option maxHeartbeats 8000000 in
theorem walk (W : World) (s : Int) (ws : (Lit.int .i64 s).wf = true) :
    Calls Try.prog 6 #[.int .i64 s] W fun x w' => x = .returned (.bool true) ∧ Below W.heap.size W w' := by
  have HA := Lib.hid (awake_any W)
  obtain ⟨t, ht1, ht2⟩ := tx_of (nm names s)
  have HN : Hid (Calls Try.prog 21 #[.int .i64 s] W fun e w' => e = .returned (.string t) ∧ w' = W) := by
    have := Name_any s W
    rwa [ht1] at this
  have HP := Lib.hid (Parse_any t W)
  rw [ht2] at HP
  have hp := prs_name s
  clear ws ht1 ht2
  by_cases hs : InS s
  · have e1 := hp.2 hs
    have e2 := hp.1
    rw [decide_eq_true hs] at e2
    rw [e1, e2] at HP
    have n1 : 0 ≤ s := hs.1
    have n2 : s ≤ 9 := hs.2
    clear hp e1 e2 hs
    go_enter Try.func6, Try.ntmps6
    go_wp2_with fail
    refine HN.out.mono ?_
    rintro x w1 ⟨rfl, rfl⟩
    go_wp2_with fail
    refine HP.out.mono ?_
    rintro x w1 ⟨rfl, rfl⟩
    go_wp2_with fail
    refine HA.out.mono ?_
    rintro x w4 ⟨rfl, hb4⟩
    go_wp2_with fail
    go_ret
    exact ⟨rfl, hb4⟩
  · have e2 := hp.1
    rw [decide_eq_false hs] at e2
    rw [e2] at HP
    obtain ⟨y, hy⟩ : ∃ y, y = (prs (nm names s)).1 := ⟨_, rfl⟩
    rw [← hy] at HP
    have n0 : s < 0 ∨ 9 < s := by unfold InS at hs; omega
    clear hp e2 hs hy
    by_cases n1 : 0 ≤ s
    · have n2 : ¬ s ≤ 9 := by omega
      have HD : Hid (decide (s ≤ 9) = false) := decide_eq_false n2
      clear n0
      go_enter Try.func6, Try.ntmps6
      go_wp2_with fail
      refine HN.out.mono ?_
      rintro x w1 ⟨rfl, rfl⟩
      go_wp2_with fail
      refine HP.out.mono ?_
      rintro x w1 ⟨rfl, rfl⟩
      go_wp2_with fail
      refine HA.out.mono ?_
      rintro x w4 ⟨rfl, hb4⟩
      go_wp2_with fail
      go_ret
      refine ⟨?_, hb4⟩
      show Ending.returned (.bool (!decide (s ≤ 9))) = _
      rw [HD.out]
      rfl
    · clear n0
      go_enter Try.func6, Try.ntmps6
      go_wp2_with fail
      refine HN.out.mono ?_
      rintro x w1 ⟨rfl, rfl⟩
      go_wp2_with fail
      refine HP.out.mono ?_
      rintro x w1 ⟨rfl, rfl⟩
      go_wp2_with fail
      refine HA.out.mono ?_
      rintro x w4 ⟨rfl, hb4⟩
      go_wp2_with fail
      go_ret
      exact ⟨rfl, hb4⟩
theorem own : ownKnob Try.prog.godebug = none := by kernel_rfl
theorem laidOut : laidOutB Try.prog = true := by kernel_rfl
set_option maxRecDepth 100000 in
theorem lifted (os : Os) (started : os.Started) (H : Type) (enc : TypeId × Value → H) :
    ReturnsInHanded {} Try.checked os 6 .any (Rows.fsmParsesSpec.pre6 enc Try.prog Try.f6 Rows.fsmParsesRow.domain false) (Rows.fsmParsesSpec.post enc Try.prog Try.f6 false true false false) := by
  refine returnsInHanded_of_change (C := Try.checked) own started (by kernel_rfl) Try.func6
    (ChangeSpec.witness6 (enc := enc) (C := Try.checked) false ⟨#[], #[.int .i64 0], []⟩ 8 (by kernel_rfl) (by kernel_rfl) (by kernel_rfl) (by kernel_rfl)) ?_
  intro W base args ds gs before hval0 hW hcnd _
  have hval : ∀ (j : Nat) t v, Try.f6.params[j]? = some t → args[j]? = some v → Value.okWide Try.prog W .any base t v := hval0
  have hW' := hW
  obtain ⟨p, q, hA0, hV, rfl, hfz, hnd⟩ := hW
  have hA : DataW.TrodAll enc Try.prog W 0 (fun _ => true) true Try.f6.params.toList args.toList ds p := hA0
  rw [Try.params6] at hA hval
  obtain ⟨v0, vs0, d0, ds0, p0, q0, hargs, rfl, rfl, h0, r0⟩ := trodAll_cons hA
  obtain ⟨rfl, rfl, rfl⟩ := trodAll_nil r0
  obtain rfl : args = #[v0] := by cases args; simp_all
  obtain ⟨rfl, rfl⟩ := trodVars_none hV
  have k0 := h0
  have lt0 : ∀ x ∈ p0, x.block < W.heap.size := by obtain ⟨m, hm⟩ := k0; exact DataW.trod_lt m _ _ _ hm
  obtain ⟨a0, rfl, rfl, rfl, w0⟩ := open_int Try.underlying22 (hval 0 22 v0 rfl rfl) h0
  clear hA0 hval0
  refine (walk W a0 w0).mono fun e W' ⟨he, bel⟩ => ?_
  subst he
  exact ⟨_, rfl, _, _, _, [], _, [], hW', trodAll_mk1 (shut_bool Try.underlying4 _), (trodAll_cons_mk (Below.trod laidOut (by kernel_rfl) (of_decide_eq_true (by kernel_rfl)) k0 bel lt0) trodAll_mk0), rfl, bel.frame _, fun h => by cases h⟩
theorem over : Rows.fsmParsesRow.holds Try.pinned (OpenSpec.ofChange Rows.fsmParsesSpec) :=
  OpenClaim.holds_of_wide 6 Try.f6 rfl rfl rfl rfl rfl rfl rfl ⟨rfl, rfl, rfl, rfl, rfl⟩ rfl rfl rfl rfl rfl (by kernel_rfl) Try.func6 (by kernel_rfl)
    (of_decide_eq_true (by kernel_rfl)) (by unfold Func.isWrapper; first | (rw [if_pos (by decide +kernel)]; kernel_rfl) | (rw [if_neg (by decide +kernel)]; exact ⟨rfl, rfl⟩))
    (fun os started H enc _ => lifted os started H enc)
/-- The statement. -/
theorem proved : Rows.FsmParsesSaid := over
end Go.Proofs.Ytmhiajjnkcneoaa.fsmParses
