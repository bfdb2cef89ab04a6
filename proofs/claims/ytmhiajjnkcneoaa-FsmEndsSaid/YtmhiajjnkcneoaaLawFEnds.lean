/-
  One TO- ends whatever is waited for; a TO+ goes on waiting, and sends again (conciergelaw14.FsmEnds answers true). No condition.
-/
import Derived.Test.YtmhiajjnkcneoaaFsO
import Derived.Test.YtmhiajjnkcneoaaFsH
import Derived.Test.YtmhiajjnkcneoaaOpenE
import Derived.ProofKit
import Derived.OpenShut
import Derived.ChangeOld
import Derived.Deep.Cut
namespace Go.Proofs.Ytmhiajjnkcneoaa.fsmEnds
open Go.ChangeShapes Go.WideShapes Go.ChangeAt Go.RowKit
open Go.Proofs.Ytmhiajjnkcneoaa.Fs
set_option linter.unusedVariables false
set_option linter.unusedSimpArgs false

set_option maxRecDepth 20000 in
set_option maxHeartbeats 8000000 in
theorem walk (W : World) (s : Int) (ws : (Lit.int .i64 s).wf = true) :
    Calls Try.prog 9 #[.int .i64 s] W fun x w' => x = .returned (.bool true) ∧ Below W.heap.size W w' := by
  have HA := Lib.hid (fun w => awake_any w)
  have HS := Lib.hid (Step_any s 6 W)
  have HR := Lib.hid (fun w => Step_any s 5 w)
  have HT := Lib.hid (fun w => Timed_any s w)
  clear ws
  unfold TRes at HS HR
  cases ht : timed s with
  | true =>
    obtain ⟨e1, e2, e3, e4, e5, e6⟩ := ends_yes ht
    rw [e1, e4] at HS
    rw [e2] at HR
    rw [ht] at HT
    obtain ⟨n, hn⟩ : ∃ n, n = (stp s 6).1 := ⟨_, rfl⟩
    obtain ⟨m, hm⟩ : ∃ m, m = (stp s 5).1 := ⟨_, rfl⟩
    rw [← hn] at HS e3
    rw [← hm] at HR e5
    have HTN : Hid (∀ w, Calls Try.prog 19 #[.int .i64 n] w fun e w' => e = .returned (.bool false) ∧ w' = w) := fun w => by have := Timed_any n w; rwa [e3] at this
    have HTM : Hid (∀ w, Calls Try.prog 19 #[.int .i64 m] w fun e w' => e = .returned (.bool true) ∧ w' = w) := fun w => by have := Timed_any m w; rwa [e5] at this
    have HL : Hid (∃ q, (stp s 5).2.1 = [q] ∧ (q = 7 ∨ q = 10)) := by
      rcases e6 with h | h
      · exact ⟨7, h, .inl rfl⟩
      · exact ⟨10, h, .inr rfl⟩
    obtain ⟨q, hq, hq2⟩ := HL.out
    rw [hq] at HR
    have HQ2 := Lib.hid hq2
    clear ht hn hm e1 e2 e3 e4 e5 e6 hq hq2 HL
    go_enter Try.func9, Try.ntmps9
    go_wp2_with fail
    refine HS.out.mono ?_
    rintro x w1 ⟨v1, rfl, ho1, hb1⟩
    have HB1 := Lib.hid hb1
    have HO1 := Lib.hid ho1
    clear hb1 ho1 HS
    go_wp2_with fail
    refine (HR.out w1).mono ?_
    rintro x w2 ⟨v2, rfl, ho2, hb2⟩
    have HB2 := Lib.hid (HB1.out.trans (hb2.mono HB1.out.size))
    have HO2 := Lib.hid (HO1.out.ar.below hb2)
    have HM2 := Lib.hid ho2.ar
    clear hb2 ho2 HR HB1 HO1
    go_wp2_with fail
    refine (HT.out w2).mono ?_
    rintro x w3 ⟨rfl, rfl⟩
    clear HT
    go_wp2_with fail
    refine (HTN.out w3).mono ?_
    rintro x w4 ⟨rfl, rfl⟩
    have hc := (Below.refl w4.heap.size w4).alloc (Nat.le_refl _) (.cells (ints [4]).toArray 36)
    have HB4 : Hid (Below W.heap.size W (w4.alloc (.cells (ints [4]).toArray 36))) := HB2.out.trans (hc.mono HB2.out.size)
    have HSM := Lib.hid (same_same (w4.alloc (.cells (ints [4]).toArray 36)) (HO2.out.below hc) (ao_new w4 [4] (by decide)).ar (by decide))
    have HM4 := Lib.hid (HM2.out.below hc)
    clear hc HO2 HM2 HB2 HTN
    go_wp2_with fail
    refine HSM.out.mono ?_
    rintro x w5 ⟨rfl, hb5⟩
    have HB5 := Lib.hid (HB4.out.trans (hb5.mono HB4.out.size))
    have HM5 := Lib.hid (HM4.out.below hb5)
    clear hb5 HB4 HM4 HSM
    go_wp2_with fail
    refine (HTM.out w5).mono ?_
    rintro x w6 ⟨rfl, rfl⟩
    clear HTM
    obtain ⟨A, C, rfl, hC1, hC2⟩ := HM5.out.shape
    obtain ⟨b, o, rfl, _, hcc⟩ := HM5.out.cells (by simp)
    have d0 : w6.cell? ⟨b, o, none⟩ = some (.int .i64 q) := hcc 0 (by simp)
    clear hcc HM5 hC1 hC2
    rcases HQ2.out with rfl | rfl
    all_goals
      clear HQ2
      go_wp2_with fail
      refine (HA.out _).mono ?_
      rintro x w7 ⟨rfl, hb⟩
      have HB7 := Lib.hid (HB5.out.trans (hb.mono HB5.out.size))
      clear hb HB5 HA
      go_wp2_with fail
      go_ret
      exact ⟨rfl, HB7.out⟩
  | false =>
    obtain ⟨e1, e2⟩ := ends_no ht
    rw [ht] at HT
    obtain ⟨f, hf⟩ : ∃ f, f = (stp s 6).2.2 := ⟨_, rfl⟩
    obtain ⟨g, hg⟩ : ∃ g, g = (stp s 5).2.2 := ⟨_, rfl⟩
    rw [← hf] at HS e1
    rw [← hg] at HR e2
    obtain ⟨n, hn⟩ : ∃ n, n = (stp s 6).1 := ⟨_, rfl⟩
    obtain ⟨m, hm⟩ : ∃ m, m = (stp s 5).1 := ⟨_, rfl⟩
    rw [← hn] at HS
    rw [← hm] at HR
    have g1 : (f != 0) = true := by simpa using e1
    have g2 : (g != 0) = true := by simpa using e2
    clear ht hn hm hf hg e1 e2
    go_enter Try.func9, Try.ntmps9
    go_wp2_with fail
    refine HS.out.mono ?_
    rintro x w1 ⟨v1, rfl, ho1, hb1⟩
    have HB1 := Lib.hid hb1
    clear hb1 ho1 HS
    go_wp2_with fail
    refine (HR.out w1).mono ?_
    rintro x w2 ⟨v2, rfl, ho2, hb2⟩
    have HB2 := Lib.hid (HB1.out.trans (hb2.mono HB1.out.size))
    clear hb2 ho2 HR HB1
    go_wp2_with fail
    refine (HT.out w2).mono ?_
    rintro x w3 ⟨rfl, rfl⟩
    clear HT
    go_wp2_with fail
    refine (HA.out _).mono ?_
    rintro x w7 ⟨rfl, hb⟩
    have HB7 := Lib.hid (HB2.out.trans (hb.mono HB2.out.size))
    clear hb HB2 HA
    go_wp2_with fail
    go_ret
    exact ⟨rfl, HB7.out⟩
theorem own : ownKnob Try.prog.godebug = none := by kernel_rfl
theorem laidOut : laidOutB Try.prog = true := by kernel_rfl
set_option maxRecDepth 100000 in
theorem lifted (os : Os) (started : os.Started) (H : Type) (enc : TypeId × Value → H) :
    ReturnsInHanded {} Try.checked os 9 .any (Rows.fsmEndsSpec.pre6 enc Try.prog Try.f9 Rows.fsmEndsRow.domain false) (Rows.fsmEndsSpec.post enc Try.prog Try.f9 false true false false) := by
  refine returnsInHanded_of_change (C := Try.checked) own started (by kernel_rfl) Try.func9
    (ChangeSpec.witness6 (enc := enc) (C := Try.checked) false ⟨#[], #[.int .i64 0], []⟩ 8 (by kernel_rfl) (by kernel_rfl) (by kernel_rfl) (by kernel_rfl)) ?_
  intro W base args ds gs before hval0 hW hcnd _
  have hval : ∀ (j : Nat) t v, Try.f9.params[j]? = some t → args[j]? = some v → Value.okWide Try.prog W .any base t v := hval0
  have hW' := hW
  obtain ⟨p, q, hA0, hV, rfl, hfz, hnd⟩ := hW
  have hA : DataW.TrodAll enc Try.prog W 0 (fun _ => true) true Try.f9.params.toList args.toList ds p := hA0
  rw [Try.params9] at hA hval
  obtain ⟨v0, vs0, d0, ds0, p0, q0, hargs, rfl, rfl, h0, r0⟩ := trodAll_cons hA
  obtain ⟨rfl, rfl, rfl⟩ := trodAll_nil r0
  obtain rfl : args = #[v0] := by cases args; simp_all
  obtain ⟨rfl, rfl⟩ := trodVars_none hV
  have k0 := h0
  have lt0 : ∀ x ∈ p0, x.block < W.heap.size := by obtain ⟨m, hm⟩ := k0; exact DataW.trod_lt m _ _ _ hm
  obtain ⟨a0, rfl, rfl, rfl, w0⟩ := open_int Try.underlying22 (hval 0 22 v0 rfl rfl) h0
  clear hA0 hval0
  refine (walk W a0 w0).mono fun e W' ⟨he, bel⟩ => ?_
  subst he
  exact ⟨_, rfl, _, _, _, [], _, [], hW', trodAll_mk1 (shut_bool Try.underlying4 _), (trodAll_cons_mk (Below.trod laidOut (by kernel_rfl) (of_decide_eq_true (by kernel_rfl)) k0 bel lt0) trodAll_mk0), rfl, bel.frame _, fun h => by cases h⟩
theorem over : Rows.fsmEndsRow.holds Try.pinned (OpenSpec.ofChange Rows.fsmEndsSpec) :=
  OpenClaim.holds_of_wide 9 Try.f9 rfl rfl rfl rfl rfl rfl rfl ⟨rfl, rfl, rfl, rfl, rfl⟩ rfl rfl rfl rfl rfl (by kernel_rfl) Try.func9 (by kernel_rfl)
    (of_decide_eq_true (by kernel_rfl)) (by unfold Func.isWrapper; first | (rw [if_pos (by decide +kernel)]; kernel_rfl) | (rw [if_neg (by decide +kernel)]; exact ⟨rfl, rfl⟩))
    (fun os started H enc _ => lifted os started H enc)
/-- The statement. -/
theorem proved : Rows.FsmEndsSaid := over
end Go.Proofs.Ytmhiajjnkcneoaa.fsmEnds
