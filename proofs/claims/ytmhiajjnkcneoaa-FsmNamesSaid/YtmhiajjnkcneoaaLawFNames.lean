/-
  The names of any state, event and action, the state of any name (its first fifty bytes), and where the timer is needed: ours and the document's answers are the same (conciergelaw14.FsmNames answers true). No condition.
-/
import Derived.Test.YtmhiajjnkcneoaaFsO
import Derived.Test.YtmhiajjnkcneoaaFsH
import Derived.Test.YtmhiajjnkcneoaaOpenE
import Derived.ProofKit
import Derived.OpenShut
import Derived.ShutString
import Derived.ChangeOld
import Derived.Deep.Cut
namespace Go.Proofs.Ytmhiajjnkcneoaa.fsmNames
open Go.ChangeShapes Go.WideShapes Go.ChangeAt Go.RowKit
open Go.Proofs.Ytmhiajjnkcneoaa.Fs
open Go.ChangeMaps (open_string shut_string)
set_option linter.unusedVariables false
set_option linter.unusedSimpArgs false

set_option maxRecDepth 20000 in
set_option maxHeartbeats 8000000 in
theorem walk (W : World) (s : Int) (ws : (Lit.int .i64 s).wf = true) (e : Int) (we : (Lit.int .i64 e).wf = true) (a : Int) (wa : (Lit.int .i64 a).wf = true) (nam : ByteArray) (hs : nam.size ≤ maxLen) :
    Calls Try.prog 5 #[.int .i64 s, .int .i64 e, .int .i64 a, .string nam] W fun x w' => x = .returned (.bool true) ∧ Below W.heap.size W w' := by
  have HA := Lib.hid (fun w => awake_any w)
  have HT := Lib.hid (fun w => Timed_any s w)
  have HU := Lib.hid (fun w => rTimed_any s w)
  obtain ⟨b1, h1, _⟩ := tx_of (nm names s)
  obtain ⟨b2, h2, _⟩ := tx_of (nm evs e)
  obtain ⟨b3, h3, _⟩ := tx_of (nm acs a)
  have H1 : Hid (∀ w, Calls Try.prog 21 #[.int .i64 s] w fun x w' => x = .returned (.string b1) ∧ w' = w) := fun w => by have := Name_any s w; rwa [h1] at this
  have K1 : Hid (∀ w, Calls Try.prog 22 #[.int .i64 s] w fun x w' => x = .returned (.string b1) ∧ Below w.heap.size w w') := fun w => by have := rName_any s w; rwa [h1] at this
  have H2 : Hid (∀ w, Calls Try.prog 23 #[.int .i64 e] w fun x w' => x = .returned (.string b2) ∧ w' = w) := fun w => by have := EventName_any e w; rwa [h2] at this
  have K2 : Hid (∀ w, Calls Try.prog 24 #[.int .i64 e] w fun x w' => x = .returned (.string b2) ∧ Below w.heap.size w w') := fun w => by have := rEventName_any e w; rwa [h2] at this
  have H3 : Hid (∀ w, Calls Try.prog 25 #[.int .i64 a] w fun x w' => x = .returned (.string b3) ∧ w' = w) := fun w => by have := ActionName_any a w; rwa [h3] at this
  have K3 : Hid (∀ w, Calls Try.prog 26 #[.int .i64 a] w fun x w' => x = .returned (.string b3) ∧ Below w.heap.size w w') := fun w => by have := rActionName_any a w; rwa [h3] at this
  clear h1 h2 h3 ws we wa
  generalize timed s = tm at HT HU
  by_cases h50 : nam.size ≤ 50
  · have hn50 : ¬ 50 < (nam.size : Int) := by omega
    have HP := Lib.hid (fun w => Parse_any nam w)
    have HQ := Lib.hid (fun w => rParse_any nam w)
    generalize (prs (bl nam)).1 = p1 at HP HQ
    generalize (prs (bl nam)).2 = p2 at HP HQ
    clear h50 hs
    go_enter Try.func5, Try.ntmps5
    go_wp2_with fail
    refine (HP.out W).mono ?_
    rintro x w1 ⟨rfl, rfl⟩
    go_wp2_with fail
    refine (HQ.out w1).mono ?_
    rintro x w2 ⟨rfl, hb2⟩
    have HB2 := Lib.hid hb2
    clear hb2 HP HQ
    go_wp2_with fail
    refine (HT.out w2).mono ?_
    rintro x w3 ⟨rfl, rfl⟩
    go_wp2_with fail
    refine (HU.out w3).mono ?_
    rintro x w4 ⟨rfl, rfl⟩
    clear HT HU
    go_wp2_with fail
    refine (H1.out w4).mono ?_
    rintro x w5 ⟨rfl, rfl⟩
    go_wp2_with fail
    refine (K1.out w5).mono ?_
    rintro x w6 ⟨rfl, hb⟩
    have HB6 := Lib.hid (HB2.out.trans (hb.mono HB2.out.size))
    clear hb HB2 H1 K1
    go_wp2_with fail
    refine (H2.out w6).mono ?_
    rintro x w7 ⟨rfl, rfl⟩
    go_wp2_with fail
    refine (K2.out w7).mono ?_
    rintro x w8 ⟨rfl, hb⟩
    have HB8 := Lib.hid (HB6.out.trans (hb.mono HB6.out.size))
    clear hb HB6 H2 K2
    go_wp2_with fail
    refine (H3.out w8).mono ?_
    rintro x w9 ⟨rfl, rfl⟩
    go_wp2_with fail
    refine (K3.out w9).mono ?_
    rintro x w10 ⟨rfl, hb⟩
    have HB10 := Lib.hid (HB8.out.trans (hb.mono HB8.out.size))
    clear hb HB8 H3 K3
    go_wp2_with fail
    refine (HA.out w10).mono ?_
    rintro x w11 ⟨rfl, hb⟩
    have HB11 := Lib.hid (HB10.out.trans (hb.mono HB10.out.size))
    clear hb HB10 HA
    go_wp2_with fail
    go_ret
    exact ⟨rfl, HB11.out⟩
  · have hn50 : 50 < (nam.size : Int) := by omega
    have HP := Lib.hid (fun w => Parse_any (nam.extract 0 50) w)
    have HQ := Lib.hid (fun w => rParse_any (nam.extract 0 50) w)
    generalize (prs (bl (nam.extract 0 50))).1 = p1 at HP HQ
    generalize (prs (bl (nam.extract 0 50))).2 = p2 at HP HQ
    clear h50 hs
    go_enter Try.func5, Try.ntmps5
    go_wp2_with fail
    refine (HP.out W).mono ?_
    rintro x w1 ⟨rfl, rfl⟩
    go_wp2_with fail
    refine (HQ.out w1).mono ?_
    rintro x w2 ⟨rfl, hb2⟩
    have HB2 := Lib.hid hb2
    clear hb2 HP HQ
    go_wp2_with fail
    refine (HT.out w2).mono ?_
    rintro x w3 ⟨rfl, rfl⟩
    go_wp2_with fail
    refine (HU.out w3).mono ?_
    rintro x w4 ⟨rfl, rfl⟩
    clear HT HU
    go_wp2_with fail
    refine (H1.out w4).mono ?_
    rintro x w5 ⟨rfl, rfl⟩
    go_wp2_with fail
    refine (K1.out w5).mono ?_
    rintro x w6 ⟨rfl, hb⟩
    have HB6 := Lib.hid (HB2.out.trans (hb.mono HB2.out.size))
    clear hb HB2 H1 K1
    go_wp2_with fail
    refine (H2.out w6).mono ?_
    rintro x w7 ⟨rfl, rfl⟩
    go_wp2_with fail
    refine (K2.out w7).mono ?_
    rintro x w8 ⟨rfl, hb⟩
    have HB8 := Lib.hid (HB6.out.trans (hb.mono HB6.out.size))
    clear hb HB6 H2 K2
    go_wp2_with fail
    refine (H3.out w8).mono ?_
    rintro x w9 ⟨rfl, rfl⟩
    go_wp2_with fail
    refine (K3.out w9).mono ?_
    rintro x w10 ⟨rfl, hb⟩
    have HB10 := Lib.hid (HB8.out.trans (hb.mono HB8.out.size))
    clear hb HB8 H3 K3
    go_wp2_with fail
    refine (HA.out w10).mono ?_
    rintro x w11 ⟨rfl, hb⟩
    have HB11 := Lib.hid (HB10.out.trans (hb.mono HB10.out.size))
    clear hb HB10 HA
    go_wp2_with fail
    go_ret
    exact ⟨rfl, HB11.out⟩
theorem own : ownKnob Try.prog.godebug = none := by kernel_rfl
theorem laidOut : laidOutB Try.prog = true := by kernel_rfl
set_option maxRecDepth 100000 in
theorem lifted (os : Os) (started : os.Started) (H : Type) (enc : TypeId × Value → H) :
    ReturnsInHanded {} Try.checked os 5 .any (Rows.fsmNamesSpec.pre6 enc Try.prog Try.f5 Rows.fsmNamesRow.domain false) (Rows.fsmNamesSpec.post enc Try.prog Try.f5 false true false false) := by
  refine returnsInHanded_of_change (C := Try.checked) own started (by kernel_rfl) Try.func5
    (ChangeSpec.witness6 (enc := enc) (C := Try.checked) false ⟨#[], #[.int .i64 0, .int .i64 0, .int .i64 0, .string ⟨#[]⟩], []⟩ 8 (by kernel_rfl) (by kernel_rfl) (by kernel_rfl) (by kernel_rfl)) ?_
  intro W base args ds gs before hval0 hW hcnd _
  have hval : ∀ (j : Nat) t v, Try.f5.params[j]? = some t → args[j]? = some v → Value.okWide Try.prog W .any base t v := hval0
  have hW' := hW
  obtain ⟨p, q, hA0, hV, rfl, hfz, hnd⟩ := hW
  have hA : DataW.TrodAll enc Try.prog W 0 (fun _ => true) true Try.f5.params.toList args.toList ds p := hA0
  rw [Try.params5] at hA hval
  obtain ⟨v0, vs0, d0, ds0, p0, q0, hargs, rfl, rfl, h0, r0⟩ := trodAll_cons hA
  obtain ⟨v1, vs1, d1, ds1, p1, q1, rfl, rfl, rfl, h1, r1⟩ := trodAll_cons r0
  obtain ⟨v2, vs2, d2, ds2, p2, q2, rfl, rfl, rfl, h2, r2⟩ := trodAll_cons r1
  obtain ⟨v3, vs3, d3, ds3, p3, q3, rfl, rfl, rfl, h3, r3⟩ := trodAll_cons r2
  obtain ⟨rfl, rfl, rfl⟩ := trodAll_nil r3
  obtain rfl : args = #[v0, v1, v2, v3] := by cases args; simp_all
  obtain ⟨rfl, rfl⟩ := trodVars_none hV
  have k0 := h0
  have lt0 : ∀ x ∈ p0, x.block < W.heap.size := by obtain ⟨m, hm⟩ := k0; exact DataW.trod_lt m _ _ _ hm
  obtain ⟨a0, rfl, rfl, rfl, w0⟩ := open_int Try.underlying22 (hval 0 22 v0 rfl rfl) h0
  have k1 := h1
  have lt1 : ∀ x ∈ p1, x.block < W.heap.size := by obtain ⟨m, hm⟩ := k1; exact DataW.trod_lt m _ _ _ hm
  obtain ⟨a1, rfl, rfl, rfl, w1⟩ := open_int Try.underlying23 (hval 1 23 v1 rfl rfl) h1
  have k2 := h2
  have lt2 : ∀ x ∈ p2, x.block < W.heap.size := by obtain ⟨m, hm⟩ := k2; exact DataW.trod_lt m _ _ _ hm
  obtain ⟨a2, rfl, rfl, rfl, w2⟩ := open_int Try.underlying36 (hval 2 36 v2 rfl rfl) h2
  have k3 := h3
  have lt3 : ∀ x ∈ p3, x.block < W.heap.size := by obtain ⟨m, hm⟩ := k3; exact DataW.trod_lt m _ _ _ hm
  obtain ⟨s3, rfl, rfl, rfl, hs3⟩ := open_string Try.underlying9 (hval 3 9 v3 rfl rfl) h3
  clear hA0 hval0
  refine (walk W a0 w0 a1 w1 a2 w2 s3 hs3).mono fun e W' ⟨he, bel⟩ => ?_
  subst he
  exact ⟨_, rfl, _, _, _, [], _, [], hW', trodAll_mk1 (shut_bool Try.underlying4 _), (trodAll_cons_mk (Below.trod laidOut (by kernel_rfl) (of_decide_eq_true (by kernel_rfl)) k0 bel lt0) (trodAll_cons_mk (Below.trod laidOut (by kernel_rfl) (of_decide_eq_true (by kernel_rfl)) k1 bel lt1) (trodAll_cons_mk (Below.trod laidOut (by kernel_rfl) (of_decide_eq_true (by kernel_rfl)) k2 bel lt2) (trodAll_cons_mk (Below.trod laidOut (by kernel_rfl) (of_decide_eq_true (by kernel_rfl)) k3 bel lt3) trodAll_mk0)))), rfl, bel.frame _, fun h => by cases h⟩
theorem over : Rows.fsmNamesRow.holds Try.pinned (OpenSpec.ofChange Rows.fsmNamesSpec) :=
  OpenClaim.holds_of_wide 5 Try.f5 rfl rfl rfl rfl rfl rfl rfl ⟨rfl, rfl, rfl, rfl, rfl⟩ rfl rfl rfl rfl rfl (by kernel_rfl) Try.func5 (by kernel_rfl)
    (of_decide_eq_true (by kernel_rfl)) (by unfold Func.isWrapper; first | (rw [if_pos (by decide +kernel)]; kernel_rfl) | (rw [if_neg (by decide +kernel)]; exact ⟨rfl, rfl⟩))
    (fun os started H enc _ => lifted os started H enc)
/-- The statement. -/
theorem proved : Rows.FsmNamesSaid := over
end Go.Proofs.Ytmhiajjnkcneoaa.fsmNames
