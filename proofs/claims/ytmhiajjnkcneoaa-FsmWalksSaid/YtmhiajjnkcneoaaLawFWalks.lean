/-
  Along any events (the first 60), from any state, ours and the document's Walk tell the same (conciergelaw14.FsmWalks answers true). No condition.
-/
import Derived.Test.YtmhiajjnkcneoaaFsO
import Derived.Test.YtmhiajjnkcneoaaFsH
import Derived.Test.YtmhiajjnkcneoaaOpenE
import Derived.ProofKit
import Derived.OpenShut
import Derived.ChangeOld
import Derived.Deep.Cut
namespace Go.Proofs.Ytmhiajjnkcneoaa.fsmWalks
open Go.ChangeShapes Go.WideShapes Go.ChangeAt Go.RowKit
open Go.Proofs.Ytmhiajjnkcneoaa.Fs
set_option linter.unusedVariables false
set_option linter.unusedSimpArgs false
theorem infoE : (Try.prog.info? 23).map (fun i => (i.zero, i.size, i.bytes)) = some (some (.int .i64 0), 1, 8) := by kernel_rfl
theorem few (s : Int) (es : List Int) (h : es.length ≤ 60) : (wlk s es).2.1.length ≤ 180 := by
  unfold wlk
  split
  · have := run_short es s; omega
  · simp
/-- The events that the law looks at. -/
theorem cut_events {W : World} {a : Option Addr} {n c : Nat} {l : List Int} (hn : l.length = n) (h : Rd W 1 (.slice a n c) n (l.map (Value.int .i64))) (h60 : 60 < n) :
    ∃ ao, (∀ w', (Instr.slice 31 (.slice a n c) none (some (.int .i64 60)) none).run Try.prog w' = .ok (.slice ao 60 c) w') ∧ AR W (.slice ao 60 c) (l.take 60) ∧ (l.take 60).length = 60 := by
  obtain ⟨i0, hi, hz0, hz1, hz2⟩ := info_parts infoE
  obtain ⟨ao, h1, h2⟩ := slice_upto Try.underlying31 hi hz1 h .i64 60 60 rfl (by omega)
  have hl : (l.take 60).length = 60 := by rw [List.length_take]; omega
  refine ⟨ao, h1, ?_, hl⟩
  unfold AR ints
  rw [hl, List.map_take]
  exact h2
set_option maxRecDepth 20000 in
set_option maxHeartbeats 8000000 in
theorem walk (W : World) (s : Int) (ws : (Lit.int .i64 s).wf = true) (a : Option Addr) (n c : Nat) (l : List Int) (hn : l.length = n) (h : Rd W 1 (.slice a n c) n (l.map (Value.int .i64))) :
    Calls Try.prog 4 #[.int .i64 s, .slice a n c] W fun x w' => x = .returned (.bool true) ∧ Below W.heap.size W w' := by
  have HA := Lib.hid (fun w => awake_any w)
  clear ws
  by_cases h60 : n ≤ 60
  · have HE : Hid (AR W (.slice a n c) l) := by unfold Hid AR; rw [hn]; exact h
    have HL : Hid (l.length ≤ 60) := by show _ ≤ _; omega
    have hcm : n ≤ c ∧ c ≤ maxLen := by
      obtain ⟨_, _, e0, h1, h2⟩ := h.shape
      simp only [Value.slice.injEq] at e0
      obtain ⟨_, _, rfl⟩ := e0
      exact ⟨h1, h2⟩
    have hn60 : ¬ 60 < (n : Int) := by omega
    clear h hn h60 hcm
    obtain ⟨es, hes⟩ : ∃ es, es = l := ⟨_, rfl⟩
    rw [← hes] at HE HL
    clear hes
    have HW := Lib.hid (Walk_any s _ es W HE.out HL.out)
    have HR := Lib.hid (fun w hb => rWalk_any s _ es w (HE.out.below hb) HL.out)
    have HF := Lib.hid (few s es HL.out)
    clear HE HL
    go_enter Try.func4, Try.ntmps4
    go_wp2_with fail
    refine HW.out.mono ?_
    rintro x w1 ⟨v1, rfl, ho1, hb1⟩
    have HB1 := Lib.hid hb1
    have HO1 := Lib.hid ho1
    clear hb1 ho1 HW
    go_wp2_with fail
    refine (HR.out w1 HB1.out).mono ?_
    rintro x w2 ⟨v2, rfl, ho2, hb2⟩
    have HB2 := Lib.hid (HB1.out.trans (hb2.mono HB1.out.size))
    have HM := Lib.hid (same_same w2 (HO1.out.ar.below hb2) ho2.ar (by have := HF.out; omega))
    clear hb2 ho2 HR HB1 HO1
    go_wp2_with fail
    refine HM.out.mono ?_
    rintro x w3 ⟨rfl, hb3⟩
    have HB3 := Lib.hid (HB2.out.trans (hb3.mono HB2.out.size))
    clear hb3 HM HB2
    go_wp2_with fail
    refine (HA.out w3).mono ?_
    rintro x w4 ⟨rfl, hb4⟩
    have HB4 := Lib.hid (HB3.out.trans (hb4.mono HB3.out.size))
    clear hb4 HB3 HA
    go_wp2_with fail
    go_ret
    exact ⟨rfl, HB4.out⟩
  · obtain ⟨ao, hs60, he, hl⟩ := cut_events hn h (by omega)
    have HE := Lib.hid he
    have HL : Hid ((l.take 60).length ≤ 60) := by show _ ≤ _; omega
    have hn60 : 60 < (n : Int) := by omega
    clear h hn h60 he hl
    obtain ⟨es, hes⟩ : ∃ es, es = l.take 60 := ⟨_, rfl⟩
    rw [← hes] at HE HL
    clear hes
    have HW := Lib.hid (Walk_any s _ es W HE.out HL.out)
    have HR := Lib.hid (fun w hb => rWalk_any s _ es w (HE.out.below hb) HL.out)
    have HF := Lib.hid (few s es HL.out)
    clear HE HL
    go_enter Try.func4, Try.ntmps4
    go_wp2_with fail
    refine HW.out.mono ?_
    rintro x w1 ⟨v1, rfl, ho1, hb1⟩
    have HB1 := Lib.hid hb1
    have HO1 := Lib.hid ho1
    clear hb1 ho1 HW
    go_wp2_with fail
    refine (HR.out w1 HB1.out).mono ?_
    rintro x w2 ⟨v2, rfl, ho2, hb2⟩
    have HB2 := Lib.hid (HB1.out.trans (hb2.mono HB1.out.size))
    have HM := Lib.hid (same_same w2 (HO1.out.ar.below hb2) ho2.ar (by have := HF.out; omega))
    clear hb2 ho2 HR HB1 HO1
    go_wp2_with fail
    refine HM.out.mono ?_
    rintro x w3 ⟨rfl, hb3⟩
    have HB3 := Lib.hid (HB2.out.trans (hb3.mono HB2.out.size))
    clear hb3 HM HB2
    go_wp2_with fail
    refine (HA.out w3).mono ?_
    rintro x w4 ⟨rfl, hb4⟩
    have HB4 := Lib.hid (HB3.out.trans (hb4.mono HB3.out.size))
    clear hb4 HB3 HA
    go_wp2_with fail
    go_ret
    exact ⟨rfl, HB4.out⟩
theorem own : ownKnob Try.prog.godebug = none := by kernel_rfl
theorem laidOut : laidOutB Try.prog = true := by kernel_rfl
set_option maxRecDepth 100000 in
theorem lifted (os : Os) (started : os.Started) (H : Type) (enc : TypeId × Value → H) :
    ReturnsInHanded {} Try.checked os 4 .any (Rows.fsmWalksSpec.pre6 enc Try.prog Try.f4 Rows.fsmWalksRow.domain false) (Rows.fsmWalksSpec.post enc Try.prog Try.f4 false true false false) := by
  refine returnsInHanded_of_change (C := Try.checked) own started (by kernel_rfl) Try.func4
    (ChangeSpec.witness6 (enc := enc) (C := Try.checked) false ⟨#[], #[.int .i64 0, .slice none 0 0], []⟩ 8 (by kernel_rfl) (by kernel_rfl) (by kernel_rfl) (by kernel_rfl)) ?_
  intro W base args ds gs before hval0 hW hcnd _
  have hval : ∀ (j : Nat) t v, Try.f4.params[j]? = some t → args[j]? = some v → Value.okWide Try.prog W .any base t v := hval0
  have hW' := hW
  obtain ⟨p, q, hA0, hV, rfl, hfz, hnd⟩ := hW
  have hA : DataW.TrodAll enc Try.prog W 0 (fun _ => true) true Try.f4.params.toList args.toList ds p := hA0
  rw [Try.params4] at hA hval
  obtain ⟨v0, vs0, d0, ds0, p0, q0, hargs, rfl, rfl, h0, r0⟩ := trodAll_cons hA
  obtain ⟨v1, vs1, d1, ds1, p1, q1, rfl, rfl, rfl, h1, r1⟩ := trodAll_cons r0
  obtain ⟨rfl, rfl, rfl⟩ := trodAll_nil r1
  obtain rfl : args = #[v0, v1] := by cases args; simp_all
  obtain ⟨rfl, rfl⟩ := trodVars_none hV
  have k0 := h0
  have lt0 : ∀ x ∈ p0, x.block < W.heap.size := by obtain ⟨m, hm⟩ := k0; exact DataW.trod_lt m _ _ _ hm
  obtain ⟨a0, rfl, rfl, rfl, w0⟩ := open_int Try.underlying22 (hval 0 22 v0 rfl rfl) h0
  have k1 := h1
  have lt1 : ∀ x ∈ p1, x.block < W.heap.size := by obtain ⟨m, hm⟩ := k1; exact DataW.trod_lt m _ _ _ hm
  obtain ⟨a1, n1, c1, l1, rfl, hn1, b1⟩ := open_introw Try.underlying31 Try.underlying23 (by kernel_rfl) (hval 1 31 v1 rfl rfl) h1
  clear hA0 hval0
  refine (walk W a0 w0 a1 n1 c1 l1 hn1 b1).mono fun e W' ⟨he, bel⟩ => ?_
  subst he
  exact ⟨_, rfl, _, _, _, [], _, [], hW', trodAll_mk1 (shut_bool Try.underlying4 _), (trodAll_cons_mk (Below.trod laidOut (by kernel_rfl) (of_decide_eq_true (by kernel_rfl)) k0 bel lt0) (trodAll_cons_mk (Below.trod laidOut (by kernel_rfl) (of_decide_eq_true (by kernel_rfl)) k1 bel lt1) trodAll_mk0)), rfl, bel.frame _, fun h => by cases h⟩
theorem over : Rows.fsmWalksRow.holds Try.pinned (OpenSpec.ofChange Rows.fsmWalksSpec) :=
  OpenClaim.holds_of_wide 4 Try.f4 rfl rfl rfl rfl rfl rfl rfl ⟨rfl, rfl, rfl, rfl, rfl⟩ rfl rfl rfl rfl rfl (by kernel_rfl) Try.func4 (by kernel_rfl)
    (of_decide_eq_true (by kernel_rfl)) (by unfold Func.isWrapper; first | (rw [if_pos (by decide +kernel)]; kernel_rfl) | (rw [if_neg (by decide +kernel)]; exact ⟨rfl, rfl⟩))
    (fun os started H enc _ => lifted os started H enc)
/-- The statement. -/
theorem proved : Rows.FsmWalksSaid := over
end Go.Proofs.Ytmhiajjnkcneoaa.fsmWalks
