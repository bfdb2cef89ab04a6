/-
  What any calls make of any numbers (the first 60), and how these stand behind each, is what the document's answer makes of them (conciergelaw11.IdsRuns answers true). No condition.
-/
import Derived.Test.YtpafcabcnkmadaaIdDn
import Derived.Test.YtpafcabcnkmadaaOpenI
import Derived.ProofKit
import Derived.OpenShut
import Derived.ChangeOld
namespace Go.Proofs.Ytpafcabcnkmadaa.idsRuns
open Go.ChangeShapes Go.WideShapes Go.ChangeAt Go.RowKit
open Go.Proofs.Ytpafcabcnkmadaa.Id
set_option linter.unusedVariables false
set_option linter.unusedSimpArgs false

set_option maxRecDepth 20000 in
set_option maxHeartbeats 8000000 in
theorem walk (W : World) (lo : Int) (w0 : (Lit.int .i64 lo).wf = true) (hi : Int) (w1 : (Lit.int .i64 hi).wf = true) (q : Int) (w2 : (Lit.int .i64 q).wf = true) (a3 : Option Addr) (n3 c3 : Nat) (qs : List Oq) (hq : OqR W (.slice a3 n3 c3) n3 qs) :
    Calls Try.prog 3 #[.int .i64 lo, .int .i64 hi, .int .i64 q, .slice a3 n3 c3] W fun e w' => e = .returned (.bool true) ∧ Below W.heap.size W w' := by
  have HA := Lib.hid (fun w => awake_any w)
  have HQ := Lib.hid hq
  have HQL := Lib.hid hq.len
  have hn63 : (n3 : Int) ≤ 9223372036854775807 := by
    obtain ⟨b, c, es0, hcc, hcm⟩ := hq.rd.shape
    simp only [Value.slice.injEq] at es0
    obtain ⟨_, _, rfl⟩ := es0
    unfold maxLen at hcm
    omega
  have HN63 := Lib.hid hn63
  clear w0 w1 w2 hq hn63
  go_enter Try.func3, Try.ntmps3
  go_wp2_with fail
  refine (HA.out _).mono ?_
  rintro e w1 ⟨rfl, hb⟩
  have HB := Lib.hid hb
  clear hb HA
  go_wp2_with fail
  refine (begin_any W lo hi q _ HB.out).mono ?_
  rintro e w2 (⟨_, rfl, hb⟩ | ⟨hok, gb, rfl, g, gd, m, rv, hbg⟩)
  · have HB2 := Lib.hid hb
    clear hb
    go_wp2
    go_ret
    exact ⟨rfl, HB2.out⟩
  obtain ⟨F, hF⟩ : ∃ F, F = few lo hi := ⟨_, rfl⟩
  have hfle := few_le hok
  rw [← hF] at hok hbg hfle
  have HF : Hid (F - lo ≤ 12) := by show _ ≤ _; omega
  have HPS : Hid (BX W w2 gb lo F) := ⟨g, gd, m, rv, _, _, _, rfl, rfl, BR.of hbg⟩
  have HLOW : Hid (∀ w', BX W w' gb lo F → Below W.heap.size W w') := fun w' ⟨g, gd, m, rv, uv, ev, S, _, _, h⟩ => h.la.low
  clear hF hfle hok hbg HB
  go_wp2_with fail
  go_loopw [11] (fun iv wr => ∃ (i : Nat), i ≤ n3 ∧ i ≤ 60 ∧ iv = .int .i64 (i : Int) ∧ BX W wr gb lo F) (fun iv _ => n3 - (intOf iv).toNat)
  case atStart => exact ⟨0, Nat.zero_le _, Nat.zero_le _, rfl, HPS.out⟩
  case round =>
    clear HPS
    have h63 := HN63.out
    obtain ⟨i, hin, hi60, rfl, hps⟩ := hrel
    have HPS := Lib.hid hps
    clear hps
    by_cases hlt : i < n3
    · by_cases hl60 : i < 60
      · have hil : i < qs.length := by rw [HQL.out]; exact hlt
        obtain ⟨b, o, ea, hbl, hcel⟩ := HQ.out.cells (by omega)
        subst ea
        obtain ⟨⟨kd, id, x⟩, hqe⟩ : ∃ q : Oq, q = qs[i] := ⟨_, rfl⟩
        have hcc := hcel i hil
        rw [← hqe] at hcc
        obtain ⟨hc0, hc1, hc2⟩ := hcc
        have HC0 : Hid (∀ w' : World, Below W.heap.size W w' → w'.cell? ⟨b, o + i * 3, none⟩ = some (.int .i64 kd) ∧ w'.cell? ⟨b, o + i * 3 + 1, none⟩ = some (.int .i64 id) ∧ w'.cell? ⟨b, o + i * 3 + 2, none⟩ = some (.int .i64 x)) := fun w' hw => ⟨cell_gr hw hc0, cell_gr hw hc1, cell_gr hw hc2⟩
        clear hil hbl hcel hqe hc0 hc1 hc2
        have HST : Hid (∀ w', Gr wr w' → Calls Try.prog 11 #[.pointer (some ⟨gb, 0, none⟩), .agg #[.int .i64 kd, .int .i64 id, .int .i64 x]] w' fun e wn => e = .returned (.bool true) ∧ BX W wn gb lo F) := fun w' hw' => step_any kd id x w' (HPS.out.gr hw') HF.out
        have hle : i + 1 ≤ n3 := by omega
        have hle60 : i + 1 ≤ 60 := by omega
        obtain ⟨c0, c1, c2⟩ := HC0.out _ (HLOW.out _ HPS.out)
        go_wp2_with fail
        refine (HST.out wr (Gr.refl wr)).mono ?_
        rintro e w3 ⟨rfl, hx3⟩
        have HX3 := Lib.hid hx3
        clear hx3 HPS c0 c1 c2
        go_wp2_with fail
        refine (same_any w3 HX3.out HF.out).mono ?_
        rintro e w4 ⟨rfl, hx4⟩
        have HX4 := Lib.hid hx4
        clear hx4 HX3
        go_wp2_with fail
        go_roundw
        case rel =>
          first
            | exact ⟨i + 1, hle, hle60, by go_num, HX4.out⟩
            | ((repeat apply Exists.intro); exact ⟨⟨i + 1, hle, hle60, by go_num, HX4.out⟩, rfl⟩)
        case measure => simp [intOf]; omega
      · go_wp2_with fail
        go_ret
        exact ⟨rfl, HLOW.out _ HPS.out⟩
    · go_wp2_with fail
      go_ret
      exact ⟨rfl, HLOW.out _ HPS.out⟩
theorem own : ownKnob Try.prog.godebug = none := by kernel_rfl
theorem laidOut : laidOutB Try.prog = true := by kernel_rfl
set_option maxRecDepth 100000 in
theorem lifted (os : Os) (started : os.Started) (H : Type) (enc : TypeId × Value → H) :
    ReturnsInHanded {} Try.checked os 3 .any (Rows.idsRunsSpec.pre6 enc Try.prog Try.f3 Rows.idsRunsRow.domain false) (Rows.idsRunsSpec.post enc Try.prog Try.f3 false true false false) := by
  refine returnsInHanded_of_change (C := Try.checked) own started (by kernel_rfl) Try.func3
    (ChangeSpec.witness6 (enc := enc) (C := Try.checked) false ⟨#[], #[.int .i64 0, .int .i64 0, .int .i64 0, .slice none 0 0], []⟩ 8 (by kernel_rfl) (by kernel_rfl) (by kernel_rfl) (by kernel_rfl)) ?_
  intro W base args ds gs before hval0 hW hcnd _
  have hval : ∀ (j : Nat) t v, Try.f3.params[j]? = some t → args[j]? = some v → Value.okWide Try.prog W .any base t v := hval0
  have hW' := hW
  obtain ⟨p, q, hA0, hV, rfl, hfz, hnd⟩ := hW
  have hA : DataW.TrodAll enc Try.prog W 0 (fun _ => true) true Try.f3.params.toList args.toList ds p := hA0
  rw [Try.params3] at hA hval
  obtain ⟨v0, vs0, d0, ds0, p0, q0, hargs, rfl, rfl, h0, r0⟩ := trodAll_cons hA
  obtain ⟨v1, vs1, d1, ds1, p1, q1, rfl, rfl, rfl, h1, r1⟩ := trodAll_cons r0
  obtain ⟨v2, vs2, d2, ds2, p2, q2, rfl, rfl, rfl, h2, r2⟩ := trodAll_cons r1
  obtain ⟨v3, vs3, d3, ds3, p3, q3, rfl, rfl, rfl, h3, r3⟩ := trodAll_cons r2
  obtain ⟨rfl, rfl, rfl⟩ := trodAll_nil r3
  obtain rfl : args = #[v0, v1, v2, v3] := by cases args; simp_all
  obtain ⟨rfl, rfl⟩ := trodVars_none hV
  have k0 := h0
  have lt0 : ∀ x ∈ p0, x.block < W.heap.size := by obtain ⟨m, hm⟩ := k0; exact DataW.trod_lt m _ _ _ hm
  obtain ⟨a0, rfl, rfl, rfl, w0⟩ := open_int Try.underlying3 (hval 0 3 v0 rfl rfl) h0
  have k1 := h1
  have lt1 : ∀ x ∈ p1, x.block < W.heap.size := by obtain ⟨m, hm⟩ := k1; exact DataW.trod_lt m _ _ _ hm
  obtain ⟨a1, rfl, rfl, rfl, w1⟩ := open_int Try.underlying3 (hval 1 3 v1 rfl rfl) h1
  have k2 := h2
  have lt2 : ∀ x ∈ p2, x.block < W.heap.size := by obtain ⟨m, hm⟩ := k2; exact DataW.trod_lt m _ _ _ hm
  obtain ⟨a2, rfl, rfl, rfl, w2⟩ := open_int Try.underlying3 (hval 2 3 v2 rfl rfl) h2
  have k3 := h3
  have lt3 : ∀ x ∈ p3, x.block < W.heap.size := by obtain ⟨m, hm⟩ := k3; exact DataW.trod_lt m _ _ _ hm
  obtain ⟨a3, n3, c3, qs3, rfl, b3⟩ := open_ops Try.underlying22 Try.underlying29 ⟨rfl, rfl, rfl⟩ Try.underlying3 Try.underlying3 Try.underlying3 ⟨by kernel_rfl, by kernel_rfl, by kernel_rfl, by kernel_rfl⟩ (hval 3 22 v3 rfl rfl) h3
  clear hA0 hval0
  refine (walk W a0 w0 a1 w1 a2 w2 a3 n3 c3 qs3 b3).mono fun e W' ⟨he, bel⟩ => ?_
  subst he
  exact ⟨_, rfl, _, _, _, [], _, [], hW', trodAll_mk1 (shut_bool Try.underlying4 _), (trodAll_cons_mk (Below.trod laidOut (by kernel_rfl) (of_decide_eq_true (by kernel_rfl)) k0 bel lt0) (trodAll_cons_mk (Below.trod laidOut (by kernel_rfl) (of_decide_eq_true (by kernel_rfl)) k1 bel lt1) (trodAll_cons_mk (Below.trod laidOut (by kernel_rfl) (of_decide_eq_true (by kernel_rfl)) k2 bel lt2) (trodAll_cons_mk (Below.trod laidOut (by kernel_rfl) (of_decide_eq_true (by kernel_rfl)) k3 bel lt3) trodAll_mk0)))), rfl, bel.frame _, fun h => by cases h⟩
theorem over : Rows.idsRunsRow.holds Try.pinned (OpenSpec.ofChange Rows.idsRunsSpec) :=
  OpenClaim.holds_of_wide 3 Try.f3 rfl rfl rfl rfl rfl rfl rfl ⟨rfl, rfl, rfl, rfl, rfl⟩ rfl rfl rfl rfl rfl (by kernel_rfl) Try.func3 (by kernel_rfl)
    (of_decide_eq_true (by kernel_rfl)) (by unfold Func.isWrapper; first | (rw [if_pos (by decide +kernel)]; kernel_rfl) | (rw [if_neg (by decide +kernel)]; exact ⟨rfl, rfl⟩))
    (fun os started H enc _ => lifted os started H enc)
/-- The statement. -/
theorem proved : Rows.IdsRunsSaid := over
end Go.Proofs.Ytpafcabcnkmadaa.idsRuns
