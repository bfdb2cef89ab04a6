/-
  For every rate, every bucket and any two ticks a bucket as of a tick behind another one is that as of the later one (conciergelaw10.BucketCuts answers true). No condition.
-/
import Derived.Test.YtblnglkjpnpmbaaBkA
import Derived.Test.YtblnglkjpnpmbaaBkC
import Derived.Test.YtblnglkjpnpmbaaBkD
import Derived.Test.YtblnglkjpnpmbaaOpenB
import Derived.ProofKit
import Derived.OpenShut
import Derived.ChangeOld
namespace Go.Proofs.Ytblnglkjpnpmbaa.bucketCuts
open Go.ChangeShapes Go.WideShapes Go.ChangeAt Go.RowKit
open Go.Proofs.Ytblnglkjpnpmbaa.Bk
set_option linter.unusedVariables false
set_option linter.unusedSimpArgs false

/-- Behind a call: what has grown by a new block. -/
theorem step {B g h : Nat} {W w w2 : World} {o p q : Obj} (hb : Below B W w) (hB : B ≤ W.heap.size) (h0 : w.heap[g]? = some o) (hc : Below w.heap.size w w2) : Below B W (w2.alloc q) ∧ (w2.alloc q).heap[g]? = some o ∧ (w2.alloc q).heap[w2.heap.size]? = some q :=
  ⟨(hb.trans (hc.mono (Nat.le_trans hB hb.size))).alloc (Nat.le_trans hB (Nat.le_trans hb.size hc.size)) _, heap_below (heap_below h0 hc) ((Below.refl _ _).alloc (Nat.le_refl _) _), heap_alloc_last _ _⟩
set_option maxHeartbeats 2000000 in
theorem walk (W : World) (re rm : Int) (wre : (Lit.int .i64 re).wf = true) (wrm : (Lit.int .i64 rm).wf = true) (k t : Int) (wk : (Lit.int .i64 k).wf = true) (wt : (Lit.int .i64 t).wf = true) (s : Int) (ws : (Lit.int .i64 s).wf = true) (u : Int) (wu : (Lit.int .i64 u).wf = true) :
    Calls Try.prog 5 #[.agg #[.int .i64 re, .int .i64 rm], .agg #[.int .i64 k, .int .i64 t], .int .i64 s, .int .i64 u] W fun e w' => e = .returned (.bool true) ∧ Below W.heap.size W w' := by
  have HB : Hid (Below W.heap.size W ((W.alloc (.cells #[.int .i64 re, .int .i64 rm] 23)).alloc (.cells #[.int .i64 k, .int .i64 t] 25))) := boxed_two _ _ _
  have HG0 : Hid (((W.alloc (.cells #[.int .i64 re, .int .i64 rm] 23)).alloc (.cells #[.int .i64 k, .int .i64 t] 25)).heap[W.heap.size]? = some (.cells #[.int .i64 re, .int .i64 rm] 23 (0, 0))) := boxed_0 _ _ _
  have HG1 : Hid (((W.alloc (.cells #[.int .i64 re, .int .i64 rm] 23)).alloc (.cells #[.int .i64 k, .int .i64 t] 25)).heap[W.heap.size + 1]? = some (.cells #[.int .i64 k, .int .i64 t] 25 (0, 0))) := boxed_1 _ _ _
  have HX := Lib.hid (fun w => at_any re rm k t s w)
  have HY := Lib.hid (fun x y w => at_any re rm x y u w)
  have HA := Lib.hid (fun w => awake_any w)
  have HE : ∀ (a b : Int) w, (binOp .eql 25 (.agg #[.int .i64 a, .int .i64 b]) (.agg #[.int .i64 a, .int .i64 b])).run Try.prog w = .ok (.bool true) w := fun a b w => by rw [eql_bk]; simp
  clear wre wrm wk wt ws wu
  by_cases h1 : okAt ⟨re, rm⟩ ⟨k, t⟩ s
  · have e1 : atE ⟨re, rm⟩ ⟨k, t⟩ s = 0 := if_pos h1
    obtain ⟨⟨T, s'⟩, hx⟩ : ∃ x, x = atB ⟨re, rm⟩ ⟨k, t⟩ s := ⟨_, rfl⟩
    rw [e1, ← hx] at HX
    have H1 := Lib.hid h1
    have HXX := Lib.hid hx
    clear e1 h1 hx
    go_enter Try.func5, Try.ntmps5
    go_wp2_with fail
    generalize ((W.alloc (.cells #[.int .i64 re, .int .i64 rm] 23)).alloc (.cells #[.int .i64 k, .int .i64 t] 25)) = w1 at HB HG0 HG1 ⊢
    refine (HX.out _).mono ?_
    rintro e w2 ⟨rfl, hb⟩
    obtain ⟨hb2, hg2, hn2⟩ := step (q := .cells #[.int .i64 T, .int .i64 s'] 25) (p := .cells #[] 0) (h := 0) HB.out (Nat.le_refl _) HG0.out hb
    have hm2 := (step (q := .cells #[.int .i64 T, .int .i64 s'] 25) (p := .cells #[] 0) (h := 0) HB.out (Nat.le_refl _) HG1.out hb).2.1
    have HB2 := Lib.hid hb2
    have HG02 := Lib.hid hg2
    have HG12 := Lib.hid hm2
    have HN2 := Lib.hid hn2
    clear hb hb2 hg2 hn2 hm2 HB HG0 HG1 HX
    go_upto_if 23 with fail
    generalize w2.alloc (.cells #[.int .i64 T, .int .i64 s'] 25) = w3 at HB2 HG02 HG12 HN2 ⊢
    obtain ⟨k0, k1⟩ := cells2 HG02.out
    obtain ⟨m0, m1⟩ := cells2 HN2.out
    have HY1 := Lib.hid (HY.out T s')
    have HY2 := Lib.hid (HY.out k t)
    obtain ⟨⟨a, b⟩, ha⟩ : ∃ x, x = atB ⟨re, rm⟩ ⟨T, s'⟩ u := ⟨_, rfl⟩
    obtain ⟨⟨c, d⟩, hc⟩ : ∃ x, x = atB ⟨re, rm⟩ ⟨k, t⟩ u := ⟨_, rfl⟩
    obtain ⟨f, hf⟩ : ∃ x, x = atE ⟨re, rm⟩ ⟨T, s'⟩ u := ⟨_, rfl⟩
    obtain ⟨g, hg⟩ : ∃ x, x = atE ⟨re, rm⟩ ⟨k, t⟩ u := ⟨_, rfl⟩
    rw [← ha, ← hf] at HY1
    rw [← hc, ← hg] at HY2
    have hcase : (f = 0 ∧ g = 0 ∧ a = c ∧ b = d) ∨ f = 100 := by
      by_cases h2 : okAt ⟨re, rm⟩ ⟨T, s'⟩ u
      · refine .inl ?_
        have h2' : okAt ⟨re, rm⟩ (atB ⟨re, rm⟩ ⟨k, t⟩ s) u := by rw [← HXX.out]; exact h2
        obtain ⟨h3, h4⟩ := atB_at H1.out h2'
        rw [← HXX.out, ← ha, ← hc] at h4
        refine ⟨hf.trans (if_pos h2), hg.trans (if_pos h3), ?_, ?_⟩
        · exact congrArg Bu.k h4
        · exact congrArg Bu.t h4
      · exact .inr (hf.trans (if_neg h2))
    clear ha hc hf hg HY
    go_wp2_with fail
    refine (HY1.out _).mono ?_
    rintro e w4 ⟨rfl, hb⟩
    obtain ⟨hb4, hg4, hn4⟩ := step (q := .cells #[.int .i64 a, .int .i64 b] 25) (p := .cells #[] 0) (h := 0) HB2.out (Nat.le_refl _) HG02.out hb
    have hm4 := (step (q := .cells #[.int .i64 a, .int .i64 b] 25) (p := .cells #[] 0) (h := 0) HB2.out (Nat.le_refl _) HG12.out hb).2.1
    have HB4 := Lib.hid hb4
    have HG04 := Lib.hid hg4
    have HG14 := Lib.hid hm4
    have HN4 := Lib.hid hn4
    clear hb hb4 hg4 hn4 hm4 HB2 HG02 HG12 HN2 HY1 k0 k1 m0 m1
    obtain ⟨k0, k1⟩ := cells2 HG04.out
    obtain ⟨m0, m1⟩ := cells2 HG14.out
    go_wp2_with fail
    generalize w4.alloc (.cells #[.int .i64 a, .int .i64 b] 25) = w5 at HB4 HG04 HG14 HN4 ⊢
    refine (HY2.out _).mono ?_
    rintro e w6 ⟨rfl, hb⟩
    obtain ⟨hb6, hg6, hn6⟩ := step (q := .cells #[.int .i64 c, .int .i64 d] 25) (p := .cells #[] 0) (h := 0) HB4.out (Nat.le_refl _) HN4.out hb
    have HB6 := Lib.hid hb6
    have HG06 := Lib.hid hg6
    have HN6 := Lib.hid hn6
    clear hb hb6 hg6 hn6 HB4 HG04 HG14 HN4 HY2 k0 k1 m0 m1
    go_upto_if 45 with fail
    generalize w6.alloc (.cells #[.int .i64 c, .int .i64 d] 25) = w7 at HB6 HG06 HN6 ⊢
    obtain ⟨k0, k1⟩ := cells2 HG06.out
    obtain ⟨m0, m1⟩ := cells2 HN6.out
    rcases hcase with ⟨h1, h2, h3, h4⟩ | h1
    · subst h1 h2 h3 h4
      go_wp2_with fail
      refine (HA.out _).mono ?_
      rintro e w8 ⟨rfl, hb⟩
      have HB8 := Lib.hid (HB6.out.trans (hb.mono HB6.out.size))
      clear hb
      go_wp2
      go_ret
      exact ⟨rfl, HB8.out⟩
    · subst h1
      go_wp2_with fail
      refine (HA.out _).mono ?_
      rintro e w8 ⟨rfl, hb⟩
      have HB8 := Lib.hid (HB6.out.trans (hb.mono HB6.out.size))
      clear hb
      go_wp2
      go_ret
      exact ⟨rfl, HB8.out⟩
  · have e1 : atE ⟨re, rm⟩ ⟨k, t⟩ s = 100 := if_neg h1
    have e2 : atB ⟨re, rm⟩ ⟨k, t⟩ s = zero := if_neg h1
    rw [e1, e2, zero_k, zero_t] at HX
    clear e1 e2 h1
    go_enter Try.func5, Try.ntmps5
    go_wp2_with fail
    generalize ((W.alloc (.cells #[.int .i64 re, .int .i64 rm] 23)).alloc (.cells #[.int .i64 k, .int .i64 t] 25)) = w1 at HB HG0 HG1 ⊢
    refine (HX.out _).mono ?_
    rintro e w2 ⟨rfl, hb⟩
    obtain ⟨hb2, hg2, hn2⟩ := step (q := .cells #[.int .i64 0, .int .i64 0] 25) (p := .cells #[] 0) (h := 0) HB.out (Nat.le_refl _) HG0.out hb
    have HB2 := Lib.hid hb2
    have HN2 := Lib.hid hn2
    clear hb hb2 hg2 hn2 HB HG0 HG1 HX HY
    go_upto_if 23 with fail
    generalize w2.alloc (.cells #[.int .i64 0, .int .i64 0] 25) = w3 at HB2 HN2 ⊢
    obtain ⟨m0, m1⟩ := cells2 HN2.out
    go_wp2_with fail
    refine (HA.out _).mono ?_
    rintro e w4 ⟨rfl, hb⟩
    have HB4 := Lib.hid (HB2.out.trans (hb.mono HB2.out.size))
    clear hb
    go_wp2
    go_ret
    exact ⟨rfl, HB4.out⟩

theorem own : ownKnob Try.prog.godebug = none := by kernel_rfl
theorem laidOut : laidOutB Try.prog = true := by kernel_rfl
set_option maxRecDepth 100000 in
theorem lifted (os : Os) (started : os.Started) (H : Type) (enc : TypeId × Value → H) :
    ReturnsInHanded {} Try.checked os 5 .any (Rows.bucketCutsSpec.pre6 enc Try.prog Try.f5 Rows.bucketCutsRow.domain false) (Rows.bucketCutsSpec.post enc Try.prog Try.f5 false true false false) := by
  refine returnsInHanded_of_change (C := Try.checked) own started (by kernel_rfl) Try.func5
    (ChangeSpec.witness6 (enc := enc) (C := Try.checked) false ⟨#[], #[.agg #[.int .i64 0, .int .i64 0], .agg #[.int .i64 0, .int .i64 0], .int .i64 0, .int .i64 0], []⟩ 8 (by kernel_rfl) (by kernel_rfl) (by kernel_rfl) (by kernel_rfl)) ?_
  intro W base args ds gs before hval0 hW hcnd _
  have hval : ∀ (j : Nat) t v, Try.f5.params[j]? = some t → args[j]? = some v → Value.okWide Try.prog W .any base t v := hval0
  have hW' := hW
  obtain ⟨p, q, hA0, hV, rfl, hfz, hnd⟩ := hW
  have hA : DataW.TrodAll enc Try.prog W 0 (fun _ => true) true Try.f5.params.toList args.toList ds p := hA0
  rw [Try.params5] at hA hval
  obtain ⟨v0, vs0, d0, ds0, p0, q0, hargs, rfl, rfl, h0, r0⟩ := trodAll_cons hA
  obtain ⟨v1, vs1, d1, ds1, p1, q1, rfl, rfl, rfl, h1, r1⟩ := trodAll_cons r0
  obtain ⟨v2, vs2, d2, ds2, p2, q2, rfl, rfl, rfl, h2, r2⟩ := trodAll_cons r1
  obtain ⟨v3, vs3, d3, ds3, p3, q3, rfl, rfl, rfl, h3, r3⟩ := trodAll_cons r2
  obtain ⟨rfl, rfl, rfl⟩ := trodAll_nil r3
  obtain rfl : args = #[v0, v1, v2, v3] := by cases args; simp_all
  obtain ⟨rfl, rfl⟩ := trodVars_none hV
  have k0 := h0
  have lt0 : ∀ x ∈ p0, x.block < W.heap.size := by obtain ⟨m, hm⟩ := k0; exact DataW.trod_lt m _ _ _ hm
  obtain ⟨x0, y0, rfl, wx0, wy0⟩ := open_two Try.underlying23 ⟨rfl, rfl⟩ Try.underlying3 Try.underlying3 ⟨by kernel_rfl, by kernel_rfl, by kernel_rfl⟩ (hval 0 23 v0 rfl rfl) h0
  have k1 := h1
  have lt1 : ∀ x ∈ p1, x.block < W.heap.size := by obtain ⟨m, hm⟩ := k1; exact DataW.trod_lt m _ _ _ hm
  obtain ⟨x1, y1, rfl, wx1, wy1⟩ := open_two Try.underlying25 ⟨rfl, rfl⟩ Try.underlying3 Try.underlying3 ⟨by kernel_rfl, by kernel_rfl, by kernel_rfl⟩ (hval 1 25 v1 rfl rfl) h1
  have k2 := h2
  have lt2 : ∀ x ∈ p2, x.block < W.heap.size := by obtain ⟨m, hm⟩ := k2; exact DataW.trod_lt m _ _ _ hm
  obtain ⟨a2, rfl, rfl, rfl, w2⟩ := open_int Try.underlying3 (hval 2 3 v2 rfl rfl) h2
  have k3 := h3
  have lt3 : ∀ x ∈ p3, x.block < W.heap.size := by obtain ⟨m, hm⟩ := k3; exact DataW.trod_lt m _ _ _ hm
  obtain ⟨a3, rfl, rfl, rfl, w3⟩ := open_int Try.underlying3 (hval 3 3 v3 rfl rfl) h3
  clear hA0 hval0
  refine (walk W x0 y0 wx0 wy0 x1 y1 wx1 wy1 a2 w2 a3 w3).mono fun e W' ⟨he, bel⟩ => ?_
  subst he
  exact ⟨_, rfl, _, _, _, [], _, [], hW', trodAll_mk1 (shut_bool Try.underlying4 _), (trodAll_cons_mk (Below.trod laidOut (by kernel_rfl) (of_decide_eq_true (by kernel_rfl)) k0 bel lt0) (trodAll_cons_mk (Below.trod laidOut (by kernel_rfl) (of_decide_eq_true (by kernel_rfl)) k1 bel lt1) (trodAll_cons_mk (Below.trod laidOut (by kernel_rfl) (of_decide_eq_true (by kernel_rfl)) k2 bel lt2) (trodAll_cons_mk (Below.trod laidOut (by kernel_rfl) (of_decide_eq_true (by kernel_rfl)) k3 bel lt3) trodAll_mk0)))), rfl, bel.frame _, fun h => by cases h⟩
theorem over : Rows.bucketCutsRow.holds Try.pinned (OpenSpec.ofChange Rows.bucketCutsSpec) :=
  OpenClaim.holds_of_wide 5 Try.f5 rfl rfl rfl rfl rfl rfl rfl ⟨rfl, rfl, rfl, rfl, rfl⟩ rfl rfl rfl rfl rfl (by kernel_rfl) Try.func5 (by kernel_rfl)
    (of_decide_eq_true (by kernel_rfl)) (by unfold Func.isWrapper; first | (rw [if_pos (by decide +kernel)]; kernel_rfl) | (rw [if_neg (by decide +kernel)]; exact ⟨rfl, rfl⟩))
    (fun os started H enc _ => lifted os started H enc)
/-- The statement. -/
theorem proved : Rows.BucketCutsSaid := over
end Go.Proofs.Ytblnglkjpnpmbaa.bucketCuts
