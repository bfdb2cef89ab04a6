/-
  Which rules may be: nego's rule.mayBe.
-/
import Derived.Test.YtbldcjngccmhpaaNgA
import Derived.Deep.DeepCutAuto
namespace Go.Proofs.Ytbldcjngccmhpaa.Ng
open Go.RowKit
set_option linter.unusedVariables false
set_option linter.unusedSimpArgs false
theorem eql_func (k : Nat) (w : World) : (binOp .eql 76 (.func (.func k) #[] #[]) .nilFunc).run Try.prog w = .ok (.bool false) w := by
  have h : ∀ d : Nat, (Op.equalIn (d + 1) 76 (.func (.func k) #[] #[]) .nilFunc).run Try.prog w = .ok false w := fun d => by
    simp [Op.equalIn, run_underlying Try.underlying76]
  simp only [binOp]
  simp [Op.equal, Op.maxDepth, h 9999]
theorem eql_nilFunc (w : World) : (binOp .eql 76 .nilFunc .nilFunc).run Try.prog w = .ok (.bool true) w := by
  have h : ∀ d : Nat, (Op.equalIn (d + 1) 76 .nilFunc .nilFunc).run Try.prog w = .ok true w := fun d => by
    simp [Op.equalIn, run_underlying Try.underlying76]
  simp only [binOp]
  simp [Op.equal, Op.maxDepth, h 9999]
theorem isR_no1 {r : Ru} (h : ¬ (1 ≤ r.kind ∧ r.kind ≤ 4)) : ¬ isR r := fun hr => by
  have h1 := hr.2.2.2.2.2.2.2.2.2.2.2.2
  unfold takes at h1
  rw [if_neg (by omega), if_neg (by omega), if_neg (by omega), if_neg (by omega)] at h1
  cases h1
theorem isR_iff {r : Ru} (h1 : 1 ≤ r.typ ∧ r.typ ≤ 255) (h2 : 0 ≤ r.size ∧ r.size ≤ 4) (h3 : r.size = 0 → r.kind = 1) (M : Int) (hM : M + 1 = lim r.size) (h4 : 0 ≤ r.low ∧ r.low ≤ M) (h5 : 0 ≤ r.high ∧ r.high ≤ M) (h6 : 0 ≤ r.good ∧ r.good ≤ M) :
    decide (isR r) = takes r r.good := by
  rw [Bool.eq_iff_iff, decide_eq_true_eq]
  refine ⟨fun h => h.2.2.2.2.2.2.2.2.2.2.2.2, fun h => ⟨h1.1, h1.2, h2.1, h2.2, h3, h4.1, by omega, h5.1, by omega, h6.1, by omega, fun hk => ?_, h⟩⟩
  unfold takes at h
  rw [if_neg (by omega), if_pos hk] at h
  have := of_decide_eq_true h
  omega
theorem lim_cases {k : Int} (h : 0 ≤ k ∧ k ≤ 4) : (k = 0 ∧ lim k = 1) ∨ (k = 1 ∧ lim k = 256) ∨ (k = 2 ∧ lim k = 65536) ∨ (k = 3 ∧ lim k = 16777216) ∨ (k = 4 ∧ lim k = 4294967296) := by
  have : k = 0 ∨ k = 1 ∨ k = 2 ∨ k = 3 ∨ k = 4 := by omega
  rcases this with rfl | rfl | rfl | rfl | rfl
  · exact .inl ⟨rfl, by decide⟩
  · exact .inr (.inl ⟨rfl, by decide⟩)
  · exact .inr (.inr (.inl ⟨rfl, by decide⟩))
  · exact .inr (.inr (.inr (.inl ⟨rfl, by decide⟩)))
  · exact .inr (.inr (.inr (.inr ⟨rfl, by decide⟩)))

set_option maxRecDepth 20000 in
set_option maxHeartbeats 2000000 in
theorem mayBe_any (r : Ru) (w : World) : Calls Try.prog 38 #[.agg #[.int .i64 r.typ, .int .i64 r.size, .int .i64 r.kind, .int .i64 r.low, .int .i64 r.high, .int .i64 r.good, .bool r.must]] w fun e w' => e = .returned (.bool (decide (isR r))) ∧ Below w.heap.size w w' := by
  have hg : (w.alloc (.cells #[.int .i64 r.typ, .int .i64 r.size, .int .i64 r.kind, .int .i64 r.low, .int .i64 r.high, .int .i64 r.good, .bool r.must] 56)).heap[w.heap.size]? = some (.cells #[.int .i64 r.typ, .int .i64 r.size, .int .i64 r.kind, .int .i64 r.low, .int .i64 r.high, .int .i64 r.good, .bool r.must] 56) := heap_alloc_last _ _
  have HB : Hid (Below w.heap.size w (w.alloc (.cells #[.int .i64 r.typ, .int .i64 r.size, .int .i64 r.kind, .int .i64 r.low, .int .i64 r.high, .int .i64 r.good, .bool r.must] 56))) := (Below.refl _ _).alloc (Nat.le_refl _) _
  obtain ⟨k0, k1, k2, k3, k4, k5, k6⟩ := cells7 hg
  have KO := Lib.hid (kindOf_any r.kind (w.alloc (.cells #[.int .i64 r.typ, .int .i64 r.size, .int .i64 r.kind, .int .i64 r.low, .int .i64 r.high, .int .i64 r.good, .bool r.must] 56)))
  have q1 := eql_func
  have q2 := eql_nilFunc
  clear hg
  go_enter Try.func38, Try.ntmps38
  go_wp2_with fail
  generalize (w.alloc (.cells #[.int .i64 r.typ, .int .i64 r.size, .int .i64 r.kind, .int .i64 r.low, .int .i64 r.high, .int .i64 r.good, .bool r.must] 56)) = w1 at k0 k1 k2 k3 k4 k5 k6 KO HB ⊢
  have IT := Lib.hid (isIn_any r.typ 1 255 w1)
  have IS := Lib.hid (isIn_any r.size 0 4 w1)
  refine KO.out.mono ?_
  rintro e w' ⟨(⟨k, rfl, hk1, hk2, hk3⟩ | ⟨rfl, hno⟩), rfl⟩
  · have HK2 := Lib.hid hk2
    have HK3 := Lib.hid hk3
    have HK1 := Lib.hid hk1
    clear hk1 hk2 hk3 KO
    by_cases ht : 1 ≤ r.typ ∧ r.typ ≤ 255
    · by_cases hs : 0 ≤ r.size ∧ r.size ≤ 4
      · rw [decide_eq_true ht] at IT
        rw [decide_eq_true hs] at IS
        have HT := Lib.hid ht
        have HS := Lib.hid hs
        clear ht hs
        go_wp2_with fail
        refine IT.out.mono ?_
        rintro e w' ⟨rfl, rfl⟩
        go_wp2_with fail
        refine IS.out.mono ?_
        rintro e w' ⟨rfl, rfl⟩
        by_cases h0 : r.size = 0 ∧ r.kind ≠ 1
        · have HN : Hid (¬ isR r) := fun h => h0.2 (h.2.2.2.2.1 h0.1)
          obtain ⟨h00, h01⟩ := h0
          have e1 : (r.kind != 1) = true := by simpa using h01
          clear h01
          go_wp2
          go_ret
          exact ⟨by rw [decide_eq_false HN.out]; rfl, HB.out⟩
        · have H0 : Hid (r.size = 0 → r.kind = 1) := fun h => Classical.byContradiction fun hk => h0 ⟨h, hk⟩
          go_upto_region 4 with fail
          go_cut [29] (fun s wx => s = .bool false ∧ w1 = wx)
          case first =>
            by_cases h1 : r.size = 0
            · have e1 : (r.kind != 1) = false := by simpa using H0.out h1
              clear h0
              go_wp2
              go_meet
              exact ⟨rfl, rfl⟩
            · have e1 : (r.size == 0) = false := by simpa using h1
              clear h0 h1
              go_wp2
              go_meet
              exact ⟨rfl, rfl⟩
          case rest =>
            clear h0
            obtain ⟨rfl, rfl⟩ := hcut
            go_upto_region 6 with fail
            go_cut [4] (fun s wx => ∃ M : Int, s = .int .i64 M ∧ M + 1 = lim r.size ∧ w1 = wx)
            case first =>
              rcases lim_cases HS.out with ⟨e1, e2⟩ | ⟨e1, e2⟩ | ⟨e1, e2⟩ | ⟨e1, e2⟩ | ⟨e1, e2⟩
              all_goals (
                rw [e1] at k1
                clear e1
                have E2 := Lib.hid e2
                clear e2
                go_wp2
                go_meet
                exact ⟨_, rfl, by rw [E2.out]; rfl, rfl⟩)
            case rest =>
              obtain ⟨M, rfl, hM, rfl⟩ := hcut
              have HM := Lib.hid hM
              clear hM
              have I3 := Lib.hid (isIn_any r.low 0 M w1)
              have I4 := Lib.hid (isIn_any r.high 0 M w1)
              have I5 := Lib.hid (isIn_any r.good 0 M w1)
              by_cases h3 : 0 ≤ r.low ∧ r.low ≤ M
              · rw [decide_eq_true h3] at I3
                have H3 := Lib.hid h3
                clear h3
                by_cases h4 : 0 ≤ r.high ∧ r.high ≤ M
                · rw [decide_eq_true h4] at I4
                  have H4 := Lib.hid h4
                  clear h4
                  by_cases h5 : 0 ≤ r.good ∧ r.good ≤ M
                  · rw [decide_eq_true h5] at I5
                    have HE := Lib.hid (isR_iff HT.out HS.out H0.out M HM.out H3.out H4.out h5)
                    clear h5
                    have TK := Lib.hid (HK3.out r r.good w1 rfl)
                    go_wp2_with fail
                    refine I3.out.mono ?_
                    rintro e w' ⟨rfl, rfl⟩
                    go_wp2_with fail
                    refine I4.out.mono ?_
                    rintro e w' ⟨rfl, rfl⟩
                    go_wp2_with fail
                    refine I5.out.mono ?_
                    rintro e w' ⟨rfl, rfl⟩
                    have hk2 := HK2.out
                    go_wp2_with fail
                    refine TK.out.mono ?_
                    rintro e w' ⟨rfl, hb⟩
                    rw [← HE.out]
                    have HB2 := Lib.hid (HB.out.trans (hb.mono HB.out.size))
                    clear hb
                    go_wp2
                    go_ret
                    exact ⟨rfl, HB2.out⟩
                  · rw [decide_eq_false h5] at I5
                    have HN : Hid (¬ isR r) := fun h => h5 (by have := HM.out; have := h.2.2.2.2.2.2.2.2.2.1; have := h.2.2.2.2.2.2.2.2.2.2.1; omega)
                    clear h5
                    go_wp2_with fail
                    refine I3.out.mono ?_
                    rintro e w' ⟨rfl, rfl⟩
                    go_wp2_with fail
                    refine I4.out.mono ?_
                    rintro e w' ⟨rfl, rfl⟩
                    go_wp2_with fail
                    refine I5.out.mono ?_
                    rintro e w' ⟨rfl, rfl⟩
                    go_wp2
                    go_ret
                    exact ⟨by rw [decide_eq_false HN.out]; rfl, HB.out⟩
                · rw [decide_eq_false h4] at I4
                  have HN : Hid (¬ isR r) := fun h => h4 (by have := HM.out; have := h.2.2.2.2.2.2.2.1; have := h.2.2.2.2.2.2.2.2.1; omega)
                  clear h4
                  go_wp2_with fail
                  refine I3.out.mono ?_
                  rintro e w' ⟨rfl, rfl⟩
                  go_wp2_with fail
                  refine I4.out.mono ?_
                  rintro e w' ⟨rfl, rfl⟩
                  go_wp2
                  go_ret
                  exact ⟨by rw [decide_eq_false HN.out]; rfl, HB.out⟩
              · rw [decide_eq_false h3] at I3
                have HN : Hid (¬ isR r) := fun h => h3 (by have := HM.out; have := h.2.2.2.2.2.1; have := h.2.2.2.2.2.2.1; omega)
                clear h3
                go_wp2_with fail
                refine I3.out.mono ?_
                rintro e w' ⟨rfl, rfl⟩
                go_wp2
                go_ret
                exact ⟨by rw [decide_eq_false HN.out]; rfl, HB.out⟩
      · rw [decide_eq_true ht] at IT
        rw [decide_eq_false hs] at IS
        have HN : Hid (¬ isR r) := fun h => hs ⟨h.2.2.1, h.2.2.2.1⟩
        clear ht hs
        go_wp2_with fail
        refine IT.out.mono ?_
        rintro e w' ⟨rfl, rfl⟩
        go_wp2_with fail
        refine IS.out.mono ?_
        rintro e w' ⟨rfl, rfl⟩
        go_wp2
        go_ret
        exact ⟨by rw [decide_eq_false HN.out]; rfl, HB.out⟩
    · rw [decide_eq_false ht] at IT
      have HN : Hid (¬ isR r) := fun h => ht ⟨h.1, h.2.1⟩
      clear ht
      go_wp2_with fail
      refine IT.out.mono ?_
      rintro e w' ⟨rfl, rfl⟩
      go_wp2
      go_ret
      exact ⟨by rw [decide_eq_false HN.out]; rfl, HB.out⟩
  · have HN := Lib.hid (isR_no1 hno)
    clear hno
    go_wp2
    go_ret
    exact ⟨by rw [decide_eq_false HN.out]; rfl, HB.out⟩
end Go.Proofs.Ytbldcjngccmhpaa.Ng
