/-
  The document's limit, below, Takes, Is.
-/
import Derived.Test.YtbldcjngccmhpaaNgC
namespace Go.Proofs.Ytbldcjngccmhpaa.Ng
open Go.RowKit
set_option linter.unusedVariables false
set_option linter.unusedSimpArgs false
theorem limit_any (k : Nat) (hk : k ≤ 4) (w : World) :
    Calls Try.prog 49 #[.int .i64 (k : Int)] w fun e w' => e = .returned (.int .i64 (lim (k : Int))) ∧ w = w' := by
  go_enter Try.func49, Try.ntmps49
  go_wp2
  go_loopw [3, 4] (fun nv iv wr => ∃ j M : Nat, j ≤ k ∧ M = 256 ^ j ∧ iv = .int .i64 j ∧ nv = .int .i64 (M : Nat) ∧ w = wr) (fun _ iv _ => k - (intOf iv).toNat)
  case atStart => exact ⟨0, 1, Nat.zero_le _, rfl, rfl, rfl, rfl⟩
  case round =>
    obtain ⟨j, M, hj, hM, rfl, rfl, rfl⟩ := hrel
    have hM4 : M ≤ 4294967296 := by rw [hM]; exact Nat.pow_le_pow_right (by decide) (show j ≤ 4 by omega)
    have HM := Lib.hid hM
    clear hM
    by_cases hlt : j < k
    · go_wp2
      go_roundw
      case rel => exact ⟨j + 1, M * 256, by omega, by rw [HM.out, Nat.pow_succ], by go_num, by go_num, trivial⟩
      case measure => simp [intOf]; omega
    · obtain rfl : j = k := by omega
      have HL : Hid (lim (j : Int) = (M : Int)) := by
        show _ = _
        unfold lim
        rw [Int.toNat_natCast, HM.out]
        simp
      go_wp2
      go_ret
      exact ⟨by rw [HL.out]; rfl, rfl⟩
theorem below_any (n m : Int) (w : World) :
    Calls Try.prog 50 #[.int .i64 n, .int .i64 m] w fun e w' => e = .returned (.bool (decide (0 ≤ n ∧ n < m))) ∧ w = w' := by
  by_cases h1 : 0 ≤ n
  · go_enter Try.func50, Try.ntmps50
    go_wp2
    go_ret
    refine ⟨by simp [h1]; try (intros; omega), rfl⟩
  · go_enter Try.func50, Try.ntmps50
    go_wp2
    go_ret
    refine ⟨by simp [h1]; try (intros; omega), rfl⟩

set_option maxRecDepth 20000 in
theorem rtakes_any (r : Ru) (n : Int) (w : World) :
    Calls Try.prog 19 #[.agg #[.int .i64 r.typ, .int .i64 r.size, .int .i64 r.kind, .int .i64 r.low, .int .i64 r.high, .int .i64 r.good, .bool r.must], .int .i64 n] w fun e w' => e = .returned (.bool (takes r n)) ∧ Below w.heap.size w w' := by
  have hal : Gr w (w.alloc (.cells #[.int .i64 r.typ, .int .i64 r.size, .int .i64 r.kind, .int .i64 r.low, .int .i64 r.high, .int .i64 r.good, .bool r.must] 39)) := (Gr.refl w).alloc _
  have HAL := Lib.hid hal
  obtain ⟨x0, x1, x2, x3, x4, x5, x6⟩ := cells7 (heap_alloc_last w (.cells #[.int .i64 r.typ, .int .i64 r.size, .int .i64 r.kind, .int .i64 r.low, .int .i64 r.high, .int .i64 r.good, .bool r.must] 39))
  clear hal
  by_cases h1 : r.kind = 1
  · have e : takes r n = true := by unfold takes; rw [if_pos h1]
    rw [e]
    have e1 : (r.kind == 1) = true := by simpa using h1
    clear h1 e
    go_enter Try.func19, Try.ntmps19
    go_wp2
    go_ret
    exact ⟨rfl, HAL.out⟩
  have e1 : (r.kind == 1) = false := by simpa using h1
  by_cases h2 : r.kind = 2
  · have e : takes r n = decide (r.low ≤ n ∧ n ≤ r.high) := by unfold takes; rw [if_neg h1, if_pos h2]
    rw [e]
    have e2 : (r.kind == 2) = true := by simpa using h2
    clear h1 h2 e
    by_cases hlo : r.low ≤ n
    · go_enter Try.func19, Try.ntmps19
      go_wp2
      go_ret
      exact ⟨by simp [hlo], HAL.out⟩
    · go_enter Try.func19, Try.ntmps19
      go_wp2
      go_ret
      exact ⟨by simp [hlo]; try (intros; omega), HAL.out⟩
  have e2 : (r.kind == 2) = false := by simpa using h2
  by_cases h3 : r.kind = 3
  · have e : takes r n = decide (n = r.good) := by unfold takes; rw [if_neg h1, if_neg h2, if_pos h3]
    rw [e]
    have e3 : (r.kind == 3) = true := by simpa using h3
    clear h1 h2 h3 e
    go_enter Try.func19, Try.ntmps19
    go_wp2
    go_ret
    exact ⟨by simp [Bool.beq_eq_decide_eq], HAL.out⟩
  have e3 : (r.kind == 3) = false := by simpa using h3
  by_cases h4 : r.kind = 4
  · have e : takes r n = decide (n ≠ r.low) := by unfold takes; rw [if_neg h1, if_neg h2, if_neg h3, if_pos h4]
    rw [e]
    have e4 : (r.kind == 4) = true := by simpa using h4
    clear h1 h2 h3 h4 e
    go_enter Try.func19, Try.ntmps19
    go_wp2
    go_ret
    exact ⟨by simp [bne, Bool.beq_eq_decide_eq], HAL.out⟩
  have e4 : (r.kind == 4) = false := by simpa using h4
  have e : takes r n = false := by unfold takes; rw [if_neg h1, if_neg h2, if_neg h3, if_neg h4]
  rw [e]
  clear h1 h2 h3 h4 e
  go_enter Try.func19, Try.ntmps19
  go_wp2
  go_ret
  exact ⟨rfl, HAL.out⟩

set_option maxRecDepth 20000 in
set_option maxHeartbeats 2000000 in
theorem ris_any (r : Ru) (w : World) : Calls Try.prog 33 #[.agg #[.int .i64 r.typ, .int .i64 r.size, .int .i64 r.kind, .int .i64 r.low, .int .i64 r.high, .int .i64 r.good, .bool r.must]] w fun e w' => e = .returned (.bool (decide (isR r))) ∧ Below w.heap.size w w' := by
  have hg : (w.alloc (.cells #[.int .i64 r.typ, .int .i64 r.size, .int .i64 r.kind, .int .i64 r.low, .int .i64 r.high, .int .i64 r.good, .bool r.must] 39)).heap[w.heap.size]? = some (.cells #[.int .i64 r.typ, .int .i64 r.size, .int .i64 r.kind, .int .i64 r.low, .int .i64 r.high, .int .i64 r.good, .bool r.must] 39) := heap_alloc_last _ _
  have HB : Hid (Below w.heap.size w (w.alloc (.cells #[.int .i64 r.typ, .int .i64 r.size, .int .i64 r.kind, .int .i64 r.low, .int .i64 r.high, .int .i64 r.good, .bool r.must] 39))) := (Below.refl _ _).alloc (Nat.le_refl _) _
  obtain ⟨k0, k1, k2, k3, k4, k5, k6⟩ := cells7 hg
  clear hg
  obtain ⟨bad, hbad⟩ : ∃ b, b = decide (¬ (1 ≤ r.typ ∧ r.typ ≤ 255 ∧ 0 ≤ r.size ∧ r.size ≤ 4 ∧ (r.size = 0 → r.kind = 1))) := ⟨_, rfl⟩
  have HBAD := Lib.hid hbad
  clear hbad
  go_enter Try.func33, Try.ntmps33
  go_upto_region 1 with fail
  generalize (w.alloc (.cells #[.int .i64 r.typ, .int .i64 r.size, .int .i64 r.kind, .int .i64 r.low, .int .i64 r.high, .int .i64 r.good, .bool r.must] 39)) = w1 at k0 k1 k2 k3 k4 k5 k6 HB ⊢
  go_cut [31] (fun s wx => s = .bool bad ∧ w1 = wx)
  case first =>
    by_cases h1 : r.typ < 1
    · obtain rfl : bad = true := by rw [HBAD.out]; exact decide_eq_true (by omega)
      go_wp2
      go_meet
      exact ⟨rfl, rfl⟩
    by_cases h2 : 255 < r.typ
    · obtain rfl : bad = true := by rw [HBAD.out]; exact decide_eq_true (by omega)
      go_wp2
      go_meet
      exact ⟨rfl, rfl⟩
    by_cases h3 : r.size < 0
    · obtain rfl : bad = true := by rw [HBAD.out]; exact decide_eq_true (by omega)
      go_wp2
      go_meet
      exact ⟨rfl, rfl⟩
    by_cases h4 : 4 < r.size
    · obtain rfl : bad = true := by rw [HBAD.out]; exact decide_eq_true (by omega)
      go_wp2
      go_meet
      exact ⟨rfl, rfl⟩
    by_cases h5 : r.size = 0
    · by_cases h6 : r.kind = 1
      · obtain rfl : bad = false := by rw [HBAD.out]; exact decide_eq_false (by omega)
        have e5 : (r.size == 0) = true := by simpa using h5
        have e6 : (r.kind != 1) = false := by simpa using h6
        clear h5 h6
        go_wp2
        go_meet
        exact ⟨rfl, rfl⟩
      · obtain rfl : bad = true := by rw [HBAD.out]; exact decide_eq_true (by omega)
        have e5 : (r.size == 0) = true := by simpa using h5
        have e6 : (r.kind != 1) = true := by simpa using h6
        clear h5 h6
        go_wp2
        go_meet
        exact ⟨rfl, rfl⟩
    · obtain rfl : bad = false := by rw [HBAD.out]; exact decide_eq_false (by omega)
      have e5 : (r.size == 0) = false := by simpa using h5
      clear h5
      go_wp2
      go_meet
      exact ⟨rfl, rfl⟩
  case rest =>
    obtain ⟨rfl, rfl⟩ := hcut
    cases bad with
    | true =>
      have h := of_decide_eq_true HBAD.out.symm
      have HN : Hid (¬ isR r) := fun hr => h ⟨hr.1, hr.2.1, hr.2.2.1, hr.2.2.2.1, hr.2.2.2.2.1⟩
      clear h
      go_wp2
      go_ret
      exact ⟨by rw [decide_eq_false HN.out]; rfl, HB.out⟩
    | false =>
      have h := of_decide_eq_false HBAD.out.symm
      have HOK : Hid (1 ≤ r.typ ∧ r.typ ≤ 255 ∧ 0 ≤ r.size ∧ r.size ≤ 4 ∧ (r.size = 0 → r.kind = 1)) := Classical.byContradiction h
      clear h
      obtain ⟨n, hn⟩ : ∃ n : Nat, r.size = (n : Int) := ⟨r.size.toNat, by have := HOK.out.2.2.1; omega⟩
      have hn4 : n ≤ 4 := by have := HOK.out.2.2.2.1; omega
      have LM := Lib.hid (limit_any n hn4 w1)
      rw [← hn] at LM
      obtain ⟨M, hM⟩ : ∃ M, M = lim r.size := ⟨_, rfl⟩
      rw [← hM] at LM
      have HM := Lib.hid hM
      clear hn hn4 hM
      have I3 := Lib.hid (below_any r.low M w1)
      have I4 := Lib.hid (below_any r.high M w1)
      have I5 := Lib.hid (below_any r.good M w1)
      have TK := Lib.hid (rtakes_any r r.good w1)
      go_wp2_with fail
      refine LM.out.mono ?_
      rintro e w' ⟨rfl, rfl⟩
      by_cases h3 : 0 ≤ r.low ∧ r.low < M
      · rw [decide_eq_true h3] at I3
        have H3 := Lib.hid h3
        clear h3
        by_cases h4 : 0 ≤ r.high ∧ r.high < M
        · rw [decide_eq_true h4] at I4
          have H4 := Lib.hid h4
          clear h4
          by_cases h5 : 0 ≤ r.good ∧ r.good < M
          · rw [decide_eq_true h5] at I5
            have H5 := Lib.hid h5
            clear h5
            by_cases h6 : r.kind = 2 ∧ ¬ r.low ≤ r.high
            · have HN : Hid (¬ isR r) := fun h => h6.2 (h.2.2.2.2.2.2.2.2.2.2.2.1 h6.1)
              obtain ⟨h61, h62⟩ := h6
              have e6 : (r.kind != 2) = false := by simpa using h61
              clear h61
              go_wp2_with fail
              refine I3.out.mono ?_
              rintro e w' ⟨rfl, rfl⟩
              go_wp2_with fail
              refine I4.out.mono ?_
              rintro e w' ⟨rfl, rfl⟩
              go_wp2_with fail
              refine I5.out.mono ?_
              rintro e w' ⟨rfl, rfl⟩
              go_wp2
              go_ret
              exact ⟨by rw [decide_eq_false HN.out]; rfl, HB.out⟩
            · have H6 : Hid (r.kind = 2 → r.low ≤ r.high) := fun hk => Classical.byContradiction fun h => h6 ⟨hk, h⟩
              have HE : Hid (decide (isR r) = takes r r.good) := by
                show _ = _
                have h1 := HOK.out
                have hm := HM.out
                have a3 := H3.out
                have a4 := H4.out
                have a5 := H5.out
                rw [hm] at a3 a4 a5
                rw [Bool.eq_iff_iff, decide_eq_true_eq]
                exact ⟨fun h => h.2.2.2.2.2.2.2.2.2.2.2.2, fun h => ⟨h1.1, h1.2.1, h1.2.2.1, h1.2.2.2.1, h1.2.2.2.2, a3.1, a3.2, a4.1, a4.2, a5.1, a5.2, H6.out, h⟩⟩
              clear h6
              by_cases h7 : r.kind = 2
              · have e7 : (r.kind != 2) = false := by simpa using h7
                have h8 := H6.out h7
                clear h7
                go_wp2_with fail
                refine I3.out.mono ?_
                rintro e w' ⟨rfl, rfl⟩
                go_wp2_with fail
                refine I4.out.mono ?_
                rintro e w' ⟨rfl, rfl⟩
                go_wp2_with fail
                refine I5.out.mono ?_
                rintro e w' ⟨rfl, rfl⟩
                go_wp2_with fail
                refine TK.out.mono ?_
                rintro e w' ⟨rfl, hb⟩
                have HB2 := Lib.hid (HB.out.trans (hb.mono HB.out.size))
                clear hb
                go_wp2
                go_ret
                exact ⟨by rw [HE.out]; rfl, HB2.out⟩
              · have e7 : (r.kind != 2) = true := by simpa using h7
                clear h7
                go_wp2_with fail
                refine I3.out.mono ?_
                rintro e w' ⟨rfl, rfl⟩
                go_wp2_with fail
                refine I4.out.mono ?_
                rintro e w' ⟨rfl, rfl⟩
                go_wp2_with fail
                refine I5.out.mono ?_
                rintro e w' ⟨rfl, rfl⟩
                go_wp2_with fail
                refine TK.out.mono ?_
                rintro e w' ⟨rfl, hb⟩
                have HB2 := Lib.hid (HB.out.trans (hb.mono HB.out.size))
                clear hb
                go_wp2
                go_ret
                exact ⟨by rw [HE.out]; rfl, HB2.out⟩
          · rw [decide_eq_false h5] at I5
            have HN : Hid (¬ isR r) := fun h => h5 (by rw [HM.out]; exact ⟨h.2.2.2.2.2.2.2.2.2.1, h.2.2.2.2.2.2.2.2.2.2.1⟩)
            clear h5
            go_wp2_with fail
            refine I3.out.mono ?_
            rintro e w' ⟨rfl, rfl⟩
            go_wp2_with fail
            refine I4.out.mono ?_
            rintro e w' ⟨rfl, rfl⟩
            go_wp2_with fail
            refine I5.out.mono ?_
            rintro e w' ⟨rfl, rfl⟩
            go_wp2
            go_ret
            exact ⟨by rw [decide_eq_false HN.out]; rfl, HB.out⟩
        · rw [decide_eq_false h4] at I4
          have HN : Hid (¬ isR r) := fun h => h4 (by rw [HM.out]; exact ⟨h.2.2.2.2.2.2.2.1, h.2.2.2.2.2.2.2.2.1⟩)
          clear h4
          go_wp2_with fail
          refine I3.out.mono ?_
          rintro e w' ⟨rfl, rfl⟩
          go_wp2_with fail
          refine I4.out.mono ?_
          rintro e w' ⟨rfl, rfl⟩
          go_wp2
          go_ret
          exact ⟨by rw [decide_eq_false HN.out]; rfl, HB.out⟩
      · rw [decide_eq_false h3] at I3
        have HN : Hid (¬ isR r) := fun h => h3 (by rw [HM.out]; exact ⟨h.2.2.2.2.2.1, h.2.2.2.2.2.2.1⟩)
        clear h3
        go_wp2_with fail
        refine I3.out.mono ?_
        rintro e w' ⟨rfl, rfl⟩
        go_wp2
        go_ret
        exact ⟨by rw [decide_eq_false HN.out]; rfl, HB.out⟩
end Go.Proofs.Ytbldcjngccmhpaa.Ng
