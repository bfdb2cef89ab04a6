/-
  The document's limit, below, Takes, Is.
  The document's Are, rule, has, number, good.
  The document's Same, Copy; the laws' Rules, Opts.
  The document's Answer.
  The laws' follow: a question that takes over what was answered.
  Who takes over what is told, question behind question, in plain words.
  The document's Learn.
  The document's Answer, whatever comes.
  The laws' Opts; the document's Copy.
-/
import Derived.Test.YtclplbapedmihaaGreatZNgA
import Derived.Test.YtclplbapedmihaaGreatZBase
namespace Go.Proofs.YtclplbapedmihaaGreat.Ng
set_option maxRecDepth 4000
open Go.RowKit
set_option linter.unusedVariables false
set_option linter.unusedSimpArgs false
theorem limit_any (k : Nat) (hk : k ≤ 4) (w : World) :
    Calls Tryz.prog 91 #[.int .i64 (k : Int)] w fun e w' => e = .returned (.int .i64 (lim (k : Int))) ∧ w = w' := by
  go_enter Tryz.func91, Tryz.ntmps91
  go_wp2
  go_loopw [3, 4] (fun nv iv wr => ∃ j M : Nat, j ≤ k ∧ M = 256 ^ j ∧ iv = .int .i64 j ∧ nv = .int .i64 (M : Nat) ∧ w = wr) (fun _ iv _ => k - (intOf iv).toNat)
  case atStart => exact ⟨0, 1, Nat.zero_le _, rfl, rfl, rfl, rfl⟩
  case round =>
    obtain ⟨j, M, hj, hM, rfl, rfl, rfl⟩ := hrel
    have hM4 : M ≤ 4294967296 := by rw [hM]; exact Nat.pow_le_pow_right (by decide) (show j ≤ 4 by omega)
    have HM := Lib.hid hM
    clear hM
    by_cases hlt : j < k
    · go_wp2
      go_roundw
      case rel => exact ⟨j + 1, M * 256, by omega, by rw [HM.out, Nat.pow_succ], by go_num, by go_num, trivial⟩
      case measure => simp [intOf]; omega
    · obtain rfl : j = k := by omega
      have HL : Hid (lim (j : Int) = (M : Int)) := by
        show _ = _
        unfold lim
        rw [Int.toNat_natCast, HM.out]
        simp
      go_wp2
      go_ret
      exact ⟨by rw [HL.out]; rfl, rfl⟩
theorem below_any (n m : Int) (w : World) :
    Calls Tryz.prog 92 #[.int .i64 n, .int .i64 m] w fun e w' => e = .returned (.bool (decide (0 ≤ n ∧ n < m))) ∧ w = w' := by
  by_cases h1 : 0 ≤ n
  · go_enter Tryz.func92, Tryz.ntmps92
    go_wp2
    go_ret
    refine ⟨by simp [h1]; try (intros; omega), rfl⟩
  · go_enter Tryz.func92, Tryz.ntmps92
    go_wp2
    go_ret
    refine ⟨by simp [h1]; try (intros; omega), rfl⟩
set_option maxRecDepth 20000 in
theorem rtakes_any (r : Ru) (n : Int) (w : World) :
    Calls Tryz.prog 54 #[.agg #[.int .i64 r.typ, .int .i64 r.size, .int .i64 r.kind, .int .i64 r.low, .int .i64 r.high, .int .i64 r.good, .bool r.must], .int .i64 n] w fun e w' => e = .returned (.bool (takes r n)) ∧ Below w.heap.size w w' := by
  have hal : Gr w (w.alloc (.cells #[.int .i64 r.typ, .int .i64 r.size, .int .i64 r.kind, .int .i64 r.low, .int .i64 r.high, .int .i64 r.good, .bool r.must] 101)) := (Gr.refl w).alloc _
  have HAL := Lib.hid hal
  obtain ⟨x0, x1, x2, x3, x4, x5, x6⟩ := cells7 (heap_alloc_last w (.cells #[.int .i64 r.typ, .int .i64 r.size, .int .i64 r.kind, .int .i64 r.low, .int .i64 r.high, .int .i64 r.good, .bool r.must] 101))
  clear hal
  by_cases h1 : r.kind = 1
  · have e : takes r n = true := by unfold takes; rw [if_pos h1]
    rw [e]
    have e1 : (r.kind == 1) = true := by simpa using h1
    clear h1 e
    go_enter Tryz.func54, Tryz.ntmps54
    go_wp2
    go_ret
    exact ⟨rfl, HAL.out⟩
  have e1 : (r.kind == 1) = false := by simpa using h1
  by_cases h2 : r.kind = 2
  · have e : takes r n = decide (r.low ≤ n ∧ n ≤ r.high) := by unfold takes; rw [if_neg h1, if_pos h2]
    rw [e]
    have e2 : (r.kind == 2) = true := by simpa using h2
    clear h1 h2 e
    by_cases hlo : r.low ≤ n
    · go_enter Tryz.func54, Tryz.ntmps54
      go_wp2
      go_ret
      exact ⟨by simp [hlo], HAL.out⟩
    · go_enter Tryz.func54, Tryz.ntmps54
      go_wp2
      go_ret
      exact ⟨by simp [hlo]; try (intros; omega), HAL.out⟩
  have e2 : (r.kind == 2) = false := by simpa using h2
  by_cases h3 : r.kind = 3
  · have e : takes r n = decide (n = r.good) := by unfold takes; rw [if_neg h1, if_neg h2, if_pos h3]
    rw [e]
    have e3 : (r.kind == 3) = true := by simpa using h3
    clear h1 h2 h3 e
    go_enter Tryz.func54, Tryz.ntmps54
    go_wp2
    go_ret
    exact ⟨by simp [Bool.beq_eq_decide_eq], HAL.out⟩
  have e3 : (r.kind == 3) = false := by simpa using h3
  by_cases h4 : r.kind = 4
  · have e : takes r n = decide (n ≠ r.low) := by unfold takes; rw [if_neg h1, if_neg h2, if_neg h3, if_pos h4]
    rw [e]
    have e4 : (r.kind == 4) = true := by simpa using h4
    clear h1 h2 h3 h4 e
    go_enter Tryz.func54, Tryz.ntmps54
    go_wp2
    go_ret
    exact ⟨by simp [bne, Bool.beq_eq_decide_eq], HAL.out⟩
  have e4 : (r.kind == 4) = false := by simpa using h4
  have e : takes r n = false := by unfold takes; rw [if_neg h1, if_neg h2, if_neg h3, if_neg h4]
  rw [e]
  clear h1 h2 h3 h4 e
  go_enter Tryz.func54, Tryz.ntmps54
  go_wp2
  go_ret
  exact ⟨rfl, HAL.out⟩
set_option maxRecDepth 20000 in
set_option maxHeartbeats 2000000 in
theorem ris_any (r : Ru) (w : World) : Calls Tryz.prog 78 #[.agg #[.int .i64 r.typ, .int .i64 r.size, .int .i64 r.kind, .int .i64 r.low, .int .i64 r.high, .int .i64 r.good, .bool r.must]] w fun e w' => e = .returned (.bool (decide (isR r))) ∧ Below w.heap.size w w' := by
  have hg : (w.alloc (.cells #[.int .i64 r.typ, .int .i64 r.size, .int .i64 r.kind, .int .i64 r.low, .int .i64 r.high, .int .i64 r.good, .bool r.must] 101)).heap[w.heap.size]? = some (.cells #[.int .i64 r.typ, .int .i64 r.size, .int .i64 r.kind, .int .i64 r.low, .int .i64 r.high, .int .i64 r.good, .bool r.must] 101) := heap_alloc_last _ _
  have HB : Hid (Below w.heap.size w (w.alloc (.cells #[.int .i64 r.typ, .int .i64 r.size, .int .i64 r.kind, .int .i64 r.low, .int .i64 r.high, .int .i64 r.good, .bool r.must] 101))) := (Below.refl _ _).alloc (Nat.le_refl _) _
  obtain ⟨k0, k1, k2, k3, k4, k5, k6⟩ := cells7 hg
  clear hg
  obtain ⟨bad, hbad⟩ : ∃ b, b = decide (¬ (1 ≤ r.typ ∧ r.typ ≤ 255 ∧ 0 ≤ r.size ∧ r.size ≤ 4 ∧ (r.size = 0 → r.kind = 1))) := ⟨_, rfl⟩
  have HBAD := Lib.hid hbad
  clear hbad
  go_enter Tryz.func78, Tryz.ntmps78
  go_upto_region 1 with fail
  generalize (w.alloc (.cells #[.int .i64 r.typ, .int .i64 r.size, .int .i64 r.kind, .int .i64 r.low, .int .i64 r.high, .int .i64 r.good, .bool r.must] 101)) = w1 at k0 k1 k2 k3 k4 k5 k6 HB ⊢
  go_cut [31] (fun s wx => s = .bool bad ∧ w1 = wx)
  case first =>
    by_cases h1 : r.typ < 1
    · obtain rfl : bad = true := by rw [HBAD.out]; exact decide_eq_true (by omega)
      go_wp2
      go_meet
      exact ⟨rfl, rfl⟩
    by_cases h2 : 255 < r.typ
    · obtain rfl : bad = true := by rw [HBAD.out]; exact decide_eq_true (by omega)
      go_wp2
      go_meet
      exact ⟨rfl, rfl⟩
    by_cases h3 : r.size < 0
    · obtain rfl : bad = true := by rw [HBAD.out]; exact decide_eq_true (by omega)
      go_wp2
      go_meet
      exact ⟨rfl, rfl⟩
    by_cases h4 : 4 < r.size
    · obtain rfl : bad = true := by rw [HBAD.out]; exact decide_eq_true (by omega)
      go_wp2
      go_meet
      exact ⟨rfl, rfl⟩
    by_cases h5 : r.size = 0
    · by_cases h6 : r.kind = 1
      · obtain rfl : bad = false := by rw [HBAD.out]; exact decide_eq_false (by omega)
        have e5 : (r.size == 0) = true := by simpa using h5
        have e6 : (r.kind != 1) = false := by simpa using h6
        clear h5 h6
        go_wp2
        go_meet
        exact ⟨rfl, rfl⟩
      · obtain rfl : bad = true := by rw [HBAD.out]; exact decide_eq_true (by omega)
        have e5 : (r.size == 0) = true := by simpa using h5
        have e6 : (r.kind != 1) = true := by simpa using h6
        clear h5 h6
        go_wp2
        go_meet
        exact ⟨rfl, rfl⟩
    · obtain rfl : bad = false := by rw [HBAD.out]; exact decide_eq_false (by omega)
      have e5 : (r.size == 0) = false := by simpa using h5
      clear h5
      go_wp2
      go_meet
      exact ⟨rfl, rfl⟩
  case rest =>
    obtain ⟨rfl, rfl⟩ := hcut
    cases bad with
    | true =>
      have h := of_decide_eq_true HBAD.out.symm
      have HN : Hid (¬ isR r) := fun hr => h ⟨hr.1, hr.2.1, hr.2.2.1, hr.2.2.2.1, hr.2.2.2.2.1⟩
      clear h
      go_wp2
      go_ret
      exact ⟨by rw [decide_eq_false HN.out]; rfl, HB.out⟩
    | false =>
      have h := of_decide_eq_false HBAD.out.symm
      have HOK : Hid (1 ≤ r.typ ∧ r.typ ≤ 255 ∧ 0 ≤ r.size ∧ r.size ≤ 4 ∧ (r.size = 0 → r.kind = 1)) := Classical.byContradiction h
      clear h
      obtain ⟨n, hn⟩ : ∃ n : Nat, r.size = (n : Int) := ⟨r.size.toNat, by have := HOK.out.2.2.1; omega⟩
      have hn4 : n ≤ 4 := by have := HOK.out.2.2.2.1; omega
      have LM := Lib.hid (limit_any n hn4 w1)
      rw [← hn] at LM
      obtain ⟨M, hM⟩ : ∃ M, M = lim r.size := ⟨_, rfl⟩
      rw [← hM] at LM
      have HM := Lib.hid hM
      clear hn hn4 hM
      have I3 := Lib.hid (below_any r.low M w1)
      have I4 := Lib.hid (below_any r.high M w1)
      have I5 := Lib.hid (below_any r.good M w1)
      have TK := Lib.hid (rtakes_any r r.good w1)
      go_wp2_with fail
      refine LM.out.mono ?_
      rintro e w' ⟨rfl, rfl⟩
      by_cases h3 : 0 ≤ r.low ∧ r.low < M
      · rw [decide_eq_true h3] at I3
        have H3 := Lib.hid h3
        clear h3
        by_cases h4 : 0 ≤ r.high ∧ r.high < M
        · rw [decide_eq_true h4] at I4
          have H4 := Lib.hid h4
          clear h4
          by_cases h5 : 0 ≤ r.good ∧ r.good < M
          · rw [decide_eq_true h5] at I5
            have H5 := Lib.hid h5
            clear h5
            by_cases h6 : r.kind = 2 ∧ ¬ r.low ≤ r.high
            · have HN : Hid (¬ isR r) := fun h => h6.2 (h.2.2.2.2.2.2.2.2.2.2.2.1 h6.1)
              obtain ⟨h61, h62⟩ := h6
              have e6 : (r.kind != 2) = false := by simpa using h61
              clear h61
              go_wp2_with fail
              refine I3.out.mono ?_
              rintro e w' ⟨rfl, rfl⟩
              go_wp2_with fail
              refine I4.out.mono ?_
              rintro e w' ⟨rfl, rfl⟩
              go_wp2_with fail
              refine I5.out.mono ?_
              rintro e w' ⟨rfl, rfl⟩
              go_wp2
              go_ret
              exact ⟨by rw [decide_eq_false HN.out]; rfl, HB.out⟩
            · have H6 : Hid (r.kind = 2 → r.low ≤ r.high) := fun hk => Classical.byContradiction fun h => h6 ⟨hk, h⟩
              have HE : Hid (decide (isR r) = takes r r.good) := by
                show _ = _
                have h1 := HOK.out
                have hm := HM.out
                have a3 := H3.out
                have a4 := H4.out
                have a5 := H5.out
                rw [hm] at a3 a4 a5
                rw [Bool.eq_iff_iff, decide_eq_true_eq]
                exact ⟨fun h => h.2.2.2.2.2.2.2.2.2.2.2.2, fun h => ⟨h1.1, h1.2.1, h1.2.2.1, h1.2.2.2.1, h1.2.2.2.2, a3.1, a3.2, a4.1, a4.2, a5.1, a5.2, H6.out, h⟩⟩
              clear h6
              by_cases h7 : r.kind = 2
              · have e7 : (r.kind != 2) = false := by simpa using h7
                have h8 := H6.out h7
                clear h7
                go_wp2_with fail
                refine I3.out.mono ?_
                rintro e w' ⟨rfl, rfl⟩
                go_wp2_with fail
                refine I4.out.mono ?_
                rintro e w' ⟨rfl, rfl⟩
                go_wp2_with fail
                refine I5.out.mono ?_
                rintro e w' ⟨rfl, rfl⟩
                go_wp2_with fail
                refine TK.out.mono ?_
                rintro e w' ⟨rfl, hb⟩
                have HB2 := Lib.hid (HB.out.trans (hb.mono HB.out.size))
                clear hb
                go_wp2
                go_ret
                exact ⟨by rw [HE.out]; rfl, HB2.out⟩
              · have e7 : (r.kind != 2) = true := by simpa using h7
                clear h7
                go_wp2_with fail
                refine I3.out.mono ?_
                rintro e w' ⟨rfl, rfl⟩
                go_wp2_with fail
                refine I4.out.mono ?_
                rintro e w' ⟨rfl, rfl⟩
                go_wp2_with fail
                refine I5.out.mono ?_
                rintro e w' ⟨rfl, rfl⟩
                go_wp2_with fail
                refine TK.out.mono ?_
                rintro e w' ⟨rfl, hb⟩
                have HB2 := Lib.hid (HB.out.trans (hb.mono HB.out.size))
                clear hb
                go_wp2
                go_ret
                exact ⟨by rw [HE.out]; rfl, HB2.out⟩
          · rw [decide_eq_false h5] at I5
            have HN : Hid (¬ isR r) := fun h => h5 (by rw [HM.out]; exact ⟨h.2.2.2.2.2.2.2.2.2.1, h.2.2.2.2.2.2.2.2.2.2.1⟩)
            clear h5
            go_wp2_with fail
            refine I3.out.mono ?_
            rintro e w' ⟨rfl, rfl⟩
            go_wp2_with fail
            refine I4.out.mono ?_
            rintro e w' ⟨rfl, rfl⟩
            go_wp2_with fail
            refine I5.out.mono ?_
            rintro e w' ⟨rfl, rfl⟩
            go_wp2
            go_ret
            exact ⟨by rw [decide_eq_false HN.out]; rfl, HB.out⟩
        · rw [decide_eq_false h4] at I4
          have HN : Hid (¬ isR r) := fun h => h4 (by rw [HM.out]; exact ⟨h.2.2.2.2.2.2.2.1, h.2.2.2.2.2.2.2.2.1⟩)
          clear h4
          go_wp2_with fail
          refine I3.out.mono ?_
          rintro e w' ⟨rfl, rfl⟩
          go_wp2_with fail
          refine I4.out.mono ?_
          rintro e w' ⟨rfl, rfl⟩
          go_wp2
          go_ret
          exact ⟨by rw [decide_eq_false HN.out]; rfl, HB.out⟩
      · rw [decide_eq_false h3] at I3
        have HN : Hid (¬ isR r) := fun h => h3 (by rw [HM.out]; exact ⟨h.2.2.2.2.2.1, h.2.2.2.2.2.2.1⟩)
        clear h3
        go_wp2_with fail
        refine I3.out.mono ?_
        rintro e w' ⟨rfl, rfl⟩
        go_wp2
        go_ret
        exact ⟨by rw [decide_eq_false HN.out]; rfl, HB.out⟩
end Go.Proofs.YtclplbapedmihaaGreat.Ng
namespace Go.Proofs.YtclplbapedmihaaGreat.Ng
set_option maxRecDepth 4000
open Go.RowKit O
set_option linter.unusedVariables false
set_option linter.unusedSimpArgs false
theorem cellB' {B b o : Nat} {w w' : World} {v : Value} (hb : Below B w w') (h : b < B) (hc : w.cell? ⟨b, o, none⟩ = some v) : w'.cell? ⟨b, o, none⟩ = some v := by
  rw [World.cell?_of_block (w := w) (hb.block b h)]; exact hc
set_option maxRecDepth 20000 in
set_option maxHeartbeats 4000000 in
theorem are_any (ao : Option Addr) (n c : Nat) (rs : List Ru) (w : World) (hr : RR w (.slice ao n c) n rs) :
    Calls Tryz.prog 48 #[.slice ao n c] w fun e w' => e = .returned (.bool (decide (areR rs))) ∧ Below w.heap.size w w' := by
  have hl := hr.len
  have HR := Lib.hid hr
  clear hr
  by_cases h16 : n ≤ 16
  · go_enter Tryz.func48, Tryz.ntmps48
    go_wp2
    go_loopw [3, 4] (fun iv kv wr => ∃ (i : Nat) (lv : Value), i ≤ n ∧ iv = .int .i64 (i : Int) ∧ lv = kv ∧ okTo rs i ∧ Below w.heap.size w wr) (fun iv _ _ => n - (intOf iv).toNat)
    case atStart => exact ⟨0, _, Nat.zero_le _, rfl, rfl, fun j hj h => by omega, Below.refl _ _⟩
    case round =>
      obtain ⟨i, lv, hi, rfl, rfl, hok, hb⟩ := hrel
      have HOK := Lib.hid hok
      have HB := Lib.hid hb
      have HBN := Lib.hid hb.size
      clear hok hb
      by_cases hlt : i < n
      · obtain ⟨b, o, rfl, hbl, hc⟩ := HR.out.cells (by omega)
        have HCC := Lib.hid hc
        obtain ⟨wA, hwA⟩ : ∃ x, x = wr := ⟨_, rfl⟩
        subst hwA
        obtain ⟨r, hr⟩ : ∃ r, r = rs[i] := ⟨_, rfl⟩
        have hcw : ∀ w', Below w.heap.size w w' → _ := fun w' hb => And.intro (cellB' hb hbl (hc i (by omega)).1) (And.intro (cellB' hb hbl (hc i (by omega)).2.1) (And.intro (cellB' hb hbl (hc i (by omega)).2.2.1) (And.intro (cellB' hb hbl (hc i (by omega)).2.2.2.1) (And.intro (cellB' hb hbl (hc i (by omega)).2.2.2.2.1) (And.intro (cellB' hb hbl (hc i (by omega)).2.2.2.2.2.1) (cellB' hb hbl (hc i (by omega)).2.2.2.2.2.2))))))
        rw [← hr] at hcw
        have HCW := Lib.hid hcw
        obtain ⟨c0, c1, c2, c3, c4, c5, c6⟩ := hcw wA HB.out
        have HRK := Lib.hid hr
        have IS := Lib.hid (ris_any r wA)
        have hin : (i : Int) < (n : Int) := by omega
        clear hr hc hcw
        by_cases his : isR r
        · rw [decide_eq_true his] at IS
          have HIS := Lib.hid his
          clear his
          go_wp2_with fail
          refine IS.out.mono ?_
          rintro e w2 ⟨rfl, hb2⟩
          have HB2 := Lib.hid (HB.out.trans (hb2.mono HBN.out))
          clear hb2 c0 c1 c2 c3 c4 c5 c6 IS
          go_wp2
          go_loopw [4] (fun kv wr => ∃ k : Nat, k ≤ i ∧ kv = .int .i64 (k : Int) ∧ (∀ j (hj : j < k) (h2 : j < rs.length), rs[j].typ ≠ r.typ) ∧ Below w.heap.size w wr) (fun kv _ => i - (intOf kv).toNat)
          case atStart => exact ⟨0, Nat.zero_le _, rfl, fun j hj => by omega, HB2.out⟩
          case round =>
            obtain ⟨k, hk, rfl, hne, hb3⟩ := hrel
            have HNE := Lib.hid hne
            have HB3 := Lib.hid hb3
            clear hne hb3
            by_cases hlt2 : k < i
            · have HK0 := Lib.hid (HCC.out k (by omega)).1
              have HI0 := Lib.hid (HCW.out w (Below.refl _ _)).1
              obtain ⟨T, hT⟩ : ∃ T, T = rs[k].typ := ⟨_, rfl⟩
              rw [← hT] at HK0
              have HTT := Lib.hid hT
              have hkn : k < n := by omega
              have hkn2 : (k : Int) < (n : Int) := by omega
              have hki : (k : Int) < (i : Int) := by omega
              clear hT
              by_cases ht : T = r.typ
              · have HN : Hid (¬ areR rs) := fun h => by
                  have := (((areR_iff rs).1 h).2 i (by omega) (by omega)).2 k hlt2
                  exact this (by rw [← HTT.out, ← HRK.out, ht])
                have hte : (T == r.typ) = true := by simpa using ht
                clear ht
                go_upto_region 11 with fail
                refine wp_region_G 11 Gr (by kernel_rfl) ?_
                -- 0: slot 25
                refine wpG_take preGr (i := 0) (v := ?_) (by kernel_rfl) (some 25) (by kernel_rfl) rfl (by kernel_rfl) (by kernel_rfl) (by kernel_rfl) (fun _ _ _ h => h) (by rfl) (fun w' hw' => ?_) rfl ?_
                rotate_left
                · try have g0 := cellB' (HB3.out.drew.trans (hw'.mono HB3.out.size)) hbl HK0.out
                  try have g1 := cellB' (HB3.out.drew.trans (hw'.mono HB3.out.size)) hbl HI0.out
                  go_simp
                  with_reducible rfl
                simp only [Act.put, List.setIfInBounds_toArray, List.set_cons_zero, List.set_cons_succ]
                -- 1: slot 26
                refine wpG_take preGr (i := 1) (v := ?_) (by kernel_rfl) (some 26) (by kernel_rfl) rfl (by kernel_rfl) (by kernel_rfl) (by kernel_rfl) (fun _ _ _ h => h) (by rfl) (fun w' hw' => ?_) rfl ?_
                rotate_left
                · try have g0 := cellB' (HB3.out.drew.trans (hw'.mono HB3.out.size)) hbl HK0.out
                  try have g1 := cellB' (HB3.out.drew.trans (hw'.mono HB3.out.size)) hbl HI0.out
                  go_simp
                  with_reducible rfl
                simp only [Act.put, List.setIfInBounds_toArray, List.set_cons_zero, List.set_cons_succ]
                -- 2: slot 27
                refine wpG_take preGr (i := 2) (v := ?_) (by kernel_rfl) (some 27) (by kernel_rfl) rfl (by kernel_rfl) (by kernel_rfl) (by kernel_rfl) (fun _ _ _ h => h) (by rfl) (fun w' hw' => ?_) rfl ?_
                rotate_left
                · try have g0 := cellB' (HB3.out.drew.trans (hw'.mono HB3.out.size)) hbl HK0.out
                  try have g1 := cellB' (HB3.out.drew.trans (hw'.mono HB3.out.size)) hbl HI0.out
                  go_simp
                  with_reducible rfl
                simp only [Act.put, List.setIfInBounds_toArray, List.set_cons_zero, List.set_cons_succ]
                -- 3: slot 28
                refine wpG_take preGr (i := 3) (v := ?_) (by kernel_rfl) (some 28) (by kernel_rfl) rfl (by kernel_rfl) (by kernel_rfl) (by kernel_rfl) (fun _ _ _ h => h) (by rfl) (fun w' hw' => ?_) rfl ?_
                rotate_left
                · try have g0 := cellB' (HB3.out.drew.trans (hw'.mono HB3.out.size)) hbl HK0.out
                  try have g1 := cellB' (HB3.out.drew.trans (hw'.mono HB3.out.size)) hbl HI0.out
                  go_simp
                  with_reducible rfl
                simp only [Act.put, List.setIfInBounds_toArray, List.set_cons_zero, List.set_cons_succ]
                -- 4: slot 29
                refine wpG_take preGr (i := 4) (v := ?_) (by kernel_rfl) (some 29) (by kernel_rfl) rfl (by kernel_rfl) (by kernel_rfl) (by kernel_rfl) (fun _ _ _ h => h) (by rfl) (fun w' hw' => ?_) rfl ?_
                rotate_left
                · try have g0 := cellB' (HB3.out.drew.trans (hw'.mono HB3.out.size)) hbl HK0.out
                  try have g1 := cellB' (HB3.out.drew.trans (hw'.mono HB3.out.size)) hbl HI0.out
                  go_simp
                  with_reducible rfl
                simp only [Act.put, List.setIfInBounds_toArray, List.set_cons_zero, List.set_cons_succ]
                -- 5: slot 30
                refine wpG_take preGr (i := 5) (v := ?_) (by kernel_rfl) (some 30) (by kernel_rfl) rfl (by kernel_rfl) (by kernel_rfl) (by kernel_rfl) (fun _ _ _ h => h) (by rfl) (fun w' hw' => ?_) rfl ?_
                rotate_left
                · try have g0 := cellB' (HB3.out.drew.trans (hw'.mono HB3.out.size)) hbl HK0.out
                  try have g1 := cellB' (HB3.out.drew.trans (hw'.mono HB3.out.size)) hbl HI0.out
                  go_simp
                  with_reducible rfl
                simp only [Act.put, List.setIfInBounds_toArray, List.set_cons_zero, List.set_cons_succ]
                -- 6: slot 31
                refine wpG_take preGr (i := 6) (v := ?_) (by kernel_rfl) (some 31) (by kernel_rfl) rfl (by kernel_rfl) (by kernel_rfl) (by kernel_rfl) (fun _ _ _ h => h) (by rfl) (fun w' hw' => ?_) rfl ?_
                rotate_left
                · try have g0 := cellB' (HB3.out.drew.trans (hw'.mono HB3.out.size)) hbl HK0.out
                  try have g1 := cellB' (HB3.out.drew.trans (hw'.mono HB3.out.size)) hbl HI0.out
                  go_simp
                  with_reducible rfl
                simp only [Act.put, List.setIfInBounds_toArray, List.set_cons_zero, List.set_cons_succ]
                -- 7: slot 32
                refine wpG_take preGr (i := 7) (v := ?_) (by kernel_rfl) (some 32) (by kernel_rfl) rfl (by kernel_rfl) (by kernel_rfl) (by kernel_rfl) (fun _ _ _ h => h) (by rfl) (fun w' hw' => ?_) rfl ?_
                rotate_left
                · try have g0 := cellB' (HB3.out.drew.trans (hw'.mono HB3.out.size)) hbl HK0.out
                  try have g1 := cellB' (HB3.out.drew.trans (hw'.mono HB3.out.size)) hbl HI0.out
                  go_simp
                  with_reducible rfl
                simp only [Act.put, List.setIfInBounds_toArray, List.set_cons_zero, List.set_cons_succ]
                -- 8: slot 33
                refine wpG_take preGr (i := 8) (v := ?_) (by kernel_rfl) (some 33) (by kernel_rfl) rfl (by kernel_rfl) (by kernel_rfl) (by kernel_rfl) (fun _ _ _ h => h) (by rfl) (fun w' hw' => ?_) rfl ?_
                rotate_left
                · try have g0 := cellB' (HB3.out.drew.trans (hw'.mono HB3.out.size)) hbl HK0.out
                  try have g1 := cellB' (HB3.out.drew.trans (hw'.mono HB3.out.size)) hbl HI0.out
                  go_simp
                  with_reducible rfl
                simp only [Act.put, List.setIfInBounds_toArray, List.set_cons_zero, List.set_cons_succ]
                -- 9: slot 34
                refine wpG_take preGr (i := 9) (v := ?_) (by kernel_rfl) (some 34) (by kernel_rfl) rfl (by kernel_rfl) (by kernel_rfl) (by kernel_rfl) (fun _ _ _ h => h) (by rfl) (fun w' hw' => ?_) rfl ?_
                rotate_left
                · try have g0 := cellB' (HB3.out.drew.trans (hw'.mono HB3.out.size)) hbl HK0.out
                  try have g1 := cellB' (HB3.out.drew.trans (hw'.mono HB3.out.size)) hbl HI0.out
                  go_simp
                  with_reducible rfl
                simp only [Act.put, List.setIfInBounds_toArray, List.set_cons_zero, List.set_cons_succ]
                -- 10: slot 35
                refine wpG_take preGr (i := 10) (v := ?_) (by kernel_rfl) (some 35) (by kernel_rfl) rfl (by kernel_rfl) (by kernel_rfl) (by kernel_rfl) (fun _ _ _ h => h) (by rfl) (fun w' hw' => ?_) rfl ?_
                rotate_left
                · try have g0 := cellB' (HB3.out.drew.trans (hw'.mono HB3.out.size)) hbl HK0.out
                  try have g1 := cellB' (HB3.out.drew.trans (hw'.mono HB3.out.size)) hbl HI0.out
                  go_simp
                  with_reducible rfl
                simp only [Act.put, List.setIfInBounds_toArray, List.set_cons_zero, List.set_cons_succ]
                refine wpG_done (by kernel_rfl) ?_ _
                go_wp2
                go_ret
                exact ⟨by rw [decide_eq_false HN.out]; rfl, HB3.out.drew⟩
              · have htf : (T == r.typ) = false := by simpa using ht
                have HT := Lib.hid ht
                clear ht
                go_upto_region 11 with fail
                refine wp_region_G 11 Gr (by kernel_rfl) ?_
                -- 0: slot 25
                refine wpG_take preGr (i := 0) (v := ?_) (by kernel_rfl) (some 25) (by kernel_rfl) rfl (by kernel_rfl) (by kernel_rfl) (by kernel_rfl) (fun _ _ _ h => h) (by rfl) (fun w' hw' => ?_) rfl ?_
                rotate_left
                · try have g0 := cellB' (HB3.out.drew.trans (hw'.mono HB3.out.size)) hbl HK0.out
                  try have g1 := cellB' (HB3.out.drew.trans (hw'.mono HB3.out.size)) hbl HI0.out
                  go_simp
                  with_reducible rfl
                simp only [Act.put, List.setIfInBounds_toArray, List.set_cons_zero, List.set_cons_succ]
                -- 1: slot 26
                refine wpG_take preGr (i := 1) (v := ?_) (by kernel_rfl) (some 26) (by kernel_rfl) rfl (by kernel_rfl) (by kernel_rfl) (by kernel_rfl) (fun _ _ _ h => h) (by rfl) (fun w' hw' => ?_) rfl ?_
                rotate_left
                · try have g0 := cellB' (HB3.out.drew.trans (hw'.mono HB3.out.size)) hbl HK0.out
                  try have g1 := cellB' (HB3.out.drew.trans (hw'.mono HB3.out.size)) hbl HI0.out
                  go_simp
                  with_reducible rfl
                simp only [Act.put, List.setIfInBounds_toArray, List.set_cons_zero, List.set_cons_succ]
                -- 2: slot 27
                refine wpG_take preGr (i := 2) (v := ?_) (by kernel_rfl) (some 27) (by kernel_rfl) rfl (by kernel_rfl) (by kernel_rfl) (by kernel_rfl) (fun _ _ _ h => h) (by rfl) (fun w' hw' => ?_) rfl ?_
                rotate_left
                · try have g0 := cellB' (HB3.out.drew.trans (hw'.mono HB3.out.size)) hbl HK0.out
                  try have g1 := cellB' (HB3.out.drew.trans (hw'.mono HB3.out.size)) hbl HI0.out
                  go_simp
                  with_reducible rfl
                simp only [Act.put, List.setIfInBounds_toArray, List.set_cons_zero, List.set_cons_succ]
                -- 3: slot 28
                refine wpG_take preGr (i := 3) (v := ?_) (by kernel_rfl) (some 28) (by kernel_rfl) rfl (by kernel_rfl) (by kernel_rfl) (by kernel_rfl) (fun _ _ _ h => h) (by rfl) (fun w' hw' => ?_) rfl ?_
                rotate_left
                · try have g0 := cellB' (HB3.out.drew.trans (hw'.mono HB3.out.size)) hbl HK0.out
                  try have g1 := cellB' (HB3.out.drew.trans (hw'.mono HB3.out.size)) hbl HI0.out
                  go_simp
                  with_reducible rfl
                simp only [Act.put, List.setIfInBounds_toArray, List.set_cons_zero, List.set_cons_succ]
                -- 4: slot 29
                refine wpG_take preGr (i := 4) (v := ?_) (by kernel_rfl) (some 29) (by kernel_rfl) rfl (by kernel_rfl) (by kernel_rfl) (by kernel_rfl) (fun _ _ _ h => h) (by rfl) (fun w' hw' => ?_) rfl ?_
                rotate_left
                · try have g0 := cellB' (HB3.out.drew.trans (hw'.mono HB3.out.size)) hbl HK0.out
                  try have g1 := cellB' (HB3.out.drew.trans (hw'.mono HB3.out.size)) hbl HI0.out
                  go_simp
                  with_reducible rfl
                simp only [Act.put, List.setIfInBounds_toArray, List.set_cons_zero, List.set_cons_succ]
                -- 5: slot 30
                refine wpG_take preGr (i := 5) (v := ?_) (by kernel_rfl) (some 30) (by kernel_rfl) rfl (by kernel_rfl) (by kernel_rfl) (by kernel_rfl) (fun _ _ _ h => h) (by rfl) (fun w' hw' => ?_) rfl ?_
                rotate_left
                · try have g0 := cellB' (HB3.out.drew.trans (hw'.mono HB3.out.size)) hbl HK0.out
                  try have g1 := cellB' (HB3.out.drew.trans (hw'.mono HB3.out.size)) hbl HI0.out
                  go_simp
                  with_reducible rfl
                simp only [Act.put, List.setIfInBounds_toArray, List.set_cons_zero, List.set_cons_succ]
                -- 6: slot 31
                refine wpG_take preGr (i := 6) (v := ?_) (by kernel_rfl) (some 31) (by kernel_rfl) rfl (by kernel_rfl) (by kernel_rfl) (by kernel_rfl) (fun _ _ _ h => h) (by rfl) (fun w' hw' => ?_) rfl ?_
                rotate_left
                · try have g0 := cellB' (HB3.out.drew.trans (hw'.mono HB3.out.size)) hbl HK0.out
                  try have g1 := cellB' (HB3.out.drew.trans (hw'.mono HB3.out.size)) hbl HI0.out
                  go_simp
                  with_reducible rfl
                simp only [Act.put, List.setIfInBounds_toArray, List.set_cons_zero, List.set_cons_succ]
                -- 7: slot 32
                refine wpG_take preGr (i := 7) (v := ?_) (by kernel_rfl) (some 32) (by kernel_rfl) rfl (by kernel_rfl) (by kernel_rfl) (by kernel_rfl) (fun _ _ _ h => h) (by rfl) (fun w' hw' => ?_) rfl ?_
                rotate_left
                · try have g0 := cellB' (HB3.out.drew.trans (hw'.mono HB3.out.size)) hbl HK0.out
                  try have g1 := cellB' (HB3.out.drew.trans (hw'.mono HB3.out.size)) hbl HI0.out
                  go_simp
                  with_reducible rfl
                simp only [Act.put, List.setIfInBounds_toArray, List.set_cons_zero, List.set_cons_succ]
                -- 8: slot 33
                refine wpG_take preGr (i := 8) (v := ?_) (by kernel_rfl) (some 33) (by kernel_rfl) rfl (by kernel_rfl) (by kernel_rfl) (by kernel_rfl) (fun _ _ _ h => h) (by rfl) (fun w' hw' => ?_) rfl ?_
                rotate_left
                · try have g0 := cellB' (HB3.out.drew.trans (hw'.mono HB3.out.size)) hbl HK0.out
                  try have g1 := cellB' (HB3.out.drew.trans (hw'.mono HB3.out.size)) hbl HI0.out
                  go_simp
                  with_reducible rfl
                simp only [Act.put, List.setIfInBounds_toArray, List.set_cons_zero, List.set_cons_succ]
                -- 9: slot 34
                refine wpG_take preGr (i := 9) (v := ?_) (by kernel_rfl) (some 34) (by kernel_rfl) rfl (by kernel_rfl) (by kernel_rfl) (by kernel_rfl) (fun _ _ _ h => h) (by rfl) (fun w' hw' => ?_) rfl ?_
                rotate_left
                · try have g0 := cellB' (HB3.out.drew.trans (hw'.mono HB3.out.size)) hbl HK0.out
                  try have g1 := cellB' (HB3.out.drew.trans (hw'.mono HB3.out.size)) hbl HI0.out
                  go_simp
                  with_reducible rfl
                simp only [Act.put, List.setIfInBounds_toArray, List.set_cons_zero, List.set_cons_succ]
                -- 10: slot 35
                refine wpG_take preGr (i := 10) (v := ?_) (by kernel_rfl) (some 35) (by kernel_rfl) rfl (by kernel_rfl) (by kernel_rfl) (by kernel_rfl) (fun _ _ _ h => h) (by rfl) (fun w' hw' => ?_) rfl ?_
                rotate_left
                · try have g0 := cellB' (HB3.out.drew.trans (hw'.mono HB3.out.size)) hbl HK0.out
                  try have g1 := cellB' (HB3.out.drew.trans (hw'.mono HB3.out.size)) hbl HI0.out
                  go_simp
                  with_reducible rfl
                simp only [Act.put, List.setIfInBounds_toArray, List.set_cons_zero, List.set_cons_succ]
                refine wpG_done (by kernel_rfl) ?_ _
                go_wp2
                go_roundw
                case rel =>
                  have HN1 : ∀ j (hj : j < k + 1) (h2 : j < rs.length), rs[j].typ ≠ r.typ := fun j hj h2 => by
                    by_cases e : j = k
                    · subst e; rw [← HTT.out]; exact HT.out
                    · exact HNE.out j (by omega) h2
                  first | exact ⟨k + 1, by omega, by go_num, HN1, HB3.out.drew⟩ | ((repeat apply Exists.intro); exact ⟨⟨k + 1, by omega, by go_num, HN1, HB3.out.drew⟩, rfl⟩)
                case measure => simp [intOf]; omega
            · obtain rfl : k = i := by omega
              have HOK2 : Hid (okTo rs (k + 1)) := HOK.out.next (by omega) (by rw [← HRK.out]; exact HIS.out) (fun j hj => by rw [← HRK.out]; exact HNE.out j hj (by omega))
              go_wp2
              go_roundw
              case rel =>
                first | exact ⟨k + 1, _, by omega, by go_num, rfl, HOK2.out, HB3.out⟩ | ((repeat apply Exists.intro); exact ⟨⟨k + 1, _, by omega, by go_num, rfl, HOK2.out, HB3.out⟩, rfl⟩)
              case measure => simp [intOf]; omega
        · rw [decide_eq_false his] at IS
          have HN : Hid (¬ areR rs) := fun h => his (by
            have := (((areR_iff rs).1 h).2 i (by omega) (by omega)).1
            rwa [← HRK.out] at this)
          clear his
          go_wp2_with fail
          refine IS.out.mono ?_
          rintro e w2 ⟨rfl, hb2⟩
          have HB2 := Lib.hid (HB.out.trans (hb2.mono HBN.out))
          clear hb2
          go_wp2
          go_ret
          exact ⟨by rw [decide_eq_false HN.out]; rfl, HB2.out⟩
      · obtain rfl : i = n := by omega
        have HA : Hid (areR rs) := (areR_iff rs).2 ⟨by omega, by rw [hl]; exact HOK.out⟩
        go_wp2
        go_ret
        exact ⟨by rw [decide_eq_true HA.out]; rfl, HB.out⟩
  · have HN : Hid (¬ areR rs) := fun h => h16 (by rw [← hl]; exact h.1)
    have hlt : (16 : Int) < (n : Int) := by omega
    clear h16
    go_enter Tryz.func48, Tryz.ntmps48
    go_wp2
    go_ret
    exact ⟨by rw [decide_eq_false HN.out]; rfl, Below.refl _ _⟩
theorem has_any (ao : Option Addr) (n c : Nat) (ts : List Tg) (t : Int) (w : World) (hr : TR w (.slice ao n c) n ts) (hn : n ≤ 1000) :
    Calls Tryz.prog 53 #[.slice ao n c, .int .i64 t] w fun e w' => e = .returned (.bool (hasT (plain ts) t)) ∧ w = w' := by
  have hl := hr.len
  have HR := Lib.hid hr
  clear hr
  go_enter Tryz.func53, Tryz.ntmps53
  go_wp2
  go_loopw [5] (fun iv wr => ∃ k : Nat, k ≤ n ∧ iv = .int .i64 k ∧ (∀ j (hj : j < k) (h2 : j < ts.length), ts[j].typ ≠ t) ∧ w = wr) (fun iv _ => n - (intOf iv).toNat)
  case atStart => exact ⟨0, Nat.zero_le _, rfl, fun j hj => by omega, rfl⟩
  case round =>
    obtain ⟨k, hk, rfl, hne, rfl⟩ := hrel
    have HNE := Lib.hid hne
    clear hne
    by_cases hlt : k < n
    · obtain ⟨b, o, rfl, hbl, hc⟩ := HR.out.cells (by omega)
      have hc0 := (hc k (by omega)).1
      obtain ⟨T, hT⟩ : ∃ T, T = ts[k].typ := ⟨_, rfl⟩
      rw [← hT] at hc0
      have HTT := Lib.hid hT
      clear hT hc
      by_cases ht : T = t
      · have HF : Hid (hasT (plain ts) t = true) := by
          show _ = _
          rw [hasT_iff]
          exact ⟨ts[k].plain, List.mem_map.2 ⟨_, List.getElem_mem _, rfl⟩, by rw [← ht, HTT.out]; rfl⟩
        have e1 : (T == t) = true := by simpa using ht
        clear ht
        go_wp2
        go_ret
        exact ⟨by rw [HF.out]; rfl, rfl⟩
      · have e1 : (T == t) = false := by simpa using ht
        have HT := Lib.hid ht
        clear ht
        go_wp2
        go_roundw
        case rel =>
          have HN1 : ∀ j (hj : j < k + 1) (h2 : j < ts.length), ts[j].typ ≠ t := fun j hj h2 => by
            by_cases e : j = k
            · subst e; rw [← HTT.out]; exact HT.out
            · exact HNE.out j (by omega) h2
          first | exact ⟨k + 1, by omega, by go_num, HN1, trivial⟩ | exact ⟨k + 1, by omega, by go_num, HN1, rfl⟩ | ((repeat apply Exists.intro); exact ⟨⟨k + 1, by omega, by go_num, HN1, trivial⟩, rfl⟩)
        case measure => simp [intOf]; omega
    · obtain rfl : k = n := by omega
      have HF : Hid (hasT (plain ts) t = false) := by
        show _ = _
        rw [Bool.eq_false_iff]
        intro e
        obtain ⟨x, hx, e⟩ := hasT_iff.1 e
        obtain ⟨y, hy, rfl⟩ := List.mem_map.1 hx
        obtain ⟨i, hi, rfl⟩ := List.mem_iff_getElem.1 hy
        exact HNE.out i (by omega) hi e
      go_wp2
      go_ret
      exact ⟨by rw [HF.out]; rfl, rfl⟩
theorem takeN_pow (l : List UInt8) : ∀ k, k ≤ l.length → takeN l k < 256 ^ k
  | 0, _ => by rw [takeN_zero]; decide
  | k + 1, h => by
    have ih := takeN_pow l k (by omega)
    have hb := UInt8.toNat_lt l[k]
    rw [takeN_succ l k (by omega), Nat.pow_succ]
    omega
set_option maxRecDepth 20000 in
theorem number_any (T : Int) (A : Option Addr) (L C : Nat) (l : List UInt8) (hL : l.length = L) (h4 : L ≤ 4) (w : World) (hb : Bs w (.slice A L C) l) :
    Calls Tryz.prog 55 #[.agg #[.int .i64 T, .slice A L C]] w fun e w' => e = .returned (.int .i64 (num (T, l))) ∧ Below w.heap.size w w' := by
  have HAL : Hid (Gr w (w.alloc (.cells #[.int .i64 T, .slice A L C] 69))) := (Gr.refl w).alloc _
  have HG0 : Hid ((w.alloc (.cells #[.int .i64 T, .slice A L C] 69)).heap[w.heap.size]? = some (.cells #[.int .i64 T, .slice A L C] 69)) := heap_alloc_last _ _
  have HLL := Lib.hid hL
  have HB := Lib.hid hb
  clear hb hL
  go_enter Tryz.func55, Tryz.ntmps55
  go_wp2
  go_loopw [3, 4] (fun nv iv wr => ∃ k m : Nat, k ≤ L ∧ m = takeN l k ∧ iv = .int .i64 k ∧ nv = .int .i64 (m : Nat) ∧ wr.heap[w.heap.size]? = some (.cells #[.int .i64 T, .slice A L C] 69) ∧ Gr w wr) (fun _ iv _ => L - (intOf iv).toNat)
  case atStart => exact ⟨0, 0, Nat.zero_le _, (takeN_zero l).symm, rfl, rfl, HG0.out, HAL.out⟩
  case round =>
    obtain ⟨k, m, hk, hm, rfl, rfl, hg, hgr⟩ := hrel
    have HG := Lib.hid hg
    have HGR := Lib.hid hgr
    obtain ⟨k0, k1⟩ := copy_cells hg
    clear hg hgr
    by_cases hlt : k < L
    · obtain ⟨b, o, rfl, hbl, hc⟩ := (HB.out.below HGR.out).cells (by rw [HLL.out]; omega)
      have hck := hc k (by rw [HLL.out]; exact hlt)
      have hm' : m < 4294967296 := by rw [hm]; exact Nat.lt_of_lt_of_le (takeN_pow l k (by rw [HLL.out]; omega)) (Nat.pow_le_pow_right (by decide) (show k ≤ 4 by omega))
      have hb8 := UInt8.toNat_lt (l[k]'(by rw [HLL.out]; exact hlt))
      have HST : Hid (takeN l (k + 1) = 256 * m + (l[k]'(by rw [HLL.out]; exact hlt)).toNat) := by
        show _ = _
        rw [takeN_succ l k (by rw [HLL.out]; exact hlt), hm, Nat.mul_comm]
      obtain ⟨B, hB⟩ : ∃ B, B = (l[k]'(by rw [HLL.out]; exact hlt)).toNat := ⟨_, rfl⟩
      rw [← hB] at hck hb8 HST
      have hkl : (k : Int) < (L : Int) := by omega
      clear hm hc hB
      go_wp2
      go_roundw
      case rel =>
        have hst := HST.out
        first | exact ⟨k + 1, 256 * m + B, by omega, hst.symm, by go_num, by go_num, HG.out, HGR.out⟩ | ((repeat apply Exists.intro); exact ⟨⟨k + 1, 256 * m + B, by omega, hst.symm, by go_num, by go_num, HG.out, HGR.out⟩, rfl⟩)
      case measure => simp [intOf]; omega
    · obtain rfl : k = L := by omega
      have HM : Hid (num (T, l) = (m : Int)) := by
        show _ = _
        unfold num
        rw [hm]
        show ((takeN l l.length : Nat) : Int) = _
        rw [HLL.out]
      clear hm
      go_wp2
      go_ret
      exact ⟨by rw [HM.out]; rfl, HGR.out⟩
end Go.Proofs.YtclplbapedmihaaGreat.Ng
namespace Go.Proofs.YtclplbapedmihaaGreat.Ng
set_option maxRecDepth 4000
open Go.RowKit O
set_option linter.unusedVariables false
set_option linter.unusedSimpArgs false
def Alike (ts us : List Tg) (k : Nat) : Prop := (plain ts).take k = (plain us).take k
theorem Alike.zero (ts us : List Tg) : Alike ts us 0 := rfl
theorem Alike.next {ts us : List Tg} {k : Nat} (h : Alike ts us k) (h1 : k < ts.length) (h2 : k < us.length) (e : (ts[k].typ, ts[k].l) = (us[k].typ, us[k].l)) : Alike ts us (k + 1) := by
  unfold Alike at *
  rw [List.take_succ_eq_append_getElem (by rw [plain_length]; exact h1), List.take_succ_eq_append_getElem (by rw [plain_length]; exact h2), h, plain_get ts k h1, plain_get us k h2, e]
theorem Alike.all {ts us : List Tg} {n : Nat} (h : Alike ts us n) (h1 : ts.length = n) (h2 : us.length = n) : plain ts = plain us := by
  unfold Alike at h
  rwa [List.take_of_length_le (by rw [plain_length]; omega), List.take_of_length_le (by rw [plain_length]; omega)] at h
theorem plain_at {ts us : List Tg} (h : plain ts = plain us) (i : Nat) (h1 : i < ts.length) (h2 : i < us.length) : (ts[i].typ, ts[i].l) = (us[i].typ, us[i].l) := by
  have e1 := plain_get ts i h1
  have e2 := plain_get us i h2
  have h3 : (plain ts)[i]'(by rw [plain_length]; exact h1) = (plain us)[i]'(by rw [plain_length]; exact h2) := by simp only [h]
  rw [e1, e2] at h3
  exact h3
theorem plain_len {ts us : List Tg} (h : plain ts = plain us) : ts.length = us.length := by
  have := congrArg List.length h; rwa [plain_length, plain_length] at this
end Go.Proofs.YtclplbapedmihaaGreat.Ng
namespace Go.Proofs.YtclplbapedmihaaGreat.Ng
set_option maxRecDepth 4000
open Go.RowKit O
set_option linter.unusedVariables false
set_option linter.unusedSimpArgs false
/-- A row of options of the call's own, whose data lie elsewhere. -/
def RO (w0 w : World) (base : Nat) (v : Value) (l : List PT) : Prop := ∃ R : List Tg, plain R = l ∧ w.ownsRow base 69 2 v R.length (flat R) ∧ ∀ t ∈ R, Bs w0 t.val t.l
/-- Three rows of the call's own: what is refused; what is not taken; what would be. -/
structure D3 (w : World) (rl bl nl : List PT) (rv bv nv : Value) (wr : World) : Prop where
  low : Below w.heap.size w wr
  r : RO w wr w.heap.size rv rl
  b : RO w wr w.heap.size bv bl
  n : ∃ N, plain N = nl ∧ TO wr w.heap.size nv N
  rb : ∀ k ∈ blk rv, k ∉ blk bv
  rn : ∀ k ∈ blk rv, k ∉ blk nv
  bn : ∀ k ∈ blk bv, k ∉ blk nv
theorem RO.gr {w0 w w' : World} {base : Nat} {v : Value} {l : List PT} (h : RO w0 w base v l) (hb : Below w.heap.size w w') : RO w0 w' base v l := by
  obtain ⟨R, h1, h2, h3⟩ := h
  exact ⟨R, h1, ownsRow_below h2 hb, h3⟩
theorem D3.gr {w wr w' : World} {rl bl nl : List PT} {rv bv nv : Value} (h : D3 w rl bl nl rv bv nv wr) (hb : Below wr.heap.size wr w') : D3 w rl bl nl rv bv nv w' := by
  obtain ⟨N, h1, h2⟩ := h.n
  exact ⟨h.low.trans (hb.mono h.low.size), h.r.gr hb, h.b.gr hb, ⟨N, h1, h2.below hb⟩, h.rb, h.rn, h.bn⟩
theorem RO.far {w0 w w' : World} {base : Nat} {u v v' : Value} {l : List PT} (h : RO w0 w base u l) (hd : ∀ k ∈ blk u, k ∉ blk v) (hg : w.grownBy w' v.ownBlock) (hw : ∀ k ∈ blk v', k ∈ blk v ∨ w.heap.size ≤ k) : RO w0 w' base u l ∧ ∀ k ∈ blk u, k ∉ blk v' := by
  obtain ⟨R, h1, h2, h3⟩ := h
  have := far_grow h2 hd hg hw
  exact ⟨⟨R, h1, this.1, h3⟩, this.2⟩
theorem TO.far {w w' : World} {base : Nat} {u v v' : Value} {N xs : List Tg} {m : Nat} (h : TO w base u N) (hd : ∀ k ∈ blk u, k ∉ blk v) (hown : w.ownsRow base 69 2 v m (flat xs)) (hg : w.grownBy w' v.ownBlock) (hw : ∀ k ∈ blk v', k ∈ blk v ∨ w.heap.size ≤ k) : TO w' base u N ∧ ∀ k ∈ blk u, k ∉ blk v' := by
  have := far_grow h.own hd hg hw
  exact ⟨⟨this.1, fun t ht => (h.vals t ht).kept hg (own_ne_block (h.vals t ht) hown (by decide))⟩, this.2⟩
theorem RO.own {w0 w : World} {base : Nat} {v : Value} {l : List PT} (h : RO w0 w base v l) : ∃ R : List Tg, plain R = l ∧ R.length = l.length ∧ w.ownsRow base 69 2 v l.length (flat R) ∧ ∀ t ∈ R, Bs w0 t.val t.l := by
  obtain ⟨R, h1, h2, h3⟩ := h
  have e : R.length = l.length := by rw [← h1, plain_length]
  exact ⟨R, h1, e, by rw [← e]; exact h2, h3⟩
theorem D3.zero (w : World) : D3 w [] [] [] (.slice none 0 0) (.slice none 0 0) (.slice none 0 0) w :=
  ⟨Below.refl _ _, ⟨[], rfl, World.ownsRow_nil _ _ _ _, fun t h => by cases h⟩, ⟨[], rfl, World.ownsRow_nil _ _ _ _, fun t h => by cases h⟩, ⟨[], rfl, TO.nil _ _⟩, (fun k h => by cases h), (fun k h => by cases h), (fun k h => by cases h)⟩
end Go.Proofs.YtclplbapedmihaaGreat.Ng
namespace Go.Proofs.YtclplbapedmihaaGreat.Ng
set_option maxRecDepth 4000
open Go.RowKit O
set_option linter.unusedVariables false
set_option linter.unusedSimpArgs false
/-- What follow tells. -/
def FRes (x : List PT × Bool) (w : World) (e : Ending) (w' : World) : Prop := ∃ a m c us, e = .returned (.tuple #[.slice a m c, .bool x.2]) ∧ plain us = x.1 ∧ TR w' (.slice a m c) m us ∧ Below w.heap.size w w'
theorem FRes.of {x : List PT × Bool} {w w' : World} (l : List PT) (b : Bool) (a : Option Addr) (m c : Nat) (us : List Tg) (h : x = (l, b)) (h1 : plain us = l) (h2 : TR w' (.slice a m c) m us) (h3 : Below w.heap.size w w') : FRes x w (.returned (.tuple #[.slice a m c, .bool b])) w' := by
  subst h
  exact ⟨a, m, c, us, rfl, h1, h2, h3⟩
end Go.Proofs.YtclplbapedmihaaGreat.Ng
namespace Go.Proofs.YtclplbapedmihaaGreat.Ng
set_option maxRecDepth 4000
open Go.RowKit O
set_option linter.unusedVariables false
set_option linter.unusedSimpArgs false
end Go.Proofs.YtclplbapedmihaaGreat.Ng
namespace Go.Proofs.YtclplbapedmihaaGreat.Ng
set_option maxRecDepth 4000
open Go.RowKit O
set_option linter.unusedVariables false
set_option linter.unusedSimpArgs false
/-- The row that was handed in, or one that the call made, of bytes that could be read ahead of it. -/
def Kept (v0 : Value) (n0 : Nat) (qs : List Tg) (w w' : World) (v : Value) (m : Nat) (us : List Tg) : Prop := (v = v0 ∧ m = n0 ∧ us = qs) ∨ (w'.ownsRow w.heap.size 69 2 v m (flat us) ∧ ∀ x ∈ us, Bs w x.val x.l)
theorem Kept.tr {v0 : Value} {n0 : Nat} {qs : List Tg} {w w' : World} {v : Value} {m : Nat} {us : List Tg} (h : Kept v0 n0 qs w w' v m us) (h0 : TR w v0 n0 qs) (hb : Below w.heap.size w w') : TR w' v m us := by
  rcases h with ⟨rfl, rfl, rfl⟩ | ⟨h1, h2⟩
  · exact h0.below hb
  · exact ⟨own_rd h1, fun x hx => (h2 x hx).below hb⟩
/-- What the document's Learn tells. -/
def RLRes (v0 : Value) (n0 : Nat) (qs : List Tg) (x : List PT × Bool) (w : World) (e : Ending) (w' : World) : Prop := ∃ a m c us, e = .returned (.tuple #[.slice a m c, .bool x.2]) ∧ plain us = x.1 ∧ Kept v0 n0 qs w w' (.slice a m c) m us ∧ Below w.heap.size w w'
theorem RLRes.of {v0 : Value} {n0 : Nat} {qs : List Tg} {x : List PT × Bool} {w w' : World} (l : List PT) (b : Bool) (a : Option Addr) (m c : Nat) (us : List Tg) (h : x = (l, b)) (h1 : plain us = l) (h2 : Kept v0 n0 qs w w' (.slice a m c) m us) (h3 : Below w.heap.size w w') : RLRes v0 n0 qs x w (.returned (.tuple #[.slice a m c, .bool b])) w' := by
  subst h
  exact ⟨a, m, c, us, rfl, h1, h2, h3⟩
theorem RO.only {w0 w w' : World} {base g : Nat} {v : Value} {l : List PT} (h : RO w0 w base v l) (ho : Only g w w') (hg : ∀ k ∈ blk v, k ≠ g) : RO w0 w' base v l := by
  obtain ⟨R, h1, h2, h3⟩ := h
  exact ⟨R, h1, own_keepW h2 fun k hk => ho.heap k (own_blk h2 k hk).2 (hg k hk), h3⟩
theorem RO.tr {v0 : Value} {n0 : Nat} {qs : List Tg} {w w' : World} {v : Value} {l : List PT} (h : RO w w' w.heap.size v l) (hb : Below w.heap.size w w') : ∃ a m c us, v = .slice a m c ∧ plain us = l ∧ Kept v0 n0 qs w w' (.slice a m c) m us := by
  obtain ⟨R, h1, h2, h3⟩ := h
  obtain ⟨a, c, rfl, _, _⟩ := (own_rd h2).shape
  exact ⟨a, R.length, c, R, rfl, h1, .inr ⟨h2, h3⟩⟩
/-- One option more. -/
theorem RO.more {w0 w2 : World} {base : Nat} {v' : Value} {l : List PT} {R : List Tg} {t : Tg} (hR : plain R = l) (hv : ∀ t ∈ R, Bs w0 t.val t.l) (ht : Bs w0 t.val t.l) (ho : w2.ownsRow base 69 2 v' (l.length + 1) (flat R ++ [.int .i64 t.typ, t.val])) : RO w0 w2 base v' (l ++ [t.plain]) := by
  refine ⟨R ++ [t], by rw [plain_append, hR]; rfl, ?_, fun x hx => ?_⟩
  · have e : (R ++ [t]).length = l.length + 1 := by rw [List.length_append, ← hR, plain_length]; rfl
    rw [e, flat_append]
    exact ho
  · rcases List.mem_append.1 hx with hx | hx
    · exact hv x hx
    · rw [List.mem_singleton.1 hx]; exact ht
end Go.Proofs.YtclplbapedmihaaGreat.Ng
namespace Go.Proofs.YtclplbapedmihaaGreat.Ng
set_option maxRecDepth 4000
open Go.RowKit O
set_option linter.unusedVariables false
set_option linter.unusedSimpArgs false
/-- What the document's Answer tells: a code, and options that are read. -/
def RRes (x : Int × List PT) (w : World) (e : Ending) (w' : World) : Prop := ∃ a m c us, e = .returned (.tuple #[.int .i64 x.1, .slice a m c]) ∧ plain us = x.2 ∧ TR w' (.slice a m c) m us ∧ Below w.heap.size w w'
theorem RRes.of {x : Int × List PT} {w w' : World} (k : Int) (l : List PT) (a : Option Addr) (m c : Nat) (us : List Tg) (h : x = (k, l)) (h1 : plain us = l) (h2 : TR w' (.slice a m c) m us) (h3 : Below w.heap.size w w') : RRes x w (.returned (.tuple #[.int .i64 k, .slice a m c])) w' := by
  subst h
  exact ⟨a, m, c, us, rfl, h1, h2, h3⟩
end Go.Proofs.YtclplbapedmihaaGreat.Ng
namespace Go.Proofs.YtclplbapedmihaaGreat.Ng
set_option maxRecDepth 4000
open Go.RowKit O
set_option linter.unusedVariables false
set_option linter.unusedSimpArgs false
end Go.Proofs.YtclplbapedmihaaGreat.Ng
