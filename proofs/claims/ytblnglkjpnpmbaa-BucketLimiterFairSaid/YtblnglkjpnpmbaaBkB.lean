/-
  The document's Rated, Check, Full, At, Take (rates and buckets), whatever comes.
-/
import Derived.Test.YtblnglkjpnpmbaaBkA
import Derived.Deep.DeepCutAuto
namespace Go.Proofs.Ytblnglkjpnpmbaa.Bk
open Go.RowKit
set_option linter.unusedVariables false
set_option linter.unusedSimpArgs false

theorem rated_any (re rm : Int) (w : World) :
    Calls Try.prog 30 #[.agg #[.int .i64 re, .int .i64 rm]] w fun e w' => e = .returned (.bool (decide (okR ⟨re, rm⟩))) ∧ Below w.heap.size w w' := by
  have HB : Hid (Below w.heap.size w (w.alloc (.cells #[.int .i64 re, .int .i64 rm] 23))) := (Below.refl _ _).alloc (Nat.le_refl _) _
  have hok : okR ⟨re, rm⟩ ↔ 0 ≤ re ∧ re ≤ 1048576 ∧ 1 ≤ rm ∧ rm ≤ 1048576 := Iff.rfl
  have hc : (0 ≤ re ∧ re ≤ 1048576 ∧ 1 ≤ rm ∧ rm ≤ 1048576) ∨ re < 0 ∨ (0 ≤ re ∧ 1048576 < re) ∨ (0 ≤ re ∧ re ≤ 1048576 ∧ rm < 1) ∨ (0 ≤ re ∧ re ≤ 1048576 ∧ 1 ≤ rm ∧ 1048576 < rm) := by omega
  obtain ⟨b, hb⟩ : ∃ b, b = decide (okR ⟨re, rm⟩) := ⟨_, rfl⟩
  rw [← hb]
  have HOK := Lib.hid hok
  have HBB := Lib.hid hb
  clear hok hb
  rcases hc with ⟨h1, h2, h3, h4⟩ | h1 | ⟨h1, h2⟩ | ⟨h1, h2, h3⟩ | ⟨h1, h2, h3, h4⟩
  · obtain rfl : b = true := by rw [HBB.out]; exact decide_eq_true (HOK.out.2 ⟨h1, h2, h3, h4⟩)
    go_enter Try.func30, Try.ntmps30
    go_wp2
    go_ret
    exact ⟨rfl, HB.out⟩
  all_goals
    obtain rfl : b = false := by rw [HBB.out]; exact decide_eq_false fun h => by have := HOK.out.1 h; omega
    go_enter Try.func30, Try.ntmps30
    go_wp2
    go_ret
    exact ⟨by first | rfl | (simp <;> omega), HB.out⟩
theorem rcheck_any (re rm : Int) (w : World) :
    Calls Try.prog 14 #[.agg #[.int .i64 re, .int .i64 rm]] w fun e w' => e = .returned (.int .i64 (ckE ⟨re, rm⟩)) ∧ Below w.heap.size w w' := by
  have HB : Hid (Below w.heap.size w (w.alloc (.cells #[.int .i64 re, .int .i64 rm] 23))) := (Below.refl _ _).alloc (Nat.le_refl _) _
  have HC := Lib.hid (fun w => rated_any re rm w)
  have HE : Hid (ckE ⟨re, rm⟩ = if decide (okR ⟨re, rm⟩) then 0 else 100) := by
    show _ = _
    unfold ckE
    by_cases h : okR ⟨re, rm⟩ <;> simp [h]
  obtain ⟨b, hb⟩ : ∃ b, b = decide (okR ⟨re, rm⟩) := ⟨_, rfl⟩
  rw [← hb] at HE HC
  clear hb
  go_enter Try.func14, Try.ntmps14
  go_wp2_with fail
  generalize (w.alloc (.cells #[.int .i64 re, .int .i64 rm] 23)) = w1 at HB ⊢
  refine (HC.out _).mono ?_
  rintro e w2 ⟨rfl, hb2⟩
  have HB2 := Lib.hid (HB.out.trans (hb2.mono HB.out.size))
  clear hb2
  cases b
  · go_wp2
    go_ret
    exact ⟨by rw [HE.out]; rfl, HB2.out⟩
  · go_wp2
    go_ret
    exact ⟨by rw [HE.out]; rfl, HB2.out⟩
theorem rfull_any (re rm : Int) (w : World) :
    Calls Try.prog 16 #[.agg #[.int .i64 re, .int .i64 rm]] w fun e w' => e = .returned (.agg #[.int .i64 (full ⟨re, rm⟩).k, .int .i64 (full ⟨re, rm⟩).t]) ∧ Below w.heap.size w w' := by
  have HB : Hid (Below w.heap.size w ((w.alloc (.cells #[.int .i64 re, .int .i64 rm] 23)).alloc (.cells #[.int .i64 0, .int .i64 0] 25))) := boxed_two _ _ _
  have HG0 : Hid (((w.alloc (.cells #[.int .i64 re, .int .i64 rm] 23)).alloc (.cells #[.int .i64 0, .int .i64 0] 25)).heap[w.heap.size]? = some (.cells #[.int .i64 re, .int .i64 rm] 23 (0, 0))) := boxed_0 _ _ _
  have HG1 : Hid (((w.alloc (.cells #[.int .i64 re, .int .i64 rm] 23)).alloc (.cells #[.int .i64 0, .int .i64 0] 25)).heap[w.heap.size + 1]? = some (.cells #[.int .i64 0, .int .i64 0] 25 (0, 0))) := boxed_1 _ _ _
  have HC := Lib.hid (fun w => rated_any re rm w)
  go_enter Try.func16, Try.ntmps16
  go_wp2_with fail
  generalize ((w.alloc (.cells #[.int .i64 re, .int .i64 rm] 23)).alloc (.cells #[.int .i64 0, .int .i64 0] 25)) = w1 at HB HG0 HG1 ⊢
  refine (HC.out _).mono ?_
  rintro e w2 ⟨rfl, hb2⟩
  have HB2 := Lib.hid (HB.out.trans (hb2.mono HB.out.size))
  have HG0' := Lib.hid (heap_below HG0.out hb2)
  have HG1' := Lib.hid (heap_below HG1.out hb2)
  obtain ⟨k0, k1⟩ := cells2 HG0'.out
  obtain ⟨q0, q1⟩ := cells2 HG1'.out
  have f0 := frozen_of_row _ _ 0 _ _ HG1'.out
  have f1 := frozen_of_row _ _ 1 _ _ HG1'.out
  clear hb2 HC
  by_cases h : okR ⟨re, rm⟩
  · have e1 : decide (okR ⟨re, rm⟩) = true := decide_eq_true h
    have HE : Hid (full ⟨re, rm⟩ = ⟨rm, 0⟩) := if_pos h
    rw [e1]
    clear e1 h
    go_wp2
    refine bodyPost_ret (v := .agg #[.int .i64 rm, .int .i64 0]) (results_cell_row (P := Try.prog) (fn := Try.f16) rfl _ _ (w.heap.size + 1) 25 _ (0, 0) _ rfl (set2 HG1'.out _ _) Try.underlying25 rfl (by kernel_rfl)) rfl ?_
    exact ⟨by rw [HE.out], (HB2.out.setCell (Nat.le_succ _) _).setCell (Nat.le_succ _) _⟩
  · have e1 : decide (okR ⟨re, rm⟩) = false := decide_eq_false h
    have HE : Hid (full ⟨re, rm⟩ = ⟨0, 0⟩) := if_neg h
    rw [e1]
    clear e1 h
    go_wp2
    refine bodyPost_ret (v := .agg #[.int .i64 0, .int .i64 0]) (results_cell_row (P := Try.prog) (fn := Try.f16) rfl _ _ (w.heap.size + 1) 25 _ (0, 0) _ rfl (set2 HG1'.out _ _) Try.underlying25 rfl (by kernel_rfl)) rfl ?_
    exact ⟨by rw [HE.out], (HB2.out.setCell (Nat.le_succ _) _).setCell (Nat.le_succ _) _⟩
theorem okAt_iff (re rm k t s : Int) (h : okR ⟨re, rm⟩) : okAt ⟨re, rm⟩ ⟨k, t⟩ s ↔ 0 ≤ k ∧ k ≤ rm ∧ 0 ≤ t ∧ t ≤ 1099511627776 ∧ t ≤ s ∧ s ≤ 1099511627776 := by
  unfold okAt okB top
  constructor
  · rintro ⟨_, ⟨a, b, c, d⟩, e, f⟩; exact ⟨a, b, c, d, e, f⟩
  · rintro ⟨a, b, c, d, e, f⟩; exact ⟨h, ⟨a, b, c, d⟩, e, f⟩
set_option maxHeartbeats 1000000 in
theorem rat_any (re rm k t s : Int) (w : World) :
    Calls Try.prog 12 #[.agg #[.int .i64 re, .int .i64 rm], .agg #[.int .i64 k, .int .i64 t], .int .i64 s] w fun e w' => e = .returned (.tuple #[.agg #[.int .i64 (atB ⟨re, rm⟩ ⟨k, t⟩ s).k, .int .i64 (atB ⟨re, rm⟩ ⟨k, t⟩ s).t], .int .i64 (atE ⟨re, rm⟩ ⟨k, t⟩ s)]) ∧ Below w.heap.size w w' := by
  have HB : Hid (Below w.heap.size w (((w.alloc (.cells #[.int .i64 re, .int .i64 rm] 23)).alloc (.cells #[.int .i64 k, .int .i64 t] 25)).alloc (.cells #[.int .i64 0, .int .i64 0] 25))) := boxed_three _ _ _ _
  have HG0 : Hid ((((w.alloc (.cells #[.int .i64 re, .int .i64 rm] 23)).alloc (.cells #[.int .i64 k, .int .i64 t] 25)).alloc (.cells #[.int .i64 0, .int .i64 0] 25)).heap[w.heap.size]? = some (.cells #[.int .i64 re, .int .i64 rm] 23 (0, 0))) := boxed3_0 _ _ _ _
  have HG1 : Hid ((((w.alloc (.cells #[.int .i64 re, .int .i64 rm] 23)).alloc (.cells #[.int .i64 k, .int .i64 t] 25)).alloc (.cells #[.int .i64 0, .int .i64 0] 25)).heap[w.heap.size + 1]? = some (.cells #[.int .i64 k, .int .i64 t] 25 (0, 0))) := boxed3_1 _ _ _ _
  have HG2 : Hid ((((w.alloc (.cells #[.int .i64 re, .int .i64 rm] 23)).alloc (.cells #[.int .i64 k, .int .i64 t] 25)).alloc (.cells #[.int .i64 0, .int .i64 0] 25)).heap[w.heap.size + 2]? = some (.cells #[.int .i64 0, .int .i64 0] 25 (0, 0))) := boxed3_2 _ _ _ _
  have HC := Lib.hid (fun w => rated_any re rm w)
  go_enter Try.func12, Try.ntmps12
  go_wp2_with fail
  generalize (((w.alloc (.cells #[.int .i64 re, .int .i64 rm] 23)).alloc (.cells #[.int .i64 k, .int .i64 t] 25)).alloc (.cells #[.int .i64 0, .int .i64 0] 25)) = w1 at HB HG0 HG1 HG2 ⊢
  refine (HC.out _).mono ?_
  rintro e w2 ⟨rfl, hb⟩
  have HB2 := Lib.hid (HB.out.trans (hb.mono HB.out.size))
  have HG02 := Lib.hid (heap_below HG0.out hb)
  have HG12 := Lib.hid (heap_below HG1.out hb)
  have HG22 := Lib.hid (heap_below HG2.out hb)
  clear hb HC HB HG0 HG1 HG2
  obtain ⟨k0, k1⟩ := cells2 HG02.out
  obtain ⟨m0, m1⟩ := cells2 HG12.out
  obtain ⟨q0, q1⟩ := cells2 HG22.out
  have f0 := frozen_of_row _ _ 0 _ _ HG22.out
  have f1 := frozen_of_row _ _ 1 _ _ HG22.out
  by_cases h1 : okR ⟨re, rm⟩
  · rw [decide_eq_true h1]
    have hi := okAt_iff re rm k t s h1
    have h1' := h1
    obtain ⟨r1, r2, r3, r4⟩ := h1'
    simp only [] at r1 r2 r3 r4
    have hc : (0 ≤ k ∧ k ≤ rm ∧ 0 ≤ t ∧ t ≤ 1099511627776 ∧ t ≤ s ∧ s ≤ 1099511627776) ∨ k < 0 ∨ (0 ≤ k ∧ rm < k) ∨ (0 ≤ k ∧ k ≤ rm ∧ t < 0) ∨ (0 ≤ k ∧ k ≤ rm ∧ 0 ≤ t ∧ 1099511627776 < t) ∨ (0 ≤ k ∧ k ≤ rm ∧ 0 ≤ t ∧ t ≤ 1099511627776 ∧ s < t) ∨ (0 ≤ k ∧ k ≤ rm ∧ 0 ≤ t ∧ t ≤ 1099511627776 ∧ t ≤ s ∧ 1099511627776 < s) := by omega
    by_cases hy : okAt ⟨re, rm⟩ ⟨k, t⟩ s
    · obtain ⟨g1, g2, g3, g4, g5, g6⟩ := hi.1 hy
      have HE := Lib.hid (show atE ⟨re, rm⟩ ⟨k, t⟩ s = 0 from if_pos hy)
      have hA : atB ⟨re, rm⟩ ⟨k, t⟩ s = ⟨tok ⟨re, rm⟩ ⟨k, t⟩ s, s⟩ := if_pos hy
      obtain ⟨z1, z2⟩ := grow_bound r1 r2 g3 g5 g6
      have x1 : wrap64 (s - t) = s - t := wrap64_in (by omega) (by omega)
      have x2 : wrap64 (re * (s - t)) = re * (s - t) := wrap64_in (by omega) (by omega)
      have x3' : wrap64 (k + re * (s - t)) = k + re * (s - t) := wrap64_in (by omega) (by omega)
      obtain ⟨C, hC⟩ : ∃ C, k + re * (s - t) = C := ⟨_, rfl⟩
      have hT : tok ⟨re, rm⟩ ⟨k, t⟩ s = if rm < C then rm else C := by rw [← hC]; rfl
      have x3 : wrap64 (k + re * (s - t)) = C := x3'.trans hC
      clear x3'
      have HA := Lib.hid hA
      have HT := Lib.hid hT
      by_cases hlt : rm < C
      · have HT' : Hid (tok ⟨re, rm⟩ ⟨k, t⟩ s = rm) := by show _ = _; rw [hT, if_pos hlt]
        clear hT hA hi hc h1 r1 r2 r3 r4 z1 z2 hC hy
        go_wp2
        refine bodyPost_ret (v := .tuple #[.agg #[.int .i64 rm, .int .i64 s], .int .i64 0]) (results_cell_tmp_row (P := Try.prog) (fn := Try.f12) rfl _ _ (w.heap.size + 2) 25 _ (0, 0) _ rfl (set2 HG22.out _ _) Try.underlying25 rfl (by kernel_rfl)) rfl ?_
        exact ⟨by rw [HE.out, HA.out, HT'.out], (HB2.out.setCell (Nat.le_add_right _ 2) _).setCell (Nat.le_add_right _ 2) _⟩
      · have HT' : Hid (tok ⟨re, rm⟩ ⟨k, t⟩ s = C) := by show _ = _; rw [hT, if_neg hlt]
        clear hT hA hi hc h1 r1 r2 r3 r4 z1 z2 hC hy
        go_wp2
        refine bodyPost_ret (v := .tuple #[.agg #[.int .i64 C, .int .i64 s], .int .i64 0]) (results_cell_tmp_row (P := Try.prog) (fn := Try.f12) rfl _ _ (w.heap.size + 2) 25 _ (0, 0) _ rfl (set2 HG22.out _ _) Try.underlying25 rfl (by kernel_rfl)) rfl ?_
        exact ⟨by rw [HE.out, HA.out, HT'.out], (HB2.out.setCell (Nat.le_add_right _ 2) _).setCell (Nat.le_add_right _ 2) _⟩
    · have HE := Lib.hid (show atE ⟨re, rm⟩ ⟨k, t⟩ s = 100 from if_neg hy)
      have HA := Lib.hid (show atB ⟨re, rm⟩ ⟨k, t⟩ s = zero from if_neg hy)
      rcases hc with h | h | ⟨g1, g2⟩ | ⟨g1, g2, g3⟩ | ⟨g1, g2, g3, g4⟩ | ⟨g1, g2, g3, g4, g5⟩ | ⟨g1, g2, g3, g4, g5, g6⟩
      · exact absurd (hi.2 h) hy
      all_goals
        clear hi h1 hy r1 r2 r3 r4
        go_wp2
        refine bodyPost_ret (v := .tuple #[.agg #[.int .i64 0, .int .i64 0], .int .i64 100]) (results_cell_tmp_row (P := Try.prog) (fn := Try.f12) rfl _ _ (w.heap.size + 2) 25 _ (0, 0) _ rfl (set2 HG22.out _ _) Try.underlying25 rfl (by kernel_rfl)) rfl ?_
        exact ⟨by rw [HE.out, HA.out]; rfl, (HB2.out.setCell (Nat.le_add_right _ 2) _).setCell (Nat.le_add_right _ 2) _⟩
  · have hno : ¬ okAt ⟨re, rm⟩ ⟨k, t⟩ s := fun h => h1 h.1
    rw [decide_eq_false h1]
    have HE := Lib.hid (show atE ⟨re, rm⟩ ⟨k, t⟩ s = 100 from if_neg hno)
    have HA := Lib.hid (show atB ⟨re, rm⟩ ⟨k, t⟩ s = zero from if_neg hno)
    clear hno h1
    go_wp2
    refine bodyPost_ret (v := .tuple #[.agg #[.int .i64 0, .int .i64 0], .int .i64 100]) (results_cell_tmp_row (P := Try.prog) (fn := Try.f12) rfl _ _ (w.heap.size + 2) 25 _ (0, 0) _ rfl (set2 HG22.out _ _) Try.underlying25 rfl (by kernel_rfl)) rfl ?_
    exact ⟨by rw [HE.out, HA.out]; rfl, (HB2.out.setCell (Nat.le_add_right _ 2) _).setCell (Nat.le_add_right _ 2) _⟩
theorem take_cases (re rm k t s : Int) : (∃ T, atB ⟨re, rm⟩ ⟨k, t⟩ s = ⟨T, s⟩ ∧ atE ⟨re, rm⟩ ⟨k, t⟩ s = 0 ∧ 0 ≤ T ∧ T ≤ 1048576 ∧ takB ⟨re, rm⟩ ⟨k, t⟩ s = if T = 0 then (⟨0, s⟩, false) else (⟨T - 1, s⟩, true)) ∨ (atB ⟨re, rm⟩ ⟨k, t⟩ s = zero ∧ atE ⟨re, rm⟩ ⟨k, t⟩ s = 100 ∧ takB ⟨re, rm⟩ ⟨k, t⟩ s = (zero, false)) := by
  by_cases h : okAt ⟨re, rm⟩ ⟨k, t⟩ s
  · have hr := tok_range h.1 h.2.1 h.2.2.1
    have hm : rm ≤ 1048576 := h.1.2.2.2
    exact .inl ⟨tok ⟨re, rm⟩ ⟨k, t⟩ s, if_pos h, if_pos h, hr.1, Int.le_trans hr.2 hm, if_pos h⟩
  · exact .inr ⟨if_neg h, if_neg h, if_neg h⟩
set_option maxHeartbeats 1000000 in
theorem rtake_any (re rm k t s : Int) (w : World) :
    Calls Try.prog 19 #[.agg #[.int .i64 re, .int .i64 rm], .agg #[.int .i64 k, .int .i64 t], .int .i64 s] w fun e w' => e = .returned (.tuple #[.agg #[.int .i64 (takB ⟨re, rm⟩ ⟨k, t⟩ s).1.k, .int .i64 (takB ⟨re, rm⟩ ⟨k, t⟩ s).1.t], .bool (takB ⟨re, rm⟩ ⟨k, t⟩ s).2]) ∧ Below w.heap.size w w' := by
  have HB : Hid (Below w.heap.size w (((w.alloc (.cells #[.int .i64 re, .int .i64 rm] 23)).alloc (.cells #[.int .i64 k, .int .i64 t] 25)).alloc (.cells #[.int .i64 0, .int .i64 0] 25))) := boxed_three _ _ _ _
  have HG2 : Hid ((((w.alloc (.cells #[.int .i64 re, .int .i64 rm] 23)).alloc (.cells #[.int .i64 k, .int .i64 t] 25)).alloc (.cells #[.int .i64 0, .int .i64 0] 25)).heap[w.heap.size + 2]? = some (.cells #[.int .i64 0, .int .i64 0] 25 (0, 0))) := boxed3_2 _ _ _ _
  have HA := Lib.hid (fun w => rat_any re rm k t s w)
  have hcase := take_cases re rm k t s
  obtain ⟨TK, hTK⟩ : ∃ x, x = takB ⟨re, rm⟩ ⟨k, t⟩ s := ⟨_, rfl⟩
  rw [← hTK]
  have HTK := Lib.hid hTK
  clear hTK
  go_enter Try.func19, Try.ntmps19
  go_wp2_with fail
  generalize (((w.alloc (.cells #[.int .i64 re, .int .i64 rm] 23)).alloc (.cells #[.int .i64 k, .int .i64 t] 25)).alloc (.cells #[.int .i64 0, .int .i64 0] 25)) = w1 at HB HG2 ⊢
  refine (HA.out _).mono ?_
  rintro e w2 ⟨rfl, hb⟩
  have HB2 := Lib.hid (HB.out.trans (hb.mono HB.out.size))
  have HG22 := Lib.hid (heap_below HG2.out hb)
  clear hb HA HB HG2
  have hlt : w.heap.size + 2 < w2.heap.size := (Array.getElem?_eq_some_iff.1 HG22.out).1
  rcases hcase with ⟨T, e1, e2, e3, e4, e5⟩ | ⟨e1, e2, e5⟩
  · rw [e1, e2]
    rw [← HTK.out] at e5
    have HBW : Hid (Below w.heap.size w (w2.alloc (.cells #[.int .i64 T, .int .i64 s] 25))) := HB2.out.alloc HB2.out.size _
    have HGW : Hid ((w2.alloc (.cells #[.int .i64 T, .int .i64 s] 25)).heap[w.heap.size + 2]? = some (.cells #[.int .i64 0, .int .i64 0] 25 (0, 0))) := by show _ = _; rw [Below.heap_alloc _ _ _ hlt]; exact HG22.out
    have HGN : Hid ((w2.alloc (.cells #[.int .i64 T, .int .i64 s] 25)).heap[w2.heap.size]? = some (.cells #[.int .i64 T, .int .i64 s] 25 (0, 0))) := heap_alloc_last _ _
    have HLT := Lib.hid hlt
    by_cases hT : T = 0
    · subst hT
      rw [if_pos rfl] at e5
      have HE := Lib.hid e5
      clear e1 e2 e3 e4 e5 hlt
      go_upto_if 18 with fail
      generalize w2.alloc (.cells #[.int .i64 0, .int .i64 s] 25) = w3 at HBW HGW HGN ⊢
      obtain ⟨m0, m1⟩ := cells2 HGN.out
      obtain ⟨q0, q1⟩ := cells2 HGW.out
      have f0 := frozen_of_row _ _ 0 _ _ HGW.out
      have f1 := frozen_of_row _ _ 1 _ _ HGW.out
      go_wp2
      refine bodyPost_ret (v := .tuple #[.agg #[.int .i64 0, .int .i64 s], .bool false]) (results_cell_tmp_row (P := Try.prog) (fn := Try.f19) rfl _ _ (w.heap.size + 2) 25 _ (0, 0) _ rfl (set2 HGW.out _ _) Try.underlying25 rfl (by kernel_rfl)) rfl ?_
      exact ⟨by rw [HE.out], (HBW.out.setCell (Nat.le_add_right _ 2) _).setCell (Nat.le_add_right _ 2) _⟩
    · rw [if_neg hT] at e5
      have x1 : wrap64 (T - 1) = T - 1 := wrap64_in (by omega) (by omega)
      have HE := Lib.hid e5
      have hT' : (T == 0) = false := by simpa using hT
      clear e1 e2 e3 e4 e5 hlt
      go_upto_if 18 with fail
      generalize w2.alloc (.cells #[.int .i64 T, .int .i64 s] 25) = w3 at HBW HGW HGN ⊢
      obtain ⟨m0, m1⟩ := cells2 HGN.out
      have p0 := frozen_of_row _ _ 0 _ _ HGN.out
      obtain ⟨q0, q1⟩ := cells2 HGW.out
      have f0 := frozen_of_row _ _ 0 _ _ HGW.out
      have f1 := frozen_of_row _ _ 1 _ _ HGW.out
      have hne : w.heap.size + 2 ≠ w2.heap.size := by have := HLT.out; omega
      have hne2 : w2.heap.size ≠ w.heap.size + 2 := fun h => hne h.symm
      have hle : Below w.heap.size w (w3.setCell ⟨w2.heap.size, 0, none⟩ (.int .i64 (T - 1))) := HBW.out.setCell HB2.out.size _
      have HLE := Lib.hid hle
      have HGQ : Hid ((w3.setCell ⟨w2.heap.size, 0, none⟩ (.int .i64 (T - 1))).heap[w.heap.size + 2]? = some (.cells #[.int .i64 0, .int .i64 0] 25 (0, 0))) := by show _ = _; rw [Below.heap_setCell _ _ _ _ hne]; exact HGW.out
      clear hle
      go_wp2
      refine bodyPost_ret (v := .tuple #[.agg #[.int .i64 (T - 1), .int .i64 s], .bool true]) (results_cell_tmp_row (P := Try.prog) (fn := Try.f19) rfl _ _ (w.heap.size + 2) 25 _ (0, 0) _ rfl (set2 HGQ.out _ _) Try.underlying25 rfl (by kernel_rfl)) rfl ?_
      exact ⟨by rw [HE.out], (HLE.out.setCell (Nat.le_add_right _ 2) _).setCell (Nat.le_add_right _ 2) _⟩
  · rw [e1, e2, zero_k, zero_t]
    rw [← HTK.out] at e5
    have HE := Lib.hid e5
    have HBW : Hid (Below w.heap.size w (w2.alloc (.cells #[.int .i64 0, .int .i64 0] 25))) := HB2.out.alloc HB2.out.size _
    have HGW : Hid ((w2.alloc (.cells #[.int .i64 0, .int .i64 0] 25)).heap[w.heap.size + 2]? = some (.cells #[.int .i64 0, .int .i64 0] 25 (0, 0))) := by show _ = _; rw [Below.heap_alloc _ _ _ hlt]; exact HG22.out
    clear e1 e2 e5 hlt
    go_upto_if 18 with fail
    generalize w2.alloc (.cells #[.int .i64 0, .int .i64 0] 25) = w3 at HBW HGW ⊢
    obtain ⟨q0, q1⟩ := cells2 HGW.out
    have f0 := frozen_of_row _ _ 0 _ _ HGW.out
    have f1 := frozen_of_row _ _ 1 _ _ HGW.out
    go_wp2
    refine bodyPost_ret (v := .tuple #[.agg #[.int .i64 0, .int .i64 0], .bool false]) (results_cell_tmp_row (P := Try.prog) (fn := Try.f19) rfl _ _ (w.heap.size + 2) 25 _ (0, 0) _ rfl (set2 HGW.out _ _) Try.underlying25 rfl (by kernel_rfl)) rfl ?_
    exact ⟨by rw [HE.out]; rfl, (HBW.out.setCell (Nat.le_add_right _ 2) _).setCell (Nat.le_add_right _ 2) _⟩
end Go.Proofs.Ytblnglkjpnpmbaa.Bk
