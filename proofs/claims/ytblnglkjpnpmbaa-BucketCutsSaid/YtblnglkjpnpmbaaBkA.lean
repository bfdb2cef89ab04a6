/-
  bucket.isIn, Check, mayBe, Full, At, Take, whatever comes.
-/
import Derived.Test.YtblnglkjpnpmbaaBkP
import Derived.Test.YtblnglkjpnpmbaaGen
namespace Go.Proofs.Ytblnglkjpnpmbaa.Bk
open Go.RowKit
set_option linter.unusedVariables false
set_option linter.unusedSimpArgs false

theorem cells2 {w : World} {g : Nat} {x y : Value} {t : TypeId} {fr : Nat × Nat} (h : w.heap[g]? = some (.cells #[x, y] t fr)) : w.cell? ⟨g, 0, none⟩ = some x ∧ w.cell? ⟨g, 1, none⟩ = some y := copy_cells h
theorem boxed_two (w : World) (o p : Obj) : Below w.heap.size w ((w.alloc o).alloc p) := ((Below.refl _ _).alloc (Nat.le_refl _) _).alloc (by simp) _
theorem boxed_0 (w : World) (o p : Obj) : ((w.alloc o).alloc p).heap[w.heap.size]? = some o := by
  rw [Below.heap_alloc _ _ _ (by simp), heap_alloc_last]
theorem boxed_1 (w : World) (o p : Obj) : ((w.alloc o).alloc p).heap[w.heap.size + 1]? = some p := by
  have := heap_alloc_last (w.alloc o) p
  rwa [World.size_alloc] at this
theorem boxed_three (w : World) (o p q : Obj) : Below w.heap.size w (((w.alloc o).alloc p).alloc q) := (boxed_two w o p).alloc (by simp; omega) _
theorem boxed3_0 (w : World) (o p q : Obj) : (((w.alloc o).alloc p).alloc q).heap[w.heap.size]? = some o := by
  rw [Below.heap_alloc _ _ _ (by simp; omega), boxed_0]
theorem boxed3_1 (w : World) (o p q : Obj) : (((w.alloc o).alloc p).alloc q).heap[w.heap.size + 1]? = some p := by
  rw [Below.heap_alloc _ _ _ (by simp), boxed_1]
theorem boxed3_2 (w : World) (o p q : Obj) : (((w.alloc o).alloc p).alloc q).heap[w.heap.size + 2]? = some q := by
  have := heap_alloc_last ((w.alloc o).alloc p) q
  rwa [World.size_alloc, World.size_alloc] at this

theorem isIn_any {b : Bool} (n low high : Int) (w : World) (hb : b = decide (low ≤ n ∧ n ≤ high)) :
    Calls Try.prog 29 #[.int .i64 n, .int .i64 low, .int .i64 high] w fun e w' => e = .returned (.bool b) ∧ w = w' := by
  by_cases hl : low ≤ n
  · by_cases hh : n ≤ high
    · have e : b = true := by rw [hb]; exact decide_eq_true ⟨hl, hh⟩
      subst e
      clear hb
      go_enter Try.func29, Try.ntmps29
      go_wp2
      go_ret
      exact ⟨rfl, rfl⟩
    · have e : b = false := by rw [hb]; exact decide_eq_false fun h => hh h.2
      subst e
      clear hb
      go_enter Try.func29, Try.ntmps29
      go_wp2
      go_ret
      exact ⟨rfl, rfl⟩
  · have e : b = false := by rw [hb]; exact decide_eq_false fun h => hl h.1
    subst e
    clear hb
    go_enter Try.func29, Try.ntmps29
    go_wp2
    go_ret
    exact ⟨rfl, rfl⟩
/-- The number that Check tells. -/
def ckE (r : Rt) : Int := if okR r then 0 else 100
theorem ckE_eq (re rm : Int) : ckE ⟨re, rm⟩ = if decide (0 ≤ re ∧ re ≤ 1048576) && decide (1 ≤ rm ∧ rm ≤ 1048576) then 0 else 100 := by
  unfold ckE okR
  by_cases h1 : 0 ≤ re ∧ re ≤ 1048576 <;> by_cases h2 : 1 ≤ rm ∧ rm ≤ 1048576 <;> simp [h1, h2] <;> omega
theorem check_any (re rm : Int) (w : World) :
    Calls Try.prog 13 #[.agg #[.int .i64 re, .int .i64 rm]] w fun e w' => e = .returned (.int .i64 (ckE ⟨re, rm⟩)) ∧ Below w.heap.size w w' := by
  have HB : Hid (Below w.heap.size w (w.alloc (.cells #[.int .i64 re, .int .i64 rm] 23))) := (Below.refl _ _).alloc (Nat.le_refl _) _
  rw [ckE_eq]
  obtain ⟨b1, h1⟩ : ∃ b, b = decide (0 ≤ re ∧ re ≤ 1048576) := ⟨_, rfl⟩
  obtain ⟨b2, h2⟩ : ∃ b, b = decide (1 ≤ rm ∧ rm ≤ 1048576) := ⟨_, rfl⟩
  rw [← h1, ← h2]
  have H1 := Lib.hid (fun w => isIn_any re 0 1048576 w h1)
  have H2 := Lib.hid (fun w => isIn_any rm 1 1048576 w h2)
  clear h1 h2
  go_enter Try.func13, Try.ntmps13
  go_wp2_with fail
  refine (H1.out _).mono ?_
  rintro e w' ⟨rfl, rfl⟩
  cases b1
  · go_wp2
    go_ret
    exact ⟨rfl, HB.out⟩
  · go_wp2_with fail
    refine (H2.out _).mono ?_
    rintro e w' ⟨rfl, rfl⟩
    cases b2
    · go_wp2
      go_ret
      exact ⟨rfl, HB.out⟩
    · go_wp2
      go_ret
      exact ⟨rfl, HB.out⟩
theorem okB_dec (re rm k t : Int) : decide (okB ⟨re, rm⟩ ⟨k, t⟩) = (decide (0 ≤ k ∧ k ≤ rm) && decide (0 ≤ t ∧ t ≤ 1099511627776)) := by
  unfold okB top
  by_cases h1 : 0 ≤ k ∧ k ≤ rm <;> by_cases h2 : 0 ≤ t ∧ t ≤ 1099511627776 <;> simp [h1, h2] <;> omega
theorem mayBe_any (re rm k t : Int) (w : World) :
    Calls Try.prog 28 #[.agg #[.int .i64 re, .int .i64 rm], .agg #[.int .i64 k, .int .i64 t]] w fun e w' => e = .returned (.bool (decide (okB ⟨re, rm⟩ ⟨k, t⟩))) ∧ Below w.heap.size w w' := by
  have HB : Hid (Below w.heap.size w ((w.alloc (.cells #[.int .i64 re, .int .i64 rm] 23)).alloc (.cells #[.int .i64 k, .int .i64 t] 25))) := boxed_two _ _ _
  rw [okB_dec]
  obtain ⟨b1, h1⟩ : ∃ b, b = decide (0 ≤ k ∧ k ≤ rm) := ⟨_, rfl⟩
  obtain ⟨b2, h2⟩ : ∃ b, b = decide (0 ≤ t ∧ t ≤ 1099511627776) := ⟨_, rfl⟩
  rw [← h1, ← h2]
  have H1 := Lib.hid (fun w => isIn_any k 0 rm w h1)
  have H2 := Lib.hid (fun w => isIn_any t 0 1099511627776 w h2)
  clear h1 h2
  go_enter Try.func28, Try.ntmps28
  go_wp2_with fail
  refine (H1.out _).mono ?_
  rintro e w' ⟨rfl, rfl⟩
  cases b1
  · go_wp2
    go_ret
    exact ⟨rfl, HB.out⟩
  · go_wp2_with fail
    refine (H2.out _).mono ?_
    rintro e w' ⟨rfl, rfl⟩
    go_wp2
    go_ret
    exact ⟨rfl, HB.out⟩
theorem full_any (re rm : Int) (w : World) :
    Calls Try.prog 15 #[.agg #[.int .i64 re, .int .i64 rm]] w fun e w' => e = .returned (.agg #[.int .i64 (full ⟨re, rm⟩).k, .int .i64 (full ⟨re, rm⟩).t]) ∧ Below w.heap.size w w' := by
  have HB : Hid (Below w.heap.size w ((w.alloc (.cells #[.int .i64 re, .int .i64 rm] 23)).alloc (.cells #[.int .i64 0, .int .i64 0] 25))) := boxed_two _ _ _
  have HG0 : Hid (((w.alloc (.cells #[.int .i64 re, .int .i64 rm] 23)).alloc (.cells #[.int .i64 0, .int .i64 0] 25)).heap[w.heap.size]? = some (.cells #[.int .i64 re, .int .i64 rm] 23 (0, 0))) := boxed_0 _ _ _
  have HG1 : Hid (((w.alloc (.cells #[.int .i64 re, .int .i64 rm] 23)).alloc (.cells #[.int .i64 0, .int .i64 0] 25)).heap[w.heap.size + 1]? = some (.cells #[.int .i64 0, .int .i64 0] 25 (0, 0))) := boxed_1 _ _ _
  have HC := Lib.hid (fun w => check_any re rm w)
  go_enter Try.func15, Try.ntmps15
  go_wp2_with fail
  generalize ((w.alloc (.cells #[.int .i64 re, .int .i64 rm] 23)).alloc (.cells #[.int .i64 0, .int .i64 0] 25)) = w1 at HB HG0 HG1 ⊢
  refine (HC.out _).mono ?_
  rintro e w2 ⟨rfl, hb2⟩
  have HB2 := Lib.hid (HB.out.trans (hb2.mono HB.out.size))
  have HG0' := Lib.hid (heap_below HG0.out hb2)
  have HG1' := Lib.hid (heap_below HG1.out hb2)
  obtain ⟨k0, k1⟩ := cells2 HG0'.out
  obtain ⟨q0, q1⟩ := cells2 HG1'.out
  have f0 := frozen_of_row _ _ 0 _ _ HG1'.out
  have f1 := frozen_of_row _ _ 1 _ _ HG1'.out
  clear hb2 HC
  by_cases h : okR ⟨re, rm⟩
  · have e1 : ckE ⟨re, rm⟩ = 0 := if_pos h
    have e2 : full ⟨re, rm⟩ = ⟨rm, 0⟩ := if_pos h
    have HE := Lib.hid e2
    rw [e1]
    clear e1 e2 h
    go_wp2
    refine bodyPost_ret (v := .agg #[.int .i64 rm, .int .i64 0]) (results_cell_row (P := Try.prog) (fn := Try.f15) rfl _ _ (w.heap.size + 1) 25 _ (0, 0) _ rfl (set2 HG1'.out _ _) Try.underlying25 rfl (by kernel_rfl)) rfl ?_
    exact ⟨by rw [HE.out], (HB2.out.setCell (Nat.le_succ _) _).setCell (Nat.le_succ _) _⟩
  · have e1 : ckE ⟨re, rm⟩ = 100 := if_neg h
    have e2 : full ⟨re, rm⟩ = ⟨0, 0⟩ := if_neg h
    have HE := Lib.hid e2
    rw [e1]
    clear e1 e2 h
    go_wp2
    refine bodyPost_ret (v := .agg #[.int .i64 0, .int .i64 0]) (results_cell_row (P := Try.prog) (fn := Try.f15) rfl _ _ (w.heap.size + 1) 25 _ (0, 0) _ rfl (set2 HG1'.out _ _) Try.underlying25 rfl (by kernel_rfl)) rfl ?_
    exact ⟨by rw [HE.out], (HB2.out.setCell (Nat.le_succ _) _).setCell (Nat.le_succ _) _⟩
theorem okAt_dec (re rm k t s : Int) : decide (okAt ⟨re, rm⟩ ⟨k, t⟩ s) = (decide (okR ⟨re, rm⟩) && (decide (okB ⟨re, rm⟩ ⟨k, t⟩) && decide (t ≤ s ∧ s ≤ 1099511627776))) := by
  unfold okAt top
  by_cases h1 : okR ⟨re, rm⟩ <;> by_cases h2 : okB ⟨re, rm⟩ ⟨k, t⟩ <;> by_cases h3 : t ≤ s ∧ s ≤ 1099511627776 <;> simp [h1, h2, h3] <;> omega
/-- The number that At tells. -/
def atE (r : Rt) (b : Bu) (s : Int) : Int := if okAt r b s then 0 else 100
theorem grow_bound {re t s : Int} (h0 : 0 ≤ re) (h1 : re ≤ 1048576) (h2 : 0 ≤ t) (h3 : t ≤ s) (h4 : s ≤ 1099511627776) : 0 ≤ re * (s - t) ∧ re * (s - t) ≤ 1152921504606846976 := by
  refine ⟨Int.mul_nonneg h0 (by omega), ?_⟩
  have a1 : re * (s - t) ≤ 1048576 * (s - t) := Int.mul_le_mul_of_nonneg_right h1 (by omega)
  omega
theorem wrap64_in {n : Int} (h0 : -9223372036854775808 ≤ n) (h1 : n ≤ 9223372036854775807) : wrap64 n = n := by unfold wrap64; omega
set_option maxHeartbeats 1000000 in
theorem at_any (re rm k t s : Int) (w : World) :
    Calls Try.prog 11 #[.agg #[.int .i64 re, .int .i64 rm], .agg #[.int .i64 k, .int .i64 t], .int .i64 s] w fun e w' => e = .returned (.tuple #[.agg #[.int .i64 (atB ⟨re, rm⟩ ⟨k, t⟩ s).k, .int .i64 (atB ⟨re, rm⟩ ⟨k, t⟩ s).t], .int .i64 (atE ⟨re, rm⟩ ⟨k, t⟩ s)]) ∧ Below w.heap.size w w' := by
  have HB : Hid (Below w.heap.size w (((w.alloc (.cells #[.int .i64 re, .int .i64 rm] 23)).alloc (.cells #[.int .i64 k, .int .i64 t] 25)).alloc (.cells #[.int .i64 0, .int .i64 0] 25))) := boxed_three _ _ _ _
  have HG0 : Hid ((((w.alloc (.cells #[.int .i64 re, .int .i64 rm] 23)).alloc (.cells #[.int .i64 k, .int .i64 t] 25)).alloc (.cells #[.int .i64 0, .int .i64 0] 25)).heap[w.heap.size]? = some (.cells #[.int .i64 re, .int .i64 rm] 23 (0, 0))) := boxed3_0 _ _ _ _
  have HG1 : Hid ((((w.alloc (.cells #[.int .i64 re, .int .i64 rm] 23)).alloc (.cells #[.int .i64 k, .int .i64 t] 25)).alloc (.cells #[.int .i64 0, .int .i64 0] 25)).heap[w.heap.size + 1]? = some (.cells #[.int .i64 k, .int .i64 t] 25 (0, 0))) := boxed3_1 _ _ _ _
  have HG2 : Hid ((((w.alloc (.cells #[.int .i64 re, .int .i64 rm] 23)).alloc (.cells #[.int .i64 k, .int .i64 t] 25)).alloc (.cells #[.int .i64 0, .int .i64 0] 25)).heap[w.heap.size + 2]? = some (.cells #[.int .i64 0, .int .i64 0] 25 (0, 0))) := boxed3_2 _ _ _ _
  have HC := Lib.hid (fun w => check_any re rm w)
  have HM := Lib.hid (fun w => mayBe_any re rm k t w)
  have HD := Lib.hid (okAt_dec re rm k t s)
  obtain ⟨b2, hb2⟩ : ∃ b, b = decide (okB ⟨re, rm⟩ ⟨k, t⟩) := ⟨_, rfl⟩
  obtain ⟨b3, hb3⟩ : ∃ b, b = decide (t ≤ s ∧ s ≤ 1099511627776) := ⟨_, rfl⟩
  rw [← hb2] at HM
  have HI := Lib.hid (fun w => isIn_any s t 1099511627776 w hb3)
  have HX2 := Lib.hid hb2
  have HX3 := Lib.hid hb3
  clear hb2 hb3
  go_enter Try.func11, Try.ntmps11
  go_wp2_with fail
  generalize (((w.alloc (.cells #[.int .i64 re, .int .i64 rm] 23)).alloc (.cells #[.int .i64 k, .int .i64 t] 25)).alloc (.cells #[.int .i64 0, .int .i64 0] 25)) = w1 at HB HG0 HG1 HG2 ⊢
  refine (HC.out _).mono ?_
  rintro e w2 ⟨rfl, hb⟩
  have HB2 := Lib.hid (HB.out.trans (hb.mono HB.out.size))
  have HG02 := Lib.hid (heap_below HG0.out hb)
  have HG12 := Lib.hid (heap_below HG1.out hb)
  have HG22 := Lib.hid (heap_below HG2.out hb)
  clear hb HC HB HG0 HG1 HG2
  by_cases h1 : okR ⟨re, rm⟩
  · have e1 : ckE ⟨re, rm⟩ = 0 := if_pos h1
    rw [e1]
    have HO1 := Lib.hid h1
    clear e1 h1
    obtain ⟨k0, k1⟩ := cells2 HG02.out
    obtain ⟨m0, m1⟩ := cells2 HG12.out
    go_wp2_with fail
    refine (HM.out _).mono ?_
    rintro e w3 ⟨rfl, hb⟩
    have HB3 := Lib.hid (HB2.out.trans (hb.mono HB2.out.size))
    have HG03 := Lib.hid (heap_below HG02.out hb)
    have HG13 := Lib.hid (heap_below HG12.out hb)
    have HG23 := Lib.hid (heap_below HG22.out hb)
    clear hb HM k0 k1 m0 m1 HB2 HG02 HG12 HG22
    obtain ⟨k0, k1⟩ := cells2 HG03.out
    obtain ⟨m0, m1⟩ := cells2 HG13.out
    obtain ⟨q0, q1⟩ := cells2 HG23.out
    have f0 := frozen_of_row _ _ 0 _ _ HG23.out
    have f1 := frozen_of_row _ _ 1 _ _ HG23.out
    cases b2
    · have hno : ¬ okAt ⟨re, rm⟩ ⟨k, t⟩ s := of_decide_eq_false (by rw [HD.out, ← HX2.out]; simp)
      have HE := Lib.hid (show atE ⟨re, rm⟩ ⟨k, t⟩ s = 100 from if_neg hno)
      have HA := Lib.hid (show atB ⟨re, rm⟩ ⟨k, t⟩ s = zero from if_neg hno)
      clear hno
      go_wp2
      refine bodyPost_ret (v := .tuple #[.agg #[.int .i64 0, .int .i64 0], .int .i64 100]) (results_cell_tmp_row (P := Try.prog) (fn := Try.f11) rfl _ _ (w.heap.size + 2) 25 _ (0, 0) _ rfl (set2 HG23.out _ _) Try.underlying25 rfl (by kernel_rfl)) rfl ?_
      exact ⟨by rw [HE.out, HA.out]; rfl, (HB3.out.setCell (Nat.le_add_right _ 2) _).setCell (Nat.le_add_right _ 2) _⟩
    · go_wp2_with fail
      refine (HI.out _).mono ?_
      rintro e w' ⟨rfl, rfl⟩
      cases b3
      · have hno : ¬ okAt ⟨re, rm⟩ ⟨k, t⟩ s := of_decide_eq_false (by rw [HD.out, ← HX3.out]; simp)
        have HE := Lib.hid (show atE ⟨re, rm⟩ ⟨k, t⟩ s = 100 from if_neg hno)
        have HA := Lib.hid (show atB ⟨re, rm⟩ ⟨k, t⟩ s = zero from if_neg hno)
        clear hno
        go_wp2
        refine bodyPost_ret (v := .tuple #[.agg #[.int .i64 0, .int .i64 0], .int .i64 100]) (results_cell_tmp_row (P := Try.prog) (fn := Try.f11) rfl _ _ (w.heap.size + 2) 25 _ (0, 0) _ rfl (set2 HG23.out _ _) Try.underlying25 rfl (by kernel_rfl)) rfl ?_
        exact ⟨by rw [HE.out, HA.out]; rfl, (HB3.out.setCell (Nat.le_add_right _ 2) _).setCell (Nat.le_add_right _ 2) _⟩
      · have hyes : okAt ⟨re, rm⟩ ⟨k, t⟩ s := of_decide_eq_true (by rw [HD.out, ← HX2.out, ← HX3.out, decide_eq_true HO1.out]; rfl)
        have HE := Lib.hid (show atE ⟨re, rm⟩ ⟨k, t⟩ s = 0 from if_pos hyes)
        have hA : atB ⟨re, rm⟩ ⟨k, t⟩ s = ⟨tok ⟨re, rm⟩ ⟨k, t⟩ s, s⟩ := if_pos hyes
        obtain ⟨⟨r1, r2, r3, r4⟩, ⟨g1, g2, g3, g4⟩, g5, g6⟩ := hyes
        simp only [top] at r1 r2 r3 r4 g1 g2 g3 g4 g5 g6
        obtain ⟨z1, z2⟩ := grow_bound r1 r2 g3 g5 g6
        have x1 : wrap64 (s - t) = s - t := wrap64_in (by omega) (by omega)
        have x2 : wrap64 (re * (s - t)) = re * (s - t) := wrap64_in (by omega) (by omega)
        have x3 : wrap64 (k + re * (s - t)) = k + re * (s - t) := wrap64_in (by omega) (by omega)
        obtain ⟨T, hT⟩ : ∃ T, tok ⟨re, rm⟩ ⟨k, t⟩ s = T := ⟨_, rfl⟩
        have x4 : (if rm < k + re * (s - t) then rm else k + re * (s - t)) = T := hT
        rw [hT] at hA
        have HA := Lib.hid hA
        clear hT hA r1 r2 r3 r4 g1 g2 g3 g4 g5 g6 z1 z2
        go_wp2
        refine bodyPost_ret (v := .tuple #[.agg #[.int .i64 T, .int .i64 s], .int .i64 0]) (results_cell_tmp_row (P := Try.prog) (fn := Try.f11) rfl _ _ (w.heap.size + 2) 25 _ (0, 0) _ rfl (set2 HG23.out _ _) Try.underlying25 rfl (by kernel_rfl)) rfl ?_
        exact ⟨by rw [HE.out, HA.out], (HB3.out.setCell (Nat.le_add_right _ 2) _).setCell (Nat.le_add_right _ 2) _⟩
  · have hno : ¬ okAt ⟨re, rm⟩ ⟨k, t⟩ s := fun h => h1 h.1
    have e1 : ckE ⟨re, rm⟩ = 100 := if_neg h1
    have HE := Lib.hid (show atE ⟨re, rm⟩ ⟨k, t⟩ s = 100 from if_neg hno)
    have HA := Lib.hid (show atB ⟨re, rm⟩ ⟨k, t⟩ s = zero from if_neg hno)
    rw [e1]
    clear hno e1 h1
    obtain ⟨q0, q1⟩ := cells2 HG22.out
    have f0 := frozen_of_row _ _ 0 _ _ HG22.out
    have f1 := frozen_of_row _ _ 1 _ _ HG22.out
    go_wp2
    refine bodyPost_ret (v := .tuple #[.agg #[.int .i64 0, .int .i64 0], .int .i64 100]) (results_cell_tmp_row (P := Try.prog) (fn := Try.f11) rfl _ _ (w.heap.size + 2) 25 _ (0, 0) _ rfl (set2 HG22.out _ _) Try.underlying25 rfl (by kernel_rfl)) rfl ?_
    exact ⟨by rw [HE.out, HA.out]; rfl, (HB2.out.setCell (Nat.le_add_right _ 2) _).setCell (Nat.le_add_right _ 2) _⟩
theorem zero_k : zero.k = 0 := rfl
theorem zero_t : zero.t = 0 := rfl
set_option maxHeartbeats 1000000 in
theorem take_any (re rm k t s : Int) (w : World) :
    Calls Try.prog 18 #[.agg #[.int .i64 re, .int .i64 rm], .agg #[.int .i64 k, .int .i64 t], .int .i64 s] w fun e w' => e = .returned (.tuple #[.agg #[.int .i64 (takB ⟨re, rm⟩ ⟨k, t⟩ s).1.k, .int .i64 (takB ⟨re, rm⟩ ⟨k, t⟩ s).1.t], .bool (takB ⟨re, rm⟩ ⟨k, t⟩ s).2]) ∧ Below w.heap.size w w' := by
  have HB : Hid (Below w.heap.size w (((w.alloc (.cells #[.int .i64 re, .int .i64 rm] 23)).alloc (.cells #[.int .i64 k, .int .i64 t] 25)).alloc (.cells #[.int .i64 0, .int .i64 0] 25))) := boxed_three _ _ _ _
  have HG1 : Hid ((((w.alloc (.cells #[.int .i64 re, .int .i64 rm] 23)).alloc (.cells #[.int .i64 k, .int .i64 t] 25)).alloc (.cells #[.int .i64 0, .int .i64 0] 25)).heap[w.heap.size + 1]? = some (.cells #[.int .i64 k, .int .i64 t] 25 (0, 0))) := boxed3_1 _ _ _ _
  have HG2 : Hid ((((w.alloc (.cells #[.int .i64 re, .int .i64 rm] 23)).alloc (.cells #[.int .i64 k, .int .i64 t] 25)).alloc (.cells #[.int .i64 0, .int .i64 0] 25)).heap[w.heap.size + 2]? = some (.cells #[.int .i64 0, .int .i64 0] 25 (0, 0))) := boxed3_2 _ _ _ _
  have HA := Lib.hid (fun w => at_any re rm k t s w)
  obtain ⟨TK, hTK⟩ : ∃ x, x = takB ⟨re, rm⟩ ⟨k, t⟩ s := ⟨_, rfl⟩
  rw [← hTK]
  have HTK := Lib.hid hTK
  clear hTK
  have hcase : (∃ T, atB ⟨re, rm⟩ ⟨k, t⟩ s = ⟨T, s⟩ ∧ atE ⟨re, rm⟩ ⟨k, t⟩ s = 0 ∧ 0 ≤ T ∧ T ≤ 1048576 ∧ takB ⟨re, rm⟩ ⟨k, t⟩ s = if T = 0 then (⟨0, s⟩, false) else (⟨T - 1, s⟩, true)) ∨ (atB ⟨re, rm⟩ ⟨k, t⟩ s = zero ∧ atE ⟨re, rm⟩ ⟨k, t⟩ s = 100 ∧ takB ⟨re, rm⟩ ⟨k, t⟩ s = (zero, false)) := by
    by_cases h : okAt ⟨re, rm⟩ ⟨k, t⟩ s
    · have hr := tok_range h.1 h.2.1 h.2.2.1
      have hm : rm ≤ 1048576 := h.1.2.2.2
      refine .inl ⟨tok ⟨re, rm⟩ ⟨k, t⟩ s, if_pos h, if_pos h, hr.1, Int.le_trans hr.2 hm, if_pos h⟩
    · exact .inr ⟨if_neg h, if_neg h, if_neg h⟩
  go_enter Try.func18, Try.ntmps18
  go_wp2_with fail
  generalize (((w.alloc (.cells #[.int .i64 re, .int .i64 rm] 23)).alloc (.cells #[.int .i64 k, .int .i64 t] 25)).alloc (.cells #[.int .i64 0, .int .i64 0] 25)) = w1 at HB HG1 HG2 ⊢
  refine (HA.out _).mono ?_
  rintro e w2 ⟨rfl, hb⟩
  have HB2 := Lib.hid (HB.out.trans (hb.mono HB.out.size))
  have HG12 := Lib.hid (heap_below HG1.out hb)
  have HG22 := Lib.hid (heap_below HG2.out hb)
  clear hb HA HB HG1 HG2
  obtain ⟨m0, m1⟩ := cells2 HG12.out
  have n0 := frozen_of_row _ _ 0 _ _ HG12.out
  have n1 := frozen_of_row _ _ 1 _ _ HG12.out
  obtain ⟨q0, q1⟩ := cells2 HG22.out
  have f0 := frozen_of_row _ _ 0 _ _ HG22.out
  have f1 := frozen_of_row _ _ 1 _ _ HG22.out
  have HQ : Hid (∀ a b : Value, ((w2.setCell ⟨w.heap.size + 1, 0, none⟩ a).setCell ⟨w.heap.size + 1, 1, none⟩ b).heap[w.heap.size + 2]? = some (.cells #[.int .i64 0, .int .i64 0] 25 (0, 0))) := fun a b => by
    rw [Below.heap_setCell _ _ _ _ (by simp), Below.heap_setCell _ _ _ _ (by simp)]; exact HG22.out
  rcases hcase with ⟨T, e1, e2, e3, e4, e5⟩ | ⟨e1, e2, e5⟩
  · rw [e1, e2]
    rw [← HTK.out] at e5
    by_cases hT : T = 0
    · subst hT
      rw [if_pos rfl] at e5
      have HE := Lib.hid e5
      clear e1 e2 e3 e4 e5
      go_wp2
      refine bodyPost_ret (v := .tuple #[.agg #[.int .i64 0, .int .i64 s], .bool false]) (results_cell_tmp_row (P := Try.prog) (fn := Try.f18) rfl _ _ (w.heap.size + 2) 25 _ (0, 0) _ rfl (set2 (HQ.out _ _) _ _) Try.underlying25 rfl (by kernel_rfl)) rfl ?_
      exact ⟨by rw [HE.out], (((HB2.out.setCell (Nat.le_add_right _ 1) _).setCell (Nat.le_add_right _ 1) _).setCell (Nat.le_add_right _ 2) _).setCell (Nat.le_add_right _ 2) _⟩
    · rw [if_neg hT] at e5
      have x1 : wrap64 (T - 1) = T - 1 := wrap64_in (by omega) (by omega)
      have HE := Lib.hid e5
      have hT' : (T == 0) = false := by simpa using hT
      clear e1 e2 e3 e4 e5
      go_wp2
      refine bodyPost_ret (v := .tuple #[.agg #[.int .i64 (T - 1), .int .i64 s], .bool true]) (results_cell_tmp_row (P := Try.prog) (fn := Try.f18) rfl _ _ (w.heap.size + 2) 25 _ (0, 0) _ rfl (set2 (by rw [Below.heap_setCell _ _ _ _ (by simp)]; exact HQ.out _ _) _ _) Try.underlying25 rfl (by kernel_rfl)) rfl ?_
      exact ⟨by rw [HE.out], ((((HB2.out.setCell (Nat.le_add_right _ 1) _).setCell (Nat.le_add_right _ 1) _).setCell (Nat.le_add_right _ 1) _).setCell (Nat.le_add_right _ 2) _).setCell (Nat.le_add_right _ 2) _⟩
  · rw [e1, e2, zero_k, zero_t]
    rw [← HTK.out] at e5
    have HE := Lib.hid e5
    clear e1 e2 e5
    go_wp2
    refine bodyPost_ret (v := .tuple #[.agg #[.int .i64 0, .int .i64 0], .bool false]) (results_cell_tmp_row (P := Try.prog) (fn := Try.f18) rfl _ _ (w.heap.size + 2) 25 _ (0, 0) _ rfl (set2 (HQ.out _ _) _ _) Try.underlying25 rfl (by kernel_rfl)) rfl ?_
    exact ⟨by rw [HE.out]; rfl, (((HB2.out.setCell (Nat.le_add_right _ 1) _).setCell (Nat.le_add_right _ 1) _).setCell (Nat.le_add_right _ 2) _).setCell (Nat.le_add_right _ 2) _⟩
end Go.Proofs.Ytblnglkjpnpmbaa.Bk
