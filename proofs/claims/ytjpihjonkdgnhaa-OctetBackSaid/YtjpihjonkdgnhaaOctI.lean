import Derived.Test.YtjpihjonkdgnhaaOctH
namespace Go.Proofs.Ytjpihjonkdgnhaa
open Go.RowKit
set_option linter.unusedVariables false
set_option linter.unusedSimpArgs false

/-- Are place i's digits, and the colon ahead of them, there? -/
def macOk (s : ByteArray) (i : Nat) : Prop := (digV (chr s (3 * i))).isSome = true ∧ (digV (chr s (3 * i + 1))).isSome = true ∧ (0 < i → chr s (3 * i - 1) = 58)
instance (s : ByteArray) (j : Nat) : Decidable (macOk s j) := by unfold macOk; infer_instance
def macB (s : ByteArray) (i : Nat) : Nat := (digV (chr s (3 * i))).getD 0 * 16 + (digV (chr s (3 * i + 1))).getD 0
def ParseOk (s : ByteArray) : Prop := s.size = 17 ∧ ∀ i, i < 6 → macOk s i
theorem macOk_some {s : ByteArray} {j : Nat} (h : macOk s j) : ∃ a b, digV (chr s (3 * j)) = some a ∧ digV (chr s (3 * j + 1)) = some b ∧ macB s j = a * 16 + b ∧ a < 16 ∧ b < 16 ∧ (0 < j → chr s (3 * j - 1) = 58) := by
  obtain ⟨h1, h2, h3⟩ := h
  obtain ⟨a, ha⟩ := Option.isSome_iff_exists.1 h1
  obtain ⟨b, hb⟩ := Option.isSome_iff_exists.1 h2
  exact ⟨a, b, ha, hb, by simp [macB, ha, hb], digV_lt ha, digV_lt hb, h3⟩
/-- The address behind k rounds. -/
def macC (s : ByteArray) (k : Nat) : Array Value := #[.int .u8 (if 0 < k then (macB s 0 : Int) else 0), .int .u8 (if 1 < k then (macB s 1 : Int) else 0), .int .u8 (if 2 < k then (macB s 2 : Int) else 0), .int .u8 (if 3 < k then (macB s 3 : Int) else 0), .int .u8 (if 4 < k then (macB s 4 : Int) else 0), .int .u8 (if 5 < k then (macB s 5 : Int) else 0)]
theorem macC_zero (s : ByteArray) : macC s 0 = #[.int .u8 0, .int .u8 0, .int .u8 0, .int .u8 0, .int .u8 0, .int .u8 0] := rfl
theorem macC_six (s : ByteArray) : macC s 6 = #[.int .u8 (macB s 0 : Nat), .int .u8 (macB s 1 : Nat), .int .u8 (macB s 2 : Nat), .int .u8 (macB s 3 : Nat), .int .u8 (macB s 4 : Nat), .int .u8 (macB s 5 : Nat)] := rfl
theorem macC_step (s : ByteArray) (k : Nat) (hk : k < 6) : (macC s k).setIfInBounds k (.int .u8 (macB s k : Nat)) = macC s (k + 1) := by
  have hk' : k = 0 ∨ k = 1 ∨ k = 2 ∨ k = 3 ∨ k = 4 ∨ k = 5 := by omega
  rcases hk' with rfl | rfl | rfl | rfl | rfl | rfl
  all_goals rfl
theorem macC_at (s : ByteArray) (k j : Nat) (hk : j < 6) : ∃ u, (macC s k)[j]? = some u := ⟨_, Array.getElem?_eq_getElem (by simpa [macC] using hk)⟩

set_option maxHeartbeats 1600000 in
/-- octet.Parse, where there is an address. -/
theorem parse_yes (w : World) (s : ByteArray) (h : ParseOk s) :
    Calls Try.prog 19 #[.string s] w fun e w' => e = .returned (.tuple #[.agg (macC s 6), .int .i64 0]) ∧ Below w.heap.size w w' := by
  obtain ⟨hsz, hall⟩ := h
  have HALL := Lib.hid hall
  have HN := Lib.hid hsz
  have e1 : ((s.size : Int)) = 17 := by omega
  clear hall hsz
  go_enter Try.func19, Try.ntmps19
  go_wp2
  go_loopw [13] (fun iv wr => ∃ k : Nat, k ≤ 6 ∧ iv = .int .i64 k ∧ wr.heap[w.heap.size + 1]? = some (.cells (macC s k) 38 (0, 0)) ∧ wr.heap[w.heap.size]? = some (.cells #[.int .u8 0, .int .u8 0, .int .u8 0, .int .u8 0, .int .u8 0, .int .u8 0] 38 (0, 0)) ∧ Below w.heap.size w wr) (fun iv _ => 6 - (intOf iv).toNat)
  case atStart => exact ⟨0, Nat.zero_le _, rfl, heap_alloc2_new _ _ _, heap_alloc2_old _ _ _, ((Below.refl _ _).alloc (Nat.le_refl _) _).alloc (by simp) _⟩
  case round =>
    obtain ⟨k, hk, rfl, hm, hr, hb⟩ := hrel
    by_cases hlt : k < 6
    · obtain ⟨a, b, ha, hb2, hp, ha16, hb16, hcol⟩ := macOk_some (HALL.out k hlt)
      have hs17 := HN.out
      have x1 := index_chr (P := Try.prog) Try.underlying9 s .i64 (3 * (k : Int)) (3 * k) (by omega) (by omega)
      have x2 := index_chr (P := Try.prog) Try.underlying9 s .i64 (3 * (k : Int) + 1) (3 * k + 1) (by omega) (by omega)
      have m1 : IntKind.i64.wrap (3 * (k : Int)) = 3 * (k : Int) := IntWalk.i64_in _ (by omega)
      have m2 : IntKind.i64.wrap (3 * (k : Int) + 1) = 3 * (k : Int) + 1 := IntWalk.i64_in _ (by omega)
      have HA := Lib.hid ha
      have HB := Lib.hid hb2
      have HP := Lib.hid hp
      have HC := Lib.hid hcol
      have hf : wr.frozen? ⟨w.heap.size + 1, k, none⟩ = false := frozen_of_row _ _ _ _ _ hm
      obtain ⟨u, hu⟩ : ∃ u, wr.cell? ⟨w.heap.size + 1, k, none⟩ = some u := by
        rw [cell_of_row _ _ _ _ _ _ hm]
        exact macC_at s k k hlt
      have HM := Lib.hid hm
      have HR := Lib.hid hr
      clear ha hb2 hp hcol hs17 hm hr
      by_cases hk0 : k = 0
      · have hk1 : k ≤ 0 := by omega
        clear hk0
        go_wp2
        refine wp_region_G Any (by kernel_rfl) ?_
        -- 0: slot 19
        refine wpG_take preAny (i := 0) (v := ?_) (some 19) rfl (by kernel_rfl) (by kernel_rfl) (by kernel_rfl) (fun _ _ _ h => h) (by rfl) (fun w' hw' => ?_) rfl ?_
        rotate_left
        · go_simp
          with_reducible rfl
        simp only [Act.put, List.setIfInBounds_toArray, List.set_cons_zero, List.set_cons_succ]
        -- 1: slot 20
        refine wpG_take preAny (i := 1) (v := ?_) (some 20) rfl (by kernel_rfl) (by kernel_rfl) (by kernel_rfl) (fun _ _ _ h => h) (by rfl) (fun w' hw' => ?_) rfl ?_
        rotate_left
        · go_simp
          with_reducible rfl
        simp only [Act.put, List.setIfInBounds_toArray, List.set_cons_zero, List.set_cons_succ]
        -- 2: slot 21
        refine wpG_take preAny (i := 2) (v := ?_) (some 21) rfl (by kernel_rfl) (by kernel_rfl) (by kernel_rfl) (fun _ _ _ h => h) (by rfl) (fun w' hw' => ?_) rfl ?_
        rotate_left
        · go_simp
          with_reducible rfl
        simp only [Act.put, List.setIfInBounds_toArray, List.set_cons_zero, List.set_cons_succ]
        -- 3: slot 22
        refine wpG_take preAny (i := 3) (v := ?_) (some 22) rfl (by kernel_rfl) (by kernel_rfl) (by kernel_rfl) (fun _ _ _ h => h) (by rfl) (fun w' hw' => ?_) rfl ?_
        rotate_left
        · go_simp
          with_reducible rfl
        simp only [Act.put, List.setIfInBounds_toArray, List.set_cons_zero, List.set_cons_succ]
        -- 4: slot 23
        refine wpG_take preAny (i := 4) (v := ?_) (some 23) rfl (by kernel_rfl) (by kernel_rfl) (by kernel_rfl) (fun _ _ _ h => h) (by rfl) (fun w' hw' => ?_) rfl ?_
        rotate_left
        · go_simp
          with_reducible rfl
        simp only [Act.put, List.setIfInBounds_toArray, List.set_cons_zero, List.set_cons_succ]
        -- 5: slot 24
        refine wpG_take preAny (i := 5) (v := ?_) (some 24) rfl (by kernel_rfl) (by kernel_rfl) (by kernel_rfl) (fun _ _ _ h => h) (by rfl) (fun w' hw' => ?_) rfl ?_
        rotate_left
        · go_simp
          with_reducible rfl
        simp only [Act.put, List.setIfInBounds_toArray, List.set_cons_zero, List.set_cons_succ]
        -- 6: slot 25
        refine wpG_take preAny (i := 6) (v := ?_) (some 25) rfl (by kernel_rfl) (by kernel_rfl) (by kernel_rfl) (fun _ _ _ h => h) (by rfl) (fun w' hw' => ?_) rfl ?_
        rotate_left
        · go_simp
          with_reducible rfl
        simp only [Act.put, List.setIfInBounds_toArray, List.set_cons_zero, List.set_cons_succ]
        refine wpG_one (i := 7) rfl (by kernel_rfl) (by rfl) ?_
        go_simp
        refine (pair_yes _ _ a b _ HA.out HB.out).mono ?_
        rintro e w' ⟨rfl, rfl⟩
        refine ⟨trivial, ?_⟩
        try simp only [Act.put, List.setIfInBounds_toArray, List.set_cons_zero, List.set_cons_succ]
        -- 8: slot 18
        refine wpG_take preAny (i := 8) (v := ?_) (some 18) rfl (by kernel_rfl) (by kernel_rfl) (by kernel_rfl) (fun _ _ _ h => h) (by rfl) (fun w' hw' => ?_) rfl ?_
        rotate_left
        · go_simp
          with_reducible rfl
        simp only [Act.put, List.setIfInBounds_toArray, List.set_cons_zero, List.set_cons_succ]
        -- 9: slot 27
        refine wpG_take preAny (i := 9) (v := ?_) (some 27) rfl (by kernel_rfl) (by kernel_rfl) (by kernel_rfl) (fun _ _ _ h => h) (by rfl) (fun w' hw' => ?_) rfl ?_
        rotate_left
        · go_simp
          with_reducible rfl
        simp only [Act.put, List.setIfInBounds_toArray, List.set_cons_zero, List.set_cons_succ]
        -- 10: slot 28
        refine wpG_take preAny (i := 10) (v := ?_) (some 28) rfl (by kernel_rfl) (by kernel_rfl) (by kernel_rfl) (fun _ _ _ h => h) (by rfl) (fun w' hw' => ?_) rfl ?_
        rotate_left
        · go_simp
          with_reducible rfl
        simp only [Act.put, List.setIfInBounds_toArray, List.set_cons_zero, List.set_cons_succ]
        -- 11: slot 7
        refine wpG_take preAny (i := 11) (v := ?_) (some 7) rfl (by kernel_rfl) (by kernel_rfl) (by kernel_rfl) (fun _ _ _ h => h) (by rfl) (fun w' hw' => ?_) rfl ?_
        rotate_left
        · go_simp
          with_reducible rfl
        simp only [Act.put, List.setIfInBounds_toArray, List.set_cons_zero, List.set_cons_succ]
        -- 12: slot 8
        refine wpG_take preAny (i := 12) (v := ?_) (some 8) rfl (by kernel_rfl) (by kernel_rfl) (by kernel_rfl) (fun _ _ _ h => h) (by rfl) (fun w' hw' => ?_) rfl ?_
        rotate_left
        · go_simp
          with_reducible rfl
        simp only [Act.put, List.setIfInBounds_toArray, List.set_cons_zero, List.set_cons_succ]
        refine wpG_done (by kernel_rfl) ?_ _
        go_wp2
        go_roundw
        case rel =>
          refine ⟨k + 1, by omega, by go_num, ?_, ?_, (hb.drew).setCell (by simp) _⟩
          · have := heap_setCell_same wr.drew (w.heap.size + 1) k _ _ (.int .u8 (macB s k : Nat)) HM.out
            rw [macC_step s k (by omega), HP.out] at this
            exact this
          · exact (heap_setCell_other wr ⟨w.heap.size + 1, k, none⟩ w.heap.size _ (by simp)).trans HR.out
        case measure => simp [intOf]; omega
      · have x3 := index_chr (P := Try.prog) Try.underlying9 s .i64 (3 * (k : Int) - 1) (3 * k - 1) (by omega) (by have := HN.out; omega)
        rw [HC.out (by omega)] at x3
        go_wp2
        refine wp_region_G Any (by kernel_rfl) ?_
        -- 0: slot 19
        refine wpG_take preAny (i := 0) (v := ?_) (some 19) rfl (by kernel_rfl) (by kernel_rfl) (by kernel_rfl) (fun _ _ _ h => h) (by rfl) (fun w' hw' => ?_) rfl ?_
        rotate_left
        · go_simp
          with_reducible rfl
        simp only [Act.put, List.setIfInBounds_toArray, List.set_cons_zero, List.set_cons_succ]
        -- 1: slot 20
        refine wpG_take preAny (i := 1) (v := ?_) (some 20) rfl (by kernel_rfl) (by kernel_rfl) (by kernel_rfl) (fun _ _ _ h => h) (by rfl) (fun w' hw' => ?_) rfl ?_
        rotate_left
        · go_simp
          with_reducible rfl
        simp only [Act.put, List.setIfInBounds_toArray, List.set_cons_zero, List.set_cons_succ]
        -- 2: slot 21
        refine wpG_take preAny (i := 2) (v := ?_) (some 21) rfl (by kernel_rfl) (by kernel_rfl) (by kernel_rfl) (fun _ _ _ h => h) (by rfl) (fun w' hw' => ?_) rfl ?_
        rotate_left
        · go_simp
          with_reducible rfl
        simp only [Act.put, List.setIfInBounds_toArray, List.set_cons_zero, List.set_cons_succ]
        -- 3: slot 22
        refine wpG_take preAny (i := 3) (v := ?_) (some 22) rfl (by kernel_rfl) (by kernel_rfl) (by kernel_rfl) (fun _ _ _ h => h) (by rfl) (fun w' hw' => ?_) rfl ?_
        rotate_left
        · go_simp
          with_reducible rfl
        simp only [Act.put, List.setIfInBounds_toArray, List.set_cons_zero, List.set_cons_succ]
        -- 4: slot 23
        refine wpG_take preAny (i := 4) (v := ?_) (some 23) rfl (by kernel_rfl) (by kernel_rfl) (by kernel_rfl) (fun _ _ _ h => h) (by rfl) (fun w' hw' => ?_) rfl ?_
        rotate_left
        · go_simp
          with_reducible rfl
        simp only [Act.put, List.setIfInBounds_toArray, List.set_cons_zero, List.set_cons_succ]
        -- 5: slot 24
        refine wpG_take preAny (i := 5) (v := ?_) (some 24) rfl (by kernel_rfl) (by kernel_rfl) (by kernel_rfl) (fun _ _ _ h => h) (by rfl) (fun w' hw' => ?_) rfl ?_
        rotate_left
        · go_simp
          with_reducible rfl
        simp only [Act.put, List.setIfInBounds_toArray, List.set_cons_zero, List.set_cons_succ]
        -- 6: slot 25
        refine wpG_take preAny (i := 6) (v := ?_) (some 25) rfl (by kernel_rfl) (by kernel_rfl) (by kernel_rfl) (fun _ _ _ h => h) (by rfl) (fun w' hw' => ?_) rfl ?_
        rotate_left
        · go_simp
          with_reducible rfl
        simp only [Act.put, List.setIfInBounds_toArray, List.set_cons_zero, List.set_cons_succ]
        refine wpG_one (i := 7) rfl (by kernel_rfl) (by rfl) ?_
        go_simp
        refine (pair_yes _ _ a b _ HA.out HB.out).mono ?_
        rintro e w' ⟨rfl, rfl⟩
        refine ⟨trivial, ?_⟩
        try simp only [Act.put, List.setIfInBounds_toArray, List.set_cons_zero, List.set_cons_succ]
        -- 8: slot 18
        refine wpG_take preAny (i := 8) (v := ?_) (some 18) rfl (by kernel_rfl) (by kernel_rfl) (by kernel_rfl) (fun _ _ _ h => h) (by rfl) (fun w' hw' => ?_) rfl ?_
        rotate_left
        · go_simp
          with_reducible rfl
        simp only [Act.put, List.setIfInBounds_toArray, List.set_cons_zero, List.set_cons_succ]
        -- 9: slot 27
        refine wpG_take preAny (i := 9) (v := ?_) (some 27) rfl (by kernel_rfl) (by kernel_rfl) (by kernel_rfl) (fun _ _ _ h => h) (by rfl) (fun w' hw' => ?_) rfl ?_
        rotate_left
        · go_simp
          with_reducible rfl
        simp only [Act.put, List.setIfInBounds_toArray, List.set_cons_zero, List.set_cons_succ]
        -- 10: slot 28
        refine wpG_take preAny (i := 10) (v := ?_) (some 28) rfl (by kernel_rfl) (by kernel_rfl) (by kernel_rfl) (fun _ _ _ h => h) (by rfl) (fun w' hw' => ?_) rfl ?_
        rotate_left
        · go_simp
          with_reducible rfl
        simp only [Act.put, List.setIfInBounds_toArray, List.set_cons_zero, List.set_cons_succ]
        -- 11: slot 7
        refine wpG_take preAny (i := 11) (v := ?_) (some 7) rfl (by kernel_rfl) (by kernel_rfl) (by kernel_rfl) (fun _ _ _ h => h) (by rfl) (fun w' hw' => ?_) rfl ?_
        rotate_left
        · go_simp
          with_reducible rfl
        simp only [Act.put, List.setIfInBounds_toArray, List.set_cons_zero, List.set_cons_succ]
        -- 12: slot 8
        refine wpG_take preAny (i := 12) (v := ?_) (some 8) rfl (by kernel_rfl) (by kernel_rfl) (by kernel_rfl) (fun _ _ _ h => h) (by rfl) (fun w' hw' => ?_) rfl ?_
        rotate_left
        · go_simp
          with_reducible rfl
        simp only [Act.put, List.setIfInBounds_toArray, List.set_cons_zero, List.set_cons_succ]
        refine wpG_done (by kernel_rfl) ?_ _
        go_wp2
        go_roundw
        case rel =>
          refine ⟨k + 1, by omega, by go_num, ?_, ?_, (hb.drew).setCell (by simp) _⟩
          · have := heap_setCell_same wr.drew (w.heap.size + 1) k _ _ (.int .u8 (macB s k : Nat)) HM.out
            rw [macC_step s k (by omega), HP.out] at this
            exact this
          · exact (heap_setCell_other wr ⟨w.heap.size + 1, k, none⟩ w.heap.size _ (by simp)).trans HR.out
        case measure => simp [intOf]; omega
    · obtain rfl : k = 6 := by omega
      rw [macC_six] at hm
      obtain ⟨c0, c1, c2, c3, c4, c5⟩ := cells6 hm
      obtain ⟨r0, r1, r2, r3, r4, r5⟩ := cells6 hr
      have f0 := frozen_of_row _ _ 0 _ _ hr
      have f1 := frozen_of_row _ _ 1 _ _ hr
      have f2 := frozen_of_row _ _ 2 _ _ hr
      have f3 := frozen_of_row _ _ 3 _ _ hr
      have f4 := frozen_of_row _ _ 4 _ _ hr
      have f5 := frozen_of_row _ _ 5 _ _ hr
      have HR := Lib.hid hr
      clear hm hr
      go_wp2
      refine bodyPost_ret (results_cell_tmp_row (P := Try.prog) (fn := Try.f19) rfl _ _ w.heap.size 38 _ (0, 0) _ rfl (set6 HR.out _ _ _ _ _ _) Try.underlying38 rfl (by kernel_rfl)) rfl ?_
      exact ⟨rfl, below_set6 hb (Nat.le_refl _) _ _ _ _ _ _⟩
end Go.Proofs.Ytjpihjonkdgnhaa
