/-
  Which options, types, sizes may be: opts.isType, isSize, mayBe, sizeOf, highest; the document's Is.
-/
import Derived.Test.YteemcckfhadkhaaOpM
import Derived.IntWalk
namespace Go.Proofs.Yteemcckfhadkhaa.O
open Go.RowKit
set_option linter.unusedVariables false
set_option linter.unusedSimpArgs false

theorem isType_any (T : Int) (w : World) :
    Calls Try.prog 31 #[.int .i64 T] w fun e w' => e = .returned (.bool (decide (0 ≤ T ∧ T ≤ 255))) ∧ w = w' := by
  by_cases h1 : 0 ≤ T
  · go_enter Try.func31, Try.ntmps31
    go_wp2
    go_ret
    refine ⟨by simp [h1]; try (intros; omega), rfl⟩
  · go_enter Try.func31, Try.ntmps31
    go_wp2
    go_ret
    refine ⟨by simp [h1]; try (intros; omega), rfl⟩
theorem isSize_any (T : Int) (w : World) :
    Calls Try.prog 29 #[.int .i64 T] w fun e w' => e = .returned (.bool (decide (1 ≤ T ∧ T ≤ 4))) ∧ w = w' := by
  by_cases h1 : 1 ≤ T
  · go_enter Try.func29, Try.ntmps29
    go_wp2
    go_ret
    refine ⟨by simp [h1]; try (intros; omega), rfl⟩
  · go_enter Try.func29, Try.ntmps29
    go_wp2
    go_ret
    refine ⟨by simp [h1]; try (intros; omega), rfl⟩
theorem mayBe_any (T : Int) (a : Option Addr) (n c : Nat) (l : List UInt8) (hn : l.length = n) (w : World) :
    Calls Try.prog 26 #[.agg #[.int .i64 T, .slice a n c]] w fun e w' => e = .returned (.bool (decide (isT (T, l)))) ∧ Below w.heap.size w w' := by
  have e : decide (isT (T, l)) = (decide (0 ≤ T ∧ T ≤ 255) && decide ((n : Int) ≤ 253)) := by
    rw [Bool.eq_iff_iff]
    simp only [Bool.and_eq_true, decide_eq_true_eq]
    show (0 ≤ T ∧ T ≤ 255 ∧ l.length ≤ 253) ↔ _
    omega
  rw [e]
  clear e hn
  have IT := Lib.hid (isType_any T (w.alloc (.cells #[.int .i64 T, .slice a n c] 36)))
  by_cases h1 : 0 ≤ T ∧ T ≤ 255
  · have e1 : decide (0 ≤ T ∧ T ≤ 255) = true := decide_eq_true h1
    rw [e1] at IT ⊢
    clear e1 h1
    go_enter Try.func26, Try.ntmps26
    go_wp2_with fail
    refine IT.out.mono ?_
    rintro e w1 ⟨rfl, rfl⟩
    go_wp2
    go_ret
    refine ⟨by simp; try omega, ?_⟩
    exact (Below.refl _ _).alloc (Nat.le_refl _) _
  · have e1 : decide (0 ≤ T ∧ T ≤ 255) = false := decide_eq_false h1
    rw [e1] at IT ⊢
    clear e1 h1
    go_enter Try.func26, Try.ntmps26
    go_wp2_with fail
    refine IT.out.mono ?_
    rintro e w1 ⟨rfl, rfl⟩
    go_wp2
    go_ret
    refine ⟨by simp; try omega, ?_⟩
    exact (Below.refl _ _).alloc (Nat.le_refl _) _
theorem is_any (T : Int) (a : Option Addr) (n c : Nat) (l : List UInt8) (hn : l.length = n) (w : World) :
    Calls Try.prog 27 #[.agg #[.int .i64 T, .slice a n c]] w fun e w' => e = .returned (.bool (decide (isT (T, l)))) ∧ Below w.heap.size w w' := by
  have e : decide (isT (T, l)) = (decide (0 ≤ T) && decide (T ≤ 255) && decide ((n : Int) ≤ 253)) := by
    rw [Bool.eq_iff_iff]
    simp only [Bool.and_eq_true, decide_eq_true_eq]
    show (0 ≤ T ∧ T ≤ 255 ∧ l.length ≤ 253) ↔ _
    omega
  rw [e]
  clear e hn
  by_cases h1 : 0 ≤ T
  · by_cases h2 : T ≤ 255
    · go_enter Try.func27, Try.ntmps27
      go_wp2
      go_ret
      refine ⟨by simp [h1, h2]; try omega, ?_⟩
      exact (Below.refl _ _).alloc (Nat.le_refl _) _
    · go_enter Try.func27, Try.ntmps27
      go_wp2
      go_ret
      refine ⟨by simp [h1, h2]; try omega, ?_⟩
      exact (Below.refl _ _).alloc (Nat.le_refl _) _
  · go_enter Try.func27, Try.ntmps27
    go_wp2
    go_ret
    refine ⟨by simp [h1]; try omega, ?_⟩
    exact (Below.refl _ _).alloc (Nat.le_refl _) _
/-- What sizeOf tells: the length that the option at the beginning tells of itself, and whether it is whole. -/
theorem sizeOf_any (a : Option Addr) (n c : Nat) (l : List UInt8) (hn : l.length = n) (w : World) (hb : Bs w (.slice a n c) l) :
    Calls Try.prog 38 #[.slice a n c] w fun e w' => (∃ k : Nat, e = .returned (.tuple #[.int .i64 (k : Int), .bool (decide (fok l))]) ∧ (fok l → k = bN l 1)) ∧ w = w' := by
  subst hn
  obtain ⟨_, _, es0, hc0, hm0⟩ := hb.shape
  simp only [Value.slice.injEq] at es0
  obtain ⟨rfl, z0, rfl⟩ := es0
  clear z0
  unfold maxLen at hm0
  by_cases h2 : l.length < 2
  · have hf : ¬ fok l := fun h => by have := h.1; omega
    have e : decide (fok l) = false := decide_eq_false hf
    rw [e]
    have HF := Lib.hid hf
    clear hb e hf
    go_enter Try.func38, Try.ntmps38
    go_wp2
    go_ret2
    exact ⟨⟨0, rfl, fun h => absurd h HF.out⟩, rfl⟩
  · obtain ⟨b, o, rfl, hbl, hc⟩ := hb.cells (by omega)
    have h1 := hc 1 (by omega)
    have e : decide (fok l) = (decide (2 ≤ (bN l 1 : Int)) && decide ((bN l 1 : Int) ≤ (l.length : Int))) := by
      rw [Bool.eq_iff_iff]
      simp only [Bool.and_eq_true, decide_eq_true_eq]
      unfold fok
      omega
    have HE := Lib.hid e
    have hk := bN_lt l 1
    rw [← bN_get l 1 (by omega)] at h1
    generalize bN l 1 = k at HE h1 hk ⊢
    clear hc hb e
    by_cases hk2 : (2 : Int) ≤ (k : Int)
    · rw [HE.out]
      go_enter Try.func38, Try.ntmps38
      go_wp2
      go_ret2
      exact ⟨⟨k, by simp [hk2]; try (intros; omega), fun _ => rfl⟩, rfl⟩
    · rw [HE.out]
      go_enter Try.func38, Try.ntmps38
      go_wp2
      go_ret2
      exact ⟨⟨k, by simp [hk2]; try (intros; omega), fun _ => rfl⟩, rfl⟩
end Go.Proofs.Yteemcckfhadkhaa.O
