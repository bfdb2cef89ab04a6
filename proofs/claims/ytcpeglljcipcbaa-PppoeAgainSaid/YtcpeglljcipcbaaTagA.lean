/-
  Which tags may be: tags.mayBe, the document's Is.
-/
import Derived.Test.YtcpeglljcipcbaaTagM
namespace Go.Proofs.Ytcpeglljcipcbaa
open Go.RowKit
set_option linter.unusedVariables false
set_option linter.unusedSimpArgs false

theorem mayBe_any (T : Int) (a : Option Addr) (n c : Nat) (l : List UInt8) (hn : l.length = n) (w : World) :
    Calls Try.prog 51 #[.agg #[.int .i64 T, .slice a n c]] w fun e w' => e = .returned (.bool (decide (isT (T, l)))) ∧ Below w.heap.size w w' := by
  have e : decide (isT (T, l)) = (decide (0 < T) && decide (T ≤ 65535) && decide ((n : Int) ≤ 65535)) := by
    rw [Bool.eq_iff_iff]
    simp only [Bool.and_eq_true, decide_eq_true_eq]
    show (1 ≤ T ∧ T ≤ 65535 ∧ l.length ≤ 65535) ↔ _
    omega
  rw [e]
  clear e hn
  by_cases h1 : 0 < T
  · by_cases h2 : T ≤ 65535
    · go_enter Try.func51, Try.ntmps51
      go_wp2
      go_ret
      refine ⟨by simp [h1, h2]; try omega, ?_⟩
      exact (Below.refl _ _).alloc (Nat.le_refl _) _
    · go_enter Try.func51, Try.ntmps51
      go_wp2
      go_ret
      refine ⟨by simp [h1, h2]; try omega, ?_⟩
      exact (Below.refl _ _).alloc (Nat.le_refl _) _
  · go_enter Try.func51, Try.ntmps51
    go_wp2
    go_ret
    refine ⟨by simp [h1]; try omega, ?_⟩
    exact (Below.refl _ _).alloc (Nat.le_refl _) _
theorem is_any (T : Int) (a : Option Addr) (n c : Nat) (l : List UInt8) (hn : l.length = n) (w : World) :
    Calls Try.prog 52 #[.agg #[.int .i64 T, .slice a n c]] w fun e w' => e = .returned (.bool (decide (isT (T, l)))) ∧ Below w.heap.size w w' := by
  have e : decide (isT (T, l)) = (decide (1 ≤ T) && decide (T ≤ 65535) && decide ((n : Int) ≤ 65535)) := by
    rw [Bool.eq_iff_iff]
    simp only [Bool.and_eq_true, decide_eq_true_eq]
    show (1 ≤ T ∧ T ≤ 65535 ∧ l.length ≤ 65535) ↔ _
    omega
  rw [e]
  clear e hn
  by_cases h1 : 1 ≤ T
  · by_cases h2 : T ≤ 65535
    · go_enter Try.func52, Try.ntmps52
      go_wp2
      go_ret
      refine ⟨by simp [h1, h2]; try omega, ?_⟩
      exact (Below.refl _ _).alloc (Nat.le_refl _) _
    · go_enter Try.func52, Try.ntmps52
      go_wp2
      go_ret
      refine ⟨by simp [h1, h2]; try omega, ?_⟩
      exact (Below.refl _ _).alloc (Nat.le_refl _) _
  · go_enter Try.func52, Try.ntmps52
    go_wp2
    go_ret
    refine ⟨by simp [h1]; try omega, ?_⟩
    exact (Below.refl _ _).alloc (Nat.le_refl _) _
end Go.Proofs.Ytcpeglljcipcbaa
