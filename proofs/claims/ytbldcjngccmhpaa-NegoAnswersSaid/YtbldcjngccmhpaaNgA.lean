/-
  Which numbers a rule takes, which rules may be: nego.isIn, kindOf, its methods, rule.mayBe.
-/
import Derived.Test.YtbldcjngccmhpaaNgM
import Derived.IntWalk
namespace Go.Proofs.Ytbldcjngccmhpaa.Ng
open Go.RowKit
set_option linter.unusedVariables false
set_option linter.unusedSimpArgs false
theorem isIn_any (n lo hi : Int) (w : World) :
    Calls Try.prog 56 #[.int .i64 n, .int .i64 lo, .int .i64 hi] w fun e w' => e = .returned (.bool (decide (lo ≤ n ∧ n ≤ hi))) ∧ w = w' := by
  by_cases h1 : lo ≤ n
  · go_enter Try.func56, Try.ntmps56
    go_wp2
    go_ret
    refine ⟨by simp [h1]; try (intros; omega), rfl⟩
  · go_enter Try.func56, Try.ntmps56
    go_wp2
    go_ret
    refine ⟨by simp [h1]; try (intros; omega), rfl⟩
theorem takesEach_any (r : Ru) (n : Int) (w : World) : Calls Try.prog 63 #[.agg #[.int .i64 r.typ, .int .i64 r.size, .int .i64 r.kind, .int .i64 r.low, .int .i64 r.high, .int .i64 r.good, .bool r.must], .int .i64 n] w fun e w' => e = .returned (.bool true) ∧ Below w.heap.size w w' := by
  go_enter Try.func63, Try.ntmps63
  go_wp2
  go_ret
  exact ⟨rfl, by first | exact Below.refl _ _ | exact (Below.refl _ _).alloc (Nat.le_refl _) _⟩
theorem takesSpan_any (r : Ru) (n : Int) (w : World) : Calls Try.prog 64 #[.agg #[.int .i64 r.typ, .int .i64 r.size, .int .i64 r.kind, .int .i64 r.low, .int .i64 r.high, .int .i64 r.good, .bool r.must], .int .i64 n] w fun e w' => e = .returned (.bool (decide (r.low ≤ n ∧ n ≤ r.high))) ∧ Below w.heap.size w w' := by
  have I := Lib.hid (isIn_any n r.low r.high (w.alloc (.cells #[.int .i64 r.typ, .int .i64 r.size, .int .i64 r.kind, .int .i64 r.low, .int .i64 r.high, .int .i64 r.good, .bool r.must] 56)))
  go_enter Try.func64, Try.ntmps64
  go_wp2_with fail
  refine I.out.mono ?_
  rintro e w' ⟨rfl, rfl⟩
  go_wp2
  go_ret
  exact ⟨by simp, (Below.refl _ _).alloc (Nat.le_refl _) _⟩
theorem takesGood_any (r : Ru) (n : Int) (w : World) : Calls Try.prog 65 #[.agg #[.int .i64 r.typ, .int .i64 r.size, .int .i64 r.kind, .int .i64 r.low, .int .i64 r.high, .int .i64 r.good, .bool r.must], .int .i64 n] w fun e w' => e = .returned (.bool (decide (n = r.good))) ∧ Below w.heap.size w w' := by
  go_enter Try.func65, Try.ntmps65
  go_wp2
  go_ret
  exact ⟨by simp [Bool.beq_eq_decide_eq], (Below.refl _ _).alloc (Nat.le_refl _) _⟩
theorem takesOther_any (r : Ru) (n : Int) (w : World) : Calls Try.prog 66 #[.agg #[.int .i64 r.typ, .int .i64 r.size, .int .i64 r.kind, .int .i64 r.low, .int .i64 r.high, .int .i64 r.good, .bool r.must], .int .i64 n] w fun e w' => e = .returned (.bool (decide (n ≠ r.low))) ∧ Below w.heap.size w w' := by
  go_enter Try.func66, Try.ntmps66
  go_wp2
  go_ret
  exact ⟨by simp [bne, Bool.beq_eq_decide_eq], (Below.refl _ _).alloc (Nat.le_refl _) _⟩
/-- What kindOf tells. -/
theorem kindOf_any (K : Int) (w : World) :
    Calls Try.prog 55 #[.int .i64 K] w fun e w' => ((∃ k, e = .returned (.func (.func k) #[] #[]) ∧ (1 ≤ K ∧ K ≤ 4) ∧ (∀ (args : Array Value) (w' : World), (callFunc k args).run Try.prog w' = .ok (.enter k args) w') ∧
      ∀ (r : Ru) (n : Int) (w2 : World), r.kind = K → Calls Try.prog k #[.agg #[.int .i64 r.typ, .int .i64 r.size, .int .i64 r.kind, .int .i64 r.low, .int .i64 r.high, .int .i64 r.good, .bool r.must], .int .i64 n] w2 fun e w3 => e = .returned (.bool (takes r n)) ∧ Below w2.heap.size w2 w3) ∨
      (e = .returned (.nilFunc) ∧ ¬ (1 ≤ K ∧ K ≤ 4))) ∧ w = w' := by
  by_cases h1 : K = 1
  · subst h1
    go_enter Try.func55, Try.ntmps55
    go_wp2
    go_ret
    refine ⟨.inl ⟨63, rfl, by omega, fun _ _ => rfl, fun r n w2 hr => ?_⟩, rfl⟩
    have e : takes r n = true := by unfold takes; rw [if_pos hr]
    rw [e]
    exact takesEach_any r n w2
  by_cases h2 : K = 2
  · subst h2
    go_enter Try.func55, Try.ntmps55
    go_wp2
    go_ret
    refine ⟨.inl ⟨64, rfl, by omega, fun _ _ => rfl, fun r n w2 hr => ?_⟩, rfl⟩
    have e : takes r n = decide (r.low ≤ n ∧ n ≤ r.high) := by unfold takes; rw [if_neg (by omega), if_pos hr]
    rw [e]
    exact takesSpan_any r n w2
  by_cases h3 : K = 3
  · subst h3
    go_enter Try.func55, Try.ntmps55
    go_wp2
    go_ret
    refine ⟨.inl ⟨65, rfl, by omega, fun _ _ => rfl, fun r n w2 hr => ?_⟩, rfl⟩
    have e : takes r n = decide (n = r.good) := by unfold takes; rw [if_neg (by omega), if_neg (by omega), if_pos hr]
    rw [e]
    exact takesGood_any r n w2
  by_cases h4 : K = 4
  · subst h4
    go_enter Try.func55, Try.ntmps55
    go_wp2
    go_ret
    refine ⟨.inl ⟨66, rfl, by omega, fun _ _ => rfl, fun r n w2 hr => ?_⟩, rfl⟩
    have e : takes r n = decide (n ≠ r.low) := by unfold takes; rw [if_neg (by omega), if_neg (by omega), if_neg (by omega), if_pos hr]
    rw [e]
    exact takesOther_any r n w2
  have e1 : (K == 1) = false := by simpa using h1
  have e2 : (K == 2) = false := by simpa using h2
  have e3 : (K == 3) = false := by simpa using h3
  have e4 : (K == 4) = false := by simpa using h4
  have HN : Hid (¬ (1 ≤ K ∧ K ≤ 4)) := by show ¬ _; omega
  clear h1 h2 h3 h4
  go_enter Try.func55, Try.ntmps55
  go_wp2
  go_ret
  exact ⟨.inr ⟨rfl, HN.out⟩, rfl⟩
end Go.Proofs.Ytbldcjngccmhpaa.Ng
