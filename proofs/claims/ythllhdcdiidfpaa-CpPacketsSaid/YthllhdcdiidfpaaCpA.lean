/-
  Which numbers may be: cp.protoMayBe, cp.isByte, the document's IsProto, byteOK.
-/
import Derived.Test.YthllhdcdiidfpaaCpM
namespace Go.Proofs.Ythllhdcdiidfpaa
open Go.RowKit
set_option linter.unusedVariables false
set_option linter.unusedSimpArgs false

theorem isByte_any (n : Int) (w : World) : Calls Try.prog 30 #[.int .i64 n] w fun e w' => e = .returned (.bool (byteB n)) ∧ w = w' := by
  by_cases h1 : 0 ≤ n
  · by_cases h2 : n ≤ 255
    · rw [byteB_yes h1 h2]
      go_enter Try.func30, Try.ntmps30
      go_wp2
      go_ret
      exact ⟨rfl, rfl⟩
    · rw [show byteB n = false by unfold byteB; simp [h2]]
      go_enter Try.func30, Try.ntmps30
      go_wp2
      go_ret
      exact ⟨rfl, rfl⟩
  · rw [show byteB n = false by unfold byteB; simp [h1]]
    go_enter Try.func30, Try.ntmps30
    go_wp2
    go_ret
    exact ⟨rfl, rfl⟩
theorem byteOK_any (n : Int) (w : World) : Calls Try.prog 31 #[.int .i64 n] w fun e w' => e = .returned (.bool (byteB n)) ∧ w = w' := by
  by_cases h1 : 0 ≤ n
  · by_cases h2 : n ≤ 255
    · rw [byteB_yes h1 h2]
      go_enter Try.func31, Try.ntmps31
      go_wp2
      go_ret
      exact ⟨rfl, rfl⟩
    · rw [show byteB n = false by unfold byteB; simp [h2]]
      go_enter Try.func31, Try.ntmps31
      go_wp2
      go_ret
      exact ⟨rfl, rfl⟩
  · rw [show byteB n = false by unfold byteB; simp [h1]]
    go_enter Try.func31, Try.ntmps31
    go_wp2
    go_ret
    exact ⟨rfl, rfl⟩
theorem protoB_low {n : Int} (h : ¬ 1 ≤ n) : protoB n = false := by unfold protoB; simp [h]
theorem protoB_high {n : Int} (h : ¬ n ≤ 65535) : protoB n = false := by unfold protoB; simp [h]
theorem isProto_any (n : Int) (w : World) : Calls Try.prog 27 #[.int .i64 n] w fun e w' => e = .returned (.bool (protoB n)) ∧ w = w' := by
  by_cases h1 : 1 ≤ n
  · by_cases h2 : n ≤ 65535
    · obtain ⟨N, rfl⟩ : ∃ N : Nat, n = (N : Int) := ⟨n.toNat, by omega⟩
      have e : protoB (N : Int) = (decide ((N : Int) / 256 % 2 = 0) && decide ((N : Int) % 2 = 1)) := by
        unfold protoB
        rw [decide_eq_true h1, decide_eq_true h2]
        simp only [Bool.true_and]
      rw [e]
      by_cases hX : (N : Int) / 256 % 2 = 0
      · by_cases hY : (N : Int) % 2 = 1
        · rw [decide_eq_true hX, decide_eq_true hY]
          go_enter Try.func27, Try.ntmps27
          go_wp2
          go_ret
          exact ⟨rfl, rfl⟩
        · rw [decide_eq_true hX, decide_eq_false hY]
          have hY0 : (N : Int) % 2 = 0 := by omega
          clear hY
          go_enter Try.func27, Try.ntmps27
          go_wp2
          go_ret
          exact ⟨rfl, rfl⟩
      · rw [decide_eq_false hX, Bool.false_and]
        have hX1 : (N : Int) / 256 % 2 = 1 := by omega
        clear hX
        go_enter Try.func27, Try.ntmps27
        go_wp2
        go_ret
        exact ⟨rfl, rfl⟩
    · rw [protoB_high h2]
      go_enter Try.func27, Try.ntmps27
      go_wp2
      go_ret
      exact ⟨rfl, rfl⟩
  · rw [protoB_low h1]
    go_enter Try.func27, Try.ntmps27
    go_wp2
    go_ret
    exact ⟨rfl, rfl⟩
theorem protoMayBe_any (n : Int) (w : World) : Calls Try.prog 25 #[.int .i64 n] w fun e w' => e = .returned (.bool (protoB n)) ∧ w = w' := by
  by_cases h1 : 1 ≤ n
  · by_cases h2 : n ≤ 65535
    · obtain ⟨N, rfl⟩ : ∃ N : Nat, n = (N : Int) := ⟨n.toNat, by omega⟩
      have e : protoB (N : Int) = (decide ((N : Int) / 256 % 2 = 0) && decide ((N : Int) % 2 = 1)) := by
        unfold protoB
        rw [decide_eq_true h1, decide_eq_true h2]
        simp only [Bool.true_and]
      rw [e]
      by_cases hX : (N : Int) / 256 % 2 = 0
      · by_cases hY : (N : Int) % 2 = 1
        · rw [decide_eq_true hX, decide_eq_true hY]
          have a1 := i64_and1 (N : Int)
          have a2 := i64_and1 ((N : Int) / 256)
          go_enter Try.func25, Try.ntmps25
          go_wp2
          go_ret
          exact ⟨rfl, rfl⟩
        · rw [decide_eq_true hX, decide_eq_false hY]
          have a1 := i64_and1 (N : Int)
          have a2 := i64_and1 ((N : Int) / 256)
          have hY0 : (N : Int) % 2 = 0 := by omega
          clear hY
          go_enter Try.func25, Try.ntmps25
          go_wp2
          go_ret
          exact ⟨rfl, rfl⟩
      · rw [decide_eq_false hX, Bool.false_and]
        have a1 := i64_and1 (N : Int)
        have a2 := i64_and1 ((N : Int) / 256)
        have hX1 : (N : Int) / 256 % 2 = 1 := by omega
        clear hX
        go_enter Try.func25, Try.ntmps25
        go_wp2
        go_ret
        exact ⟨rfl, rfl⟩
    · rw [protoB_high h2]
      go_enter Try.func25, Try.ntmps25
      go_wp2
      go_ret
      exact ⟨rfl, rfl⟩
  · rw [protoB_low h1]
    go_enter Try.func25, Try.ntmps25
    go_wp2
    go_ret
    exact ⟨rfl, rfl⟩
end Go.Proofs.Ythllhdcdiidfpaa
