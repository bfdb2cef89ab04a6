/-
  ether.Check and the document's, whatever comes.
-/
import Derived.Test.YtkalbchcgdnciaaEthP
import Derived.Test.YtkalbchcgdnciaaPut
namespace Go.Proofs.Ytkalbchcgdnciaa
open Go.RowKit
set_option linter.unusedVariables false
set_option linter.unusedSimpArgs false

theorem check_any (D S : List UInt8) (t : Int) (a : Option Addr) (n c : Nat) (hD : D.length = 6) (hS : S.length = 6) (hm : n ≤ maxLen) (w : World) :
    Calls Try.prog 12 #[.agg (ethL D S t (.slice a n c)).toArray] w fun e w' => e = .returned (.int .i64 (chk t n)) ∧ Below w.heap.size w w' := by
  have h12 := ethL_12 t (.slice a n c) hD hS
  have h13 := ethL_13 t (.slice a n c) hD hS
  unfold maxLen at hm
  generalize ethL D S t (.slice a n c) = E at h12 h13 ⊢
  clear hD hS
  by_cases h1 : t < 1536
  · rw [chk_type (by omega)]
    go_enter Try.func12, Try.ntmps12
    go_wp2
    go_ret
    exact ⟨rfl, (Below.refl _ _).alloc (Nat.le_refl _) _⟩
  · by_cases h2 : 65535 < t
    · rw [chk_type (by omega)]
      go_enter Try.func12, Try.ntmps12
      go_wp2
      go_ret
      exact ⟨rfl, (Below.refl _ _).alloc (Nat.le_refl _) _⟩
    · by_cases h3 : 1500 < n
      · rw [chk_long (by omega) h3]
        go_enter Try.func12, Try.ntmps12
        go_wp2
        go_ret
        exact ⟨rfl, (Below.refl _ _).alloc (Nat.le_refl _) _⟩
      · rw [chk_ok (by omega) h3]
        go_enter Try.func12, Try.ntmps12
        go_wp2
        go_ret
        exact ⟨rfl, (Below.refl _ _).alloc (Nat.le_refl _) _⟩
theorem rcheck_any (D S : List UInt8) (t : Int) (a : Option Addr) (n c : Nat) (hD : D.length = 6) (hS : S.length = 6) (hm : n ≤ maxLen) (w : World) :
    Calls Try.prog 13 #[.agg (ethL D S t (.slice a n c)).toArray] w fun e w' => e = .returned (.int .i64 (chk t n)) ∧ Below w.heap.size w w' := by
  have h12 := ethL_12 t (.slice a n c) hD hS
  have h13 := ethL_13 t (.slice a n c) hD hS
  unfold maxLen at hm
  generalize ethL D S t (.slice a n c) = E at h12 h13 ⊢
  clear hD hS
  by_cases h1 : t < 1536
  · rw [chk_type (by omega)]
    go_enter Try.func13, Try.ntmps13
    go_wp2
    go_ret
    exact ⟨rfl, (Below.refl _ _).alloc (Nat.le_refl _) _⟩
  · by_cases h2 : 65535 < t
    · rw [chk_type (by omega)]
      go_enter Try.func13, Try.ntmps13
      go_wp2
      go_ret
      exact ⟨rfl, (Below.refl _ _).alloc (Nat.le_refl _) _⟩
    · by_cases h3 : 1500 < n
      · rw [chk_long (by omega) h3]
        go_enter Try.func13, Try.ntmps13
        go_wp2
        go_ret
        exact ⟨rfl, (Below.refl _ _).alloc (Nat.le_refl _) _⟩
      · rw [chk_ok (by omega) h3]
        go_enter Try.func13, Try.ntmps13
        go_wp2
        go_ret
        exact ⟨rfl, (Below.refl _ _).alloc (Nat.le_refl _) _⟩
end Go.Proofs.Ytkalbchcgdnciaa
