/-
  Same, SamePPP of two that are the same; the laws' cut.
-/
import Derived.Test.YthllhdcdiidfpaaCpM
import Derived.Test.YthllhdcdiidfpaaOpen
namespace Go.Proofs.Ythllhdcdiidfpaa
open Go.RowKit
set_option linter.unusedVariables false
set_option linter.unusedSimpArgs false

set_option maxHeartbeats 1000000 in
theorem csame_true (c s : Int) (A A' : Option Addr) (L C C' : Nat) (l : List UInt8) (w : World) (h1 : Bs w (.slice A L C) l) (h2 : Bs w (.slice A' L C') l) :
    Calls Try.prog 19 #[.agg #[.int .i64 c, .int .i64 s, .slice A L C], .agg #[.int .i64 c, .int .i64 s, .slice A' L C']] w fun e w' => e = .returned (.bool true) ∧ Below w.heap.size w w' := by
  have BA : Below w.heap.size w ((w.alloc (.cells #[.int .i64 c, .int .i64 s, .slice A L C] 39)).alloc (.cells #[.int .i64 c, .int .i64 s, .slice A' L C'] 39)) := ((Below.refl _ _).alloc (Nat.le_refl _) _).alloc (by simp) _
  have HBA := Lib.hid BA
  have s1 := run_string_of (P := Try.prog) 22 9 5 Try.underlying22 Try.underlying5 Try.underlying9 (h1.below BA)
  have s2 := run_string_of (P := Try.prog) 22 9 5 Try.underlying22 Try.underlying5 Try.underlying9 (h2.below BA)
  clear BA h1 h2
  go_enter Try.func19, Try.ntmps19
  go_wp2
  go_ret
  exact ⟨by simp, HBA.out⟩
set_option maxHeartbeats 1000000 in
theorem qsame_true (c : Int) (A A' : Option Addr) (L C C' : Nat) (l : List UInt8) (w : World) (h1 : Bs w (.slice A L C) l) (h2 : Bs w (.slice A' L C') l) :
    Calls Try.prog 13 #[.agg #[.int .i64 c, .slice A L C], .agg #[.int .i64 c, .slice A' L C']] w fun e w' => e = .returned (.bool true) ∧ Below w.heap.size w w' := by
  have BA : Below w.heap.size w ((w.alloc (.cells #[.int .i64 c, .slice A L C] 24)).alloc (.cells #[.int .i64 c, .slice A' L C'] 24)) := ((Below.refl _ _).alloc (Nat.le_refl _) _).alloc (by simp) _
  have HBA := Lib.hid BA
  have s1 := run_string_of (P := Try.prog) 22 9 5 Try.underlying22 Try.underlying5 Try.underlying9 (h1.below BA)
  have s2 := run_string_of (P := Try.prog) 22 9 5 Try.underlying22 Try.underlying5 Try.underlying9 (h2.below BA)
  clear BA h1 h2
  go_enter Try.func13, Try.ntmps13
  go_wp2
  go_ret
  exact ⟨by simp, HBA.out⟩
theorem cut7_any (a : Option Addr) (n c : Nat) (w : World) (hn : n ≤ c) (hc : c ≤ maxLen):
    Calls Try.prog 8 #[.slice a n c] w fun e w' => e = .returned (.slice a (min n 1600) c) ∧ w = w' := by
  unfold maxLen at hc
  by_cases h : n ≤ 1600
  · have e : min n 1600 = n := by omega
    rw [e]
    go_enter Try.func8, Try.ntmps8
    go_wp2
    go_ret
    exact ⟨rfl, rfl⟩
  · have e : min n 1600 = 1600 := by omega
    rw [e]
    go_enter Try.func8, Try.ntmps8
    go_wp2
    go_ret
    exact ⟨rfl, rfl⟩
theorem cut7_in {W : World} {a : Option Addr} {n c : Nat} {l : List UInt8} (hn : l.length = n) (b : Bs W (.slice a n c) l) :
    ∃ (m : Nat) (x : List UInt8), m ≤ 1600 ∧ x.length = m ∧ Bs W (.slice a m c) x ∧ ∀ w, Calls Try.prog 8 #[.slice a n c] w fun e w' => e = .returned (.slice a m c) ∧ w = w' := by
  obtain ⟨_, _, es, hc, hm⟩ := b.shape
  simp only [Value.slice.injEq] at es
  obtain ⟨rfl, _, rfl⟩ := es
  have u := b.upto hn (min n 1600) (by omega)
  have g : (l.take (min n 1600)).length = min n 1600 := by rw [List.length_take]; omega
  exact ⟨min n 1600, l.take (min n 1600), by omega, g, u, fun w => cut7_any a n c w (by omega) hm⟩
end Go.Proofs.Ythllhdcdiidfpaa
