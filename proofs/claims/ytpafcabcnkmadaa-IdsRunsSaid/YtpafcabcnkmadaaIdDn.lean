/-
  step: a call of both, whichever.
-/
import Derived.Test.YtpafcabcnkmadaaIdDk
import Derived.Test.YtpafcabcnkmadaaIdDl
import Derived.Test.YtpafcabcnkmadaaIdDm
namespace Go.Proofs.Ytpafcabcnkmadaa.Id
open Go.RowKit
set_option linter.unusedVariables false

theorem step_any {W : World} {gb : Nat} {lo hi : Int} (k id x : Int) (w : World) (h : BX W w gb lo hi) (hl : hi - lo ≤ 12) :
    Calls Try.prog 11 #[.pointer (some ⟨gb, 0, none⟩), .agg #[.int .i64 k, .int .i64 id, .int .i64 x]] w fun e w' => e = .returned (.bool true) ∧ BX W w' gb lo hi := by
  obtain ⟨g, gd, m, rv, uv, ev, S, rfl, rfl, h⟩ := h
  by_cases h1 : k = 1
  · subst h1; exact step_1 id x w h hl
  by_cases h2 : k = 2
  · subst h2; exact step_2 id x w h hl
  by_cases h3 : k = 3
  · subst h3; exact step_3 id x w h hl
  by_cases h4 : k = 4
  · subst h4; exact step_4 id x w h hl
  exact step_0 k id x w h h1 h2 h3 h4
end Go.Proofs.Ytpafcabcnkmadaa.Id
