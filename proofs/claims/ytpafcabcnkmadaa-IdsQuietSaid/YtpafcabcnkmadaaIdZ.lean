/-
  later: a call's tick, behind another one.
-/
import Derived.Test.YtpafcabcnkmadaaIdY
import Derived.Test.YtpafcabcnkmadaaGrowH
import Derived.IntWalk
namespace Go.Proofs.Ytpafcabcnkmadaa.Id
open Go.RowKit
set_option linter.unusedVariables false
set_option linter.unusedSimpArgs false

theorem u64_wrap_nonneg (x : Int) : 0 ≤ IntKind.u64.wrap x := by
  rw [IntKind.wrap_u64]
  omega
theorem later_any (t k id x : Int) (w : World) (h0 : 0 ≤ t) (h1 : t ≤ 10000) :
    Calls Try.prog 17 #[.int .i64 t, .agg #[.int .i64 k, .int .i64 id, .int .i64 x]] w fun e w' => ∃ r : Int, 0 ≤ r ∧ r ≤ 6 ∧ e = .returned (.int .i64 (t + r)) ∧ Below w.heap.size w w' := by
  have HB : Hid (Below w.heap.size w (w.alloc (.cells #[.int .i64 k, .int .i64 id, .int .i64 x] 29))) := (Below.refl _ _).alloc (Nat.le_refl _) _
  obtain ⟨e0, e1, e2⟩ := cells3 (heap_alloc_last w (.cells #[.int .i64 k, .int .i64 id, .int .i64 x] 29))
  obtain ⟨U, hU⟩ : ∃ U, IntKind.u64.wrap x = U := ⟨_, rfl⟩
  have hUb : 0 ≤ U := by rw [← hU]; exact u64_wrap_nonneg x
  obtain ⟨r, hr⟩ : ∃ r, U.tmod 7 = r := ⟨_, rfl⟩
  have hrb : 0 ≤ r ∧ r ≤ 6 := by rw [← hr, Int.tmod_eq_emod_of_nonneg hUb]; omega
  have HR := Lib.hid hrb
  have x1 : wrap64 r = r := wrap64_in (by omega) (by omega)
  have x2 : wrap64 (t + r) = t + r := wrap64_in (by omega) (by omega)
  have hle : t + r ≤ 1099511627776 := by omega
  clear hUb hrb h0 h1
  go_enter Try.func17, Try.ntmps17
  go_wp2
  go_ret
  exact ⟨r, HR.out.1, HR.out.2, rfl, HB.out⟩
end Go.Proofs.Ytpafcabcnkmadaa.Id
