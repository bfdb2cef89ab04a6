/-
  octet.Put, where the size may be: the number's bytes in new memory.
-/
import Derived.Test.YtbldcjngccmhpaaRows
import Derived.Test.YtbldcjngccmhpaaPlain
import Derived.ProofKit
import Derived.BigQuiet
import Derived.Deep.QuietTactic
import Derived.Test.YtbldcjngccmhpaaGrow
namespace Go.Proofs.Ytbldcjngccmhpaa
open Go.RowKit
set_option linter.unusedVariables false
set_option linter.unusedSimpArgs false

theorem info5 : (Try.prog.info? 5).map (fun i => (i.zero, i.size, i.bytes)) = some (some (.int .u8 0), 1, 1) := by kernel_rfl
theorem sizeMayBe_yes (n : Int) (w : World) (h0 : 1 ≤ n) (h1 : n ≤ 8) :
    Calls Try.prog 67 #[.int .i64 n] w fun e w' => e = .returned (.bool true) ∧ w = w' := by
  go_enter Try.func67, Try.ntmps67
  go_wp2
  go_ret
  exact ⟨rfl, rfl⟩
theorem put_yes (n size : Nat) (w : World) (h0 : 1 ≤ size) (h1 : size ≤ 8) (hn : n < 18446744073709551616):
    Calls Try.prog 60 #[.int .u64 n, .int .i64 size] w fun e w' => ∃ v, e = .returned v ∧ OwnB w' w.heap.size 5 v (putL n size) ∧ Below w.heap.size w w' := by
  obtain ⟨i0, hi, hz0, hz1, hz2⟩ := info_parts info5
  go_enter Try.func60, Try.ntmps60
  go_wp2_with (first | (go_at_call 67; refine (sizeMayBe_yes _ _ (by omega) (by omega)).mono ?_; rintro e w' ⟨rfl, rfl⟩) | (at_make; refine wpList_make_full _ rfl _ _ 40 rfl w.heap.size 5 i0 (.int .u8 0) 1 Try.underlying40 hi hz0 hz1 _ _ _ _ size rfl rfl rfl rfl ?c1 ?c2 ?c3 ?_))
  case c1 => rw [hz2]; omega
  case c2 => unfold maxLen; omega
  case c3 => simp
  intro w1 hown hg
  have hb : Below w.heap.size w w1 := (Below.refl _ _).grown hg (Nat.le_refl _) (fun _ h => by cases h)
  clear hg
  go_wp2
  go_loopw [0, 13] (fun nv iv wr => ∃ k : Nat, k ≤ size ∧ iv = .int .i64 k ∧ nv = .int .u64 (n / 256 ^ k : Nat) ∧ wr.ownsRow w.heap.size 5 1 (.slice (some ⟨w.heap.size, 0, none⟩) size size) size (putK n size k) ∧ Below w.heap.size w wr) (fun _ iv _ => size - (intOf iv).toNat)
  case atStart =>
    refine ⟨0, Nat.zero_le _, rfl, by simp, ?_, hb⟩
    rw [putK_zero]
    rwa [toList_madeCells_one] at hown
  case round =>
    clear hown hb
    obtain ⟨k, hk, rfl, rfl, hown, hb⟩ := hrel
    by_cases hlt : k < size
    · have hf : wr.frozen? ⟨w.heap.size, size - 1 - k, none⟩ = false := hown.frozenAt _
      obtain ⟨u, hu⟩ : ∃ u, wr.cell? ⟨w.heap.size, size - 1 - k, none⟩ = some u := by
        rw [hown.cellAt _ (by omega)]
        exact ⟨_, List.getElem?_eq_getElem (by rw [putK_length]; omega)⟩
      go_wp2
      go_roundw
      case rel =>
        refine ⟨k + 1, by omega, by go_num, ?_, ?_, hb.setCell (Nat.le_refl _) _⟩
        · rw [← pow_step]; rfl
        · have := (hown.stored (size - 1 - k) (.int .u8 ((n / 256 ^ k % 256 : Nat) : Int))).1
          rw [putK_step n size k hlt] at this
          exact this
      case measure => simp [intOf]; omega
    · obtain rfl : k = size := by omega
      go_wp2
      go_ret
      exact ⟨_, rfl, by unfold OwnB; rw [putL_length, ← putK_full]; exact hown, hb⟩
end Go.Proofs.Ytbldcjngccmhpaa
