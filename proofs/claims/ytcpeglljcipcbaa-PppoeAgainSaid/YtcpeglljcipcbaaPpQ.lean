/-
  pppoe.asks, pppoe.service, pppoe.Client.
-/
import Derived.Test.YtcpeglljcipcbaaPpN
import Derived.Test.YtcpeglljcipcbaaTagI
namespace Go.Proofs.Ytcpeglljcipcbaa
open Go.RowKit
set_option linter.unusedVariables false
set_option linter.unusedSimpArgs false

theorem asks_any (C S : Int) (A : Option Addr) (L K : Nat) (l : List UInt8) (n : Nat) (w : World) :
    Calls Try.prog 40 #[.agg #[.int .i64 C, .int .i64 S, .slice A L K], .int .i64 n] w fun e w' => e = .returned (.bool (asksP ⟨C, S, l⟩ n)) ∧ Below w.heap.size w w' := by
  have HB : Hid (Below w.heap.size w (w.alloc (.cells #[.int .i64 C, .int .i64 S, .slice A L K] 24))) := (Below.refl _ _).alloc (Nat.le_refl _) _
  have e1 : ((n : Int) == 1) = decide (n = 1) := by
    by_cases h : n = 1
    · subst h; rfl
    · rw [decide_eq_false h, beq_eq_false_iff_ne]; omega
  by_cases h9 : C = 9
  · have HE : Hid (asksP ⟨C, S, l⟩ n = (decide (S = 0) && decide (n = 1))) := by show _ = _; unfold asksP; rw [if_pos (.inl h9)]
    subst h9
    by_cases hS : S = 0
    · subst hS
      go_enter Try.func40, Try.ntmps40
      go_wp2
      go_ret
      rw [HE.out]
      exact ⟨by simp, HB.out⟩
    · go_enter Try.func40, Try.ntmps40
      go_wp2
      go_ret
      rw [HE.out]
      exact ⟨by simp [hS], HB.out⟩
  by_cases h25 : C = 25
  · have HE : Hid (asksP ⟨C, S, l⟩ n = (decide (S = 0) && decide (n = 1))) := by show _ = _; unfold asksP; rw [if_pos (.inr h25)]
    subst h25
    by_cases hS : S = 0
    · subst hS
      go_enter Try.func40, Try.ntmps40
      go_wp2
      go_ret
      rw [HE.out]
      exact ⟨by simp, HB.out⟩
    · go_enter Try.func40, Try.ntmps40
      go_wp2
      go_ret
      rw [HE.out]
      exact ⟨by simp [hS], HB.out⟩
  by_cases h167 : C = 167
  · have HE : Hid (asksP ⟨C, S, l⟩ n = (decide (S ≠ 0) && decide (S ≤ 65535))) := by show _ = _; unfold asksP; rw [if_neg (by show ¬ (C = 9 ∨ C = 25); omega), if_pos h167]
    subst h167
    by_cases hS : S = 0
    · subst hS
      go_enter Try.func40, Try.ntmps40
      go_wp2
      go_ret
      rw [HE.out]
      exact ⟨by simp, HB.out⟩
    · go_enter Try.func40, Try.ntmps40
      go_wp2
      go_ret
      rw [HE.out]
      exact ⟨by simp [hS], HB.out⟩
  have HE : Hid (asksP ⟨C, S, l⟩ n = false) := by show _ = _; unfold asksP; rw [if_neg (by show ¬ (C = 9 ∨ C = 25); omega), if_neg (by exact h167)]
  go_enter Try.func40, Try.ntmps40
  go_wp2
  go_ret
  rw [HE.out]
  exact ⟨rfl, HB.out⟩

set_option maxHeartbeats 1000000 in
theorem service_any (ao : Option Addr) (n c : Nat) (ts : List Tg) (w : World) (hr : TR w (.slice ao n c) n ts) (hn : n ≤ 1000) (hm : ∀ x ∈ ts, x.l.length ≤ 140737488351232) :
    Calls Try.prog 43 #[.slice ao n c] w fun e w' => e = .returned (.string ⟨(findL ts 257).toArray⟩) ∧ Below w.heap.size w w' := by
  have FD := Lib.hid (find_any ao n c ts 257 w hr hn hm)
  clear hr hm
  go_enter Try.func43, Try.ntmps43
  go_wp2_with fail
  refine FD.out.mono ?_
  rintro e w1 ⟨v1, rfl, hown1, hb1⟩
  have HB1 := Lib.hid hb1
  obtain ⟨A1, L1, C1, ev, _, _, _⟩ := hown1.bs.sl
  subst ev
  have s1 := run_string_of (P := Try.prog) 22 9 5 Try.underlying22 Try.underlying5 Try.underlying9 hown1.bs
  clear hown1 hb1
  go_wp2
  go_ret
  exact ⟨rfl, HB1.out⟩
end Go.Proofs.Ytcpeglljcipcbaa
