/-
  The document's action of a name, and its Step.
-/
import Derived.Test.YtmhiajjnkcneoaaFsI
import Derived.Test.YtmhiajjnkcneoaaFsG
namespace Go.Proofs.Ytmhiajjnkcneoaa.Fs
open Go.RowKit
open Go.Proofs.Ytmhiajjnkcneoaa.Id (Tr Tr.refl Tr.gr Tr.only)
set_option linter.unusedVariables false
set_option linter.unusedSimpArgs false
/-- A text of the table, whatever it is. -/
theorem tx_of (l : List UInt8) : ∃ s : ByteArray, tx l = .string s ∧ bl s = l := ⟨⟨l.toArray⟩, rfl, by simp [bl]⟩
theorem bl_inj {s t : ByteArray} (h : bl s = bl t) : s = t := by
  cases s; cases t
  unfold bl at h
  exact congrArg ByteArray.mk (Array.toList_inj.1 h)
set_option maxHeartbeats 2000000 in
set_option maxRecDepth 20000 in
theorem action_any (t : ByteArray) (w : World) : Calls Try.prog 30 #[.string t] w fun e w' => e = .returned (.int .i64 (act (bl t))) ∧ Below w.heap.size w w' := by
  have HA := Lib.hid (actions_any w)
  go_enter Try.func30, Try.ntmps30
  go_wp2_with fail
  refine HA.out.mono ?_
  rintro e w1 ⟨rfl, hb, hc⟩
  have HB := Lib.hid hb
  have HC := Lib.hid hc
  clear hb hc HA
  go_wp2_with fail
  go_loopw [4] (fun iv wr => ∃ i : Nat, 1 ≤ i ∧ i ≤ 14 ∧ iv = .int .i64 (i : Int) ∧ look acs.tail (bl t) (i - 1) = none ∧ wr = w1) (fun iv _ => 14 - (intOf iv).toNat)
  case atStart => exact ⟨1, by omega, by omega, rfl, rfl, rfl⟩
  case round =>
    obtain ⟨i, h1, hin, rfl, hno, rfl⟩ := hrel
    have HNO := Lib.hid hno
    clear hno
    by_cases hlt : i < 14
    · have d0 := HC.out i hlt
      obtain ⟨s, hs1, hs2⟩ := tx_of (acs.getD i [])
      rw [hs1] at d0
      have HT : Hid (acs.tail.getD (i - 1) [] = bl s) := by
        show _ = _
        rw [hs2]
        obtain ⟨k, rfl⟩ : ∃ k, i = k + 1 := ⟨i - 1, by omega⟩
        simp [acs]
      clear hs1 hs2
      by_cases hst : s = t
      · subst hst
        have HR : Hid (act (bl s) = (i : Int)) := by
          show _ = _
          unfold act
          rw [look_yes HNO.out HT.out (by omega : i - 1 < 13)]
          show ((i - 1 : Nat) : Int) + 1 = i
          omega
        go_wp2_with fail
        go_ret
        exact ⟨by rw [HR.out]; rfl, HB.out⟩
      · have hne : (s.toList == t.toList) = false := text_ne hst
        have HR : Hid (look acs.tail (bl t) (i + 1 - 1) = none) := by
          show _ = _
          have := look_no HNO.out (by rw [HT.out]; exact fun h => hst (bl_inj h))
          rwa [show i - 1 + 1 = i + 1 - 1 by omega] at this
        have hle : i + 1 ≤ 14 := by omega
        go_wp2_with fail
        go_roundw
        case rel =>
          first
            | exact ⟨i + 1, by omega, hle, by go_num, HR.out, by first | rfl | trivial⟩
            | ((repeat apply Exists.intro); exact ⟨⟨i + 1, by omega, hle, by go_num, HR.out, by first | rfl | trivial⟩, rfl⟩)
        case measure => simp [intOf]; omega
    · have HR : Hid (act (bl t) = 0) := by
        show _ = _
        have := HNO.out
        rw [show i - 1 = 13 by omega] at this
        unfold act
        rw [this]
      go_wp2_with fail
      go_ret
      exact ⟨by rw [HR.out]; rfl, HB.out⟩
end Go.Proofs.Ytmhiajjnkcneoaa.Fs
