/-
  octet.Equal, whatever comes.
-/
import Derived.Test.YtjlacialbfhjcaaDoorRPut
namespace Go.Proofs.YtjlacialbfhjcaaDoor
open Go.RowKit
set_option linter.unusedVariables false
set_option linter.unusedSimpArgs false

/-! Equal -/
theorem xor_zero_iff (x y : Nat) : x ^^^ y = 0 ↔ x = y := by
  constructor
  · intro h
    have : (x ^^^ y) ^^^ y = 0 ^^^ y := by rw [h]
    rwa [Nat.xor_assoc, Nat.xor_self, Nat.xor_zero, Nat.zero_xor] at this
  · rintro rfl; exact Nat.xor_self x
theorem take_eq_succ (l m : List UInt8) (k : Nat) (h1 : k < l.length) (h2 : k < m.length) : l.take (k + 1) = m.take (k + 1) ↔ l.take k = m.take k ∧ l[k] = m[k] := by
  rw [List.take_succ_eq_append_getElem h1, List.take_succ_eq_append_getElem h2]
  constructor
  · intro h
    have := List.append_inj' h rfl
    exact ⟨this.1, by simpa using this.2⟩
  · rintro ⟨a, b⟩; rw [a, b]

theorem equal_any (w : World) (a b : Option Addr) (n n' c c' : Nat) (l m : List UInt8) (hn : l.length = n) (hn' : m.length = n') (h : Bs w (.slice a n c) l) (h' : Bs w (.slice b n' c') m) :
    Calls Tryd.prog 22 #[.slice a n c, .slice b n' c'] w fun e w' => e = .returned (.bool (decide (l = m))) ∧ w = w' := by
  subst hn hn'
  obtain ⟨_, _, es, hca, hcm⟩ := h.shape
  simp only [Value.slice.injEq] at es
  obtain ⟨rfl, _, rfl⟩ := es
  unfold maxLen at hcm
  by_cases hl : l.length = m.length
  · by_cases hz : l.length = 0
    · have e1 : l = [] := List.eq_nil_of_length_eq_zero hz
      have e2 : m = [] := List.eq_nil_of_length_eq_zero (by omega)
      subst e1 e2
      simp only [List.length_nil]
      clear h h' hl hz
      go_enter Tryd.func22, Tryd.ntmps22
      go_wp2
      refine wp_loop_rounds 1 ?_
      rw [rounds_succ]
      go_wp2
      go_ret
      exact ⟨by simp, rfl⟩
    · obtain ⟨b1, o1, rfl, hb1, hc1⟩ := h.cells (by omega)
      obtain ⟨b2, o2, rfl, hb2, hc2⟩ := h'.cells (by omega)
      have HC1 := Lib.hid hc1
      have HC2 := Lib.hid hc2
      have HL := Lib.hid hl
      have hli : (m.length : Int) = (l.length : Int) := by omega
      rw [← hl]
      clear h h' hc1 hc2 hl hli
      go_enter Tryd.func22, Tryd.ntmps22
      go_wp2
      go_loopw [5, 15] (fun pv iv wr => ∃ k p : Nat, k ≤ l.length ∧ p < 256 ∧ (p = 0 ↔ l.take k = m.take k) ∧ iv = .int .i64 k ∧ pv = .int .u8 p ∧ w = wr) (fun _ iv _ => l.length - (intOf iv).toNat)
      case atStart => exact ⟨0, 0, by omega, by omega, by simp, rfl, rfl, rfl⟩
      case round =>
        obtain ⟨k, p, hk, hp, hpe, rfl, rfl, rfl⟩ := hrel
        by_cases hlt : k < l.length
        · have hx := HC1.out k hlt
          have hy := HC2.out k (by have := HL.out; omega)
          have hx8 := UInt8.toNat_lt l[k]
          have hy8 := UInt8.toNat_lt (m[k]'(by have := HL.out; omega))
          obtain ⟨x, hxe⟩ : ∃ x, x = l[k].toNat := ⟨_, rfl⟩
          obtain ⟨y, hye⟩ : ∃ y, y = (m[k]'(by have := HL.out; omega)).toNat := ⟨_, rfl⟩
          rw [← hxe] at hx hx8
          rw [← hye] at hy hy8
          have hq : x ^^^ y < 256 := Nat.xor_lt_two_pow (n := 8) hx8 hy8
          have hr : p ||| (x ^^^ y) < 256 := Nat.or_lt_two_pow (n := 8) hp hq
          have e1 := u8_xor_nat x y hx8 hy8
          have e2 := u8_or_nat p (x ^^^ y) hp hq
          obtain ⟨q, hqe⟩ : ∃ q, q = x ^^^ y := ⟨_, rfl⟩
          rw [← hqe] at e1 e2 hq hr
          obtain ⟨r, hre⟩ : ∃ r, r = p ||| q := ⟨_, rfl⟩
          rw [← hre] at e2 hr
          have HX := Lib.hid hxe
          have HY := Lib.hid hye
          have HQ := Lib.hid hqe
          have HR := Lib.hid hre
          have HPE := Lib.hid hpe
          clear hxe hye hqe hre hpe
          go_wp2
          go_roundw
          case rel =>
            refine ⟨k + 1, r, by omega, hr, ?_, by go_num, rfl, trivial⟩
            rw [take_eq_succ l m k hlt (by have := HL.out; omega), ← HPE.out, HR.out, Nat.or_eq_zero_iff, HQ.out]
            have hxor : x ^^^ y = 0 ↔ x = y := xor_zero_iff x y
            rw [hxor, HX.out, HY.out]
            constructor
            · rintro ⟨u1, u2⟩; exact ⟨u1, UInt8.toNat_inj.1 u2⟩
            · rintro ⟨u1, u2⟩; exact ⟨u1, by rw [u2]⟩
          case measure => simp [intOf]; omega
        · obtain rfl : k = l.length := by omega
          have e3 : (((p : Nat) : Int) == 0) = decide (l = m) := by
            have h1 := hpe
            rw [List.take_length, List.take_of_length_le (by have := HL.out; omega)] at h1
            by_cases hlm : l = m
            · simp [hlm, h1.2 hlm]
            · have : p ≠ 0 := fun e => hlm (h1.1 e)
              simp [hlm, this]
          clear hpe
          go_wp2
          go_ret
          exact ⟨rfl, rfl⟩
  · have hne : ((l.length : Int) != (m.length : Int)) = true := by rw [bne_iff_ne]; omega
    have hd : decide (l = m) = false := by simp; intro e; exact hl (by rw [e])
    rw [hd]
    clear hl hd
    go_enter Tryd.func22, Tryd.ntmps22
    go_wp2
    go_ret
    exact ⟨rfl, rfl⟩
end Go.Proofs.YtjlacialbfhjcaaDoor
