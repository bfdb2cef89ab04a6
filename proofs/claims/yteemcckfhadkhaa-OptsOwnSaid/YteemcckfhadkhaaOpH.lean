/-
  opts.Number, opts.Make, and the document's.
-/
import Derived.Test.YteemcckfhadkhaaOpA
import Derived.Test.YteemcckfhadkhaaTake
import Derived.Test.YteemcckfhadkhaaOnly
namespace Go.Proofs.Yteemcckfhadkhaa.O
open Go.RowKit
set_option linter.unusedVariables false
set_option linter.unusedSimpArgs false

def NumR (l : List UInt8) (w : World) (e : Ending) (w' : World) : Prop := e = .returned (.tuple #[.int .i64 (numN l : Nat), .bool (numOk l)]) ∧ Below w.heap.size w w'
theorem NumR.no {l : List UInt8} {w w' : World} (h : ¬ (1 ≤ l.length ∧ l.length ≤ 4)) (hb : Below w.heap.size w w') : NumR l w (.returned (.tuple #[.int .i64 0, .bool false])) w' := by
  refine ⟨?_, hb⟩
  unfold numN numOk
  rw [if_neg h, decide_eq_false h]
  rfl
theorem NumR.yes {l : List UInt8} {w w' : World} (h : 1 ≤ l.length ∧ l.length ≤ 4) (m : Nat) (hm : m = takeN l l.length) (hb : Below w.heap.size w w') : NumR l w (.returned (.tuple #[.int .i64 (m : Int), .bool true])) w' := by
  refine ⟨?_, hb⟩
  unfold numN numOk
  rw [if_pos h, decide_eq_true h, hm]

set_option maxHeartbeats 1000000 in
theorem number_any (T : Int) (a : Option Addr) (n c : Nat) (l : List UInt8) (hn : l.length = n) (w : World) (hb : Bs w (.slice a n c) l) (hr : n ≤ 140737488351232) :
    Calls Try.prog 18 #[.agg #[.int .i64 T, .slice a n c]] w (NumR l w) := by
  have HB1 : Hid (Below w.heap.size w (w.alloc (.cells #[.int .i64 T, .slice a n c] 36))) := (Below.refl _ _).alloc (Nat.le_refl _) _
  have HG1 : Hid ((w.alloc (.cells #[.int .i64 T, .slice a n c] 36)).heap[w.heap.size]? = some (.cells #[.int .i64 T, .slice a n c] 36)) := heap_alloc_last _ _
  have HN := Lib.hid hn
  have HBS := Lib.hid hb
  have IS := Lib.hid (isSize_any (n : Int) (w.alloc (.cells #[.int .i64 T, .slice a n c] 36)))
  clear hn hb
  by_cases h : 1 ≤ n ∧ n ≤ 4
  · have e1 : decide ((1 : Int) ≤ (n : Int) ∧ (n : Int) ≤ 4) = true := decide_eq_true (by omega)
    rw [e1] at IS
    have HOK : Hid (1 ≤ l.length ∧ l.length ≤ 4) := by rw [HN.out]; exact h
    have TK := Lib.hid (take_yes (w.alloc (.cells #[.int .i64 T, .slice a n c] 36)) a n c l n HN.out (HBS.out.below HB1.out) h.1 (by omega) (Nat.le_refl _) hr)
    have hlt := takeN_lt l n (by rw [HN.out]; omega)
    have hp : 256 ^ n ≤ 4294967296 := Nat.le_trans (Nat.pow_le_pow_right (by decide) h.2) (by decide)
    obtain ⟨m, hm⟩ : ∃ m, m = takeN l n := ⟨_, rfl⟩
    rw [← hm] at TK hlt
    have HM : Hid (m = takeN l l.length) := by show _ = _; rw [HN.out]; exact hm
    have hm32 : m < 4294967296 := by omega
    have W1 : IntKind.i64.wrap (m : Int) = (m : Int) := IntWalk.i64_in _ (by omega)
    clear e1 hm hlt hp
    go_enter Try.func18, Try.ntmps18
    go_wp2_with fail
    refine IS.out.mono ?_
    rintro e w1 ⟨rfl, rfl⟩
    obtain ⟨k0, k1⟩ := copy_cells HG1.out
    go_wp2_with fail
    refine TK.out.mono ?_
    rintro e w2 ⟨v, rfl, hown, hb2⟩
    have HB2 := Lib.hid (HB1.out.trans (hb2.mono HB1.out.size))
    clear hown hb2 k0 k1
    go_wp2
    go_ret2
    exact NumR.yes HOK.out m HM.out HB2.out
  · have e1 : decide ((1 : Int) ≤ (n : Int) ∧ (n : Int) ≤ 4) = false := decide_eq_false (by omega)
    rw [e1] at IS
    have HOK : Hid (¬ (1 ≤ l.length ∧ l.length ≤ 4)) := by rw [HN.out]; exact h
    clear e1
    go_enter Try.func18, Try.ntmps18
    go_wp2_with fail
    refine IS.out.mono ?_
    rintro e w1 ⟨rfl, rfl⟩
    go_wp2
    go_ret2
    exact NumR.no HOK.out HB1.out

set_option maxHeartbeats 1000000 in
theorem rnumber_any (T : Int) (a : Option Addr) (n c : Nat) (l : List UInt8) (hn : l.length = n) (w : World) (hb : Bs w (.slice a n c) l) :
    Calls Try.prog 19 #[.agg #[.int .i64 T, .slice a n c]] w (NumR l w) := by
  have HB1 : Hid (Below w.heap.size w (w.alloc (.cells #[.int .i64 T, .slice a n c] 36))) := (Below.refl _ _).alloc (Nat.le_refl _) _
  have HG1 : Hid ((w.alloc (.cells #[.int .i64 T, .slice a n c] 36)).heap[w.heap.size]? = some (.cells #[.int .i64 T, .slice a n c] 36)) := heap_alloc_last _ _
  have HN := Lib.hid hn
  have HBS := Lib.hid hb
  clear hn hb
  by_cases h1 : n < 1
  · have HOK : Hid (¬ (1 ≤ l.length ∧ l.length ≤ 4)) := by rw [HN.out]; show ¬ _; omega
    go_enter Try.func19, Try.ntmps19
    go_wp2
    go_ret2
    exact NumR.no HOK.out HB1.out
  by_cases h4 : 4 < n
  · have HOK : Hid (¬ (1 ≤ l.length ∧ l.length ≤ 4)) := by rw [HN.out]; show ¬ _; omega
    go_enter Try.func19, Try.ntmps19
    go_wp2
    go_ret2
    exact NumR.no HOK.out HB1.out
  have HOK : Hid (1 ≤ l.length ∧ l.length ≤ 4) := by rw [HN.out]; show _ ∧ _; omega
  obtain ⟨b, o, rfl, hbl, hc⟩ := (HBS.out.below HB1.out).cells (by rw [HN.out]; omega)
  have HC := Lib.hid hc
  obtain ⟨k0, k1⟩ := copy_cells HG1.out
  clear hc
  go_enter Try.func19, Try.ntmps19
  go_wp2
  go_loopw [4, 5] (fun nv iv wr => ∃ k m : Nat, k ≤ n ∧ m = takeN l k ∧ iv = .int .i64 k ∧ nv = .int .i64 (m : Nat) ∧ w.alloc (.cells #[.int .i64 T, .slice (some ⟨b, o, none⟩) n c] 36) = wr) (fun _ iv _ => n - (intOf iv).toNat)
  case atStart => exact ⟨0, 0, Nat.zero_le _, (takeN_zero l).symm, rfl, rfl, rfl⟩
  case round =>
    obtain ⟨k, m, hk, hm, rfl, rfl, rfl⟩ := hrel
    by_cases hlt : k < n
    · have hm' : m < 4294967296 := by
        have h1 := takeN_lt l k (by rw [HN.out]; omega)
        have h2 : 256 ^ k ≤ 4294967296 := Nat.le_trans (Nat.pow_le_pow_right (n := 256) (by decide) (show k ≤ 4 by omega)) (by decide)
        rw [hm]; omega
      have hck := HC.out k (by rw [HN.out]; exact hlt)
      have hlt' := UInt8.toNat_lt (l[k]'(by rw [HN.out]; exact hlt))
      have HM := Lib.hid hm
      obtain ⟨x, hx⟩ : ∃ x, x = (l[k]'(by rw [HN.out]; exact hlt)).toNat := ⟨_, rfl⟩
      rw [← hx] at hck hlt'
      have HX := Lib.hid hx
      clear hm hx
      go_wp2
      go_roundw
      case rel =>
        refine ⟨k + 1, m * 256 + x, by omega, by rw [takeN_succ l k (by rw [HN.out]; exact hlt), HM.out, HX.out], by go_num, ?_, trivial⟩
        go_num
      case measure => simp [intOf]; omega
    · obtain rfl : n = k := by omega
      have HM : Hid (m = takeN l l.length) := by show _ = _; rw [HN.out]; exact hm
      clear hm
      go_wp2
      go_ret2
      exact NumR.yes HOK.out m HM.out HB1.out
end Go.Proofs.Yteemcckfhadkhaa.O
