/-
  cp.reject (over whatever is refused); cp.Reject, cp.Protocol.
-/
import Derived.Test.YthllhdcdiidfpaaCpE
namespace Go.Proofs.Ythllhdcdiidfpaa
open Go.RowKit
set_option linter.unusedVariables false
set_option linter.unusedSimpArgs false

theorem take_min (b : List UInt8) (m : Nat) (h : m = min b.length 1488) : (b.drop 0).take (m - 0) = b.take 1488 := by
  subst h
  rw [List.drop_zero, Nat.sub_zero]
  by_cases h : b.length ≤ 1488
  · rw [Nat.min_eq_left h, List.take_length, List.take_of_length_le h]
  · rw [Nat.min_eq_right (by omega)]

set_option maxHeartbeats 4000000 in
theorem reject_any (k : Nat) (hk : ∀ (args : Array Value) (w' : World), (callFunc k args).run Try.prog w' = .ok (.enter k args) w') (caps : Array Value) (code id E : Int) (b : List UInt8) (w : World)
    (HF : ∀ w1, Below w.heap.size w w1 → Calls Try.prog k caps w1 (BRes E b w1)) (hl : b.length ≤ 100000) :
    Calls Try.prog 32 #[.int .i64 code, .int .i64 id, .func (.func k) #[] caps] w (CRes (tellP code id E b) w) := by
  have BA : Below w.heap.size w (w.alloc (.cells #[.int .i64 0, .int .i64 0, .slice none 0 0] 39)) := (Below.refl _ _).alloc (Nat.le_refl _) _
  have HB := Lib.hid BA
  have HG0 : Hid ((w.alloc (.cells #[.int .i64 0, .int .i64 0, .slice none 0 0] 39)).heap[w.heap.size]? = some (.cells #[.int .i64 0, .int .i64 0, .slice none 0 0] 39 (0, 0))) := heap_alloc_last _ _
  have IB := Lib.hid (isByte_any id (w.alloc (.cells #[.int .i64 0, .int .i64 0, .slice none 0 0] 39)))
  have HC := Lib.hid (HF _ BA)
  clear BA HF
  go_enter Try.func32, Try.ntmps32
  go_wp2_with fail
  refine IB.out.mono ?_
  rintro e w' ⟨rfl, rfl⟩
  cases hp : byteB id with
  | false =>
    have HP := Lib.hid (tellP_no (code := code) (id := id) (e := E) (b := b) hp)
    clear hp IB HC hk
    go_wp2
    refine bodyPost_ret (v := .tuple #[.agg #[.int .i64 0, .int .i64 0, .slice none 0 0], .int .i64 1]) (results_cell_tmp_row (P := Try.prog) (fn := Try.f32) rfl _ _ w.heap.size 39 _ (0, 0) _ rfl HG0.out Try.underlying39 rfl (by kernel_rfl)) rfl ?_
    exact CRes.none HP.out HB.out
  | true =>
    go_wp2_with fail
    refine HC.out.mono ?_
    rintro e w2 ⟨v2, rfl, hown2, hb2⟩
    have HB2 := Lib.hid (HB.out.trans (hb2.mono HB.out.size))
    have HG2 := Lib.hid (heap_below HG0.out hb2)
    have HO2 := Lib.hid hown2
    obtain ⟨A2, L2, C2, ev, hL2, _, _⟩ := hown2.bs.sl
    subst ev
    obtain ⟨k0, k1, k2⟩ := cells3 HG2.out
    have f0 := frozen_of_row _ _ 0 _ _ HG2.out
    have f1 := frozen_of_row _ _ 1 _ _ HG2.out
    have f2 := frozen_of_row _ _ 2 _ _ HG2.out
    clear hown2 hb2 HC IB hk HB HG0
    have HB := HB2
    by_cases hE : E = 0
    · have HP := Lib.hid (tellP_ok (code := code) (id := id) (e := E) (b := b) hp hE)
      subst hE
      have hmin : ((min L2 1488 : Nat) : Int) = if (1488 : Int) < (L2 : Int) then 1488 else (L2 : Int) := by split <;> omega
      obtain ⟨m, hm⟩ : ∃ m, m = min L2 1488 := ⟨_, rfl⟩
      have HM := Lib.hid hm
      have PC := Lib.hid (piece_any w2 A2 L2 C2 b hL2 HO2.out.bs 0 m (Nat.zero_le _) (by rw [hm]; omega) (by omega))
      rw [take_min b m (by rw [hL2]; exact hm)] at PC
      rw [← hm] at hmin
      have hmin' := hmin.symm
      clear hp hm hmin k0 k1 k2 f0 f1 f2
      go_wp2_with fail
      refine PC.out.mono ?_
      rintro e w3 ⟨v3, rfl, hown3, hb3⟩
      have HB3 := Lib.hid (HB.out.trans (hb3.mono HB.out.size))
      have HG3 := Lib.hid (heap_below HG2.out hb3)
      have HO3 := Lib.hid (hown3.mono (show w.heap.size + 1 ≤ w2.heap.size from (Array.getElem?_eq_some_iff.1 HG2.out).1))
      obtain ⟨A3, L3, C3, ev, _, _, _⟩ := hown3.bs.sl
      subst ev
      obtain ⟨k0, k1, k2⟩ := cells3 HG3.out
      have f0 := frozen_of_row _ _ 0 _ _ HG3.out
      have f1 := frozen_of_row _ _ 1 _ _ HG3.out
      have f2 := frozen_of_row _ _ 2 _ _ HG3.out
      clear hown3 hb3 PC hL2 HB
      have HB := HB3
      go_wp2
      refine bodyPost_ret (v := .tuple #[.agg #[.int .i64 code, .int .i64 id, .slice A3 L3 C3], .int .i64 0]) (results_cell_tmp_row (P := Try.prog) (fn := Try.f32) rfl _ _ w.heap.size 39 _ (0, 0) _ rfl (set3 HG3.out _ _ _) Try.underlying39 rfl (by kernel_rfl)) rfl ?_
      refine CRes.some HP.out ?_ (((HB.out.setCell (Nat.le_refl _) _).setCell (Nat.le_refl _) _).setCell (Nat.le_refl _) _)
      exact OwnB.mono (base := w.heap.size + 1) (own_set3 HO3.out (Nat.lt_succ_self _) _ _ _) (Nat.le_succ _)
    · have HP := Lib.hid (tellP_err (code := code) (id := id) (e := E) (b := b) hp hE)
      clear hp hL2
      go_wp2
      refine bodyPost_ret (v := .tuple #[.agg #[.int .i64 0, .int .i64 0, .slice none 0 0], .int .i64 E]) (results_cell_tmp_row (P := Try.prog) (fn := Try.f32) rfl _ _ w.heap.size 39 _ (0, 0) _ rfl (set3 HG2.out _ _ _) Try.underlying39 rfl (by kernel_rfl)) rfl ?_
      exact CRes.none HP.out (((HB.out.setCell (Nat.le_refl _) _).setCell (Nat.le_refl _) _).setCell (Nat.le_refl _) _)
end Go.Proofs.Ythllhdcdiidfpaa
