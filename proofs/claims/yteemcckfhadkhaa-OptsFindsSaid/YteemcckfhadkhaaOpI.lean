/-
  opts.Make, and the document's.
-/
import Derived.Test.YteemcckfhadkhaaOpH
namespace Go.Proofs.Yteemcckfhadkhaa.O
open Go.RowKit
set_option linter.unusedVariables false
set_option linter.unusedSimpArgs false

/-- What Make tells. -/
def MakR (T S N : Int) (w : World) (e : Ending) (w' : World) : Prop :=
  (makOk T S N ∧ ∃ v, e = .returned (.tuple #[.agg #[.int .i64 T, v], .int .i64 0]) ∧ OwnB w' w.heap.size 5 v (putL N.toNat S.toNat) ∧ Below w.heap.size w w') ∨
  (¬ makOk T S N ∧ e = .returned (.tuple #[.agg #[.int .i64 0, .slice none 0 0], .int .i64 80]) ∧ Below w.heap.size w w')
theorem highest_any (S : Nat) (h : 1 ≤ S ∧ S ≤ 4) (w : World) :
    Calls Try.prog 32 #[.int .i64 (S : Int)] w fun e w' => e = .returned (.int .i64 (((256 ^ S - 1 : Nat)) : Int)) ∧ w = w' := by
  have : S = 1 ∨ S = 2 ∨ S = 3 ∨ S = 4 := by omega
  rcases this with rfl | rfl | rfl | rfl
  · go_enter Try.func32, Try.ntmps32
    go_wp2
    go_ret
    exact ⟨rfl, rfl⟩
  · go_enter Try.func32, Try.ntmps32
    go_wp2
    go_ret
    exact ⟨rfl, rfl⟩
  · go_enter Try.func32, Try.ntmps32
    go_wp2
    go_ret
    exact ⟨rfl, rfl⟩
  · go_enter Try.func32, Try.ntmps32
    go_wp2
    go_ret
    exact ⟨rfl, rfl⟩

set_option maxHeartbeats 2000000 in
theorem make_any (T S N : Int) (w : World) : Calls Try.prog 20 #[.int .i64 T, .int .i64 S, .int .i64 N] w (MakR T S N w) := by
  have HB1 : Hid (Below w.heap.size w (w.alloc (.cells #[.int .i64 0, .slice none 0 0] 36))) := (Below.refl _ _).alloc (Nat.le_refl _) _
  have HG1 : Hid ((w.alloc (.cells #[.int .i64 0, .slice none 0 0] 36)).heap[w.heap.size]? = some (.cells #[.int .i64 0, .slice none 0 0] 36)) := heap_alloc_last _ _
  have IT := Lib.hid (isType_any T (w.alloc (.cells #[.int .i64 0, .slice none 0 0] 36)))
  have IS := Lib.hid (isSize_any S (w.alloc (.cells #[.int .i64 0, .slice none 0 0] 36)))
  obtain ⟨k0, k1⟩ := copy_cells HG1.out
  have f0 := frozen_of_row _ _ 0 _ _ HG1.out
  have f1 := frozen_of_row _ _ 1 _ _ HG1.out
  by_cases hT : 0 ≤ T ∧ T ≤ 255
  · rw [decide_eq_true hT] at IT
    by_cases hS : 1 ≤ S ∧ S ≤ 4
    · rw [decide_eq_true hS] at IS
      by_cases hN : N < 0
      · have HNO : Hid (¬ makOk T S N) := by intro h; have := h.2.2.2.2.1; omega
        go_enter Try.func20, Try.ntmps20
        go_wp2_with fail
        refine IT.out.mono ?_
        rintro e w1 ⟨rfl, rfl⟩
        go_wp2_with fail
        refine IS.out.mono ?_
        rintro e w1 ⟨rfl, rfl⟩
        go_wp2
        refine bodyPost_ret (results_cell_tmp_row (P := Try.prog) (fn := Try.f20) rfl _ _ w.heap.size 36 _ (0, 0) _ rfl HG1.out Try.underlying36 rfl (by kernel_rfl)) rfl ?_
        exact .inr ⟨HNO.out, rfl, HB1.out⟩
      · obtain ⟨Z, rfl⟩ : ∃ Z : Nat, S = (Z : Int) := ⟨S.toNat, by omega⟩
        obtain ⟨X, rfl⟩ : ∃ X : Nat, N = (X : Int) := ⟨N.toNat, by omega⟩
        have hZ : 1 ≤ Z ∧ Z ≤ 4 := by omega
        have HI := Lib.hid (highest_any Z hZ (w.alloc (.cells #[.int .i64 0, .slice none 0 0] 36)))
        have hp : 256 ^ Z ≤ 4294967296 := Nat.le_trans (Nat.pow_le_pow_right (by decide) hZ.2) (by decide)
        have hp1 : 1 ≤ 256 ^ Z := Nat.one_le_pow _ _ (by decide)
        obtain ⟨M, hM⟩ : ∃ M, M = 256 ^ Z - 1 := ⟨_, rfl⟩
        rw [← hM] at HI
        by_cases hX : M < X
        · have HNO : Hid (¬ makOk T (Z : Int) (X : Int)) := by
            intro h
            have := h.2.2.2.2.2
            rw [Int.toNat_natCast] at this
            have := Int.ofNat_lt.1 this
            omega
          clear hp hp1 hM hS hN
          have hS : 1 ≤ (Z : Int) ∧ (Z : Int) ≤ 4 := by omega
          go_enter Try.func20, Try.ntmps20
          go_wp2_with fail
          refine IT.out.mono ?_
          rintro e w1 ⟨rfl, rfl⟩
          go_wp2_with fail
          refine IS.out.mono ?_
          rintro e w1 ⟨rfl, rfl⟩
          go_wp2_with fail
          refine HI.out.mono ?_
          rintro e w1 ⟨rfl, rfl⟩
          go_wp2
          refine bodyPost_ret (results_cell_tmp_row (P := Try.prog) (fn := Try.f20) rfl _ _ w.heap.size 36 _ (0, 0) _ rfl HG1.out Try.underlying36 rfl (by kernel_rfl)) rfl ?_
          exact .inr ⟨HNO.out, rfl, HB1.out⟩
        · have HOK : Hid (makOk T (Z : Int) (X : Int)) := by
            refine ⟨hT.1, hT.2, hS.1, hS.2, by omega, ?_⟩
            rw [Int.toNat_natCast]
            exact Int.ofNat_lt.2 (by omega)
          have hX32 : X < 4294967296 := by omega
          have W1 : IntKind.u64.wrap (X : Int) = (X : Int) := IntWalk.u64_in _ (by omega)
          have PT := Lib.hid (put_yes X Z (w.alloc (.cells #[.int .i64 0, .slice none 0 0] 36)) hZ.1 (by omega) (by omega))
          clear hp hp1 hM hS hN
          go_enter Try.func20, Try.ntmps20
          go_wp2_with fail
          refine IT.out.mono ?_
          rintro e w1 ⟨rfl, rfl⟩
          go_wp2_with fail
          refine IS.out.mono ?_
          rintro e w1 ⟨rfl, rfl⟩
          go_wp2_with fail
          refine HI.out.mono ?_
          rintro e w1 ⟨rfl, rfl⟩
          go_wp2_with fail
          refine PT.out.mono ?_
          rintro e w2 ⟨v2, rfl, hown2, hb2⟩
          obtain ⟨A2, L2, C2, ev, _, _, _⟩ := hown2.bs.sl
          subst ev
          have HB2 := Lib.hid (HB1.out.trans (hb2.mono HB1.out.size))
          have HG2 := Lib.hid (heap_below HG1.out hb2)
          have HO2 := Lib.hid (hown2.mono (base' := w.heap.size) HB1.out.size)
          clear hown2 hb2 k0 k1 f0 f1
          go_wp2_with (refine wpList_store_whole rfl 36 (.tmp 6) (.tmp 32) rfl w.heap.size [.int .i64 T, .slice A2 L2 C2] rfl rfl 36 [.int .i64 0, .slice none 0 0] HG2.out sizeT rfl (one_tag T rfl) ?_)
          intro w3 h3 ho3
          have H3 := Lib.hid h3
          have HB3 : Hid (Below w.heap.size w w3) := ho3.below _ _ (Nat.le_refl _) HB2.out
          have HO3 : Hid (OwnB w3 w.heap.size 5 (.slice A2 L2 C2) (putL X Z)) := HO2.out.off ho3 (fun k hk e => own_ne_cell HO2.out HG2.out (by decide) (by rw [hk, e]))
          clear h3 ho3
          go_wp2
          refine bodyPost_ret (v := .tuple #[.agg #[.int .i64 T, .slice A2 L2 C2], .int .i64 0]) (results_cell_tmp_row (P := Try.prog) (fn := Try.f20) rfl _ _ w.heap.size 36 _ (0, 0) _ rfl H3.out Try.underlying36 rfl (by kernel_rfl)) rfl ?_
          exact .inl ⟨HOK.out, _, rfl, by rw [Int.toNat_natCast, Int.toNat_natCast]; exact HO3.out, HB3.out⟩
    · rw [decide_eq_false hS] at IS
      have HNO : Hid (¬ makOk T S N) := by intro h; exact hS ⟨h.2.2.1, h.2.2.2.1⟩
      go_enter Try.func20, Try.ntmps20
      go_wp2_with fail
      refine IT.out.mono ?_
      rintro e w1 ⟨rfl, rfl⟩
      go_wp2_with fail
      refine IS.out.mono ?_
      rintro e w1 ⟨rfl, rfl⟩
      go_wp2
      refine bodyPost_ret (results_cell_tmp_row (P := Try.prog) (fn := Try.f20) rfl _ _ w.heap.size 36 _ (0, 0) _ rfl HG1.out Try.underlying36 rfl (by kernel_rfl)) rfl ?_
      exact .inr ⟨HNO.out, rfl, HB1.out⟩
  · rw [decide_eq_false hT] at IT
    have HNO : Hid (¬ makOk T S N) := by intro h; exact hT ⟨h.1, h.2.1⟩
    go_enter Try.func20, Try.ntmps20
    go_wp2_with fail
    refine IT.out.mono ?_
    rintro e w1 ⟨rfl, rfl⟩
    go_wp2
    refine bodyPost_ret (results_cell_tmp_row (P := Try.prog) (fn := Try.f20) rfl _ _ w.heap.size 36 _ (0, 0) _ rfl HG1.out Try.underlying36 rfl (by kernel_rfl)) rfl ?_
    exact .inr ⟨HNO.out, rfl, HB1.out⟩

set_option maxRecDepth 20000 in
set_option maxHeartbeats 4000000 in
theorem rmake_any (T S N : Int) (w : World) (hw : N ≤ 9223372036854775807) : Calls Try.prog 21 #[.int .i64 T, .int .i64 S, .int .i64 N] w (MakR T S N w) := by
  obtain ⟨i0, hi, hz0, hz1, hz2⟩ := info_parts info5
  have HB1 : Hid (Below w.heap.size w (w.alloc (.cells #[.int .i64 0, .slice none 0 0] 36))) := (Below.refl _ _).alloc (Nat.le_refl _) _
  have HG1 : Hid ((w.alloc (.cells #[.int .i64 0, .slice none 0 0] 36)).heap[w.heap.size]? = some (.cells #[.int .i64 0, .slice none 0 0] 36)) := heap_alloc_last _ _
  obtain ⟨k0, k1⟩ := copy_cells HG1.out
  have f0 := frozen_of_row _ _ 0 _ _ HG1.out
  have f1 := frozen_of_row _ _ 1 _ _ HG1.out
  by_cases h : 0 ≤ T ∧ T ≤ 255 ∧ 1 ≤ S ∧ S ≤ 4 ∧ 0 ≤ N
  · obtain ⟨hT0, hT1, hS0, hS1, hN0⟩ := h
    obtain ⟨Z, rfl⟩ : ∃ Z : Nat, S = (Z : Int) := ⟨S.toNat, by omega⟩
    obtain ⟨X, rfl⟩ : ∃ X : Nat, N = (X : Int) := ⟨N.toNat, by omega⟩
    have hZ : 1 ≤ Z ∧ Z ≤ 4 := by omega
    clear k0 k1 f0 f1
    go_enter Try.func21, Try.ntmps21
    go_wp2_with (at_make; refine wpList_make_full _ rfl _ _ 23 rfl w.heap.size 5 i0 (.int .u8 0) 1 Try.underlying23 hi hz0 hz1 _ _ _ _ Z rfl rfl rfl rfl ?c1 ?c2 ?c3 ?_)
    case c1 => rw [hz2]; omega
    case c2 => unfold maxLen; omega
    case c3 => simp
    intro w1 hown hg
    have hb := (Below.refl w.heap.size (w.alloc (.cells #[.int .i64 0, .slice none 0 0] 36))).grown hg (by simp) (fun _ h => by cases h)
    have hg0 : w1.heap[w.heap.size]? = some (.cells #[.int .i64 0, .slice none 0 0] 36) := by
      rw [hg.block w.heap.size (by simp) (by simp)]
      exact HG1.out
    rw [toList_madeCells_one] at hown
    have HO1 := Lib.hid hown
    have HB2 := Lib.hid (HB1.out.trans hb)
    have HG2 := Lib.hid hg0
    have hX63 : X ≤ 9223372036854775807 := by omega
    clear hown hb hg hg0
    go_wp2
    go_loopw [2, 9] (fun nv iv wr => ∃ k m : Nat, k ≤ Z ∧ m = X / 256 ^ k ∧ iv = .int .i64 ((Z : Int) - 1 - (k : Int)) ∧ nv = .int .i64 (m : Nat) ∧ wr.ownsRow w.heap.size 5 1 (.slice (some ⟨w.heap.size + 1, 0, none⟩) Z Z) Z (putK X Z k) ∧ Below w.heap.size w wr ∧ wr.heap[w.heap.size]? = some (.cells #[.int .i64 0, .slice none 0 0] 36)) (fun _ iv _ => (intOf iv + 1).toNat)
    case atStart =>
      refine ⟨0, X, Nat.zero_le _, by simp, by go_num, rfl, ?_, HB2.out, HG2.out⟩
      rw [putK_zero]
      exact HO1.out
    case round =>
      clear HO1 HB2 HG2
      obtain ⟨k, m, hk, hm, rfl, rfl, hown, hb, hg0⟩ := hrel
      have hm' : m ≤ 9223372036854775807 := by rw [hm]; exact Nat.le_trans (Nat.div_le_self _ _) hX63
      have HM := Lib.hid hm
      have HB := Lib.hid hb
      have HG0 := Lib.hid hg0
      have HO := Lib.hid hown
      clear hm hb hg0
      by_cases hlt : k < Z
      · have hf : wr.frozen? ⟨w.heap.size + 1, Z - 1 - k, none⟩ = false := hown.frozenAt _
        obtain ⟨u, hu⟩ : ∃ u, wr.cell? ⟨w.heap.size + 1, Z - 1 - k, none⟩ = some u := by
          rw [hown.cellAt _ (by omega)]
          exact ⟨_, List.getElem?_eq_getElem (by rw [putK_length]; omega)⟩
        obtain ⟨j, hj⟩ : ∃ j, j = Z - 1 - k := ⟨_, rfl⟩
        have hji : (Z : Int) - 1 - (k : Int) = (j : Int) := by omega
        rw [← hj] at hf hu
        have HJ := Lib.hid hj
        rw [hji]
        have hjZ : j < Z := by omega
        clear hown hj
        go_wp2
        go_roundw
        case rel =>
          have h1 := (HO.out.stored j (.int .u8 ((X / 256 ^ k % 256 : Nat) : Int))).1
          rw [HJ.out, putK_step X Z k hlt, ← HM.out, ← HJ.out] at h1
          have h3 : (wr.setCell ⟨w.heap.size + 1, j, none⟩ (.int .u8 ((m % 256 : Nat) : Int))).heap[w.heap.size]? = some (.cells #[.int .i64 0, .slice none 0 0] 36) := (Below.heap_setCell _ _ _ _ (by show w.heap.size ≠ w.heap.size + 1; omega)).trans HG0.out
          have h2 := HB.out.setCell (p := ⟨w.heap.size + 1, j, none⟩) (by show _ ≤ w.heap.size + 1; omega) (.int .u8 ((m % 256 : Nat) : Int))
          refine ⟨k + 1, m / 256, by omega, by rw [HM.out, pow_step], ?_, ?_, ?_, ?_, ?_⟩
          · go_num
          · go_num
          · simpa using h1
          · simpa using h2
          · simpa using h3
        case measure => first | (simp [intOf]; done) | (simp [intOf]; omega)
      · obtain rfl : k = Z := by omega
        have hpow : 0 < m ↔ ¬ X < 256 ^ k := by
          rw [HM.out]
          constructor
          · intro h1 h2; have h3 := Nat.div_eq_of_lt h2; omega
          · intro h1; exact Nat.div_pos (by omega) (Nat.pow_pos (by decide))
        have HPW := Lib.hid hpow
        have hneg : (k : Int) - 1 - (k : Int) = -1 := by omega
        rw [hneg]
        clear hown hpow hneg
        by_cases hm0 : 0 < m
        · have HNO : Hid (¬ makOk T (k : Int) (X : Int)) := by
            intro h
            have h2 := h.2.2.2.2.2
            rw [Int.toNat_natCast] at h2
            exact (HPW.out.1 hm0) (Int.ofNat_lt.1 h2)
          obtain ⟨k0, k1⟩ := copy_cells HG0.out
          have f0 := frozen_of_row _ _ 0 _ _ HG0.out
          have f1 := frozen_of_row _ _ 1 _ _ HG0.out
          go_wp2_with (refine wpList_store_whole rfl 36 (.tmp 6) (.tmp 47) rfl w.heap.size [.int .i64 0, .slice none 0 0] rfl rfl 36 [.int .i64 0, .slice none 0 0] HG0.out sizeT rfl (one_tag 0 rfl) ?_)
          intro w3 h3 ho3
          have H3 := Lib.hid h3
          have HB3 : Hid (Below w.heap.size w w3) := ho3.below _ _ (Nat.le_refl _) HB.out
          clear h3 ho3
          go_wp2
          refine bodyPost_ret (v := .tuple #[.agg #[.int .i64 0, .slice none 0 0], .int .i64 80]) (results_cell_tmp_row (P := Try.prog) (fn := Try.f21) rfl _ _ w.heap.size 36 _ (0, 0) _ rfl H3.out Try.underlying36 rfl (by kernel_rfl)) rfl ?_
          exact .inr ⟨HNO.out, rfl, HB3.out⟩
        · have HOK : Hid (makOk T (k : Int) (X : Int)) := by
            refine ⟨hT0, hT1, hS0, hS1, by omega, ?_⟩
            rw [Int.toNat_natCast]
            have h2 : X < 256 ^ k := Decidable.of_not_not fun h => hm0 (HPW.out.2 h)
            exact Int.ofNat_lt.2 h2
          have HOB : Hid (OwnB wr w.heap.size 5 (.slice (some ⟨w.heap.size + 1, 0, none⟩) k k) (putL X k)) := by
            show OwnB _ _ _ _ _
            unfold OwnB
            rw [putL_length, ← putK_full]
            exact HO.out
          go_wp2_with (refine wpList_store_whole rfl 36 (.tmp 6) (.tmp 50) rfl w.heap.size [.int .i64 T, .slice (some ⟨w.heap.size + 1, 0, none⟩) k k] rfl rfl 36 [.int .i64 0, .slice none 0 0] HG0.out sizeT rfl (one_tag T rfl) ?_)
          intro w3 h3 ho3
          have H3 := Lib.hid h3
          have HB3 : Hid (Below w.heap.size w w3) := ho3.below _ _ (Nat.le_refl _) HB.out
          have HO3 := Lib.hid (HOB.out.off ho3 (fun q hq e => own_ne_cell HOB.out HG0.out (by decide) (by rw [hq, e])))
          clear h3 ho3
          go_wp2
          refine bodyPost_ret (v := .tuple #[.agg #[.int .i64 T, .slice (some ⟨w.heap.size + 1, 0, none⟩) k k], .int .i64 0]) (results_cell_tmp_row (P := Try.prog) (fn := Try.f21) rfl _ _ w.heap.size 36 _ (0, 0) _ rfl H3.out Try.underlying36 rfl (by kernel_rfl)) rfl ?_
          exact .inl ⟨HOK.out, _, rfl, by rw [Int.toNat_natCast, Int.toNat_natCast]; exact HO3.out, HB3.out⟩
  · have HNO : Hid (¬ makOk T S N) := by intro q; exact h ⟨q.1, q.2.1, q.2.2.1, q.2.2.2.1, q.2.2.2.2.1⟩
    have h5 : T < 0 ∨ 255 < T ∨ S < 1 ∨ 4 < S ∨ N < 0 := by omega
    clear h
    rcases h5 with h | h | h | h | h
    all_goals
      go_enter Try.func21, Try.ntmps21
      go_wp2
      all_goals
        refine bodyPost_ret (results_cell_tmp_row (P := Try.prog) (fn := Try.f21) rfl _ _ w.heap.size 36 _ (0, 0) _ rfl HG1.out Try.underlying36 rfl (by kernel_rfl)) rfl ?_
        exact .inr ⟨HNO.out, rfl, HB1.out⟩
end Go.Proofs.Yteemcckfhadkhaa.O
