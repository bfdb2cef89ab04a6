import Derived.Test.YtjpihjonkdgnhaaOctJ
namespace Go.Proofs.Ytjpihjonkdgnhaa
open Go.RowKit
set_option linter.unusedVariables false
set_option linter.unusedSimpArgs false

theorem sub_size (s : ByteArray) (a : Nat) (h : a + 2 ≤ s.size) : (s.extract a (a + 2)).size = 2 := by
  rw [ByteArray.size_extract]; omega
theorem chr_sub (s : ByteArray) (a j : Nat) (h : a + 2 ≤ s.size) (hj : j < 2) : chr (s.extract a (a + 2)) j = chr s (a + j) := by
  unfold chr
  have e : (s.extract a (a + 2)).data.toList = (s.data.toList.drop a).take 2 := by
    rw [ByteArray.data_extract]; simp
  rw [e]
  congr 1
  rw [List.getD_eq_getElem?_getD, List.getD_eq_getElem?_getD, List.getElem?_take, if_pos hj, List.getElem?_drop]
theorem sub_ok (s : ByteArray) (j : Nat) (h : 3 * j + 2 ≤ s.size) (h1 : (digV (chr s (3 * j))).isSome = true) (h2 : (digV (chr s (3 * j + 1))).isSome = true) : UnhexOk (s.extract (3 * j) (3 * j + 2)) := by
  refine ⟨by rw [sub_size s _ h], fun i hi => ?_⟩
  rw [sub_size s _ h] at hi
  have : i = 0 := by omega
  subst this
  exact ⟨by rw [chr_sub s _ _ h (by omega)]; exact h1, by rw [chr_sub s _ _ h (by omega)]; exact h2⟩
theorem sub_pair (s : ByteArray) (j : Nat) (h : 3 * j + 2 ≤ s.size) : pairB (s.extract (3 * j) (3 * j + 2)) 0 = macB s j := by
  unfold pairB macB
  rw [chr_sub s _ _ h (by omega), chr_sub s _ _ h (by omega)]
  simp only [Nat.mul_zero, Nat.add_zero, Nat.zero_add]
theorem sub_not (s : ByteArray) (j : Nat) (h : 3 * j + 2 ≤ s.size) (hb : digV (chr s (3 * j)) = none ∨ digV (chr s (3 * j + 1)) = none) : ¬ UnhexOk (s.extract (3 * j) (3 * j + 2)) := by
  rintro ⟨_, hall⟩
  rw [sub_size s _ h] at hall
  obtain ⟨a1, a2⟩ := hall 0 (by omega)
  rw [chr_sub s _ _ h (by omega)] at a1 a2
  rcases hb with hb | hb
  · rw [show 3 * j + 2 * 0 = 3 * j by omega, hb] at a1; cases a1
  · rw [show 3 * j + (2 * 0 + 1) = 3 * j + 1 by omega, hb] at a2; cases a2

/-- ref.Unhex of two signs that are digits. -/
theorem runhex_two (w : World) (s : ByteArray) (j : Nat) (h : 3 * j + 2 ≤ s.size) (h1 : (digV (chr s (3 * j))).isSome = true) (h2 : (digV (chr s (3 * j + 1))).isSome = true) (hm : macB s j < 256) :
    Calls Try.prog 16 #[.string (s.extract (3 * j) (3 * j + 2))] w fun e w' => ∃ b o cap, e = .returned (.tuple #[.slice (some ⟨b, o, none⟩) 1 cap, .int .i64 0]) ∧ 1 ≤ cap ∧ cap ≤ maxLen ∧ w'.cell? ⟨b, o, none⟩ = some (.int .u8 (macB s j : Nat)) ∧ Below w.heap.size w w' := by
  refine (runhex_yes w _ (by rw [sub_size s _ h]; omega) (sub_ok s j h h1 h2)).mono ?_
  rintro e w' ⟨v, rfl, hown, hb⟩
  have e1 : unhexK (s.extract (3 * j) (3 * j + 2)) ((s.extract (3 * j) (3 * j + 2)).size / 2) = [UInt8.ofNat (macB s j)] := by
    rw [sub_size s _ h]; simp [unhexK, sub_pair s j h]
  rw [e1] at hown
  obtain ⟨ao, cap, rfl, hc1, hc2⟩ := hown.bs.shape
  obtain ⟨b, o, rfl, _, hcell⟩ := hown.bs.cells (by simp)
  have := hcell 0 (by simp)
  refine ⟨b, o, cap, rfl, hc1, hc2, ?_, hb⟩
  simpa [UInt8.toNat_ofNat', Nat.mod_eq_of_lt hm] using this

set_option maxHeartbeats 1600000 in
/-- ref.Parse, where there is an address. -/
theorem rparse_yes (w : World) (s : ByteArray) (h : ParseOk s) :
    Calls Try.prog 20 #[.string s] w fun e w' => e = .returned (.tuple #[.agg (macC s 6), .int .i64 0]) ∧ Below w.heap.size w w' := by
  obtain ⟨hsz, hall⟩ := h
  have HALL := Lib.hid hall
  have HN := Lib.hid hsz
  have e1 : ((s.size : Int)) = 17 := by omega
  clear hall hsz
  go_enter Try.func20, Try.ntmps20
  go_wp2
  go_loopw [5] (fun iv wr => ∃ k : Nat, k ≤ 6 ∧ iv = .int .i64 k ∧ wr.heap[w.heap.size + 1]? = some (.cells (macC s k) 38 (0, 0)) ∧ wr.heap[w.heap.size]? = some (.cells #[.int .u8 0, .int .u8 0, .int .u8 0, .int .u8 0, .int .u8 0, .int .u8 0] 38 (0, 0)) ∧ Below w.heap.size w wr) (fun iv _ => 6 - (intOf iv).toNat)
  case atStart => exact ⟨0, Nat.zero_le _, rfl, heap_alloc2_new _ _ _, heap_alloc2_old _ _ _, ((Below.refl _ _).alloc (Nat.le_refl _) _).alloc (by simp) _⟩
  case round =>
    obtain ⟨k, hk, rfl, hm, hr, hb⟩ := hrel
    by_cases hlt : k < 6
    · obtain ⟨a, b, ha, hb2, hp, ha16, hb16, hcol⟩ := macOk_some (HALL.out k hlt)
      have hs17 := HN.out
      have h1 : (digV (chr s (3 * k))).isSome = true := by rw [ha]; rfl
      have h2 : (digV (chr s (3 * k + 1))).isSome = true := by rw [hb2]; rfl
      have hmb : macB s k < 256 := by omega
      have RH := Lib.hid (fun w' => runhex_two w' s k (by omega) h1 h2 hmb)
      have hsl : ∀ w', (Instr.slice 9 (.string s) (some (.int .i64 (3 * (k : Int)))) (some (.int .i64 (3 * (k : Int) + 2))) none).run Try.prog w' = .ok (.string (s.extract (3 * k) (3 * k + 2))) w' := by
        intro w'
        have := run_slice_string (P := Try.prog) w' 9 s .i64 .i64 (3 * (k : Int)) (3 * (k : Int) + 2) Try.underlying9 (by omega) (by omega) (by omega)
        rw [this]
        congr 2
      have HC := Lib.hid hcol
      have HM := Lib.hid hm
      have HR := Lib.hid hr
      have hBs : w.heap.size + 1 < wr.heap.size := (Array.getElem?_eq_some_iff.1 hm).1
      clear ha hb2 hp hcol hs17 hm hr h1 h2
      by_cases hk0 : k = 0
      · have hk1 : k ≤ 0 := by omega
        clear hk0
        go_wp2_with fail
        refine (RH.out _).mono ?_
        rintro e w' ⟨bb, oo, cap, rfl, hc1, hc2, hcell, hbel⟩
        have hm' : w'.heap[w.heap.size + 1]? = some (.cells (macC s k) 38 (0, 0)) := (hbel.block _ hBs).trans HM.out
        have hr' : w'.heap[w.heap.size]? = some (.cells #[.int .u8 0, .int .u8 0, .int .u8 0, .int .u8 0, .int .u8 0, .int .u8 0] 38 (0, 0)) := (hbel.block _ (by omega)).trans HR.out
        have hf : w'.frozen? ⟨w.heap.size + 1, k, none⟩ = false := frozen_of_row _ _ _ _ _ hm'
        obtain ⟨u, hu⟩ : ∃ u, w'.cell? ⟨w.heap.size + 1, k, none⟩ = some u := by
          rw [cell_of_row _ _ _ _ _ _ hm']
          exact macC_at s k k hlt
        have HM' := Lib.hid hm'
        have HR' := Lib.hid hr'
        have HBE := Lib.hid hbel
        clear hm' hr' hbel
        unfold maxLen at hc2
        go_wp2
        go_roundw
        case rel =>
          refine ⟨k + 1, by omega, by go_num, ?_, ?_, (hb.trans (Below.mono HBE.out (by omega))).setCell (by simp) _⟩
          · have := heap_setCell_same w' (w.heap.size + 1) k _ _ (.int .u8 (macB s k : Nat)) HM'.out
            rw [macC_step s k (by omega)] at this
            exact this
          · exact (heap_setCell_other w' ⟨w.heap.size + 1, k, none⟩ w.heap.size _ (by simp)).trans HR'.out
        case measure => simp [intOf]; omega
      · have x3 := index_chr (P := Try.prog) Try.underlying9 s .i64 (3 * (k : Int) - 1) (3 * k - 1) (by omega) (by have := HN.out; omega)
        rw [HC.out (by omega)] at x3
        go_wp2_with fail
        refine (RH.out _).mono ?_
        rintro e w' ⟨bb, oo, cap, rfl, hc1, hc2, hcell, hbel⟩
        have hm' : w'.heap[w.heap.size + 1]? = some (.cells (macC s k) 38 (0, 0)) := (hbel.block _ hBs).trans HM.out
        have hr' : w'.heap[w.heap.size]? = some (.cells #[.int .u8 0, .int .u8 0, .int .u8 0, .int .u8 0, .int .u8 0, .int .u8 0] 38 (0, 0)) := (hbel.block _ (by omega)).trans HR.out
        have hf : w'.frozen? ⟨w.heap.size + 1, k, none⟩ = false := frozen_of_row _ _ _ _ _ hm'
        obtain ⟨u, hu⟩ : ∃ u, w'.cell? ⟨w.heap.size + 1, k, none⟩ = some u := by
          rw [cell_of_row _ _ _ _ _ _ hm']
          exact macC_at s k k hlt
        have HM' := Lib.hid hm'
        have HR' := Lib.hid hr'
        have HBE := Lib.hid hbel
        clear hm' hr' hbel
        unfold maxLen at hc2
        go_wp2
        go_roundw
        case rel =>
          refine ⟨k + 1, by omega, by go_num, ?_, ?_, (hb.trans (Below.mono HBE.out (by omega))).setCell (by simp) _⟩
          · have := heap_setCell_same w' (w.heap.size + 1) k _ _ (.int .u8 (macB s k : Nat)) HM'.out
            rw [macC_step s k (by omega)] at this
            exact this
          · exact (heap_setCell_other w' ⟨w.heap.size + 1, k, none⟩ w.heap.size _ (by simp)).trans HR'.out
        case measure => simp [intOf]; omega
    · obtain rfl : k = 6 := by omega
      rw [macC_six] at hm
      obtain ⟨c0, c1, c2, c3, c4, c5⟩ := cells6 hm
      obtain ⟨r0, r1, r2, r3, r4, r5⟩ := cells6 hr
      have f0 := frozen_of_row _ _ 0 _ _ hr
      have f1 := frozen_of_row _ _ 1 _ _ hr
      have f2 := frozen_of_row _ _ 2 _ _ hr
      have f3 := frozen_of_row _ _ 3 _ _ hr
      have f4 := frozen_of_row _ _ 4 _ _ hr
      have f5 := frozen_of_row _ _ 5 _ _ hr
      have HR := Lib.hid hr
      clear hm hr
      go_wp2
      refine bodyPost_ret (results_cell_tmp_row (P := Try.prog) (fn := Try.f20) rfl _ _ w.heap.size 38 _ (0, 0) _ rfl (set6 HR.out _ _ _ _ _ _) Try.underlying38 rfl (by kernel_rfl)) rfl ?_
      exact ⟨rfl, below_set6 hb (Nat.le_refl _) _ _ _ _ _ _⟩
end Go.Proofs.Ytjpihjonkdgnhaa
