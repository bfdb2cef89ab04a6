import Derived.Test.YtjpihjonkdgnhaaOctK
namespace Go.Proofs.Ytjpihjonkdgnhaa
open Go.RowKit
set_option linter.unusedVariables false
set_option linter.unusedSimpArgs false

set_option maxHeartbeats 1600000 in
/-- ref.Parse, where there is none. -/
theorem rparse_no (w : World) (s : ByteArray) (hlen : s.size ≤ 1000000) (h : ¬ ParseOk s) :
    Calls Try.prog 20 #[.string s] w fun e w' => e = .returned (.tuple #[.agg #[.int .u8 0, .int .u8 0, .int .u8 0, .int .u8 0, .int .u8 0, .int .u8 0], .int .i64 10]) ∧ Below w.heap.size w w' := by
  by_cases hsz : s.size = 17
  · rcases first_bad (macOk s) 6 with hall | ⟨j, hj, hbad, hgood⟩
    · exact absurd ⟨hsz, hall⟩ h
    have HG := Lib.hid hgood
    have HBAD := Lib.hid hbad
    have HN := Lib.hid hsz
    have e1 : ((s.size : Int)) = 17 := by omega
    clear hgood hbad hsz h hlen
    go_enter Try.func20, Try.ntmps20
    go_wp2
    go_loopw [5] (fun iv wr => ∃ k : Nat, k ≤ j ∧ iv = .int .i64 k ∧ wr.heap[w.heap.size + 1]? = some (.cells (macC s k) 38 (0, 0)) ∧ wr.heap[w.heap.size]? = some (.cells #[.int .u8 0, .int .u8 0, .int .u8 0, .int .u8 0, .int .u8 0, .int .u8 0] 38 (0, 0)) ∧ Below w.heap.size w wr) (fun iv _ => 6 - (intOf iv).toNat)
    case atStart => exact ⟨0, Nat.zero_le _, rfl, heap_alloc2_new _ _ _, heap_alloc2_old _ _ _, ((Below.refl _ _).alloc (Nat.le_refl _) _).alloc (by simp) _⟩
    case round =>
      obtain ⟨k, hk, rfl, hm, hr, hb⟩ := hrel
      have hs17 := HN.out
      have hsl : ∀ w', (Instr.slice 9 (.string s) (some (.int .i64 (3 * (k : Int)))) (some (.int .i64 (3 * (k : Int) + 2))) none).run Try.prog w' = .ok (.string (s.extract (3 * k) (3 * k + 2))) w' := by
        intro w'
        have := run_slice_string (P := Try.prog) w' 9 s .i64 .i64 (3 * (k : Int)) (3 * (k : Int) + 2) Try.underlying9 (by omega) (by omega) (by omega)
        rw [this]
        congr 2
      by_cases hlt : k < j
      · obtain ⟨a, b, ha, hb2, hp, ha16, hb16, hcol⟩ := macOk_some (HG.out k hlt)
        have h1 : (digV (chr s (3 * k))).isSome = true := by rw [ha]; rfl
        have h2 : (digV (chr s (3 * k + 1))).isSome = true := by rw [hb2]; rfl
        have hmb : macB s k < 256 := by omega
        have RH := Lib.hid (fun w' => runhex_two w' s k (by omega) h1 h2 hmb)
        have HC := Lib.hid hcol
        have HM := Lib.hid hm
        have HR := Lib.hid hr
        have hBs : w.heap.size + 1 < wr.heap.size := (Array.getElem?_eq_some_iff.1 hm).1
        clear ha hb2 hp hcol hs17 hm hr h1 h2
        by_cases hk0 : k = 0
        · have hk1 : k ≤ 0 := by omega
          clear hk0
          go_wp2_with fail
          refine (RH.out _).mono ?_
          rintro e w' ⟨bb, oo, cap, rfl, hc1, hc2, hcell, hbel⟩
          have hm' : w'.heap[w.heap.size + 1]? = some (.cells (macC s k) 38 (0, 0)) := (hbel.block _ hBs).trans HM.out
          have hr' : w'.heap[w.heap.size]? = some (.cells #[.int .u8 0, .int .u8 0, .int .u8 0, .int .u8 0, .int .u8 0, .int .u8 0] 38 (0, 0)) := (hbel.block _ (by omega)).trans HR.out
          have hf : w'.frozen? ⟨w.heap.size + 1, k, none⟩ = false := frozen_of_row _ _ _ _ _ hm'
          obtain ⟨u, hu⟩ : ∃ u, w'.cell? ⟨w.heap.size + 1, k, none⟩ = some u := by
            rw [cell_of_row _ _ _ _ _ _ hm']
            exact macC_at s k k (by omega)
          have HM' := Lib.hid hm'
          have HR' := Lib.hid hr'
          have HBE := Lib.hid hbel
          clear hm' hr' hbel
          unfold maxLen at hc2
          go_wp2
          go_roundw
          case rel =>
            refine ⟨k + 1, by omega, by go_num, ?_, ?_, (hb.trans (Below.mono HBE.out (by omega))).setCell (by simp) _⟩
            · have := heap_setCell_same w' (w.heap.size + 1) k _ _ (.int .u8 (macB s k : Nat)) HM'.out
              rw [macC_step s k (by omega)] at this
              exact this
            · exact (heap_setCell_other w' ⟨w.heap.size + 1, k, none⟩ w.heap.size _ (by simp)).trans HR'.out
          case measure => simp [intOf]; omega
        · have x3 := index_chr (P := Try.prog) Try.underlying9 s .i64 (3 * (k : Int) - 1) (3 * k - 1) (by omega) (by have := HN.out; omega)
          rw [HC.out (by omega)] at x3
          go_wp2_with fail
          refine (RH.out _).mono ?_
          rintro e w' ⟨bb, oo, cap, rfl, hc1, hc2, hcell, hbel⟩
          have hm' : w'.heap[w.heap.size + 1]? = some (.cells (macC s k) 38 (0, 0)) := (hbel.block _ hBs).trans HM.out
          have hr' : w'.heap[w.heap.size]? = some (.cells #[.int .u8 0, .int .u8 0, .int .u8 0, .int .u8 0, .int .u8 0, .int .u8 0] 38 (0, 0)) := (hbel.block _ (by omega)).trans HR.out
          have hf : w'.frozen? ⟨w.heap.size + 1, k, none⟩ = false := frozen_of_row _ _ _ _ _ hm'
          obtain ⟨u, hu⟩ : ∃ u, w'.cell? ⟨w.heap.size + 1, k, none⟩ = some u := by
            rw [cell_of_row _ _ _ _ _ _ hm']
            exact macC_at s k k (by omega)
          have HM' := Lib.hid hm'
          have HR' := Lib.hid hr'
          have HBE := Lib.hid hbel
          clear hm' hr' hbel
          unfold maxLen at hc2
          go_wp2
          go_roundw
          case rel =>
            refine ⟨k + 1, by omega, by go_num, ?_, ?_, (hb.trans (Below.mono HBE.out (by omega))).setCell (by simp) _⟩
            · have := heap_setCell_same w' (w.heap.size + 1) k _ _ (.int .u8 (macB s k : Nat)) HM'.out
              rw [macC_step s k (by omega)] at this
              exact this
            · exact (heap_setCell_other w' ⟨w.heap.size + 1, k, none⟩ w.heap.size _ (by simp)).trans HR'.out
          case measure => simp [intOf]; omega
      · obtain rfl : k = j := by omega
        have hBs : w.heap.size + 1 < wr.heap.size := (Array.getElem?_eq_some_iff.1 hm).1
        have HR := Lib.hid hr
        clear hm hr
        rcases macOk_not HBAD.out with hpb | ⟨a, b, ha, hb2, hk0, hcol⟩
        · have RH := Lib.hid (fun w' => runhex_no w' (s.extract (3 * k) (3 * k + 2)) (by rw [sub_size s _ (by omega)]; omega) (sub_not s k (by omega) hpb))
          clear hpb hs17
          go_wp2_with fail
          refine (RH.out _).mono ?_
          rintro e w' ⟨rfl, hbel⟩
          have hr' : w'.heap[w.heap.size]? = some (.cells #[.int .u8 0, .int .u8 0, .int .u8 0, .int .u8 0, .int .u8 0, .int .u8 0] 38 (0, 0)) := (hbel.block _ (by omega)).trans HR.out
          obtain ⟨r0, r1, r2, r3, r4, r5⟩ := cells6 hr'
          have f0 := frozen_of_row _ _ 0 _ _ hr'
          have f1 := frozen_of_row _ _ 1 _ _ hr'
          have f2 := frozen_of_row _ _ 2 _ _ hr'
          have f3 := frozen_of_row _ _ 3 _ _ hr'
          have f4 := frozen_of_row _ _ 4 _ _ hr'
          have f5 := frozen_of_row _ _ 5 _ _ hr'
          have HR' := Lib.hid hr'
          have HBE := Lib.hid hbel
          clear hr' hbel
          go_wp2
          refine bodyPost_ret (results_cell_tmp_row (P := Try.prog) (fn := Try.f20) rfl _ _ w.heap.size 38 _ (0, 0) _ rfl (set6 HR'.out _ _ _ _ _ _) Try.underlying38 rfl (by kernel_rfl)) rfl ?_
          exact ⟨rfl, below_set6 (hb.trans (Below.mono HBE.out (by omega))) (Nat.le_refl _) _ _ _ _ _ _⟩
        · have x3 := index_chr (P := Try.prog) Try.underlying9 s .i64 (3 * (k : Int) - 1) (3 * k - 1) (by omega) (by have := HN.out; omega)
          have hne : (((chr s (3 * k - 1) : Nat) : Int) != 58) = true := by rw [bne_iff_ne]; omega
          have h1 : (digV (chr s (3 * k))).isSome = true := by rw [ha]; rfl
          have h2 : (digV (chr s (3 * k + 1))).isSome = true := by rw [hb2]; rfl
          have hmb : macB s k < 256 := by
            have a16 := digV_lt ha
            have b16 := digV_lt hb2
            simp only [macB, ha, hb2, Option.getD_some]; omega
          have RH := Lib.hid (fun w' => runhex_two w' s k (by omega) h1 h2 hmb)
          clear ha hb2 hcol hs17 h1 h2
          go_wp2_with fail
          refine (RH.out _).mono ?_
          rintro e w' ⟨bb, oo, cap, rfl, hc1, hc2, hcell, hbel⟩
          have hr' : w'.heap[w.heap.size]? = some (.cells #[.int .u8 0, .int .u8 0, .int .u8 0, .int .u8 0, .int .u8 0, .int .u8 0] 38 (0, 0)) := (hbel.block _ (by omega)).trans HR.out
          obtain ⟨r0, r1, r2, r3, r4, r5⟩ := cells6 hr'
          have f0 := frozen_of_row _ _ 0 _ _ hr'
          have f1 := frozen_of_row _ _ 1 _ _ hr'
          have f2 := frozen_of_row _ _ 2 _ _ hr'
          have f3 := frozen_of_row _ _ 3 _ _ hr'
          have f4 := frozen_of_row _ _ 4 _ _ hr'
          have f5 := frozen_of_row _ _ 5 _ _ hr'
          have HR' := Lib.hid hr'
          have HBE := Lib.hid hbel
          clear hr' hbel
          go_wp2
          refine bodyPost_ret (results_cell_tmp_row (P := Try.prog) (fn := Try.f20) rfl _ _ w.heap.size 38 _ (0, 0) _ rfl (set6 HR'.out _ _ _ _ _ _) Try.underlying38 rfl (by kernel_rfl)) rfl ?_
          exact ⟨rfl, below_set6 (hb.trans (Below.mono HBE.out (by omega))) (Nat.le_refl _) _ _ _ _ _ _⟩
  · have hn : ((s.size : Int) != 17) = true := by rw [bne_iff_ne]; omega
    go_enter Try.func20, Try.ntmps20
    go_wp2
    refine bodyPost_ret (results_cell_tmp_row (P := Try.prog) (fn := Try.f20) rfl _ _ w.heap.size 38 _ (0, 0) _ rfl (heap_alloc2_old _ _ _) Try.underlying38 rfl (by kernel_rfl)) rfl ?_
    exact ⟨rfl, ((Below.refl _ _).alloc (Nat.le_refl _) _).alloc (by simp) _⟩

/-! Equal -/
theorem xor_zero_iff (x y : Nat) : x ^^^ y = 0 ↔ x = y := by
  constructor
  · intro h
    have : (x ^^^ y) ^^^ y = 0 ^^^ y := by rw [h]
    rwa [Nat.xor_assoc, Nat.xor_self, Nat.xor_zero, Nat.zero_xor] at this
  · rintro rfl; exact Nat.xor_self x
theorem take_eq_succ (l m : List UInt8) (k : Nat) (h1 : k < l.length) (h2 : k < m.length) : l.take (k + 1) = m.take (k + 1) ↔ l.take k = m.take k ∧ l[k] = m[k] := by
  rw [List.take_succ_eq_append_getElem h1, List.take_succ_eq_append_getElem h2]
  constructor
  · intro h
    have := List.append_inj' h rfl
    exact ⟨this.1, by simpa using this.2⟩
  · rintro ⟨a, b⟩; rw [a, b]

theorem equal_any (w : World) (a b : Option Addr) (n n' c c' : Nat) (l m : List UInt8) (hn : l.length = n) (hn' : m.length = n') (h : Bs w (.slice a n c) l) (h' : Bs w (.slice b n' c') m) :
    Calls Try.prog 25 #[.slice a n c, .slice b n' c'] w fun e w' => e = .returned (.bool (decide (l = m))) ∧ w = w' := by
  subst hn hn'
  obtain ⟨_, _, es, hca, hcm⟩ := h.shape
  simp only [Value.slice.injEq] at es
  obtain ⟨rfl, _, rfl⟩ := es
  unfold maxLen at hcm
  by_cases hl : l.length = m.length
  · by_cases hz : l.length = 0
    · have e1 : l = [] := List.eq_nil_of_length_eq_zero hz
      have e2 : m = [] := List.eq_nil_of_length_eq_zero (by omega)
      subst e1 e2
      simp only [List.length_nil]
      clear h h' hl hz
      go_enter Try.func25, Try.ntmps25
      go_wp2
      refine wp_loop_rounds 1 ?_
      rw [rounds_succ]
      go_wp2
      go_ret
      exact ⟨by simp, rfl⟩
    · obtain ⟨b1, o1, rfl, hb1, hc1⟩ := h.cells (by omega)
      obtain ⟨b2, o2, rfl, hb2, hc2⟩ := h'.cells (by omega)
      have HC1 := Lib.hid hc1
      have HC2 := Lib.hid hc2
      have HL := Lib.hid hl
      have hli : (m.length : Int) = (l.length : Int) := by omega
      rw [← hl]
      clear h h' hc1 hc2 hl hli
      go_enter Try.func25, Try.ntmps25
      go_wp2
      go_loopw [5, 15] (fun pv iv wr => ∃ k p : Nat, k ≤ l.length ∧ p < 256 ∧ (p = 0 ↔ l.take k = m.take k) ∧ iv = .int .i64 k ∧ pv = .int .u8 p ∧ w = wr) (fun _ iv _ => l.length - (intOf iv).toNat)
      case atStart => exact ⟨0, 0, by omega, by omega, by simp, rfl, rfl, rfl⟩
      case round =>
        obtain ⟨k, p, hk, hp, hpe, rfl, rfl, rfl⟩ := hrel
        by_cases hlt : k < l.length
        · have hx := HC1.out k hlt
          have hy := HC2.out k (by have := HL.out; omega)
          have hx8 := UInt8.toNat_lt l[k]
          have hy8 := UInt8.toNat_lt (m[k]'(by have := HL.out; omega))
          obtain ⟨x, hxe⟩ : ∃ x, x = l[k].toNat := ⟨_, rfl⟩
          obtain ⟨y, hye⟩ : ∃ y, y = (m[k]'(by have := HL.out; omega)).toNat := ⟨_, rfl⟩
          rw [← hxe] at hx hx8
          rw [← hye] at hy hy8
          have hq : x ^^^ y < 256 := Nat.xor_lt_two_pow (n := 8) hx8 hy8
          have hr : p ||| (x ^^^ y) < 256 := Nat.or_lt_two_pow (n := 8) hp hq
          have e1 := u8_xor_nat x y hx8 hy8
          have e2 := u8_or_nat p (x ^^^ y) hp hq
          obtain ⟨q, hqe⟩ : ∃ q, q = x ^^^ y := ⟨_, rfl⟩
          rw [← hqe] at e1 e2 hq hr
          obtain ⟨r, hre⟩ : ∃ r, r = p ||| q := ⟨_, rfl⟩
          rw [← hre] at e2 hr
          have HX := Lib.hid hxe
          have HY := Lib.hid hye
          have HQ := Lib.hid hqe
          have HR := Lib.hid hre
          have HPE := Lib.hid hpe
          clear hxe hye hqe hre hpe
          go_wp2
          go_roundw
          case rel =>
            refine ⟨k + 1, r, by omega, hr, ?_, by go_num, rfl, trivial⟩
            rw [take_eq_succ l m k hlt (by have := HL.out; omega), ← HPE.out, HR.out, Nat.or_eq_zero_iff, HQ.out]
            have hxor : x ^^^ y = 0 ↔ x = y := xor_zero_iff x y
            rw [hxor, HX.out, HY.out]
            constructor
            · rintro ⟨u1, u2⟩; exact ⟨u1, UInt8.toNat_inj.1 u2⟩
            · rintro ⟨u1, u2⟩; exact ⟨u1, by rw [u2]⟩
          case measure => simp [intOf]; omega
        · obtain rfl : k = l.length := by omega
          have e3 : (((p : Nat) : Int) == 0) = decide (l = m) := by
            have h1 := hpe
            rw [List.take_length, List.take_of_length_le (by have := HL.out; omega)] at h1
            by_cases hlm : l = m
            · simp [hlm, h1.2 hlm]
            · have : p ≠ 0 := fun e => hlm (h1.1 e)
              simp [hlm, this]
          clear hpe
          go_wp2
          go_ret
          exact ⟨rfl, rfl⟩
  · have hne : ((l.length : Int) != (m.length : Int)) = true := by rw [bne_iff_ne]; omega
    have hd : decide (l = m) = false := by simp; intro e; exact hl (by rw [e])
    rw [hd]
    clear hl hd
    go_enter Try.func25, Try.ntmps25
    go_wp2
    go_ret
    exact ⟨rfl, rfl⟩
end Go.Proofs.Ytjpihjonkdgnhaa
