/-
  pppoe.Decode, the document's Decode, whatever bytes come.
-/
import Derived.Test.YtcpeglljcipcbaaPpM
import Derived.Test.YtcpeglljcipcbaaTake
import Derived.IntWalk
namespace Go.Proofs.Ytcpeglljcipcbaa
open Go.RowKit
set_option linter.unusedVariables false
set_option linter.unusedSimpArgs false

theorem builtP (c s : Int) (A : Option Addr) (L C : Nat) : Try.prog.built 24 [(0, .int .i64 c), (1, .int .i64 s), (2, .slice A L C)] = some #[.int .i64 c, .int .i64 s, .slice A L C] := by kernel_rfl
theorem takeN_eq1 (l : List UInt8) (h : 1 ≤ l.length) : takeN l 1 = bN l 0 := by
  rw [takeN_succ _ 0 (by omega), takeN_zero, bN_get _ _ (by omega)]
  omega
theorem takeN_eq2 (l : List UInt8) (h : 2 ≤ l.length) : takeN l 2 = 256 * bN l 0 + bN l 1 := by
  rw [take2_eq _ h, bN_get _ _ (by omega), bN_get _ _ (by omega)]
theorem bN_drop (l : List UInt8) (k i : Nat) : bN (l.drop k) i = bN l (k + i) := by simp [bN, List.getD, List.getElem?_drop]
theorem bN_take (l : List UInt8) (k i : Nat) (h : i < k) : bN (l.take k) i = bN l i := by simp [bN, List.getD, List.getElem?_take, h]

set_option maxHeartbeats 4000000 in
theorem pdecode_any (a : Option Addr) (n c : Nat) (l : List UInt8) (hn : l.length = n) (w : World) (hb : Bs w (.slice a n c) l) (hr : n ≤ 1000000) :
    Calls Try.prog 12 #[.slice a n c] w (PRes (pdec l) w) := by
  obtain ⟨i0, hi, hz0, hz1, hz2⟩ := info_parts info5
  have BA : Below w.heap.size w (w.alloc (.cells #[.int .i64 0, .int .i64 0, .slice none 0 0] 24)) := (Below.refl _ _).alloc (Nat.le_refl _) _
  have HBA := Lib.hid BA
  have HN := Lib.hid hn
  clear BA
  by_cases h6 : n < 6
  · have HP := Lib.hid (pdec_short (l := l) (by omega))
    clear hn hb
    go_enter Try.func12, Try.ntmps12
    go_wp2
    refine bodyPost_ret (v := .tuple #[.agg #[.int .i64 0, .int .i64 0, .slice none 0 0], .int .i64 6]) (results_cell_tmp_row (P := Try.prog) (fn := Try.f12) rfl _ _ w.heap.size 24 _ (0, 0) _ rfl (heap_alloc_last w (.cells #[.int .i64 0, .int .i64 0, .slice none 0 0] 24)) Try.underlying24 rfl (by kernel_rfl)) rfl ?_
    exact PRes.none HP.out HBA.out
  obtain ⟨b, o, rfl, hbl, hcell⟩ := hb.cells (by omega)
  have hb1 : Rd w 1 (.slice (some ⟨b, o, none⟩) n c) n (l.map u8v) := by
    have := hb
    unfold Bs at this
    rw [hn] at this
    exact this
  obtain ⟨a1, hs1, hr1⟩ := slice_range (P := Try.prog) Try.underlying22 hi hz1 hb1 .i64 .i64 1 6 1 6 rfl rfl (by omega) (by omega)
  obtain ⟨a6, hs6, hr6⟩ := slice_from (P := Try.prog) Try.underlying22 hi hz1 hb1 .i64 6 6 rfl (by omega)
  rw [drop_u8, take_u8] at hr1
  rw [drop_u8] at hr6
  have HS1 : Hid (Bs w (.slice a1 5 (c - 1)) ((l.drop 1).take 5)) := Bs.of_rd hr1 rfl
  have HR6 := Lib.hid hr6
  have hT0 : w.cell? ⟨b, o, none⟩ = some (.int .u8 (bN l 0 : Nat)) := by
    have := hcell 0 (by omega)
    rw [bN_get l 0 (by omega)]
    exact this
  obtain ⟨T, hT⟩ : ∃ T, T = bN l 0 := ⟨_, rfl⟩
  obtain ⟨X, hX⟩ : ∃ X, X = bN l 1 := ⟨_, rfl⟩
  obtain ⟨Y, hY⟩ : ∃ Y, Y = pS l := ⟨_, rfl⟩
  obtain ⟨Z, hZ⟩ : ∃ Z, Z = pN l := ⟨_, rfl⟩
  rw [← hT] at hT0
  have hR1 : ((l.drop 1).take 5).length = 5 := by rw [List.length_take, List.length_drop]; omega
  have hR2 : (((l.drop 1).take 5).drop 1).length = 4 := by rw [List.length_drop, hR1]
  have hR3 : ((((l.drop 1).take 5).drop 1).drop 2).length = 2 := by rw [List.length_drop, hR2]
  have e1 : takeN ((l.drop 1).take 5) 1 = X := by rw [takeN_eq1 _ (by omega), bN_take _ _ _ (by decide), bN_drop, hX]
  have e2 : takeN (((l.drop 1).take 5).drop 1) 2 = Y := by
    rw [takeN_eq2 _ (by omega), bN_drop, bN_drop, bN_take _ _ _ (by decide), bN_take _ _ _ (by decide), bN_drop, bN_drop, hY]; rfl
  have e3 : takeN ((((l.drop 1).take 5).drop 1).drop 2) 2 = Z := by
    rw [takeN_eq2 _ (by omega), bN_drop, bN_drop, bN_drop, bN_drop, bN_take _ _ _ (by decide), bN_take _ _ _ (by decide), bN_drop, bN_drop, hZ]; rfl
  have T1 := take_yes (w.alloc (.cells #[.int .i64 0, .int .i64 0, .slice none 0 0] 24)) a1 5 (c - 1) ((l.drop 1).take 5) 1 hR1 (HS1.out.below HBA.out) (by decide) (by decide) (by decide) (by decide)
  rw [e1] at T1
  have HT1 := Lib.hid T1
  have hX8 : X < 256 := by rw [hX]; exact bN_lt l 1
  have hY16 : Y < 65536 := by rw [hY]; exact pS_lt l
  have hZ16 : Z < 65536 := by rw [hZ]; exact pN_lt l
  have HT := Lib.hid hT
  have HX := Lib.hid hX
  have HY := Lib.hid hY
  have HZ := Lib.hid hZ
  have HT0 := Lib.hid hT0
  have HE2 := Lib.hid e2
  have HE3 := Lib.hid e3
  have HR2 := Lib.hid hR2
  have HR3 := Lib.hid hR3
  have HG0 : Hid ((w.alloc (.cells #[.int .i64 0, .int .i64 0, .slice none 0 0] 24)).heap[w.heap.size]? = some (.cells #[.int .i64 0, .int .i64 0, .slice none 0 0] 24 (0, 0))) := heap_alloc_last _ _
  have h6' : ¬ l.length < 6 := by omega
  have H6 := Lib.hid h6'
  clear hn hb hb1 hr1 hr6 hcell hT0 hT hX hY hZ hR1 hR2 hR3 e1 e2 e3 T1 h6'
  go_enter Try.func12, Try.ntmps12
  go_wp2_with fail
  refine HT1.out.mono ?_
  rintro e w1 ⟨v1, rfl, hown1, hb1⟩
  have HB1 := Lib.hid (HBA.out.trans (hb1.mono HBA.out.size))
  have HG1 := Lib.hid (heap_below HG0.out hb1)
  obtain ⟨A1, L1, C1, ev, hL1, _, _⟩ := hown1.bs.sl
  rw [HR2.out] at hL1
  subst hL1 ev
  have T2 := take_yes w1 A1 4 C1 _ 2 HR2.out hown1.bs (by decide) (by decide) (by decide) (by decide)
  rw [HE2.out] at T2
  have HT2 := Lib.hid T2
  clear hown1 hb1 T2
  go_wp2_with fail
  refine HT2.out.mono ?_
  rintro e w2 ⟨v2, rfl, hown2, hb2⟩
  have HB2 := Lib.hid (HB1.out.trans (hb2.mono HB1.out.size))
  have HG2 := Lib.hid (heap_below HG1.out hb2)
  obtain ⟨A2, L2, C2, ev, hL2, _, _⟩ := hown2.bs.sl
  rw [HR3.out] at hL2
  subst hL2 ev
  have T3 := take_yes w2 A2 2 C2 _ 2 HR3.out hown2.bs (by decide) (by decide) (by decide) (by decide)
  rw [HE3.out] at T3
  have HT3 := Lib.hid T3
  clear hown2 hb2 T3
  go_wp2_with fail
  refine HT3.out.mono ?_
  rintro e w3 ⟨v3, rfl, hown3, hb3⟩
  have HB3 := Lib.hid (HB2.out.trans (hb3.mono HB2.out.size))
  have HG3 := Lib.hid (heap_below HG2.out hb3)
  have kT := cell_gr HB3.out HT0.out
  obtain ⟨k0, k1, k2⟩ := cells3 HG3.out
  have f0 := frozen_of_row _ _ 0 _ _ HG3.out
  have f1 := frozen_of_row _ _ 1 _ _ HG3.out
  have f2 := frozen_of_row _ _ 2 _ _ HG3.out
  have hcast : ((n - 6 : Nat) : Int) = (n : Int) - 6 := by omega
  clear hown3 hb3 HT1 HT2 HT3
  by_cases hT : T = 17
  · by_cases hZ1 : 1494 < Z
    · have HP := Lib.hid (pdec_long H6.out (by rw [← HT.out]; exact hT) (by rw [← HZ.out]; exact hZ1))
      go_wp2
      refine bodyPost_ret (v := .tuple #[.agg #[.int .i64 0, .int .i64 0, .slice none 0 0], .int .i64 2]) (results_cell_tmp_row (P := Try.prog) (fn := Try.f12) rfl _ _ w.heap.size 24 _ (0, 0) _ rfl (set3 HG3.out _ _ _) Try.underlying24 rfl (by kernel_rfl)) rfl ?_
      exact PRes.none HP.out (((HB3.out.setCell (Nat.le_refl _) _).setCell (Nat.le_refl _) _).setCell (Nat.le_refl _) _)
    · by_cases hZ2 : n - 6 < Z
      · have HP := Lib.hid (pdec_less H6.out (by rw [← HT.out]; exact hT) (by rw [← HZ.out]; exact hZ1) (by rw [← HZ.out, HN.out]; omega))
        go_wp2
        refine bodyPost_ret (v := .tuple #[.agg #[.int .i64 0, .int .i64 0, .slice none 0 0], .int .i64 6]) (results_cell_tmp_row (P := Try.prog) (fn := Try.f12) rfl _ _ w.heap.size 24 _ (0, 0) _ rfl (set3 HG3.out _ _ _) Try.underlying24 rfl (by kernel_rfl)) rfl ?_
        exact PRes.none HP.out (((HB3.out.setCell (Nat.le_refl _) _).setCell (Nat.le_refl _) _).setCell (Nat.le_refl _) _)
      · have HP : Hid (pdec l = (⟨X, Y, (l.drop 6).take Z⟩, 0)) := by
          show _ = _
          rw [pdec_yes H6.out (by rw [← HT.out]; exact hT) (by rw [← HZ.out]; exact hZ1) (by rw [← HZ.out, HN.out]; omega), ← HX.out, ← HY.out, ← HZ.out]
        obtain ⟨a7, hs7, hr7⟩ := slice_upto (P := Try.prog) Try.underlying22 hi hz1 HR6.out .u64 Z Z rfl (by omega)
        rw [take_u8] at hr7
        have hS7 : Bs w (.slice a7 Z (c - 6)) ((l.drop 6).take Z) := Bs.of_rd hr7 rfl
        have hl7 : ((l.drop 6).take Z).length = Z := by rw [List.length_take, List.length_drop, HN.out]; omega
        have CL := Lib.hid (clone_any w3 a7 Z (c - 6) _ hl7 (hS7.below HB3.out) (by omega))
        have HL7 := Lib.hid hl7
        clear hr7 hS7 hl7 k0 k1 k2 f0 f1 f2
        go_wp2_with fail
        refine CL.out.mono ?_
        rintro e w4 ⟨v4, rfl, hown4, hb4⟩
        obtain ⟨A4, L4, C4, ev, hL4, _, _⟩ := hown4.bs.sl
        rw [HL7.out] at hL4
        subst hL4 ev
        have HB4 := Lib.hid (HB3.out.trans (hb4.mono HB3.out.size))
        have HG4 := Lib.hid (heap_below HG3.out hb4)
        have HO4 := Lib.hid (hown4.mono (show w.heap.size + 1 ≤ w3.heap.size from (Array.getElem?_eq_some_iff.1 HG3.out).1))
        obtain ⟨k0, k1, k2⟩ := cells3 HG4.out
        have f0 := frozen_of_row _ _ 0 _ _ HG4.out
        have f1 := frozen_of_row _ _ 1 _ _ HG4.out
        have f2 := frozen_of_row _ _ 2 _ _ HG4.out
        clear hown4 hb4 CL
        go_wp2
        refine bodyPost_ret (v := .tuple #[.agg #[.int .i64 X, .int .i64 Y, .slice A4 Z C4], .int .i64 0]) (results_cell_tmp_row (P := Try.prog) (fn := Try.f12) rfl _ _ w.heap.size 24 _ (0, 0) _ rfl (set3 HG4.out _ _ _) Try.underlying24 rfl (by kernel_rfl)) rfl ?_
        refine PRes.some HP.out ?_ (((HB4.out.setCell (Nat.le_refl _) _).setCell (Nat.le_refl _) _).setCell (Nat.le_refl _) _)
        exact OwnB.mono (base := w.heap.size + 1) (own_set3 HO4.out (Nat.lt_succ_self _) _ _ _) (Nat.le_succ _)
  · have HP := Lib.hid (pdec_other H6.out (by rw [← HT.out]; exact hT))
    go_wp2
    refine bodyPost_ret (v := .tuple #[.agg #[.int .i64 0, .int .i64 0, .slice none 0 0], .int .i64 60]) (results_cell_tmp_row (P := Try.prog) (fn := Try.f12) rfl _ _ w.heap.size 24 _ (0, 0) _ rfl (set3 HG3.out _ _ _) Try.underlying24 rfl (by kernel_rfl)) rfl ?_
    exact PRes.none HP.out (((HB3.out.setCell (Nat.le_refl _) _).setCell (Nat.le_refl _) _).setCell (Nat.le_refl _) _)
end Go.Proofs.Ytcpeglljcipcbaa
