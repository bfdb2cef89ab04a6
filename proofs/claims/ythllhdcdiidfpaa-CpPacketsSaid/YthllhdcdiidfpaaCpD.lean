/-
  cp.Decode, whatever bytes come.
-/
import Derived.Test.YthllhdcdiidfpaaCpC
namespace Go.Proofs.Ythllhdcdiidfpaa
open Go.RowKit
set_option linter.unusedVariables false
set_option linter.unusedSimpArgs false

set_option maxRecDepth 20000 in
set_option maxHeartbeats 4000000 in
theorem cdecode_any (a : Option Addr) (n c : Nat) (l : List UInt8) (hn : l.length = n) (w : World) (hb : Bs w (.slice a n c) l) (hr : n ≤ 1000000) :
    Calls Try.prog 15 #[.slice a n c] w (CRes (cdec l) w) := by
  have BA : Below w.heap.size w (w.alloc (.cells #[.int .i64 0, .int .i64 0, .slice none 0 0] 39)) := (Below.refl _ _).alloc (Nat.le_refl _) _
  have HBA := Lib.hid BA
  have HN := Lib.hid hn
  clear BA
  by_cases h6 : n < 4
  · have HP := Lib.hid (cdec_short (l := l) (by omega))
    clear hn hb
    go_enter Try.func15, Try.ntmps15
    go_wp2
    refine bodyPost_ret (v := .tuple #[.agg #[.int .i64 0, .int .i64 0, .slice none 0 0], .int .i64 71]) (results_cell_tmp_row (P := Try.prog) (fn := Try.f15) rfl _ _ w.heap.size 39 _ (0, 0) _ rfl (heap_alloc_last w (.cells #[.int .i64 0, .int .i64 0, .slice none 0 0] 39)) Try.underlying39 rfl (by kernel_rfl)) rfl ?_
    exact CRes.none HP.out HBA.out
  have h6' : ¬ l.length < 4 := by omega
  have H6 := Lib.hid h6'
  obtain ⟨X, hX⟩ : ∃ X, X = bN l 0 := ⟨_, rfl⟩
  obtain ⟨Y, hY⟩ : ∃ Y, Y = bN l 1 := ⟨_, rfl⟩
  obtain ⟨Z, hZ⟩ : ∃ Z, Z = cN l := ⟨_, rfl⟩
  have hX16 : X < 65536 := by rw [hX]; have := bN_lt l 0; omega
  have hY16 : Y < 65536 := by rw [hY]; have := bN_lt l 1; omega
  have hZ16 : Z < 65536 := by rw [hZ]; exact cN_lt l
  have hT1 : takeN ((l.drop 0).take 1) 1 = X := by
    rw [takeN_eq1 _ (by rw [List.length_take, List.length_drop]; omega), bN_take _ _ _ (by decide), List.drop_zero, hX]
  have hT2 : takeN ((l.drop 1).take 1) 1 = Y := by
    rw [takeN_eq1 _ (by rw [List.length_take, List.length_drop]; omega), bN_take _ _ _ (by decide), bN_drop, hY]
  have hT3 : takeN ((l.drop 2).take 2) 2 = Z := by
    rw [takeN_eq2 _ (by rw [List.length_take, List.length_drop]; omega), bN_take _ _ _ (by decide), bN_take _ _ _ (by decide), bN_drop, bN_drop, hZ]; rfl
  have HT1 := Lib.hid hT1
  have HT2 := Lib.hid hT2
  have HT3 := Lib.hid hT3
  have HX := Lib.hid hX
  have HY := Lib.hid hY
  have HZ := Lib.hid hZ
  have HV := Lib.hid hb
  have HG0 : Hid ((w.alloc (.cells #[.int .i64 0, .int .i64 0, .slice none 0 0] 39)).heap[w.heap.size]? = some (.cells #[.int .i64 0, .int .i64 0, .slice none 0 0] 39 (0, 0))) := heap_alloc_last _ _
  have RD := Lib.hid (reader_ex (w.alloc (.cells #[.int .i64 0, .int .i64 0, .slice none 0 0] 39)) a n c)
  clear hn hb h6' hX hY hZ hT1 hT2 hT3
  go_enter Try.func15, Try.ntmps15
  go_wp2_with fail
  refine RD.out.mono ?_
  rintro e w1 ⟨ga, gb, rfl, hga, hne, hgb, hg, hb1⟩
  have hsz : w.heap.size + 1 ≤ ga := by rw [World.size_alloc] at hga; exact hga
  have HSZ := Lib.hid hsz
  have HSA := Lib.hid (Nat.le_of_succ_le hsz)
  have HNE := Lib.hid hne
  have HB1 := Lib.hid (HBA.out.trans (hb1.mono HBA.out.size))
  have HG1 := Lib.hid (heap_below HG0.out hb1)
  have HGB1 := Lib.hid hgb
  have NX := Lib.hid (next_any w w1 a n c l HN.out HV.out HB1.out ga gb (Nat.le_of_succ_le hsz) hne 0 1 1 X (by decide) (by decide) rfl (by omega) HT1.out hX16 hr hg hgb)
  clear hga hne hgb hg hb1 RD hsz
  go_wp2_with fail
  refine NX.out.mono ?_
  rintro e w2 ⟨rfl, hg2, ho2⟩
  have HB2 := Lib.hid (ho2.below _ _ HSA.out HB1.out)
  have HG2 := Lib.hid ((ho2.heap _ (Array.getElem?_eq_some_iff.1 HG1.out).1 (Nat.ne_of_lt HSZ.out)).trans HG1.out)
  have HGB2 := Lib.hid ((ho2.heap _ (Array.getElem?_eq_some_iff.1 HGB1.out).1 HNE.out).trans HGB1.out)
  have NX2 := Lib.hid (next_any w w2 a n c l HN.out HV.out HB2.out ga gb HSA.out HNE.out 1 1 2 Y (by decide) (by decide) rfl (by omega) HT2.out hY16 hr hg2 HGB2.out)
  clear hg2 ho2 NX
  go_wp2_with fail
  refine NX2.out.mono ?_
  rintro e w3 ⟨rfl, hg3, ho3⟩
  have HB3 := Lib.hid (ho3.below _ _ HSA.out HB2.out)
  have HG3 := Lib.hid ((ho3.heap _ (Array.getElem?_eq_some_iff.1 HG2.out).1 (Nat.ne_of_lt HSZ.out)).trans HG2.out)
  have HGB3 := Lib.hid ((ho3.heap _ (Array.getElem?_eq_some_iff.1 HGB2.out).1 HNE.out).trans HGB2.out)
  have NX3 := Lib.hid (next_any w w3 a n c l HN.out HV.out HB3.out ga gb HSA.out HNE.out 2 2 4 Z (by decide) (by decide) rfl (by omega) HT3.out hZ16 hr hg3 HGB3.out)
  clear hg3 ho3 NX2
  go_wp2_with fail
  refine NX3.out.mono ?_
  rintro e w4 ⟨rfl, hg4, ho4⟩
  have HB := Lib.hid (ho4.below _ _ HSA.out HB3.out)
  have HG := Lib.hid ((ho4.heap _ (Array.getElem?_eq_some_iff.1 HG3.out).1 (Nat.ne_of_lt HSZ.out)).trans HG3.out)
  clear hg4 ho4 NX3
  obtain ⟨k0, k1, k2⟩ := cells3 HG.out
  have f0 := frozen_of_row _ _ 0 _ _ HG.out
  have f1 := frozen_of_row _ _ 1 _ _ HG.out
  have f2 := frozen_of_row _ _ 2 _ _ HG.out
  by_cases hZ1 : Z < 4
  · have HP := Lib.hid (cdec_low H6.out (by rw [← HZ.out]; exact hZ1))
    go_wp2
    refine bodyPost_ret (v := .tuple #[.agg #[.int .i64 0, .int .i64 0, .slice none 0 0], .int .i64 71]) (results_cell_tmp_row (P := Try.prog) (fn := Try.f15) rfl _ _ w.heap.size 39 _ (0, 0) _ rfl (set3 HG.out _ _ _) Try.underlying39 rfl (by kernel_rfl)) rfl ?_
    exact CRes.none HP.out (((HB.out.setCell (Nat.le_refl _) _).setCell (Nat.le_refl _) _).setCell (Nat.le_refl _) _)
  by_cases hZ2 : n < Z
  · have HP := Lib.hid (cdec_less H6.out (by rw [← HZ.out]; exact hZ1) (by rw [← HZ.out, HN.out]; exact hZ2))
    go_wp2
    refine bodyPost_ret (v := .tuple #[.agg #[.int .i64 0, .int .i64 0, .slice none 0 0], .int .i64 71]) (results_cell_tmp_row (P := Try.prog) (fn := Try.f15) rfl _ _ w.heap.size 39 _ (0, 0) _ rfl (set3 HG.out _ _ _) Try.underlying39 rfl (by kernel_rfl)) rfl ?_
    exact CRes.none HP.out (((HB.out.setCell (Nat.le_refl _) _).setCell (Nat.le_refl _) _).setCell (Nat.le_refl _) _)
  have HP : Hid (cdec l = (⟨X, Y, (l.drop 4).take (Z - 4)⟩, 0)) := by
    show _ = _
    rw [cdec_yes H6.out (by rw [← HZ.out]; exact hZ1) (by rw [← HZ.out, HN.out]; exact hZ2), HX.out, HY.out, HZ.out]
  have PC := Lib.hid (piece_any w4 a n c l HN.out (HV.out.below HB.out) 4 Z (by omega) (by omega) hr)
  have HLL : Hid (((l.drop 4).take (Z - 4)).length = Z - 4) := by show _ = _; rw [List.length_take, List.length_drop, HN.out]; omega
  clear k0 k1 k2 f0 f1 f2
  go_wp2_with fail
  refine PC.out.mono ?_
  rintro e w5 ⟨v5, rfl, hown5, hb5⟩
  obtain ⟨A5, L5, C5, ev, hL5, _, _⟩ := hown5.bs.sl
  rw [HLL.out] at hL5
  subst hL5 ev
  have HO5 := Lib.hid (hown5.mono (show w.heap.size + 1 ≤ w4.heap.size from (Array.getElem?_eq_some_iff.1 HG.out).1))
  have HG5 := Lib.hid (heap_below HG.out hb5)
  have HB5 := Lib.hid (HB.out.trans (hb5.mono HB.out.size))
  obtain ⟨k0, k1, k2⟩ := cells3 HG5.out
  have f0 := frozen_of_row _ _ 0 _ _ HG5.out
  have f1 := frozen_of_row _ _ 1 _ _ HG5.out
  have f2 := frozen_of_row _ _ 2 _ _ HG5.out
  clear hown5 hb5 PC HB HG
  have HB := HB5
  go_wp2
  refine bodyPost_ret (v := .tuple #[.agg #[.int .i64 X, .int .i64 Y, .slice A5 (Z - 4) C5], .int .i64 0]) (results_cell_tmp_row (P := Try.prog) (fn := Try.f15) rfl _ _ w.heap.size 39 _ (0, 0) _ rfl (set3 HG5.out _ _ _) Try.underlying39 rfl (by kernel_rfl)) rfl ?_
  refine CRes.some HP.out ?_ (((HB.out.setCell (Nat.le_refl _) _).setCell (Nat.le_refl _) _).setCell (Nat.le_refl _) _)
  exact OwnB.mono (base := w.heap.size + 1) (own_set3 HO5.out (Nat.lt_succ_self _) _ _ _) (Nat.le_succ _)
end Go.Proofs.Ythllhdcdiidfpaa
