/-
  The document's Decode, whatever bytes come.
-/
import Derived.Test.YthllhdcdiidfpaaCpA
namespace Go.Proofs.Ythllhdcdiidfpaa
open Go.RowKit
set_option linter.unusedVariables false
set_option linter.unusedSimpArgs false

set_option maxRecDepth 20000 in
set_option maxHeartbeats 2000000 in
theorem rcdecode_any (a : Option Addr) (n c : Nat) (l : List UInt8) (hn : l.length = n) (w : World) (hb : Bs w (.slice a n c) l) (hr : n ≤ 1000000) :
    Calls Try.prog 16 #[.slice a n c] w (CRes (cdec l) w) := by
  obtain ⟨i0, hi, hz0, hz1, hz2⟩ := info_parts info5
  have BA : Below w.heap.size w (w.alloc (.cells #[.int .i64 0, .int .i64 0, .slice none 0 0] 39)) := (Below.refl _ _).alloc (Nat.le_refl _) _
  have HBA := Lib.hid BA
  have HN := Lib.hid hn
  have HG0 : Hid ((w.alloc (.cells #[.int .i64 0, .int .i64 0, .slice none 0 0] 39)).heap[w.heap.size]? = some (.cells #[.int .i64 0, .int .i64 0, .slice none 0 0] 39 (0, 0))) := heap_alloc_last _ _
  clear BA
  by_cases h6 : n < 4
  · have HP := Lib.hid (cdec_short (l := l) (by omega))
    clear hn hb
    go_enter Try.func16, Try.ntmps16
    go_wp2
    refine bodyPost_ret (v := .tuple #[.agg #[.int .i64 0, .int .i64 0, .slice none 0 0], .int .i64 71]) (results_cell_tmp_row (P := Try.prog) (fn := Try.f16) rfl _ _ w.heap.size 39 _ (0, 0) _ rfl HG0.out Try.underlying39 rfl (by kernel_rfl)) rfl ?_
    exact CRes.none HP.out HBA.out
  obtain ⟨wq0, hwq0⟩ : ∃ x, x = w.alloc (.cells #[.int .i64 0, .int .i64 0, .slice none 0 0] 39) := ⟨_, rfl⟩
  obtain ⟨b, o, rfl, hbl, hcell⟩ := hb.cells (by omega)
  have hb1 : Rd w 1 (.slice (some ⟨b, o, none⟩) n c) n (l.map u8v) := by
    have := hb
    unfold Bs at this
    rw [hn] at this
    exact this
  obtain ⟨Z, hZ⟩ : ∃ Z, Z = cN l := ⟨_, rfl⟩
  obtain ⟨b0, hb0⟩ : ∃ x, x = bN l 0 := ⟨_, rfl⟩
  obtain ⟨b1, hb1'⟩ : ∃ x, x = bN l 1 := ⟨_, rfl⟩
  obtain ⟨b2, hb2⟩ : ∃ x, x = bN l 2 := ⟨_, rfl⟩
  obtain ⟨b3, hb3⟩ : ∃ x, x = bN l 3 := ⟨_, rfl⟩
  have hQ0 : w.cell? ⟨b, o, none⟩ = some (.int .u8 (b0 : Nat)) := by
    have := hcell 0 (by omega)
    rw [hb0, bN_get l 0 (by omega)]
    exact this
  have hQ1 : w.cell? ⟨b, o + 1, none⟩ = some (.int .u8 (b1 : Nat)) := by
    have := hcell 1 (by omega)
    rw [hb1', bN_get l 1 (by omega)]
    exact this
  have hQ2 : w.cell? ⟨b, o + 2, none⟩ = some (.int .u8 (b2 : Nat)) := by
    have := hcell 2 (by omega)
    rw [hb2, bN_get l 2 (by omega)]
    exact this
  have hQ3 : w.cell? ⟨b, o + 3, none⟩ = some (.int .u8 (b3 : Nat)) := by
    have := hcell 3 (by omega)
    rw [hb3, bN_get l 3 (by omega)]
    exact this
  have HQ0 := Lib.hid hQ0
  have HQ1 := Lib.hid hQ1
  have HQ2 := Lib.hid hQ2
  have HQ3 := Lib.hid hQ3
  have l0 : b0 < 256 := by rw [hb0]; exact bN_lt _ _
  have l1 : b1 < 256 := by rw [hb1']; exact bN_lt _ _
  have l2 : b2 < 256 := by rw [hb2]; exact bN_lt _ _
  have l3 : b3 < 256 := by rw [hb3]; exact bN_lt _ _
  have hZ23 : (256 : Int) * (b2 : Int) + (b3 : Int) = (Z : Int) := by rw [hZ, hb2, hb3]; unfold cN; omega
  have HZ23 := Lib.hid hZ23
  have HZ := Lib.hid hZ
  have HX0 := Lib.hid hb0
  have HX1 := Lib.hid hb1'
  have HR := Lib.hid hb1
  have h6' : ¬ l.length < 4 := by omega
  have H6 := Lib.hid h6'
  have W0 : IntKind.i64.wrap (b0 : Int) = (b0 : Int) := IntWalk.i64_in _ (by omega)
  have W1 : IntKind.i64.wrap (b1 : Int) = (b1 : Int) := IntWalk.i64_in _ (by omega)
  have W2 : IntKind.i64.wrap (b2 : Int) = (b2 : Int) := IntWalk.i64_in _ (by omega)
  have W3 : IntKind.i64.wrap (b3 : Int) = (b3 : Int) := IntWalk.i64_in _ (by omega)
  have W4 : IntKind.i64.wrap (256 * (b2 : Int)) = 256 * (b2 : Int) := IntWalk.i64_in _ (by omega)
  have W5 : IntKind.i64.wrap (256 * (b2 : Int) + (b3 : Int)) = 256 * (b2 : Int) + (b3 : Int) := IntWalk.i64_in _ (by omega)
  have hZ16 : Z < 65536 := by omega
  have i0' : 0 < n := by omega
  have i1' : (1 : Int) < (n : Int) := by omega
  have i2' : (2 : Int) < (n : Int) := by omega
  have i3' : (3 : Int) < (n : Int) := by omega
  clear hn hb hb1 hcell hQ0 hQ1 hQ2 hQ3 hZ hb0 hb1' hb2 hb3 hZ23 h6'
  go_enter Try.func16, Try.ntmps16
  go_wp2_with fail
  rw [← hwq0] at HBA HG0 ⊢
  clear hwq0
  refine wp_region_G 11 Gr (by kernel_rfl) ?_
  -- 0: slot 9
  refine wpG_take preGr (i := 0) (v := ?_) (by kernel_rfl) (some 9) (by kernel_rfl) rfl (by kernel_rfl) (by kernel_rfl) (by kernel_rfl) (fun _ _ _ h => h) (by rfl) (fun w' hw' => ?_) rfl ?_
  rotate_left
  · have g4 := cell_gr (HBA.out.trans (((Gr.drew wq0).trans hw').mono HBA.out.size)) HQ2.out
    have g5 := cell_gr (HBA.out.trans (((Gr.drew wq0).trans hw').mono HBA.out.size)) HQ3.out
    go_simp
    with_reducible rfl
  simp only [Act.put, List.setIfInBounds_toArray, List.set_cons_zero, List.set_cons_succ]
  -- 1: slot 10
  refine wpG_take preGr (i := 1) (v := ?_) (by kernel_rfl) (some 10) (by kernel_rfl) rfl (by kernel_rfl) (by kernel_rfl) (by kernel_rfl) (fun _ _ _ h => h) (by rfl) (fun w' hw' => ?_) rfl ?_
  rotate_left
  · have g4 := cell_gr (HBA.out.trans (((Gr.drew wq0).trans hw').mono HBA.out.size)) HQ2.out
    have g5 := cell_gr (HBA.out.trans (((Gr.drew wq0).trans hw').mono HBA.out.size)) HQ3.out
    go_simp
    with_reducible rfl
  simp only [Act.put, List.setIfInBounds_toArray, List.set_cons_zero, List.set_cons_succ]
  -- 2: slot 11
  refine wpG_take preGr (i := 2) (v := ?_) (by kernel_rfl) (some 11) (by kernel_rfl) rfl (by kernel_rfl) (by kernel_rfl) (by kernel_rfl) (fun _ _ _ h => h) (by rfl) (fun w' hw' => ?_) rfl ?_
  rotate_left
  · have g4 := cell_gr (HBA.out.trans (((Gr.drew wq0).trans hw').mono HBA.out.size)) HQ2.out
    have g5 := cell_gr (HBA.out.trans (((Gr.drew wq0).trans hw').mono HBA.out.size)) HQ3.out
    go_simp
    with_reducible rfl
  simp only [Act.put, List.setIfInBounds_toArray, List.set_cons_zero, List.set_cons_succ]
  -- 3: slot 12
  refine wpG_take preGr (i := 3) (v := ?_) (by kernel_rfl) (some 12) (by kernel_rfl) rfl (by kernel_rfl) (by kernel_rfl) (by kernel_rfl) (fun _ _ _ h => h) (by rfl) (fun w' hw' => ?_) rfl ?_
  rotate_left
  · have g4 := cell_gr (HBA.out.trans (((Gr.drew wq0).trans hw').mono HBA.out.size)) HQ2.out
    have g5 := cell_gr (HBA.out.trans (((Gr.drew wq0).trans hw').mono HBA.out.size)) HQ3.out
    go_simp
    with_reducible rfl
  simp only [Act.put, List.setIfInBounds_toArray, List.set_cons_zero, List.set_cons_succ]
  -- 4: slot 13
  refine wpG_take preGr (i := 4) (v := ?_) (by kernel_rfl) (some 13) (by kernel_rfl) rfl (by kernel_rfl) (by kernel_rfl) (by kernel_rfl) (fun _ _ _ h => h) (by rfl) (fun w' hw' => ?_) rfl ?_
  rotate_left
  · have g4 := cell_gr (HBA.out.trans (((Gr.drew wq0).trans hw').mono HBA.out.size)) HQ2.out
    have g5 := cell_gr (HBA.out.trans (((Gr.drew wq0).trans hw').mono HBA.out.size)) HQ3.out
    go_simp
    with_reducible rfl
  simp only [Act.put, List.setIfInBounds_toArray, List.set_cons_zero, List.set_cons_succ]
  -- 5: slot 14
  refine wpG_take preGr (i := 5) (v := ?_) (by kernel_rfl) (some 14) (by kernel_rfl) rfl (by kernel_rfl) (by kernel_rfl) (by kernel_rfl) (fun _ _ _ h => h) (by rfl) (fun w' hw' => ?_) rfl ?_
  rotate_left
  · have g4 := cell_gr (HBA.out.trans (((Gr.drew wq0).trans hw').mono HBA.out.size)) HQ2.out
    have g5 := cell_gr (HBA.out.trans (((Gr.drew wq0).trans hw').mono HBA.out.size)) HQ3.out
    go_simp
    with_reducible rfl
  simp only [Act.put, List.setIfInBounds_toArray, List.set_cons_zero, List.set_cons_succ]
  -- 6: slot 15
  refine wpG_take preGr (i := 6) (v := ?_) (by kernel_rfl) (some 15) (by kernel_rfl) rfl (by kernel_rfl) (by kernel_rfl) (by kernel_rfl) (fun _ _ _ h => h) (by rfl) (fun w' hw' => ?_) rfl ?_
  rotate_left
  · have g4 := cell_gr (HBA.out.trans (((Gr.drew wq0).trans hw').mono HBA.out.size)) HQ2.out
    have g5 := cell_gr (HBA.out.trans (((Gr.drew wq0).trans hw').mono HBA.out.size)) HQ3.out
    go_simp
    with_reducible rfl
  simp only [Act.put, List.setIfInBounds_toArray, List.set_cons_zero, List.set_cons_succ]
  -- 7: slot 16
  refine wpG_take preGr (i := 7) (v := ?_) (by kernel_rfl) (some 16) (by kernel_rfl) rfl (by kernel_rfl) (by kernel_rfl) (by kernel_rfl) (fun _ _ _ h => h) (by rfl) (fun w' hw' => ?_) rfl ?_
  rotate_left
  · have g4 := cell_gr (HBA.out.trans (((Gr.drew wq0).trans hw').mono HBA.out.size)) HQ2.out
    have g5 := cell_gr (HBA.out.trans (((Gr.drew wq0).trans hw').mono HBA.out.size)) HQ3.out
    go_simp
    with_reducible rfl
  simp only [Act.put, List.setIfInBounds_toArray, List.set_cons_zero, List.set_cons_succ]
  -- 8: slot 17
  refine wpG_take preGr (i := 8) (v := ?_) (by kernel_rfl) (some 17) (by kernel_rfl) rfl (by kernel_rfl) (by kernel_rfl) (by kernel_rfl) (fun _ _ _ h => h) (by rfl) (fun w' hw' => ?_) rfl ?_
  rotate_left
  · have g4 := cell_gr (HBA.out.trans (((Gr.drew wq0).trans hw').mono HBA.out.size)) HQ2.out
    have g5 := cell_gr (HBA.out.trans (((Gr.drew wq0).trans hw').mono HBA.out.size)) HQ3.out
    go_simp
    with_reducible rfl
  simp only [Act.put, List.setIfInBounds_toArray, List.set_cons_zero, List.set_cons_succ]
  -- 9: slot 18
  refine wpG_take preGr (i := 9) (v := ?_) (by kernel_rfl) (some 18) (by kernel_rfl) rfl (by kernel_rfl) (by kernel_rfl) (by kernel_rfl) (fun _ _ _ h => h) (by rfl) (fun w' hw' => ?_) rfl ?_
  rotate_left
  · have g4 := cell_gr (HBA.out.trans (((Gr.drew wq0).trans hw').mono HBA.out.size)) HQ2.out
    have g5 := cell_gr (HBA.out.trans (((Gr.drew wq0).trans hw').mono HBA.out.size)) HQ3.out
    go_simp
    with_reducible rfl
  simp only [Act.put, List.setIfInBounds_toArray, List.set_cons_zero, List.set_cons_succ]
  -- 10: slot 4
  refine wpG_take preGr (i := 10) (v := ?_) (by kernel_rfl) (some 4) (by kernel_rfl) rfl (by kernel_rfl) (by kernel_rfl) (by kernel_rfl) (fun _ _ _ h => h) (by rfl) (fun w' hw' => ?_) rfl ?_
  rotate_left
  · have g4 := cell_gr (HBA.out.trans (((Gr.drew wq0).trans hw').mono HBA.out.size)) HQ2.out
    have g5 := cell_gr (HBA.out.trans (((Gr.drew wq0).trans hw').mono HBA.out.size)) HQ3.out
    go_simp
    with_reducible rfl
  simp only [Act.put, List.setIfInBounds_toArray, List.set_cons_zero, List.set_cons_succ]
  refine wpG_done (by kernel_rfl) ?_ _
  rw [HZ23.out]
  have HBQ : Hid (Below w.heap.size w wq0.drew) := HBA.out.drew
  have HGQ : Hid (wq0.drew.heap[w.heap.size]? = some (.cells #[.int .i64 0, .int .i64 0, .slice none 0 0] 39 (0, 0))) := HG0.out
  generalize wq0.drew = wq at HBQ HGQ ⊢
  clear W2 W3 W4 W5 i2' i3'
  obtain ⟨k0, k1, k2⟩ := cells3 HGQ.out
  have f0 := frozen_of_row _ _ 0 _ _ HGQ.out
  have f1 := frozen_of_row _ _ 1 _ _ HGQ.out
  have f2 := frozen_of_row _ _ 2 _ _ HGQ.out
  by_cases hZ1 : Z < 4
  · have HP := Lib.hid (cdec_low H6.out (by rw [← HZ.out]; exact hZ1))
    go_wp2
    refine bodyPost_ret (v := .tuple #[.agg #[.int .i64 0, .int .i64 0, .slice none 0 0], .int .i64 71]) (results_cell_tmp_row (P := Try.prog) (fn := Try.f16) rfl _ _ w.heap.size 39 _ (0, 0) _ rfl (set3 HGQ.out _ _ _) Try.underlying39 rfl (by kernel_rfl)) rfl ?_
    exact CRes.none HP.out (((HBQ.out.setCell (Nat.le_refl _) _).setCell (Nat.le_refl _) _).setCell (Nat.le_refl _) _)
  by_cases hZ2 : n < Z
  · have HP := Lib.hid (cdec_less H6.out (by rw [← HZ.out]; exact hZ1) (by rw [← HZ.out, HN.out]; exact hZ2))
    go_wp2
    refine bodyPost_ret (v := .tuple #[.agg #[.int .i64 0, .int .i64 0, .slice none 0 0], .int .i64 71]) (results_cell_tmp_row (P := Try.prog) (fn := Try.f16) rfl _ _ w.heap.size 39 _ (0, 0) _ rfl (set3 HGQ.out _ _ _) Try.underlying39 rfl (by kernel_rfl)) rfl ?_
    exact CRes.none HP.out (((HBQ.out.setCell (Nat.le_refl _) _).setCell (Nat.le_refl _) _).setCell (Nat.le_refl _) _)
  have HP : Hid (cdec l = (⟨b0, b1, (l.drop 4).take (Z - 4)⟩, 0)) := by
    show _ = _
    rw [cdec_yes H6.out (by rw [← HZ.out]; exact hZ1) (by rw [← HZ.out, HN.out]; exact hZ2), HX0.out, HX1.out, HZ.out]
  obtain ⟨a7, hs7, hr7⟩ := slice_range (P := Try.prog) Try.underlying22 hi hz1 HR.out .i64 .i64 4 (Z : Int) 4 Z rfl rfl (by omega) (by omega)
  rw [drop_u8, take_u8] at hr7
  have HS7 : Hid (Rd w 1 (.slice a7 (Z - 4) (c - 4)) (Z - 4) (((l.drop 4).take (Z - 4)).map u8v)) := hr7
  have HL7 : Hid (((l.drop 4).take (Z - 4)).length = Z - 4) := by show _ = _; rw [List.length_take, List.length_drop, HN.out]; omega
  clear hr7 k0 k1 k2 f0 f1 f2
  go_wp2_with fail
  refine wp_region_G 16 (Below (w.heap.size)) (by kernel_rfl) ?_
  -- 0: slot 28
  refine wpG_take (preBelow (w.heap.size)) (i := 0) (v := ?_) (by kernel_rfl) (some 28) (by kernel_rfl) rfl (by kernel_rfl) (by kernel_rfl) (by kernel_rfl) (fun _ _ _ h => h) (by rfl) (fun w' hw' => ?_) rfl ?_
  rotate_left
  · try have g1 := cell_gr (HBQ.out.trans ((Below.drew (Below.refl w.heap.size wq)).trans hw')) HQ0.out
    try have g2 := cell_gr (HBQ.out.trans ((Below.drew (Below.refl w.heap.size wq)).trans hw')) HQ1.out
    go_simp
    with_reducible rfl
  simp only [Act.put, List.setIfInBounds_toArray, List.set_cons_zero, List.set_cons_succ]
  -- 1: slot 29
  refine wpG_take (preBelow (w.heap.size)) (i := 1) (v := ?_) (by kernel_rfl) (some 29) (by kernel_rfl) rfl (by kernel_rfl) (by kernel_rfl) (by kernel_rfl) (fun _ _ _ h => h) (by rfl) (fun w' hw' => ?_) rfl ?_
  rotate_left
  · try have g1 := cell_gr (HBQ.out.trans ((Below.drew (Below.refl w.heap.size wq)).trans hw')) HQ0.out
    try have g2 := cell_gr (HBQ.out.trans ((Below.drew (Below.refl w.heap.size wq)).trans hw')) HQ1.out
    go_simp
    with_reducible rfl
  simp only [Act.put, List.setIfInBounds_toArray, List.set_cons_zero, List.set_cons_succ]
  -- 2: slot 30
  refine wpG_take (preBelow (w.heap.size)) (i := 2) (v := ?_) (by kernel_rfl) (some 30) (by kernel_rfl) rfl (by kernel_rfl) (by kernel_rfl) (by kernel_rfl) (fun _ _ _ h => h) (by rfl) (fun w' hw' => ?_) rfl ?_
  rotate_left
  · try have g1 := cell_gr (HBQ.out.trans ((Below.drew (Below.refl w.heap.size wq)).trans hw')) HQ0.out
    try have g2 := cell_gr (HBQ.out.trans ((Below.drew (Below.refl w.heap.size wq)).trans hw')) HQ1.out
    go_simp
    with_reducible rfl
  simp only [Act.put, List.setIfInBounds_toArray, List.set_cons_zero, List.set_cons_succ]
  -- 3: slot 31
  refine wpG_take (preBelow (w.heap.size)) (i := 3) (v := ?_) (by kernel_rfl) (some 31) (by kernel_rfl) rfl (by kernel_rfl) (by kernel_rfl) (by kernel_rfl) (fun _ _ _ h => h) (by rfl) (fun w' hw' => ?_) rfl ?_
  rotate_left
  · try have g1 := cell_gr (HBQ.out.trans ((Below.drew (Below.refl w.heap.size wq)).trans hw')) HQ0.out
    try have g2 := cell_gr (HBQ.out.trans ((Below.drew (Below.refl w.heap.size wq)).trans hw')) HQ1.out
    go_simp
    with_reducible rfl
  simp only [Act.put, List.setIfInBounds_toArray, List.set_cons_zero, List.set_cons_succ]
  -- 4: slot 32
  refine wpG_take (preBelow (w.heap.size)) (i := 4) (v := ?_) (by kernel_rfl) (some 32) (by kernel_rfl) rfl (by kernel_rfl) (by kernel_rfl) (by kernel_rfl) (fun _ _ _ h => h) (by rfl) (fun w' hw' => ?_) rfl ?_
  rotate_left
  · try have g1 := cell_gr (HBQ.out.trans ((Below.drew (Below.refl w.heap.size wq)).trans hw')) HQ0.out
    try have g2 := cell_gr (HBQ.out.trans ((Below.drew (Below.refl w.heap.size wq)).trans hw')) HQ1.out
    go_simp
    with_reducible rfl
  simp only [Act.put, List.setIfInBounds_toArray, List.set_cons_zero, List.set_cons_succ]
  -- 5: slot 33
  refine wpG_take (preBelow (w.heap.size)) (i := 5) (v := ?_) (by kernel_rfl) (some 33) (by kernel_rfl) rfl (by kernel_rfl) (by kernel_rfl) (by kernel_rfl) (fun _ _ _ h => h) (by rfl) (fun w' hw' => ?_) rfl ?_
  rotate_left
  · try have g1 := cell_gr (HBQ.out.trans ((Below.drew (Below.refl w.heap.size wq)).trans hw')) HQ0.out
    try have g2 := cell_gr (HBQ.out.trans ((Below.drew (Below.refl w.heap.size wq)).trans hw')) HQ1.out
    go_simp
    with_reducible rfl
  simp only [Act.put, List.setIfInBounds_toArray, List.set_cons_zero, List.set_cons_succ]
  -- 6: slot 34
  refine wpG_take (preBelow (w.heap.size)) (i := 6) (v := ?_) (by kernel_rfl) (some 34) (by kernel_rfl) rfl (by kernel_rfl) (by kernel_rfl) (by kernel_rfl) (fun _ _ _ h => h) (by rfl) (fun w' hw' => ?_) rfl ?_
  rotate_left
  · try have g1 := cell_gr (HBQ.out.trans ((Below.drew (Below.refl w.heap.size wq)).trans hw')) HQ0.out
    try have g2 := cell_gr (HBQ.out.trans ((Below.drew (Below.refl w.heap.size wq)).trans hw')) HQ1.out
    go_simp
    with_reducible rfl
  simp only [Act.put, List.setIfInBounds_toArray, List.set_cons_zero, List.set_cons_succ]
  -- 7: slot 35
  refine wpG_take (preBelow (w.heap.size)) (i := 7) (v := ?_) (by kernel_rfl) (some 35) (by kernel_rfl) rfl (by kernel_rfl) (by kernel_rfl) (by kernel_rfl) (fun _ _ _ h => h) (by rfl) (fun w' hw' => ?_) rfl ?_
  rotate_left
  · try have g1 := cell_gr (HBQ.out.trans ((Below.drew (Below.refl w.heap.size wq)).trans hw')) HQ0.out
    try have g2 := cell_gr (HBQ.out.trans ((Below.drew (Below.refl w.heap.size wq)).trans hw')) HQ1.out
    go_simp
    with_reducible rfl
  simp only [Act.put, List.setIfInBounds_toArray, List.set_cons_zero, List.set_cons_succ]
  -- 9: slot 37
  refine wpG_take (preBelow (w.heap.size)) (i := 9) (v := ?_) (by kernel_rfl) (some 37) (by kernel_rfl) rfl (by kernel_rfl) (by kernel_rfl) (by kernel_rfl) (fun _ _ _ h => h) (by rfl) (fun w' hw' => ?_) rfl ?_
  rotate_left
  · try have g1 := cell_gr (HBQ.out.trans ((Below.drew (Below.refl w.heap.size wq)).trans hw')) HQ0.out
    try have g2 := cell_gr (HBQ.out.trans ((Below.drew (Below.refl w.heap.size wq)).trans hw')) HQ1.out
    go_simp
    with_reducible rfl
  simp only [Act.put, List.setIfInBounds_toArray, List.set_cons_zero, List.set_cons_succ]
  -- 10: slot 38
  refine wpG_take (preBelow (w.heap.size)) (i := 10) (v := ?_) (by kernel_rfl) (some 38) (by kernel_rfl) rfl (by kernel_rfl) (by kernel_rfl) (by kernel_rfl) (fun _ _ _ h => h) (by rfl) (fun w' hw' => ?_) rfl ?_
  rotate_left
  · try have g1 := cell_gr (HBQ.out.trans ((Below.drew (Below.refl w.heap.size wq)).trans hw')) HQ0.out
    try have g2 := cell_gr (HBQ.out.trans ((Below.drew (Below.refl w.heap.size wq)).trans hw')) HQ1.out
    go_simp
    with_reducible rfl
  simp only [Act.put, List.setIfInBounds_toArray, List.set_cons_zero, List.set_cons_succ]
  -- 11: slot 39
  refine wpG_take (preBelow (w.heap.size)) (i := 11) (v := ?_) (by kernel_rfl) (some 39) (by kernel_rfl) rfl (by kernel_rfl) (by kernel_rfl) (by kernel_rfl) (fun _ _ _ h => h) (by rfl) (fun w' hw' => ?_) rfl ?_
  rotate_left
  · try have g1 := cell_gr (HBQ.out.trans ((Below.drew (Below.refl w.heap.size wq)).trans hw')) HQ0.out
    try have g2 := cell_gr (HBQ.out.trans ((Below.drew (Below.refl w.heap.size wq)).trans hw')) HQ1.out
    go_simp
    with_reducible rfl
  simp only [Act.put, List.setIfInBounds_toArray, List.set_cons_zero, List.set_cons_succ]
  refine wpG_one (i := 8) rfl (by kernel_rfl) (by rfl) ?_
  go_simp
  have hb14 : Below w.heap.size wq.drew (wq.drew.alloc (.cells #[] 5)) := (Below.refl _ _).alloc HBQ.out.drew.size _
  refine ⟨hb14, ?_⟩
  have HBE := Lib.hid (HBQ.out.drew.trans hb14)
  have HGE : Hid ((wq.drew.alloc (.cells #[] 5)).heap[w.heap.size]? = some (.cells #[.int .i64 0, .int .i64 0, .slice none 0 0] 39 (0, 0))) := heap_below HGQ.out ((Gr.drew wq).trans ((Below.refl _ _).alloc (Nat.le_refl _) _))
  have hsz : w.heap.size + 1 ≤ wq.drew.heap.size := (Array.getElem?_eq_some_iff.1 HGQ.out).1
  have HSZ := Lib.hid hsz
  have HOE : Hid ((wq.drew.alloc (.cells #[] 5)).ownsRow (w.heap.size + 1) 5 1 (.slice (some ⟨wq.drew.heap.size, 0, none⟩) 0 0) 0 []) := ownsRow_mono (own_new wq.drew [] 5 0 1 rfl (Nat.zero_le _)) hsz
  have HRE : Hid (Rd (wq.drew.alloc (.cells #[] 5)) 1 (.slice a7 (Z - 4) (c - 4)) (Z - 4) (((l.drop 4).take (Z - 4)).map u8v)) := HS7.out.below HBE.out
  clear hb14 hsz
  try simp only [Act.put, List.setIfInBounds_toArray, List.set_cons_zero, List.set_cons_succ]
  refine wpG_one (i := 12) rfl (by kernel_rfl) (by rfl) ?_
  refine wp_append_gr _ (some 40) (.tmp 36) (.tmp 39) 22 rfl (w.heap.size + 1) 5 i0 (.int .u8 0) 1 1 Try.underlying22 hi hz0 hz1 hz2 rfl (by decide) _ _ _ rfl HOE.out _ _ _ rfl HRE.out (oneCell_u8 _) ?q1 (by decide) ?q2 rfl ?_
  case q1 => omega
  case q2 => have h := HSZ.out; show _ ≤ (wq.alloc _).heap.size; rw [World.size_alloc]; exact Nat.le_succ_of_le h
  intro v4 w4 hown4 hg4
  have hb4 : Below (w.heap.size + 1) _ w4 := grown_below HOE.out (by have h := HSZ.out; show _ ≤ (wq.alloc _).heap.size; rw [World.size_alloc]; exact Nat.le_succ_of_le h) hg4
  refine ⟨hb4.mono (Nat.le_succ _), ?_⟩
  have HB4 := Lib.hid (HBE.out.trans (hb4.mono (Nat.le_succ _)))
  have HG4 := Lib.hid (grown_heap HOE.out hg4 HGE.out (by decide))
  have HOV : Hid (OwnB w4 (w.heap.size + 1) 5 v4 ((l.drop 4).take (Z - 4))) := by
    show OwnB _ _ _ _ _
    unfold OwnB
    rw [HL7.out]
    simpa using hown4
  obtain ⟨A4, L4, C4, ev, hL4, _, _⟩ := HOV.out.bs.sl
  rw [HL7.out] at hL4
  subst hL4 ev
  clear hown4 hg4 hb4
  try simp only [Act.put, List.setIfInBounds_toArray, List.set_cons_zero, List.set_cons_succ]
  -- 13: slot 41
  refine wpG_take (preBelow (w.heap.size)) (i := 13) (v := ?_) (by kernel_rfl) (some 41) (by kernel_rfl) rfl (by kernel_rfl) (by kernel_rfl) (by kernel_rfl) (fun _ _ _ h => h) (by rfl) (fun w' hw' => ?_) rfl ?_
  rotate_left
  · refine Eq.trans (build_run (P := Try.prog) 39 [(0, .tmp 31), (1, .tmp 35), (2, .tmp 40)] ?_ #[.int .i64 (b0 : Int), .int .i64 (b1 : Int), .slice A4 (Z - 4) C4] ?_) ?_
    · rfl
    · exact builtC (b0 : Int) (b1 : Int) A4 (Z - 4) C4
    · with_reducible rfl
  simp only [Act.put, List.setIfInBounds_toArray, List.set_cons_zero, List.set_cons_succ]
  refine wpG_one (i := 14) rfl (by kernel_rfl) (by rfl) ?_
  refine wp_store_whole (none) 39 (.tmp 2) (.tmp 41) rfl w.heap.size [.int .i64 (b0 : Int), .int .i64 (b1 : Int), .slice A4 (Z - 4) C4] rfl rfl 39 [.int .i64 0, .int .i64 0, .slice none 0 0] HG4.out (by kernel_rfl) rfl ?o1 rfl ?_
  case o1 => intro u hu; simp only [List.mem_cons, List.not_mem_nil, or_false] at hu; rcases hu with rfl | rfl | rfl <;> rfl
  intro w5 h5 ho5
  refine ⟨ho5.below _ _ (Nat.le_refl _) (Below.refl _ _), ?_⟩
  have H5 := Lib.hid h5
  have HB5 := Lib.hid (ho5.below _ _ (Nat.le_refl _) HB4.out)
  have HO5 : Hid (OwnB w5 w.heap.size 5 (.slice A4 (Z - 4) C4) ((l.drop 4).take (Z - 4))) := (HOV.out.only ho5 (Nat.lt_succ_self _)).mono (Nat.le_succ _)
  clear h5 ho5
  try simp only [Act.put, List.setIfInBounds_toArray, List.set_cons_zero, List.set_cons_succ]
  -- 15: slot 3
  refine wpG_take (preBelow (w.heap.size)) (i := 15) (v := ?_) (by kernel_rfl) (some 3) (by kernel_rfl) rfl (by kernel_rfl) (by kernel_rfl) (by kernel_rfl) (fun _ _ _ h => h) (by rfl) (fun w' hw' => ?_) rfl ?_
  rotate_left
  · try have g1 := cell_gr (HBQ.out.trans ((Below.drew (Below.refl w.heap.size wq)).trans hw')) HQ0.out
    try have g2 := cell_gr (HBQ.out.trans ((Below.drew (Below.refl w.heap.size wq)).trans hw')) HQ1.out
    go_simp
    with_reducible rfl
  simp only [Act.put, List.setIfInBounds_toArray, List.set_cons_zero, List.set_cons_succ]
  refine wpG_done (by kernel_rfl) ?_ _
  go_wp2
  refine bodyPost_ret (v := .tuple #[.agg #[.int .i64 b0, .int .i64 b1, .slice A4 (Z - 4) C4], .int .i64 0]) (results_cell_tmp_row (P := Try.prog) (fn := Try.f16) rfl _ _ w.heap.size 39 _ (0, 0) _ rfl H5.out Try.underlying39 rfl (by kernel_rfl)) rfl ?_
  exact CRes.some HP.out HO5.out HB5.out
end Go.Proofs.Ythllhdcdiidfpaa
