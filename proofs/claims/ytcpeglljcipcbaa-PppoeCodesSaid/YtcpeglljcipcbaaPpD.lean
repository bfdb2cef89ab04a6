/-
  The document's Decode, whatever bytes come.
-/
import Derived.Test.YtcpeglljcipcbaaPpC
namespace Go.Proofs.Ytcpeglljcipcbaa
open Go.RowKit
set_option linter.unusedVariables false
set_option linter.unusedSimpArgs false

set_option maxRecDepth 20000 in
set_option maxHeartbeats 4000000 in
theorem rpdecode_any (a : Option Addr) (n c : Nat) (l : List UInt8) (hn : l.length = n) (w : World) (hb : Bs w (.slice a n c) l) (hr : n ≤ 1000000) :
    Calls Try.prog 13 #[.slice a n c] w (PRes (pdec l) w) := by
  obtain ⟨i0, hi, hz0, hz1, hz2⟩ := info_parts info5
  have BA : Below w.heap.size w (w.alloc (.cells #[.int .i64 0, .int .i64 0, .slice none 0 0] 24)) := (Below.refl _ _).alloc (Nat.le_refl _) _
  have HBA := Lib.hid BA
  have HN := Lib.hid hn
  clear BA
  by_cases h6 : n < 6
  · have HP := Lib.hid (pdec_short (l := l) (by omega))
    clear hn hb
    go_enter Try.func13, Try.ntmps13
    go_wp2
    refine bodyPost_ret (v := .tuple #[.agg #[.int .i64 0, .int .i64 0, .slice none 0 0], .int .i64 6]) (results_cell_tmp_row (P := Try.prog) (fn := Try.f13) rfl _ _ w.heap.size 24 _ (0, 0) _ rfl (heap_alloc_last w (.cells #[.int .i64 0, .int .i64 0, .slice none 0 0] 24)) Try.underlying24 rfl (by kernel_rfl)) rfl ?_
    exact PRes.none HP.out HBA.out
  obtain ⟨b, o, rfl, hbl, hcell⟩ := hb.cells (by omega)
  have hT0 : w.cell? ⟨b, o, none⟩ = some (.int .u8 (bN l 0 : Nat)) := by
    have := hcell 0 (by omega)
    rw [bN_get l 0 (by omega)]
    exact this
  have hk : ∀ j, j < n → w.cell? ⟨b, o + j, none⟩ = some (.int .u8 (bN l j : Nat)) := fun j hj => by
    rw [bN_get l j (by omega)]
    exact hcell j (by omega)
  have hb1 : Rd w 1 (.slice (some ⟨b, o, none⟩) n c) n (l.map u8v) := by
    have := hb
    unfold Bs at this
    rw [hn] at this
    exact this
  obtain ⟨T, hT⟩ : ∃ T, T = bN l 0 := ⟨_, rfl⟩
  obtain ⟨X, hX⟩ : ∃ X, X = bN l 1 := ⟨_, rfl⟩
  obtain ⟨Y, hY⟩ : ∃ Y, Y = pS l := ⟨_, rfl⟩
  obtain ⟨Z, hZ⟩ : ∃ Z, Z = pN l := ⟨_, rfl⟩
  rw [← hT] at hT0
  have HT := Lib.hid hT
  have HX := Lib.hid hX
  have HY := Lib.hid hY
  have HZ := Lib.hid hZ
  have HK := Lib.hid hk
  have HR := Lib.hid hb1
  have h6' : ¬ l.length < 6 := by omega
  have H6 := Lib.hid h6'
  have HG0 : Hid ((w.alloc (.cells #[.int .i64 0, .int .i64 0, .slice none 0 0] 24)).heap[w.heap.size]? = some (.cells #[.int .i64 0, .int .i64 0, .slice none 0 0] 24 (0, 0))) := heap_alloc_last _ _
  have kT := cell_gr HBA.out hT0
  by_cases h17 : T ≠ 17
  · have HP := Lib.hid (pdec_other H6.out (by rw [← HT.out]; exact h17))
    clear hn hb hb1 hcell hT0 hT hX hY hZ h6' hk
    go_enter Try.func13, Try.ntmps13
    go_wp2
    refine bodyPost_ret (v := .tuple #[.agg #[.int .i64 0, .int .i64 0, .slice none 0 0], .int .i64 60]) (results_cell_tmp_row (P := Try.prog) (fn := Try.f13) rfl _ _ w.heap.size 24 _ (0, 0) _ rfl HG0.out Try.underlying24 rfl (by kernel_rfl)) rfl ?_
    exact PRes.none HP.out HBA.out
  have HT17 : Hid (bN l 0 = 17) := by show _ = _; rw [← HT.out]; omega
  have HC : ∀ j, j < n → Hid (w.cell? ⟨b, o + j, none⟩ = some (.int .u8 (bN l j : Nat))) := fun j hj => hk j hj
  obtain ⟨b1, hb1'⟩ : ∃ x, x = bN l 1 := ⟨_, rfl⟩
  obtain ⟨b2, hb2⟩ : ∃ x, x = bN l 2 := ⟨_, rfl⟩
  obtain ⟨b3, hb3⟩ : ∃ x, x = bN l 3 := ⟨_, rfl⟩
  obtain ⟨b4, hb4⟩ : ∃ x, x = bN l 4 := ⟨_, rfl⟩
  obtain ⟨b5, hb5⟩ : ∃ x, x = bN l 5 := ⟨_, rfl⟩
  have HQ1 := HC 1 (by omega)
  have HQ2 := HC 2 (by omega)
  have HQ3 := HC 3 (by omega)
  have HQ4 := HC 4 (by omega)
  have HQ5 := HC 5 (by omega)
  rw [← hb1'] at HQ1
  rw [← hb2] at HQ2
  rw [← hb3] at HQ3
  rw [← hb4] at HQ4
  rw [← hb5] at HQ5
  have l1 : b1 < 256 := by rw [hb1']; exact bN_lt _ _
  have l2 : b2 < 256 := by rw [hb2]; exact bN_lt _ _
  have l3 : b3 < 256 := by rw [hb3]; exact bN_lt _ _
  have l4 : b4 < 256 := by rw [hb4]; exact bN_lt _ _
  have l5 : b5 < 256 := by rw [hb5]; exact bN_lt _ _
  have hY23 : (256 : Int) * (b2 : Int) + (b3 : Int) = (Y : Int) := by rw [hY, hb2, hb3]; unfold pS; omega
  have hZ45 : (256 : Int) * (b4 : Int) + (b5 : Int) = (Z : Int) := by rw [hZ, hb4, hb5]; unfold pN; omega
  have hX1 : b1 = X := by rw [hX, hb1']
  have HY23 := Lib.hid hY23
  have HZ45 := Lib.hid hZ45
  have W1 : IntKind.i64.wrap (b1 : Int) = (b1 : Int) := IntWalk.i64_in _ (by omega)
  have W2 : IntKind.i64.wrap (b2 : Int) = (b2 : Int) := IntWalk.i64_in _ (by omega)
  have W3 : IntKind.i64.wrap (b3 : Int) = (b3 : Int) := IntWalk.i64_in _ (by omega)
  have W4 : IntKind.i64.wrap (b4 : Int) = (b4 : Int) := IntWalk.i64_in _ (by omega)
  have W5 : IntKind.i64.wrap (b5 : Int) = (b5 : Int) := IntWalk.i64_in _ (by omega)
  have W6 : IntKind.i64.wrap (256 * (b2 : Int)) = 256 * (b2 : Int) := IntWalk.i64_in _ (by omega)
  have W7 : IntKind.i64.wrap (256 * (b4 : Int)) = 256 * (b4 : Int) := IntWalk.i64_in _ (by omega)
  have W8 : IntKind.i64.wrap (256 * (b2 : Int) + (b3 : Int)) = 256 * (b2 : Int) + (b3 : Int) := IntWalk.i64_in _ (by omega)
  have W9 : IntKind.i64.wrap (256 * (b4 : Int) + (b5 : Int)) = 256 * (b4 : Int) + (b5 : Int) := IntWalk.i64_in _ (by omega)
  have WS2 := Lib.hid W2
  have WS6 := Lib.hid W6
  have i1' : (1 : Int) < (n : Int) := by omega
  have i2' : (2 : Int) < (n : Int) := by omega
  have i3' : (3 : Int) < (n : Int) := by omega
  have i4' : (4 : Int) < (n : Int) := by omega
  have i5' : (5 : Int) < (n : Int) := by omega
  have hZ16 : Z < 65536 := by omega
  have hY16 : Y < 65536 := by omega
  obtain ⟨wq0, hwq0⟩ : ∃ x, x = w.alloc (.cells #[.int .i64 0, .int .i64 0, .slice none 0 0] 24) := ⟨_, rfl⟩
  clear hn hb hb1 hcell hT0 hT hX hY hZ h6' hk HC hb1' hb2 hb3 hb4 hb5 hY23 hZ45
  go_enter Try.func13, Try.ntmps13
  go_wp2_with fail
  rw [← hwq0] at HBA HG0 ⊢
  clear hwq0 kT
  refine wp_region_G 11 Gr (by kernel_rfl) ?_
  -- 0: slot 14
  refine wpG_take preGr (i := 0) (v := ?_) (by kernel_rfl) (some 14) (by kernel_rfl) rfl (by kernel_rfl) (by kernel_rfl) (by kernel_rfl) (fun _ _ _ h => h) (by rfl) (fun w' hw' => ?_) rfl ?_
  rotate_left
  · have g4 := cell_gr (HBA.out.trans (((Gr.drew wq0).trans hw').mono HBA.out.size)) HQ4.out
    have g5 := cell_gr (HBA.out.trans (((Gr.drew wq0).trans hw').mono HBA.out.size)) HQ5.out
    go_simp
    with_reducible rfl
  simp only [Act.put, List.setIfInBounds_toArray, List.set_cons_zero, List.set_cons_succ]
  -- 1: slot 15
  refine wpG_take preGr (i := 1) (v := ?_) (by kernel_rfl) (some 15) (by kernel_rfl) rfl (by kernel_rfl) (by kernel_rfl) (by kernel_rfl) (fun _ _ _ h => h) (by rfl) (fun w' hw' => ?_) rfl ?_
  rotate_left
  · have g4 := cell_gr (HBA.out.trans (((Gr.drew wq0).trans hw').mono HBA.out.size)) HQ4.out
    have g5 := cell_gr (HBA.out.trans (((Gr.drew wq0).trans hw').mono HBA.out.size)) HQ5.out
    go_simp
    with_reducible rfl
  simp only [Act.put, List.setIfInBounds_toArray, List.set_cons_zero, List.set_cons_succ]
  -- 2: slot 16
  refine wpG_take preGr (i := 2) (v := ?_) (by kernel_rfl) (some 16) (by kernel_rfl) rfl (by kernel_rfl) (by kernel_rfl) (by kernel_rfl) (fun _ _ _ h => h) (by rfl) (fun w' hw' => ?_) rfl ?_
  rotate_left
  · have g4 := cell_gr (HBA.out.trans (((Gr.drew wq0).trans hw').mono HBA.out.size)) HQ4.out
    have g5 := cell_gr (HBA.out.trans (((Gr.drew wq0).trans hw').mono HBA.out.size)) HQ5.out
    go_simp
    with_reducible rfl
  simp only [Act.put, List.setIfInBounds_toArray, List.set_cons_zero, List.set_cons_succ]
  -- 3: slot 17
  refine wpG_take preGr (i := 3) (v := ?_) (by kernel_rfl) (some 17) (by kernel_rfl) rfl (by kernel_rfl) (by kernel_rfl) (by kernel_rfl) (fun _ _ _ h => h) (by rfl) (fun w' hw' => ?_) rfl ?_
  rotate_left
  · have g4 := cell_gr (HBA.out.trans (((Gr.drew wq0).trans hw').mono HBA.out.size)) HQ4.out
    have g5 := cell_gr (HBA.out.trans (((Gr.drew wq0).trans hw').mono HBA.out.size)) HQ5.out
    go_simp
    with_reducible rfl
  simp only [Act.put, List.setIfInBounds_toArray, List.set_cons_zero, List.set_cons_succ]
  -- 4: slot 18
  refine wpG_take preGr (i := 4) (v := ?_) (by kernel_rfl) (some 18) (by kernel_rfl) rfl (by kernel_rfl) (by kernel_rfl) (by kernel_rfl) (fun _ _ _ h => h) (by rfl) (fun w' hw' => ?_) rfl ?_
  rotate_left
  · have g4 := cell_gr (HBA.out.trans (((Gr.drew wq0).trans hw').mono HBA.out.size)) HQ4.out
    have g5 := cell_gr (HBA.out.trans (((Gr.drew wq0).trans hw').mono HBA.out.size)) HQ5.out
    go_simp
    with_reducible rfl
  simp only [Act.put, List.setIfInBounds_toArray, List.set_cons_zero, List.set_cons_succ]
  -- 5: slot 19
  refine wpG_take preGr (i := 5) (v := ?_) (by kernel_rfl) (some 19) (by kernel_rfl) rfl (by kernel_rfl) (by kernel_rfl) (by kernel_rfl) (fun _ _ _ h => h) (by rfl) (fun w' hw' => ?_) rfl ?_
  rotate_left
  · have g4 := cell_gr (HBA.out.trans (((Gr.drew wq0).trans hw').mono HBA.out.size)) HQ4.out
    have g5 := cell_gr (HBA.out.trans (((Gr.drew wq0).trans hw').mono HBA.out.size)) HQ5.out
    go_simp
    with_reducible rfl
  simp only [Act.put, List.setIfInBounds_toArray, List.set_cons_zero, List.set_cons_succ]
  -- 6: slot 20
  refine wpG_take preGr (i := 6) (v := ?_) (by kernel_rfl) (some 20) (by kernel_rfl) rfl (by kernel_rfl) (by kernel_rfl) (by kernel_rfl) (fun _ _ _ h => h) (by rfl) (fun w' hw' => ?_) rfl ?_
  rotate_left
  · have g4 := cell_gr (HBA.out.trans (((Gr.drew wq0).trans hw').mono HBA.out.size)) HQ4.out
    have g5 := cell_gr (HBA.out.trans (((Gr.drew wq0).trans hw').mono HBA.out.size)) HQ5.out
    go_simp
    with_reducible rfl
  simp only [Act.put, List.setIfInBounds_toArray, List.set_cons_zero, List.set_cons_succ]
  -- 7: slot 21
  refine wpG_take preGr (i := 7) (v := ?_) (by kernel_rfl) (some 21) (by kernel_rfl) rfl (by kernel_rfl) (by kernel_rfl) (by kernel_rfl) (fun _ _ _ h => h) (by rfl) (fun w' hw' => ?_) rfl ?_
  rotate_left
  · have g4 := cell_gr (HBA.out.trans (((Gr.drew wq0).trans hw').mono HBA.out.size)) HQ4.out
    have g5 := cell_gr (HBA.out.trans (((Gr.drew wq0).trans hw').mono HBA.out.size)) HQ5.out
    go_simp
    with_reducible rfl
  simp only [Act.put, List.setIfInBounds_toArray, List.set_cons_zero, List.set_cons_succ]
  -- 8: slot 22
  refine wpG_take preGr (i := 8) (v := ?_) (by kernel_rfl) (some 22) (by kernel_rfl) rfl (by kernel_rfl) (by kernel_rfl) (by kernel_rfl) (fun _ _ _ h => h) (by rfl) (fun w' hw' => ?_) rfl ?_
  rotate_left
  · have g4 := cell_gr (HBA.out.trans (((Gr.drew wq0).trans hw').mono HBA.out.size)) HQ4.out
    have g5 := cell_gr (HBA.out.trans (((Gr.drew wq0).trans hw').mono HBA.out.size)) HQ5.out
    go_simp
    with_reducible rfl
  simp only [Act.put, List.setIfInBounds_toArray, List.set_cons_zero, List.set_cons_succ]
  -- 9: slot 23
  refine wpG_take preGr (i := 9) (v := ?_) (by kernel_rfl) (some 23) (by kernel_rfl) rfl (by kernel_rfl) (by kernel_rfl) (by kernel_rfl) (fun _ _ _ h => h) (by rfl) (fun w' hw' => ?_) rfl ?_
  rotate_left
  · have g4 := cell_gr (HBA.out.trans (((Gr.drew wq0).trans hw').mono HBA.out.size)) HQ4.out
    have g5 := cell_gr (HBA.out.trans (((Gr.drew wq0).trans hw').mono HBA.out.size)) HQ5.out
    go_simp
    with_reducible rfl
  simp only [Act.put, List.setIfInBounds_toArray, List.set_cons_zero, List.set_cons_succ]
  -- 10: slot 4
  refine wpG_take preGr (i := 10) (v := ?_) (by kernel_rfl) (some 4) (by kernel_rfl) rfl (by kernel_rfl) (by kernel_rfl) (by kernel_rfl) (fun _ _ _ h => h) (by rfl) (fun w' hw' => ?_) rfl ?_
  rotate_left
  · have g4 := cell_gr (HBA.out.trans (((Gr.drew wq0).trans hw').mono HBA.out.size)) HQ4.out
    have g5 := cell_gr (HBA.out.trans (((Gr.drew wq0).trans hw').mono HBA.out.size)) HQ5.out
    go_simp
    with_reducible rfl
  simp only [Act.put, List.setIfInBounds_toArray, List.set_cons_zero, List.set_cons_succ]
  refine wpG_done (by kernel_rfl) ?_ _
  rw [HZ45.out]
  have HBQ : Hid (Below w.heap.size w wq0.drew) := HBA.out.drew
  have HGQ : Hid (wq0.drew.heap[w.heap.size]? = some (.cells #[.int .i64 0, .int .i64 0, .slice none 0 0] 24 (0, 0))) := HG0.out
  generalize wq0.drew = wq at HBQ HGQ ⊢
  have hcast : ((n - 6 : Nat) : Int) = (n : Int) - 6 := by omega
  obtain ⟨k0, k1, k2⟩ := cells3 HGQ.out
  have f0 := frozen_of_row _ _ 0 _ _ HGQ.out
  have f1 := frozen_of_row _ _ 1 _ _ HGQ.out
  have f2 := frozen_of_row _ _ 2 _ _ HGQ.out
  by_cases hZ1 : 1494 < Z
  · have HP := Lib.hid (pdec_long H6.out HT17.out (by rw [← HZ.out]; exact hZ1))
    go_wp2
    refine bodyPost_ret (v := .tuple #[.agg #[.int .i64 0, .int .i64 0, .slice none 0 0], .int .i64 2]) (results_cell_tmp_row (P := Try.prog) (fn := Try.f13) rfl _ _ w.heap.size 24 _ (0, 0) _ rfl (set3 HGQ.out _ _ _) Try.underlying24 rfl (by kernel_rfl)) rfl ?_
    exact PRes.none HP.out (((HBQ.out.setCell (Nat.le_refl _) _).setCell (Nat.le_refl _) _).setCell (Nat.le_refl _) _)
  by_cases hZ2 : n - 6 < Z
  · have HP := Lib.hid (pdec_less H6.out HT17.out (by rw [← HZ.out]; exact hZ1) (by rw [← HZ.out, HN.out]; omega))
    go_wp2
    refine bodyPost_ret (v := .tuple #[.agg #[.int .i64 0, .int .i64 0, .slice none 0 0], .int .i64 6]) (results_cell_tmp_row (P := Try.prog) (fn := Try.f13) rfl _ _ w.heap.size 24 _ (0, 0) _ rfl (set3 HGQ.out _ _ _) Try.underlying24 rfl (by kernel_rfl)) rfl ?_
    exact PRes.none HP.out (((HBQ.out.setCell (Nat.le_refl _) _).setCell (Nat.le_refl _) _).setCell (Nat.le_refl _) _)
  have HP : Hid (pdec l = (⟨X, Y, (l.drop 6).take Z⟩, 0)) := by
    show _ = _
    rw [pdec_yes H6.out HT17.out (by rw [← HZ.out]; exact hZ1) (by rw [← HZ.out, HN.out]; omega), ← HX.out, ← HY.out, ← HZ.out]
  obtain ⟨Z6, hZ6⟩ : ∃ Z6 : Nat, (6 : Int) + (Z : Int) = (Z6 : Int) := ⟨6 + Z, by omega⟩
  have W10 : IntKind.i64.wrap (6 + (Z : Int)) = (Z6 : Int) := by rw [hZ6]; exact IntWalk.i64_in _ (by omega)
  have W11 : IntKind.i64.wrap (Z6 : Int) = (Z6 : Int) := IntWalk.i64_in _ (by omega)
  obtain ⟨a7, hs7, hr7⟩ := slice_range (P := Try.prog) Try.underlying22 hi hz1 HR.out .i64 .i64 6 (Z6 : Int) 6 Z6 rfl rfl (by omega) (by omega)
  have e7 : Z6 - 6 = Z := by omega
  rw [e7] at hs7 hr7
  rw [drop_u8, take_u8] at hr7
  have HS7 : Hid (Rd w 1 (.slice a7 Z (c - 6)) Z (((l.drop 6).take Z).map u8v)) := hr7
  have hl7 : ((l.drop 6).take Z).length = Z := by rw [List.length_take, List.length_drop, HN.out]; omega
  have HL7 := Lib.hid hl7
  subst hX1
  clear hr7 hl7 k0 k1 k2 f0 f1 f2 hcast
  have WS8 := HY23.out
  rw [← W8] at WS8
  clear W8 W9 W7
  go_wp2_with fail
  refine wp_region_G 23 (Below (w.heap.size)) (by kernel_rfl) ?_
  -- 0: slot 33
  refine wpG_take (preBelow (w.heap.size)) (i := 0) (v := ?_) (by kernel_rfl) (some 33) (by kernel_rfl) rfl (by kernel_rfl) (by kernel_rfl) (by kernel_rfl) (fun _ _ _ h => h) (by rfl) (fun w' hw' => ?_) rfl ?_
  rotate_left
  · try have g1 := cell_gr (HBQ.out.trans ((Below.drew (Below.refl w.heap.size wq)).trans hw')) HQ1.out
    try have g2 := cell_gr (HBQ.out.trans ((Below.drew (Below.refl w.heap.size wq)).trans hw')) HQ2.out
    try have g3 := cell_gr (HBQ.out.trans ((Below.drew (Below.refl w.heap.size wq)).trans hw')) HQ3.out
    go_simp
    with_reducible rfl
  simp only [Act.put, List.setIfInBounds_toArray, List.set_cons_zero, List.set_cons_succ]
  -- 1: slot 34
  refine wpG_take (preBelow (w.heap.size)) (i := 1) (v := ?_) (by kernel_rfl) (some 34) (by kernel_rfl) rfl (by kernel_rfl) (by kernel_rfl) (by kernel_rfl) (fun _ _ _ h => h) (by rfl) (fun w' hw' => ?_) rfl ?_
  rotate_left
  · try have g1 := cell_gr (HBQ.out.trans ((Below.drew (Below.refl w.heap.size wq)).trans hw')) HQ1.out
    try have g2 := cell_gr (HBQ.out.trans ((Below.drew (Below.refl w.heap.size wq)).trans hw')) HQ2.out
    try have g3 := cell_gr (HBQ.out.trans ((Below.drew (Below.refl w.heap.size wq)).trans hw')) HQ3.out
    go_simp
    with_reducible rfl
  simp only [Act.put, List.setIfInBounds_toArray, List.set_cons_zero, List.set_cons_succ]
  -- 2: slot 35
  refine wpG_take (preBelow (w.heap.size)) (i := 2) (v := ?_) (by kernel_rfl) (some 35) (by kernel_rfl) rfl (by kernel_rfl) (by kernel_rfl) (by kernel_rfl) (fun _ _ _ h => h) (by rfl) (fun w' hw' => ?_) rfl ?_
  rotate_left
  · try have g1 := cell_gr (HBQ.out.trans ((Below.drew (Below.refl w.heap.size wq)).trans hw')) HQ1.out
    try have g2 := cell_gr (HBQ.out.trans ((Below.drew (Below.refl w.heap.size wq)).trans hw')) HQ2.out
    try have g3 := cell_gr (HBQ.out.trans ((Below.drew (Below.refl w.heap.size wq)).trans hw')) HQ3.out
    go_simp
    with_reducible rfl
  simp only [Act.put, List.setIfInBounds_toArray, List.set_cons_zero, List.set_cons_succ]
  -- 3: slot 36
  refine wpG_take (preBelow (w.heap.size)) (i := 3) (v := ?_) (by kernel_rfl) (some 36) (by kernel_rfl) rfl (by kernel_rfl) (by kernel_rfl) (by kernel_rfl) (fun _ _ _ h => h) (by rfl) (fun w' hw' => ?_) rfl ?_
  rotate_left
  · try have g1 := cell_gr (HBQ.out.trans ((Below.drew (Below.refl w.heap.size wq)).trans hw')) HQ1.out
    try have g2 := cell_gr (HBQ.out.trans ((Below.drew (Below.refl w.heap.size wq)).trans hw')) HQ2.out
    try have g3 := cell_gr (HBQ.out.trans ((Below.drew (Below.refl w.heap.size wq)).trans hw')) HQ3.out
    go_simp
    with_reducible rfl
  simp only [Act.put, List.setIfInBounds_toArray, List.set_cons_zero, List.set_cons_succ]
  -- 4: slot 37
  refine wpG_take (preBelow (w.heap.size)) (i := 4) (v := ?_) (by kernel_rfl) (some 37) (by kernel_rfl) rfl (by kernel_rfl) (by kernel_rfl) (by kernel_rfl) (fun _ _ _ h => h) (by rfl) (fun w' hw' => ?_) rfl ?_
  rotate_left
  · try have g1 := cell_gr (HBQ.out.trans ((Below.drew (Below.refl w.heap.size wq)).trans hw')) HQ1.out
    try have g2 := cell_gr (HBQ.out.trans ((Below.drew (Below.refl w.heap.size wq)).trans hw')) HQ2.out
    try have g3 := cell_gr (HBQ.out.trans ((Below.drew (Below.refl w.heap.size wq)).trans hw')) HQ3.out
    go_simp
    with_reducible rfl
  simp only [Act.put, List.setIfInBounds_toArray, List.set_cons_zero, List.set_cons_succ]
  -- 5: slot 38
  refine wpG_take (preBelow (w.heap.size)) (i := 5) (v := ?_) (by kernel_rfl) (some 38) (by kernel_rfl) rfl (by kernel_rfl) (by kernel_rfl) (by kernel_rfl) (fun _ _ _ h => h) (by rfl) (fun w' hw' => ?_) rfl ?_
  rotate_left
  · try have g1 := cell_gr (HBQ.out.trans ((Below.drew (Below.refl w.heap.size wq)).trans hw')) HQ1.out
    try have g2 := cell_gr (HBQ.out.trans ((Below.drew (Below.refl w.heap.size wq)).trans hw')) HQ2.out
    try have g3 := cell_gr (HBQ.out.trans ((Below.drew (Below.refl w.heap.size wq)).trans hw')) HQ3.out
    go_simp
    with_reducible rfl
  simp only [Act.put, List.setIfInBounds_toArray, List.set_cons_zero, List.set_cons_succ]
  -- 6: slot 39
  refine wpG_take (preBelow (w.heap.size)) (i := 6) (v := ?_) (by kernel_rfl) (some 39) (by kernel_rfl) rfl (by kernel_rfl) (by kernel_rfl) (by kernel_rfl) (fun _ _ _ h => h) (by rfl) (fun w' hw' => ?_) rfl ?_
  rotate_left
  · try have g1 := cell_gr (HBQ.out.trans ((Below.drew (Below.refl w.heap.size wq)).trans hw')) HQ1.out
    try have g2 := cell_gr (HBQ.out.trans ((Below.drew (Below.refl w.heap.size wq)).trans hw')) HQ2.out
    try have g3 := cell_gr (HBQ.out.trans ((Below.drew (Below.refl w.heap.size wq)).trans hw')) HQ3.out
    go_simp
    with_reducible rfl
  simp only [Act.put, List.setIfInBounds_toArray, List.set_cons_zero, List.set_cons_succ]
  -- 7: slot 40
  refine wpG_take (preBelow (w.heap.size)) (i := 7) (v := ?_) (by kernel_rfl) (some 40) (by kernel_rfl) rfl (by kernel_rfl) (by kernel_rfl) (by kernel_rfl) (fun _ _ _ h => h) (by rfl) (fun w' hw' => ?_) rfl ?_
  rotate_left
  · try have g1 := cell_gr (HBQ.out.trans ((Below.drew (Below.refl w.heap.size wq)).trans hw')) HQ1.out
    try have g2 := cell_gr (HBQ.out.trans ((Below.drew (Below.refl w.heap.size wq)).trans hw')) HQ2.out
    try have g3 := cell_gr (HBQ.out.trans ((Below.drew (Below.refl w.heap.size wq)).trans hw')) HQ3.out
    go_simp
    with_reducible rfl
  simp only [Act.put, List.setIfInBounds_toArray, List.set_cons_zero, List.set_cons_succ]
  -- 8: slot 41
  refine wpG_take (preBelow (w.heap.size)) (i := 8) (v := ?_) (by kernel_rfl) (some 41) (by kernel_rfl) rfl (by kernel_rfl) (by kernel_rfl) (by kernel_rfl) (fun _ _ _ h => h) (by rfl) (fun w' hw' => ?_) rfl ?_
  rotate_left
  · try have g1 := cell_gr (HBQ.out.trans ((Below.drew (Below.refl w.heap.size wq)).trans hw')) HQ1.out
    try have g2 := cell_gr (HBQ.out.trans ((Below.drew (Below.refl w.heap.size wq)).trans hw')) HQ2.out
    try have g3 := cell_gr (HBQ.out.trans ((Below.drew (Below.refl w.heap.size wq)).trans hw')) HQ3.out
    go_simp
    with_reducible rfl
  simp only [Act.put, List.setIfInBounds_toArray, List.set_cons_zero, List.set_cons_succ]
  -- 9: slot 42
  refine wpG_take (preBelow (w.heap.size)) (i := 9) (v := ?_) (by kernel_rfl) (some 42) (by kernel_rfl) rfl (by kernel_rfl) (by kernel_rfl) (by kernel_rfl) (fun _ _ _ h => h) (by rfl) (fun w' hw' => ?_) rfl ?_
  rotate_left
  · try have g1 := cell_gr (HBQ.out.trans ((Below.drew (Below.refl w.heap.size wq)).trans hw')) HQ1.out
    try have g2 := cell_gr (HBQ.out.trans ((Below.drew (Below.refl w.heap.size wq)).trans hw')) HQ2.out
    try have g3 := cell_gr (HBQ.out.trans ((Below.drew (Below.refl w.heap.size wq)).trans hw')) HQ3.out
    go_simp
    with_reducible rfl
  simp only [Act.put, List.setIfInBounds_toArray, List.set_cons_zero, List.set_cons_succ]
  -- 10: slot 43
  refine wpG_take (preBelow (w.heap.size)) (i := 10) (v := ?_) (by kernel_rfl) (some 43) (by kernel_rfl) rfl (by kernel_rfl) (by kernel_rfl) (by kernel_rfl) (fun _ _ _ h => h) (by rfl) (fun w' hw' => ?_) rfl ?_
  rotate_left
  · try have g1 := cell_gr (HBQ.out.trans ((Below.drew (Below.refl w.heap.size wq)).trans hw')) HQ1.out
    try have g2 := cell_gr (HBQ.out.trans ((Below.drew (Below.refl w.heap.size wq)).trans hw')) HQ2.out
    try have g3 := cell_gr (HBQ.out.trans ((Below.drew (Below.refl w.heap.size wq)).trans hw')) HQ3.out
    go_simp
    with_reducible rfl
  simp only [Act.put, List.setIfInBounds_toArray, List.set_cons_zero, List.set_cons_succ]
  -- 11: slot 44
  refine wpG_take (preBelow (w.heap.size)) (i := 11) (v := ?_) (by kernel_rfl) (some 44) (by kernel_rfl) rfl (by kernel_rfl) (by kernel_rfl) (by kernel_rfl) (fun _ _ _ h => h) (by rfl) (fun w' hw' => ?_) rfl ?_
  rotate_left
  · try have g1 := cell_gr (HBQ.out.trans ((Below.drew (Below.refl w.heap.size wq)).trans hw')) HQ1.out
    try have g2 := cell_gr (HBQ.out.trans ((Below.drew (Below.refl w.heap.size wq)).trans hw')) HQ2.out
    try have g3 := cell_gr (HBQ.out.trans ((Below.drew (Below.refl w.heap.size wq)).trans hw')) HQ3.out
    go_simp
    with_reducible rfl
  simp only [Act.put, List.setIfInBounds_toArray, List.set_cons_zero, List.set_cons_succ]
  -- 12: slot 45
  refine wpG_take (preBelow (w.heap.size)) (i := 12) (v := ?_) (by kernel_rfl) (some 45) (by kernel_rfl) rfl (by kernel_rfl) (by kernel_rfl) (by kernel_rfl) (fun _ _ _ h => h) (by rfl) (fun w' hw' => ?_) rfl ?_
  rotate_left
  · try have g1 := cell_gr (HBQ.out.trans ((Below.drew (Below.refl w.heap.size wq)).trans hw')) HQ1.out
    try have g2 := cell_gr (HBQ.out.trans ((Below.drew (Below.refl w.heap.size wq)).trans hw')) HQ2.out
    try have g3 := cell_gr (HBQ.out.trans ((Below.drew (Below.refl w.heap.size wq)).trans hw')) HQ3.out
    go_simp
    with_reducible rfl
  simp only [Act.put, List.setIfInBounds_toArray, List.set_cons_zero, List.set_cons_succ]
  -- 13: slot 46
  refine wpG_take (preBelow (w.heap.size)) (i := 13) (v := ?_) (by kernel_rfl) (some 46) (by kernel_rfl) rfl (by kernel_rfl) (by kernel_rfl) (by kernel_rfl) (fun _ _ _ h => h) (by rfl) (fun w' hw' => ?_) rfl ?_
  rotate_left
  · try have g1 := cell_gr (HBQ.out.trans ((Below.drew (Below.refl w.heap.size wq)).trans hw')) HQ1.out
    try have g2 := cell_gr (HBQ.out.trans ((Below.drew (Below.refl w.heap.size wq)).trans hw')) HQ2.out
    try have g3 := cell_gr (HBQ.out.trans ((Below.drew (Below.refl w.heap.size wq)).trans hw')) HQ3.out
    go_simp
    with_reducible rfl
  simp only [Act.put, List.setIfInBounds_toArray, List.set_cons_zero, List.set_cons_succ]
  -- 15: slot 48
  refine wpG_take (preBelow (w.heap.size)) (i := 15) (v := ?_) (by kernel_rfl) (some 48) (by kernel_rfl) rfl (by kernel_rfl) (by kernel_rfl) (by kernel_rfl) (fun _ _ _ h => h) (by rfl) (fun w' hw' => ?_) rfl ?_
  rotate_left
  · try have g1 := cell_gr (HBQ.out.trans ((Below.drew (Below.refl w.heap.size wq)).trans hw')) HQ1.out
    try have g2 := cell_gr (HBQ.out.trans ((Below.drew (Below.refl w.heap.size wq)).trans hw')) HQ2.out
    try have g3 := cell_gr (HBQ.out.trans ((Below.drew (Below.refl w.heap.size wq)).trans hw')) HQ3.out
    go_simp
    with_reducible rfl
  simp only [Act.put, List.setIfInBounds_toArray, List.set_cons_zero, List.set_cons_succ]
  -- 16: slot 49
  refine wpG_take (preBelow (w.heap.size)) (i := 16) (v := ?_) (by kernel_rfl) (some 49) (by kernel_rfl) rfl (by kernel_rfl) (by kernel_rfl) (by kernel_rfl) (fun _ _ _ h => h) (by rfl) (fun w' hw' => ?_) rfl ?_
  rotate_left
  · try have g1 := cell_gr (HBQ.out.trans ((Below.drew (Below.refl w.heap.size wq)).trans hw')) HQ1.out
    try have g2 := cell_gr (HBQ.out.trans ((Below.drew (Below.refl w.heap.size wq)).trans hw')) HQ2.out
    try have g3 := cell_gr (HBQ.out.trans ((Below.drew (Below.refl w.heap.size wq)).trans hw')) HQ3.out
    go_simp
    with_reducible rfl
  simp only [Act.put, List.setIfInBounds_toArray, List.set_cons_zero, List.set_cons_succ]
  -- 17: slot 50
  refine wpG_take (preBelow (w.heap.size)) (i := 17) (v := ?_) (by kernel_rfl) (some 50) (by kernel_rfl) rfl (by kernel_rfl) (by kernel_rfl) (by kernel_rfl) (fun _ _ _ h => h) (by rfl) (fun w' hw' => ?_) rfl ?_
  rotate_left
  · try have g1 := cell_gr (HBQ.out.trans ((Below.drew (Below.refl w.heap.size wq)).trans hw')) HQ1.out
    try have g2 := cell_gr (HBQ.out.trans ((Below.drew (Below.refl w.heap.size wq)).trans hw')) HQ2.out
    try have g3 := cell_gr (HBQ.out.trans ((Below.drew (Below.refl w.heap.size wq)).trans hw')) HQ3.out
    go_simp
    with_reducible rfl
  simp only [Act.put, List.setIfInBounds_toArray, List.set_cons_zero, List.set_cons_succ]
  -- 18: slot 51
  refine wpG_take (preBelow (w.heap.size)) (i := 18) (v := ?_) (by kernel_rfl) (some 51) (by kernel_rfl) rfl (by kernel_rfl) (by kernel_rfl) (by kernel_rfl) (fun _ _ _ h => h) (by rfl) (fun w' hw' => ?_) rfl ?_
  rotate_left
  · try have g1 := cell_gr (HBQ.out.trans ((Below.drew (Below.refl w.heap.size wq)).trans hw')) HQ1.out
    try have g2 := cell_gr (HBQ.out.trans ((Below.drew (Below.refl w.heap.size wq)).trans hw')) HQ2.out
    try have g3 := cell_gr (HBQ.out.trans ((Below.drew (Below.refl w.heap.size wq)).trans hw')) HQ3.out
    go_simp
    with_reducible rfl
  simp only [Act.put, List.setIfInBounds_toArray, List.set_cons_zero, List.set_cons_succ]
  refine wpG_one (i := 14) rfl (by kernel_rfl) (by rfl) ?_
  go_simp
  have hb14 : Below w.heap.size wq.drew (wq.drew.alloc (.cells #[] 5)) := (Below.refl _ _).alloc HBQ.out.drew.size _
  refine ⟨hb14, ?_⟩
  have HBE := Lib.hid (HBQ.out.drew.trans hb14)
  have HGE : Hid ((wq.drew.alloc (.cells #[] 5)).heap[w.heap.size]? = some (.cells #[.int .i64 0, .int .i64 0, .slice none 0 0] 24 (0, 0))) := heap_below HGQ.out ((Gr.drew wq).trans ((Below.refl _ _).alloc (Nat.le_refl _) _))
  have hsz : w.heap.size + 1 ≤ wq.drew.heap.size := (Array.getElem?_eq_some_iff.1 HGQ.out).1
  have HSZ := Lib.hid hsz
  have HOE : Hid ((wq.drew.alloc (.cells #[] 5)).ownsRow (w.heap.size + 1) 5 1 (.slice (some ⟨wq.drew.heap.size, 0, none⟩) 0 0) 0 []) := ownsRow_mono (own_new wq.drew [] 5 0 1 rfl (Nat.zero_le _)) hsz
  have HRE : Hid (Rd (wq.drew.alloc (.cells #[] 5)) 1 (.slice a7 Z (c - 6)) Z (((l.drop 6).take Z).map u8v)) := HS7.out.below HBE.out
  clear hb14 hsz
  try simp only [Act.put, List.setIfInBounds_toArray, List.set_cons_zero, List.set_cons_succ]
  refine wpG_one (i := 19) rfl (by kernel_rfl) (by rfl) ?_
  refine wp_append_gr _ (some 52) (.tmp 47) (.tmp 51) 22 rfl (w.heap.size + 1) 5 i0 (.int .u8 0) 1 1 Try.underlying22 hi hz0 hz1 hz2 rfl (by decide) _ _ _ rfl HOE.out _ _ _ rfl HRE.out (oneCell_u8 _) ?q1 (by decide) ?q2 rfl ?_
  case q1 => omega
  case q2 => have h := HSZ.out; show _ ≤ (wq.alloc _).heap.size; rw [World.size_alloc]; exact Nat.le_succ_of_le h
  intro v4 w4 hown4 hg4
  have hb4 : Below (w.heap.size + 1) _ w4 := grown_below HOE.out (by have h := HSZ.out; show _ ≤ (wq.alloc _).heap.size; rw [World.size_alloc]; exact Nat.le_succ_of_le h) hg4
  refine ⟨hb4.mono (Nat.le_succ _), ?_⟩
  have HB4 := Lib.hid (HBE.out.trans (hb4.mono (Nat.le_succ _)))
  have HG4 := Lib.hid (grown_heap HOE.out hg4 HGE.out (by decide))
  have HOV : Hid (OwnB w4 (w.heap.size + 1) 5 v4 ((l.drop 6).take Z)) := by
    show OwnB _ _ _ _ _
    unfold OwnB
    rw [HL7.out]
    simpa using hown4
  obtain ⟨A4, L4, C4, ev, hL4, _, _⟩ := HOV.out.bs.sl
  rw [HL7.out] at hL4
  subst hL4 ev
  clear hown4 hg4 hb4
  try simp only [Act.put, List.setIfInBounds_toArray, List.set_cons_zero, List.set_cons_succ]
  -- 20: slot 53
  refine wpG_take (preBelow (w.heap.size)) (i := 20) (v := ?_) (by kernel_rfl) (some 53) (by kernel_rfl) rfl (by kernel_rfl) (by kernel_rfl) (by kernel_rfl) (fun _ _ _ h => h) (by rfl) (fun w' hw' => ?_) rfl ?_
  rotate_left
  · refine Eq.trans (build_run (P := Try.prog) 24 [(0, .tmp 36), (1, .tmp 46), (2, .tmp 52)] ?_ #[.int .i64 (b1 : Int), .int .i64 (Y : Int), .slice A4 Z C4] ?_) ?_
    · rfl
    · exact builtP (b1 : Int) (Y : Int) A4 Z C4
    · with_reducible rfl
  simp only [Act.put, List.setIfInBounds_toArray, List.set_cons_zero, List.set_cons_succ]
  refine wpG_one (i := 21) rfl (by kernel_rfl) (by rfl) ?_
  refine wp_store_whole (none) 24 (.tmp 2) (.tmp 53) rfl w.heap.size [.int .i64 (b1 : Int), .int .i64 (Y : Int), .slice A4 Z C4] rfl rfl 24 [.int .i64 0, .int .i64 0, .slice none 0 0] HG4.out (by kernel_rfl) rfl ?o1 rfl ?_
  case o1 => intro u hu; simp only [List.mem_cons, List.not_mem_nil, or_false] at hu; rcases hu with rfl | rfl | rfl <;> rfl
  intro w5 h5 ho5
  refine ⟨ho5.below _ _ (Nat.le_refl _) (Below.refl _ _), ?_⟩
  have H5 := Lib.hid h5
  have HB5 := Lib.hid (ho5.below _ _ (Nat.le_refl _) HB4.out)
  have HO5 : Hid (OwnB w5 w.heap.size 5 (.slice A4 Z C4) ((l.drop 6).take Z)) := (HOV.out.only ho5 (Nat.lt_succ_self _)).mono (Nat.le_succ _)
  clear h5 ho5
  try simp only [Act.put, List.setIfInBounds_toArray, List.set_cons_zero, List.set_cons_succ]
  -- 22: slot 3
  refine wpG_take (preBelow (w.heap.size)) (i := 22) (v := ?_) (by kernel_rfl) (some 3) (by kernel_rfl) rfl (by kernel_rfl) (by kernel_rfl) (by kernel_rfl) (fun _ _ _ h => h) (by rfl) (fun w' hw' => ?_) rfl ?_
  rotate_left
  · try have g1 := cell_gr (HBQ.out.trans ((Below.drew (Below.refl w.heap.size wq)).trans hw')) HQ1.out
    try have g2 := cell_gr (HBQ.out.trans ((Below.drew (Below.refl w.heap.size wq)).trans hw')) HQ2.out
    try have g3 := cell_gr (HBQ.out.trans ((Below.drew (Below.refl w.heap.size wq)).trans hw')) HQ3.out
    go_simp
    with_reducible rfl
  simp only [Act.put, List.setIfInBounds_toArray, List.set_cons_zero, List.set_cons_succ]
  refine wpG_done (by kernel_rfl) ?_ _
  go_wp2
  refine bodyPost_ret (v := .tuple #[.agg #[.int .i64 b1, .int .i64 Y, .slice A4 Z C4], .int .i64 0]) (results_cell_tmp_row (P := Try.prog) (fn := Try.f13) rfl _ _ w.heap.size 24 _ (0, 0) _ rfl H5.out Try.underlying24 rfl (by kernel_rfl)) rfl ?_
  exact PRes.some HP.out HO5.out HB5.out
end Go.Proofs.Ytcpeglljcipcbaa
