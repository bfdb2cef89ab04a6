import Derived.Test.YtjlacialbfhjcaaDoorShaI
namespace Go.Proofs.YtjlacialbfhjcaaDoor
open Go.RowKit
set_option linter.unusedVariables false
set_option linter.unusedSimpArgs false

theorem size32b : (Tryd.prog.info? 56).map (·.size) = some 32 := by kernel_rfl
theorem wordB_length (x : UInt32) : (wordB x).length = 4 := putL_length _ _
/-- The first k words' bytes. -/
def bytesK (s : St) (k : Nat) : List UInt8 := (s.list.take k).flatMap wordB
theorem bytesK_length (s : St) : ∀ k, k ≤ 8 → (bytesK s k).length = 4 * k
  | 0, _ => rfl
  | k + 1, h => by
    have hk : k < s.list.length := h
    have := bytesK_length s k (by omega)
    unfold bytesK at this ⊢
    rw [List.take_succ_eq_append_getElem hk, List.flatMap_append, List.length_append, this]
    simp [wordB_length]; omega
theorem bytesK_full (s : St) : bytesK s 8 = s.bytes := rfl
def bcells (s : St) (k : Nat) : List Value := (bytesK s k).map u8v ++ List.replicate (32 - 4 * k) (.int .u8 0)
theorem bcells_length (s : St) (k : Nat) (h : k ≤ 8) : (bcells s k).length = 32 := by simp [bcells, bytesK_length s k h]; omega
theorem bcells_next (s : St) (k : Nat) (h : k < 8) : splice (bcells s k) (4 * k) ((wordB (s.list.getD k 0)).map u8v) = bcells s (k + 1) := by
  have hk : k < s.list.length := h
  have hl := bytesK_length s k (by omega)
  have e : bytesK s (k + 1) = bytesK s k ++ wordB (s.list.getD k 0) := by
    unfold bytesK
    rw [List.take_succ_eq_append_getElem hk, List.flatMap_append]
    simp [hk]
  unfold splice bcells
  rw [e, List.take_append_of_le_length (by rw [List.length_map, hl]; omega), List.take_of_length_le (by rw [List.length_map, hl]; omega), List.drop_append, List.drop_of_length_le (by rw [List.length_map, hl]; omega)]
  simp only [List.length_map, hl, wordB_length, List.map_append, List.nil_append, List.append_assoc, List.drop_replicate]
  congr 3
  omega
/-- What holds in bytesOf's loop. -/
def BI (w wr : World) (s : St) (k : Nat) : Prop :=
  Below w.heap.size w wr ∧ wr.heap[w.heap.size]? = some (.cells s.cells.toArray 78 (0, 0)) ∧ wr.heap[w.heap.size + 1]? = some (.cells (List.replicate 32 (Value.int .u8 0)).toArray 56 (0, 0)) ∧
  wr.heap[w.heap.size + 1 + 1]? = some (.cells (bcells s k).toArray 56 (0, 0))
theorem BI.below {w wr w1 : World} {s : St} {k : Nat} (h : BI w wr s k) (hb : Below wr.heap.size wr w1) : BI w w1 s k := by
  obtain ⟨h1, h2, h3, h4⟩ := h
  exact ⟨h1.trans (hb.mono h1.size), heap_below h2 hb, heap_below h3 hb, heap_below h4 hb⟩
theorem BI.start (w : World) (s : St) : BI w (((w.alloc (.cells s.cells.toArray 78)).alloc (.cells (List.replicate 32 (Value.int .u8 0)).toArray 56)).alloc (.cells (List.replicate 32 (Value.int .u8 0)).toArray 56)) s 0 := by
  have hl : ∀ (w' : World) o g, g = w'.heap.size → (w'.alloc o).heap[g]? = some o := fun w' o g h => by rw [h, heap_alloc_last]
  refine ⟨(((Below.refl _ _).alloc (Nat.le_refl _) _).alloc (by simp) _).alloc (by simp <;> omega) _, ?_, ?_, ?_⟩
  · rw [Below.heap_alloc _ _ _ (by simp <;> omega), Below.heap_alloc _ _ _ (by simp), hl _ _ _ rfl]
  · rw [Below.heap_alloc _ _ _ (by simp), hl _ _ _ (by simp)]
  · rw [hl _ _ _ (by simp)]; rfl
theorem w_u64 (x : UInt32) : IntKind.u64.wrap (iv x) = iv x := by
  have := iv_lo x
  have := iv_hi x
  rw [IntKind.wrap_u64]; omega
set_option maxHeartbeats 1000000 in
theorem bytesOf_any (s : St) (w : World) :
    Calls Tryd.prog 53 #[.agg s.cells.toArray] w fun e w' => e = .returned (.agg (s.bytes.map u8v).toArray) ∧ Below w.heap.size w w' := by
  obtain ⟨i0, hi, hz0, hz1, hz2⟩ := info_parts info5
  go_enter Tryd.func53, Tryd.ntmps53
  go_wp2
  go_loopw [5] (fun i5 wr => ∃ k : Nat, k ≤ 8 ∧ i5 = .int .i64 k ∧ Hid (BI w wr s k)) (fun i5 _ => 8 - (intOf i5).toNat)
  case atStart => exact ⟨0, by omega, rfl, BI.start w s⟩
  case round =>
    obtain ⟨k, hk, rfl, HI⟩ := hrel
    by_cases hlt : k < 8
    · obtain ⟨x, hx⟩ : ∃ x, x = s.list.getD k 0 := ⟨_, rfl⟩
      have hkl : k < s.list.length := hlt
      have s0 : ∀ w', Gr wr.drew w' → w'.cell? ⟨w.heap.size, k, none⟩ = some (u32v x) := fun w' hg => by
        rw [cell_of_row _ _ _ _ _ _ ((HI.out.below (Gr.drew _)).below hg).2.1, hx]
        simp [St.cells, hkl]
      have e4 : IntKind.i64.wrap (4 * (k : Int)) = 4 * (k : Int) := IntWalk.i64_in _ (by omega)
      have q0 : (k : Int) < 8 := by omega
      have hsl : ∀ w', (Instr.sliceAt 56 (.pointer (some ⟨w.heap.size + 1 + 1, 0, none⟩)) (some (.int .i64 (4 * (k : Int)))) none none).run Tryd.prog w' = .ok (.slice (some ⟨w.heap.size + 1 + 1, 4 * k, none⟩) (32 - 4 * k) (32 - 4 * k)) w' := fun w' => by
        have := run_slice_arr Tryd.underlying56 hi hz1 (w.heap.size + 1 + 1) 0 (4 * k) (by omega) .i64 w'
        rw [Nat.zero_add, show ((4 * k : Nat) : Int) = 4 * (k : Int) by omega] at this
        exact this
      have wU := w_u64
      have HX := Lib.hid hx
      have HP := Lib.hid (put_yes x.toNat 4)
      clear hx
      go_wp2
      refine wp_region_G 8 Gr (by kernel_rfl) ?_
      -- 0: slot 8
      refine wpG_take preGr (i := 0) (v := ?_) (by kernel_rfl) (some 8) (by kernel_rfl) rfl (by kernel_rfl) (by kernel_rfl) (by kernel_rfl) (fun _ _ _ h => h) (by rfl) (fun w' hw' => ?_) rfl ?_
      rotate_left
      · go_simp
        with_reducible rfl
      simp only [Act.put, List.setIfInBounds_toArray, List.set_cons_zero, List.set_cons_succ]
      -- 1: slot 9
      refine wpG_take preGr (i := 1) (v := ?_) (by kernel_rfl) (some 9) (by kernel_rfl) rfl (by kernel_rfl) (by kernel_rfl) (by kernel_rfl) (fun _ _ _ h => h) (by rfl) (fun w' hw' => ?_) rfl ?_
      rotate_left
      · go_simp
        with_reducible rfl
      simp only [Act.put, List.setIfInBounds_toArray, List.set_cons_zero, List.set_cons_succ]
      -- 2: slot 10
      refine wpG_take preGr (i := 2) (v := ?_) (by kernel_rfl) (some 10) (by kernel_rfl) rfl (by kernel_rfl) (by kernel_rfl) (by kernel_rfl) (fun _ _ _ h => h) (by rfl) (fun w' hw' => ?_) rfl ?_
      rotate_left
      · go_simp
        with_reducible rfl
      simp only [Act.put, List.setIfInBounds_toArray, List.set_cons_zero, List.set_cons_succ]
      -- 3: slot 11
      refine wpG_take preGr (i := 3) (v := ?_) (by kernel_rfl) (some 11) (by kernel_rfl) rfl (by kernel_rfl) (by kernel_rfl) (by kernel_rfl) (fun _ _ _ h => h) (by rfl) (fun w' hw' => ?_) rfl ?_
      rotate_left
      · go_simp
        with_reducible rfl
      simp only [Act.put, List.setIfInBounds_toArray, List.set_cons_zero, List.set_cons_succ]
      -- 4: slot 12
      refine wpG_take preGr (i := 4) (v := ?_) (by kernel_rfl) (some 12) (by kernel_rfl) rfl (by kernel_rfl) (by kernel_rfl) (by kernel_rfl) (fun _ _ _ h => h) (by rfl) (fun w' hw' => ?_) rfl ?_
      rotate_left
      · go_simp
        with_reducible rfl
      simp only [Act.put, List.setIfInBounds_toArray, List.set_cons_zero, List.set_cons_succ]
      -- 5: slot 13
      refine wpG_take preGr (i := 5) (v := ?_) (by kernel_rfl) (some 13) (by kernel_rfl) rfl (by kernel_rfl) (by kernel_rfl) (by kernel_rfl) (fun _ _ _ h => h) (by rfl) (fun w' hw' => ?_) rfl ?_
      rotate_left
      · go_simp
        with_reducible rfl
      simp only [Act.put, List.setIfInBounds_toArray, List.set_cons_zero, List.set_cons_succ]
      -- 6: slot 14
      refine wpG_take preGr (i := 6) (v := ?_) (by kernel_rfl) (some 14) (by kernel_rfl) rfl (by kernel_rfl) (by kernel_rfl) (by kernel_rfl) (fun _ _ _ h => h) (by rfl) (fun w' hw' => ?_) rfl ?_
      rotate_left
      · go_simp
        with_reducible rfl
      simp only [Act.put, List.setIfInBounds_toArray, List.set_cons_zero, List.set_cons_succ]
      refine wpG_one (i := 7) rfl (by kernel_rfl) (by rfl) ?_
      go_simp
      refine (HP.out _ (by omega) (by omega) (by have := u32_lt x; omega)).mono ?_
      rintro e w3 ⟨v3, rfl, hv3, hb3⟩
      refine ⟨hb3, ?_⟩
      try simp only [Act.put, List.setIfInBounds_toArray, List.set_cons_zero, List.set_cons_succ]
      refine wpG_tail (i := 8) (by decide) rfl (by kernel_rfl) (by rfl) ?_
      obtain ⟨ao, c, hv, _, _⟩ := hv3.bs.shape
      subst hv
      have HB3 := Lib.hid ((HI.out.below (Gr.drew _)).below hb3)
      refine wp_copy_only (some 16) _ _ 22 22 rfl 5 Tryd.underlying22 (by kernel_rfl) (w.heap.size + 1 + 1) (4 * k) (32 - 4 * k) (32 - 4 * k) ao _ c rfl rfl (bcells s k) 56 HB3.out.2.2.2 ((wordB x).map u8v) ?_ (bs_pos hv3.bs) ?_ (oneCell_u8 _) rfl ?_
      · rw [List.length_map, wordB_length, putL_length]; show 4 = min 4 (32 - 4 * k); omega
      · rw [List.length_map, wordB_length, bcells_length s k hk]; omega
      intro w4 h4 ho4
      try simp only [Act.put, List.setIfInBounds_toArray, List.set_cons_zero, List.set_cons_succ]
      refine wpG_done (by kernel_rfl) ?_ _
      rw [HX.out, bcells_next s k hlt] at h4
      have hlt2 : w.heap.size + 1 + 1 < w3.heap.size := (Array.getElem?_eq_some_iff.1 HB3.out.2.2.2).1
      have HI4 : Hid (BI w w4 s (k + 1)) := ⟨ho4.below _ _ (by omega) HB3.out.1, by rw [ho4.heap _ (by omega) (by omega)]; exact HB3.out.2.1, by rw [ho4.heap _ (by omega) (by omega)]; exact HB3.out.2.2.1, h4⟩
      clear h4 ho4 hv3 hb3 s0
      go_wp2
      go_roundw
      case rel =>
        first | exact ⟨k + 1, by omega, by go_num, HI4⟩ | ((repeat apply Exists.intro); exact ⟨⟨k + 1, by omega, by go_num, HI4⟩, rfl⟩)
      case measure => simp [intOf]; omega
    · obtain rfl : k = 8 := by omega
      have hrow : wr.rangeAt (w.heap.size + 1 + 1) 0 (bcells s 8) := range_of_row HI.out.2.2.2
      have HROW := Lib.hid hrow
      have hsz : (Tryd.prog.info? 56).map (·.size) = some (bcells s 8).length := by rw [bcells_length s 8 (by omega)]; exact size32b
      have HSZ := Lib.hid hsz
      have g3 := HI.out.2.2.1
      have G3 := Lib.hid g3
      clear hrow g3 hsz
      go_wp2_with (first | (with_reducible refine wpList_load_mid rfl 56 (.tmp 3) rfl (w.heap.size + 1 + 1) 0 rfl (bcells s 8) _ HROW.out Tryd.underlying56 rfl HSZ.out ?_) | (with_reducible refine wpList_store_row rfl 56 (.tmp 2) (.tmp 18) rfl (w.heap.size + 1) (bcells s 8).toArray rfl rfl 56 _ G3.out ?a1 ?a2 ?a3 ?_))
      case a1 => rw [List.size_toArray]; exact HSZ.out
      case a2 => rw [List.size_toArray, List.size_toArray, bcells_length s 8 (by omega), List.length_replicate]
      case a3 =>
        have e : bcells s 8 = s.bytes.map u8v := by rw [← bytesK_full]; simp [bcells]
        rw [e]; exact all_oneCell_toArray (oneCell_u8 _)
      intro w3 h1 h2 _
      have H1 := Lib.hid h1
      have H2 := Lib.hid (h2 _ _ (by omega) HI.out.1)
      clear h1 h2
      go_wp2
      have e : bcells s 8 = s.bytes.map u8v := by rw [← bytesK_full]; simp [bcells]
      refine bodyPost_ret (v := .agg (s.bytes.map u8v).toArray) (results_cell_row Tryd.results53 _ _ (w.heap.size + 1) 56 _ (0, 0) _ rfl (by rw [H1.out, e]) Tryd.underlying56 rfl (by rw [← e, List.size_toArray]; exact HSZ.out)) rfl ?_
      exact ⟨rfl, H2.out⟩
end Go.Proofs.YtjlacialbfhjcaaDoor
