import Derived.Test.YtjlacialbfhjcaaDoorShaB
namespace Go.Proofs.YtjlacialbfhjcaaDoor
open Go.RowKit
set_option linter.unusedVariables false
set_option linter.unusedSimpArgs false

/-- The table of constants lies where the program's text lays it. -/
def Laid (w : World) : Prop := 0 < w.heap.size ∧ ∀ i, i < 64 → w.cell? ⟨0, i, none⟩ = some (u32v (kL.getD i 0))
theorem Laid.below {w w' : World} (h : Laid w) (hb : Below w.heap.size w w') : Laid w' :=
  ⟨Nat.lt_of_lt_of_le h.1 hb.size, fun i hi => by rw [hb.cell (by show 0 < _; exact h.1)]; exact h.2 i hi⟩
def St.cells (s : St) : List Value := s.list.map u32v
theorem one_words (l : List UInt32) : (l.map u32v).toArray.all (·.oneCell') = true := all_oneCell_toArray (by intro v hv; obtain ⟨x, _, rfl⟩ := List.mem_map.1 hv; rfl)
/-- What holds in Step's loop. -/
def StepI (w wr : World) (s : St) (l : List UInt8) (gw : Nat) : Prop :=
  Below w.heap.size w wr ∧ wr.heap[w.heap.size]? = some (.cells s.cells.toArray 78 (0, 0)) ∧
  (∃ cs, wr.heap[w.heap.size + 1 + 1]? = some (.cells cs 78 (0, 0)) ∧ cs.size = 8) ∧ wr.heap[gw]? = some (.cells ((wL l 64).map u32v).toArray 87 (0, 0)) ∧ Laid wr
theorem StepI.below {w wr w1 : World} {s : St} {l : List UInt8} {gw : Nat} (h : StepI w wr s l gw) (hb : Below wr.heap.size wr w1) : StepI w w1 s l gw := by
  obtain ⟨h1, h2, ⟨cs, h3, h4⟩, h5, h6⟩ := h
  exact ⟨h1.trans (hb.mono h1.size), heap_below h2 hb, ⟨cs, heap_below h3 hb, h4⟩, heap_below h5 hb, h6.below hb⟩
theorem StepI.s {w wr : World} {s : St} {l : List UInt8} {gw : Nat} (h : StepI w wr s l gw) :
    wr.cell? ⟨w.heap.size, 0, none⟩ = some (u32v s.a) ∧ wr.cell? ⟨w.heap.size, 1, none⟩ = some (u32v s.b) ∧ wr.cell? ⟨w.heap.size, 2, none⟩ = some (u32v s.c) ∧ wr.cell? ⟨w.heap.size, 3, none⟩ = some (u32v s.d) ∧
    wr.cell? ⟨w.heap.size, 4, none⟩ = some (u32v s.e) ∧ wr.cell? ⟨w.heap.size, 5, none⟩ = some (u32v s.f) ∧ wr.cell? ⟨w.heap.size, 6, none⟩ = some (u32v s.g) ∧ wr.cell? ⟨w.heap.size, 7, none⟩ = some (u32v s.h) := by
  refine ⟨?_, ?_, ?_, ?_, ?_, ?_, ?_, ?_⟩ <;> (rw [cell_of_row _ _ _ _ _ _ h.2.1]; rfl)
theorem StepI.w {w wr : World} {s : St} {l : List UInt8} {gw : Nat} (h : StepI w wr s l gw) (k : Nat) (hk : k < 64) : wr.cell? ⟨gw, k, none⟩ = some (u32v ((wL l 64).getD k 0)) := by
  rw [cell_of_row _ _ _ _ _ _ h.2.2.2.1]; simp [wL_length, hk]
set_option maxHeartbeats 2000000 in
theorem step_any (s : St) (l : List UInt8) (hl : l.length = 64) (w : World) (hL : Laid w) :
    Calls Tryd.prog 51 #[.agg s.cells.toArray, .agg (l.map u8v).toArray] w fun e w' => e = .returned (.agg (s.step l).cells.toArray) ∧ Below w.heap.size w w' := by
  have hsz : (Tryd.prog.info? 69).map (·.size) = some (l.map u8v).length := by rw [List.length_map, hl]; exact size64b
  have HSZ := Lib.hid hsz
  have HSC := Lib.hid (schedule_any l hl)
  have HLD := Lib.hid hL
  clear hsz hL hl
  go_enter Tryd.func51, Tryd.ntmps51
  go_wp2_with (first | (with_reducible refine wpList_load_mid rfl 69 (.tmp 3) rfl (w.heap.size + 1) 0 rfl (l.map u8v) _ ?r Tryd.underlying69 rfl HSZ.out ?_) | fail)
  case r =>
    refine range_of_row (fr := (0, 0)) (t := 69) ?_
    rw [Below.heap_alloc _ _ _ (by simp)]
    have := heap_alloc_last (w.alloc (.cells s.cells.toArray 78)) (.cells (l.map u8v).toArray 69)
    simpa using this
  obtain ⟨w0, hw0⟩ : ∃ w0, w0 = ((w.alloc (.cells s.cells.toArray 78)).alloc (.cells (l.map u8v).toArray 69)).alloc (.cells (List.replicate 8 (Value.int .u32 0)).toArray 78) := ⟨_, rfl⟩
  have B0 : Below w.heap.size w w0 := by rw [hw0]; exact (((Below.refl _ _).alloc (Nat.le_refl _) _).alloc (by simp) _).alloc (by simp; omega) _
  have S0 : w0.heap[w.heap.size]? = some (.cells s.cells.toArray 78 (0, 0)) := by
    rw [hw0, Below.heap_alloc _ _ _ (by simp; omega), Below.heap_alloc _ _ _ (by simp), heap_alloc_last]
  have R0 : w0.heap[w.heap.size + 1 + 1]? = some (.cells (List.replicate 8 (Value.int .u32 0)).toArray 78 (0, 0)) := by
    rw [hw0]
    have := heap_alloc_last ((w.alloc (.cells s.cells.toArray 78)).alloc (.cells (l.map u8v).toArray 69)) (.cells (List.replicate 8 (Value.int .u32 0)).toArray 78)
    simpa using this
  change Calls Tryd.prog 56 _ (((w.alloc (.cells s.cells.toArray 78)).alloc (.cells (l.map u8v).toArray 69)).alloc (.cells (List.replicate 8 (Value.int .u32 0)).toArray 78)) _
  rw [← hw0]
  clear hw0
  have I0 := Lib.hid B0
  have I1 := Lib.hid S0
  have I2 := Lib.hid R0
  clear B0 S0 R0
  refine (HSC.out w0).mono ?_
  rintro e w1 ⟨rfl, hb1⟩
  have J0 := Lib.hid (I0.out.trans (hb1.mono I0.out.size))
  have J1 := Lib.hid (heap_below I1.out hb1)
  have J2 := Lib.hid (heap_below I2.out hb1)
  have J3 := Lib.hid (HLD.out.below J0.out)
  have hgw : w.heap.size < w1.heap.size := (Array.getElem?_eq_some_iff.1 J1.out).1
  clear I0 I1 I2 hb1
  go_wp2_with (first | (with_reducible refine wpList_store_row rfl 87 (.tmp 5) (.tmp 18) rfl w1.heap.size ((wL l 64).map u32v).toArray rfl rfl 87 (List.replicate 64 (Value.int .u32 0)).toArray (heap_alloc_last _ _) ?a1 ?a2 ?a3 ?_) | fail)
  case a1 => rw [List.size_toArray, List.length_map, wL_length]; exact size64w
  case a2 => rw [List.size_toArray, List.size_toArray, List.length_map, wL_length, List.length_replicate]
  case a3 => exact all_oneCell_toArray (by intro v hv; obtain ⟨x, _, rfl⟩ := List.mem_map.1 hv; rfl)
  intro w2 h1 h2 h3
  have I : StepI w w2 s l w1.heap.size := by
    refine ⟨h2 _ _ (by omega) (J0.out.alloc (by omega) _), ?_, ⟨(List.replicate 8 (Value.int .u32 0)).toArray, ?_, ?_⟩, h1, J3.out.below (h2 _ _ (Nat.le_refl _) ((Below.refl _ _).alloc (Nat.le_refl _) _))⟩
    · rw [h3 _ (by omega), Below.heap_alloc _ _ _ hgw]; exact J1.out
    · have := (Array.getElem?_eq_some_iff.1 J2.out).1
      rw [h3 _ (by omega), Below.heap_alloc _ _ _ this]; exact J2.out
    · simp
  obtain ⟨gw, hgw2⟩ : ∃ gw, gw = w1.heap.size := ⟨_, rfl⟩
  rw [← hgw2] at I
  rw [← hgw2]
  clear h1 h2 h3 J0 J1 J2 J3 hgw hgw2
  have HI := Lib.hid I
  have hs : ∀ w', Gr w2.drew w' → _ := fun w' hg => (HI.out.below ((Gr.drew w2).trans hg)).s
  have c0 := fun w' hg => (hs w' hg).1
  have c1 := fun w' hg => (hs w' hg).2.1
  have c2 := fun w' hg => (hs w' hg).2.2.1
  have c3 := fun w' hg => (hs w' hg).2.2.2.1
  have c4 := fun w' hg => (hs w' hg).2.2.2.2.1
  have c5 := fun w' hg => (hs w' hg).2.2.2.2.2.1
  have c6 := fun w' hg => (hs w' hg).2.2.2.2.2.2.1
  have c7 := fun w' hg => (hs w' hg).2.2.2.2.2.2.2
  clear hs I
  go_wp2
  refine wp_region_G 24 Gr (by kernel_rfl) ?_
  -- 0: slot 19
  refine wpG_take preGr (i := 0) (v := ?_) (by kernel_rfl) (some 19) (by kernel_rfl) rfl (by kernel_rfl) (by kernel_rfl) (by kernel_rfl) (fun _ _ _ h => h) (by rfl) (fun w' hw' => ?_) rfl ?_
  rotate_left
  · go_simp
    with_reducible rfl
  simp only [Act.put, List.setIfInBounds_toArray, List.set_cons_zero, List.set_cons_succ]
  -- 1: slot 20
  refine wpG_take preGr (i := 1) (v := ?_) (by kernel_rfl) (some 20) (by kernel_rfl) rfl (by kernel_rfl) (by kernel_rfl) (by kernel_rfl) (fun _ _ _ h => h) (by rfl) (fun w' hw' => ?_) rfl ?_
  rotate_left
  · go_simp
    with_reducible rfl
  simp only [Act.put, List.setIfInBounds_toArray, List.set_cons_zero, List.set_cons_succ]
  -- 2: slot 21
  refine wpG_take preGr (i := 2) (v := ?_) (by kernel_rfl) (some 21) (by kernel_rfl) rfl (by kernel_rfl) (by kernel_rfl) (by kernel_rfl) (fun _ _ _ h => h) (by rfl) (fun w' hw' => ?_) rfl ?_
  rotate_left
  · go_simp
    with_reducible rfl
  simp only [Act.put, List.setIfInBounds_toArray, List.set_cons_zero, List.set_cons_succ]
  -- 3: slot 22
  refine wpG_take preGr (i := 3) (v := ?_) (by kernel_rfl) (some 22) (by kernel_rfl) rfl (by kernel_rfl) (by kernel_rfl) (by kernel_rfl) (fun _ _ _ h => h) (by rfl) (fun w' hw' => ?_) rfl ?_
  rotate_left
  · go_simp
    with_reducible rfl
  simp only [Act.put, List.setIfInBounds_toArray, List.set_cons_zero, List.set_cons_succ]
  -- 4: slot 23
  refine wpG_take preGr (i := 4) (v := ?_) (by kernel_rfl) (some 23) (by kernel_rfl) rfl (by kernel_rfl) (by kernel_rfl) (by kernel_rfl) (fun _ _ _ h => h) (by rfl) (fun w' hw' => ?_) rfl ?_
  rotate_left
  · go_simp
    with_reducible rfl
  simp only [Act.put, List.setIfInBounds_toArray, List.set_cons_zero, List.set_cons_succ]
  -- 5: slot 24
  refine wpG_take preGr (i := 5) (v := ?_) (by kernel_rfl) (some 24) (by kernel_rfl) rfl (by kernel_rfl) (by kernel_rfl) (by kernel_rfl) (fun _ _ _ h => h) (by rfl) (fun w' hw' => ?_) rfl ?_
  rotate_left
  · go_simp
    with_reducible rfl
  simp only [Act.put, List.setIfInBounds_toArray, List.set_cons_zero, List.set_cons_succ]
  -- 6: slot 25
  refine wpG_take preGr (i := 6) (v := ?_) (by kernel_rfl) (some 25) (by kernel_rfl) rfl (by kernel_rfl) (by kernel_rfl) (by kernel_rfl) (fun _ _ _ h => h) (by rfl) (fun w' hw' => ?_) rfl ?_
  rotate_left
  · go_simp
    with_reducible rfl
  simp only [Act.put, List.setIfInBounds_toArray, List.set_cons_zero, List.set_cons_succ]
  -- 7: slot 26
  refine wpG_take preGr (i := 7) (v := ?_) (by kernel_rfl) (some 26) (by kernel_rfl) rfl (by kernel_rfl) (by kernel_rfl) (by kernel_rfl) (fun _ _ _ h => h) (by rfl) (fun w' hw' => ?_) rfl ?_
  rotate_left
  · go_simp
    with_reducible rfl
  simp only [Act.put, List.setIfInBounds_toArray, List.set_cons_zero, List.set_cons_succ]
  -- 8: slot 27
  refine wpG_take preGr (i := 8) (v := ?_) (by kernel_rfl) (some 27) (by kernel_rfl) rfl (by kernel_rfl) (by kernel_rfl) (by kernel_rfl) (fun _ _ _ h => h) (by rfl) (fun w' hw' => ?_) rfl ?_
  rotate_left
  · go_simp
    with_reducible rfl
  simp only [Act.put, List.setIfInBounds_toArray, List.set_cons_zero, List.set_cons_succ]
  -- 9: slot 28
  refine wpG_take preGr (i := 9) (v := ?_) (by kernel_rfl) (some 28) (by kernel_rfl) rfl (by kernel_rfl) (by kernel_rfl) (by kernel_rfl) (fun _ _ _ h => h) (by rfl) (fun w' hw' => ?_) rfl ?_
  rotate_left
  · go_simp
    with_reducible rfl
  simp only [Act.put, List.setIfInBounds_toArray, List.set_cons_zero, List.set_cons_succ]
  -- 10: slot 29
  refine wpG_take preGr (i := 10) (v := ?_) (by kernel_rfl) (some 29) (by kernel_rfl) rfl (by kernel_rfl) (by kernel_rfl) (by kernel_rfl) (fun _ _ _ h => h) (by rfl) (fun w' hw' => ?_) rfl ?_
  rotate_left
  · go_simp
    with_reducible rfl
  simp only [Act.put, List.setIfInBounds_toArray, List.set_cons_zero, List.set_cons_succ]
  -- 11: slot 30
  refine wpG_take preGr (i := 11) (v := ?_) (by kernel_rfl) (some 30) (by kernel_rfl) rfl (by kernel_rfl) (by kernel_rfl) (by kernel_rfl) (fun _ _ _ h => h) (by rfl) (fun w' hw' => ?_) rfl ?_
  rotate_left
  · go_simp
    with_reducible rfl
  simp only [Act.put, List.setIfInBounds_toArray, List.set_cons_zero, List.set_cons_succ]
  -- 12: slot 31
  refine wpG_take preGr (i := 12) (v := ?_) (by kernel_rfl) (some 31) (by kernel_rfl) rfl (by kernel_rfl) (by kernel_rfl) (by kernel_rfl) (fun _ _ _ h => h) (by rfl) (fun w' hw' => ?_) rfl ?_
  rotate_left
  · go_simp
    with_reducible rfl
  simp only [Act.put, List.setIfInBounds_toArray, List.set_cons_zero, List.set_cons_succ]
  -- 13: slot 32
  refine wpG_take preGr (i := 13) (v := ?_) (by kernel_rfl) (some 32) (by kernel_rfl) rfl (by kernel_rfl) (by kernel_rfl) (by kernel_rfl) (fun _ _ _ h => h) (by rfl) (fun w' hw' => ?_) rfl ?_
  rotate_left
  · go_simp
    with_reducible rfl
  simp only [Act.put, List.setIfInBounds_toArray, List.set_cons_zero, List.set_cons_succ]
  -- 14: slot 33
  refine wpG_take preGr (i := 14) (v := ?_) (by kernel_rfl) (some 33) (by kernel_rfl) rfl (by kernel_rfl) (by kernel_rfl) (by kernel_rfl) (fun _ _ _ h => h) (by rfl) (fun w' hw' => ?_) rfl ?_
  rotate_left
  · go_simp
    with_reducible rfl
  simp only [Act.put, List.setIfInBounds_toArray, List.set_cons_zero, List.set_cons_succ]
  -- 15: slot 34
  refine wpG_take preGr (i := 15) (v := ?_) (by kernel_rfl) (some 34) (by kernel_rfl) rfl (by kernel_rfl) (by kernel_rfl) (by kernel_rfl) (fun _ _ _ h => h) (by rfl) (fun w' hw' => ?_) rfl ?_
  rotate_left
  · go_simp
    with_reducible rfl
  simp only [Act.put, List.setIfInBounds_toArray, List.set_cons_zero, List.set_cons_succ]
  -- 16: slot 6
  refine wpG_take preGr (i := 16) (v := ?_) (by kernel_rfl) (some 6) (by kernel_rfl) rfl (by kernel_rfl) (by kernel_rfl) (by kernel_rfl) (fun _ _ _ h => h) (by rfl) (fun w' hw' => ?_) rfl ?_
  rotate_left
  · go_simp
    with_reducible rfl
  simp only [Act.put, List.setIfInBounds_toArray, List.set_cons_zero, List.set_cons_succ]
  -- 17: slot 7
  refine wpG_take preGr (i := 17) (v := ?_) (by kernel_rfl) (some 7) (by kernel_rfl) rfl (by kernel_rfl) (by kernel_rfl) (by kernel_rfl) (fun _ _ _ h => h) (by rfl) (fun w' hw' => ?_) rfl ?_
  rotate_left
  · go_simp
    with_reducible rfl
  simp only [Act.put, List.setIfInBounds_toArray, List.set_cons_zero, List.set_cons_succ]
  -- 18: slot 8
  refine wpG_take preGr (i := 18) (v := ?_) (by kernel_rfl) (some 8) (by kernel_rfl) rfl (by kernel_rfl) (by kernel_rfl) (by kernel_rfl) (fun _ _ _ h => h) (by rfl) (fun w' hw' => ?_) rfl ?_
  rotate_left
  · go_simp
    with_reducible rfl
  simp only [Act.put, List.setIfInBounds_toArray, List.set_cons_zero, List.set_cons_succ]
  -- 19: slot 9
  refine wpG_take preGr (i := 19) (v := ?_) (by kernel_rfl) (some 9) (by kernel_rfl) rfl (by kernel_rfl) (by kernel_rfl) (by kernel_rfl) (fun _ _ _ h => h) (by rfl) (fun w' hw' => ?_) rfl ?_
  rotate_left
  · go_simp
    with_reducible rfl
  simp only [Act.put, List.setIfInBounds_toArray, List.set_cons_zero, List.set_cons_succ]
  -- 20: slot 10
  refine wpG_take preGr (i := 20) (v := ?_) (by kernel_rfl) (some 10) (by kernel_rfl) rfl (by kernel_rfl) (by kernel_rfl) (by kernel_rfl) (fun _ _ _ h => h) (by rfl) (fun w' hw' => ?_) rfl ?_
  rotate_left
  · go_simp
    with_reducible rfl
  simp only [Act.put, List.setIfInBounds_toArray, List.set_cons_zero, List.set_cons_succ]
  -- 21: slot 11
  refine wpG_take preGr (i := 21) (v := ?_) (by kernel_rfl) (some 11) (by kernel_rfl) rfl (by kernel_rfl) (by kernel_rfl) (by kernel_rfl) (fun _ _ _ h => h) (by rfl) (fun w' hw' => ?_) rfl ?_
  rotate_left
  · go_simp
    with_reducible rfl
  simp only [Act.put, List.setIfInBounds_toArray, List.set_cons_zero, List.set_cons_succ]
  -- 22: slot 12
  refine wpG_take preGr (i := 22) (v := ?_) (by kernel_rfl) (some 12) (by kernel_rfl) rfl (by kernel_rfl) (by kernel_rfl) (by kernel_rfl) (fun _ _ _ h => h) (by rfl) (fun w' hw' => ?_) rfl ?_
  rotate_left
  · go_simp
    with_reducible rfl
  simp only [Act.put, List.setIfInBounds_toArray, List.set_cons_zero, List.set_cons_succ]
  -- 23: slot 13
  refine wpG_take preGr (i := 23) (v := ?_) (by kernel_rfl) (some 13) (by kernel_rfl) rfl (by kernel_rfl) (by kernel_rfl) (by kernel_rfl) (fun _ _ _ h => h) (by rfl) (fun w' hw' => ?_) rfl ?_
  rotate_left
  · go_simp
    with_reducible rfl
  simp only [Act.put, List.setIfInBounds_toArray, List.set_cons_zero, List.set_cons_succ]
  refine wpG_done (by kernel_rfl) ?_ _
  clear c0 c1 c2 c3 c4 c5 c6 c7
  go_wp2
  go_loopw [6, 7, 8, 9, 10, 11, 12, 13, 35] (fun a b c d e f g h i wr => ∃ (k : Nat) (t : St), k ≤ 64 ∧ i = .int .i64 k ∧ a = u32v t.a ∧ b = u32v t.b ∧ c = u32v t.c ∧ d = u32v t.d ∧ e = u32v t.e ∧ f = u32v t.f ∧ g = u32v t.g ∧ h = u32v t.h ∧ Hid (t = s.rounds l k ∧ StepI w wr s l gw)) (fun _ _ _ _ _ _ _ _ i _ => 64 - (intOf i).toNat)
  case atStart => exact ⟨0, s, by omega, rfl, rfl, rfl, rfl, rfl, rfl, rfl, rfl, rfl, rfl, HI.out.below (Gr.drew _)⟩
  case round =>
    clear HI
    obtain ⟨k, t, hk, rfl, rfl, rfl, rfl, rfl, rfl, rfl, rfl, rfl, HI⟩ := hrel
    by_cases hlt : k < 64
    · have c0 : ∀ w', Gr wr.drew w' → w'.cell? ⟨0, k, none⟩ = some (u32v (kL.getD k 0)) := fun w' hg => (HI.out.2.below ((Gr.drew _).trans hg)).2.2.2.2.2 k hlt
      have c1 : ∀ w', Gr wr.drew w' → w'.cell? ⟨gw, k, none⟩ = some (u32v ((wL l 64).getD k 0)) := fun w' hg => (HI.out.2.below ((Gr.drew _).trans hg)).w k hlt
      obtain ⟨kk, hkk⟩ : ∃ x, x = kL.getD k 0 := ⟨_, rfl⟩
      obtain ⟨wk, hwk⟩ : ∃ x, x = (wL l 64).getD k 0 := ⟨_, rfl⟩
      rw [← hkk] at c0
      rw [← hwk] at c1
      have HK := Lib.hid hkk
      have HW := Lib.hid hwk
      clear hkk hwk
      have q0 : (k : Int) < 64 := by omega
      have wAnd := w_and; have wOr := w_or; have wXor := w_xor; have wNot := w_not; have wAdd := w_add
      go_wp2
      refine wp_region_G 18 Gr (by kernel_rfl) ?_
      -- 0: slot 38
      refine wpG_take preGr (i := 0) (v := ?_) (by kernel_rfl) (some 38) (by kernel_rfl) rfl (by kernel_rfl) (by kernel_rfl) (by kernel_rfl) (fun _ _ _ h => h) (by rfl) (fun w' hw' => ?_) rfl ?_
      rotate_left
      · go_simp
        with_reducible rfl
      simp only [Act.put, List.setIfInBounds_toArray, List.set_cons_zero, List.set_cons_succ]
      -- 1: slot 39
      refine wpG_take preGr (i := 1) (v := ?_) (by kernel_rfl) (some 39) (by kernel_rfl) rfl (by kernel_rfl) (by kernel_rfl) (by kernel_rfl) (fun _ _ _ h => h) (by rfl) (fun w' hw' => ?_) rfl ?_
      rotate_left
      · go_simp
        with_reducible rfl
      simp only [Act.put, List.setIfInBounds_toArray, List.set_cons_zero, List.set_cons_succ]
      -- 4: slot 42
      refine wpG_take preGr (i := 4) (v := ?_) (by kernel_rfl) (some 42) (by kernel_rfl) rfl (by kernel_rfl) (by kernel_rfl) (by kernel_rfl) (fun _ _ _ h => h) (by rfl) (fun w' hw' => ?_) rfl ?_
      rotate_left
      · go_simp
        with_reducible rfl
      simp only [Act.put, List.setIfInBounds_toArray, List.set_cons_zero, List.set_cons_succ]
      -- 5: slot 43
      refine wpG_take preGr (i := 5) (v := ?_) (by kernel_rfl) (some 43) (by kernel_rfl) rfl (by kernel_rfl) (by kernel_rfl) (by kernel_rfl) (fun _ _ _ h => h) (by rfl) (fun w' hw' => ?_) rfl ?_
      rotate_left
      · go_simp
        with_reducible rfl
      simp only [Act.put, List.setIfInBounds_toArray, List.set_cons_zero, List.set_cons_succ]
      -- 6: slot 44
      refine wpG_take preGr (i := 6) (v := ?_) (by kernel_rfl) (some 44) (by kernel_rfl) rfl (by kernel_rfl) (by kernel_rfl) (by kernel_rfl) (fun _ _ _ h => h) (by rfl) (fun w' hw' => ?_) rfl ?_
      rotate_left
      · go_simp
        with_reducible rfl
      simp only [Act.put, List.setIfInBounds_toArray, List.set_cons_zero, List.set_cons_succ]
      -- 9: slot 47
      refine wpG_take preGr (i := 9) (v := ?_) (by kernel_rfl) (some 47) (by kernel_rfl) rfl (by kernel_rfl) (by kernel_rfl) (by kernel_rfl) (fun _ _ _ h => h) (by rfl) (fun w' hw' => ?_) rfl ?_
      rotate_left
      · go_simp
        with_reducible rfl
      simp only [Act.put, List.setIfInBounds_toArray, List.set_cons_zero, List.set_cons_succ]
      -- 10: slot 48
      refine wpG_take preGr (i := 10) (v := ?_) (by kernel_rfl) (some 48) (by kernel_rfl) rfl (by kernel_rfl) (by kernel_rfl) (by kernel_rfl) (fun _ _ _ h => h) (by rfl) (fun w' hw' => ?_) rfl ?_
      rotate_left
      · go_simp
        with_reducible rfl
      simp only [Act.put, List.setIfInBounds_toArray, List.set_cons_zero, List.set_cons_succ]
      -- 11: slot 49
      refine wpG_take preGr (i := 11) (v := ?_) (by kernel_rfl) (some 49) (by kernel_rfl) rfl (by kernel_rfl) (by kernel_rfl) (by kernel_rfl) (fun _ _ _ h => h) (by rfl) (fun w' hw' => ?_) rfl ?_
      rotate_left
      · go_simp
        with_reducible rfl
      simp only [Act.put, List.setIfInBounds_toArray, List.set_cons_zero, List.set_cons_succ]
      -- 13: slot 51
      refine wpG_take preGr (i := 13) (v := ?_) (by kernel_rfl) (some 51) (by kernel_rfl) rfl (by kernel_rfl) (by kernel_rfl) (by kernel_rfl) (fun _ _ _ h => h) (by rfl) (fun w' hw' => ?_) rfl ?_
      rotate_left
      · go_simp
        with_reducible rfl
      simp only [Act.put, List.setIfInBounds_toArray, List.set_cons_zero, List.set_cons_succ]
      -- 14: slot 52
      refine wpG_take preGr (i := 14) (v := ?_) (by kernel_rfl) (some 52) (by kernel_rfl) rfl (by kernel_rfl) (by kernel_rfl) (by kernel_rfl) (fun _ _ _ h => h) (by rfl) (fun w' hw' => ?_) rfl ?_
      rotate_left
      · go_simp
        with_reducible rfl
      simp only [Act.put, List.setIfInBounds_toArray, List.set_cons_zero, List.set_cons_succ]
      -- 15: slot 53
      refine wpG_take preGr (i := 15) (v := ?_) (by kernel_rfl) (some 53) (by kernel_rfl) rfl (by kernel_rfl) (by kernel_rfl) (by kernel_rfl) (fun _ _ _ h => h) (by rfl) (fun w' hw' => ?_) rfl ?_
      rotate_left
      · go_simp
        with_reducible rfl
      simp only [Act.put, List.setIfInBounds_toArray, List.set_cons_zero, List.set_cons_succ]
      refine wpG_one (i := 2) rfl (by kernel_rfl) (by rfl) ?_
      go_simp
      refine (turns_S1 _ _).mono ?_
      rintro e w' ⟨rfl, rfl⟩
      refine ⟨Gr.refl _, ?_⟩
      try simp only [Act.put, List.setIfInBounds_toArray, List.set_cons_zero, List.set_cons_succ]
      -- 3: slot 41
      refine wpG_take preGr (i := 3) (v := ?_) (by kernel_rfl) (some 41) (by kernel_rfl) rfl (by kernel_rfl) (by kernel_rfl) (by kernel_rfl) (fun _ _ _ h => h) (by rfl) (fun w' hw' => ?_) rfl ?_
      rotate_left
      · go_simp
        with_reducible rfl
      simp only [Act.put, List.setIfInBounds_toArray, List.set_cons_zero, List.set_cons_succ]
      refine wpG_one (i := 7) rfl (by kernel_rfl) (by rfl) ?_
      go_simp
      refine (choose_any _ _ _ _).mono ?_
      rintro e w' ⟨rfl, rfl⟩
      refine ⟨Gr.refl _, ?_⟩
      try simp only [Act.put, List.setIfInBounds_toArray, List.set_cons_zero, List.set_cons_succ]
      -- 8: slot 46
      refine wpG_take preGr (i := 8) (v := ?_) (by kernel_rfl) (some 46) (by kernel_rfl) rfl (by kernel_rfl) (by kernel_rfl) (by kernel_rfl) (fun _ _ _ h => h) (by rfl) (fun w' hw' => ?_) rfl ?_
      rotate_left
      · go_simp
        with_reducible rfl
      simp only [Act.put, List.setIfInBounds_toArray, List.set_cons_zero, List.set_cons_succ]
      -- 12: slot 50
      refine wpG_take preGr (i := 12) (v := ?_) (by kernel_rfl) (some 50) (by kernel_rfl) rfl (by kernel_rfl) (by kernel_rfl) (by kernel_rfl) (fun _ _ _ h => h) (by rfl) (fun w' hw' => ?_) rfl ?_
      rotate_left
      · go_simp
        with_reducible rfl
      simp only [Act.put, List.setIfInBounds_toArray, List.set_cons_zero, List.set_cons_succ]
      -- 16: slot 54
      refine wpG_take preGr (i := 16) (v := ?_) (by kernel_rfl) (some 54) (by kernel_rfl) rfl (by kernel_rfl) (by kernel_rfl) (by kernel_rfl) (fun _ _ _ h => h) (by rfl) (fun w' hw' => ?_) rfl ?_
      rotate_left
      · go_simp
        with_reducible rfl
      simp only [Act.put, List.setIfInBounds_toArray, List.set_cons_zero, List.set_cons_succ]
      -- 17: slot 15
      refine wpG_take preGr (i := 17) (v := ?_) (by kernel_rfl) (some 15) (by kernel_rfl) rfl (by kernel_rfl) (by kernel_rfl) (by kernel_rfl) (fun _ _ _ h => h) (by rfl) (fun w' hw' => ?_) rfl ?_
      rotate_left
      · go_simp
        with_reducible rfl
      simp only [Act.put, List.setIfInBounds_toArray, List.set_cons_zero, List.set_cons_succ]
      refine wpG_done (by kernel_rfl) ?_ _
      clear c0 c1
      go_wp2_with (first | (go_at_call 57; refine (turns_S0 _ _).mono ?_; rintro e w' ⟨rfl, rfl⟩) | (go_at_call 59; refine (majority_any _ _ _ _).mono ?_; rintro e w' ⟨rfl, rfl⟩))
      go_roundw
      case rel =>
        first | exact ⟨k + 1, t.next kk wk, by omega, by go_num, rfl, rfl, rfl, rfl, rfl, rfl, rfl, rfl, by rw [HI.out.1, HK.out, HW.out]; rfl, HI.out.2.below (Gr.drew _)⟩ | ((repeat apply Exists.intro); refine ⟨⟨k + 1, t.next kk wk, by omega, by go_num, rfl, rfl, rfl, rfl, rfl, rfl, rfl, rfl, by rw [HI.out.1, HK.out, HW.out]; rfl, HI.out.2.below (Gr.drew _)⟩, rfl⟩)
      case measure => simp [intOf]; omega
    · obtain rfl : k = 64 := by omega
      obtain ⟨c0, c1, c2, c3, c4, c5, c6, c7⟩ := HI.out.2.s
      obtain ⟨g1, g2, ⟨cs, g3, g4⟩, g5, g6⟩ := HI.out.2
      have G1 := Lib.hid g1
      have G3 := Lib.hid g3
      have G4 := Lib.hid g4
      have HT := Lib.hid HI.out.1
      clear g1 g2 g3 g4 g5 g6 HI
      have wAnd := w_and; have wOr := w_or; have wXor := w_xor; have wNot := w_not; have wAdd := w_add
      go_wp2_with (first | (with_reducible refine wpList_store_row rfl 78 (.tmp 4) (.tmp 107) rfl (w.heap.size + 1 + 1) #[u32v (s.a + t.a), u32v (s.b + t.b), u32v (s.c + t.c), u32v (s.d + t.d), u32v (s.e + t.e), u32v (s.f + t.f), u32v (s.g + t.g), u32v (s.h + t.h)] rfl rfl 78 cs G3.out ?b1 ?b2 ?b3 ?_) | fail)
      case b1 => exact size8
      case b2 => exact G4.out
      case b3 => exact one_words (s.add t).list
      intro w3 h1 h2 _
      have H1 := Lib.hid h1
      have H2 := Lib.hid (h2 _ _ (by omega) G1.out)
      clear h1 h2
      go_wp2
      refine bodyPost_ret (v := .agg (s.step l).cells.toArray) (results_cell_row Tryd.results51 _ _ (w.heap.size + 1 + 1) 78 _ (0, 0) _ rfl (by rw [H1.out, St.step, ← HT.out]; rfl) Tryd.underlying78 rfl size8) rfl ?_
      exact ⟨rfl, H2.out⟩
end Go.Proofs.YtjlacialbfhjcaaDoor
