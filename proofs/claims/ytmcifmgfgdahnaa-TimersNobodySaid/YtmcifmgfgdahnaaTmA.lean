/-
  cmp.Compare, cmp.Or; a timer held against another; Less, Len.
-/
import Derived.Test.YtmcifmgfgdahnaaTmM
import Derived.Shelf.SlSortCmp.NoneTotal
namespace Go.Proofs.Ytmcifmgfgdahnaa.Tm
open Go.RowKit
open Go.Proofs.Ytmcifmgfgdahnaa.Id (Tr Tr.refl Tr.gr Tr.only blk own_blk flatR flatR_len flatR_get flatR_cons flatR_append flatR_cell RR)
set_option linter.unusedVariables false
set_option linter.unusedSimpArgs false

def cmpI (a b : Int) : Int := if a < b then -1 else if b < a then 1 else 0
theorem isNaN_any (a : Int) (w : World) : Calls Try.prog 44 #[.int .i64 a] w fun e w' => e = .returned (.bool false) ∧ w = w' := by
  have h : (a != a) = false := by simp
  go_enter Try.func44, Try.ntmps44
  go_wp2
  go_ret
  exact ⟨rfl, rfl⟩
theorem compare_int (a b : Int) (w : World) : Calls Try.prog 37 #[.int .i64 a, .int .i64 b] w fun e w' => e = .returned (.int .i64 (cmpI a b)) ∧ w = w' := by
  have HN := Lib.hid isNaN_any
  unfold cmpI
  by_cases h1 : a < b
  · rw [if_pos h1]
    go_enter Try.func37, Try.ntmps37
    go_wp2_with (first | (go_at_call 44; refine (HN.out _ _).mono ?_; rintro e w' ⟨rfl, rfl⟩))
    go_ret
    exact ⟨rfl, rfl⟩
  · rw [if_neg h1]
    by_cases h2 : b < a
    · rw [if_pos h2]
      go_enter Try.func37, Try.ntmps37
      go_wp2_with (first | (go_at_call 44; refine (HN.out _ _).mono ?_; rintro e w' ⟨rfl, rfl⟩))
      go_ret
      exact ⟨rfl, rfl⟩
    · rw [if_neg h2]
      go_enter Try.func37, Try.ntmps37
      go_wp2_with (first | (go_at_call 44; refine (HN.out _ _).mono ?_; rintro e w' ⟨rfl, rfl⟩))
      go_ret
      exact ⟨rfl, rfl⟩
def orI (a b : Int) : Int := if a ≠ 0 then a else b
theorem or_two (a b : Int) (g cap : Nat) (w : World) (h0 : w.cell? ⟨g, 0, none⟩ = some (.int .i64 a)) (h1 : w.cell? ⟨g, 1, none⟩ = some (.int .i64 b)) :
    Calls Try.prog 36 #[.slice (some ⟨g, 0, none⟩) 2 cap] w fun e w' => e = .returned (.int .i64 (orI a b)) ∧ w = w' := by
  unfold orI
  by_cases ha : a = 0
  · subst ha
    rw [if_neg (by simp)]
    by_cases hb : b = 0
    · subst hb
      go_enter Try.func36, Try.ntmps36
      go_wp2
      refine wp_loop_rounds 3 ?_
      rw [rounds_succ]
      go_wp2
      rw [rounds_succ]
      go_wp2
      rw [rounds_succ]
      go_wp2
      go_ret
      exact ⟨rfl, rfl⟩
    · have hb2 : (b != 0) = true := by simpa using hb
      go_enter Try.func36, Try.ntmps36
      go_wp2
      refine wp_loop_rounds 3 ?_
      rw [rounds_succ]
      go_wp2
      rw [rounds_succ]
      go_wp2
      go_ret
      exact ⟨rfl, rfl⟩
  · rw [if_pos ha]
    have ha2 : (a != 0) = true := by simpa using ha
    go_enter Try.func36, Try.ntmps36
    go_wp2
    refine wp_loop_rounds 3 ?_
    rw [rounds_succ]
    go_wp2
    go_ret
    exact ⟨rfl, rfl⟩
def cmpD (x y : D) : Int := orI (cmpI x.2 y.2) (cmpI x.1 y.1)
theorem cmpD_lt (x y : D) : cmpD x y < 0 ↔ lt x y := by
  unfold cmpD orI cmpI lt
  by_cases h1 : x.2 < y.2
  · simp [h1]
  · by_cases h2 : y.2 < x.2
    · simp [h1, h2]; omega
    · by_cases h3 : x.1 < y.1
      · simp [h1, h2, h3]; omega
      · by_cases h4 : y.1 < x.1
        · simp [h1, h2, h3, h4]
        · simp [h1, h2, h3, h4]
theorem drewN_drew (w : World) : w.drew = w.drewN 1 := rfl
open Go.Sort (grow grow_grow alloc_eq_grow)
set_option maxRecDepth 20000 in
theorem compare_any (x y : D) (w : World) : Calls Try.prog 27 #[.agg #[.int .i64 x.1, .int .i64 x.2], .agg #[.int .i64 y.1, .int .i64 y.2]] w fun e w' => e = .returned (.int .i64 (cmpD x y)) ∧ ∃ q os', w' = grow (w.drewN q) os' := by
  have HC1 := Lib.hid compare_int
  have HO := Lib.hid or_two
  obtain ⟨a, ha⟩ : ∃ a, a = cmpI x.2 y.2 := ⟨_, rfl⟩
  obtain ⟨b, hb⟩ : ∃ b, b = cmpI x.1 y.1 := ⟨_, rfl⟩
  have HA := Lib.hid ha
  have HB := Lib.hid hb
  unfold cmpD
  rw [← ha, ← hb]
  clear ha hb
  go_enter Try.func27, Try.ntmps27
  go_upto_region 1 with fail
  have HG : Hid (((w.alloc (.cells #[.int .i64 x.1, .int .i64 x.2] 56)).alloc (.cells #[.int .i64 y.1, .int .i64 y.2] 56)).heap.size = w.heap.size + 2 ∧ ((w.alloc (.cells #[.int .i64 x.1, .int .i64 x.2] 56)).alloc (.cells #[.int .i64 y.1, .int .i64 y.2] 56)).heap[w.heap.size]? = some (.cells #[.int .i64 x.1, .int .i64 x.2] 56 (0, 0)) ∧ ((w.alloc (.cells #[.int .i64 x.1, .int .i64 x.2] 56)).alloc (.cells #[.int .i64 y.1, .int .i64 y.2] 56)).heap[w.heap.size + 1]? = some (.cells #[.int .i64 y.1, .int .i64 y.2] 56 (0, 0)) ∧ ∃ q os', ((w.alloc (.cells #[.int .i64 x.1, .int .i64 x.2] 56)).alloc (.cells #[.int .i64 y.1, .int .i64 y.2] 56)).drew = grow (w.drewN q) os') :=
    ⟨by simp, heap2_0' _ _ _, heap2_1' _ _ _, 1, _, by rw [alloc_eq_grow, alloc_eq_grow, grow_grow, drewN_drew]; rfl⟩
  generalize ((w.alloc (.cells #[.int .i64 x.1, .int .i64 x.2] 56)).alloc (.cells #[.int .i64 y.1, .int .i64 y.2] 56)) = w1 at HG ⊢
  have HC : Hid (Gr w1 w1.drew) := Gr.drew w1
  refine wp_region_G 13 Gr (by kernel_rfl) ?_
  generalize w1.drew = wc at HC HG ⊢
  -- 0: slot 5
  refine wpG_take preGr (i := 0) (v := ?_) (by kernel_rfl) (some 5) (by kernel_rfl) rfl (by kernel_rfl) (by kernel_rfl) (by kernel_rfl) (fun _ _ _ h => h) (by rfl) (fun w' hw' => ?_) rfl ?_
  rotate_left
  · try (have hq2 := copy_cells (heap_below HG.out.2.1 (Gr.trans HC.out hw')); obtain ⟨m0, m1⟩ := hq2)
    try (have hq2 := copy_cells (heap_below HG.out.2.2.1 (Gr.trans HC.out hw')); obtain ⟨n0, n1⟩ := hq2)
    go_simp
    with_reducible rfl
  simp only [Act.put, List.setIfInBounds_toArray, List.set_cons_zero, List.set_cons_succ]
  -- 1: slot 6
  refine wpG_take preGr (i := 1) (v := ?_) (by kernel_rfl) (some 6) (by kernel_rfl) rfl (by kernel_rfl) (by kernel_rfl) (by kernel_rfl) (fun _ _ _ h => h) (by rfl) (fun w' hw' => ?_) rfl ?_
  rotate_left
  · try (have hq2 := copy_cells (heap_below HG.out.2.1 (Gr.trans HC.out hw')); obtain ⟨m0, m1⟩ := hq2)
    try (have hq2 := copy_cells (heap_below HG.out.2.2.1 (Gr.trans HC.out hw')); obtain ⟨n0, n1⟩ := hq2)
    go_simp
    with_reducible rfl
  simp only [Act.put, List.setIfInBounds_toArray, List.set_cons_zero, List.set_cons_succ]
  -- 2: slot 7
  refine wpG_take preGr (i := 2) (v := ?_) (by kernel_rfl) (some 7) (by kernel_rfl) rfl (by kernel_rfl) (by kernel_rfl) (by kernel_rfl) (fun _ _ _ h => h) (by rfl) (fun w' hw' => ?_) rfl ?_
  rotate_left
  · try (have hq2 := copy_cells (heap_below HG.out.2.1 (Gr.trans HC.out hw')); obtain ⟨m0, m1⟩ := hq2)
    try (have hq2 := copy_cells (heap_below HG.out.2.2.1 (Gr.trans HC.out hw')); obtain ⟨n0, n1⟩ := hq2)
    go_simp
    with_reducible rfl
  simp only [Act.put, List.setIfInBounds_toArray, List.set_cons_zero, List.set_cons_succ]
  -- 3: slot 8
  refine wpG_take preGr (i := 3) (v := ?_) (by kernel_rfl) (some 8) (by kernel_rfl) rfl (by kernel_rfl) (by kernel_rfl) (by kernel_rfl) (fun _ _ _ h => h) (by rfl) (fun w' hw' => ?_) rfl ?_
  rotate_left
  · try (have hq2 := copy_cells (heap_below HG.out.2.1 (Gr.trans HC.out hw')); obtain ⟨m0, m1⟩ := hq2)
    try (have hq2 := copy_cells (heap_below HG.out.2.2.1 (Gr.trans HC.out hw')); obtain ⟨n0, n1⟩ := hq2)
    go_simp
    with_reducible rfl
  simp only [Act.put, List.setIfInBounds_toArray, List.set_cons_zero, List.set_cons_succ]
  -- 5: slot 10
  refine wpG_take preGr (i := 5) (v := ?_) (by kernel_rfl) (some 10) (by kernel_rfl) rfl (by kernel_rfl) (by kernel_rfl) (by kernel_rfl) (fun _ _ _ h => h) (by rfl) (fun w' hw' => ?_) rfl ?_
  rotate_left
  · try (have hq2 := copy_cells (heap_below HG.out.2.1 (Gr.trans HC.out hw')); obtain ⟨m0, m1⟩ := hq2)
    try (have hq2 := copy_cells (heap_below HG.out.2.2.1 (Gr.trans HC.out hw')); obtain ⟨n0, n1⟩ := hq2)
    go_simp
    with_reducible rfl
  simp only [Act.put, List.setIfInBounds_toArray, List.set_cons_zero, List.set_cons_succ]
  -- 6: slot 11
  refine wpG_take preGr (i := 6) (v := ?_) (by kernel_rfl) (some 11) (by kernel_rfl) rfl (by kernel_rfl) (by kernel_rfl) (by kernel_rfl) (fun _ _ _ h => h) (by rfl) (fun w' hw' => ?_) rfl ?_
  rotate_left
  · try (have hq2 := copy_cells (heap_below HG.out.2.1 (Gr.trans HC.out hw')); obtain ⟨m0, m1⟩ := hq2)
    try (have hq2 := copy_cells (heap_below HG.out.2.2.1 (Gr.trans HC.out hw')); obtain ⟨n0, n1⟩ := hq2)
    go_simp
    with_reducible rfl
  simp only [Act.put, List.setIfInBounds_toArray, List.set_cons_zero, List.set_cons_succ]
  -- 7: slot 12
  refine wpG_take preGr (i := 7) (v := ?_) (by kernel_rfl) (some 12) (by kernel_rfl) rfl (by kernel_rfl) (by kernel_rfl) (by kernel_rfl) (fun _ _ _ h => h) (by rfl) (fun w' hw' => ?_) rfl ?_
  rotate_left
  · try (have hq2 := copy_cells (heap_below HG.out.2.1 (Gr.trans HC.out hw')); obtain ⟨m0, m1⟩ := hq2)
    try (have hq2 := copy_cells (heap_below HG.out.2.2.1 (Gr.trans HC.out hw')); obtain ⟨n0, n1⟩ := hq2)
    go_simp
    with_reducible rfl
  simp only [Act.put, List.setIfInBounds_toArray, List.set_cons_zero, List.set_cons_succ]
  -- 8: slot 13
  refine wpG_take preGr (i := 8) (v := ?_) (by kernel_rfl) (some 13) (by kernel_rfl) rfl (by kernel_rfl) (by kernel_rfl) (by kernel_rfl) (fun _ _ _ h => h) (by rfl) (fun w' hw' => ?_) rfl ?_
  rotate_left
  · try (have hq2 := copy_cells (heap_below HG.out.2.1 (Gr.trans HC.out hw')); obtain ⟨m0, m1⟩ := hq2)
    try (have hq2 := copy_cells (heap_below HG.out.2.2.1 (Gr.trans HC.out hw')); obtain ⟨n0, n1⟩ := hq2)
    go_simp
    with_reducible rfl
  simp only [Act.put, List.setIfInBounds_toArray, List.set_cons_zero, List.set_cons_succ]
  refine wpG_one (i := 4) rfl (by kernel_rfl) (by rfl) ?_
  go_simp
  refine (HC1.out _ _ wc).mono ?_
  rintro e wn ⟨rfl, rfl⟩
  refine ⟨Gr.refl _, ?_⟩
  try simp only [Act.put, List.setIfInBounds_toArray, List.set_cons_zero, List.set_cons_succ]
  refine wpG_one (i := 9) rfl (by kernel_rfl) (by rfl) ?_
  go_simp
  refine (HC1.out _ _ wc).mono ?_
  rintro e wn ⟨rfl, rfl⟩
  refine ⟨Gr.refl _, ?_⟩
  try simp only [Act.put, List.setIfInBounds_toArray, List.set_cons_zero, List.set_cons_succ]
  refine wpG_one (i := 10) rfl (by kernel_rfl) (by rfl) ?_
  go_simp
  rw [← HA.out, ← HB.out]
  have hgr : Gr wc (wc.alloc (.cells #[.int .i64 a, .int .i64 b] 3)) := (Below.refl _ _).alloc (Nat.le_refl _) _
  refine ⟨hgr, ?_⟩
  have hcl := copy_cells (heap_alloc_last wc (.cells #[.int .i64 a, .int .i64 b] 3))
  have HCL := Lib.hid hcl
  clear hgr hcl
  try simp only [Act.put, List.setIfInBounds_toArray, List.set_cons_zero, List.set_cons_succ]
  refine wpG_one (i := 11) rfl (by kernel_rfl) (by rfl) ?_
  go_simp
  refine (HO.out a b wc.heap.size 2 _ HCL.out.1 HCL.out.2).mono ?_
  rintro e wn ⟨rfl, rfl⟩
  refine ⟨Gr.refl _, ?_⟩
  try simp only [Act.put, List.setIfInBounds_toArray, List.set_cons_zero, List.set_cons_succ]
  -- 12: slot 4
  refine wpG_take preGr (i := 12) (v := ?_) (by kernel_rfl) (some 4) (by kernel_rfl) rfl (by kernel_rfl) (by kernel_rfl) (by kernel_rfl) (fun _ _ _ h => h) (by rfl) (fun w' hw' => ?_) rfl ?_
  rotate_left
  · try (have hq2 := copy_cells (heap_below HG.out.2.1 (Gr.trans HC.out hw')); obtain ⟨m0, m1⟩ := hq2)
    try (have hq2 := copy_cells (heap_below HG.out.2.2.1 (Gr.trans HC.out hw')); obtain ⟨n0, n1⟩ := hq2)
    go_simp
    with_reducible rfl
  simp only [Act.put, List.setIfInBounds_toArray, List.set_cons_zero, List.set_cons_succ]
  refine wpG_done (by kernel_rfl) ?_ _
  go_wp2
  go_ret
  obtain ⟨q, os', hq⟩ := HG.out.2.2.2
  exact ⟨rfl, q, _, by rw [hq, alloc_eq_grow, grow_grow]⟩
theorem len_any (g : Nat) {v : Value} {b n : Nat} {q : List D} {f : Int → Option Nat} (w : World) (h : QAt w g v b q f n) :
    Calls Try.prog 24 #[.pointer (some ⟨g, 0, none⟩)] w fun e w' => e = .returned (.int .i64 (q.length : Int)) ∧ w = w' := by
  obtain ⟨k0, k1, k2⟩ := cellsQ h.row
  obtain ⟨a, c, ev, h1, h2⟩ := h.own.rr.shape
  rw [ev] at k0
  clear h ev
  go_enter Try.func24, Try.ntmps24
  go_wp2
  go_ret
  exact ⟨rfl, rfl⟩
theorem sizeT : (Try.prog.info? 56).map (·.size) = some 2 := by kernel_rfl
theorem heap_gr {w w' : World} {g : Nat} {o : Obj} (h : Gr w w') (hg : w.heap[g]? = some o) : w'.heap[g]? = some o := heap_below hg h
theorem range_gr {w w' : World} (h : Gr w w') {g o : Nat} {cs : List Value} (hr : w.rangeAt g o cs) : w'.rangeAt g o cs := fun j v hj => cell_gr h (hr j v hj)
set_option maxRecDepth 20000 in
theorem less_any (g i j : Nat) {v : Value} {b n : Nat} {q : List D} {f : Int → Option Nat} (w : World) (h : QAt w g v b q f n) (hi : i < q.length) (hj : j < q.length) :
    Calls Try.prog 77 #[.pointer (some ⟨g, 0, none⟩), .int .i64 (i : Int), .int .i64 (j : Int)] w fun e w' => e = .returned (.bool (decide (lt (at_ q i) (at_ q j)))) ∧ Below w.heap.size w w' := by
  obtain ⟨r, cap, cur, ev, h1, h2, h3, h4, h5, h6⟩ := h.own.open (by omega)
  subst ev
  have HI := Lib.hid (range_two h2 h6 hi)
  have HJ := Lib.hid (range_two h2 h6 hj)
  have HQ := Lib.hid h.row
  obtain ⟨L, hL⟩ : ∃ L, L = q.length := ⟨_, rfl⟩
  rw [← hL] at hi hj h3 HQ
  have HP : Hid (decide (cmpD (at_ q i) (at_ q j) < 0) = decide (lt (at_ q i) (at_ q j))) := by
    show _ = _
    by_cases c : lt (at_ q i) (at_ q j)
    · rw [decide_eq_true c, decide_eq_true ((cmpD_lt _ _).2 c)]
    · rw [decide_eq_false c, decide_eq_false fun c' => c ((cmpD_lt _ _).1 c')]
  have HCM := Lib.hid (fun w => compare_any (at_ q i) (at_ q j) w)
  obtain ⟨x, hx⟩ : ∃ x, x = at_ q i := ⟨_, rfl⟩
  obtain ⟨y, hy⟩ : ∃ y, y = at_ q j := ⟨_, rfl⟩
  rw [← hx, ← hy] at HP HCM
  rw [← hx] at HI
  rw [← hy] at HJ ⊢
  rw [← hx]
  clear h h1 h2 h4 h5 h6 hx hy hL
  go_enter Try.func77, Try.ntmps77
  go_upto_region 1 with fail
  have HC : Hid (Gr w w.drew) := Gr.drew w
  refine wp_region_G 21 Gr (by kernel_rfl) ?_
  generalize w.drew = wc at HC ⊢
  -- 0: slot 7
  refine wpG_take preGr (i := 0) (v := ?_) (by kernel_rfl) (some 7) (by kernel_rfl) rfl (by kernel_rfl) (by kernel_rfl) (by kernel_rfl) (fun _ _ _ h => h) (by rfl) (fun w' hw' => ?_) rfl ?_
  rotate_left
  · try (have hq2 := cellsQ (heap_gr (Gr.trans HC.out hw') HQ.out); obtain ⟨k0, k1, k2⟩ := hq2)
    go_simp
    with_reducible rfl
  simp only [Act.put, List.setIfInBounds_toArray, List.set_cons_zero, List.set_cons_succ]
  -- 1: slot 8
  refine wpG_take preGr (i := 1) (v := ?_) (by kernel_rfl) (some 8) (by kernel_rfl) rfl (by kernel_rfl) (by kernel_rfl) (by kernel_rfl) (fun _ _ _ h => h) (by rfl) (fun w' hw' => ?_) rfl ?_
  rotate_left
  · try (have hq2 := cellsQ (heap_gr (Gr.trans HC.out hw') HQ.out); obtain ⟨k0, k1, k2⟩ := hq2)
    go_simp
    with_reducible rfl
  simp only [Act.put, List.setIfInBounds_toArray, List.set_cons_zero, List.set_cons_succ]
  -- 2: slot 9
  refine wpG_take preGr (i := 2) (v := ?_) (by kernel_rfl) (some 9) (by kernel_rfl) rfl (by kernel_rfl) (by kernel_rfl) (by kernel_rfl) (fun _ _ _ h => h) (by rfl) (fun w' hw' => ?_) rfl ?_
  rotate_left
  · try (have hq2 := cellsQ (heap_gr (Gr.trans HC.out hw') HQ.out); obtain ⟨k0, k1, k2⟩ := hq2)
    go_simp
    with_reducible rfl
  simp only [Act.put, List.setIfInBounds_toArray, List.set_cons_zero, List.set_cons_succ]
  -- 3: slot 10
  refine wpG_take preGr (i := 3) (v := ?_) (by kernel_rfl) (some 10) (by kernel_rfl) rfl (by kernel_rfl) (by kernel_rfl) (by kernel_rfl) (fun _ _ _ h => h) (by rfl) (fun w' hw' => ?_) rfl ?_
  rotate_left
  · try (have hq2 := cellsQ (heap_gr (Gr.trans HC.out hw') HQ.out); obtain ⟨k0, k1, k2⟩ := hq2)
    go_simp
    with_reducible rfl
  simp only [Act.put, List.setIfInBounds_toArray, List.set_cons_zero, List.set_cons_succ]
  -- 4: slot 11
  refine wpG_take preGr (i := 4) (v := ?_) (by kernel_rfl) (some 11) (by kernel_rfl) rfl (by kernel_rfl) (by kernel_rfl) (by kernel_rfl) (fun _ _ _ h => h) (by rfl) (fun w' hw' => ?_) rfl ?_
  rotate_left
  · try (have hq2 := cellsQ (heap_gr (Gr.trans HC.out hw') HQ.out); obtain ⟨k0, k1, k2⟩ := hq2)
    go_simp
    with_reducible rfl
  simp only [Act.put, List.setIfInBounds_toArray, List.set_cons_zero, List.set_cons_succ]
  -- 5: slot 12
  refine wpG_take preGr (i := 5) (v := ?_) (by kernel_rfl) (some 12) (by kernel_rfl) rfl (by kernel_rfl) (by kernel_rfl) (by kernel_rfl) (fun _ _ _ h => h) (by rfl) (fun w' hw' => ?_) rfl ?_
  rotate_left
  · try (have hq2 := cellsQ (heap_gr (Gr.trans HC.out hw') HQ.out); obtain ⟨k0, k1, k2⟩ := hq2)
    go_simp
    with_reducible rfl
  simp only [Act.put, List.setIfInBounds_toArray, List.set_cons_zero, List.set_cons_succ]
  -- 6: slot 13
  refine wpG_take preGr (i := 6) (v := ?_) (by kernel_rfl) (some 13) (by kernel_rfl) rfl (by kernel_rfl) (by kernel_rfl) (by kernel_rfl) (fun _ _ _ h => h) (by rfl) (fun w' hw' => ?_) rfl ?_
  rotate_left
  · try (have hq2 := cellsQ (heap_gr (Gr.trans HC.out hw') HQ.out); obtain ⟨k0, k1, k2⟩ := hq2)
    go_simp
    with_reducible rfl
  simp only [Act.put, List.setIfInBounds_toArray, List.set_cons_zero, List.set_cons_succ]
  -- 7: slot 14
  refine wpG_take preGr (i := 7) (v := ?_) (by kernel_rfl) (some 14) (by kernel_rfl) rfl (by kernel_rfl) (by kernel_rfl) (by kernel_rfl) (fun _ _ _ h => h) (by rfl) (fun w' hw' => ?_) rfl ?_
  rotate_left
  · try (have hq2 := cellsQ (heap_gr (Gr.trans HC.out hw') HQ.out); obtain ⟨k0, k1, k2⟩ := hq2)
    go_simp
    with_reducible rfl
  simp only [Act.put, List.setIfInBounds_toArray, List.set_cons_zero, List.set_cons_succ]
  -- 8: slot 15
  refine wpG_take preGr (i := 8) (v := ?_) (by kernel_rfl) (some 15) (by kernel_rfl) rfl (by kernel_rfl) (by kernel_rfl) (by kernel_rfl) (fun _ _ _ h => h) (by rfl) (fun w' hw' => ?_) rfl ?_
  rotate_left
  · try (have hq2 := cellsQ (heap_gr (Gr.trans HC.out hw') HQ.out); obtain ⟨k0, k1, k2⟩ := hq2)
    go_simp
    with_reducible rfl
  simp only [Act.put, List.setIfInBounds_toArray, List.set_cons_zero, List.set_cons_succ]
  -- 9: slot 16
  refine wpG_take preGr (i := 9) (v := ?_) (by kernel_rfl) (some 16) (by kernel_rfl) rfl (by kernel_rfl) (by kernel_rfl) (by kernel_rfl) (fun _ _ _ h => h) (by rfl) (fun w' hw' => ?_) rfl ?_
  rotate_left
  · try (have hq2 := cellsQ (heap_gr (Gr.trans HC.out hw') HQ.out); obtain ⟨k0, k1, k2⟩ := hq2)
    go_simp
    with_reducible rfl
  simp only [Act.put, List.setIfInBounds_toArray, List.set_cons_zero, List.set_cons_succ]
  -- 10: slot 17
  refine wpG_take preGr (i := 10) (v := ?_) (by kernel_rfl) (some 17) (by kernel_rfl) rfl (by kernel_rfl) (by kernel_rfl) (by kernel_rfl) (fun _ _ _ h => h) (by rfl) (fun w' hw' => ?_) rfl ?_
  rotate_left
  · refine Eq.trans (load_mid_run (P := Try.prog) 56 (.tmp 16) ?_ r (i * 2) ?_ (two x) _ (range_gr (Gr.trans HC.out hw') HI.out) Try.underlying56 rfl sizeT) ?_
    · rfl
    · simp [go_sem]
    · with_reducible rfl
  simp only [Act.put, List.setIfInBounds_toArray, List.set_cons_zero, List.set_cons_succ]
  -- 11: slot 18
  refine wpG_take preGr (i := 11) (v := ?_) (by kernel_rfl) (some 18) (by kernel_rfl) rfl (by kernel_rfl) (by kernel_rfl) (by kernel_rfl) (fun _ _ _ h => h) (by rfl) (fun w' hw' => ?_) rfl ?_
  rotate_left
  · try (have hq2 := cellsQ (heap_gr (Gr.trans HC.out hw') HQ.out); obtain ⟨k0, k1, k2⟩ := hq2)
    go_simp
    with_reducible rfl
  simp only [Act.put, List.setIfInBounds_toArray, List.set_cons_zero, List.set_cons_succ]
  -- 12: slot 19
  refine wpG_take preGr (i := 12) (v := ?_) (by kernel_rfl) (some 19) (by kernel_rfl) rfl (by kernel_rfl) (by kernel_rfl) (by kernel_rfl) (fun _ _ _ h => h) (by rfl) (fun w' hw' => ?_) rfl ?_
  rotate_left
  · try (have hq2 := cellsQ (heap_gr (Gr.trans HC.out hw') HQ.out); obtain ⟨k0, k1, k2⟩ := hq2)
    go_simp
    with_reducible rfl
  simp only [Act.put, List.setIfInBounds_toArray, List.set_cons_zero, List.set_cons_succ]
  -- 13: slot 20
  refine wpG_take preGr (i := 13) (v := ?_) (by kernel_rfl) (some 20) (by kernel_rfl) rfl (by kernel_rfl) (by kernel_rfl) (by kernel_rfl) (fun _ _ _ h => h) (by rfl) (fun w' hw' => ?_) rfl ?_
  rotate_left
  · try (have hq2 := cellsQ (heap_gr (Gr.trans HC.out hw') HQ.out); obtain ⟨k0, k1, k2⟩ := hq2)
    go_simp
    with_reducible rfl
  simp only [Act.put, List.setIfInBounds_toArray, List.set_cons_zero, List.set_cons_succ]
  -- 14: slot 21
  refine wpG_take preGr (i := 14) (v := ?_) (by kernel_rfl) (some 21) (by kernel_rfl) rfl (by kernel_rfl) (by kernel_rfl) (by kernel_rfl) (fun _ _ _ h => h) (by rfl) (fun w' hw' => ?_) rfl ?_
  rotate_left
  · try (have hq2 := cellsQ (heap_gr (Gr.trans HC.out hw') HQ.out); obtain ⟨k0, k1, k2⟩ := hq2)
    go_simp
    with_reducible rfl
  simp only [Act.put, List.setIfInBounds_toArray, List.set_cons_zero, List.set_cons_succ]
  -- 15: slot 22
  refine wpG_take preGr (i := 15) (v := ?_) (by kernel_rfl) (some 22) (by kernel_rfl) rfl (by kernel_rfl) (by kernel_rfl) (by kernel_rfl) (fun _ _ _ h => h) (by rfl) (fun w' hw' => ?_) rfl ?_
  rotate_left
  · try (have hq2 := cellsQ (heap_gr (Gr.trans HC.out hw') HQ.out); obtain ⟨k0, k1, k2⟩ := hq2)
    go_simp
    with_reducible rfl
  simp only [Act.put, List.setIfInBounds_toArray, List.set_cons_zero, List.set_cons_succ]
  -- 16: slot 23
  refine wpG_take preGr (i := 16) (v := ?_) (by kernel_rfl) (some 23) (by kernel_rfl) rfl (by kernel_rfl) (by kernel_rfl) (by kernel_rfl) (fun _ _ _ h => h) (by rfl) (fun w' hw' => ?_) rfl ?_
  rotate_left
  · try (have hq2 := cellsQ (heap_gr (Gr.trans HC.out hw') HQ.out); obtain ⟨k0, k1, k2⟩ := hq2)
    go_simp
    with_reducible rfl
  simp only [Act.put, List.setIfInBounds_toArray, List.set_cons_zero, List.set_cons_succ]
  -- 17: slot 24
  refine wpG_take preGr (i := 17) (v := ?_) (by kernel_rfl) (some 24) (by kernel_rfl) rfl (by kernel_rfl) (by kernel_rfl) (by kernel_rfl) (fun _ _ _ h => h) (by rfl) (fun w' hw' => ?_) rfl ?_
  rotate_left
  · refine Eq.trans (load_mid_run (P := Try.prog) 56 (.tmp 23) ?_ r (j * 2) ?_ (two y) _ (range_gr (Gr.trans HC.out hw') HJ.out) Try.underlying56 rfl sizeT) ?_
    · rfl
    · simp [go_sem]
    · with_reducible rfl
  simp only [Act.put, List.setIfInBounds_toArray, List.set_cons_zero, List.set_cons_succ]
  refine wpG_one (i := 18) rfl (by kernel_rfl) (by rfl) ?_
  go_simp
  refine (HCM.out wc).mono ?_
  rintro e wn ⟨rfl, os, q', hq'⟩
  have hgr : Gr wc wn := by
    rw [hq']
    refine ⟨rfl, rfl, rfl, ?_, fun k hk => ?_⟩
    · show wc.heap.size ≤ (wc.heap ++ q').size
      simp
    · show (wc.heap ++ q')[k]? = wc.heap[k]?
      rw [Array.getElem?_append_left hk]
  refine ⟨hgr, ?_⟩
  have HCN : Hid (Gr w wn) := Gr.trans HC.out hgr
  clear hgr hq'
  try simp only [Act.put, List.setIfInBounds_toArray, List.set_cons_zero, List.set_cons_succ]
  -- 19: slot 26
  refine wpG_take preGr (i := 19) (v := ?_) (by kernel_rfl) (some 26) (by kernel_rfl) rfl (by kernel_rfl) (by kernel_rfl) (by kernel_rfl) (fun _ _ _ h => h) (by rfl) (fun w' hw' => ?_) rfl ?_
  rotate_left
  · try (have hq2 := cellsQ (heap_gr (Gr.trans HC.out hw') HQ.out); obtain ⟨k0, k1, k2⟩ := hq2)
    go_simp
    with_reducible rfl
  simp only [Act.put, List.setIfInBounds_toArray, List.set_cons_zero, List.set_cons_succ]
  -- 20: slot 6
  refine wpG_take preGr (i := 20) (v := ?_) (by kernel_rfl) (some 6) (by kernel_rfl) rfl (by kernel_rfl) (by kernel_rfl) (by kernel_rfl) (fun _ _ _ h => h) (by rfl) (fun w' hw' => ?_) rfl ?_
  rotate_left
  · try (have hq2 := cellsQ (heap_gr (Gr.trans HC.out hw') HQ.out); obtain ⟨k0, k1, k2⟩ := hq2)
    go_simp
    with_reducible rfl
  simp only [Act.put, List.setIfInBounds_toArray, List.set_cons_zero, List.set_cons_succ]
  refine wpG_done (by kernel_rfl) ?_ _
  go_wp2
  go_ret
  rw [← HP.out]
  exact ⟨rfl, HCN.out⟩
end Go.Proofs.Ytmcifmgfgdahnaa.Tm
