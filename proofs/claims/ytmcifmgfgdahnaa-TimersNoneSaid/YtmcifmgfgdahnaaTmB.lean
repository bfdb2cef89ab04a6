/-
  Swap; Push, Pop: what the heap calls.
-/
import Derived.Test.YtmcifmgfgdahnaaTmA
import Derived.Test.YtmcifmgfgdahnaaGrowH
namespace Go.Proofs.Ytmcifmgfgdahnaa.Tm
open Go.RowKit
open Go.Proofs.Ytmcifmgfgdahnaa.Id (Tr Tr.refl Tr.gr Tr.only blk own_blk flatR flatR_len flatR_get flatR_cons flatR_append flatR_one flatR_cell RR)
set_option linter.unusedVariables false
set_option linter.unusedSimpArgs false

theorem tr_mono {K L : List Nat} {w w' : World} (h : Tr K w w') (hL : ∀ k ∈ K, k ∈ L) : Tr L w w' := ⟨h.os, h.tape, h.output, h.size, fun k hk hn => h.block k hk fun hk' => hn (hL k hk')⟩
/-- A queue whose places are those of its row. -/
def HQ (w : World) (g : Nat) (v : Value) (b : Nat) (q : List D) : Prop := ∃ f, QAt w g v b q f q.length ∧ Ties q f
theorem HQ.gr {w w' : World} {g b : Nat} {v : Value} {q : List D} (h : HQ w g v b q) (hb : Below w.heap.size w w') : HQ w' g v b q := by
  obtain ⟨f, h1, h2⟩ := h
  exact ⟨f, h1.gr hb, h2⟩
theorem HQ.tr {K : List Nat} {w w' : World} {g b : Nat} {v : Value} {q : List D} (h : HQ w g v b q) (ht : Tr K w w') (hd : ∀ k ∈ Fq g v b, k ∉ K) : HQ w' g v b q := by
  obtain ⟨f, h1, h2⟩ := h
  exact ⟨f, h1.tr ht hd, h2⟩
theorem HQ.lt {w : World} {g b : Nat} {v : Value} {q : List D} (h : HQ w g v b q) : ∀ k ∈ Fq g v b, k < w.heap.size := by
  obtain ⟨f, h1, h2⟩ := h
  exact h1.lt
theorem splice_row {cur : List Value} {q : List D} {cap i : Nat} (d : D) (hi : i < q.length) (h1 : q.length ≤ cap) (h3 : cur.length = cap * 2) (h4 : cur.take (q.length * 2) = flatR q) :
    (splice cur (i * 2) (two d)).length = cap * 2 ∧ (splice cur (i * 2) (two d)).take (q.length * 2) = flatR (q.set i d) := by
  unfold two
  rw [splice_two _ _ _ _ (by omega)]
  refine ⟨by simpa using h3, ?_⟩
  rw [List.take_set, List.take_set, h4, flatR_set q i d hi]
theorem swp_keys {q : List D} {i j : Nat} (hi : i < q.length) (hj : j < q.length) (h : ∀ d ∈ q, I64 d.1) : ∀ d ∈ swp q i j, I64 d.1 := fun d hd => h d ((swp_perm hi hj).mem_iff.1 hd)
theorem cell_two {w : World} {r o : Nat} {d : D} (h : w.rangeAt r o (two d)) : w.cell? ⟨r, o, none⟩ = some (.int .i64 d.1) := by
  simpa using h 0 _ rfl
set_option maxRecDepth 20000 in
set_option maxHeartbeats 4000000 in
theorem swap_any (g i j : Nat) {v : Value} {b : Nat} {q : List D} (w : World) (h : HQ w g v b q) (hi : i < q.length) (hj : j < q.length) :
    Calls Try.prog 80 #[.pointer (some ⟨g, 0, none⟩), .int .i64 (i : Int), .int .i64 (j : Int)] w fun e w' => e = .returned (.tuple #[]) ∧ HQ w' g v b (swp q i j) ∧ Tr (Fq g v b) w w' := by
  obtain ⟨f, hq, hf⟩ := h
  obtain ⟨r, cap, cur, ev, h1, h2, h3, h4, h5, h6⟩ := hq.own.open (by omega)
  subst ev
  have HI := Lib.hid (range_two h2 h6 hi)
  have HJ := Lib.hid (range_two h2 h6 hj)
  have HROW := Lib.hid hq.row
  have HCUR := Lib.hid h2
  have HH := Lib.hid hq
  obtain ⟨L, hL⟩ : ∃ L, L = q.length := ⟨_, rfl⟩
  have HL := Lib.hid hL
  have hfew := hq.few.1
  have hne := hq.ne
  have hrg : r ≠ g := (hne.2 r (by simp [blk])).1
  have hrb : r ≠ b := (hne.2 r (by simp [blk])).2
  have HNE : Hid (r ≠ g ∧ r ≠ b ∧ b ≠ g) := ⟨hrg, hrb, hne.1⟩
  obtain ⟨x, hx⟩ : ∃ x, x = at_ q i := ⟨_, rfl⟩
  obtain ⟨y, hy⟩ : ∃ y, y = at_ q j := ⟨_, rfl⟩
  have HX := Lib.hid hx
  have HY := Lib.hid hy
  obtain ⟨c1, d1⟩ := splice_row y hi h3 h5 h6
  have c2 := (splice_row (q := q.set i y) (i := j) x (by simpa using hj) (by simpa using h3) c1 (by simpa using d1))
  obtain ⟨cur1, hcur1⟩ : ∃ c, c = splice cur (i * 2) (two y) := ⟨_, rfl⟩
  rw [← hcur1] at c1 c2
  obtain ⟨cur2, hcur2⟩ : ∃ c, c = splice cur1 (j * 2) (two x) := ⟨_, rfl⟩
  rw [← hcur2] at c2
  have HC1 := Lib.hid hcur1
  have HC2 := Lib.hid hcur2
  have hsw : (q.set i y).set j x = swp q i j := by rw [hx, hy]; rfl
  rw [hsw, List.length_set] at c2
  have HFIN : Hid (cur2.length = cap * 2 ∧ cur2.take (q.length * 2) = flatR (swp q i j) ∧ q.length ≤ cap ∧ cap ≤ maxLen) := ⟨c2.1, c2.2, h3, h4⟩
  have HFIT1 : Hid (i * 2 + (two y).length ≤ cur.length) := by show _ + 2 ≤ _; omega
  have HFIT2 : Hid (j * 2 + (two x).length ≤ cur1.length) := by show _ + 2 ≤ _; omega
  have HF := Lib.hid hf
  have HIJ : Hid (i < q.length ∧ j < q.length) := ⟨hi, hj⟩
  have HKI : Hid (I64 x.1 ∧ I64 y.1) := by
    rw [hx, hy, at_get hi, at_get hj]
    exact ⟨hq.keys _ (List.getElem_mem _), hq.keys _ (List.getElem_mem _)⟩
  rw [← hL] at hi hj h3 HROW hfew
  rw [← hx] at HI
  rw [← hy] at HJ
  have x1 : (i : Int) ≤ 9223372036854775807 := by omega
  have x2 : (j : Int) ≤ 9223372036854775807 := by omega
  have HX1 := Lib.hid x1
  have HX2 := Lib.hid x2
  clear hq h1 h2 h4 h5 h6 hx hy hL hf hne hrg hrb c1 d1 c2 hcur1 hcur2 hsw x1 x2
  go_enter Try.func80, Try.ntmps80
  go_upto_region 0 with fail
  have HC : Hid (Gr w w.drew) := Gr.drew w
  refine wp_region_H 24 Gr Any (by kernel_rfl) ?_
  generalize w.drew = wc at HC ⊢
  -- 0: slot 6
  refine wpH_take preGr preAny (i := 0) (v := ?_) (by kernel_rfl) (some 6) (by kernel_rfl) rfl (by kernel_rfl) (by kernel_rfl) (by kernel_rfl) (fun _ _ _ h => h) (by rfl) (fun w' hw' => ?_) rfl ?_
  rotate_left
  · try (have hq2 := cellsQ (heap_gr (Gr.trans HC.out hw') HROW.out); obtain ⟨k0, k1, k2⟩ := hq2)
    go_simp
    with_reducible rfl
  simp only [Act.put, List.setIfInBounds_toArray, List.set_cons_zero, List.set_cons_succ]
  -- 1: slot 7
  refine wpH_take preGr preAny (i := 1) (v := ?_) (by kernel_rfl) (some 7) (by kernel_rfl) rfl (by kernel_rfl) (by kernel_rfl) (by kernel_rfl) (fun _ _ _ h => h) (by rfl) (fun w' hw' => ?_) rfl ?_
  rotate_left
  · try (have hq2 := cellsQ (heap_gr (Gr.trans HC.out hw') HROW.out); obtain ⟨k0, k1, k2⟩ := hq2)
    go_simp
    with_reducible rfl
  simp only [Act.put, List.setIfInBounds_toArray, List.set_cons_zero, List.set_cons_succ]
  -- 2: slot 8
  refine wpH_take preGr preAny (i := 2) (v := ?_) (by kernel_rfl) (some 8) (by kernel_rfl) rfl (by kernel_rfl) (by kernel_rfl) (by kernel_rfl) (fun _ _ _ h => h) (by rfl) (fun w' hw' => ?_) rfl ?_
  rotate_left
  · try (have hq2 := cellsQ (heap_gr (Gr.trans HC.out hw') HROW.out); obtain ⟨k0, k1, k2⟩ := hq2)
    go_simp
    with_reducible rfl
  simp only [Act.put, List.setIfInBounds_toArray, List.set_cons_zero, List.set_cons_succ]
  -- 3: slot 9
  refine wpH_take preGr preAny (i := 3) (v := ?_) (by kernel_rfl) (some 9) (by kernel_rfl) rfl (by kernel_rfl) (by kernel_rfl) (by kernel_rfl) (fun _ _ _ h => h) (by rfl) (fun w' hw' => ?_) rfl ?_
  rotate_left
  · try (have hq2 := cellsQ (heap_gr (Gr.trans HC.out hw') HROW.out); obtain ⟨k0, k1, k2⟩ := hq2)
    go_simp
    with_reducible rfl
  simp only [Act.put, List.setIfInBounds_toArray, List.set_cons_zero, List.set_cons_succ]
  -- 4: slot 10
  refine wpH_take preGr preAny (i := 4) (v := ?_) (by kernel_rfl) (some 10) (by kernel_rfl) rfl (by kernel_rfl) (by kernel_rfl) (by kernel_rfl) (fun _ _ _ h => h) (by rfl) (fun w' hw' => ?_) rfl ?_
  rotate_left
  · try (have hq2 := cellsQ (heap_gr (Gr.trans HC.out hw') HROW.out); obtain ⟨k0, k1, k2⟩ := hq2)
    go_simp
    with_reducible rfl
  simp only [Act.put, List.setIfInBounds_toArray, List.set_cons_zero, List.set_cons_succ]
  -- 5: slot 11
  refine wpH_take preGr preAny (i := 5) (v := ?_) (by kernel_rfl) (some 11) (by kernel_rfl) rfl (by kernel_rfl) (by kernel_rfl) (by kernel_rfl) (fun _ _ _ h => h) (by rfl) (fun w' hw' => ?_) rfl ?_
  rotate_left
  · try (have hq2 := cellsQ (heap_gr (Gr.trans HC.out hw') HROW.out); obtain ⟨k0, k1, k2⟩ := hq2)
    go_simp
    with_reducible rfl
  simp only [Act.put, List.setIfInBounds_toArray, List.set_cons_zero, List.set_cons_succ]
  -- 6: slot 12
  refine wpH_take preGr preAny (i := 6) (v := ?_) (by kernel_rfl) (some 12) (by kernel_rfl) rfl (by kernel_rfl) (by kernel_rfl) (by kernel_rfl) (fun _ _ _ h => h) (by rfl) (fun w' hw' => ?_) rfl ?_
  rotate_left
  · try (have hq2 := cellsQ (heap_gr (Gr.trans HC.out hw') HROW.out); obtain ⟨k0, k1, k2⟩ := hq2)
    go_simp
    with_reducible rfl
  simp only [Act.put, List.setIfInBounds_toArray, List.set_cons_zero, List.set_cons_succ]
  -- 7: slot 13
  refine wpH_take preGr preAny (i := 7) (v := ?_) (by kernel_rfl) (some 13) (by kernel_rfl) rfl (by kernel_rfl) (by kernel_rfl) (by kernel_rfl) (fun _ _ _ h => h) (by rfl) (fun w' hw' => ?_) rfl ?_
  rotate_left
  · try (have hq2 := cellsQ (heap_gr (Gr.trans HC.out hw') HROW.out); obtain ⟨k0, k1, k2⟩ := hq2)
    go_simp
    with_reducible rfl
  simp only [Act.put, List.setIfInBounds_toArray, List.set_cons_zero, List.set_cons_succ]
  -- 8: slot 14
  refine wpH_take preGr preAny (i := 8) (v := ?_) (by kernel_rfl) (some 14) (by kernel_rfl) rfl (by kernel_rfl) (by kernel_rfl) (by kernel_rfl) (fun _ _ _ h => h) (by rfl) (fun w' hw' => ?_) rfl ?_
  rotate_left
  · try (have hq2 := cellsQ (heap_gr (Gr.trans HC.out hw') HROW.out); obtain ⟨k0, k1, k2⟩ := hq2)
    go_simp
    with_reducible rfl
  simp only [Act.put, List.setIfInBounds_toArray, List.set_cons_zero, List.set_cons_succ]
  -- 9: slot 15
  refine wpH_takeH preGr preAny (i := 9) (v := ?_) (some 15) (by kernel_rfl) rfl (by kernel_rfl) (by kernel_rfl) (by kernel_rfl) (fun _ _ _ h => h) (by rfl) (fun w' hw' => ?_) rfl ?_
  rotate_left
  · go_simp
    with_reducible rfl
  simp only [Act.put, List.setIfInBounds_toArray, List.set_cons_zero, List.set_cons_succ]
  -- 10: slot 16
  refine wpH_take preGr preAny (i := 10) (v := ?_) (by kernel_rfl) (some 16) (by kernel_rfl) rfl (by kernel_rfl) (by kernel_rfl) (by kernel_rfl) (fun _ _ _ h => h) (by rfl) (fun w' hw' => ?_) rfl ?_
  rotate_left
  · try (have hq2 := cellsQ (heap_gr (Gr.trans HC.out hw') HROW.out); obtain ⟨k0, k1, k2⟩ := hq2)
    go_simp
    with_reducible rfl
  simp only [Act.put, List.setIfInBounds_toArray, List.set_cons_zero, List.set_cons_succ]
  -- 11: slot 17
  refine wpH_take preGr preAny (i := 11) (v := ?_) (by kernel_rfl) (some 17) (by kernel_rfl) rfl (by kernel_rfl) (by kernel_rfl) (by kernel_rfl) (fun _ _ _ h => h) (by rfl) (fun w' hw' => ?_) rfl ?_
  rotate_left
  · try (have hq2 := cellsQ (heap_gr (Gr.trans HC.out hw') HROW.out); obtain ⟨k0, k1, k2⟩ := hq2)
    go_simp
    with_reducible rfl
  simp only [Act.put, List.setIfInBounds_toArray, List.set_cons_zero, List.set_cons_succ]
  -- 12: slot 18
  refine wpH_take preGr preAny (i := 12) (v := ?_) (by kernel_rfl) (some 18) (by kernel_rfl) rfl (by kernel_rfl) (by kernel_rfl) (by kernel_rfl) (fun _ _ _ h => h) (by rfl) (fun w' hw' => ?_) rfl ?_
  rotate_left
  · try (have hq2 := cellsQ (heap_gr (Gr.trans HC.out hw') HROW.out); obtain ⟨k0, k1, k2⟩ := hq2)
    go_simp
    with_reducible rfl
  simp only [Act.put, List.setIfInBounds_toArray, List.set_cons_zero, List.set_cons_succ]
  -- 13: slot 19
  refine wpH_take preGr preAny (i := 13) (v := ?_) (by kernel_rfl) (some 19) (by kernel_rfl) rfl (by kernel_rfl) (by kernel_rfl) (by kernel_rfl) (fun _ _ _ h => h) (by rfl) (fun w' hw' => ?_) rfl ?_
  rotate_left
  · try (have hq2 := cellsQ (heap_gr (Gr.trans HC.out hw') HROW.out); obtain ⟨k0, k1, k2⟩ := hq2)
    go_simp
    with_reducible rfl
  simp only [Act.put, List.setIfInBounds_toArray, List.set_cons_zero, List.set_cons_succ]
  -- 14: slot 20
  refine wpH_take preGr preAny (i := 14) (v := ?_) (by kernel_rfl) (some 20) (by kernel_rfl) rfl (by kernel_rfl) (by kernel_rfl) (by kernel_rfl) (fun _ _ _ h => h) (by rfl) (fun w' hw' => ?_) rfl ?_
  rotate_left
  · try (have hq2 := cellsQ (heap_gr (Gr.trans HC.out hw') HROW.out); obtain ⟨k0, k1, k2⟩ := hq2)
    go_simp
    with_reducible rfl
  simp only [Act.put, List.setIfInBounds_toArray, List.set_cons_zero, List.set_cons_succ]
  -- 15: slot 21
  refine wpH_take preGr preAny (i := 15) (v := ?_) (by kernel_rfl) (some 21) (by kernel_rfl) rfl (by kernel_rfl) (by kernel_rfl) (by kernel_rfl) (fun _ _ _ h => h) (by rfl) (fun w' hw' => ?_) rfl ?_
  rotate_left
  · try (have hq2 := cellsQ (heap_gr (Gr.trans HC.out hw') HROW.out); obtain ⟨k0, k1, k2⟩ := hq2)
    go_simp
    with_reducible rfl
  simp only [Act.put, List.setIfInBounds_toArray, List.set_cons_zero, List.set_cons_succ]
  -- 16: slot 22
  refine wpH_take preGr preAny (i := 16) (v := ?_) (by kernel_rfl) (some 22) (by kernel_rfl) rfl (by kernel_rfl) (by kernel_rfl) (by kernel_rfl) (fun _ _ _ h => h) (by rfl) (fun w' hw' => ?_) rfl ?_
  rotate_left
  · refine Eq.trans (load_mid_run (P := Try.prog) 56 (.tmp 21) ?_ r (j * 2) ?_ (two y) _ (range_gr (Gr.trans HC.out hw') HJ.out) Try.underlying56 rfl sizeT) ?_
    · rfl
    · simp [go_sem]
    · with_reducible rfl
  simp only [Act.put, List.setIfInBounds_toArray, List.set_cons_zero, List.set_cons_succ]
  -- 17: slot 23
  refine wpH_take preGr preAny (i := 17) (v := ?_) (by kernel_rfl) (some 23) (by kernel_rfl) rfl (by kernel_rfl) (by kernel_rfl) (by kernel_rfl) (fun _ _ _ h => h) (by rfl) (fun w' hw' => ?_) rfl ?_
  rotate_left
  · try (have hq2 := cellsQ (heap_gr (Gr.trans HC.out hw') HROW.out); obtain ⟨k0, k1, k2⟩ := hq2)
    go_simp
    with_reducible rfl
  simp only [Act.put, List.setIfInBounds_toArray, List.set_cons_zero, List.set_cons_succ]
  -- 18: slot 24
  refine wpH_take preGr preAny (i := 18) (v := ?_) (by kernel_rfl) (some 24) (by kernel_rfl) rfl (by kernel_rfl) (by kernel_rfl) (by kernel_rfl) (fun _ _ _ h => h) (by rfl) (fun w' hw' => ?_) rfl ?_
  rotate_left
  · try (have hq2 := cellsQ (heap_gr (Gr.trans HC.out hw') HROW.out); obtain ⟨k0, k1, k2⟩ := hq2)
    go_simp
    with_reducible rfl
  simp only [Act.put, List.setIfInBounds_toArray, List.set_cons_zero, List.set_cons_succ]
  -- 19: slot 25
  refine wpH_take preGr preAny (i := 19) (v := ?_) (by kernel_rfl) (some 25) (by kernel_rfl) rfl (by kernel_rfl) (by kernel_rfl) (by kernel_rfl) (fun _ _ _ h => h) (by rfl) (fun w' hw' => ?_) rfl ?_
  rotate_left
  · try (have hq2 := cellsQ (heap_gr (Gr.trans HC.out hw') HROW.out); obtain ⟨k0, k1, k2⟩ := hq2)
    go_simp
    with_reducible rfl
  simp only [Act.put, List.setIfInBounds_toArray, List.set_cons_zero, List.set_cons_succ]
  -- 20: slot 26
  refine wpH_take preGr preAny (i := 20) (v := ?_) (by kernel_rfl) (some 26) (by kernel_rfl) rfl (by kernel_rfl) (by kernel_rfl) (by kernel_rfl) (fun _ _ _ h => h) (by rfl) (fun w' hw' => ?_) rfl ?_
  rotate_left
  · try (have hq2 := cellsQ (heap_gr (Gr.trans HC.out hw') HROW.out); obtain ⟨k0, k1, k2⟩ := hq2)
    go_simp
    with_reducible rfl
  simp only [Act.put, List.setIfInBounds_toArray, List.set_cons_zero, List.set_cons_succ]
  -- 21: slot 27
  refine wpH_take preGr preAny (i := 21) (v := ?_) (by kernel_rfl) (some 27) (by kernel_rfl) rfl (by kernel_rfl) (by kernel_rfl) (by kernel_rfl) (fun _ _ _ h => h) (by rfl) (fun w' hw' => ?_) rfl ?_
  rotate_left
  · try (have hq2 := cellsQ (heap_gr (Gr.trans HC.out hw') HROW.out); obtain ⟨k0, k1, k2⟩ := hq2)
    go_simp
    with_reducible rfl
  simp only [Act.put, List.setIfInBounds_toArray, List.set_cons_zero, List.set_cons_succ]
  -- 22: slot 28
  refine wpH_take preGr preAny (i := 22) (v := ?_) (by kernel_rfl) (some 28) (by kernel_rfl) rfl (by kernel_rfl) (by kernel_rfl) (by kernel_rfl) (fun _ _ _ h => h) (by rfl) (fun w' hw' => ?_) rfl ?_
  rotate_left
  · try (have hq2 := cellsQ (heap_gr (Gr.trans HC.out hw') HROW.out); obtain ⟨k0, k1, k2⟩ := hq2)
    go_simp
    with_reducible rfl
  simp only [Act.put, List.setIfInBounds_toArray, List.set_cons_zero, List.set_cons_succ]
  -- 23: slot 29
  refine wpH_take preGr preAny (i := 23) (v := ?_) (by kernel_rfl) (some 29) (by kernel_rfl) rfl (by kernel_rfl) (by kernel_rfl) (by kernel_rfl) (fun _ _ _ h => h) (by rfl) (fun w' hw' => ?_) rfl ?_
  rotate_left
  · refine Eq.trans (load_mid_run (P := Try.prog) 56 (.tmp 28) ?_ r (i * 2) ?_ (two x) _ (range_gr (Gr.trans HC.out hw') HI.out) Try.underlying56 rfl sizeT) ?_
    · rfl
    · simp [go_sem]
    · with_reducible rfl
  simp only [Act.put, List.setIfInBounds_toArray, List.set_cons_zero, List.set_cons_succ]
  refine wpH_tail (i := 24) (by decide) rfl (by kernel_rfl) (by rfl) ?_
  go_simp
  refine ⟨(pre_refl preAny _), ?_⟩
  try simp only [Act.put, List.setIfInBounds_toArray, List.set_cons_zero, List.set_cons_succ]
  refine wpH_tail (i := 25) (by decide) rfl (by kernel_rfl) (by rfl) ?_
  refine wp_store_splice (none) 56 (.tmp 30) (.tmp 22) rfl r (i * 2) (two y) ?_ rfl 56 cur (heap_gr HC.out HCUR.out) sizeT HFIT1.out (two_cell _) rfl ?_
  · simp [go_sem]
  intro w3 h3 ho3
  rw [← HC1.out] at h3
  have HW3 := Lib.hid h3
  have HO3 := Lib.hid ho3
  clear h3 ho3
  refine ⟨trivial, ?_⟩
  try simp only [Act.put, List.setIfInBounds_toArray, List.set_cons_zero, List.set_cons_succ]
  refine wpH_tail (i := 26) (by decide) rfl (by kernel_rfl) (by rfl) ?_
  go_simp
  refine ⟨(pre_refl preAny _), ?_⟩
  try simp only [Act.put, List.setIfInBounds_toArray, List.set_cons_zero, List.set_cons_succ]
  refine wpH_tail (i := 27) (by decide) rfl (by kernel_rfl) (by rfl) ?_
  refine wp_store_splice (none) 56 (.tmp 31) (.tmp 29) rfl r (j * 2) (two x) ?_ rfl 56 cur1 HW3.out sizeT HFIT2.out (two_cell _) rfl ?_
  · simp [go_sem]
  intro w4 h4 ho4
  rw [← HC2.out] at h4
  have HW4 := Lib.hid h4
  have HO4 := Lib.hid ho4
  clear h4 ho4
  refine ⟨trivial, ?_⟩
  try simp only [Act.put, List.setIfInBounds_toArray, List.set_cons_zero, List.set_cons_succ]
  refine wpH_done (by kernel_rfl) ?_ _
  have HT1 : Hid (Tr [r] w w4) := ((Tr.gr (K := [r]) HC.out).trans (Tr.only HO3.out (by simp)) (fun k hk => .inl hk)).trans (Tr.only HO4.out (by simp)) (fun k hk => .inl hk)
  have HQ4 : Hid (QAt w4 g (.slice (some ⟨r, 0, none⟩) q.length cap) b (swp q i j) f q.length) := by
    refine ⟨?_, ?_, ?_, ?_, swp_keys HIJ.out.1 HIJ.out.2 HH.out.keys⟩
    · exact HT1.out.heap HH.out.row fun h => HNE.out.1 (List.mem_singleton.1 h).symm
    · unfold Rw
      rw [swp_length]
      exact own_shut HW4.out HFIN.out.2.2.1 HFIN.out.2.2.2 HFIN.out.1 HFIN.out.2.1
    · exact HH.out.map.keep (HT1.out.block b HH.out.map.lt fun h => HNE.out.2.1 (List.mem_singleton.1 h).symm)
    · rw [swp_length]; exact HH.out.few
  have hij := HIJ.out
  have HZI : Hid (at_ (swp q i j) i = y ∧ at_ (swp q i j) j = x) := by
    rw [at_swp hij.1 hij.2, at_swp hij.1 hij.2, if_pos rfl, ← HX.out, ← HY.out]
    refine ⟨?_, if_pos rfl⟩
    by_cases e : i = j
    · rw [if_pos e, HX.out, HY.out, e]
    · rw [if_neg e]
  have HR4 : Hid (w4.rangeAt r (i * 2) (two y) ∧ w4.rangeAt r (j * 2) (two x)) := by
    have g1 := range_two (q := swp q i j) (i := i) HW4.out (by rw [swp_length]; exact HFIN.out.2.1) (by rw [swp_length]; exact hij.1)
    have g2 := range_two (q := swp q i j) (i := j) HW4.out (by rw [swp_length]; exact HFIN.out.2.1) (by rw [swp_length]; exact hij.2)
    rw [HZI.out.1] at g1
    rw [HZI.out.2] at g2
    exact ⟨g1, g2⟩
  have HY1 : Hid ((f y.1).isSome = true ∧ (upd f y.1 (some i) x.1).isSome = true) := by
    have a := (HF.out y.1 j).2 ⟨hij.2, by rw [HY.out]⟩
    have b := (HF.out x.1 i).2 ⟨hij.1, by rw [HX.out]⟩
    refine ⟨by rw [a]; rfl, ?_⟩
    unfold upd
    split
    · rfl
    · rw [b]; rfl
  have HN : Hid (q.length < maxLen) := by show _ < _; rw [← HL.out]; unfold maxLen; omega
  clear hij HC HO3 HO4 HW3 HI HJ HROW HCUR HFIT1 HFIT2 HH HC1 HC2
  have HROW := Lib.hid HQ4.out.row
  rw [← HL.out] at HROW
  go_upto_region 1 with fail
  have HC : Hid (Gr w4 w4.drew) := Gr.drew w4
  refine wp_region_G 13 Gr (by kernel_rfl) ?_
  generalize w4.drew = wc at HC ⊢
  -- 0: slot 32
  refine wpG_take preGr (i := 0) (v := ?_) (by kernel_rfl) (some 32) (by kernel_rfl) rfl (by kernel_rfl) (by kernel_rfl) (by kernel_rfl) (fun _ _ _ h => h) (by rfl) (fun w' hw' => ?_) rfl ?_
  rotate_left
  · try (have hq2 := cellsQ (heap_gr (Gr.trans HC.out hw') HROW.out); obtain ⟨k0, k1, k2⟩ := hq2; have hx := cell_two (range_gr (Gr.trans HC.out hw') HR4.out.1))
    go_simp
    with_reducible rfl
  simp only [Act.put, List.setIfInBounds_toArray, List.set_cons_zero, List.set_cons_succ]
  -- 1: slot 33
  refine wpG_take preGr (i := 1) (v := ?_) (by kernel_rfl) (some 33) (by kernel_rfl) rfl (by kernel_rfl) (by kernel_rfl) (by kernel_rfl) (fun _ _ _ h => h) (by rfl) (fun w' hw' => ?_) rfl ?_
  rotate_left
  · try (have hq2 := cellsQ (heap_gr (Gr.trans HC.out hw') HROW.out); obtain ⟨k0, k1, k2⟩ := hq2; have hx := cell_two (range_gr (Gr.trans HC.out hw') HR4.out.1))
    go_simp
    with_reducible rfl
  simp only [Act.put, List.setIfInBounds_toArray, List.set_cons_zero, List.set_cons_succ]
  -- 2: slot 34
  refine wpG_take preGr (i := 2) (v := ?_) (by kernel_rfl) (some 34) (by kernel_rfl) rfl (by kernel_rfl) (by kernel_rfl) (by kernel_rfl) (fun _ _ _ h => h) (by rfl) (fun w' hw' => ?_) rfl ?_
  rotate_left
  · try (have hq2 := cellsQ (heap_gr (Gr.trans HC.out hw') HROW.out); obtain ⟨k0, k1, k2⟩ := hq2; have hx := cell_two (range_gr (Gr.trans HC.out hw') HR4.out.1))
    go_simp
    with_reducible rfl
  simp only [Act.put, List.setIfInBounds_toArray, List.set_cons_zero, List.set_cons_succ]
  -- 3: slot 35
  refine wpG_take preGr (i := 3) (v := ?_) (by kernel_rfl) (some 35) (by kernel_rfl) rfl (by kernel_rfl) (by kernel_rfl) (by kernel_rfl) (fun _ _ _ h => h) (by rfl) (fun w' hw' => ?_) rfl ?_
  rotate_left
  · try (have hq2 := cellsQ (heap_gr (Gr.trans HC.out hw') HROW.out); obtain ⟨k0, k1, k2⟩ := hq2; have hx := cell_two (range_gr (Gr.trans HC.out hw') HR4.out.1))
    go_simp
    with_reducible rfl
  simp only [Act.put, List.setIfInBounds_toArray, List.set_cons_zero, List.set_cons_succ]
  -- 4: slot 36
  refine wpG_take preGr (i := 4) (v := ?_) (by kernel_rfl) (some 36) (by kernel_rfl) rfl (by kernel_rfl) (by kernel_rfl) (by kernel_rfl) (fun _ _ _ h => h) (by rfl) (fun w' hw' => ?_) rfl ?_
  rotate_left
  · try (have hq2 := cellsQ (heap_gr (Gr.trans HC.out hw') HROW.out); obtain ⟨k0, k1, k2⟩ := hq2; have hx := cell_two (range_gr (Gr.trans HC.out hw') HR4.out.1))
    go_simp
    with_reducible rfl
  simp only [Act.put, List.setIfInBounds_toArray, List.set_cons_zero, List.set_cons_succ]
  -- 5: slot 37
  refine wpG_take preGr (i := 5) (v := ?_) (by kernel_rfl) (some 37) (by kernel_rfl) rfl (by kernel_rfl) (by kernel_rfl) (by kernel_rfl) (fun _ _ _ h => h) (by rfl) (fun w' hw' => ?_) rfl ?_
  rotate_left
  · try (have hq2 := cellsQ (heap_gr (Gr.trans HC.out hw') HROW.out); obtain ⟨k0, k1, k2⟩ := hq2; have hx := cell_two (range_gr (Gr.trans HC.out hw') HR4.out.1))
    go_simp
    with_reducible rfl
  simp only [Act.put, List.setIfInBounds_toArray, List.set_cons_zero, List.set_cons_succ]
  -- 6: slot 38
  refine wpG_take preGr (i := 6) (v := ?_) (by kernel_rfl) (some 38) (by kernel_rfl) rfl (by kernel_rfl) (by kernel_rfl) (by kernel_rfl) (fun _ _ _ h => h) (by rfl) (fun w' hw' => ?_) rfl ?_
  rotate_left
  · try (have hq2 := cellsQ (heap_gr (Gr.trans HC.out hw') HROW.out); obtain ⟨k0, k1, k2⟩ := hq2; have hx := cell_two (range_gr (Gr.trans HC.out hw') HR4.out.1))
    go_simp
    with_reducible rfl
  simp only [Act.put, List.setIfInBounds_toArray, List.set_cons_zero, List.set_cons_succ]
  -- 7: slot 39
  refine wpG_take preGr (i := 7) (v := ?_) (by kernel_rfl) (some 39) (by kernel_rfl) rfl (by kernel_rfl) (by kernel_rfl) (by kernel_rfl) (fun _ _ _ h => h) (by rfl) (fun w' hw' => ?_) rfl ?_
  rotate_left
  · try (have hq2 := cellsQ (heap_gr (Gr.trans HC.out hw') HROW.out); obtain ⟨k0, k1, k2⟩ := hq2; have hx := cell_two (range_gr (Gr.trans HC.out hw') HR4.out.1))
    go_simp
    with_reducible rfl
  simp only [Act.put, List.setIfInBounds_toArray, List.set_cons_zero, List.set_cons_succ]
  -- 8: slot 40
  refine wpG_take preGr (i := 8) (v := ?_) (by kernel_rfl) (some 40) (by kernel_rfl) rfl (by kernel_rfl) (by kernel_rfl) (by kernel_rfl) (fun _ _ _ h => h) (by rfl) (fun w' hw' => ?_) rfl ?_
  rotate_left
  · try (have hq2 := cellsQ (heap_gr (Gr.trans HC.out hw') HROW.out); obtain ⟨k0, k1, k2⟩ := hq2; have hx := cell_two (range_gr (Gr.trans HC.out hw') HR4.out.1))
    go_simp
    with_reducible rfl
  simp only [Act.put, List.setIfInBounds_toArray, List.set_cons_zero, List.set_cons_succ]
  -- 9: slot 41
  refine wpG_take preGr (i := 9) (v := ?_) (by kernel_rfl) (some 41) (by kernel_rfl) rfl (by kernel_rfl) (by kernel_rfl) (by kernel_rfl) (fun _ _ _ h => h) (by rfl) (fun w' hw' => ?_) rfl ?_
  rotate_left
  · try (have hq2 := cellsQ (heap_gr (Gr.trans HC.out hw') HROW.out); obtain ⟨k0, k1, k2⟩ := hq2; have hx := cell_two (range_gr (Gr.trans HC.out hw') HR4.out.1))
    go_simp
    with_reducible rfl
  simp only [Act.put, List.setIfInBounds_toArray, List.set_cons_zero, List.set_cons_succ]
  -- 10: slot 42
  refine wpG_take preGr (i := 10) (v := ?_) (by kernel_rfl) (some 42) (by kernel_rfl) rfl (by kernel_rfl) (by kernel_rfl) (by kernel_rfl) (fun _ _ _ h => h) (by rfl) (fun w' hw' => ?_) rfl ?_
  rotate_left
  · try (have hq2 := cellsQ (heap_gr (Gr.trans HC.out hw') HROW.out); obtain ⟨k0, k1, k2⟩ := hq2; have hx := cell_two (range_gr (Gr.trans HC.out hw') HR4.out.1))
    go_simp
    with_reducible rfl
  simp only [Act.put, List.setIfInBounds_toArray, List.set_cons_zero, List.set_cons_succ]
  -- 11: slot 43
  refine wpG_take preGr (i := 11) (v := ?_) (by kernel_rfl) (some 43) (by kernel_rfl) rfl (by kernel_rfl) (by kernel_rfl) (by kernel_rfl) (fun _ _ _ h => h) (by rfl) (fun w' hw' => ?_) rfl ?_
  rotate_left
  · try (have hq2 := cellsQ (heap_gr (Gr.trans HC.out hw') HROW.out); obtain ⟨k0, k1, k2⟩ := hq2; have hx := cell_two (range_gr (Gr.trans HC.out hw') HR4.out.1))
    go_simp
    with_reducible rfl
  simp only [Act.put, List.setIfInBounds_toArray, List.set_cons_zero, List.set_cons_succ]
  -- 12: slot 44
  refine wpG_take preGr (i := 12) (v := ?_) (by kernel_rfl) (some 44) (by kernel_rfl) rfl (by kernel_rfl) (by kernel_rfl) (by kernel_rfl) (fun _ _ _ h => h) (by rfl) (fun w' hw' => ?_) rfl ?_
  rotate_left
  · try (have hq2 := cellsQ (heap_gr (Gr.trans HC.out hw') HROW.out); obtain ⟨k0, k1, k2⟩ := hq2; have hx := cell_two (range_gr (Gr.trans HC.out hw') HR4.out.1))
    go_simp
    with_reducible rfl
  simp only [Act.put, List.setIfInBounds_toArray, List.set_cons_zero, List.set_cons_succ]
  refine wpG_tail (i := 13) (by decide) rfl (by kernel_rfl) (by rfl) ?_
  refine wp_mapUpdate_fm (none) (.tmp 35) (.tmp 43) (.tmp 44) rfl b q.length f y.1 i ?_ ?_ ?_ (HQ4.out.gr HC.out).map HKI.out.2 HX1.out HN.out rfl ?_
  · rfl
  · rfl
  · rfl
  intro w5 h5 ho5
  rw [HY1.out.1, if_pos rfl] at h5
  have HM5 := Lib.hid h5
  have HO5 := Lib.hid ho5
  clear h5 ho5
  try simp only [Act.put, List.setIfInBounds_toArray, List.set_cons_zero, List.set_cons_succ]
  refine wpG_done (by kernel_rfl) ?_ _
  have HT5 : Hid (Tr [b] w4 w5) := (Tr.gr (K := [b]) HC.out).trans HO5.out (fun k hk => .inl hk)
  have HNG : Hid (∀ k ∈ g :: blk (.slice (some ⟨r, 0, none⟩) q.length cap), k ∉ [b]) := by
    intro k hk h
    obtain rfl := List.mem_singleton.1 h
    simp only [blk, List.mem_cons, List.not_mem_nil, or_false] at hk
    rcases hk with hk | hk
    · exact HNE.out.2.2 hk
    · exact HNE.out.2.1 hk.symm
  have HQ5 : Hid (QAt w5 g (.slice (some ⟨r, 0, none⟩) q.length cap) b (swp q i j) (upd f y.1 (some i)) q.length) :=
    ⟨HT5.out.heap HQ4.out.row (HNG.out g (by simp)), own_keep HQ4.out.own fun k hk => HT5.out.block k (own_blk_lt HQ4.out.own hk) (HNG.out k (by simp [hk])), HM5.out, HQ4.out.few, HQ4.out.keys⟩
  have HR5 : Hid (w5.rangeAt r (j * 2) (two x)) := fun k u hu => HT5.out.cell (by simpa using HNE.out.2.1) (HR4.out.2 k u hu)
  have HROW5 := Lib.hid HQ5.out.row
  rw [← HL.out] at HROW5
  clear HC HO5 HROW HR4
  go_upto_region 2 with fail
  have HC : Hid (Gr w5 w5.drew) := Gr.drew w5
  refine wp_region_G 13 Gr (by kernel_rfl) ?_
  generalize w5.drew = wc at HC ⊢
  -- 0: slot 45
  refine wpG_take preGr (i := 0) (v := ?_) (by kernel_rfl) (some 45) (by kernel_rfl) rfl (by kernel_rfl) (by kernel_rfl) (by kernel_rfl) (fun _ _ _ h => h) (by rfl) (fun w' hw' => ?_) rfl ?_
  rotate_left
  · try (have hq2 := cellsQ (heap_gr (Gr.trans HC.out hw') HROW5.out); obtain ⟨k0, k1, k2⟩ := hq2; have hx := cell_two (range_gr (Gr.trans HC.out hw') HR5.out))
    go_simp
    with_reducible rfl
  simp only [Act.put, List.setIfInBounds_toArray, List.set_cons_zero, List.set_cons_succ]
  -- 1: slot 46
  refine wpG_take preGr (i := 1) (v := ?_) (by kernel_rfl) (some 46) (by kernel_rfl) rfl (by kernel_rfl) (by kernel_rfl) (by kernel_rfl) (fun _ _ _ h => h) (by rfl) (fun w' hw' => ?_) rfl ?_
  rotate_left
  · try (have hq2 := cellsQ (heap_gr (Gr.trans HC.out hw') HROW5.out); obtain ⟨k0, k1, k2⟩ := hq2; have hx := cell_two (range_gr (Gr.trans HC.out hw') HR5.out))
    go_simp
    with_reducible rfl
  simp only [Act.put, List.setIfInBounds_toArray, List.set_cons_zero, List.set_cons_succ]
  -- 2: slot 47
  refine wpG_take preGr (i := 2) (v := ?_) (by kernel_rfl) (some 47) (by kernel_rfl) rfl (by kernel_rfl) (by kernel_rfl) (by kernel_rfl) (fun _ _ _ h => h) (by rfl) (fun w' hw' => ?_) rfl ?_
  rotate_left
  · try (have hq2 := cellsQ (heap_gr (Gr.trans HC.out hw') HROW5.out); obtain ⟨k0, k1, k2⟩ := hq2; have hx := cell_two (range_gr (Gr.trans HC.out hw') HR5.out))
    go_simp
    with_reducible rfl
  simp only [Act.put, List.setIfInBounds_toArray, List.set_cons_zero, List.set_cons_succ]
  -- 3: slot 48
  refine wpG_take preGr (i := 3) (v := ?_) (by kernel_rfl) (some 48) (by kernel_rfl) rfl (by kernel_rfl) (by kernel_rfl) (by kernel_rfl) (fun _ _ _ h => h) (by rfl) (fun w' hw' => ?_) rfl ?_
  rotate_left
  · try (have hq2 := cellsQ (heap_gr (Gr.trans HC.out hw') HROW5.out); obtain ⟨k0, k1, k2⟩ := hq2; have hx := cell_two (range_gr (Gr.trans HC.out hw') HR5.out))
    go_simp
    with_reducible rfl
  simp only [Act.put, List.setIfInBounds_toArray, List.set_cons_zero, List.set_cons_succ]
  -- 4: slot 49
  refine wpG_take preGr (i := 4) (v := ?_) (by kernel_rfl) (some 49) (by kernel_rfl) rfl (by kernel_rfl) (by kernel_rfl) (by kernel_rfl) (fun _ _ _ h => h) (by rfl) (fun w' hw' => ?_) rfl ?_
  rotate_left
  · try (have hq2 := cellsQ (heap_gr (Gr.trans HC.out hw') HROW5.out); obtain ⟨k0, k1, k2⟩ := hq2; have hx := cell_two (range_gr (Gr.trans HC.out hw') HR5.out))
    go_simp
    with_reducible rfl
  simp only [Act.put, List.setIfInBounds_toArray, List.set_cons_zero, List.set_cons_succ]
  -- 5: slot 50
  refine wpG_take preGr (i := 5) (v := ?_) (by kernel_rfl) (some 50) (by kernel_rfl) rfl (by kernel_rfl) (by kernel_rfl) (by kernel_rfl) (fun _ _ _ h => h) (by rfl) (fun w' hw' => ?_) rfl ?_
  rotate_left
  · try (have hq2 := cellsQ (heap_gr (Gr.trans HC.out hw') HROW5.out); obtain ⟨k0, k1, k2⟩ := hq2; have hx := cell_two (range_gr (Gr.trans HC.out hw') HR5.out))
    go_simp
    with_reducible rfl
  simp only [Act.put, List.setIfInBounds_toArray, List.set_cons_zero, List.set_cons_succ]
  -- 6: slot 51
  refine wpG_take preGr (i := 6) (v := ?_) (by kernel_rfl) (some 51) (by kernel_rfl) rfl (by kernel_rfl) (by kernel_rfl) (by kernel_rfl) (fun _ _ _ h => h) (by rfl) (fun w' hw' => ?_) rfl ?_
  rotate_left
  · try (have hq2 := cellsQ (heap_gr (Gr.trans HC.out hw') HROW5.out); obtain ⟨k0, k1, k2⟩ := hq2; have hx := cell_two (range_gr (Gr.trans HC.out hw') HR5.out))
    go_simp
    with_reducible rfl
  simp only [Act.put, List.setIfInBounds_toArray, List.set_cons_zero, List.set_cons_succ]
  -- 7: slot 52
  refine wpG_take preGr (i := 7) (v := ?_) (by kernel_rfl) (some 52) (by kernel_rfl) rfl (by kernel_rfl) (by kernel_rfl) (by kernel_rfl) (fun _ _ _ h => h) (by rfl) (fun w' hw' => ?_) rfl ?_
  rotate_left
  · try (have hq2 := cellsQ (heap_gr (Gr.trans HC.out hw') HROW5.out); obtain ⟨k0, k1, k2⟩ := hq2; have hx := cell_two (range_gr (Gr.trans HC.out hw') HR5.out))
    go_simp
    with_reducible rfl
  simp only [Act.put, List.setIfInBounds_toArray, List.set_cons_zero, List.set_cons_succ]
  -- 8: slot 53
  refine wpG_take preGr (i := 8) (v := ?_) (by kernel_rfl) (some 53) (by kernel_rfl) rfl (by kernel_rfl) (by kernel_rfl) (by kernel_rfl) (fun _ _ _ h => h) (by rfl) (fun w' hw' => ?_) rfl ?_
  rotate_left
  · try (have hq2 := cellsQ (heap_gr (Gr.trans HC.out hw') HROW5.out); obtain ⟨k0, k1, k2⟩ := hq2; have hx := cell_two (range_gr (Gr.trans HC.out hw') HR5.out))
    go_simp
    with_reducible rfl
  simp only [Act.put, List.setIfInBounds_toArray, List.set_cons_zero, List.set_cons_succ]
  -- 9: slot 54
  refine wpG_take preGr (i := 9) (v := ?_) (by kernel_rfl) (some 54) (by kernel_rfl) rfl (by kernel_rfl) (by kernel_rfl) (by kernel_rfl) (fun _ _ _ h => h) (by rfl) (fun w' hw' => ?_) rfl ?_
  rotate_left
  · try (have hq2 := cellsQ (heap_gr (Gr.trans HC.out hw') HROW5.out); obtain ⟨k0, k1, k2⟩ := hq2; have hx := cell_two (range_gr (Gr.trans HC.out hw') HR5.out))
    go_simp
    with_reducible rfl
  simp only [Act.put, List.setIfInBounds_toArray, List.set_cons_zero, List.set_cons_succ]
  -- 10: slot 55
  refine wpG_take preGr (i := 10) (v := ?_) (by kernel_rfl) (some 55) (by kernel_rfl) rfl (by kernel_rfl) (by kernel_rfl) (by kernel_rfl) (fun _ _ _ h => h) (by rfl) (fun w' hw' => ?_) rfl ?_
  rotate_left
  · try (have hq2 := cellsQ (heap_gr (Gr.trans HC.out hw') HROW5.out); obtain ⟨k0, k1, k2⟩ := hq2; have hx := cell_two (range_gr (Gr.trans HC.out hw') HR5.out))
    go_simp
    with_reducible rfl
  simp only [Act.put, List.setIfInBounds_toArray, List.set_cons_zero, List.set_cons_succ]
  -- 11: slot 56
  refine wpG_take preGr (i := 11) (v := ?_) (by kernel_rfl) (some 56) (by kernel_rfl) rfl (by kernel_rfl) (by kernel_rfl) (by kernel_rfl) (fun _ _ _ h => h) (by rfl) (fun w' hw' => ?_) rfl ?_
  rotate_left
  · try (have hq2 := cellsQ (heap_gr (Gr.trans HC.out hw') HROW5.out); obtain ⟨k0, k1, k2⟩ := hq2; have hx := cell_two (range_gr (Gr.trans HC.out hw') HR5.out))
    go_simp
    with_reducible rfl
  simp only [Act.put, List.setIfInBounds_toArray, List.set_cons_zero, List.set_cons_succ]
  -- 12: slot 57
  refine wpG_take preGr (i := 12) (v := ?_) (by kernel_rfl) (some 57) (by kernel_rfl) rfl (by kernel_rfl) (by kernel_rfl) (by kernel_rfl) (fun _ _ _ h => h) (by rfl) (fun w' hw' => ?_) rfl ?_
  rotate_left
  · try (have hq2 := cellsQ (heap_gr (Gr.trans HC.out hw') HROW5.out); obtain ⟨k0, k1, k2⟩ := hq2; have hx := cell_two (range_gr (Gr.trans HC.out hw') HR5.out))
    go_simp
    with_reducible rfl
  simp only [Act.put, List.setIfInBounds_toArray, List.set_cons_zero, List.set_cons_succ]
  refine wpG_tail (i := 13) (by decide) rfl (by kernel_rfl) (by rfl) ?_
  refine wp_mapUpdate_fm (none) (.tmp 48) (.tmp 56) (.tmp 57) rfl b q.length _ x.1 j ?_ ?_ ?_ (HQ5.out.gr HC.out).map HKI.out.1 HX2.out HN.out rfl ?_
  · rfl
  · rfl
  · rfl
  intro w6 h6 ho6
  rw [HY1.out.2, if_pos rfl] at h6
  have HM6 := Lib.hid h6
  have HO6 := Lib.hid ho6
  clear h6 ho6
  try simp only [Act.put, List.setIfInBounds_toArray, List.set_cons_zero, List.set_cons_succ]
  refine wpG_done (by kernel_rfl) ?_ _
  go_wp2
  go_end0
  have ht6 : Tr [b] w5 w6 := (Tr.gr (K := [b]) HC.out).trans HO6.out (fun k hk => .inl hk)
  refine ⟨rfl, ⟨upd (upd f y.1 (some i)) x.1 (some j), ?_, ?_⟩, ?_⟩
  · rw [swp_length]
    exact ⟨ht6.heap HQ5.out.row (HNG.out g (by simp)), own_keep HQ5.out.own fun k hk => ht6.block k (own_blk_lt HQ5.out.own hk) (HNG.out k (by simp [hk])), HM6.out, HQ5.out.few, HQ5.out.keys⟩
  · have := HF.out.swp HIJ.out.1 HIJ.out.2
    rw [← HX.out, ← HY.out] at this
    exact this
  · have e1 : Tr (Fq g (.slice (some ⟨r, 0, none⟩) q.length cap) b) w w4 := tr_mono HT1.out fun k hk => by obtain rfl := List.mem_singleton.1 hk; simp [Fq, blk]
    exact e1.trans (HT5.out.trans ht6 (fun k hk => .inl hk)) fun k hk => .inl (by obtain rfl := List.mem_singleton.1 hk; exact Fq.b)
end Go.Proofs.Ytmcifmgfgdahnaa.Tm
