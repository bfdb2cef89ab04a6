/-
  A queue's set and remove.
-/
import Derived.Test.YtmcifmgfgdahnaaTmE
namespace Go.Proofs.Ytmcifmgfgdahnaa.Tm
open Go.RowKit
open Go.Proofs.Ytmcifmgfgdahnaa.Id (Tr Tr.refl Tr.gr Tr.only blk own_blk flatR flatR_len flatR_get flatR_cons flatR_append flatR_one flatR_cell RR)
set_option linter.unusedVariables false
set_option linter.unusedSimpArgs false

theorem set_perm {q l : List D} (d : D) (h : q.Perm l) : (set q d).Perm (set l d) :=
  (ins_perm _ _).trans (((h.filter _).cons d).trans (ins_perm _ _).symm)
/-- A queue that is a heap, of these timers. -/
def Heap (w : World) (g : Nat) (v : Value) (b : Nat) (q : List D) : Prop := HQ w g v b q ∧ Hp q q.length
theorem Heap.gr {w w' : World} {g b : Nat} {v : Value} {q : List D} (h : Heap w g v b q) (hb : Below w.heap.size w w') : Heap w' g v b q := ⟨h.1.gr hb, h.2⟩
theorem Heap.tr {K : List Nat} {w w' : World} {g b : Nat} {v : Value} {q : List D} (h : Heap w g v b q) (ht : Tr K w w') (hd : ∀ k ∈ Fq g v b, k ∉ K) : Heap w' g v b q := ⟨h.1.tr ht hd, h.2⟩
theorem Heap.apart {w : World} {g b : Nat} {v : Value} {q : List D} (h : Heap w g v b q) : Apart q := by
  obtain ⟨⟨f, _, hf⟩, _⟩ := h
  exact hf.apart
/-- A call has gone on to a queue with the timers L. -/
def Goes (g : Nat) (v : Value) (b : Nat) (w : World) (L : List D) (w' : World) : Prop := ∃ v' q', Heap w' g v' b q' ∧ q'.Perm L ∧ Stp g b v v' w w'
theorem ties_some {q : List D} {f : Int → Option Nat} (h : Ties q f) {k : Int} {i : Nat} (e : f k = some i) : i < q.length ∧ (at_ q i).1 = k := (h k i).1 e
theorem ties_none {q : List D} {f : Int → Option Nat} (h : Ties q f) {k : Int} (e : f k = none) : k ∉ q.map (·.1) := by
  intro hm
  obtain ⟨p, hp, rfl⟩ := List.mem_map.1 hm
  obtain ⟨i, hi, rfl⟩ := List.mem_iff_getElem.1 hp
  have := (h q[i].1 i).2 ⟨hi, by rw [at_get hi]⟩
  rw [e] at this
  cases this
set_option maxRecDepth 20000 in
set_option maxHeartbeats 8000000 in
theorem qset_any (g : Nat) {v : Value} {b : Nat} {q : List D} (d : D) (w : World) (h : Heap w g v b q) (hn : q.length < 65536) (hk : I64 d.1) :
    Calls Try.prog 21 #[.pointer (some ⟨g, 0, none⟩), .agg #[.int .i64 d.1, .int .i64 d.2]] w fun e w' => e = .returned (.tuple #[]) ∧ Goes g v b w (set q d) w' := by
  have HH := Lib.hid h
  obtain ⟨⟨f, hq, hf⟩, hp⟩ := h
  have HQ0 := Lib.hid hq
  have HF := Lib.hid hf
  have HP := Lib.hid hp
  have HK := Lib.hid hk
  have HN := Lib.hid hn
  clear hq hf hp hk hn
  go_enter Try.func21, Try.ntmps21
  go_upto_region 1 with fail
  have HB : Hid (Gr w (w.alloc (.cells #[.int .i64 d.1, .int .i64 d.2] 56))) := (Below.refl _ _).alloc (Nat.le_refl _) _
  have HD : Hid ((w.alloc (.cells #[.int .i64 d.1, .int .i64 d.2] 56)).heap[w.heap.size]? = some (.cells #[.int .i64 d.1, .int .i64 d.2] 56 (0, 0))) := heap_alloc_last _ _
  generalize w.alloc (.cells #[.int .i64 d.1, .int .i64 d.2] 56) = w1 at HB HD ⊢
  have HQ1 := Lib.hid (HQ0.out.gr HB.out)
  have HC : Hid (Gr w1 w1.drew) := Gr.drew w1
  refine wp_region_G 12 Gr (by kernel_rfl) ?_
  generalize w1.drew = wc at HC ⊢
  -- 0: slot 7
  refine wpG_take preGr (i := 0) (v := ?_) (by kernel_rfl) (some 7) (by kernel_rfl) rfl (by kernel_rfl) (by kernel_rfl) (by kernel_rfl) (fun _ _ _ h => h) (by rfl) (fun w' hw' => ?_) rfl ?_
  rotate_left
  · try (have hq2 := cellsQ (heap_gr (Gr.trans HC.out hw') HQ1.out.row); obtain ⟨k0, k1, k2⟩ := hq2; have hd2 := copy_cells (heap_gr (Gr.trans HC.out hw') HD.out); obtain ⟨d0, d1⟩ := hd2)
    go_simp
    with_reducible rfl
  simp only [Act.put, List.setIfInBounds_toArray, List.set_cons_zero, List.set_cons_succ]
  -- 1: slot 8
  refine wpG_take preGr (i := 1) (v := ?_) (by kernel_rfl) (some 8) (by kernel_rfl) rfl (by kernel_rfl) (by kernel_rfl) (by kernel_rfl) (fun _ _ _ h => h) (by rfl) (fun w' hw' => ?_) rfl ?_
  rotate_left
  · try (have hq2 := cellsQ (heap_gr (Gr.trans HC.out hw') HQ1.out.row); obtain ⟨k0, k1, k2⟩ := hq2; have hd2 := copy_cells (heap_gr (Gr.trans HC.out hw') HD.out); obtain ⟨d0, d1⟩ := hd2)
    go_simp
    with_reducible rfl
  simp only [Act.put, List.setIfInBounds_toArray, List.set_cons_zero, List.set_cons_succ]
  -- 2: slot 9
  refine wpG_take preGr (i := 2) (v := ?_) (by kernel_rfl) (some 9) (by kernel_rfl) rfl (by kernel_rfl) (by kernel_rfl) (by kernel_rfl) (fun _ _ _ h => h) (by rfl) (fun w' hw' => ?_) rfl ?_
  rotate_left
  · try (have hq2 := cellsQ (heap_gr (Gr.trans HC.out hw') HQ1.out.row); obtain ⟨k0, k1, k2⟩ := hq2; have hd2 := copy_cells (heap_gr (Gr.trans HC.out hw') HD.out); obtain ⟨d0, d1⟩ := hd2)
    go_simp
    with_reducible rfl
  simp only [Act.put, List.setIfInBounds_toArray, List.set_cons_zero, List.set_cons_succ]
  -- 3: slot 10
  refine wpG_take preGr (i := 3) (v := ?_) (by kernel_rfl) (some 10) (by kernel_rfl) rfl (by kernel_rfl) (by kernel_rfl) (by kernel_rfl) (fun _ _ _ h => h) (by rfl) (fun w' hw' => ?_) rfl ?_
  rotate_left
  · try (have hq2 := cellsQ (heap_gr (Gr.trans HC.out hw') HQ1.out.row); obtain ⟨k0, k1, k2⟩ := hq2; have hd2 := copy_cells (heap_gr (Gr.trans HC.out hw') HD.out); obtain ⟨d0, d1⟩ := hd2)
    go_simp
    with_reducible rfl
  simp only [Act.put, List.setIfInBounds_toArray, List.set_cons_zero, List.set_cons_succ]
  -- 4: slot 11
  refine wpG_take preGr (i := 4) (v := ?_) (by kernel_rfl) (some 11) (by kernel_rfl) rfl (by kernel_rfl) (by kernel_rfl) (by kernel_rfl) (fun _ _ _ h => h) (by rfl) (fun w' hw' => ?_) rfl ?_
  rotate_left
  · try (have hq2 := cellsQ (heap_gr (Gr.trans HC.out hw') HQ1.out.row); obtain ⟨k0, k1, k2⟩ := hq2; have hd2 := copy_cells (heap_gr (Gr.trans HC.out hw') HD.out); obtain ⟨d0, d1⟩ := hd2)
    go_simp
    with_reducible rfl
  simp only [Act.put, List.setIfInBounds_toArray, List.set_cons_zero, List.set_cons_succ]
  -- 5: slot 12
  refine wpG_take preGr (i := 5) (v := ?_) (by kernel_rfl) (some 12) (by kernel_rfl) rfl (by kernel_rfl) (by kernel_rfl) (by kernel_rfl) (fun _ _ _ h => h) (by rfl) (fun w' hw' => ?_) rfl ?_
  rotate_left
  · try (have hq2 := cellsQ (heap_gr (Gr.trans HC.out hw') HQ1.out.row); obtain ⟨k0, k1, k2⟩ := hq2; have hd2 := copy_cells (heap_gr (Gr.trans HC.out hw') HD.out); obtain ⟨d0, d1⟩ := hd2)
    go_simp
    with_reducible rfl
  simp only [Act.put, List.setIfInBounds_toArray, List.set_cons_zero, List.set_cons_succ]
  -- 6: slot 13
  refine wpG_take preGr (i := 6) (v := ?_) (by kernel_rfl) (some 13) (by kernel_rfl) rfl (by kernel_rfl) (by kernel_rfl) (by kernel_rfl) (fun _ _ _ h => h) (by rfl) (fun w' hw' => ?_) rfl ?_
  rotate_left
  · have hq3 := (HQ1.out.gr (Gr.trans HC.out hw')).map.look HK.out
    go_simp
    rfl
  simp only [Act.put, List.setIfInBounds_toArray, List.set_cons_zero, List.set_cons_succ]
  -- 7: slot 6
  refine wpG_take preGr (i := 7) (v := ?_) (by kernel_rfl) (some 6) (by kernel_rfl) rfl (by kernel_rfl) (by kernel_rfl) (by kernel_rfl) (fun _ _ _ h => h) (by rfl) (fun w' hw' => ?_) rfl ?_
  rotate_left
  · try (have hq2 := cellsQ (heap_gr (Gr.trans HC.out hw') HQ1.out.row); obtain ⟨k0, k1, k2⟩ := hq2; have hd2 := copy_cells (heap_gr (Gr.trans HC.out hw') HD.out); obtain ⟨d0, d1⟩ := hd2)
    go_simp
    with_reducible rfl
  simp only [Act.put, List.setIfInBounds_toArray, List.set_cons_zero, List.set_cons_succ]
  -- 8: slot 14
  refine wpG_take preGr (i := 8) (v := ?_) (by kernel_rfl) (some 14) (by kernel_rfl) rfl (by kernel_rfl) (by kernel_rfl) (by kernel_rfl) (fun _ _ _ h => h) (by rfl) (fun w' hw' => ?_) rfl ?_
  rotate_left
  · try (have hq2 := cellsQ (heap_gr (Gr.trans HC.out hw') HQ1.out.row); obtain ⟨k0, k1, k2⟩ := hq2; have hd2 := copy_cells (heap_gr (Gr.trans HC.out hw') HD.out); obtain ⟨d0, d1⟩ := hd2)
    go_simp
    with_reducible rfl
  simp only [Act.put, List.setIfInBounds_toArray, List.set_cons_zero, List.set_cons_succ]
  -- 9: slot 15
  refine wpG_take preGr (i := 9) (v := ?_) (by kernel_rfl) (some 15) (by kernel_rfl) rfl (by kernel_rfl) (by kernel_rfl) (by kernel_rfl) (fun _ _ _ h => h) (by rfl) (fun w' hw' => ?_) rfl ?_
  rotate_left
  · try (have hq2 := cellsQ (heap_gr (Gr.trans HC.out hw') HQ1.out.row); obtain ⟨k0, k1, k2⟩ := hq2; have hd2 := copy_cells (heap_gr (Gr.trans HC.out hw') HD.out); obtain ⟨d0, d1⟩ := hd2)
    go_simp
    with_reducible rfl
  simp only [Act.put, List.setIfInBounds_toArray, List.set_cons_zero, List.set_cons_succ]
  -- 10: slot 4
  refine wpG_take preGr (i := 10) (v := ?_) (by kernel_rfl) (some 4) (by kernel_rfl) rfl (by kernel_rfl) (by kernel_rfl) (by kernel_rfl) (fun _ _ _ h => h) (by rfl) (fun w' hw' => ?_) rfl ?_
  rotate_left
  · try (have hq2 := cellsQ (heap_gr (Gr.trans HC.out hw') HQ1.out.row); obtain ⟨k0, k1, k2⟩ := hq2; have hd2 := copy_cells (heap_gr (Gr.trans HC.out hw') HD.out); obtain ⟨d0, d1⟩ := hd2)
    go_simp
    with_reducible rfl
  simp only [Act.put, List.setIfInBounds_toArray, List.set_cons_zero, List.set_cons_succ]
  -- 11: slot 5
  refine wpG_take preGr (i := 11) (v := ?_) (by kernel_rfl) (some 5) (by kernel_rfl) rfl (by kernel_rfl) (by kernel_rfl) (by kernel_rfl) (fun _ _ _ h => h) (by rfl) (fun w' hw' => ?_) rfl ?_
  rotate_left
  · try (have hq2 := cellsQ (heap_gr (Gr.trans HC.out hw') HQ1.out.row); obtain ⟨k0, k1, k2⟩ := hq2; have hd2 := copy_cells (heap_gr (Gr.trans HC.out hw') HD.out); obtain ⟨d0, d1⟩ := hd2)
    go_simp
    with_reducible rfl
  simp only [Act.put, List.setIfInBounds_toArray, List.set_cons_zero, List.set_cons_succ]
  refine wpG_done (by kernel_rfl) ?_ _
  have HQ2 := Lib.hid (HQ1.out.gr HC.out)
  have HD2 := Lib.hid (heap_gr HC.out HD.out)
  have HB2 : Hid (Gr w wc) := Gr.trans HB.out HC.out
  clear HC HD HQ1 HB
  cases hfd : f d.1 with
  | some i =>
    have hti := ties_some HF.out hfd
    obtain ⟨r, cap, cur, ev, h1, h2, h3, h4, h5, h6⟩ := HQ2.out.own.open (by omega)
    subst ev
    have hsp := splice_row d hti.1 h3 h5 h6
    obtain ⟨L, hL⟩ : ∃ L, L = q.length := ⟨_, rfl⟩
    have HROW := Lib.hid HQ2.out.row
    rw [← hL] at h3 HROW
    have HTI := Lib.hid hti
    have HCUR := Lib.hid h2
    have HFIT : Hid (i * 2 + (two d).length ≤ cur.length) := by show _ + 2 ≤ _; omega
    have hil : i < L := by rw [hL]; exact hti.1
    have HSP : Hid ((splice cur (i * 2) (two d)).length = cap * 2 ∧ (splice cur (i * 2) (two d)).take (q.length * 2) = flatR (q.set i d) ∧ q.length ≤ cap ∧ cap ≤ maxLen) := ⟨hsp.1, hsp.2, by rw [← hL]; exact h3, h4⟩
    have HL := Lib.hid hL
    have hlL : L ≤ 65536 := by rw [hL]; exact HQ2.out.few.1
    clear h1 h2 h4 h5 h6 hsp hti hL
    go_upto_region 3 with fail
    have HC : Hid (Gr wc wc.drew) := Gr.drew wc
    refine wp_region_G 7 Gr (by kernel_rfl) ?_
    generalize wc.drew = wd at HC ⊢
    -- 0: slot 17
    refine wpG_take preGr (i := 0) (v := ?_) (by kernel_rfl) (some 17) (by kernel_rfl) rfl (by kernel_rfl) (by kernel_rfl) (by kernel_rfl) (fun _ _ _ h => h) (by rfl) (fun w' hw' => ?_) rfl ?_
    rotate_left
    · try (have hq2 := cellsQ (heap_gr (Gr.trans HC.out hw') HROW.out); obtain ⟨k0, k1, k2⟩ := hq2; have hd2 := copy_cells (heap_gr (Gr.trans HC.out hw') HD2.out); obtain ⟨d0, d1⟩ := hd2)
      go_simp
      with_reducible rfl
    simp only [Act.put, List.setIfInBounds_toArray, List.set_cons_zero, List.set_cons_succ]
    -- 1: slot 18
    refine wpG_take preGr (i := 1) (v := ?_) (by kernel_rfl) (some 18) (by kernel_rfl) rfl (by kernel_rfl) (by kernel_rfl) (by kernel_rfl) (fun _ _ _ h => h) (by rfl) (fun w' hw' => ?_) rfl ?_
    rotate_left
    · try (have hq2 := cellsQ (heap_gr (Gr.trans HC.out hw') HROW.out); obtain ⟨k0, k1, k2⟩ := hq2; have hd2 := copy_cells (heap_gr (Gr.trans HC.out hw') HD2.out); obtain ⟨d0, d1⟩ := hd2)
      go_simp
      with_reducible rfl
    simp only [Act.put, List.setIfInBounds_toArray, List.set_cons_zero, List.set_cons_succ]
    -- 2: slot 19
    refine wpG_take preGr (i := 2) (v := ?_) (by kernel_rfl) (some 19) (by kernel_rfl) rfl (by kernel_rfl) (by kernel_rfl) (by kernel_rfl) (fun _ _ _ h => h) (by rfl) (fun w' hw' => ?_) rfl ?_
    rotate_left
    · try (have hq2 := cellsQ (heap_gr (Gr.trans HC.out hw') HROW.out); obtain ⟨k0, k1, k2⟩ := hq2; have hd2 := copy_cells (heap_gr (Gr.trans HC.out hw') HD2.out); obtain ⟨d0, d1⟩ := hd2)
      go_simp
      with_reducible rfl
    simp only [Act.put, List.setIfInBounds_toArray, List.set_cons_zero, List.set_cons_succ]
    -- 3: slot 20
    refine wpG_take preGr (i := 3) (v := ?_) (by kernel_rfl) (some 20) (by kernel_rfl) rfl (by kernel_rfl) (by kernel_rfl) (by kernel_rfl) (fun _ _ _ h => h) (by rfl) (fun w' hw' => ?_) rfl ?_
    rotate_left
    · try (have hq2 := cellsQ (heap_gr (Gr.trans HC.out hw') HROW.out); obtain ⟨k0, k1, k2⟩ := hq2; have hd2 := copy_cells (heap_gr (Gr.trans HC.out hw') HD2.out); obtain ⟨d0, d1⟩ := hd2)
      go_simp
      with_reducible rfl
    simp only [Act.put, List.setIfInBounds_toArray, List.set_cons_zero, List.set_cons_succ]
    -- 4: slot 21
    refine wpG_take preGr (i := 4) (v := ?_) (by kernel_rfl) (some 21) (by kernel_rfl) rfl (by kernel_rfl) (by kernel_rfl) (by kernel_rfl) (fun _ _ _ h => h) (by rfl) (fun w' hw' => ?_) rfl ?_
    rotate_left
    · try (have hq2 := cellsQ (heap_gr (Gr.trans HC.out hw') HROW.out); obtain ⟨k0, k1, k2⟩ := hq2; have hd2 := copy_cells (heap_gr (Gr.trans HC.out hw') HD2.out); obtain ⟨d0, d1⟩ := hd2)
      go_simp
      with_reducible rfl
    simp only [Act.put, List.setIfInBounds_toArray, List.set_cons_zero, List.set_cons_succ]
    -- 5: slot 22
    refine wpG_take preGr (i := 5) (v := ?_) (by kernel_rfl) (some 22) (by kernel_rfl) rfl (by kernel_rfl) (by kernel_rfl) (by kernel_rfl) (fun _ _ _ h => h) (by rfl) (fun w' hw' => ?_) rfl ?_
    rotate_left
    · try (have hq2 := cellsQ (heap_gr (Gr.trans HC.out hw') HROW.out); obtain ⟨k0, k1, k2⟩ := hq2; have hd2 := copy_cells (heap_gr (Gr.trans HC.out hw') HD2.out); obtain ⟨d0, d1⟩ := hd2)
      go_simp
      with_reducible rfl
    simp only [Act.put, List.setIfInBounds_toArray, List.set_cons_zero, List.set_cons_succ]
    -- 6: slot 23
    refine wpG_take preGr (i := 6) (v := ?_) (by kernel_rfl) (some 23) (by kernel_rfl) rfl (by kernel_rfl) (by kernel_rfl) (by kernel_rfl) (fun _ _ _ h => h) (by rfl) (fun w' hw' => ?_) rfl ?_
    rotate_left
    · try (have hq2 := cellsQ (heap_gr (Gr.trans HC.out hw') HROW.out); obtain ⟨k0, k1, k2⟩ := hq2; have hd2 := copy_cells (heap_gr (Gr.trans HC.out hw') HD2.out); obtain ⟨d0, d1⟩ := hd2)
      go_simp
      with_reducible rfl
    simp only [Act.put, List.setIfInBounds_toArray, List.set_cons_zero, List.set_cons_succ]
    refine wpG_tail (i := 7) (by decide) rfl (by kernel_rfl) (by rfl) ?_
    refine wp_store_splice (none) 56 (.tmp 23) (.tmp 22) rfl r (i * 2) (two d) ?_ rfl 56 cur (heap_gr HC.out HCUR.out) sizeT HFIT.out (two_cell _) rfl ?_
    · simp [go_sem]
    intro w3 h3 ho3
    have HW3 := Lib.hid h3
    have HO3 := Lib.hid ho3
    clear h3 ho3
    try simp only [Act.put, List.setIfInBounds_toArray, List.set_cons_zero, List.set_cons_succ]
    refine wpG_done (by kernel_rfl) ?_ _
    have HQ3 : Hid (HQ w3 g (.slice (some ⟨r, 0, none⟩) q.length cap) b (q.set i d)) := by
      have hq := HQ2.out.gr HC.out
      have hne := hq.ne
      have ht : Tr [r] wd w3 := Tr.only HO3.out (by simp)
      refine ⟨f, ⟨?_, ?_, ?_, ?_, ?_⟩, HF.out.set HTI.out.1 HTI.out.2⟩
      · exact ht.heap hq.row fun h => (hne.2 r (by simp [blk])).1 (List.mem_singleton.1 h).symm
      · unfold Rw
        rw [List.length_set]
        exact own_shut HW3.out HSP.out.2.2.1 HSP.out.2.2.2 HSP.out.1 HSP.out.2.1
      · rw [List.length_set]
        exact hq.map.keep (ht.block b hq.map.lt fun h => (hne.2 r (by simp [blk])).2 (List.mem_singleton.1 h).symm)
      · rw [List.length_set]; exact HQ2.out.few
      · intro x hx
        rcases List.mem_or_eq_of_mem_set hx with hx | rfl
        · exact HQ2.out.keys x hx
        · exact HK.out
    have HT3 : Hid (Tr (Fq g (.slice (some ⟨r, 0, none⟩) q.length cap) b) w w3) :=
      (Tr.gr (K := Fq g (.slice (some ⟨r, 0, none⟩) q.length cap) b) (Gr.trans HB2.out HC.out)).trans (Tr.only HO3.out (K := [r]) (by simp)) fun k hk => .inl (by obtain rfl := List.mem_singleton.1 hk; simp [Fq, blk])
    have HX := Lib.hid (fix_any g i w3 HQ3.out (by rw [List.length_set]; exact HTI.out.1) (by rw [List.length_set]; exact HE.set HP.out HTI.out.1 (Nat.le_refl _)))
    clear HC HW3 HO3 HD2 HQ3
    go_wp2_with fail
    refine HX.out.mono ?_
    rintro e w4 ⟨rfl, q4, hq4, hp4, hh4, ht4⟩
    have HR : Hid (Goes g (.slice (some ⟨r, 0, none⟩) q.length cap) b w (set q d) w4) :=
      ⟨_, q4, ⟨hq4, hh4⟩, hp4.trans (set_perm_old HTI.out.1 HTI.out.2 (List.Perm.refl _) HH.out.apart), Stp.of (HT3.out.trans ht4 fun _ h => .inl h)⟩
    clear hq4 hp4 hh4 ht4 HX
    go_wp2
    refine bodyPost_ret (v := .tuple #[]) (results_none rfl _ _ _) rfl ?_
    exact ⟨rfl, HR.out⟩
  | none =>
    obtain ⟨A, C, ev, hc1, hc2⟩ := HQ2.out.own.rr.shape
    obtain ⟨L, hL⟩ : ∃ L, L = q.length := ⟨_, rfl⟩
    have HL := Lib.hid hL
    rw [← hL] at ev hc1
    have HEV := Lib.hid ev
    have HROW := Lib.hid HQ2.out.row
    rw [ev] at HROW
    have HI : Hid ((L : Int) ≤ 9223372036854775807) := by show _ ≤ _; have := HN.out; omega
    have HMX : Hid (q.length < maxLen) := by show _ < _; have := HN.out; unfold maxLen; omega
    have HFD := Lib.hid hfd
    clear ev hc1 hc2 hL
    go_upto_region 5 with fail
    have HC : Hid (Gr wc wc.drew) := Gr.drew wc
    refine wp_region_G 11 Gr (by kernel_rfl) ?_
    generalize wc.drew = wd at HC ⊢
    -- 0: slot 28
    refine wpG_take preGr (i := 0) (v := ?_) (by kernel_rfl) (some 28) (by kernel_rfl) rfl (by kernel_rfl) (by kernel_rfl) (by kernel_rfl) (fun _ _ _ h => h) (by rfl) (fun w' hw' => ?_) rfl ?_
    rotate_left
    · try (have hq2 := cellsQ (heap_gr (Gr.trans HC.out hw') HROW.out); obtain ⟨k0, k1, k2⟩ := hq2; have hd2 := copy_cells (heap_gr (Gr.trans HC.out hw') HD2.out); obtain ⟨d0, d1⟩ := hd2)
      go_simp
      with_reducible rfl
    simp only [Act.put, List.setIfInBounds_toArray, List.set_cons_zero, List.set_cons_succ]
    -- 1: slot 29
    refine wpG_take preGr (i := 1) (v := ?_) (by kernel_rfl) (some 29) (by kernel_rfl) rfl (by kernel_rfl) (by kernel_rfl) (by kernel_rfl) (fun _ _ _ h => h) (by rfl) (fun w' hw' => ?_) rfl ?_
    rotate_left
    · try (have hq2 := cellsQ (heap_gr (Gr.trans HC.out hw') HROW.out); obtain ⟨k0, k1, k2⟩ := hq2; have hd2 := copy_cells (heap_gr (Gr.trans HC.out hw') HD2.out); obtain ⟨d0, d1⟩ := hd2)
      go_simp
      with_reducible rfl
    simp only [Act.put, List.setIfInBounds_toArray, List.set_cons_zero, List.set_cons_succ]
    -- 2: slot 30
    refine wpG_take preGr (i := 2) (v := ?_) (by kernel_rfl) (some 30) (by kernel_rfl) rfl (by kernel_rfl) (by kernel_rfl) (by kernel_rfl) (fun _ _ _ h => h) (by rfl) (fun w' hw' => ?_) rfl ?_
    rotate_left
    · try (have hq2 := cellsQ (heap_gr (Gr.trans HC.out hw') HROW.out); obtain ⟨k0, k1, k2⟩ := hq2; have hd2 := copy_cells (heap_gr (Gr.trans HC.out hw') HD2.out); obtain ⟨d0, d1⟩ := hd2)
      go_simp
      with_reducible rfl
    simp only [Act.put, List.setIfInBounds_toArray, List.set_cons_zero, List.set_cons_succ]
    -- 3: slot 31
    refine wpG_take preGr (i := 3) (v := ?_) (by kernel_rfl) (some 31) (by kernel_rfl) rfl (by kernel_rfl) (by kernel_rfl) (by kernel_rfl) (fun _ _ _ h => h) (by rfl) (fun w' hw' => ?_) rfl ?_
    rotate_left
    · try (have hq2 := cellsQ (heap_gr (Gr.trans HC.out hw') HROW.out); obtain ⟨k0, k1, k2⟩ := hq2; have hd2 := copy_cells (heap_gr (Gr.trans HC.out hw') HD2.out); obtain ⟨d0, d1⟩ := hd2)
      go_simp
      with_reducible rfl
    simp only [Act.put, List.setIfInBounds_toArray, List.set_cons_zero, List.set_cons_succ]
    -- 4: slot 32
    refine wpG_take preGr (i := 4) (v := ?_) (by kernel_rfl) (some 32) (by kernel_rfl) rfl (by kernel_rfl) (by kernel_rfl) (by kernel_rfl) (fun _ _ _ h => h) (by rfl) (fun w' hw' => ?_) rfl ?_
    rotate_left
    · try (have hq2 := cellsQ (heap_gr (Gr.trans HC.out hw') HROW.out); obtain ⟨k0, k1, k2⟩ := hq2; have hd2 := copy_cells (heap_gr (Gr.trans HC.out hw') HD2.out); obtain ⟨d0, d1⟩ := hd2)
      go_simp
      with_reducible rfl
    simp only [Act.put, List.setIfInBounds_toArray, List.set_cons_zero, List.set_cons_succ]
    -- 5: slot 33
    refine wpG_take preGr (i := 5) (v := ?_) (by kernel_rfl) (some 33) (by kernel_rfl) rfl (by kernel_rfl) (by kernel_rfl) (by kernel_rfl) (fun _ _ _ h => h) (by rfl) (fun w' hw' => ?_) rfl ?_
    rotate_left
    · try (have hq2 := cellsQ (heap_gr (Gr.trans HC.out hw') HROW.out); obtain ⟨k0, k1, k2⟩ := hq2; have hd2 := copy_cells (heap_gr (Gr.trans HC.out hw') HD2.out); obtain ⟨d0, d1⟩ := hd2)
      go_simp
      with_reducible rfl
    simp only [Act.put, List.setIfInBounds_toArray, List.set_cons_zero, List.set_cons_succ]
    -- 6: slot 34
    refine wpG_take preGr (i := 6) (v := ?_) (by kernel_rfl) (some 34) (by kernel_rfl) rfl (by kernel_rfl) (by kernel_rfl) (by kernel_rfl) (fun _ _ _ h => h) (by rfl) (fun w' hw' => ?_) rfl ?_
    rotate_left
    · try (have hq2 := cellsQ (heap_gr (Gr.trans HC.out hw') HROW.out); obtain ⟨k0, k1, k2⟩ := hq2; have hd2 := copy_cells (heap_gr (Gr.trans HC.out hw') HD2.out); obtain ⟨d0, d1⟩ := hd2)
      go_simp
      with_reducible rfl
    simp only [Act.put, List.setIfInBounds_toArray, List.set_cons_zero, List.set_cons_succ]
    -- 7: slot 35
    refine wpG_take preGr (i := 7) (v := ?_) (by kernel_rfl) (some 35) (by kernel_rfl) rfl (by kernel_rfl) (by kernel_rfl) (by kernel_rfl) (fun _ _ _ h => h) (by rfl) (fun w' hw' => ?_) rfl ?_
    rotate_left
    · try (have hq2 := cellsQ (heap_gr (Gr.trans HC.out hw') HROW.out); obtain ⟨k0, k1, k2⟩ := hq2; have hd2 := copy_cells (heap_gr (Gr.trans HC.out hw') HD2.out); obtain ⟨d0, d1⟩ := hd2)
      go_simp
      with_reducible rfl
    simp only [Act.put, List.setIfInBounds_toArray, List.set_cons_zero, List.set_cons_succ]
    -- 8: slot 36
    refine wpG_take preGr (i := 8) (v := ?_) (by kernel_rfl) (some 36) (by kernel_rfl) rfl (by kernel_rfl) (by kernel_rfl) (by kernel_rfl) (fun _ _ _ h => h) (by rfl) (fun w' hw' => ?_) rfl ?_
    rotate_left
    · try (have hq2 := cellsQ (heap_gr (Gr.trans HC.out hw') HROW.out); obtain ⟨k0, k1, k2⟩ := hq2; have hd2 := copy_cells (heap_gr (Gr.trans HC.out hw') HD2.out); obtain ⟨d0, d1⟩ := hd2)
      go_simp
      with_reducible rfl
    simp only [Act.put, List.setIfInBounds_toArray, List.set_cons_zero, List.set_cons_succ]
    -- 9: slot 37
    refine wpG_take preGr (i := 9) (v := ?_) (by kernel_rfl) (some 37) (by kernel_rfl) rfl (by kernel_rfl) (by kernel_rfl) (by kernel_rfl) (fun _ _ _ h => h) (by rfl) (fun w' hw' => ?_) rfl ?_
    rotate_left
    · try (have hq2 := cellsQ (heap_gr (Gr.trans HC.out hw') HROW.out); obtain ⟨k0, k1, k2⟩ := hq2; have hd2 := copy_cells (heap_gr (Gr.trans HC.out hw') HD2.out); obtain ⟨d0, d1⟩ := hd2)
      go_simp
      with_reducible rfl
    simp only [Act.put, List.setIfInBounds_toArray, List.set_cons_zero, List.set_cons_succ]
    -- 10: slot 38
    refine wpG_take preGr (i := 10) (v := ?_) (by kernel_rfl) (some 38) (by kernel_rfl) rfl (by kernel_rfl) (by kernel_rfl) (by kernel_rfl) (fun _ _ _ h => h) (by rfl) (fun w' hw' => ?_) rfl ?_
    rotate_left
    · try (have hq2 := cellsQ (heap_gr (Gr.trans HC.out hw') HROW.out); obtain ⟨k0, k1, k2⟩ := hq2; have hd2 := copy_cells (heap_gr (Gr.trans HC.out hw') HD2.out); obtain ⟨d0, d1⟩ := hd2)
      go_simp
      with_reducible rfl
    simp only [Act.put, List.setIfInBounds_toArray, List.set_cons_zero, List.set_cons_succ]
    refine wpG_tail (i := 11) (by decide) rfl (by kernel_rfl) (by rfl) ?_
    refine wp_mapUpdate_fm (none) (.tmp 31) (.tmp 33) (.tmp 38) rfl b q.length f d.1 L ?_ ?_ ?_ (HQ2.out.gr HC.out).map HK.out HI.out HMX.out rfl ?_
    · rfl
    · rfl
    · rfl
    intro w3 h3 ho3
    rw [HFD.out] at h3
    have HM3 : Hid (FM w3 b (upd f d.1 (some L)) (q.length + 1)) := h3
    have HO3 := Lib.hid ho3
    clear h3 ho3
    try simp only [Act.put, List.setIfInBounds_toArray, List.set_cons_zero, List.set_cons_succ]
    refine wpG_done (by kernel_rfl) ?_ _
    have HQ3 : Hid (QAt w3 g v b q (upd f d.1 (some L)) (q.length + 1)) := by
      have hq := HQ2.out.gr HC.out
      have hne := hq.ne
      exact ⟨HO3.out.heap hq.row fun h => hne.1 (List.mem_singleton.1 h).symm, own_keep hq.own fun k hk => HO3.out.block k (own_blk_lt hq.own hk) fun h => (hne.2 k hk).2 (List.mem_singleton.1 h), HM3.out, ⟨hq.few.1, by have := HN.out; omega⟩, hq.keys⟩
    have HD3 : Hid (w3.heap[w.heap.size]? = some (.cells #[.int .i64 d.1, .int .i64 d.2] 56 (0, 0))) := by
      have hb := HQ0.out.map.lt
      exact HO3.out.heap (heap_gr HC.out HD2.out) fun h => by have := List.mem_singleton.1 h; omega
    have HT3 : Hid (Tr (Fq g v b) w w3) := (Tr.gr (K := Fq g v b) (Gr.trans HB2.out HC.out)).trans HO3.out fun k hk => .inl (by obtain rfl := List.mem_singleton.1 hk; exact Fq.b)
    have htp := HF.out.push (d := d) HFD.out
    rw [← HL.out] at htp
    have HX := Lib.hid (hpush_any g d w3 HQ3.out htp HN.out HK.out HP.out)
    obtain ⟨d0, d1⟩ := copy_cells HD3.out
    clear HC HM3 HO3 HD2 HQ3 htp
    go_wp2_with fail
    refine HX.out.mono ?_
    rintro e w4 ⟨rfl, v4, q4, hq4, hp4, hh4, hs4⟩
    have HR : Hid (Goes g v b w (set q d) w4) :=
      ⟨v4, q4, ⟨hq4, hh4⟩, hp4.trans (set_perm_new (ties_none HF.out HFD.out) (List.Perm.refl _)), (Stp.of HT3.out).trans hs4⟩
    clear hq4 hp4 hh4 hs4 HX
    go_wp2
    go_end0
    exact ⟨rfl, HR.out⟩
theorem wpList_delete_fm {o : Oper} {a : Act} {w : World} {ops : Array Oper} {rest : List Oper} {Q : Exit → Act → World → Prop} (hgd : o.guard = none) (m x : Operand) (ho : o.op = Op.call { callee := Callee.builtin Builtin.delete, args := #[m, x], argTypes := #[60, 3] }) (b n : Nat) (f : Int → Option Nat) (k : Int) (hm : a.eval m = .map (some b)) (hx : a.eval x = .int .i64 k)
    (h : FM w b f (n + 1)) (hk : I64 k) (hs : (f k).isSome = true)
    (hK : ∀ w', FM w' b (upd f k none) n → Tr [b] w w' → wpList Try.prog ops Q rest (a.put o.dst (.tuple #[])) w') : wpList Try.prog ops Q (o :: rest) a w :=
  wpList_plain hgd fun K hKK => wp_delete_fm o.dst m x ho b n f k hm hx h hk hs rfl fun w' k1 k2 => hKK _ _ (hK w' k1 k2)
set_option maxRecDepth 20000 in
theorem qremove_any (g i : Nat) {v : Value} {b : Nat} {q : List D} (w : World) (h : Heap w g v b q) (hi : i < q.length) :
    Calls Try.prog 22 #[.pointer (some ⟨g, 0, none⟩), .int .i64 (i : Int)] w fun e w' => e = .returned (.tuple #[]) ∧ Goes g v b w (without q (at_ q i).1) w' := by
  have HH := Lib.hid h
  have HR0 := Lib.hid (hremove_any g i w h.1 hi h.2)
  obtain ⟨⟨f, hq, hf⟩, hp⟩ := h
  obtain ⟨r, cap, cur, ev, h1, h2, h3, h4, h5, h6⟩ := hq.own.open (by omega)
  subst ev
  obtain ⟨k0, k1, k2⟩ := cellsQ hq.row
  have hc := cell_two (range_two h2 h6 hi)
  obtain ⟨x, hx⟩ : ∃ x, x = at_ q i := ⟨_, rfl⟩
  have HK : Hid (I64 x.1) := by rw [hx, at_get hi]; exact hq.keys _ (List.getElem_mem _)
  rw [← hx] at hc HR0 ⊢
  have HX := Lib.hid hx
  obtain ⟨V, hV⟩ : ∃ V : Value, V = .slice (some ⟨r, 0, none⟩) q.length cap := ⟨_, rfl⟩
  have HV := Lib.hid hV
  rw [← hV] at HR0 ⊢
  obtain ⟨L, hL⟩ : ∃ L, L = q.length := ⟨_, rfl⟩
  rw [← hL] at hi k0
  clear hq hf hp h1 h2 h3 h4 h5 h6 hx hV
  go_enter Try.func22, Try.ntmps22
  go_wp2_with fail
  refine HR0.out.mono ?_
  rintro e w1 ⟨rfl, v1, q1, f1, hq1, hf1, hp1, hh1, hs1⟩
  rw [← HX.out] at hf1 hp1
  have HQ1 := Lib.hid hq1
  have HF1 := Lib.hid hf1
  have HP1 := Lib.hid hp1
  have HH1 := Lib.hid hh1
  have HS1 := Lib.hid hs1
  have HSM : Hid ((f1 x.1).isSome = true) := by
    have := (hf1 x.1 q1.length).2 ⟨by simp, by rw [at_append_last]⟩
    show _ = _
    rw [this]; rfl
  obtain ⟨k0', k1', k2'⟩ := cellsQ hq1.row
  clear hq1 hf1 hp1 hh1 hs1 HR0 k0 k1 k2 hc hL
  go_wp2_with (with_reducible refine wpList_delete_fm rfl (.tmp 20) (.tmp 21) rfl b q1.length f1 x.1 rfl rfl HQ1.out.map HK.out HSM.out ?_)
  intro w2 hm2 ht2
  have HM2 := Lib.hid hm2
  have HT2 := Lib.hid ht2
  clear hm2 ht2 k0' k1' k2'
  go_wp2
  go_end0
  have hq := HQ1.out
  have hne := hq.ne
  refine ⟨rfl, v1, q1, ⟨⟨upd f1 x.1 none, ⟨?_, ?_, HM2.out, ⟨hq.few.1, by have := hq.few.1; omega⟩, hq.keys⟩, HF1.out.drop⟩, HH1.out⟩, without_perm HP1.out HH.out.apart, HS1.out.trans (Stp.of (tr_mono HT2.out fun k hk => by obtain rfl := List.mem_singleton.1 hk; exact Fq.b))⟩
  · exact HT2.out.heap hq.row fun h => hne.1 (List.mem_singleton.1 h).symm
  · exact own_keep hq.own fun k hk => HT2.out.block k (own_blk_lt hq.own hk) fun h => (hne.2 k hk).2 (List.mem_singleton.1 h)
end Go.Proofs.Ytmcifmgfgdahnaa.Tm
