/-
  ring.fork, slices.Clone, Fork.
-/
import Derived.Test.YtpafcabcnkmadaaIdU
import Derived.Lib.SliceRun
namespace Go.Proofs.Ytpafcabcnkmadaa.Id
open Go.RowKit
set_option linter.unusedVariables false
set_option linter.unusedSimpArgs false

theorem one_ring (A : Option Addr) (L C : Nat) (p k : Int) : ∀ u ∈ ([.slice A L C, .int .i64 p, .int .i64 k] : List Value), u.oneCell' = true := by
  intro u hu; simp only [List.mem_cons, List.not_mem_nil, or_false] at hu; rcases hu with rfl | rfl | rfl <;> rfl
set_option maxRecDepth 20000 in
theorem fork_i (g : Nat) {m : Am} (w : World) (h : AmAt w g m) :
    Calls Try.prog 42 #[.pointer (some ⟨g, 3, none⟩)] w fun e w' => ∃ A C, e = .returned (.agg #[.slice A m.fl.length C, .int .i64 0, .int .i64 (m.fl.length : Int)]) ∧ w'.ownsRow w.heap.size 3 1 (.slice A m.fl.length C) m.fl.length (ints m.fl) ∧ Below w.heap.size w w' := by
  have HB1 : Hid (Below w.heap.size w (w.alloc (.cells #[.slice none 0 0, .int .i64 0, .int .i64 0] 59))) := (Below.refl _ _).alloc (Nat.le_refl _) _
  have HG1 : Hid ((w.alloc (.cells #[.slice none 0 0, .int .i64 0, .int .i64 0] 59)).heap[w.heap.size]? = some (.cells #[.slice none 0 0, .int .i64 0, .int .i64 0] 59)) := heap_alloc_last _ _
  have HA := Lib.hid (h.gr HB1.out)
  obtain ⟨n, hn⟩ : ∃ n, n = m.fl.length := ⟨_, rfl⟩
  have HN := Lib.hid hn
  rw [← hn]
  clear h hn
  go_enter Try.func42, Try.ntmps42
  go_upto_region 1 with fail
  generalize w.alloc (.cells #[.slice none 0 0, .int .i64 0, .int .i64 0] 59) = w1 at HB1 HG1 HA ⊢
  have HC : Hid (Below w.heap.size w1 w1.drew) := (Gr.drew w1).mono HB1.out.size
  have HA2 := Lib.hid (HA.out.gr (Gr.drew w1))
  have HG2 := Lib.hid (heap_gr (Gr.drew w1) HG1.out)
  have HL2 : Hid (w.heap.size + 1 ≤ w1.drew.heap.size) := by have := (Array.getElem?_eq_some_iff.1 HG2.out).1; show _ ≤ _; omega
  refine wp_region_G 7 Gr (by kernel_rfl) ?_
  generalize w1.drew = wc at HC HA2 HG2 HL2 ⊢
  -- 0: slot 3
  refine wpG_take preGr (i := 0) (v := ?_) (by kernel_rfl) (some 3) (by kernel_rfl) rfl (by kernel_rfl) (by kernel_rfl) (by kernel_rfl) (fun _ _ _ h => h) (by rfl) (fun w' hw' => ?_) rfl ?_
  rotate_left
  · try (have hxx := cells11 (HA2.out.gr hw').row; obtain ⟨k0, k1, k2, k3, k4, k5, k6, k7, k8, k9, k10⟩ := hxx; rw [← HN.out] at k5)
    try have hbu := builtRI A n C (n : Int)
    go_simp
    with_reducible rfl
  simp only [Act.put, List.setIfInBounds_toArray, List.set_cons_zero, List.set_cons_succ]
  -- 2: slot 5
  refine wpG_take preGr (i := 2) (v := ?_) (by kernel_rfl) (some 5) (by kernel_rfl) rfl (by kernel_rfl) (by kernel_rfl) (by kernel_rfl) (fun _ _ _ h => h) (by rfl) (fun w' hw' => ?_) rfl ?_
  rotate_left
  · try (have hxx := cells11 (HA2.out.gr hw').row; obtain ⟨k0, k1, k2, k3, k4, k5, k6, k7, k8, k9, k10⟩ := hxx; rw [← HN.out] at k5)
    try have hbu := builtRI A n C (n : Int)
    go_simp
    with_reducible rfl
  simp only [Act.put, List.setIfInBounds_toArray, List.set_cons_zero, List.set_cons_succ]
  -- 3: slot 6
  refine wpG_take preGr (i := 3) (v := ?_) (by kernel_rfl) (some 6) (by kernel_rfl) rfl (by kernel_rfl) (by kernel_rfl) (by kernel_rfl) (fun _ _ _ h => h) (by rfl) (fun w' hw' => ?_) rfl ?_
  rotate_left
  · try (have hxx := cells11 (HA2.out.gr hw').row; obtain ⟨k0, k1, k2, k3, k4, k5, k6, k7, k8, k9, k10⟩ := hxx; rw [← HN.out] at k5)
    try have hbu := builtRI A n C (n : Int)
    go_simp
    with_reducible rfl
  simp only [Act.put, List.setIfInBounds_toArray, List.set_cons_zero, List.set_cons_succ]
  -- 4: slot 7
  refine wpG_take preGr (i := 4) (v := ?_) (by kernel_rfl) (some 7) (by kernel_rfl) rfl (by kernel_rfl) (by kernel_rfl) (by kernel_rfl) (fun _ _ _ h => h) (by rfl) (fun w' hw' => ?_) rfl ?_
  rotate_left
  · try (have hxx := cells11 (HA2.out.gr hw').row; obtain ⟨k0, k1, k2, k3, k4, k5, k6, k7, k8, k9, k10⟩ := hxx; rw [← HN.out] at k5)
    try have hbu := builtRI A n C (n : Int)
    go_simp
    with_reducible rfl
  simp only [Act.put, List.setIfInBounds_toArray, List.set_cons_zero, List.set_cons_succ]
  -- 5: slot 8
  refine wpG_take preGr (i := 5) (v := ?_) (by kernel_rfl) (some 8) (by kernel_rfl) rfl (by kernel_rfl) (by kernel_rfl) (by kernel_rfl) (fun _ _ _ h => h) (by rfl) (fun w' hw' => ?_) rfl ?_
  rotate_left
  · try (have hxx := cells11 (HA2.out.gr hw').row; obtain ⟨k0, k1, k2, k3, k4, k5, k6, k7, k8, k9, k10⟩ := hxx; rw [← HN.out] at k5)
    try have hbu := builtRI A n C (n : Int)
    go_simp
    with_reducible rfl
  simp only [Act.put, List.setIfInBounds_toArray, List.set_cons_zero, List.set_cons_succ]
  refine wpG_one (i := 1) rfl (by kernel_rfl) (by rfl) ?_
  go_simp
  refine (all_i g wc HA2.out).mono ?_
  rintro e wn ⟨v, rfl, ho, hb⟩
  refine ⟨hb, ?_⟩
  rw [← HN.out] at ho
  obtain ⟨A, C, rfl, _, _⟩ := (own_rd ho).shape
  have HO := Lib.hid (ownsRow_mono ho (Nat.le_of_succ_le HL2.out))
  have HOB : Hid (∀ k ∈ blk (.slice A n C), w.heap.size < k) := fun k hk => by have := (own_blk ho k hk).1; have := HL2.out; omega
  have HC' : Hid (Below w.heap.size w1 wn) := HC.out.trans (Below.mono hb (Nat.le_of_succ_le HL2.out))
  have HA3 := Lib.hid (HA2.out.gr hb)
  have HG3 := Lib.hid (heap_gr hb HG2.out)
  have HL3 : Hid (w.heap.size + 1 ≤ wn.heap.size) := Nat.le_trans HL2.out (Below.size hb)
  clear HC HA2 HG2 HL2 ho hb
  have HC := HC'
  have HA2 := HA3
  have HG2 := HG3
  have HL2 := HL3
  clear HC' HA3 HG3 HL3
  obtain ⟨wc, hwc⟩ : ∃ x, x = wn := ⟨_, rfl⟩
  subst hwc
  try simp only [Act.put, List.setIfInBounds_toArray, List.set_cons_zero, List.set_cons_succ]
  -- 6: slot 9
  refine wpG_take preGr (i := 6) (v := ?_) (by kernel_rfl) (some 9) (by kernel_rfl) rfl (by kernel_rfl) (by kernel_rfl) (by kernel_rfl) (fun _ _ _ h => h) (by rfl) (fun w' hw' => ?_) rfl ?_
  rotate_left
  · try (have hxx := cells11 (HA2.out.gr hw').row; obtain ⟨k0, k1, k2, k3, k4, k5, k6, k7, k8, k9, k10⟩ := hxx; rw [← HN.out] at k5)
    try have hbu := builtRI A n C (n : Int)
    go_simp
    with_reducible rfl
  simp only [Act.put, List.setIfInBounds_toArray, List.set_cons_zero, List.set_cons_succ]
  refine wpG_tail (i := 7) (by decide) rfl (by kernel_rfl) (by rfl) ?_
  refine wp_store_whole (none) 59 (.tmp 2) (.tmp 9) rfl w.heap.size [.slice A n C, .int .i64 0, .int .i64 (n : Int)] rfl rfl 59 [.slice none 0 0, .int .i64 0, .int .i64 0] HG2.out sizeRingI rfl (one_ring A n C 0 n) rfl ?_
  intro wn h5 ho
  have HF5 : Hid (wn.heap[w.heap.size]? = some (.cells #[.slice A n C, .int .i64 0, .int .i64 (n : Int)] 59 (0, 0))) := h5
  have HF6 : Hid (Below w.heap.size w wn) := ho.below _ _ (Nat.le_refl _) (HB1.out.trans HC.out)
  have HO5 : Hid (wn.ownsRow w.heap.size 3 1 (.slice A n C) n (ints m.fl)) := own_keep HO.out fun k hk => ho.heap k (own_blk_lt HO.out hk) (by have := HOB.out k hk; omega)
  clear h5 ho
  try simp only [Act.put, List.setIfInBounds_toArray, List.set_cons_zero, List.set_cons_succ]
  refine wpG_done (by kernel_rfl) ?_ _
  go_wp2
  refine bodyPost_ret (v := .agg #[.slice A n C, .int .i64 0, .int .i64 (n : Int)]) (results_cell_row (P := Try.prog) (fn := Try.f42) rfl _ _ w.heap.size 59 _ (0, 0) _ rfl HF5.out Try.underlying59 rfl (by kernel_rfl)) rfl ?_
  exact ⟨A, C, rfl, HO5.out, HF6.out⟩
set_option maxRecDepth 20000 in
theorem fork_r (g : Nat) {m : Am} (w : World) (h : AmAt w g m) :
    Calls Try.prog 43 #[.pointer (some ⟨g, 6, none⟩)] w fun e w' => ∃ A C, e = .returned (.agg #[.slice A m.rl.length C, .int .i64 0, .int .i64 (m.rl.length : Int)]) ∧ w'.ownsRow w.heap.size 54 2 (.slice A m.rl.length C) m.rl.length (flatR m.rl) ∧ Below w.heap.size w w' := by
  have HB1 : Hid (Below w.heap.size w (w.alloc (.cells #[.slice none 0 0, .int .i64 0, .int .i64 0] 61))) := (Below.refl _ _).alloc (Nat.le_refl _) _
  have HG1 : Hid ((w.alloc (.cells #[.slice none 0 0, .int .i64 0, .int .i64 0] 61)).heap[w.heap.size]? = some (.cells #[.slice none 0 0, .int .i64 0, .int .i64 0] 61)) := heap_alloc_last _ _
  have HA := Lib.hid (h.gr HB1.out)
  obtain ⟨n, hn⟩ : ∃ n, n = m.rl.length := ⟨_, rfl⟩
  have HN := Lib.hid hn
  rw [← hn]
  clear h hn
  go_enter Try.func43, Try.ntmps43
  go_upto_region 1 with fail
  generalize w.alloc (.cells #[.slice none 0 0, .int .i64 0, .int .i64 0] 61) = w1 at HB1 HG1 HA ⊢
  have HC : Hid (Below w.heap.size w1 w1.drew) := (Gr.drew w1).mono HB1.out.size
  have HA2 := Lib.hid (HA.out.gr (Gr.drew w1))
  have HG2 := Lib.hid (heap_gr (Gr.drew w1) HG1.out)
  have HL2 : Hid (w.heap.size + 1 ≤ w1.drew.heap.size) := by have := (Array.getElem?_eq_some_iff.1 HG2.out).1; show _ ≤ _; omega
  refine wp_region_G 7 Gr (by kernel_rfl) ?_
  generalize w1.drew = wc at HC HA2 HG2 HL2 ⊢
  -- 0: slot 3
  refine wpG_take preGr (i := 0) (v := ?_) (by kernel_rfl) (some 3) (by kernel_rfl) rfl (by kernel_rfl) (by kernel_rfl) (by kernel_rfl) (fun _ _ _ h => h) (by rfl) (fun w' hw' => ?_) rfl ?_
  rotate_left
  · try (have hxx := cells11 (HA2.out.gr hw').row; obtain ⟨k0, k1, k2, k3, k4, k5, k6, k7, k8, k9, k10⟩ := hxx; rw [← HN.out] at k8)
    try have hbu := builtRR A n C (n : Int)
    go_simp
    with_reducible rfl
  simp only [Act.put, List.setIfInBounds_toArray, List.set_cons_zero, List.set_cons_succ]
  -- 2: slot 5
  refine wpG_take preGr (i := 2) (v := ?_) (by kernel_rfl) (some 5) (by kernel_rfl) rfl (by kernel_rfl) (by kernel_rfl) (by kernel_rfl) (fun _ _ _ h => h) (by rfl) (fun w' hw' => ?_) rfl ?_
  rotate_left
  · try (have hxx := cells11 (HA2.out.gr hw').row; obtain ⟨k0, k1, k2, k3, k4, k5, k6, k7, k8, k9, k10⟩ := hxx; rw [← HN.out] at k8)
    try have hbu := builtRR A n C (n : Int)
    go_simp
    with_reducible rfl
  simp only [Act.put, List.setIfInBounds_toArray, List.set_cons_zero, List.set_cons_succ]
  -- 3: slot 6
  refine wpG_take preGr (i := 3) (v := ?_) (by kernel_rfl) (some 6) (by kernel_rfl) rfl (by kernel_rfl) (by kernel_rfl) (by kernel_rfl) (fun _ _ _ h => h) (by rfl) (fun w' hw' => ?_) rfl ?_
  rotate_left
  · try (have hxx := cells11 (HA2.out.gr hw').row; obtain ⟨k0, k1, k2, k3, k4, k5, k6, k7, k8, k9, k10⟩ := hxx; rw [← HN.out] at k8)
    try have hbu := builtRR A n C (n : Int)
    go_simp
    with_reducible rfl
  simp only [Act.put, List.setIfInBounds_toArray, List.set_cons_zero, List.set_cons_succ]
  -- 4: slot 7
  refine wpG_take preGr (i := 4) (v := ?_) (by kernel_rfl) (some 7) (by kernel_rfl) rfl (by kernel_rfl) (by kernel_rfl) (by kernel_rfl) (fun _ _ _ h => h) (by rfl) (fun w' hw' => ?_) rfl ?_
  rotate_left
  · try (have hxx := cells11 (HA2.out.gr hw').row; obtain ⟨k0, k1, k2, k3, k4, k5, k6, k7, k8, k9, k10⟩ := hxx; rw [← HN.out] at k8)
    try have hbu := builtRR A n C (n : Int)
    go_simp
    with_reducible rfl
  simp only [Act.put, List.setIfInBounds_toArray, List.set_cons_zero, List.set_cons_succ]
  -- 5: slot 8
  refine wpG_take preGr (i := 5) (v := ?_) (by kernel_rfl) (some 8) (by kernel_rfl) rfl (by kernel_rfl) (by kernel_rfl) (by kernel_rfl) (fun _ _ _ h => h) (by rfl) (fun w' hw' => ?_) rfl ?_
  rotate_left
  · try (have hxx := cells11 (HA2.out.gr hw').row; obtain ⟨k0, k1, k2, k3, k4, k5, k6, k7, k8, k9, k10⟩ := hxx; rw [← HN.out] at k8)
    try have hbu := builtRR A n C (n : Int)
    go_simp
    with_reducible rfl
  simp only [Act.put, List.setIfInBounds_toArray, List.set_cons_zero, List.set_cons_succ]
  refine wpG_one (i := 1) rfl (by kernel_rfl) (by rfl) ?_
  go_simp
  refine (all_r g wc HA2.out).mono ?_
  rintro e wn ⟨v, rfl, ho, hb⟩
  refine ⟨hb, ?_⟩
  rw [← HN.out] at ho
  obtain ⟨A, C, rfl, _, _⟩ := (own_rd ho).shape
  have HO := Lib.hid (ownsRow_mono ho (Nat.le_of_succ_le HL2.out))
  have HOB : Hid (∀ k ∈ blk (.slice A n C), w.heap.size < k) := fun k hk => by have := (own_blk ho k hk).1; have := HL2.out; omega
  have HC' : Hid (Below w.heap.size w1 wn) := HC.out.trans (Below.mono hb (Nat.le_of_succ_le HL2.out))
  have HA3 := Lib.hid (HA2.out.gr hb)
  have HG3 := Lib.hid (heap_gr hb HG2.out)
  have HL3 : Hid (w.heap.size + 1 ≤ wn.heap.size) := Nat.le_trans HL2.out (Below.size hb)
  clear HC HA2 HG2 HL2 ho hb
  have HC := HC'
  have HA2 := HA3
  have HG2 := HG3
  have HL2 := HL3
  clear HC' HA3 HG3 HL3
  obtain ⟨wc, hwc⟩ : ∃ x, x = wn := ⟨_, rfl⟩
  subst hwc
  try simp only [Act.put, List.setIfInBounds_toArray, List.set_cons_zero, List.set_cons_succ]
  -- 6: slot 9
  refine wpG_take preGr (i := 6) (v := ?_) (by kernel_rfl) (some 9) (by kernel_rfl) rfl (by kernel_rfl) (by kernel_rfl) (by kernel_rfl) (fun _ _ _ h => h) (by rfl) (fun w' hw' => ?_) rfl ?_
  rotate_left
  · try (have hxx := cells11 (HA2.out.gr hw').row; obtain ⟨k0, k1, k2, k3, k4, k5, k6, k7, k8, k9, k10⟩ := hxx; rw [← HN.out] at k8)
    try have hbu := builtRR A n C (n : Int)
    go_simp
    with_reducible rfl
  simp only [Act.put, List.setIfInBounds_toArray, List.set_cons_zero, List.set_cons_succ]
  refine wpG_tail (i := 7) (by decide) rfl (by kernel_rfl) (by rfl) ?_
  refine wp_store_whole (none) 61 (.tmp 2) (.tmp 9) rfl w.heap.size [.slice A n C, .int .i64 0, .int .i64 (n : Int)] rfl rfl 61 [.slice none 0 0, .int .i64 0, .int .i64 0] HG2.out sizeRingR rfl (one_ring A n C 0 n) rfl ?_
  intro wn h5 ho
  have HF5 : Hid (wn.heap[w.heap.size]? = some (.cells #[.slice A n C, .int .i64 0, .int .i64 (n : Int)] 61 (0, 0))) := h5
  have HF6 : Hid (Below w.heap.size w wn) := ho.below _ _ (Nat.le_refl _) (HB1.out.trans HC.out)
  have HO5 : Hid (wn.ownsRow w.heap.size 54 2 (.slice A n C) n (flatR m.rl)) := own_keep HO.out fun k hk => ho.heap k (own_blk_lt HO.out hk) (by have := HOB.out k hk; omega)
  clear h5 ho
  try simp only [Act.put, List.setIfInBounds_toArray, List.set_cons_zero, List.set_cons_succ]
  refine wpG_done (by kernel_rfl) ?_ _
  go_wp2
  refine bodyPost_ret (v := .agg #[.slice A n C, .int .i64 0, .int .i64 (n : Int)]) (results_cell_row (P := Try.prog) (fn := Try.f43) rfl _ _ w.heap.size 61 _ (0, 0) _ rfl HF5.out Try.underlying61 rfl (by kernel_rfl)) rfl ?_
  exact ⟨A, C, rfl, HO5.out, HF6.out⟩
set_option maxRecDepth 100000 in
theorem clone_b (b0 L C : Nat) (l : List Bool) (w : World) (h : Rd w 1 (.slice (some ⟨b0, 0, none⟩) L C) L (bools l)) (hl : l.length = L) (hL : L ≤ 65534) (h0 : 0 < L) :
    Calls Try.prog 44 #[.slice (some ⟨b0, 0, none⟩) L C] w fun e w' => ∃ b c, e = .returned (.slice (some ⟨b, 0, none⟩) L c) ∧ w'.ownsRow w.heap.size 4 1 (.slice (some ⟨b, 0, none⟩) L c) L (bools l) ∧ Below w.heap.size w w' := by
  obtain ⟨i0, hi, hz0, hz1, hz2⟩ := info_parts infoB
  have hb0 : Below w.heap.size w (w.alloc (.cells #[] 4)) := (Below.refl _ _).alloc (Nat.le_refl _) _
  have HRD := Lib.hid (h.below hb0)
  have HOW : Hid ((w.alloc (.cells #[] 4)).ownsRow w.heap.size 4 1 (.slice (some ⟨w.heap.size, 0, none⟩) 0 0) 0 []) := own_new w [] 4 0 1 rfl (Nat.zero_le _)
  have HONE : Hid (∀ u ∈ bools l, u.oneCell' = true) := by
    intro u hu
    obtain ⟨x, _, rfl⟩ := List.mem_map.1 hu
    rfl
  have HBY : Hid ((0 + L) * 1 ≤ 140737488355328) := by show _ ≤ _; omega
  have HLO : Hid (w.heap.size ≤ (w.alloc (.cells #[] 4)).heap.size) := hb0.size
  have HB0 := Lib.hid hb0
  have HL := Lib.hid hl
  have H0 := Lib.hid h0
  have hq : ∀ w, (binOp .eql 42 (.slice (some ⟨b0, 0, none⟩) L C) (.slice none 0 0)).run Try.prog w = .ok (.bool false) w := fun w => Lib.run_eql_slice_nil (P := Try.prog) w 42 4 (some ⟨b0, 0, none⟩) L C 0 0 Try.underlying42
  clear h hb0 hl h0 hL
  go_enter Try.func44, Try.ntmps44
  go_wp2_with (at_builtin; refine wpList_append_rd _ rfl (.tmp 5) (.tmp 6) 42 rfl w.heap.size 4 i0 (.bool false) 1 1 Try.underlying42 hi hz0 hz1 hz2 rfl (by decide) _ 0 [] rfl HOW.out _ L (bools l) rfl HRD.out HONE.out HBY.out (by decide) HLO.out ?_)
  intro v w1 ho hb
  try rw [Nat.zero_add, List.nil_append] at ho
  obtain ⟨b, cap, cur, rfl, _⟩ := own_open ho (.inl H0.out)
  have HO := Lib.hid ho
  have HB1 := Lib.hid (HB0.out.trans hb)
  clear ho hb
  go_wp2
  go_ret
  exact ⟨b, cap, rfl, HO.out, HB1.out⟩
theorem sizeSB : (Try.prog.info? 42).map (·.size) = some 1 := by kernel_rfl
theorem sizeAT : (Try.prog.info? 63).map (·.size) = some 11 := by kernel_rfl
section
variable {ops : Array Oper} {rest : List Oper} {op : Oper} {a : Act} {w : World} {Q : Exit → Act → World → Prop} {K : Act → World → Prop}
theorem wpList_store_taken (hgd : op.guard = none) (x y : Operand) (ho : op.op = .store 42 x y) (g : Nat) (A : Option Addr) (L C : Nat) (hx : a.eval x = .pointer (some ⟨g, 9, none⟩)) (hy : a.eval y = .slice A L C)
    (c0 c1 c2 c3 c4 c5 c6 c7 c8 c9 c10 : Value) (hg : w.heap[g]? = some (.cells #[c0, c1, c2, c3, c4, c5, c6, c7, c8, c9, c10] 63 (0, 0)))
    (h : ∀ w', w'.heap[g]? = some (.cells #[c0, c1, c2, c3, c4, c5, c6, c7, c8, .slice A L C, c10] 63 (0, 0)) → Only g w w' → wpList Try.prog ops Q rest (a.put op.dst undef) w') : wpList Try.prog ops Q (op :: rest) a w :=
  wpList_store_cell hgd 42 x y ho g 9 (.slice A L C) hx hy 63 [c0, c1, c2, c3, c4, c5, c6, c7, c8, c9, c10] hg sizeSB (by simp) rfl h
theorem wpList_store_alloc (hgd : op.guard = none) (x y : Operand) (ho : op.op = .store 63 x y) (g : Nat) (c0 c1 c2 c3 c4 c5 c6 c7 c8 c9 c10 : Value) (hx : a.eval x = .pointer (some ⟨g, 0, none⟩)) (hy : a.eval y = .agg #[c0, c1, c2, c3, c4, c5, c6, c7, c8, c9, c10])
    (cur : List Value) (hcu : cur.length = 11) (hg : w.heap[g]? = some (.cells cur.toArray 63 (0, 0))) (h1 : ∀ v ∈ ([c0, c1, c2, c3, c4, c5, c6, c7, c8, c9, c10] : List Value), v.oneCell' = true)
    (h : ∀ w', w'.heap[g]? = some (.cells #[c0, c1, c2, c3, c4, c5, c6, c7, c8, c9, c10] 63 (0, 0)) → Only g w w' → wpList Try.prog ops Q rest (a.put op.dst undef) w') : wpList Try.prog ops Q (op :: rest) a w :=
  wpList_store_whole hgd 63 x y ho g [c0, c1, c2, c3, c4, c5, c6, c7, c8, c9, c10] hx hy 63 cur hg sizeAT (by rw [hcu]; rfl) h1 h
end
theorem AmAt.shapes {w : World} {g : Nat} {m : Am} (h : AmAt w g m) : (∃ a c, m.fv = .slice a m.fc.length c) ∧ (∃ a c, m.rv = .slice a m.rc.length c) ∧ ∃ b c, m.tv = .slice (some ⟨b, 0, none⟩) m.tl.length c := by
  obtain ⟨a, c, e, _⟩ := (own_rd h.fo).shape
  obtain ⟨a2, c2, e2, _⟩ := (own_rd h.ro).shape
  obtain ⟨b, cap, cur, ev, _⟩ := own_open h.to (.inr h.made)
  exact ⟨⟨a, c, e⟩, ⟨a2, c2, e2⟩, b, cap, ev⟩
set_option maxRecDepth 100000 in
set_option maxHeartbeats 8000000 in
theorem fork_any (g : Nat) {m : Am} {S : Al} (w : World) (h : AlAt w g m S) :
    Calls Try.prog 22 #[.pointer (some ⟨g, 0, none⟩)] w fun e w' => ∃ g', e = .returned (.pointer (some ⟨g', 0, none⟩)) ∧ ∃ m', AlAt w' g' m' S ∧ (∀ k ∈ Fm g' m', w.heap.size ≤ k) ∧ Below w.heap.size w w' := by
  have HM := Lib.hid (isMade_yes g w h.am)
  obtain ⟨⟨fa, fcp, ef⟩, ⟨ra, rcp, er⟩, tb, tc, et⟩ := h.am.shapes
  have hrow := h.am.row
  rw [ef, er, et] at hrow
  have HROW := Lib.hid hrow
  have HONE : Hid (∀ v ∈ ([.int .i64 m.lo, .int .i64 m.hi, .int .i64 m.q, .slice fa m.fc.length fcp, .int .i64 (m.ff : Int), .int .i64 (m.fl.length : Int), .slice ra m.rc.length rcp, .int .i64 (m.rf : Int), .int .i64 (m.rl.length : Int), .slice (some ⟨tb, 0, none⟩) m.tl.length tc, .bool m.fell] : List Value), v.oneCell' = true) := by
    intro u hu; simp only [List.mem_cons, List.not_mem_nil, or_false] at hu; rcases hu with rfl | rfl | rfl | rfl | rfl | rfl | rfl | rfl | rfl | rfl | rfl <;> rfl
  have HB1 : Hid (Below w.heap.size w (w.alloc (.cells #[.int .i64 0, .int .i64 0, .int .i64 0, .slice none 0 0, .int .i64 0, .int .i64 0, .slice none 0 0, .int .i64 0, .int .i64 0, .slice none 0 0, .bool false] 63))) := (Below.refl _ _).alloc (Nat.le_refl _) _
  have HG1 : Hid ((w.alloc (.cells #[.int .i64 0, .int .i64 0, .int .i64 0, .slice none 0 0, .int .i64 0, .int .i64 0, .slice none 0 0, .int .i64 0, .int .i64 0, .slice none 0 0, .bool false] 63)).heap[w.heap.size]? = some (.cells #[.int .i64 0, .int .i64 0, .int .i64 0, .slice none 0 0, .int .i64 0, .int .i64 0, .slice none 0 0, .int .i64 0, .int .i64 0, .slice none 0 0, .bool false] 63)) := heap_alloc_last _ _
  have HA := Lib.hid h
  have HSZ : Hid ((Try.prog.info? 63).map (·.size) = some (#[.int .i64 m.lo, .int .i64 m.hi, .int .i64 m.q, .slice fa m.fc.length fcp, .int .i64 (m.ff : Int), .int .i64 (m.fl.length : Int), .slice ra m.rc.length rcp, .int .i64 (m.rf : Int), .int .i64 (m.rl.length : Int), .slice (some ⟨tb, 0, none⟩) m.tl.length tc, .bool m.fell] : Array Value).size) := sizeAT
  have HET := Lib.hid et
  clear h ef er et hrow
  go_enter Try.func22, Try.ntmps22
  go_wp2_with fail
  refine HM.out.mono ?_
  rintro e w' ⟨rfl, rfl⟩
  go_wp2_with (first | (with_reducible refine wpList_load_row rfl 63 (.tmp 8) rfl g rfl 63 _ (0, 0) _ HROW.out Try.underlying63 rfl HSZ.out ?_) | (with_reducible refine wpList_store_alloc rfl (.tmp 3) (.tmp 9) rfl w.heap.size _ _ _ _ _ _ _ _ _ _ _ rfl rfl _ ?c1 HG1.out HONE.out ?_))
  case c1 => rfl
  intro w2 h2 ho2
  have HB2 : Hid (Below w.heap.size w w2) := ho2.below _ _ (Nat.le_refl _) HB1.out
  have H2 := Lib.hid h2
  have HA2 := Lib.hid (HA.out.gr HB2.out)
  have HLT : Hid (w.heap.size < w2.heap.size) := (Array.getElem?_eq_some_iff.1 h2).1
  obtain ⟨g', hg'⟩ : ∃ g', g' = w.heap.size := ⟨_, rfl⟩
  rw [← hg'] at H2 ⊢
  have HGG := Lib.hid hg'
  clear h2 ho2 hg' HG1 HB1 HROW HONE HSZ
  go_wp2_with fail
  refine (fork_i g _ HA2.out.am).mono ?_
  rintro e w3 ⟨fA, fC, rfl, ho, hb⟩
  have HA3 := Lib.hid (HA2.out.gr hb)
  have H3 := Lib.hid (heap_gr hb H2.out)
  have HB3 : Hid (Below w.heap.size w w3) := HB2.out.trans (Below.mono hb HB2.out.size)
  have HF3 : Hid (w3.ownsRow 0 3 1 (.slice fA m.fl.length fC) m.fl.length (ints m.fl)) := ownsRow_mono ho (Nat.zero_le _)
  have HFB : Hid (∀ k ∈ blk (.slice fA m.fl.length fC), w.heap.size < k) := fun k hk => by have := (own_blk ho k hk).1; have := HLT.out; omega
  clear ho hb H2 HB2 HA2
  go_wp2_with (with_reducible refine wpList_store_ringI rfl (.tmp 14) (.tmp 13) rfl g' _ _ _ 0 _ rfl rfl _ _ _ _ _ _ _ _ _ _ _ H3.out ?_)
  intro w4 h4 ho4
  have H4 := Lib.hid h4
  have HB4 : Hid (Below w.heap.size w w4) := ho4.below _ _ (by rw [HGG.out]; exact Nat.le_refl _) HB3.out
  have HA4 := Lib.hid (HA.out.gr HB4.out)
  have HF4 : Hid (w4.ownsRow 0 3 1 (.slice fA m.fl.length fC) m.fl.length (ints m.fl)) := own_keep HF3.out fun k hk => ho4.heap k (own_blk_lt HF3.out hk) (by have := HFB.out k hk; have := HGG.out; omega)
  have HLT4 : Hid (w.heap.size < w4.heap.size) := by have := (Array.getElem?_eq_some_iff.1 h4).1; rw [HGG.out] at this; exact this
  clear h4 ho4 H3 HB3 HA3 HF3 HLT
  go_wp2_with fail
  refine (fork_r g _ HA4.out.am).mono ?_
  rintro e w5 ⟨rA, rC, rfl, ho, hb⟩
  have HA5 := Lib.hid (HA4.out.gr hb)
  have H5 := Lib.hid (heap_gr hb H4.out)
  have HB5 : Hid (Below w.heap.size w w5) := HB4.out.trans (Below.mono hb HB4.out.size)
  have HF5 := Lib.hid (ownsRow_below HF4.out hb)
  have HR5 : Hid (w5.ownsRow 0 54 2 (.slice rA m.rl.length rC) m.rl.length (flatR m.rl)) := ownsRow_mono ho (Nat.zero_le _)
  have HRB : Hid (∀ k ∈ blk (.slice rA m.rl.length rC), w.heap.size < k) := fun k hk => by have := (own_blk ho k hk).1; have := HLT4.out; omega
  clear ho hb H4 HB4 HA4 HF4
  go_wp2_with (with_reducible refine wpList_store_ringR rfl (.tmp 19) (.tmp 18) rfl g' _ _ _ 0 _ rfl rfl _ _ _ _ _ _ _ _ _ _ _ H5.out ?_)
  intro w6 h6 ho6
  have H6 := Lib.hid h6
  have HB6 : Hid (Below w.heap.size w w6) := ho6.below _ _ (by rw [HGG.out]; exact Nat.le_refl _) HB5.out
  have HA6 := Lib.hid (HA.out.gr HB6.out)
  have HF6 : Hid (w6.ownsRow 0 3 1 (.slice fA m.fl.length fC) m.fl.length (ints m.fl)) := own_keep HF5.out fun k hk => ho6.heap k (own_blk_lt HF5.out hk) (by have := HFB.out k hk; have := HGG.out; omega)
  have HR6 : Hid (w6.ownsRow 0 54 2 (.slice rA m.rl.length rC) m.rl.length (flatR m.rl)) := own_keep HR5.out fun k hk => ho6.heap k (own_blk_lt HR5.out hk) (by have := HRB.out k hk; have := HGG.out; omega)
  have HLT6 : Hid (w.heap.size < w6.heap.size) := by have := (Array.getElem?_eq_some_iff.1 h6).1; rw [HGG.out] at this; exact this
  clear h6 ho6 H5 HB5 HA5 HF5 HR5 HLT4
  obtain ⟨k0, k1, k2, k3, k4, k5, k6, k7, k8, k9, k10⟩ := cells11 HA6.out.am.row
  rw [HET.out] at k9
  have hlen6 : m.tl.length ≤ 65534 ∧ 0 < m.tl.length := by
    have h1 := HA.out.len
    have h2 := HA.out.ok.set
    unfold okSet at h2
    omega
  have hrd := own_rd HA6.out.am.to
  rw [HET.out] at hrd
  have HCL := Lib.hid (clone_b tb m.tl.length tc m.tl w6 hrd rfl hlen6.1 hlen6.2)
  clear hrd hlen6 k0 k1 k2 k3 k4 k5 k6 k7 k8 k10
  go_wp2_with fail
  refine HCL.out.mono ?_
  rintro e w7 ⟨nb, nc, rfl, ho, hb⟩
  have H7 := Lib.hid (heap_gr hb H6.out)
  have HB7 : Hid (Below w.heap.size w w7) := HB6.out.trans (Below.mono hb HB6.out.size)
  have HF7 := Lib.hid (ownsRow_below HF6.out hb)
  have HR7 := Lib.hid (ownsRow_below HR6.out hb)
  have HT7 : Hid (w7.ownsRow 0 4 1 (.slice (some ⟨nb, 0, none⟩) m.tl.length nc) m.tl.length (bools m.tl)) := ownsRow_mono ho (Nat.zero_le _)
  have HTB : Hid (∀ k ∈ blk (.slice (some ⟨nb, 0, none⟩) m.tl.length nc), w.heap.size < k) := fun k hk => by have := (own_blk ho k hk).1; have := HLT6.out; omega
  clear ho hb H6 HB6 HA6 HF6 HR6 HCL k9
  go_wp2_with (with_reducible refine wpList_store_taken rfl (.tmp 25) (.tmp 24) rfl g' _ _ _ rfl rfl _ _ _ _ _ _ _ _ _ _ _ H7.out ?_)
  intro w8 h8 ho8
  have H8 := Lib.hid h8
  have HO8 := Lib.hid ho8
  clear h8 ho8
  go_wp2
  go_ret
  refine ⟨g', rfl, { m with fv := .slice fA m.fl.length fC, fc := m.fl, ff := 0, rv := .slice rA m.rl.length rC, rc := m.rl, rf := 0, tv := .slice (some ⟨nb, 0, none⟩) m.tl.length nc }, ⟨⟨H8.out, ?_, R.self _, ?_, R.self _, ?_, ?_, ?_⟩, HA.out.sh, HA.out.ok, HA.out.sorted⟩, ?_, ?_⟩
  · exact own_keep HF7.out fun k hk => HO8.out.heap k (own_blk_lt HF7.out hk) (by have := HFB.out k hk; have := HGG.out; omega)
  · exact own_keep HR7.out fun k hk => HO8.out.heap k (own_blk_lt HR7.out hk) (by have := HRB.out k hk; have := HGG.out; omega)
  · exact own_keep HT7.out fun k hk => HO8.out.heap k (own_blk_lt HT7.out hk) (by have := HTB.out k hk; have := HGG.out; omega)
  · intro e; cases e
  · have := HA.out.ok.lens
    have e1 := HA.out.fl
    have e2 := HA.out.rl
    refine ⟨?_, ?_⟩
    · show m.fl.length ≤ _; rw [e1]; omega
    · show m.rl.length ≤ _; rw [e2]; omega
  · intro k hk
    simp only [Fm, List.mem_cons, List.mem_append] at hk
    rcases hk with hk | hk | hk | hk
    · rw [hk, HGG.out]; exact Nat.le_refl _
    · exact Nat.le_of_lt (HFB.out k hk)
    · exact Nat.le_of_lt (HRB.out k hk)
    · exact Nat.le_of_lt (HTB.out k hk)
  · exact HO8.out.below _ _ (by rw [HGG.out]; exact Nat.le_refl _) HB7.out
end Go.Proofs.Ytpafcabcnkmadaa.Id
