/-
  The ring of those that rest: at, front, back.
-/
import Derived.Test.YtpafcabcnkmadaaIdA
namespace Go.Proofs.Ytpafcabcnkmadaa.Id
open Go.RowKit
set_option linter.unusedVariables false
set_option linter.unusedSimpArgs false

theorem range_gr {w w' : World} {g off : Nat} {cs : List Value} (hw : Below w.heap.size w w') (h : w.rangeAt g off cs) : w'.rangeAt g off cs := fun j v hj => cell_gr hw (h j v hj)
theorem cells2 {w : World} {g : Nat} {x y : Value} {t : TypeId} {fr : Nat × Nat} (h : w.heap[g]? = some (.cells #[x, y] t fr)) : w.cell? ⟨g, 0, none⟩ = some x ∧ w.cell? ⟨g, 1, none⟩ = some y := copy_cells h
def pairV (x : Int × Int) : Value := .agg #[.int .i64 x.1, .int .i64 x.2]
theorem sizeR : (Try.prog.info? 54).map (·.size) = some 2 := by kernel_rfl
theorem one_pair (x : Int × Int) : ∀ u ∈ ([.int .i64 x.1, .int .i64 x.2] : List Value), u.oneCell' = true := by
  intro u hu; simp only [List.mem_cons, List.not_mem_nil, or_false] at hu; rcases hu with rfl | rfl <;> rfl
section
variable {ops : Array Oper} {rest : List Oper} {op : Oper} {a : Act} {w : World} {Q : Exit → Act → World → Prop} {K : Act → World → Prop}
/-- One that rests, whole, into a block of its own. -/
theorem wpList_store_pair (hgd : op.guard = none) (x y : Operand) (ho : op.op = .store 54 x y)
    (g : Nat) (p q : Int) (hx : a.eval x = .pointer (some ⟨g, 0, none⟩)) (hy : a.eval y = .agg #[.int .i64 p, .int .i64 q]) (c0 c1 : Value) (hg : w.heap[g]? = some (.cells #[c0, c1] 54 (0, 0)))
    (h : ∀ w', w'.heap[g]? = some (.cells #[.int .i64 p, .int .i64 q] 54 (0, 0)) → Only g w w' → wpList Try.prog ops Q rest (a.put op.dst undef) w') : wpList Try.prog ops Q (op :: rest) a w :=
  wpList_store_whole hgd 54 x y ho g [.int .i64 p, .int .i64 q] hx hy 54 [c0, c1] hg sizeR rfl (one_pair (p, q)) h
theorem wp_store_pair (d : Option Tmp) (x y : Operand) (ho : op.op = .store 54 x y)
    (g : Nat) (p q : Int) (hx : a.eval x = .pointer (some ⟨g, 0, none⟩)) (hy : a.eval y = .agg #[.int .i64 p, .int .i64 q]) (c0 c1 : Value) (hg : w.heap[g]? = some (.cells #[c0, c1] 54 (0, 0))) (hd : op.dst = d)
    (h : ∀ w', w'.heap[g]? = some (.cells #[.int .i64 p, .int .i64 q] 54 (0, 0)) → Only g w w' → K (a.put d undef) w') : op.wp Try.prog a w K Q :=
  wp_store_whole d 54 x y ho g [.int .i64 p, .int .i64 q] hx hy 54 [c0, c1] hg sizeR rfl (one_pair (p, q)) hd h
end
theorem range_pair {w : World} {b o : Nat} {x : Int × Int} (h0 : w.cell? ⟨b, o, none⟩ = some (.int .i64 x.1)) (h1 : w.cell? ⟨b, o + 1, none⟩ = some (.int .i64 x.2)) : w.rangeAt b o [.int .i64 x.1, .int .i64 x.2] := fun j u hj => by
  match j with
  | 0 => simp only [List.getElem?_cons_zero, Option.some.injEq] at hj; subst hj; exact h0
  | 1 => simp only [List.getElem?_cons_succ, List.getElem?_cons_zero, Option.some.injEq] at hj; subst hj; exact h1
  | j + 2 => simp at hj
theorem at_r_none (g : Nat) (k : Int) (w : World) {n : Nat} (h8 : w.cell? ⟨g, 8, none⟩ = some (.int .i64 (n : Int))) (hk : k < 0 ∨ (n : Int) ≤ k) :
    Calls Try.prog 53 #[.pointer (some ⟨g, 6, none⟩), .int .i64 k] w fun e w' => e = .returned (.tuple #[.agg #[.int .i64 0, .int .i64 0], .bool false]) ∧ Below w.heap.size w w' := by
  have hB1 : Below w.heap.size w (w.alloc (.cells #[.int .i64 0, .int .i64 0] 54)) := (Below.refl _ _).alloc (Nat.le_refl _) _
  have HB2 : Hid (Below w.heap.size w ((w.alloc (.cells #[.int .i64 0, .int .i64 0] 54)).alloc (.cells #[.int .i64 0, .int .i64 0] 54))) := hB1.alloc hB1.size _
  have HG2 : Hid (((w.alloc (.cells #[.int .i64 0, .int .i64 0] 54)).alloc (.cells #[.int .i64 0, .int .i64 0] 54)).heap[w.heap.size]? = some (.cells #[.int .i64 0, .int .i64 0] 54)) := heap2_0' w _ _
  obtain ⟨c0, c1⟩ := cells2 (heap2_1' w (.cells #[.int .i64 0, .int .i64 0] 54) (.cells #[.int .i64 0, .int .i64 0] 54))
  have h8' := hB1.cell (World.block_lt_of_cell? w _ h8)
  rw [h8] at h8'
  clear hB1 h8
  by_cases h0 : k < 0
  · clear hk h8'
    go_enter Try.func53, Try.ntmps53
    go_upto_region 3 with fail
    generalize (w.alloc (.cells #[.int .i64 0, .int .i64 0] 54)).alloc (.cells #[.int .i64 0, .int .i64 0] 54) = w2 at HB2 HG2 c0 c1 ⊢
    go_wp2_with (with_reducible refine wpList_store_pair rfl (.tmp 4) (.tmp 17) rfl w.heap.size 0 0 rfl rfl _ _ HG2.out ?_)
    intro w3 h3 ho3
    have H3 := Lib.hid h3
    have HB3 : Hid (Below w.heap.size w w3) := ho3.below _ _ (Nat.le_refl _) HB2.out
    clear h3 ho3 c0 c1
    go_wp2
    refine bodyPost_ret (v := .tuple #[.agg #[.int .i64 0, .int .i64 0], .bool false]) (results_cell_tmp_row (P := Try.prog) (fn := Try.f53) rfl _ _ w.heap.size 54 _ (0, 0) _ rfl H3.out Try.underlying54 rfl (by kernel_rfl)) rfl ?_
    exact ⟨rfl, HB3.out⟩
  · have hn : (n : Int) ≤ k := by omega
    clear hk
    go_enter Try.func53, Try.ntmps53
    go_upto_region 3 with fail
    generalize (w.alloc (.cells #[.int .i64 0, .int .i64 0] 54)).alloc (.cells #[.int .i64 0, .int .i64 0] 54) = w2 at HB2 HG2 c0 c1 ⊢
    go_wp2_with (with_reducible refine wpList_store_pair rfl (.tmp 4) (.tmp 17) rfl w.heap.size 0 0 rfl rfl _ _ HG2.out ?_)
    intro w3 h3 ho3
    have H3 := Lib.hid h3
    have HB3 : Hid (Below w.heap.size w w3) := ho3.below _ _ (Nat.le_refl _) HB2.out
    clear h3 ho3 c0 c1
    go_wp2
    refine bodyPost_ret (v := .tuple #[.agg #[.int .i64 0, .int .i64 0], .bool false]) (results_cell_tmp_row (P := Try.prog) (fn := Try.f53) rfl _ _ w.heap.size 54 _ (0, 0) _ rfl H3.out Try.underlying54 rfl (by kernel_rfl)) rfl ?_
    exact ⟨rfl, HB3.out⟩
set_option maxRecDepth 20000 in
theorem at_r_some (g i : Nat) {m : Am} (w : World) (h : AmAt w g m) (hi : i < m.rl.length) :
    Calls Try.prog 53 #[.pointer (some ⟨g, 6, none⟩), .int .i64 (i : Int)] w fun e w' => e = .returned (.tuple #[pairV m.rl[i], .bool true]) ∧ Below w.heap.size w w' := by
  have HB1 : Hid (Below w.heap.size w (w.alloc (.cells #[.int .i64 0, .int .i64 0] 54))) := (Below.refl _ _).alloc (Nat.le_refl _) _
  have HG1 : Hid ((w.alloc (.cells #[.int .i64 0, .int .i64 0] 54)).heap[w.heap.size]? = some (.cells #[.int .i64 0, .int .i64 0] 54)) := heap_alloc_last _ _
  have h' := h.gr HB1.out
  clear h
  have h := h'
  clear h'
  obtain ⟨k0, k1, k2, k3, k4, k5, k6, k7, k8, k9, k10⟩ := cells11 h.row
  have hfew := h.rr.few
  obtain ⟨hp, hx⟩ := h.rr.at hi
  obtain ⟨b, cap, cur, ev, hbl, hb, hc1, hc2, hc3, hc4⟩ := own_open h.ro (.inl (by omega))
  have hcell := own_rest_at hb hc4 _ hp
  rw [hx] at hcell
  have hrange := range_pair hcell.1 hcell.2
  rw [ev] at k6
  have hff := h.rr.first_lt
  have h131 := h.few.2
  have PL : ∀ w' : World, w'.cell? ⟨g, 6, none⟩ = some (.slice (some ⟨b, 0, none⟩) m.rc.length cap) → w'.cell? ⟨g, 7, none⟩ = some (.int .i64 (m.rf : Int)) → _ := fun w' a' b' => place_r g _ _ cap m.rf i w' a' b' h131 hff (by omega)
  have HPL := Lib.hid PL
  obtain ⟨p, hpe⟩ : ∃ p, p = pl m.rf m.rc.length i := ⟨_, rfl⟩
  rw [← hpe] at hrange hp HPL
  obtain ⟨L, hL⟩ : ∃ L, L = m.rc.length := ⟨_, rfl⟩
  rw [← hL] at k6 hp h131 hc1 HPL
  obtain ⟨n, hn⟩ : ∃ n, n = m.rl.length := ⟨_, rfl⟩
  obtain ⟨x, hxe⟩ : ∃ x, x = m.rl[i] := ⟨_, rfl⟩
  rw [← hxe] at hrange ⊢
  rw [← hn] at k8
  have hin : ¬ (n : Int) ≤ (i : Int) := by omega
  have hi0 : ¬ (i : Int) < 0 := by omega
  have hpi : (0 : Int) ≤ (p : Int) := by omega
  have hpl : (p : Int) < (L : Int) := by omega
  have hpn : ((p : Int)).toNat = p := by omega
  have H3 := Lib.hid k6
  have H4 := Lib.hid k7
  have H5 := Lib.hid k8
  have HCE := Lib.hid hrange
  clear k0 k1 k2 k3 k4 k5 k6 k7 k9 k10 hfew hx ev hbl hb hc1 hc2 hc3 hc4 hff PL hpe hL hn hxe h hi hcell hrange
  go_enter Try.func53, Try.ntmps53
  go_upto_region 4 with fail
  generalize w.alloc (.cells #[.int .i64 0, .int .i64 0] 54) = w1 at HB1 HG1 H3 H4 H5 HCE k8 ⊢
  have HC : Hid (Gr w1 w1.drew) := Gr.drew w1
  clear k8
  refine wp_region_G 9 Gr (by kernel_rfl) ?_
  generalize w1.drew = wc at HC ⊢
  -- 0: slot 18
  refine wpG_take preGr (i := 0) (v := ?_) (by kernel_rfl) (some 18) (by kernel_rfl) rfl (by kernel_rfl) (by kernel_rfl) (by kernel_rfl) (fun _ _ _ h => h) (by rfl) (fun w' hw' => ?_) rfl ?_
  rotate_left
  · try (have k3 := cell_gr (Gr.trans HC.out hw') H3.out)
    go_simp
    with_reducible rfl
  simp only [Act.put, List.setIfInBounds_toArray, List.set_cons_zero, List.set_cons_succ]
  -- 1: slot 19
  refine wpG_take preGr (i := 1) (v := ?_) (by kernel_rfl) (some 19) (by kernel_rfl) rfl (by kernel_rfl) (by kernel_rfl) (by kernel_rfl) (fun _ _ _ h => h) (by rfl) (fun w' hw' => ?_) rfl ?_
  rotate_left
  · try (have k3 := cell_gr (Gr.trans HC.out hw') H3.out)
    go_simp
    with_reducible rfl
  simp only [Act.put, List.setIfInBounds_toArray, List.set_cons_zero, List.set_cons_succ]
  -- 2: slot 20
  refine wpG_take preGr (i := 2) (v := ?_) (by kernel_rfl) (some 20) (by kernel_rfl) rfl (by kernel_rfl) (by kernel_rfl) (by kernel_rfl) (fun _ _ _ h => h) (by rfl) (fun w' hw' => ?_) rfl ?_
  rotate_left
  · try (have k3 := cell_gr (Gr.trans HC.out hw') H3.out)
    go_simp
    with_reducible rfl
  simp only [Act.put, List.setIfInBounds_toArray, List.set_cons_zero, List.set_cons_succ]
  -- 3: slot 21
  refine wpG_take preGr (i := 3) (v := ?_) (by kernel_rfl) (some 21) (by kernel_rfl) rfl (by kernel_rfl) (by kernel_rfl) (by kernel_rfl) (fun _ _ _ h => h) (by rfl) (fun w' hw' => ?_) rfl ?_
  rotate_left
  · try (have k3 := cell_gr (Gr.trans HC.out hw') H3.out)
    go_simp
    with_reducible rfl
  simp only [Act.put, List.setIfInBounds_toArray, List.set_cons_zero, List.set_cons_succ]
  -- 4: slot 22
  refine wpG_take preGr (i := 4) (v := ?_) (by kernel_rfl) (some 22) (by kernel_rfl) rfl (by kernel_rfl) (by kernel_rfl) (by kernel_rfl) (fun _ _ _ h => h) (by rfl) (fun w' hw' => ?_) rfl ?_
  rotate_left
  · try (have k3 := cell_gr (Gr.trans HC.out hw') H3.out)
    go_simp
    with_reducible rfl
  simp only [Act.put, List.setIfInBounds_toArray, List.set_cons_zero, List.set_cons_succ]
  -- 5: slot 23
  refine wpG_take preGr (i := 5) (v := ?_) (by kernel_rfl) (some 23) (by kernel_rfl) rfl (by kernel_rfl) (by kernel_rfl) (by kernel_rfl) (fun _ _ _ h => h) (by rfl) (fun w' hw' => ?_) rfl ?_
  rotate_left
  · try (have k3 := cell_gr (Gr.trans HC.out hw') H3.out)
    go_simp
    with_reducible rfl
  simp only [Act.put, List.setIfInBounds_toArray, List.set_cons_zero, List.set_cons_succ]
  refine wpG_one (i := 6) rfl (by kernel_rfl) (by rfl) ?_
  go_simp
  refine (HPL.out wc (cell_gr HC.out H3.out) (cell_gr HC.out H4.out)).mono ?_
  rintro e wn ⟨rfl, rfl⟩
  refine ⟨Gr.refl _, ?_⟩
  try simp only [Act.put, List.setIfInBounds_toArray, List.set_cons_zero, List.set_cons_succ]
  -- 7: slot 25
  refine wpG_take preGr (i := 7) (v := ?_) (by kernel_rfl) (some 25) (by kernel_rfl) rfl (by kernel_rfl) (by kernel_rfl) (by kernel_rfl) (fun _ _ _ h => h) (by rfl) (fun w' hw' => ?_) rfl ?_
  rotate_left
  · try (have k3 := cell_gr (Gr.trans HC.out hw') H3.out)
    go_simp
    with_reducible rfl
  simp only [Act.put, List.setIfInBounds_toArray, List.set_cons_zero, List.set_cons_succ]
  -- 8: slot 26
  refine wpG_take preGr (i := 8) (v := ?_) (by kernel_rfl) (some 26) (by kernel_rfl) rfl (by kernel_rfl) (by kernel_rfl) (by kernel_rfl) (fun _ _ _ h => h) (by rfl) (fun w' hw' => ?_) rfl ?_
  rotate_left
  · refine Eq.trans (load_mid_run (P := Try.prog) 54 (.tmp 25) ?_ b (p * 2) ?_ [.int .i64 x.1, .int .i64 x.2] _ (range_gr (Gr.trans HC.out hw') HCE.out) Try.underlying54 rfl sizeR) ?_
    · rfl
    · simp [go_sem]
    · with_reducible rfl
  simp only [Act.put, List.setIfInBounds_toArray, List.set_cons_zero, List.set_cons_succ]
  refine wpG_tail (i := 9) (by decide) rfl (by kernel_rfl) (by rfl) ?_
  refine wp_store_whole (none) 54 (.tmp 4) (.tmp 26) rfl w.heap.size [.int .i64 x.1, .int .i64 x.2] rfl rfl 54 [.int .i64 0, .int .i64 0] (heap_gr HC.out HG1.out) sizeR rfl (one_pair x) rfl ?_
  intro wn h5 ho
  have HF5 : Hid (wn.heap[w.heap.size]? = some (.cells #[.int .i64 x.1, .int .i64 x.2] 54 (0, 0))) := h5
  have HF6 : Hid (Below w.heap.size w wn) := ho.below _ _ (Nat.le_refl _) (HB1.out.trans (Below.mono HC.out HB1.out.size))
  clear h5 ho
  try simp only [Act.put, List.setIfInBounds_toArray, List.set_cons_zero, List.set_cons_succ]
  refine wpG_tail (i := 10) (by decide) rfl (by kernel_rfl) (by rfl) ?_
  go_simp
  try simp only [Act.put, List.setIfInBounds_toArray, List.set_cons_zero, List.set_cons_succ]
  refine wpG_done (by kernel_rfl) ?_ _
  go_wp2
  refine bodyPost_ret (v := .tuple #[pairV x, .bool true]) (results_cell_tmp_row (P := Try.prog) (fn := Try.f53) rfl _ _ w.heap.size 54 _ (0, 0) _ rfl HF5.out Try.underlying54 rfl (by kernel_rfl)) rfl ?_
  exact ⟨rfl, HF6.out⟩
end Go.Proofs.Ytpafcabcnkmadaa.Id
