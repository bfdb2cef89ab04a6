/-
  tags.first, whatever comes.
-/
import Derived.Test.YtcpeglljcipcbaaTagM
import Derived.IntWalk
namespace Go.Proofs.Ytcpeglljcipcbaa
open Go.RowKit
set_option linter.unusedVariables false
set_option linter.unusedSimpArgs false

theorem results_cell_tmp_tmp_row {P : Program} {fn : Func} {p u u2 : Tmp} {ty : TypeId} (h : fn.results = #[.cell p ty, .tmp u, .tmp u2]) (tmps : Array Value) (w : World) (g : Nat) (t : TypeId) (cs : Array Value) (fr : Nat × Nat) (d : TypeDesc)
    (hp : tmps.getD p undef = .pointer (some ⟨g, 0, none⟩)) (hg : w.heap[g]? = some (.cells cs t fr))
    (hu : P.underlying ty = some d) (hd : (match d with | .struct _ | .array _ _ => true | _ => false) = true) (hi : (P.info? ty).map (·.size) = some cs.size) :
    (results fn tmps).run P w = .ok (.tuple #[.agg cs, tmps.getD u undef, tmps.getD u2 undef]) w := by
  have hp' : tmps[p]?.getD undef = .pointer (some ⟨g, 0, none⟩) := by simpa using hp
  have hr := run_loadVar_row w g t ty cs fr d hg hu hd hi
  simp only [results, h]
  simp [Sem.run_bind, Result.andThen, hp', asAddr, hr]

/-- The head and the value are there. -/
def fok (l : List UInt8) : Prop := 4 ≤ l.length ∧ 4 + tN l ≤ l.length
def FN (w : World) (e : Ending) (w' : World) : Prop := e = .returned (.tuple #[.agg #[.int .i64 0, .slice none 0 0], .slice none 0 0, .bool false]) ∧ Below w.heap.size w w'
def FY (n : Nat) (l : List UInt8) (w0 w : World) (e : Ending) (w' : World) : Prop :=
  ∃ A C a' c', e = .returned (.tuple #[.agg #[.int .i64 (tT l : Int), .slice A (tN l) C], .slice a' (n - 4 - tN l) c', .bool true]) ∧ OwnB w' w.heap.size 5 (.slice A (tN l) C) ((l.drop 4).take (tN l)) ∧ Bs w0 (.slice a' (n - 4 - tN l) c') (l.drop (4 + tN l)) ∧ Below w.heap.size w w'
theorem set2 {w : World} {g : Nat} {t : TypeId} {z0 z1 : Value} (h : w.heap[g]? = some (.cells #[z0, z1] t (0, 0))) (a b : Value) :
    ((w.setCell ⟨g, 0, none⟩ a).setCell ⟨g, 1, none⟩ b).heap[g]? = some (.cells #[a, b] t (0, 0)) :=
  heap_setCell_same _ g 1 _ t b (heap_setCell_same _ g 0 _ t a h)
theorem take_u8' (l : List UInt8) (k : Nat) : (l.map u8v).take (k * 1) = (l.take k).map u8v := by simp

set_option maxRecDepth 20000 in
set_option maxHeartbeats 4000000 in
theorem first_any (a : Option Addr) (n c : Nat) (l : List UInt8) (hn : l.length = n) (w0 w : World) (hb : Bs w0 (.slice a n c) l) (hw : Below w0.heap.size w0 w) (hr : n ≤ 140737488351232) :
    Calls Try.prog 50 #[.slice a n c] w fun e w' => (¬ fok l ∧ FN w e w') ∨ (fok l ∧ FY n l w0 w e w') := by
  have HW := Lib.hid hw
  clear hw
  obtain ⟨i0, hi, hz0, hz1, hz2⟩ := info_parts info5
  obtain ⟨_, _, es0, hc0, hm0⟩ := hb.shape
  simp only [Value.slice.injEq] at es0
  obtain ⟨rfl, z0, rfl⟩ := es0
  clear z0
  unfold maxLen at hm0
  have HB0 := Lib.hid ((Below.refl w.heap.size w).alloc (Nat.le_refl _) (.cells #[.int .i64 0, .slice none 0 0] 61))
  have HG0 : Hid ((w.alloc (.cells #[.int .i64 0, .slice none 0 0] 61)).heap[w.heap.size]? = some (.cells #[.int .i64 0, .slice none 0 0] 61)) := heap_alloc_last _ _
  have HN := Lib.hid hn
  have HBS := Lib.hid hb
  by_cases h4 : n < 4
  · have HF : Hid (¬ fok l) := by intro h; have := h.1; omega
    clear hn hb
    go_enter Try.func50, Try.ntmps50
    go_wp2
    refine bodyPost_ret (v := .tuple #[.agg #[.int .i64 0, .slice none 0 0], .slice none 0 0, .bool false]) (results_cell_tmp_tmp_row (P := Try.prog) (fn := Try.f50) rfl _ _ w.heap.size 61 _ (0, 0) _ rfl HG0.out Try.underlying61 rfl (by kernel_rfl)) rfl ?_
    exact .inl ⟨HF.out, rfl, HB0.out⟩
  · have hb1 : Rd w0 1 (.slice a n c) n (l.map u8v) := by
      have := hb
      unfold Bs at this
      rw [hn] at this
      exact this
    obtain ⟨a1, hs1, hr1⟩ := slice_upto (P := Try.prog) Try.underlying22 hi hz1 hb1 .i64 2 2 rfl (by omega)
    obtain ⟨a2, hs2, hr2⟩ := slice_range (P := Try.prog) Try.underlying22 hi hz1 hb1 .i64 .i64 2 4 2 4 rfl rfl (by omega) (by omega)
    obtain ⟨a4, hs4, hr4⟩ := slice_from (P := Try.prog) Try.underlying22 hi hz1 hb1 .i64 4 4 rfl (by omega)
    rw [take_u8'] at hr1
    rw [drop_u8, take_u8'] at hr2
    rw [drop_u8] at hr4
    have HS1 : Hid (Bs w0 (.slice a1 2 c) (l.take 2)) := Bs.of_rd hr1 rfl
    have HS2 : Hid (Bs w0 (.slice a2 2 (c - 2)) ((l.drop 2).take 2)) := Bs.of_rd hr2 rfl
    obtain ⟨X, hX⟩ : ∃ X, X = tT l := ⟨_, rfl⟩
    obtain ⟨Y, hY⟩ : ∃ Y, Y = tN l := ⟨_, rfl⟩
    have e1 : takeN (l.take 2) 2 = X := by rw [hX]; unfold tT takeN; rw [List.take_take]; rfl
    have e2 : takeN ((l.drop 2).take 2) 2 = Y := by rw [hY]; unfold tN takeN; rw [List.take_take]; rfl
    have T1 := take_yes (w.alloc (.cells #[.int .i64 0, .slice none 0 0] 61)) a1 2 c (l.take 2) 2 (by rw [List.length_take]; omega) (HS1.out.below (HW.out.trans (HB0.out.mono HW.out.size))) (by decide) (by decide) (by decide) (by decide)
    rw [e1] at T1
    have HT1 := Lib.hid T1
    have HT2 : Hid (∀ w', Below w.heap.size w w' → Calls Try.prog 29 #[.slice a2 2 (c - 2), .int .i64 2] w' fun e w2 => ∃ v, e = .returned (.tuple #[.int .u64 Y, v, .bool true]) ∧ OwnB w2 w'.heap.size 5 v (((l.drop 2).take 2).drop 2) ∧ Below w'.heap.size w' w2) := fun w' hw' => by
      have := take_yes w' a2 2 (c - 2) ((l.drop 2).take 2) 2 (by rw [List.length_take, List.length_drop]; omega) (HS2.out.below (HW.out.trans (hw'.mono HW.out.size))) (by decide) (by decide) (by decide) (by decide)
      rwa [e2] at this
    have hX16 : X < 65536 := by rw [hX]; exact tT_lt l (by omega)
    have hY16 : Y < 65536 := by rw [hY]; exact tN_lt l (by omega)
    have HX := Lib.hid hX
    have HY := Lib.hid hY
    have HR4 := Lib.hid hr4
    clear hb1 hr1 hr2 hr4 hn hb e1 e2 T1 hX hY
    go_enter Try.func50, Try.ntmps50
    go_wp2_with fail
    refine HT1.out.mono ?_
    rintro e w1 ⟨v1, rfl, hown1, hb1⟩
    have HB1 := Lib.hid (HB0.out.trans (hb1.mono HB0.out.size))
    have HG1 := Lib.hid (heap_below HG0.out hb1)
    clear hown1 hb1
    go_wp2_with fail
    refine (HT2.out _ HB1.out).mono ?_
    rintro e w2 ⟨v2, rfl, hown2, hb2⟩
    have HB2 := Lib.hid (HB1.out.trans (hb2.mono HB1.out.size))
    have HG2 := Lib.hid (heap_below HG1.out hb2)
    clear hown2 hb2
    by_cases hlt : n - 4 < Y
    · have HF : Hid (¬ fok l) := by intro h; have := h.2; have := HN.out; have := HY.out; omega
      obtain ⟨k0, k1⟩ := copy_cells HG2.out
      have f0 := frozen_of_row _ _ 0 _ _ HG2.out
      have f1 := frozen_of_row _ _ 1 _ _ HG2.out
      have hcast : ((n - 4 : Nat) : Int) = (n : Int) - 4 := by omega
      go_wp2
      refine bodyPost_ret (v := .tuple #[.agg #[.int .i64 0, .slice none 0 0], .slice none 0 0, .bool false]) (results_cell_tmp_tmp_row (P := Try.prog) (fn := Try.f50) rfl _ _ w.heap.size 61 _ (0, 0) _ rfl (set2 HG2.out _ _) Try.underlying61 rfl (by kernel_rfl)) rfl ?_
      exact .inl ⟨HF.out, rfl, (HB2.out.setCell (Nat.le_refl _) _).setCell (Nat.le_refl _) _⟩
    · have HF : Hid (fok l) := by
        have h1 := HN.out
        have h2 := HY.out
        show _ ∧ _
        omega
      have hb4 : Rd w0 1 (.slice a4 (n - 4) (c - 4)) (n - 4) ((l.drop 4).map u8v) := HR4.out
      have hl4 : (l.drop 4).length = n - 4 := by rw [List.length_drop, HN.out]
      obtain ⟨a5, hs5, hr5⟩ := slice_upto (P := Try.prog) Try.underlying22 hi hz1 hb4 .u64 Y Y rfl (by omega)
      obtain ⟨a6, hs6, hr6⟩ := slice_from (P := Try.prog) Try.underlying22 hi hz1 hb4 .u64 Y Y rfl (by omega)
      rw [take_u8'] at hr5
      rw [drop_u8] at hr6
      have HS5 : Hid (Bs w0 (.slice a5 Y (c - 4)) ((l.drop 4).take Y)) := Bs.of_rd hr5 rfl
      have HS6 : Hid (Bs w0 (.slice a6 (n - 4 - Y) (c - 4 - Y)) (l.drop (4 + Y))) := by
        have := Bs.of_rd hr6 rfl
        rwa [List.drop_drop] at this
      have hl5 : ((l.drop 4).take Y).length = Y := by rw [List.length_take, hl4]; omega
      have HL5 := Lib.hid hl5
      have hWX : IntKind.i64.wrap (X : Int) = (X : Int) := IntWalk.i64_in _ (by omega)
      have CL : Hid (∀ w', Gr w2 w' → Calls Try.prog 30 #[.slice a5 Y (c - 4)] w' fun e w3 => ∃ v, e = .returned v ∧ OwnB w3 w'.heap.size 5 v ((l.drop 4).take Y) ∧ Below w'.heap.size w' w3) := fun w' hw' =>
        clone_any w' a5 Y (c - 4) _ HL5.out ((HS5.out.below (HW.out.trans (HB2.out.mono HW.out.size))).below hw') (by omega)
      have hcast : ((n - 4 : Nat) : Int) = (n : Int) - 4 := by omega
      clear hb4 hl4 hr5 hr6 hl5
      go_wp2_with fail
      refine wp_region_G 13 (Below (w.heap.size)) (by kernel_rfl) ?_
      -- 0: slot 37
      refine wpG_take (preBelow (w.heap.size)) (i := 0) (v := ?_) (by kernel_rfl) (some 37) (by kernel_rfl) rfl (by kernel_rfl) (by kernel_rfl) (by kernel_rfl) (fun _ _ _ h => h) (by rfl) (fun w' hw' => ?_) rfl ?_
      rotate_left
      · go_simp
        with_reducible rfl
      simp only [Act.put, List.setIfInBounds_toArray, List.set_cons_zero, List.set_cons_succ]
      -- 1: slot 38
      refine wpG_take (preBelow (w.heap.size)) (i := 1) (v := ?_) (by kernel_rfl) (some 38) (by kernel_rfl) rfl (by kernel_rfl) (by kernel_rfl) (by kernel_rfl) (fun _ _ _ h => h) (by rfl) (fun w' hw' => ?_) rfl ?_
      rotate_left
      · go_simp
        with_reducible rfl
      simp only [Act.put, List.setIfInBounds_toArray, List.set_cons_zero, List.set_cons_succ]
      -- 2: slot 39
      refine wpG_take (preBelow (w.heap.size)) (i := 2) (v := ?_) (by kernel_rfl) (some 39) (by kernel_rfl) rfl (by kernel_rfl) (by kernel_rfl) (by kernel_rfl) (fun _ _ _ h => h) (by rfl) (fun w' hw' => ?_) rfl ?_
      rotate_left
      · go_simp
        with_reducible rfl
      simp only [Act.put, List.setIfInBounds_toArray, List.set_cons_zero, List.set_cons_succ]
      -- 3: slot 40
      refine wpG_take (preBelow (w.heap.size)) (i := 3) (v := ?_) (by kernel_rfl) (some 40) (by kernel_rfl) rfl (by kernel_rfl) (by kernel_rfl) (by kernel_rfl) (fun _ _ _ h => h) (by rfl) (fun w' hw' => ?_) rfl ?_
      rotate_left
      · go_simp
        with_reducible rfl
      simp only [Act.put, List.setIfInBounds_toArray, List.set_cons_zero, List.set_cons_succ]
      -- 4: slot 41
      refine wpG_take (preBelow (w.heap.size)) (i := 4) (v := ?_) (by kernel_rfl) (some 41) (by kernel_rfl) rfl (by kernel_rfl) (by kernel_rfl) (by kernel_rfl) (fun _ _ _ h => h) (by rfl) (fun w' hw' => ?_) rfl ?_
      rotate_left
      · go_simp
        with_reducible rfl
      simp only [Act.put, List.setIfInBounds_toArray, List.set_cons_zero, List.set_cons_succ]
      -- 7: slot 44
      refine wpG_take (preBelow (w.heap.size)) (i := 7) (v := ?_) (by kernel_rfl) (some 44) (by kernel_rfl) rfl (by kernel_rfl) (by kernel_rfl) (by kernel_rfl) (fun _ _ _ h => h) (by rfl) (fun w' hw' => ?_) rfl ?_
      rotate_left
      · go_simp
        with_reducible rfl
      simp only [Act.put, List.setIfInBounds_toArray, List.set_cons_zero, List.set_cons_succ]
      -- 8: slot 45
      refine wpG_take (preBelow (w.heap.size)) (i := 8) (v := ?_) (by kernel_rfl) (some 45) (by kernel_rfl) rfl (by kernel_rfl) (by kernel_rfl) (by kernel_rfl) (fun _ _ _ h => h) (by rfl) (fun w' hw' => ?_) rfl ?_
      rotate_left
      · go_simp
        with_reducible rfl
      simp only [Act.put, List.setIfInBounds_toArray, List.set_cons_zero, List.set_cons_succ]
      -- 9: slot 46
      refine wpG_take (preBelow (w.heap.size)) (i := 9) (v := ?_) (by kernel_rfl) (some 46) (by kernel_rfl) rfl (by kernel_rfl) (by kernel_rfl) (by kernel_rfl) (fun _ _ _ h => h) (by rfl) (fun w' hw' => ?_) rfl ?_
      rotate_left
      · go_simp
        with_reducible rfl
      simp only [Act.put, List.setIfInBounds_toArray, List.set_cons_zero, List.set_cons_succ]
      refine wpG_one (i := 5) rfl (by kernel_rfl) (by rfl) ?_
      go_simp
      refine (CL.out _ (Gr.drew _)).mono ?_
      rintro e w3 ⟨v3, rfl, hown3, hb3⟩
      obtain ⟨A3, L3, C3, ev, hL3, _, _⟩ := hown3.bs.sl
      rw [HL5.out] at hL3
      subst hL3
      subst ev
      refine ⟨hb3.mono HB2.out.size, ?_⟩
      have hq3 : Gr w2 w3 := (Gr.drew w2).trans hb3
      have HB3 := Lib.hid (HB2.out.trans (Below.mono hq3 HB2.out.size))
      have HG3 := Lib.hid (heap_gr hq3 HG2.out)
      have HO3 := Lib.hid hown3
      have hsz : w.heap.size < w2.heap.size := (Array.getElem?_eq_some_iff.1 HG2.out).1
      have HSZ := Lib.hid hsz
      clear hown3 hb3 hq3 hsz
      try simp only [Act.put, List.setIfInBounds_toArray, List.set_cons_zero, List.set_cons_succ]
      -- 6: slot 43
      refine wpG_take (preBelow (w.heap.size)) (i := 6) (v := ?_) (by kernel_rfl) (some 43) (by kernel_rfl) rfl (by kernel_rfl) (by kernel_rfl) (by kernel_rfl) (fun _ _ _ h => h) (by rfl) (fun w' hw' => ?_) rfl ?_
      rotate_left
      · refine Eq.trans (build_run (P := Try.prog) 61 [(0, .tmp 38), (1, .tmp 42)] ?_ #[.int .i64 X, .slice A3 Y C3] ?_) ?_
        · rfl
        · exact builtT X A3 Y C3
        · with_reducible rfl
      simp only [Act.put, List.setIfInBounds_toArray, List.set_cons_zero, List.set_cons_succ]
      refine wpG_one (i := 10) rfl (by kernel_rfl) (by rfl) ?_
      refine wp_store_whole (none) 61 (.tmp 2) (.tmp 43) rfl w.heap.size [.int .i64 X, .slice A3 Y C3] rfl rfl 61 [.int .i64 0, .slice none 0 0] HG3.out sizeT rfl (one_tag _ rfl) rfl ?_
      intro w4 h4 ho4
      refine ⟨ho4.below _ _ (Nat.le_refl _) (Below.refl _ _), ?_⟩
      have H4 := Lib.hid h4
      have HB4 := Lib.hid (ho4.below _ _ (Nat.le_refl _) HB3.out)
      have HO4 : Hid (OwnB w4 w.heap.size 5 (.slice A3 Y C3) ((l.drop 4).take Y)) := (HO3.out.only ho4 (by have := HSZ.out; simp [drew_size]; omega)).mono (by have := HSZ.out; simp [drew_size]; omega)
      clear h4 ho4
      try simp only [Act.put, List.setIfInBounds_toArray, List.set_cons_zero, List.set_cons_succ]
      -- 11: slot 3
      refine wpG_take (preBelow (w.heap.size)) (i := 11) (v := ?_) (by kernel_rfl) (some 3) (by kernel_rfl) rfl (by kernel_rfl) (by kernel_rfl) (by kernel_rfl) (fun _ _ _ h => h) (by rfl) (fun w' hw' => ?_) rfl ?_
      rotate_left
      · go_simp
        with_reducible rfl
      simp only [Act.put, List.setIfInBounds_toArray, List.set_cons_zero, List.set_cons_succ]
      -- 12: slot 4
      refine wpG_take (preBelow (w.heap.size)) (i := 12) (v := ?_) (by kernel_rfl) (some 4) (by kernel_rfl) rfl (by kernel_rfl) (by kernel_rfl) (by kernel_rfl) (fun _ _ _ h => h) (by rfl) (fun w' hw' => ?_) rfl ?_
      rotate_left
      · go_simp
        with_reducible rfl
      simp only [Act.put, List.setIfInBounds_toArray, List.set_cons_zero, List.set_cons_succ]
      refine wpG_done (by kernel_rfl) ?_ _
      go_wp2
      refine bodyPost_ret (v := .tuple #[.agg #[.int .i64 X, .slice A3 Y C3], .slice a6 (n - 4 - Y) (c - 4 - Y), .bool true]) (results_cell_tmp_tmp_row (P := Try.prog) (fn := Try.f50) rfl _ _ w.heap.size 61 _ (0, 0) _ rfl H4.out Try.underlying61 rfl (by kernel_rfl)) rfl ?_
      refine .inr ⟨HF.out, ?_⟩
      unfold FY
      rw [← HX.out, ← HY.out]
      exact ⟨A3, C3, a6, c - 4 - Y, rfl, HO4.out, HS6.out, HB4.out⟩
end Go.Proofs.Ytcpeglljcipcbaa
