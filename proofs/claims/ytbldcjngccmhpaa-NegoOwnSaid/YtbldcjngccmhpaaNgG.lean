/-
  nego's misfits: its closure keeps which rules' types came.
-/
import Derived.Test.YtbldcjngccmhpaaNgF
namespace Go.Proofs.Ytbldcjngccmhpaa.Ng
open Go.RowKit O
set_option linter.unusedVariables false
set_option linter.unusedSimpArgs false
/-- An option that fits no rule, or whose type came ahead of it. -/
def misf (rs : List Ru) (seen : List PT) (o : PT) : Option PT := if (ruleOf rs o).isNone || hasT seen o.1 then some o else none
theorem rejs_scan (rs : List Ru) : ∀ l seen, rejs rs seen l = scanL (misf rs) seen l
  | [], _ => rfl
  | o :: l, seen => by
    unfold rejs scanL
    rw [rejs_scan rs l]
    unfold misf
    split <;> rfl
/-- Which rules' types came. -/
def cameC (rs : List Ru) (seen : List PT) : List Value := (List.range 16).map fun i => .bool ((rs[i]?).any fun r => hasT seen r.typ)
theorem cameC_length (rs : List Ru) (seen : List PT) : (cameC rs seen).length = 16 := by simp [cameC]
theorem cameC_nil (rs : List Ru) : cameC rs [] = List.replicate 16 (.bool false) := by
  apply List.ext_getElem
  · simp [cameC]
  · intro i h1 h2
    simp only [cameC, List.getElem_map, List.getElem_replicate, Value.bool.injEq]
    cases rs[(List.range 16)[i]'(by simpa [cameC] using h1)]? <;> rfl
theorem cameC_get (rs : List Ru) (seen : List PT) (i : Nat) (h : i < 16) : (cameC rs seen)[i]? = some (.bool ((rs[i]?).any fun r => hasT seen r.typ)) := by
  unfold cameC
  rw [List.getElem?_map, List.getElem?_range h]; rfl
theorem hasT_snoc (seen : List PT) (o : PT) (t : Int) : hasT (seen ++ [o]) t = (hasT seen t || decide (o.1 = t)) := by simp [hasT]
theorem cameC_miss {rs : List Ru} {seen : List PT} {o : PT} (h : ∀ j (hj : j < rs.length), rs[j].typ ≠ o.1) : cameC rs (seen ++ [o]) = cameC rs seen := by
  apply List.ext_getElem?
  intro i
  by_cases hi : i < 16
  · rw [cameC_get _ _ _ hi, cameC_get _ _ _ hi]
    by_cases hr : i < rs.length
    · rw [List.getElem?_eq_getElem hr]
      simp only [Option.any_some, hasT_snoc]
      rw [decide_eq_false (fun e => h i hr e.symm), Bool.or_false]
    · rw [List.getElem?_eq_none (by omega)]; rfl
  · rw [List.getElem?_eq_none (by rw [cameC_length]; omega), List.getElem?_eq_none (by rw [cameC_length]; omega)]
theorem cameC_hit {rs : List Ru} {seen : List PT} {o : PT} (ha : areR rs) (k : Nat) (hk : k < rs.length) (ht : rs[k].typ = o.1) : cameC rs (seen ++ [o]) = (cameC rs seen).set k (.bool true) := by
  have h16 := ha.1
  apply List.ext_getElem?
  intro i
  rw [List.getElem?_set]
  by_cases hi : i < 16
  · rw [cameC_get _ _ _ hi, cameC_get _ _ _ hi, cameC_length]
    by_cases hr : i < rs.length
    · rw [List.getElem?_eq_getElem hr]
      simp only [Option.any_some, hasT_snoc]
      by_cases e : k = i
      · subst e
        rw [decide_eq_true ht.symm, Bool.or_true, if_pos rfl, if_pos hi]
      · have : ¬ o.1 = rs[i].typ := fun e2 => by
          have h2 := List.pairwise_iff_getElem.1 ha.2.2
          rcases Nat.lt_or_gt_of_ne e with h | h
          · exact h2 k i (by rw [List.length_map]; exact hk) (by rw [List.length_map]; exact hr) h (by simp [ht, e2])
          · exact h2 i k (by rw [List.length_map]; exact hr) (by rw [List.length_map]; exact hk) h (by simp [ht, e2])
        rw [decide_eq_false this, Bool.or_false, if_neg e]
    · rw [List.getElem?_eq_none (by omega), if_neg (by omega)]; rfl
  · rw [List.getElem?_eq_none (by rw [cameC_length]; omega), List.getElem?_eq_none (by rw [cameC_length]; omega), if_neg (by omega)]
/-- What turns lies in new memory. -/
theorem only_new {gc g : Nat} {w w3 w4 : World} (h : Only gc w w3) (k : Only g w3 w4) (hg : w.heap.size ≤ g) (hc : gc ≤ g) : Only gc w w4 :=
  ⟨Nat.le_trans h.size k.size, fun B w0 hB hb => k.below B w0 (Nat.le_trans hB hc) (h.below B w0 hB hb), fun i hi hn => by rw [k.heap i (Nat.lt_of_lt_of_le hi h.size) (by omega), h.heap i hi hn]⟩
theorem sizeA : (Try.prog.info? 4).map (·.size) = some 1 := by kernel_rfl

set_option maxRecDepth 20000 in
set_option maxHeartbeats 4000000 in
theorem misfits1_any (ra : Option Addr) (rn rc : Nat) (rs : List Ru) (ha : areR rs) (gr gc : Nat) (hgg : gr ≠ gc) (seen : List PT) (T : Int) (A : Option Addr) (L C : Nat) (l : List UInt8) (hl : l.length = L) (hL : L ≤ 1000) (w : World) (hb : ∀ w', Only gc w w' → Bs w' (.slice A L C) l)
    (hr : RR w (.slice ra rn rc) rn rs) (hg : w.heap[gr]? = some (.cells #[.slice ra rn rc] 48)) (hc : w.heap[gc]? = some (.cells (cameC rs seen).toArray 59 (0, 0))) :
    Calls Try.prog 40 #[.agg #[.int .i64 T, .slice A L C], .pointer (some ⟨gr, 0, none⟩), .pointer (some ⟨gc, 0, none⟩)] w fun e w' => Tells (misf rs seen (T, l)) w' e ∧ Only gc w w' ∧ w'.heap[gc]? = some (.cells (cameC rs (seen ++ [(T, l)])).toArray 59 (0, 0)) := by
  have hal : Gr w ((w.alloc (.cells #[.int .i64 T, .slice A L C] 42)).alloc (.cells #[.int .i64 0, .slice none 0 0] 42)) := ((Gr.refl w).alloc _).alloc _
  have HAL := Lib.hid hal
  have HG0 : Hid (((w.alloc (.cells #[.int .i64 T, .slice A L C] 42)).alloc (.cells #[.int .i64 0, .slice none 0 0] 42)).heap[w.heap.size]? = some (.cells #[.int .i64 T, .slice A L C] 42)) := heap2_0' _ _ _
  have HG1 : Hid (((w.alloc (.cells #[.int .i64 T, .slice A L C] 42)).alloc (.cells #[.int .i64 0, .slice none 0 0] 42)).heap[w.heap.size + 1]? = some (.cells #[.int .i64 0, .slice none 0 0] 42)) := heap2_1' _ _ _
  obtain ⟨k0, k1⟩ := copy_cells HG0.out
  have kr := cell1 (heap_gr hal hg)
  have HB := Lib.hid hb
  have HA := Lib.hid ha
  have hgc : gc < w.heap.size := (Array.getElem?_eq_some_iff.1 hc).1
  have HC := Lib.hid (heap_gr hal hc)
  have OF := Lib.hid (of_any ra rn rc rs T ((w.alloc (.cells #[.int .i64 T, .slice A L C] 42)).alloc (.cells #[.int .i64 0, .slice none 0 0] 42)) (hr.below hal))
  have HLEN := Lib.hid hl
  clear hal hb hr hg ha hc hl
  go_enter Try.func40, Try.ntmps40
  go_wp2_with fail
  refine OF.out.mono ?_
  rintro e w2 ⟨(⟨k, hk, r, rfl, hrk, hrt, _⟩ | ⟨rfl, hno⟩), hb2⟩
  · have hal2 : Gr w2 (w2.alloc (.cells #[.int .i64 r.typ, .int .i64 r.size, .int .i64 r.kind, .int .i64 r.low, .int .i64 r.high, .int .i64 r.good, .bool r.must] 56)) := (Gr.refl _).alloc _
    have HGX : Hid ((w2.alloc (.cells #[.int .i64 r.typ, .int .i64 r.size, .int .i64 r.kind, .int .i64 r.low, .int .i64 r.high, .int .i64 r.good, .bool r.must] 56)).heap[w2.heap.size]? = some (.cells #[.int .i64 r.typ, .int .i64 r.size, .int .i64 r.kind, .int .i64 r.low, .int .i64 r.high, .int .i64 r.good, .bool r.must] 56)) := heap_alloc_last _ _
    have HG4 := Lib.hid (heap_gr hal2 (heap_below HG0.out hb2))
    have HG5 := Lib.hid (heap_gr hal2 (heap_below HG1.out hb2))
    have HC4 := Lib.hid (heap_gr hal2 (heap_below HC.out hb2))
    have HB4 : Hid (Gr w (w2.alloc (.cells #[.int .i64 r.typ, .int .i64 r.size, .int .i64 r.kind, .int .i64 r.low, .int .i64 r.high, .int .i64 r.good, .bool r.must] 56))) := (HAL.out.trans hb2).trans hal2
    have hsz2 : w.heap.size + 2 ≤ w2.heap.size := by have := hb2.size; simp at this; omega
    have k16 : k < 16 := Nat.lt_of_lt_of_le hk HA.out.1
    obtain ⟨ag, hag⟩ : ∃ ag, ag = hasT seen T := ⟨_, rfl⟩
    have HAG := Lib.hid hag
    have HRK := Lib.hid hrk
    have HRT := Lib.hid hrt
    have hck : (w2.alloc (.cells #[.int .i64 r.typ, .int .i64 r.size, .int .i64 r.kind, .int .i64 r.low, .int .i64 r.high, .int .i64 r.good, .bool r.must] 56)).cell? ⟨gc, k, none⟩ = some (.bool ag) := by
      rw [cell_of_row _ gc _ _ _ _ HC4.out, List.getElem?_toArray, cameC_get _ _ _ k16, List.getElem?_eq_getElem hk]
      simp only [Option.any_some]
      rw [← hrk, hrt, hag]
    have hk16 : (k : Int) < 16 := by omega
    have HMIS : Hid (misf rs seen (T, l) = if (ag || decide (¬ (L : Int) = r.size)) then some (T, l) else none) := by
      show _ = _
      unfold misf
      rw [ruleOf_hit (o := (T, l)) HA.out k hk hrk hrt, ← hag, ← HLEN.out]
      by_cases hs : r.size = ((T, l).2.length : Int)
      · have e : decide (¬ ((l.length : Nat) : Int) = r.size) = false := decide_eq_false (fun h => h hs.symm)
        rw [if_pos hs, e]; simp
      · have e : decide (¬ ((l.length : Nat) : Int) = r.size) = true := decide_eq_true (fun h => hs h.symm)
        rw [if_neg hs, e]; simp
    clear hb2 OF hrk hrt k0 k1 kr HG0 HG1 HAL hal2 hag
    go_wp2_with (refine wpList_store_cell rfl 4 (.tmp 23) (.const (.bool true)) rfl gc k (.bool true) rfl rfl 59 (cameC rs seen) HC4.out sizeA (by rw [cameC_length]; exact k16) rfl ?_)
    intro w3 h3 ho3
    have HC3 : Hid (w3.heap[gc]? = some (.cells (cameC rs (seen ++ [(T, l)])).toArray 59 (0, 0))) := by
      show _ = _
      rw [cameC_hit HA.out k hk (by rw [← HRK.out, HRT.out])]
      exact h3
    have HG6 : Hid (w3.heap[w.heap.size]? = some (.cells #[.int .i64 T, .slice A L C] 42)) := (ho3.heap _ (Array.getElem?_eq_some_iff.1 HG4.out).1 (by omega)).trans HG4.out
    have HG7 : Hid (w3.heap[w.heap.size + 1]? = some (.cells #[.int .i64 0, .slice none 0 0] 42)) := (ho3.heap _ (Array.getElem?_eq_some_iff.1 HG5.out).1 (by omega)).trans HG5.out
    have HGX6 : Hid (w3.heap[w2.heap.size]? = some (.cells #[.int .i64 r.typ, .int .i64 r.size, .int .i64 r.kind, .int .i64 r.low, .int .i64 r.high, .int .i64 r.good, .bool r.must] 56)) := (ho3.heap _ (Array.getElem?_eq_some_iff.1 HGX.out).1 (by omega)).trans HGX.out
    have HO3 : Hid (Only gc w w3) := (Only.grown HB4.out (by omega)).trans ho3
    have hsz3 : w.heap.size + 1 < w3.heap.size := (Array.getElem?_eq_some_iff.1 HG7.out).1
    have hk0 : ¬ (k : Int) < 0 := by omega
    clear h3 ho3 hck HG4 HG5 HGX HC4 HC HB4
    cases ag with
    | true =>
      go_upto_region 6 with fail
      refine wp_region_H 10 Gr (Kp [w.heap.size,w2.heap.size]) (by kernel_rfl) ?_
      -- 0: slot 24
      refine wpH_take preGr (preKp _) (i := 0) (v := ?_) (by kernel_rfl) (some 24) (by kernel_rfl) rfl (by kernel_rfl) (by kernel_rfl) (by kernel_rfl) (fun _ _ _ h => h) (by rfl) (fun w' hw' => ?_) rfl ?_
      rotate_left
      · try have g0 := (copy_cells (heap_gr ((Gr.drew w3).trans hw') HG6.out)).1
        try have g1 := (copy_cells (heap_gr ((Gr.drew w3).trans hw') HG6.out)).2
        go_simp
        with_reducible rfl
      simp only [Act.put, List.setIfInBounds_toArray, List.set_cons_zero, List.set_cons_succ]
      -- 1: slot 25
      refine wpH_take preGr (preKp _) (i := 1) (v := ?_) (by kernel_rfl) (some 25) (by kernel_rfl) rfl (by kernel_rfl) (by kernel_rfl) (by kernel_rfl) (fun _ _ _ h => h) (by rfl) (fun w' hw' => ?_) rfl ?_
      rotate_left
      · try have g0 := (copy_cells (heap_gr ((Gr.drew w3).trans hw') HG6.out)).1
        try have g1 := (copy_cells (heap_gr ((Gr.drew w3).trans hw') HG6.out)).2
        go_simp
        with_reducible rfl
      simp only [Act.put, List.setIfInBounds_toArray, List.set_cons_zero, List.set_cons_succ]
      -- 2: slot 26
      refine wpH_take preGr (preKp _) (i := 2) (v := ?_) (by kernel_rfl) (some 26) (by kernel_rfl) rfl (by kernel_rfl) (by kernel_rfl) (by kernel_rfl) (fun _ _ _ h => h) (by rfl) (fun w' hw' => ?_) rfl ?_
      rotate_left
      · try have g0 := (copy_cells (heap_gr ((Gr.drew w3).trans hw') HG6.out)).1
        try have g1 := (copy_cells (heap_gr ((Gr.drew w3).trans hw') HG6.out)).2
        go_simp
        with_reducible rfl
      simp only [Act.put, List.setIfInBounds_toArray, List.set_cons_zero, List.set_cons_succ]
      refine wpH_pass preGr (preKp _) (i := 3) (some 27) (by kernel_rfl) rfl (by kernel_rfl) (by kernel_rfl) (by kernel_rfl) (fun _ _ _ h => h) (by rfl) rfl ?_
      simp only [Act.put, List.setIfInBounds_toArray, List.set_cons_zero, List.set_cons_succ]
      refine wpH_pass preGr (preKp _) (i := 4) (some 28) (by kernel_rfl) rfl (by kernel_rfl) (by kernel_rfl) (by kernel_rfl) (fun _ _ _ h => h) (by rfl) rfl ?_
      simp only [Act.put, List.setIfInBounds_toArray, List.set_cons_zero, List.set_cons_succ]
      refine wpH_pass preGr (preKp _) (i := 5) (some 29) (by kernel_rfl) rfl (by kernel_rfl) (by kernel_rfl) (by kernel_rfl) (fun _ _ _ h => h) (by rfl) rfl ?_
      simp only [Act.put, List.setIfInBounds_toArray, List.set_cons_zero, List.set_cons_succ]
      refine wpH_pass preGr (preKp _) (i := 6) (some 30) (by kernel_rfl) rfl (by kernel_rfl) (by kernel_rfl) (by kernel_rfl) (fun _ _ _ h => h) (by rfl) rfl ?_
      simp only [Act.put, List.setIfInBounds_toArray, List.set_cons_zero, List.set_cons_succ]
      refine wpH_pass preGr (preKp _) (i := 7) (some 31) (by kernel_rfl) rfl (by kernel_rfl) (by kernel_rfl) (by kernel_rfl) (fun _ _ _ h => h) (by rfl) rfl ?_
      simp only [Act.put, List.setIfInBounds_toArray, List.set_cons_zero, List.set_cons_succ]
      refine wpH_pass preGr (preKp _) (i := 8) (some 32) (by kernel_rfl) rfl (by kernel_rfl) (by kernel_rfl) (by kernel_rfl) (fun _ _ _ h => h) (by rfl) rfl ?_
      simp only [Act.put, List.setIfInBounds_toArray, List.set_cons_zero, List.set_cons_succ]
      -- 9: slot 33
      refine wpH_takeH preGr (preKp _) (i := 9) (v := ?_) (some 33) (by kernel_rfl) rfl (by kernel_rfl) (by kernel_rfl) (by kernel_rfl) (fun _ _ _ h => h) (by rfl) (fun w' hw' => ?_) rfl ?_
      rotate_left
      · have gg := copy_cells ((hw'.2 w.heap.size (by simp)).trans HG6.out)
        have g0 := gg.1
        have g1 := gg.2
        have gx := cells7 ((hw'.2 w2.heap.size (by simp)).trans HGX6.out)
        have g2 := gx.2.1
        clear gg gx
        go_simp
        with_reducible rfl
      simp only [Act.put, List.setIfInBounds_toArray, List.set_cons_zero, List.set_cons_succ]
      refine wpH_tail (i := 10) (by decide) rfl (by kernel_rfl) (by rfl) ?_
      refine wp_store_whole (none) 42 (.tmp 4) (.tmp 24) rfl (w.heap.size + 1) [.int .i64 T, .slice A L C] rfl rfl 42 [.int .i64 0, .slice none 0 0] HG7.out O.sizeT rfl (O.one_tag _ rfl) rfl ?_
      intro w4 h4 ho4
      have H4 := Lib.hid h4
      have HO4 := Lib.hid ho4
      refine ⟨⟨ho4.size, fun b hb => ?_⟩, ?_⟩
      · simp only [List.mem_cons, List.not_mem_nil, or_false] at hb
        rcases hb with rfl | rfl
        · exact ho4.heap _ (Array.getElem?_eq_some_iff.1 HG6.out).1 (by omega)
        · exact ho4.heap _ (Array.getElem?_eq_some_iff.1 HGX6.out).1 (by omega)
      clear h4 ho4
      try simp only [Act.put, List.setIfInBounds_toArray, List.set_cons_zero, List.set_cons_succ]
      refine wpH_tail (i := 11) (by decide) rfl (by kernel_rfl) (by rfl) ?_
      go_simp
      refine ⟨(pre_refl (preKp _) _), ?_⟩
      try simp only [Act.put, List.setIfInBounds_toArray, List.set_cons_zero, List.set_cons_succ]
      refine wpH_done (by kernel_rfl) ?_ _
      have HF : Hid (Only gc w w4) := only_new HO3.out ((Only.grown (Gr.drew w3) (by omega)).trans HO4.out) (Nat.le_succ _) (by omega)
      have HC5 : Hid (w4.heap[gc]? = some (.cells (cameC rs (seen ++ [(T, l)])).toArray 59 (0, 0))) := (HO4.out.heap gc (Array.getElem?_eq_some_iff.1 HC3.out).1 (by omega)).trans HC3.out
      go_wp2
      refine bodyPost_ret (v := .tuple #[.agg #[.int .i64 T, .slice A L C], .bool true]) (results_cell_tmp_row (P := Try.prog) (fn := Try.f40) rfl _ _ (w.heap.size + 1) 42 _ (0, 0) _ rfl H4.out Try.underlying42 rfl (by kernel_rfl)) rfl ?_
      exact ⟨⟨T, A, L, C, true, l, rfl, by rw [HMIS.out]; rfl, fun _ => ⟨HLEN.out, hL, HB.out _ HF.out⟩⟩, HF.out, HC5.out⟩
    | false =>
      go_upto_region 6 with fail
      refine wp_region_H 10 Gr (Kp [w.heap.size,w2.heap.size]) (by kernel_rfl) ?_
      -- 0: slot 24
      refine wpH_take preGr (preKp _) (i := 0) (v := ?_) (by kernel_rfl) (some 24) (by kernel_rfl) rfl (by kernel_rfl) (by kernel_rfl) (by kernel_rfl) (fun _ _ _ h => h) (by rfl) (fun w' hw' => ?_) rfl ?_
      rotate_left
      · try have g0 := (copy_cells (heap_gr ((Gr.drew w3).trans hw') HG6.out)).1
        try have g1 := (copy_cells (heap_gr ((Gr.drew w3).trans hw') HG6.out)).2
        go_simp
        with_reducible rfl
      simp only [Act.put, List.setIfInBounds_toArray, List.set_cons_zero, List.set_cons_succ]
      -- 1: slot 25
      refine wpH_take preGr (preKp _) (i := 1) (v := ?_) (by kernel_rfl) (some 25) (by kernel_rfl) rfl (by kernel_rfl) (by kernel_rfl) (by kernel_rfl) (fun _ _ _ h => h) (by rfl) (fun w' hw' => ?_) rfl ?_
      rotate_left
      · try have g0 := (copy_cells (heap_gr ((Gr.drew w3).trans hw') HG6.out)).1
        try have g1 := (copy_cells (heap_gr ((Gr.drew w3).trans hw') HG6.out)).2
        go_simp
        with_reducible rfl
      simp only [Act.put, List.setIfInBounds_toArray, List.set_cons_zero, List.set_cons_succ]
      -- 2: slot 26
      refine wpH_take preGr (preKp _) (i := 2) (v := ?_) (by kernel_rfl) (some 26) (by kernel_rfl) rfl (by kernel_rfl) (by kernel_rfl) (by kernel_rfl) (fun _ _ _ h => h) (by rfl) (fun w' hw' => ?_) rfl ?_
      rotate_left
      · try have g0 := (copy_cells (heap_gr ((Gr.drew w3).trans hw') HG6.out)).1
        try have g1 := (copy_cells (heap_gr ((Gr.drew w3).trans hw') HG6.out)).2
        go_simp
        with_reducible rfl
      simp only [Act.put, List.setIfInBounds_toArray, List.set_cons_zero, List.set_cons_succ]
      -- 3: slot 27
      refine wpH_takeH preGr (preKp _) (i := 3) (v := ?_) (some 27) (by kernel_rfl) rfl (by kernel_rfl) (by kernel_rfl) (by kernel_rfl) (fun _ _ _ h => h) (by rfl) (fun w' hw' => ?_) rfl ?_
      rotate_left
      · have gg := copy_cells ((hw'.2 w.heap.size (by simp)).trans HG6.out)
        have g0 := gg.1
        have g1 := gg.2
        have gx := cells7 ((hw'.2 w2.heap.size (by simp)).trans HGX6.out)
        have g2 := gx.2.1
        clear gg gx
        go_simp
        with_reducible rfl
      simp only [Act.put, List.setIfInBounds_toArray, List.set_cons_zero, List.set_cons_succ]
      -- 4: slot 28
      refine wpH_takeH preGr (preKp _) (i := 4) (v := ?_) (some 28) (by kernel_rfl) rfl (by kernel_rfl) (by kernel_rfl) (by kernel_rfl) (fun _ _ _ h => h) (by rfl) (fun w' hw' => ?_) rfl ?_
      rotate_left
      · have gg := copy_cells ((hw'.2 w.heap.size (by simp)).trans HG6.out)
        have g0 := gg.1
        have g1 := gg.2
        have gx := cells7 ((hw'.2 w2.heap.size (by simp)).trans HGX6.out)
        have g2 := gx.2.1
        clear gg gx
        go_simp
        with_reducible rfl
      simp only [Act.put, List.setIfInBounds_toArray, List.set_cons_zero, List.set_cons_succ]
      -- 5: slot 29
      refine wpH_takeH preGr (preKp _) (i := 5) (v := ?_) (some 29) (by kernel_rfl) rfl (by kernel_rfl) (by kernel_rfl) (by kernel_rfl) (fun _ _ _ h => h) (by rfl) (fun w' hw' => ?_) rfl ?_
      rotate_left
      · have gg := copy_cells ((hw'.2 w.heap.size (by simp)).trans HG6.out)
        have g0 := gg.1
        have g1 := gg.2
        have gx := cells7 ((hw'.2 w2.heap.size (by simp)).trans HGX6.out)
        have g2 := gx.2.1
        clear gg gx
        go_simp
        with_reducible rfl
      simp only [Act.put, List.setIfInBounds_toArray, List.set_cons_zero, List.set_cons_succ]
      -- 6: slot 30
      refine wpH_takeH preGr (preKp _) (i := 6) (v := ?_) (some 30) (by kernel_rfl) rfl (by kernel_rfl) (by kernel_rfl) (by kernel_rfl) (fun _ _ _ h => h) (by rfl) (fun w' hw' => ?_) rfl ?_
      rotate_left
      · have gg := copy_cells ((hw'.2 w.heap.size (by simp)).trans HG6.out)
        have g0 := gg.1
        have g1 := gg.2
        have gx := cells7 ((hw'.2 w2.heap.size (by simp)).trans HGX6.out)
        have g2 := gx.2.1
        clear gg gx
        go_simp
        with_reducible rfl
      simp only [Act.put, List.setIfInBounds_toArray, List.set_cons_zero, List.set_cons_succ]
      -- 7: slot 31
      refine wpH_takeH preGr (preKp _) (i := 7) (v := ?_) (some 31) (by kernel_rfl) rfl (by kernel_rfl) (by kernel_rfl) (by kernel_rfl) (fun _ _ _ h => h) (by rfl) (fun w' hw' => ?_) rfl ?_
      rotate_left
      · have gg := copy_cells ((hw'.2 w.heap.size (by simp)).trans HG6.out)
        have g0 := gg.1
        have g1 := gg.2
        have gx := cells7 ((hw'.2 w2.heap.size (by simp)).trans HGX6.out)
        have g2 := gx.2.1
        clear gg gx
        go_simp
        with_reducible rfl
      simp only [Act.put, List.setIfInBounds_toArray, List.set_cons_zero, List.set_cons_succ]
      -- 8: slot 32
      refine wpH_takeH preGr (preKp _) (i := 8) (v := ?_) (some 32) (by kernel_rfl) rfl (by kernel_rfl) (by kernel_rfl) (by kernel_rfl) (fun _ _ _ h => h) (by rfl) (fun w' hw' => ?_) rfl ?_
      rotate_left
      · have gg := copy_cells ((hw'.2 w.heap.size (by simp)).trans HG6.out)
        have g0 := gg.1
        have g1 := gg.2
        have gx := cells7 ((hw'.2 w2.heap.size (by simp)).trans HGX6.out)
        have g2 := gx.2.1
        clear gg gx
        go_simp
        with_reducible rfl
      simp only [Act.put, List.setIfInBounds_toArray, List.set_cons_zero, List.set_cons_succ]
      -- 9: slot 33
      refine wpH_takeH preGr (preKp _) (i := 9) (v := ?_) (some 33) (by kernel_rfl) rfl (by kernel_rfl) (by kernel_rfl) (by kernel_rfl) (fun _ _ _ h => h) (by rfl) (fun w' hw' => ?_) rfl ?_
      rotate_left
      · have gg := copy_cells ((hw'.2 w.heap.size (by simp)).trans HG6.out)
        have g0 := gg.1
        have g1 := gg.2
        have gx := cells7 ((hw'.2 w2.heap.size (by simp)).trans HGX6.out)
        have g2 := gx.2.1
        clear gg gx
        go_simp
        with_reducible rfl
      simp only [Act.put, List.setIfInBounds_toArray, List.set_cons_zero, List.set_cons_succ]
      refine wpH_tail (i := 10) (by decide) rfl (by kernel_rfl) (by rfl) ?_
      refine wp_store_whole (none) 42 (.tmp 4) (.tmp 24) rfl (w.heap.size + 1) [.int .i64 T, .slice A L C] rfl rfl 42 [.int .i64 0, .slice none 0 0] HG7.out O.sizeT rfl (O.one_tag _ rfl) rfl ?_
      intro w4 h4 ho4
      have H4 := Lib.hid h4
      have HO4 := Lib.hid ho4
      refine ⟨⟨ho4.size, fun b hb => ?_⟩, ?_⟩
      · simp only [List.mem_cons, List.not_mem_nil, or_false] at hb
        rcases hb with rfl | rfl
        · exact ho4.heap _ (Array.getElem?_eq_some_iff.1 HG6.out).1 (by omega)
        · exact ho4.heap _ (Array.getElem?_eq_some_iff.1 HGX6.out).1 (by omega)
      clear h4 ho4
      try simp only [Act.put, List.setIfInBounds_toArray, List.set_cons_zero, List.set_cons_succ]
      refine wpH_tail (i := 11) (by decide) rfl (by kernel_rfl) (by rfl) ?_
      go_simp
      refine ⟨(pre_refl (preKp _) _), ?_⟩
      try simp only [Act.put, List.setIfInBounds_toArray, List.set_cons_zero, List.set_cons_succ]
      refine wpH_done (by kernel_rfl) ?_ _
      have HF : Hid (Only gc w w4) := only_new HO3.out ((Only.grown (Gr.drew w3) (by omega)).trans HO4.out) (Nat.le_succ _) (by omega)
      have HC5 : Hid (w4.heap[gc]? = some (.cells (cameC rs (seen ++ [(T, l)])).toArray 59 (0, 0))) := (HO4.out.heap gc (Array.getElem?_eq_some_iff.1 HC3.out).1 (by omega)).trans HC3.out
      go_wp2
      refine bodyPost_ret (v := .tuple #[.agg #[.int .i64 T, .slice A L C], .bool ((L : Int) != r.size)]) (results_cell_tmp_row (P := Try.prog) (fn := Try.f40) rfl _ _ (w.heap.size + 1) 42 _ (0, 0) _ rfl H4.out Try.underlying42 rfl (by kernel_rfl)) rfl ?_
      exact ⟨⟨T, A, L, C, (L : Int) != r.size, l, rfl, by rw [HMIS.out]; simp [bne_iff_ne], fun _ => ⟨HLEN.out, hL, HB.out _ HF.out⟩⟩, HF.out, HC5.out⟩
  · have hal2 : Gr w2 (w2.alloc (.cells #[.int .i64 0, .int .i64 0, .int .i64 0, .int .i64 0, .int .i64 0, .int .i64 0, .bool false] 56)) := (Gr.refl _).alloc _
    have HG4 := Lib.hid (heap_gr hal2 (heap_below HG0.out hb2))
    have HG5 := Lib.hid (heap_gr hal2 (heap_below HG1.out hb2))
    have HC4 := Lib.hid (heap_gr hal2 (heap_below HC.out hb2))
    have HB4 : Hid (Gr w (w2.alloc (.cells #[.int .i64 0, .int .i64 0, .int .i64 0, .int .i64 0, .int .i64 0, .int .i64 0, .bool false] 56))) := (HAL.out.trans hb2).trans hal2
    obtain ⟨q0, q1⟩ := copy_cells HG4.out
    have HMIS : Hid (misf rs seen (T, l) = some (T, l)) := by
      show _ = _
      unfold misf
      rw [ruleOf_miss hno]; rfl
    have HCM := Lib.hid (cameC_miss (seen := seen) (o := (T, l)) hno)
    clear hb2 OF k0 k1 kr HG0 HG1 HAL hal2
    go_wp2_with (refine wpList_store_whole rfl 42 (.tmp 4) (.tmp 18) rfl (w.heap.size + 1) [.int .i64 T, .slice A L C] rfl rfl 42 [.int .i64 0, .slice none 0 0] HG5.out O.sizeT rfl (O.one_tag _ rfl) ?_)
    intro w4 h4 ho4
    have H4 := Lib.hid h4
    have HF : Hid (Only gc w w4) := Only.grown (ho4.below _ _ (Nat.le_succ _) HB4.out) (by omega)
    have HC5 : Hid (w4.heap[gc]? = some (.cells (cameC rs (seen ++ [(T, l)])).toArray 59 (0, 0))) := by
      show _ = _
      rw [HCM.out]
      exact (ho4.heap gc (Array.getElem?_eq_some_iff.1 HC4.out).1 (by omega)).trans HC4.out
    clear h4 ho4
    go_wp2
    refine bodyPost_ret (v := .tuple #[.agg #[.int .i64 T, .slice A L C], .bool true]) (results_cell_tmp_row (P := Try.prog) (fn := Try.f40) rfl _ _ (w.heap.size + 1) 42 _ (0, 0) _ rfl H4.out Try.underlying42 rfl (by kernel_rfl)) rfl ?_
    exact ⟨⟨T, A, L, C, true, l, rfl, HMIS.out, fun _ => ⟨HLEN.out, hL, HB.out _ HF.out⟩⟩, HF.out, HC5.out⟩

theorem misfits_any (ra : Option Addr) (rn rc : Nat) (rs : List Ru) (ha : areR rs) (ao : Option Addr) (n c : Nat) (ts : List Tg) (w : World) (hrr : RR w (.slice ra rn rc) rn rs) (hr : TR w (.slice ao n c) n ts) (hn : n ≤ 1000) (hm : ∀ x ∈ ts, x.l.length ≤ 1000) :
    Calls Try.prog 24 #[.slice ra rn rc, .slice ao n c] w fun e w' => ∃ v us, e = .returned v ∧ plain us = rejs rs [] (plain ts) ∧ TO w' w.heap.size v us ∧ Below w.heap.size w w' := by
  have hl := hr.len
  have hal : Below w.heap.size w ((w.alloc (.cells #[.slice ra rn rc] 48)).alloc (.cells #[.bool false, .bool false, .bool false, .bool false, .bool false, .bool false, .bool false, .bool false, .bool false, .bool false, .bool false, .bool false, .bool false, .bool false, .bool false, .bool false] 59)) := ((Gr.refl w).alloc _).alloc _
  have hsz : ((w.alloc (.cells #[.slice ra rn rc] 48)).alloc (.cells #[.bool false, .bool false, .bool false, .bool false, .bool false, .bool false, .bool false, .bool false, .bool false, .bool false, .bool false, .bool false, .bool false, .bool false, .bool false, .bool false] 59)).heap.size = w.heap.size + 2 := by rw [World.size_alloc, World.size_alloc]
  have hg : ((w.alloc (.cells #[.slice ra rn rc] 48)).alloc (.cells #[.bool false, .bool false, .bool false, .bool false, .bool false, .bool false, .bool false, .bool false, .bool false, .bool false, .bool false, .bool false, .bool false, .bool false, .bool false, .bool false] 59)).heap[w.heap.size]? = some (.cells #[.slice ra rn rc] 48) := heap2_0' _ _ _
  have hc : ((w.alloc (.cells #[.slice ra rn rc] 48)).alloc (.cells #[.bool false, .bool false, .bool false, .bool false, .bool false, .bool false, .bool false, .bool false, .bool false, .bool false, .bool false, .bool false, .bool false, .bool false, .bool false, .bool false] 59)).heap[w.heap.size + 1]? = some (.cells (cameC rs []).toArray 59 (0, 0)) := by
    rw [cameC_nil]; exact heap2_1' _ _ _
  have WK := Lib.hid (walk_any w ((w.alloc (.cells #[.slice ra rn rc] 48)).alloc (.cells #[.bool false, .bool false, .bool false, .bool false, .bool false, .bool false, .bool false, .bool false, .bool false, .bool false, .bool false, .bool false, .bool false, .bool false, .bool false, .bool false] 59)) (some (w.heap.size + 1)) (fun g h => by obtain rfl := Option.some.inj h; omega) (fun g h => by obtain rfl := Option.some.inj h; omega) hal ao n c ts hr hn
    40 #[.pointer (some ⟨w.heap.size, 0, none⟩), .pointer (some ⟨w.heap.size + 1, 0, none⟩)] (fun _ _ => rfl)
    (fun j w1 => w1.heap[w.heap.size]? = some (.cells #[.slice ra rn rc] 48) ∧ w1.heap[w.heap.size + 1]? = some (.cells (cameC rs ((plain ts).take j)).toArray 59 (0, 0)))
    (fun j w1 w2 h hb => ⟨by rw [hb.block _ (by rw [hsz]; omega)]; exact h.1, by rw [hb.block _ (by rw [hsz]; omega)]; exact h.2⟩) ⟨hg, by rw [List.take_zero]; exact hc⟩ (outAt (plain ts) (misf rs))
    (fun j hj T A L C wr hT hv hbs hbw hsz' hI => by
      have hL : ts[j].l.length = L := by
        obtain ⟨_, _, es, _⟩ := hbs.shape
        simp only [Value.slice.injEq] at es
        exact es.2.1.symm
      have := hm ts[j] (List.getElem_mem hj)
      have hval : ∀ w', Only (w.heap.size + 1) wr w' → Bs w' (.slice A L C) ts[j].l := fun w' ho => by
        have h1 := (hr.val j hj).below (ho.below _ _ (Nat.le_succ _) hbw)
        rwa [hv] at h1
      refine (misfits1_any ra rn rc rs ha w.heap.size (w.heap.size + 1) (by omega) ((plain ts).take j) T A L C ts[j].l hL (by omega) wr hval (hrr.below hbw) hI.1 hI.2).mono ?_
      rintro e w' ⟨h1, h2, h3⟩
      have e1 : (plain ts).take (j + 1) = (plain ts).take j ++ [(T, ts[j].l)] := by
        rw [List.take_succ_eq_append_getElem (by rw [plain_length]; exact hj), plain_get _ _ hj, ← hT]
      refine ⟨?_, h2, ?_, by rw [e1]; exact h3⟩
      · rw [outAt_get _ j hj, ← hT]
        exact h1
      · exact (h2.heap _ (Array.getElem?_eq_some_iff.1 hI.1).1 (by omega)).trans hI.1))
  have HE : Hid (outs (outAt (plain ts) (misf rs)) n = rejs rs [] (plain ts)) := by
    show _ = _
    rw [outs_all _ _ (by rw [plain_length]; exact hl), rejs_scan]
  have HAL := Lib.hid hal
  have HSZ : Hid (w.heap.size ≤ ((w.alloc (.cells #[.slice ra rn rc] 48)).alloc (.cells #[.bool false, .bool false, .bool false, .bool false, .bool false, .bool false, .bool false, .bool false, .bool false, .bool false, .bool false, .bool false, .bool false, .bool false, .bool false, .bool false] 59)).heap.size) := hal.size
  clear hr hal hg hsz hrr hm hc
  go_enter Try.func24, Try.ntmps24
  go_wp2_with fail
  refine WK.out.mono ?_
  rintro e w2 ⟨v, us, rfl, h1, h2, h3, _⟩
  rw [HE.out] at h1
  have H1 := Lib.hid h1
  have H2 := Lib.hid (h2.mono HSZ.out)
  have H3 : Hid (Below w.heap.size w w2) := Only.below h3 _ _ (Nat.le_succ _) HAL.out
  clear h1 h2 h3
  go_wp2
  go_ret
  exact ⟨v, us, rfl, H1.out, H2.out, H3.out⟩
end Go.Proofs.Ytbldcjngccmhpaa.Ng
