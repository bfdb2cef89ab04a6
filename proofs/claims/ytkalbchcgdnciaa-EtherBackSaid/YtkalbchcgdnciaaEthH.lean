/-
  The document's Reply, whatever comes.
-/
import Derived.Test.YtkalbchcgdnciaaEthG
namespace Go.Proofs.Ytkalbchcgdnciaa
open Go.RowKit
set_option linter.unusedVariables false
set_option linter.unusedSimpArgs false

set_option maxRecDepth 20000 in
set_option maxHeartbeats 1000000 in
theorem rreply_any (D S M : List UInt8) (t : Int) (v : Value) (a : Option Addr) (n c : Nat) (x : List UInt8) (hD : D.length = 6) (hS : S.length = 6) (hM : M.length = 6) (hv : v.oneCell' = true) (hn : x.length = n) (w : World) (hb : Bs w (.slice a n c) x) (hr : n ≤ 140737488351232) :
    Calls Try.prog 21 #[.agg (ethL D S t v).toArray, .agg (M.map u8v).toArray, .slice a n c] w (RepR S M t x w) := by
  obtain ⟨i0, hi, hz0, hz1, hz2⟩ := info_parts info5
  have HN := Lib.hid hn
  have HD := Lib.hid hD
  have HS := Lib.hid hS
  have HM := Lib.hid hM
  have HV := Lib.hid hv
  have HB0 := Lib.hid hb
  clear hn hb hD hS hM hv
  go_enter Try.func21, Try.ntmps21
  go_wp2
  have HG0 : Hid ((((w.alloc (.cells (ethL D S t v).toArray 26)).alloc (.cells (M.map u8v).toArray 23)).alloc (.cells #[.int .u8 0, .int .u8 0, .int .u8 0, .int .u8 0, .int .u8 0, .int .u8 0, .int .u8 0, .int .u8 0, .int .u8 0, .int .u8 0, .int .u8 0, .int .u8 0, .int .i64 0, .slice none 0 0] 26)).heap[w.heap.size]? = some (.cells (ethL D S t v).toArray 26 (0, 0))) := by
    show _ = _
    rw [Below.heap_alloc _ _ _ (by simp; omega), Below.heap_alloc _ _ _ (by simp), heap_alloc_last]
  have HG1 : Hid ((((w.alloc (.cells (ethL D S t v).toArray 26)).alloc (.cells (M.map u8v).toArray 23)).alloc (.cells #[.int .u8 0, .int .u8 0, .int .u8 0, .int .u8 0, .int .u8 0, .int .u8 0, .int .u8 0, .int .u8 0, .int .u8 0, .int .u8 0, .int .u8 0, .int .u8 0, .int .i64 0, .slice none 0 0] 26)).heap[w.heap.size + 1]? = some (.cells (M.map u8v).toArray 23 (0, 0))) := by
    show _ = _
    have := heap_alloc_last (w.alloc (.cells (ethL D S t v).toArray 26)) (.cells (M.map u8v).toArray 23)
    rw [World.size_alloc] at this
    rw [Below.heap_alloc _ _ _ (by simp), this]
  have HG2 : Hid ((((w.alloc (.cells (ethL D S t v).toArray 26)).alloc (.cells (M.map u8v).toArray 23)).alloc (.cells #[.int .u8 0, .int .u8 0, .int .u8 0, .int .u8 0, .int .u8 0, .int .u8 0, .int .u8 0, .int .u8 0, .int .u8 0, .int .u8 0, .int .u8 0, .int .u8 0, .int .i64 0, .slice none 0 0] 26)).heap[w.heap.size + 2]? = some (.cells ethZ.toArray 26 (0, 0))) := by
    show _ = _
    have := heap_alloc_last ((w.alloc (.cells (ethL D S t v).toArray 26)).alloc (.cells (M.map u8v).toArray 23)) (.cells #[.int .u8 0, .int .u8 0, .int .u8 0, .int .u8 0, .int .u8 0, .int .u8 0, .int .u8 0, .int .u8 0, .int .u8 0, .int .u8 0, .int .u8 0, .int .u8 0, .int .i64 0, .slice none 0 0] 26)
    rw [World.size_alloc, World.size_alloc] at this
    rw [this]; rfl
  have HB1 : Hid (Below w.heap.size w (((w.alloc (.cells (ethL D S t v).toArray 26)).alloc (.cells (M.map u8v).toArray 23)).alloc (.cells #[.int .u8 0, .int .u8 0, .int .u8 0, .int .u8 0, .int .u8 0, .int .u8 0, .int .u8 0, .int .u8 0, .int .u8 0, .int .u8 0, .int .u8 0, .int .u8 0, .int .i64 0, .slice none 0 0] 26))) := (((Below.refl _ _).alloc (Nat.le_refl _) _).alloc (by simp) _).alloc (by simp; omega) _
  generalize ((w.alloc (.cells (ethL D S t v).toArray 26)).alloc (.cells (M.map u8v).toArray 23)).alloc (.cells #[.int .u8 0, .int .u8 0, .int .u8 0, .int .u8 0, .int .u8 0, .int .u8 0, .int .u8 0, .int .u8 0, .int .u8 0, .int .u8 0, .int .u8 0, .int .u8 0, .int .i64 0, .slice none 0 0] 26) = w1 at HG0 HG1 HG2 HB1 ⊢
  have HMS : Hid ((Try.prog.info? 23).map (·.size) = some (M.map u8v).toArray.size) := by show _ = _; rw [List.size_toArray]; exact size23l M HM.out
  have hw3 : w.heap.size + 2 < w1.heap.size := (Array.getElem?_eq_some_iff.1 HG2.out).1
  have HW3 := Lib.hid hw3
  clear hw3
  refine wp_region_G 9 (Below (w1.heap.size)) (by kernel_rfl) ?_
  -- 0: slot 7
  refine wpG_take (preBelow (w1.heap.size)) (i := 0) (v := ?_) (by kernel_rfl) (some 7) (by kernel_rfl) rfl (by kernel_rfl) (by kernel_rfl) (by kernel_rfl) (fun _ _ _ h => h) (by rfl) (fun w' hw' => ?_) rfl ?_
  rotate_left
  · go_simp
    with_reducible rfl
  simp only [Act.put, List.setIfInBounds_toArray, List.set_cons_zero, List.set_cons_succ]
  -- 1: slot 8
  refine wpG_take (preBelow (w1.heap.size)) (i := 1) (v := ?_) (by kernel_rfl) (some 8) (by kernel_rfl) rfl (by kernel_rfl) (by kernel_rfl) (by kernel_rfl) (fun _ _ _ h => h) (by rfl) (fun w' hw' => ?_) rfl ?_
  rotate_left
  · refine Eq.trans (load_mid_run (P := Try.prog) 23 (.tmp 7) ?_ w.heap.size 6 ?_ (S.map u8v) _ (range_S HD.out (heap_below HG0.out ((Gr.drew w1).trans hw'))) under23 rfl (size23l S HS.out)) ?_
    · rfl
    · rfl
    · with_reducible rfl
  simp only [Act.put, List.setIfInBounds_toArray, List.set_cons_zero, List.set_cons_succ]
  -- 2: slot 9
  refine wpG_take (preBelow (w1.heap.size)) (i := 2) (v := ?_) (by kernel_rfl) (some 9) (by kernel_rfl) rfl (by kernel_rfl) (by kernel_rfl) (by kernel_rfl) (fun _ _ _ h => h) (by rfl) (fun w' hw' => ?_) rfl ?_
  rotate_left
  · refine Eq.trans (load_row_run (P := Try.prog) 23 (.tmp 4) ?_ (w.heap.size + 1) ?_ 23 (M.map u8v).toArray (0, 0) _ (heap_below HG1.out ((Gr.drew w1).trans hw')) under23 rfl HMS.out) ?_
    · rfl
    · rfl
    · with_reducible rfl
  simp only [Act.put, List.setIfInBounds_toArray, List.set_cons_zero, List.set_cons_succ]
  -- 3: slot 10
  refine wpG_take (preBelow (w1.heap.size)) (i := 3) (v := ?_) (by kernel_rfl) (some 10) (by kernel_rfl) rfl (by kernel_rfl) (by kernel_rfl) (by kernel_rfl) (fun _ _ _ h => h) (by rfl) (fun w' hw' => ?_) rfl ?_
  rotate_left
  · go_simp
    with_reducible rfl
  simp only [Act.put, List.setIfInBounds_toArray, List.set_cons_zero, List.set_cons_succ]
  -- 4: slot 11
  refine wpG_take (preBelow (w1.heap.size)) (i := 4) (v := ?_) (by kernel_rfl) (some 11) (by kernel_rfl) rfl (by kernel_rfl) (by kernel_rfl) (by kernel_rfl) (fun _ _ _ h => h) (by rfl) (fun w' hw' => ?_) rfl ?_
  rotate_left
  · have c12 := cell12 HD.out HS.out (heap_below HG0.out ((Gr.drew w1).trans hw'))
    go_simp
    with_reducible rfl
  simp only [Act.put, List.setIfInBounds_toArray, List.set_cons_zero, List.set_cons_succ]
  -- 6: slot 13
  refine wpG_take (preBelow (w1.heap.size)) (i := 6) (v := ?_) (by kernel_rfl) (some 13) (by kernel_rfl) rfl (by kernel_rfl) (by kernel_rfl) (by kernel_rfl) (fun _ _ _ h => h) (by rfl) (fun w' hw' => ?_) rfl ?_
  rotate_left
  · go_simp
    with_reducible rfl
  simp only [Act.put, List.setIfInBounds_toArray, List.set_cons_zero, List.set_cons_succ]
  refine wpG_one (i := 5) rfl (by kernel_rfl) (by rfl) ?_
  go_simp
  refine ⟨?g5, ?_⟩
  case g5 => exact ((Below.refl w1.heap.size w1.drew).alloc (Nat.le_refl _) _)
  try simp only [Act.put, List.setIfInBounds_toArray, List.set_cons_zero, List.set_cons_succ]
  refine wpG_one (i := 7) rfl (by kernel_rfl) (by rfl) ?_
  refine wp_append_rd _ (some 14) (.tmp 12) (.tmp 13) 24 rfl w1.heap.size 5 i0 (.int .u8 0) 1 1 Try.underlying24 hi hz0 hz1 hz2 rfl (by decide) _ 0 [] rfl (World.ownsRow_made w1 #[] 0 (Nat.le_refl _) (Nat.zero_le _) rfl) _ n (x.map u8v) rfl ?rd7 (oneCell_u8 _) ?c7 (by decide) ?b7 rfl ?_
  case rd7 =>
    have := (HB0.out.below HB1.out).below (((Below.refl w1.heap.size w1).alloc (Nat.le_refl _) (.cells #[] 5)).drew)
    unfold Bs at this
    rw [HN.out] at this
    exact this
  case c7 => omega
  case b7 => simp [drew_size]
  intro v5 w5 hown5 hb5
  refine ⟨hb5, ?_⟩
  have hbw : Below w1.heap.size w1 w5 := (((Below.refl w1.heap.size w1).alloc (Nat.le_refl _) (.cells #[] 5)).drew).trans hb5
  have HO5 : Hid (OwnB w5 w1.heap.size 5 v5 x) := by
    show OwnB _ _ _ _ _
    unfold OwnB
    rw [HN.out]
    simpa using hown5
  obtain ⟨a5, c5, ev, _, _⟩ := (HO5.out.bs).shape
  subst ev
  have HBW := Lib.hid hbw
  clear hown5 hb5 hbw
  try simp only [Act.put, List.setIfInBounds_toArray, List.set_cons_zero, List.set_cons_succ]
  -- 8: slot 15
  refine wpG_take (preBelow (w1.heap.size)) (i := 8) (v := ?_) (by kernel_rfl) (some 15) (by kernel_rfl) rfl (by kernel_rfl) (by kernel_rfl) (by kernel_rfl) (fun _ _ _ h => h) (by rfl) (fun w' hw' => ?_) rfl ?_
  rotate_left
  · refine Eq.trans (build_run (P := Try.prog) 26 [(0, .tmp 8), (1, .tmp 9), (2, .tmp 11), (3, .tmp 14)] ?_ (ethL S M t (.slice a5 x.length c5)).toArray ?_) ?_
    · rfl
    · exact built26 S M HS.out HM.out t a5 x.length c5
    · with_reducible rfl
  simp only [Act.put, List.setIfInBounds_toArray, List.set_cons_zero, List.set_cons_succ]
  refine wpG_tail (i := 9) (by decide) rfl (by kernel_rfl) (by rfl) ?_
  refine wp_store_whole (none) 26 (.tmp 6) (.tmp 15) rfl (w.heap.size + 2) (ethL S M t (.slice a5 x.length c5)) rfl rfl 26 ethZ (heap_below HG2.out HBW.out) (size26e _ _ HS.out HM.out) ?hl9 (ethL_one _ _ _ _ rfl) rfl ?_
  case hl9 => rw [ethL_length _ _ HS.out HM.out]; rfl
  intro w9 h9 ho9
  have H9 := Lib.hid h9
  have HB9 := Lib.hid (ho9.below _ _ (by omega) (HB1.out.trans (HBW.out.mono HB1.out.size)))
  have HO9 : Hid (OwnB w9 w.heap.size 5 (.slice a5 x.length c5) x) := (HO5.out.only ho9 HW3.out).mono (by have := HW3.out; omega)
  clear h9 ho9
  try simp only [Act.put, List.setIfInBounds_toArray, List.set_cons_zero, List.set_cons_succ]
  refine wpG_done (by kernel_rfl) ?_ _
  have HSZ := Lib.hid (size26l t (.slice a5 x.length c5) HS.out HM.out)
  go_wp2
  refine bodyPost_ret (v := .agg (ethL S M t (.slice a5 x.length c5)).toArray) (results_cell_row Try.results21 _ _ (w.heap.size + 2) 26 _ (0, 0) _ rfl H9.out Try.underlying26 rfl HSZ.out) rfl ?_
  exact ⟨_, rfl, HO9.out, HB9.out⟩
end Go.Proofs.Ytkalbchcgdnciaa
