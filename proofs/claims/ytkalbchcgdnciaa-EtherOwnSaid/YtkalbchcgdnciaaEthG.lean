/-
  ether.Reply and the document's, whatever comes.
-/
import Derived.Test.YtkalbchcgdnciaaEthD
namespace Go.Proofs.Ytkalbchcgdnciaa
open Go.RowKit
set_option linter.unusedVariables false
set_option linter.unusedSimpArgs false

theorem size23 : (Try.prog.info? 23).map (·.size) = some 6 := by kernel_rfl
theorem size23l (D : List UInt8) (hD : D.length = 6) : (Try.prog.info? 23).map (·.size) = some (D.map u8v).length := by rw [List.length_map, hD]; exact size23
theorem range_D {w : World} {g : Nat} {D S : List UInt8} {t : Int} {v : Value} {T : TypeId} {fr : Nat × Nat} (hD : D.length = 6) (h : w.heap[g]? = some (.cells (ethL D S t v).toArray T fr)) : w.rangeAt g 0 (D.map u8v) := fun j u hu => by
  rw [cell_of_row _ _ _ _ _ _ h]
  simpa using ethL_D t v j u hu
theorem range_S {w : World} {g : Nat} {D S : List UInt8} {t : Int} {v : Value} {T : TypeId} {fr : Nat × Nat} (hD : D.length = 6) (h : w.heap[g]? = some (.cells (ethL D S t v).toArray T fr)) : w.rangeAt g 6 (S.map u8v) := fun j u hu => by
  rw [cell_of_row _ _ _ _ _ _ h]
  simpa using ethL_S t v hD j u hu
theorem ints_u8 (D : List UInt8) : D.map u8v = (D.map fun b => (b.toNat : Int)).map (Value.int .u8) := by simp [u8v, Function.comp_def]
theorem ints_inj (D M : List UInt8) : (D.map (fun b => (b.toNat : Int)) = M.map fun b => (b.toNat : Int)) ↔ D = M := by
  constructor
  · intro h
    exact (List.map_inj_right (fun a b hab => UInt8.toNat_inj.1 (by have : (a.toNat : Int) = (b.toNat : Int) := hab; omega))).1 h
  · rintro rfl; rfl
theorem built26x (s0 s1 s2 s3 s4 s5 d0 d1 d2 d3 d4 d5 : UInt8) (t : Int) (a : Option Addr) (n c : Nat) : Try.prog.built 26 [(0, .agg ([s0, s1, s2, s3, s4, s5].map u8v).toArray), (1, .agg ([d0, d1, d2, d3, d4, d5].map u8v).toArray), (2, .int .i64 t), (3, .slice a n c)] = some (ethL [s0, s1, s2, s3, s4, s5] [d0, d1, d2, d3, d4, d5] t (.slice a n c)).toArray := by kernel_rfl
theorem built26 (S D : List UInt8) (hS : S.length = 6) (hD : D.length = 6) (t : Int) (a : Option Addr) (n c : Nat) : Try.prog.built 26 [(0, .agg (S.map u8v).toArray), (1, .agg (D.map u8v).toArray), (2, .int .i64 t), (3, .slice a n c)] = some (ethL S D t (.slice a n c)).toArray := by
  match S, D, hS, hD with
  | [_, _, _, _, _, _], [_, _, _, _, _, _], _, _ => exact built26x _ _ _ _ _ _ _ _ _ _ _ _ t a n c
theorem under23 : Try.prog.underlying 23 = some (.array 6 5) := Try.underlying23
theorem neq23 (D M : List UInt8) (hD : D.length = 6) (hM : M.length = 6) (w : World) : (binOp .neq 23 (.agg (D.map u8v).toArray) (.agg (M.map u8v).toArray)).run Try.prog w = .ok (.bool (!decide (D = M))) w := by
  obtain ⟨i0, hi, hz0, hz1, hz2⟩ := info_parts info5
  rw [ints_u8 D, ints_u8 M, run_neq_array under23 Try.underlying5 hi hz1 _ _ (by simpa using hD) (by simpa using hM) w]
  simp only [ints_inj]
theorem eql23 (D M : List UInt8) (hD : D.length = 6) (hM : M.length = 6) (w : World) : (binOp .eql 23 (.agg (D.map u8v).toArray) (.agg (M.map u8v).toArray)).run Try.prog w = .ok (.bool (decide (D = M))) w := by
  obtain ⟨i0, hi, hz0, hz1, hz2⟩ := info_parts info5
  rw [ints_u8 D, ints_u8 M, run_eql_array under23 Try.underlying5 hi hz1 _ _ (by simpa using hD) (by simpa using hM) w]
  simp only [ints_inj]
/-- What Reply hands back. -/
def RepR (S M : List UInt8) (t : Int) (x : List UInt8) (w : World) (e : Ending) (w' : World) : Prop :=
  ∃ v, e = .returned (.agg (ethL S M t v).toArray) ∧ OwnB w' w.heap.size 5 v x ∧ Below w.heap.size w w'

set_option maxRecDepth 20000 in
set_option maxHeartbeats 1000000 in
theorem reply_any (D S M : List UInt8) (t : Int) (v : Value) (a : Option Addr) (n c : Nat) (x : List UInt8) (hD : D.length = 6) (hS : S.length = 6) (hM : M.length = 6) (hv : v.oneCell' = true) (hn : x.length = n) (w : World) (hb : Bs w (.slice a n c) x) (hr : n ≤ 140737488351232) :
    Calls Try.prog 20 #[.agg (ethL D S t v).toArray, .agg (M.map u8v).toArray, .slice a n c] w (RepR S M t x w) := by
  have HN := Lib.hid hn
  have HD := Lib.hid hD
  have HS := Lib.hid hS
  have HM := Lib.hid hM
  have HV := Lib.hid hv
  have HB0 := Lib.hid hb
  clear hn hb hD hS hM hv
  go_enter Try.func20, Try.ntmps20
  go_wp2
  have HG0 : Hid ((((w.alloc (.cells (ethL D S t v).toArray 26)).alloc (.cells (M.map u8v).toArray 23)).alloc (.cells #[.int .u8 0, .int .u8 0, .int .u8 0, .int .u8 0, .int .u8 0, .int .u8 0, .int .u8 0, .int .u8 0, .int .u8 0, .int .u8 0, .int .u8 0, .int .u8 0, .int .i64 0, .slice none 0 0] 26)).heap[w.heap.size]? = some (.cells (ethL D S t v).toArray 26 (0, 0))) := by
    show _ = _
    rw [Below.heap_alloc _ _ _ (by simp; omega), Below.heap_alloc _ _ _ (by simp), heap_alloc_last]
  have HG1 : Hid ((((w.alloc (.cells (ethL D S t v).toArray 26)).alloc (.cells (M.map u8v).toArray 23)).alloc (.cells #[.int .u8 0, .int .u8 0, .int .u8 0, .int .u8 0, .int .u8 0, .int .u8 0, .int .u8 0, .int .u8 0, .int .u8 0, .int .u8 0, .int .u8 0, .int .u8 0, .int .i64 0, .slice none 0 0] 26)).heap[w.heap.size + 1]? = some (.cells (M.map u8v).toArray 23 (0, 0))) := by
    show _ = _
    have := heap_alloc_last (w.alloc (.cells (ethL D S t v).toArray 26)) (.cells (M.map u8v).toArray 23)
    rw [World.size_alloc] at this
    rw [Below.heap_alloc _ _ _ (by simp), this]
  have HG2 : Hid ((((w.alloc (.cells (ethL D S t v).toArray 26)).alloc (.cells (M.map u8v).toArray 23)).alloc (.cells #[.int .u8 0, .int .u8 0, .int .u8 0, .int .u8 0, .int .u8 0, .int .u8 0, .int .u8 0, .int .u8 0, .int .u8 0, .int .u8 0, .int .u8 0, .int .u8 0, .int .i64 0, .slice none 0 0] 26)).heap[w.heap.size + 2]? = some (.cells ethZ.toArray 26 (0, 0))) := by
    show _ = _
    have := heap_alloc_last ((w.alloc (.cells (ethL D S t v).toArray 26)).alloc (.cells (M.map u8v).toArray 23)) (.cells #[.int .u8 0, .int .u8 0, .int .u8 0, .int .u8 0, .int .u8 0, .int .u8 0, .int .u8 0, .int .u8 0, .int .u8 0, .int .u8 0, .int .u8 0, .int .u8 0, .int .i64 0, .slice none 0 0] 26)
    rw [World.size_alloc, World.size_alloc] at this
    rw [this]; rfl
  have HB1 : Hid (Below w.heap.size w (((w.alloc (.cells (ethL D S t v).toArray 26)).alloc (.cells (M.map u8v).toArray 23)).alloc (.cells #[.int .u8 0, .int .u8 0, .int .u8 0, .int .u8 0, .int .u8 0, .int .u8 0, .int .u8 0, .int .u8 0, .int .u8 0, .int .u8 0, .int .u8 0, .int .u8 0, .int .i64 0, .slice none 0 0] 26))) := (((Below.refl _ _).alloc (Nat.le_refl _) _).alloc (by simp) _).alloc (by simp; omega) _
  generalize ((w.alloc (.cells (ethL D S t v).toArray 26)).alloc (.cells (M.map u8v).toArray 23)).alloc (.cells #[.int .u8 0, .int .u8 0, .int .u8 0, .int .u8 0, .int .u8 0, .int .u8 0, .int .u8 0, .int .u8 0, .int .u8 0, .int .u8 0, .int .u8 0, .int .u8 0, .int .i64 0, .slice none 0 0] 26) = w1 at HG0 HG1 HG2 HB1 ⊢
  have CL : Hid (∀ w', Gr w1 w' → Calls Try.prog 24 #[.slice a n c] w' fun e w2 => ∃ v, e = .returned v ∧ OwnB w2 w'.heap.size 5 v x ∧ Below w'.heap.size w' w2) := fun w' hw' =>
    clone_any w' a n c x HN.out ((HB0.out.below HB1.out).below hw') hr
  refine wp_region_G 10 Gr (by kernel_rfl) ?_
  -- 0: slot 8
  refine wpG_take preGr (i := 0) (v := ?_) (by kernel_rfl) (some 8) (by kernel_rfl) rfl (by kernel_rfl) (by kernel_rfl) (by kernel_rfl) (fun _ _ _ h => h) (by rfl) (fun w' hw' => ?_) rfl ?_
  rotate_left
  · go_simp
    with_reducible rfl
  simp only [Act.put, List.setIfInBounds_toArray, List.set_cons_zero, List.set_cons_succ]
  -- 1: slot 9
  refine wpG_take preGr (i := 1) (v := ?_) (by kernel_rfl) (some 9) (by kernel_rfl) rfl (by kernel_rfl) (by kernel_rfl) (by kernel_rfl) (fun _ _ _ h => h) (by rfl) (fun w' hw' => ?_) rfl ?_
  rotate_left
  · refine Eq.trans (load_mid_run (P := Try.prog) 23 (.tmp 8) ?_ w.heap.size 6 ?_ (S.map u8v) _ (range_S HD.out (heap_gr ((Gr.drew w1).trans hw') HG0.out)) under23 rfl (size23l S HS.out)) ?_
    · rfl
    · rfl
    · with_reducible rfl
  simp only [Act.put, List.setIfInBounds_toArray, List.set_cons_zero, List.set_cons_succ]
  -- 2: slot 10
  refine wpG_take preGr (i := 2) (v := ?_) (by kernel_rfl) (some 10) (by kernel_rfl) rfl (by kernel_rfl) (by kernel_rfl) (by kernel_rfl) (fun _ _ _ h => h) (by rfl) (fun w' hw' => ?_) rfl ?_
  rotate_left
  · go_simp
    with_reducible rfl
  simp only [Act.put, List.setIfInBounds_toArray, List.set_cons_zero, List.set_cons_succ]
  -- 3: slot 11
  refine wpG_take preGr (i := 3) (v := ?_) (by kernel_rfl) (some 11) (by kernel_rfl) rfl (by kernel_rfl) (by kernel_rfl) (by kernel_rfl) (fun _ _ _ h => h) (by rfl) (fun w' hw' => ?_) rfl ?_
  rotate_left
  · refine Eq.trans (load_mid_run (P := Try.prog) 23 (.tmp 10) ?_ w.heap.size 0 ?_ (D.map u8v) _ (range_D HD.out (heap_gr ((Gr.drew w1).trans hw') HG0.out)) under23 rfl (size23l D HD.out)) ?_
    · rfl
    · rfl
    · with_reducible rfl
  simp only [Act.put, List.setIfInBounds_toArray, List.set_cons_zero, List.set_cons_succ]
  -- 4: slot 12
  refine wpG_take preGr (i := 4) (v := ?_) (by kernel_rfl) (some 12) (by kernel_rfl) rfl (by kernel_rfl) (by kernel_rfl) (by kernel_rfl) (fun _ _ _ h => h) (by rfl) (fun w' hw' => ?_) rfl ?_
  rotate_left
  · go_simp
    with_reducible rfl
  simp only [Act.put, List.setIfInBounds_toArray, List.set_cons_zero, List.set_cons_succ]
  -- 5: slot 13
  refine wpG_take preGr (i := 5) (v := ?_) (by kernel_rfl) (some 13) (by kernel_rfl) rfl (by kernel_rfl) (by kernel_rfl) (by kernel_rfl) (fun _ _ _ h => h) (by rfl) (fun w' hw' => ?_) rfl ?_
  rotate_left
  · have c12 := cell12 HD.out HS.out (heap_gr ((Gr.drew w1).trans hw') HG0.out)
    go_simp
    with_reducible rfl
  simp only [Act.put, List.setIfInBounds_toArray, List.set_cons_zero, List.set_cons_succ]
  -- 6: slot 14
  refine wpG_take preGr (i := 6) (v := ?_) (by kernel_rfl) (some 14) (by kernel_rfl) rfl (by kernel_rfl) (by kernel_rfl) (by kernel_rfl) (fun _ _ _ h => h) (by rfl) (fun w' hw' => ?_) rfl ?_
  rotate_left
  · go_simp
    with_reducible rfl
  simp only [Act.put, List.setIfInBounds_toArray, List.set_cons_zero, List.set_cons_succ]
  refine wpG_two (i := 7) (j := 9) rfl rfl (by kernel_rfl) (by rfl) (by rfl) ?_ ?_
  · go_simp
    refine (CL.out _ ?gr).mono ?_
    case gr => first | exact Gr.drew _ | exact ((Gr.refl _).alloc _).trans (Gr.drew _) | exact (Gr.drew _).alloc _
    rintro e w5 ⟨v5, rfl, hown5, hb5⟩
    obtain ⟨a5, c5, ev, _, _⟩ := (hown5.bs).shape
    subst ev
    refine ⟨hb5, ?_⟩
    try simp only [Act.put, List.setIfInBounds_toArray, List.set_cons_zero, List.set_cons_succ]
    -- 8: slot 16
    refine wpG_take preGr (i := 8) (v := ?_) (by kernel_rfl) (some 16) (by kernel_rfl) rfl (by kernel_rfl) (by kernel_rfl) (by kernel_rfl) (fun _ _ _ h => h) (by rfl) (fun w' hw' => ?_) rfl ?_
    rotate_left
    · refine Eq.trans (build_run (P := Try.prog) 26 [(0, .tmp 9), (1, .tmp 11), (2, .tmp 13), (3, .tmp 15)] ?_ (ethL S D t (.slice a5 x.length c5)).toArray ?_) ?_
      · rfl
      · exact built26 S D HS.out HD.out t a5 x.length c5
      · with_reducible rfl
    simp only [Act.put, List.setIfInBounds_toArray, List.set_cons_zero, List.set_cons_succ]
    refine wpG_one (i := 9) rfl (by kernel_rfl) (by rfl) ?_
    go_simp
    refine ⟨?gr9, ?_⟩
    case gr9 => first | exact (Gr.refl _).alloc _ | exact (Gr.drew _).alloc _
    try simp only [Act.put, List.setIfInBounds_toArray, List.set_cons_zero, List.set_cons_succ]
    refine wpG_tail (i := 10) (by decide) rfl (by kernel_rfl) (by rfl) ?_
    refine wp_store_whole (none) 26 (.tmp 7) (.tmp 16) rfl _ (ethL S D t (.slice a5 x.length c5)) rfl rfl 26 ethZ ?hg10 (size26e _ _ HS.out HD.out) ?hl10 (ethL_one _ _ _ _ rfl) rfl ?_
    case hg10 => first | exact heap_alloc_last _ _ | exact heap_below (show ((w1.alloc (.cells #[.int .u8 0, .int .u8 0, .int .u8 0, .int .u8 0, .int .u8 0, .int .u8 0, .int .u8 0, .int .u8 0, .int .u8 0, .int .u8 0, .int .u8 0, .int .u8 0, .int .i64 0, .slice none 0 0] 26)).drew).heap[w1.heap.size]? = some (.cells ethZ.toArray 26 (0, 0)) by rw [heap_drew, heap_alloc_last]; rfl) hb5
    case hl10 => rw [ethL_length _ _ HS.out HD.out]; rfl
    intro w6 h6 ho6
    have HGR : Hid (Gr w1 w6) := by
      show Below _ _ _
      first
        | exact ho6.below _ _ (Nat.le_refl _) ((((Below.refl _ w1).alloc (Nat.le_refl _) _).drew).trans (hb5.mono (by simp [drew_size])))
        | exact ho6.below _ _ (((Gr.drew w1).trans hb5).size) ((((Gr.drew w1).trans hb5)).alloc _)
    have HO6 : Hid (OwnB w6 w1.heap.size 5 (.slice a5 x.length c5) x) := by
      show OwnB _ _ _ _ _
      first
        | exact (hown5.only ho6 (by simp [drew_size])).mono (by simp [drew_size])
        | exact (hown5.below (ho6.below _ _ (Nat.le_refl _) ((Below.refl _ _).alloc (Nat.le_refl _) _))).mono (by simp [drew_size])
    have hw3 : w.heap.size + 2 < w1.heap.size := (Array.getElem?_eq_some_iff.1 HG2.out).1
    first | (have hle : w1.heap.size ≤ w5.heap.size := (by have := hb5.size; simp [drew_size] at this; omega); obtain ⟨g7, hg7⟩ : ∃ g7, g7 = w5.heap.size := ⟨_, rfl⟩; have hng : ∀ k, (Value.slice a5 x.length c5).ownBlock = some k → k ≠ w5.heap.size := (fun k hk => Nat.ne_of_lt (World.ownsRow.lt hown5 k hk).2); rw [← hg7] at h6 hle hng ⊢; clear hg7) | (obtain ⟨g7, hg7⟩ : ∃ g7, g7 = w1.heap.size := ⟨_, rfl⟩; have hle : w1.heap.size ≤ g7 := (by omega); have hng : ∀ k, (Value.slice a5 x.length c5).ownBlock = some k → k ≠ w1.heap.size := (fun k hk => (by have := (World.ownsRow.lt hown5 k hk).1; simp [drew_size] at this; omega)); rw [← hg7] at h6 hng ⊢; clear hg7)
    have hg7 : w.heap.size + 2 < g7 := by omega
    have HNG := Lib.hid hng
    have hw3' : w.heap.size + 2 < w1.heap.size := hw3
    have HG7 := Lib.hid h6
    clear hng h6 ho6 hown5 hb5 hle hw3
    try simp only [Act.put, List.setIfInBounds_toArray, List.set_cons_zero, List.set_cons_succ]
    refine wpG_done (by kernel_rfl) ?_ _
    have HM6 := Lib.hid (heap_gr HGR.out HG1.out)
    have HR6 := Lib.hid (heap_gr HGR.out HG2.out)
    have HB6 := Lib.hid (HB1.out.trans (Below.mono HGR.out HB1.out.size))
    have HMS : Hid ((Try.prog.info? 23).map (·.size) = some (M.map u8v).toArray.size) := by show _ = _; rw [List.size_toArray]; exact size23l M HM.out
    by_cases hDM : D = M
    · have hq : ∀ w', (binOp .neq 23 (.agg (D.map u8v).toArray) (.agg (M.map u8v).toArray)).run Try.prog w' = .ok (.bool false) w' := fun w' => by rw [neq23 D M HD.out HM.out w', hDM]; simp
      have HDM := Lib.hid hDM
      clear hDM
      have HSZ := Lib.hid (size26l t (.slice a5 x.length c5) HS.out HD.out)
      have HSE := Lib.hid (size26e t (.slice a5 x.length c5) HS.out HD.out)
      have HNE : Hid ((ethL S D t (.slice a5 x.length c5)).length = ethZ.length) := by show _ = _; rw [ethL_length _ _ HS.out HD.out]; rfl
      have HON := Lib.hid (ethL_one S D t (.slice a5 x.length c5) rfl)
      have RD7 := Lib.hid (range_S HS.out HG7.out)
      have SD7 := Lib.hid (size23l D HD.out)
      go_wp2_with (first | (with_reducible refine wpList_load_mid rfl 23 (.tmp 17) rfl g7 6 rfl (D.map u8v) _ RD7.out under23 rfl SD7.out ?_) | (with_reducible refine wpList_load_row rfl 23 (.tmp 4) rfl (w.heap.size + 1) rfl 23 _ (0, 0) _ HM6.out under23 rfl HMS.out ?_) | (with_reducible refine wpList_load_row rfl 26 (.tmp 7) rfl g7 rfl 26 _ (0, 0) _ HG7.out Try.underlying26 rfl HSZ.out ?_) | (with_reducible refine wpList_store_whole rfl 26 (.tmp 6) (.tmp 23) rfl (w.heap.size + 2) (ethL S D t (.slice a5 x.length c5)) rfl rfl 26 ethZ HR6.out HSE.out HNE.out HON.out ?_))
      intro w9 h9 ho9
      have H9 := Lib.hid h9
      have HB9 := Lib.hid (ho9.below _ _ (by omega) HB6.out)
      have HO9 : Hid (OwnB w9 w.heap.size 5 (.slice a5 x.length c5) x) := (HO6.out.only ho9 hw3').mono (by omega)
      clear h9 ho9 hq
      go_wp2
      refine bodyPost_ret (v := .agg (ethL S D t (.slice a5 x.length c5)).toArray) (results_cell_row Try.results20 _ _ (w.heap.size + 2) 26 _ (0, 0) _ rfl H9.out Try.underlying26 rfl HSZ.out) rfl ?_
      have := HDM.out
      subst this
      exact ⟨_, rfl, HO9.out, HB9.out⟩
    · have hq : ∀ w', (binOp .neq 23 (.agg (D.map u8v).toArray) (.agg (M.map u8v).toArray)).run Try.prog w' = .ok (.bool true) w' := fun w' => by rw [neq23 D M HD.out HM.out w', decide_eq_false hDM]; rfl
      clear hDM
      have RD7 := Lib.hid (range_S HS.out HG7.out)
      have SD7 := Lib.hid (size23l D HD.out)
      have SM7 := Lib.hid (size23l M HM.out)
      have FT7 : Hid (6 + (M.map u8v).length ≤ (ethL S D t (.slice a5 x.length c5)).length) := by show _ ≤ _; rw [List.length_map, HM.out, ethL_length _ _ HS.out HD.out]; decide
      go_wp2_with (first | (with_reducible refine wpList_load_mid rfl 23 (.tmp 17) rfl g7 6 rfl (D.map u8v) _ RD7.out under23 rfl SD7.out ?_) | (with_reducible refine wpList_load_row rfl 23 (.tmp 4) rfl (w.heap.size + 1) rfl 23 _ (0, 0) _ HM6.out under23 rfl HMS.out ?_) | (with_reducible refine wpList_store_splice rfl 23 (.tmp 22) (.tmp 21) rfl g7 6 (M.map u8v) rfl rfl 26 _ HG7.out SM7.out FT7.out (oneCell_u8 _) ?_))
      intro w8 h8 ho8
      rw [splice_S _ _ HS.out HD.out HM.out] at h8
      have HG8 := Lib.hid h8
      have HR8 : Hid (w8.heap[w.heap.size + 2]? = some (.cells ethZ.toArray 26 (0, 0))) := by
        show _ = _
        rw [ho8.heap _ (Array.getElem?_eq_some_iff.1 HR6.out).1 (by omega)]; exact HR6.out
      have HB8 := Lib.hid (ho8.below _ _ (by omega) HB6.out)
      have HO8 := Lib.hid (HO6.out.off ho8 HNG.out)
      clear h8 ho8 hq
      have HSZ := Lib.hid (size26l t (.slice a5 x.length c5) HS.out HM.out)
      have HSE := Lib.hid (size26e t (.slice a5 x.length c5) HS.out HM.out)
      have HNE : Hid ((ethL S M t (.slice a5 x.length c5)).length = ethZ.length) := by show _ = _; rw [ethL_length _ _ HS.out HM.out]; rfl
      have HON := Lib.hid (ethL_one S M t (.slice a5 x.length c5) rfl)
      go_wp2_with (first | (with_reducible refine wpList_load_row rfl 26 (.tmp 7) rfl g7 rfl 26 _ (0, 0) _ HG8.out Try.underlying26 rfl HSZ.out ?_) | (with_reducible refine wpList_store_whole rfl 26 (.tmp 6) (.tmp 23) rfl (w.heap.size + 2) (ethL S M t (.slice a5 x.length c5)) rfl rfl 26 ethZ HR8.out HSE.out HNE.out HON.out ?_))
      intro w9 h9 ho9
      have H9 := Lib.hid h9
      have HB9 := Lib.hid (ho9.below _ _ (by omega) HB8.out)
      have HO9 : Hid (OwnB w9 w.heap.size 5 (.slice a5 x.length c5) x) := (HO8.out.only ho9 hw3').mono (by omega)
      clear h9 ho9
      go_wp2
      refine bodyPost_ret (v := .agg (ethL S M t (.slice a5 x.length c5)).toArray) (results_cell_row Try.results20 _ _ (w.heap.size + 2) 26 _ (0, 0) _ rfl H9.out Try.underlying26 rfl HSZ.out) rfl ?_
      exact ⟨_, rfl, HO9.out, HB9.out⟩
  · go_simp
    refine ⟨?gr9, ?_⟩
    case gr9 => first | exact (Gr.refl _).alloc _ | exact (Gr.drew _).alloc _
    try simp only [Act.put, List.setIfInBounds_toArray, List.set_cons_zero, List.set_cons_succ]
    refine wpG_one (i := 7) rfl (by kernel_rfl) (by rfl) ?_
    go_simp
    refine (CL.out _ ?gr).mono ?_
    case gr => first | exact Gr.drew _ | exact ((Gr.refl _).alloc _).trans (Gr.drew _) | exact (Gr.drew _).alloc _
    rintro e w5 ⟨v5, rfl, hown5, hb5⟩
    obtain ⟨a5, c5, ev, _, _⟩ := (hown5.bs).shape
    subst ev
    refine ⟨hb5, ?_⟩
    try simp only [Act.put, List.setIfInBounds_toArray, List.set_cons_zero, List.set_cons_succ]
    -- 8: slot 16
    refine wpG_take preGr (i := 8) (v := ?_) (by kernel_rfl) (some 16) (by kernel_rfl) rfl (by kernel_rfl) (by kernel_rfl) (by kernel_rfl) (fun _ _ _ h => h) (by rfl) (fun w' hw' => ?_) rfl ?_
    rotate_left
    · refine Eq.trans (build_run (P := Try.prog) 26 [(0, .tmp 9), (1, .tmp 11), (2, .tmp 13), (3, .tmp 15)] ?_ (ethL S D t (.slice a5 x.length c5)).toArray ?_) ?_
      · rfl
      · exact built26 S D HS.out HD.out t a5 x.length c5
      · with_reducible rfl
    simp only [Act.put, List.setIfInBounds_toArray, List.set_cons_zero, List.set_cons_succ]
    refine wpG_tail (i := 10) (by decide) rfl (by kernel_rfl) (by rfl) ?_
    refine wp_store_whole (none) 26 (.tmp 7) (.tmp 16) rfl _ (ethL S D t (.slice a5 x.length c5)) rfl rfl 26 ethZ ?hg10 (size26e _ _ HS.out HD.out) ?hl10 (ethL_one _ _ _ _ rfl) rfl ?_
    case hg10 => first | exact heap_alloc_last _ _ | exact heap_below (show ((w1.alloc (.cells #[.int .u8 0, .int .u8 0, .int .u8 0, .int .u8 0, .int .u8 0, .int .u8 0, .int .u8 0, .int .u8 0, .int .u8 0, .int .u8 0, .int .u8 0, .int .u8 0, .int .i64 0, .slice none 0 0] 26)).drew).heap[w1.heap.size]? = some (.cells ethZ.toArray 26 (0, 0)) by rw [heap_drew, heap_alloc_last]; rfl) hb5
    case hl10 => rw [ethL_length _ _ HS.out HD.out]; rfl
    intro w6 h6 ho6
    have HGR : Hid (Gr w1 w6) := by
      show Below _ _ _
      first
        | exact ho6.below _ _ (Nat.le_refl _) ((((Below.refl _ w1).alloc (Nat.le_refl _) _).drew).trans (hb5.mono (by simp [drew_size])))
        | exact ho6.below _ _ (((Gr.drew w1).trans hb5).size) ((((Gr.drew w1).trans hb5)).alloc _)
    have HO6 : Hid (OwnB w6 w1.heap.size 5 (.slice a5 x.length c5) x) := by
      show OwnB _ _ _ _ _
      first
        | exact (hown5.only ho6 (by simp [drew_size])).mono (by simp [drew_size])
        | exact (hown5.below (ho6.below _ _ (Nat.le_refl _) ((Below.refl _ _).alloc (Nat.le_refl _) _))).mono (by simp [drew_size])
    have hw3 : w.heap.size + 2 < w1.heap.size := (Array.getElem?_eq_some_iff.1 HG2.out).1
    first | (have hle : w1.heap.size ≤ w5.heap.size := (by have := hb5.size; simp [drew_size] at this; omega); obtain ⟨g7, hg7⟩ : ∃ g7, g7 = w5.heap.size := ⟨_, rfl⟩; have hng : ∀ k, (Value.slice a5 x.length c5).ownBlock = some k → k ≠ w5.heap.size := (fun k hk => Nat.ne_of_lt (World.ownsRow.lt hown5 k hk).2); rw [← hg7] at h6 hle hng ⊢; clear hg7) | (obtain ⟨g7, hg7⟩ : ∃ g7, g7 = w1.heap.size := ⟨_, rfl⟩; have hle : w1.heap.size ≤ g7 := (by omega); have hng : ∀ k, (Value.slice a5 x.length c5).ownBlock = some k → k ≠ w1.heap.size := (fun k hk => (by have := (World.ownsRow.lt hown5 k hk).1; simp [drew_size] at this; omega)); rw [← hg7] at h6 hng ⊢; clear hg7)
    have hg7 : w.heap.size + 2 < g7 := by omega
    have HNG := Lib.hid hng
    have hw3' : w.heap.size + 2 < w1.heap.size := hw3
    have HG7 := Lib.hid h6
    clear hng h6 ho6 hown5 hb5 hle hw3
    try simp only [Act.put, List.setIfInBounds_toArray, List.set_cons_zero, List.set_cons_succ]
    refine wpG_done (by kernel_rfl) ?_ _
    have HM6 := Lib.hid (heap_gr HGR.out HG1.out)
    have HR6 := Lib.hid (heap_gr HGR.out HG2.out)
    have HB6 := Lib.hid (HB1.out.trans (Below.mono HGR.out HB1.out.size))
    have HMS : Hid ((Try.prog.info? 23).map (·.size) = some (M.map u8v).toArray.size) := by show _ = _; rw [List.size_toArray]; exact size23l M HM.out
    by_cases hDM : D = M
    · have hq : ∀ w', (binOp .neq 23 (.agg (D.map u8v).toArray) (.agg (M.map u8v).toArray)).run Try.prog w' = .ok (.bool false) w' := fun w' => by rw [neq23 D M HD.out HM.out w', hDM]; simp
      have HDM := Lib.hid hDM
      clear hDM
      have HSZ := Lib.hid (size26l t (.slice a5 x.length c5) HS.out HD.out)
      have HSE := Lib.hid (size26e t (.slice a5 x.length c5) HS.out HD.out)
      have HNE : Hid ((ethL S D t (.slice a5 x.length c5)).length = ethZ.length) := by show _ = _; rw [ethL_length _ _ HS.out HD.out]; rfl
      have HON := Lib.hid (ethL_one S D t (.slice a5 x.length c5) rfl)
      have RD7 := Lib.hid (range_S HS.out HG7.out)
      have SD7 := Lib.hid (size23l D HD.out)
      go_wp2_with (first | (with_reducible refine wpList_load_mid rfl 23 (.tmp 17) rfl g7 6 rfl (D.map u8v) _ RD7.out under23 rfl SD7.out ?_) | (with_reducible refine wpList_load_row rfl 23 (.tmp 4) rfl (w.heap.size + 1) rfl 23 _ (0, 0) _ HM6.out under23 rfl HMS.out ?_) | (with_reducible refine wpList_load_row rfl 26 (.tmp 7) rfl g7 rfl 26 _ (0, 0) _ HG7.out Try.underlying26 rfl HSZ.out ?_) | (with_reducible refine wpList_store_whole rfl 26 (.tmp 6) (.tmp 23) rfl (w.heap.size + 2) (ethL S D t (.slice a5 x.length c5)) rfl rfl 26 ethZ HR6.out HSE.out HNE.out HON.out ?_))
      intro w9 h9 ho9
      have H9 := Lib.hid h9
      have HB9 := Lib.hid (ho9.below _ _ (by omega) HB6.out)
      have HO9 : Hid (OwnB w9 w.heap.size 5 (.slice a5 x.length c5) x) := (HO6.out.only ho9 hw3').mono (by omega)
      clear h9 ho9 hq
      go_wp2
      refine bodyPost_ret (v := .agg (ethL S D t (.slice a5 x.length c5)).toArray) (results_cell_row Try.results20 _ _ (w.heap.size + 2) 26 _ (0, 0) _ rfl H9.out Try.underlying26 rfl HSZ.out) rfl ?_
      have := HDM.out
      subst this
      exact ⟨_, rfl, HO9.out, HB9.out⟩
    · have hq : ∀ w', (binOp .neq 23 (.agg (D.map u8v).toArray) (.agg (M.map u8v).toArray)).run Try.prog w' = .ok (.bool true) w' := fun w' => by rw [neq23 D M HD.out HM.out w', decide_eq_false hDM]; rfl
      clear hDM
      have RD7 := Lib.hid (range_S HS.out HG7.out)
      have SD7 := Lib.hid (size23l D HD.out)
      have SM7 := Lib.hid (size23l M HM.out)
      have FT7 : Hid (6 + (M.map u8v).length ≤ (ethL S D t (.slice a5 x.length c5)).length) := by show _ ≤ _; rw [List.length_map, HM.out, ethL_length _ _ HS.out HD.out]; decide
      go_wp2_with (first | (with_reducible refine wpList_load_mid rfl 23 (.tmp 17) rfl g7 6 rfl (D.map u8v) _ RD7.out under23 rfl SD7.out ?_) | (with_reducible refine wpList_load_row rfl 23 (.tmp 4) rfl (w.heap.size + 1) rfl 23 _ (0, 0) _ HM6.out under23 rfl HMS.out ?_) | (with_reducible refine wpList_store_splice rfl 23 (.tmp 22) (.tmp 21) rfl g7 6 (M.map u8v) rfl rfl 26 _ HG7.out SM7.out FT7.out (oneCell_u8 _) ?_))
      intro w8 h8 ho8
      rw [splice_S _ _ HS.out HD.out HM.out] at h8
      have HG8 := Lib.hid h8
      have HR8 : Hid (w8.heap[w.heap.size + 2]? = some (.cells ethZ.toArray 26 (0, 0))) := by
        show _ = _
        rw [ho8.heap _ (Array.getElem?_eq_some_iff.1 HR6.out).1 (by omega)]; exact HR6.out
      have HB8 := Lib.hid (ho8.below _ _ (by omega) HB6.out)
      have HO8 := Lib.hid (HO6.out.off ho8 HNG.out)
      clear h8 ho8 hq
      have HSZ := Lib.hid (size26l t (.slice a5 x.length c5) HS.out HM.out)
      have HSE := Lib.hid (size26e t (.slice a5 x.length c5) HS.out HM.out)
      have HNE : Hid ((ethL S M t (.slice a5 x.length c5)).length = ethZ.length) := by show _ = _; rw [ethL_length _ _ HS.out HM.out]; rfl
      have HON := Lib.hid (ethL_one S M t (.slice a5 x.length c5) rfl)
      go_wp2_with (first | (with_reducible refine wpList_load_row rfl 26 (.tmp 7) rfl g7 rfl 26 _ (0, 0) _ HG8.out Try.underlying26 rfl HSZ.out ?_) | (with_reducible refine wpList_store_whole rfl 26 (.tmp 6) (.tmp 23) rfl (w.heap.size + 2) (ethL S M t (.slice a5 x.length c5)) rfl rfl 26 ethZ HR8.out HSE.out HNE.out HON.out ?_))
      intro w9 h9 ho9
      have H9 := Lib.hid h9
      have HB9 := Lib.hid (ho9.below _ _ (by omega) HB8.out)
      have HO9 : Hid (OwnB w9 w.heap.size 5 (.slice a5 x.length c5) x) := (HO8.out.only ho9 hw3').mono (by omega)
      clear h9 ho9
      go_wp2
      refine bodyPost_ret (v := .agg (ethL S M t (.slice a5 x.length c5)).toArray) (results_cell_row Try.results20 _ _ (w.heap.size + 2) 26 _ (0, 0) _ rfl H9.out Try.underlying26 rfl HSZ.out) rfl ?_
      exact ⟨_, rfl, HO9.out, HB9.out⟩
end Go.Proofs.Ytkalbchcgdnciaa
