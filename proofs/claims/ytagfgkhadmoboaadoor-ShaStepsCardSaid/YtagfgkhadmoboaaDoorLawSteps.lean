/-
  For every state and block sha.Step answers as the document's Step does, and Begin as the document's Begin (conciergelaw02.ShaSteps answers true). The listed table of constants is tied to the program's text. No condition.
-/
import Derived.Test.YtagfgkhadmoboaaDoorShaL
import Derived.ProofKit
import Derived.OpenShut
import Derived.ShutString
import Derived.ChangeOld
import Derived.SevenTiedAt
namespace Go.Proofs.YtagfgkhadmoboaaDoor.shaSteps
open Go.ChangeShapes Go.WideShapes Go.ChangeAt Go.RowKit
open Go.ChangeMaps (open_string shut_string)
set_option linter.unusedVariables false
set_option linter.unusedSimpArgs false

theorem walk (W : World) (hL : Laid W) (s : St) (l : List UInt8) (hl : l.length = 64) :
    Calls Tryd.prog 3 #[.agg s.cells.toArray, .agg (l.map u8v).toArray] W fun e w' => e = .returned (.bool true) ∧ Below W.heap.size W w' := by
  have H8 := Lib.hid (heap_alloc_last W (.cells s.cells.toArray 23))
  have B2 : Gr W ((W.alloc (.cells s.cells.toArray 23)).alloc (.cells (l.map u8v).toArray 24)) := ((Gr.refl W).alloc _).alloc _
  have HB2 := Lib.hid B2
  have HL2 := Lib.hid (hL.below B2)
  have HG8 : Hid (((W.alloc (.cells s.cells.toArray 23)).alloc (.cells (l.map u8v).toArray 24)).heap[W.heap.size]? = some (.cells s.cells.toArray 23 (0, 0))) := by
    show _ = _
    rw [Below.heap_alloc _ _ _ (by simp), heap_alloc_last]
  have HG64 : Hid (((W.alloc (.cells s.cells.toArray 23)).alloc (.cells (l.map u8v).toArray 24)).heap[W.heap.size + 1]? = some (.cells (l.map u8v).toArray 24 (0, 0))) := by
    have := heap_alloc_last (W.alloc (.cells s.cells.toArray 23)) (.cells (l.map u8v).toArray 24)
    rw [World.size_alloc] at this
    exact this
  have HLL := Lib.hid hl
  have HSB : Hid ((Tryd.prog.info? 24).map (·.size) = some (l.map u8v).length) := by
    show _ = _
    rw [List.length_map, hl]; exact size64b
  have HE := eql_words
  obtain ⟨S, hS⟩ : ∃ S, S = s.step l := ⟨_, rfl⟩
  have HA : Hid (∀ w, Laid w → Calls Tryd.prog 11 #[.agg s.cells.toArray, .agg (l.map u8v).toArray] w fun e w' => e = .returned (.agg S.cells.toArray) ∧ Below w.heap.size w w') := by rw [hS]; exact step_any s l hl
  have HR : Hid (∀ w, Calls Tryd.prog 12 #[.agg s.cells.toArray, .agg (l.map u8v).toArray] w fun e w' => e = .returned (.agg S.cells.toArray) ∧ Below w.heap.size w w') := by rw [hS]; exact rstep_any s l hl
  obtain ⟨S0, hS0⟩ : ∃ S0, S0 = st0 := ⟨_, rfl⟩
  have HBG : Hid (∀ w, Calls Tryd.prog 13 #[] w fun e w' => e = .returned (.agg S0.cells.toArray) ∧ Below w.heap.size w w') := by rw [hS0]; exact begin_cells
  have HRB : Hid (∀ w, Calls Tryd.prog 14 #[] w fun e w' => e = .returned (.agg S0.cells.toArray) ∧ Below w.heap.size w w') := by rw [hS0]; exact rbegin_any
  clear hS hS0
  clear hL hl B2 H8
  go_enter Tryd.func3, Tryd.ntmps3
  go_wp2
  generalize (W.alloc (.cells s.cells.toArray 23)).alloc (.cells (l.map u8v).toArray 24) = w1 at HB2 HL2 HG8 HG64 ⊢
  have R8 : Hid (∀ w', Gr w1.drew w' → w'.rangeAt W.heap.size 0 s.cells) := fun w' hg => range_of_row (heap_gr ((Gr.drew w1).trans hg) HG8.out)
  have R64 : Hid (∀ w', Gr w1.drew w' → w'.rangeAt (W.heap.size + 1) 0 (l.map u8v)) := fun w' hg => range_of_row (heap_gr ((Gr.drew w1).trans hg) HG64.out)
  refine wp_region_G 16 Gr (by kernel_rfl) ?_
  -- 0: slot 5
  refine wpG_take preGr (i := 0) (v := ?_) (by kernel_rfl) (some 5) (by kernel_rfl) rfl (by kernel_rfl) (by kernel_rfl) (by kernel_rfl) (fun _ _ _ h => h) (by rfl) (fun w' hw' => ?_) rfl ?_
  rotate_left
  · refine Eq.trans (load_mid_run (P := Tryd.prog) 23 (.tmp 2) ?_ W.heap.size 0 ?_ s.cells _ (R8.out w' hw') Tryd.underlying23 rfl (size8c s)) ?_
    · rfl
    · rfl
    · with_reducible rfl
  simp only [Act.put, List.setIfInBounds_toArray, List.set_cons_zero, List.set_cons_succ]
  -- 1: slot 6
  refine wpG_take preGr (i := 1) (v := ?_) (by kernel_rfl) (some 6) (by kernel_rfl) rfl (by kernel_rfl) (by kernel_rfl) (by kernel_rfl) (fun _ _ _ h => h) (by rfl) (fun w' hw' => ?_) rfl ?_
  rotate_left
  · refine Eq.trans (load_mid_run (P := Tryd.prog) 24 (.tmp 3) ?_ (W.heap.size + 1) 0 ?_ (l.map u8v) _ (R64.out w' hw') Tryd.underlying24 rfl HSB.out) ?_
    · rfl
    · rfl
    · with_reducible rfl
  simp only [Act.put, List.setIfInBounds_toArray, List.set_cons_zero, List.set_cons_succ]
  -- 3: slot 8
  refine wpG_take preGr (i := 3) (v := ?_) (by kernel_rfl) (some 8) (by kernel_rfl) rfl (by kernel_rfl) (by kernel_rfl) (by kernel_rfl) (fun _ _ _ h => h) (by rfl) (fun w' hw' => ?_) rfl ?_
  rotate_left
  · refine Eq.trans (load_mid_run (P := Tryd.prog) 23 (.tmp 2) ?_ W.heap.size 0 ?_ s.cells _ (R8.out w' hw') Tryd.underlying23 rfl (size8c s)) ?_
    · rfl
    · rfl
    · with_reducible rfl
  simp only [Act.put, List.setIfInBounds_toArray, List.set_cons_zero, List.set_cons_succ]
  -- 4: slot 9
  refine wpG_take preGr (i := 4) (v := ?_) (by kernel_rfl) (some 9) (by kernel_rfl) rfl (by kernel_rfl) (by kernel_rfl) (by kernel_rfl) (fun _ _ _ h => h) (by rfl) (fun w' hw' => ?_) rfl ?_
  rotate_left
  · refine Eq.trans (load_mid_run (P := Tryd.prog) 24 (.tmp 3) ?_ (W.heap.size + 1) 0 ?_ (l.map u8v) _ (R64.out w' hw') Tryd.underlying24 rfl HSB.out) ?_
    · rfl
    · rfl
    · with_reducible rfl
  simp only [Act.put, List.setIfInBounds_toArray, List.set_cons_zero, List.set_cons_succ]
  refine wpG_one (i := 2) rfl (by kernel_rfl) (by rfl) ?_
  go_simp
  refine (HA.out _ (HL2.out.below (Gr.drew _))).mono ?_
  rintro e w2 ⟨rfl, hb2⟩
  have G2 := Lib.hid (Gr.trans (Gr.drew w1) hb2)
  refine ⟨hb2, ?_⟩
  clear hb2
  try simp only [Act.put, List.setIfInBounds_toArray, List.set_cons_zero, List.set_cons_succ]
  refine wpG_one (i := 5) rfl (by kernel_rfl) (by rfl) ?_
  go_simp
  refine (HR.out _).mono ?_
  rintro e w3 ⟨rfl, hb3⟩
  have G3 := Lib.hid (Gr.trans G2.out hb3)
  refine ⟨hb3, ?_⟩
  clear hb3
  try simp only [Act.put, List.setIfInBounds_toArray, List.set_cons_zero, List.set_cons_succ]
  -- 6: slot 11
  refine wpG_take preGr (i := 6) (v := ?_) (by kernel_rfl) (some 11) (by kernel_rfl) rfl (by kernel_rfl) (by kernel_rfl) (by kernel_rfl) (fun _ _ _ h => h) (by rfl) (fun w' hw' => ?_) rfl ?_
  rotate_left
  · go_simp
    with_reducible rfl
  simp only [Act.put, List.setIfInBounds_toArray, List.set_cons_zero, List.set_cons_succ]
  -- 7: slot 12
  refine wpG_take preGr (i := 7) (v := ?_) (by kernel_rfl) (some 12) (by kernel_rfl) rfl (by kernel_rfl) (by kernel_rfl) (by kernel_rfl) (fun _ _ _ h => h) (by rfl) (fun w' hw' => ?_) rfl ?_
  rotate_left
  · go_simp
    with_reducible rfl
  simp only [Act.put, List.setIfInBounds_toArray, List.set_cons_zero, List.set_cons_succ]
  refine wpG_one (i := 8) rfl (by kernel_rfl) (by rfl) ?_
  go_simp
  refine (HBG.out _).mono ?_
  rintro e w4 ⟨rfl, hb4⟩
  have G4 := Lib.hid (Gr.trans G3.out hb4)
  refine ⟨hb4, ?_⟩
  clear hb4
  try simp only [Act.put, List.setIfInBounds_toArray, List.set_cons_zero, List.set_cons_succ]
  refine wpG_one (i := 9) rfl (by kernel_rfl) (by rfl) ?_
  go_simp
  refine (HRB.out _).mono ?_
  rintro e w5 ⟨rfl, hb5⟩
  have G5 := Lib.hid (Gr.trans G4.out hb5)
  refine ⟨hb5, ?_⟩
  clear hb5
  try simp only [Act.put, List.setIfInBounds_toArray, List.set_cons_zero, List.set_cons_succ]
  -- 10: slot 15
  refine wpG_take preGr (i := 10) (v := ?_) (by kernel_rfl) (some 15) (by kernel_rfl) rfl (by kernel_rfl) (by kernel_rfl) (by kernel_rfl) (fun _ _ _ h => h) (by rfl) (fun w' hw' => ?_) rfl ?_
  rotate_left
  · go_simp
    with_reducible rfl
  simp only [Act.put, List.setIfInBounds_toArray, List.set_cons_zero, List.set_cons_succ]
  -- 11: slot 16
  refine wpG_take preGr (i := 11) (v := ?_) (by kernel_rfl) (some 16) (by kernel_rfl) rfl (by kernel_rfl) (by kernel_rfl) (by kernel_rfl) (fun _ _ _ h => h) (by rfl) (fun w' hw' => ?_) rfl ?_
  rotate_left
  · go_simp
    with_reducible rfl
  simp only [Act.put, List.setIfInBounds_toArray, List.set_cons_zero, List.set_cons_succ]
  -- 12: slot 17
  refine wpG_take preGr (i := 12) (v := ?_) (by kernel_rfl) (some 17) (by kernel_rfl) rfl (by kernel_rfl) (by kernel_rfl) (by kernel_rfl) (fun _ _ _ h => h) (by rfl) (fun w' hw' => ?_) rfl ?_
  rotate_left
  · go_simp
    with_reducible rfl
  simp only [Act.put, List.setIfInBounds_toArray, List.set_cons_zero, List.set_cons_succ]
  refine wpG_one (i := 13) rfl (by kernel_rfl) (by rfl) ?_
  go_simp
  refine (awake_any _ (HL2.out.below G5.out)).mono ?_
  rintro e w6 ⟨rfl, hb6⟩
  have G6 := Lib.hid (Gr.trans G5.out hb6)
  refine ⟨hb6, ?_⟩
  clear hb6
  try simp only [Act.put, List.setIfInBounds_toArray, List.set_cons_zero, List.set_cons_succ]
  -- 14: slot 19
  refine wpG_take preGr (i := 14) (v := ?_) (by kernel_rfl) (some 19) (by kernel_rfl) rfl (by kernel_rfl) (by kernel_rfl) (by kernel_rfl) (fun _ _ _ h => h) (by rfl) (fun w' hw' => ?_) rfl ?_
  rotate_left
  · go_simp
    with_reducible rfl
  simp only [Act.put, List.setIfInBounds_toArray, List.set_cons_zero, List.set_cons_succ]
  -- 15: slot 4
  refine wpG_take preGr (i := 15) (v := ?_) (by kernel_rfl) (some 4) (by kernel_rfl) rfl (by kernel_rfl) (by kernel_rfl) (by kernel_rfl) (fun _ _ _ h => h) (by rfl) (fun w' hw' => ?_) rfl ?_
  rotate_left
  · go_simp
    with_reducible rfl
  simp only [Act.put, List.setIfInBounds_toArray, List.set_cons_zero, List.set_cons_succ]
  refine wpG_done (by kernel_rfl) ?_ _
  go_wp2
  go_ret
  exact ⟨rfl, Gr.trans HB2.out G6.out⟩
theorem own : ownKnob Tryd.prog.godebug = none := by kernel_rfl
theorem laidOut : laidOutB Tryd.prog = true := by kernel_rfl
theorem door_met (os : Os) (args : Array Value) : laidMetH Tryd.prog Rows.shaStepsRow.laid ((World.doorLaid Tryd.prog 400 os).forCall (fun _ _ => 0) ⟨#[], args, []⟩).memory :=
  laidMetH_of_parts3 (fuel := 8) (laidMet_of_run' 8 (by kernel_rfl) (by kernel_rfl)) (by kernel_rfl) (by kernel_rfl)
set_option maxRecDepth 100000 in
theorem lifted (os : Os) (started : os.Started) (H : Type) (enc : TypeId × Value → H) :
    ReturnsInHanded {} Tryd.checked os 3 .any (fun w args => (Rows.shaStepsSpec.pre enc Tryd.prog Tryd.f3 [] false w args ∧ laidMetH Tryd.prog Rows.shaStepsRow.laid w) ∧ sizedMet enc Tryd.prog Tryd.f3 (OpenSpec.ofChange Rows.shaStepsSpec) false w args) (Rows.shaStepsSpec.post enc Tryd.prog Tryd.f3 false true false false) := by
  refine returnsInHanded_of_change_and (C := Tryd.checked) (X := fun w _ => laidMetH Tryd.prog Rows.shaStepsRow.laid w) (fun _ _ _ hh h => h.of_heap hh) own started (by kernel_rfl) Tryd.func3
    (ChangeSpec.witness_shaped (enc := enc) (C := Tryd.checked) (os := os) (X := fun w _ => laidMetH Tryd.prog Rows.shaStepsRow.laid w) false (World.doorLaid Tryd.prog 400 os) #[.agg #[.int .u32 0, .int .u32 0, .int .u32 0, .int .u32 0, .int .u32 0, .int .u32 0, .int .u32 0, .int .u32 0], .agg #[.int .u8 0, .int .u8 0, .int .u8 0, .int .u8 0, .int .u8 0, .int .u8 0, .int .u8 0, .int .u8 0, .int .u8 0, .int .u8 0, .int .u8 0, .int .u8 0, .int .u8 0, .int .u8 0, .int .u8 0, .int .u8 0, .int .u8 0, .int .u8 0, .int .u8 0, .int .u8 0, .int .u8 0, .int .u8 0, .int .u8 0, .int .u8 0, .int .u8 0, .int .u8 0, .int .u8 0, .int .u8 0, .int .u8 0, .int .u8 0, .int .u8 0, .int .u8 0, .int .u8 0, .int .u8 0, .int .u8 0, .int .u8 0, .int .u8 0, .int .u8 0, .int .u8 0, .int .u8 0, .int .u8 0, .int .u8 0, .int .u8 0, .int .u8 0, .int .u8 0, .int .u8 0, .int .u8 0, .int .u8 0, .int .u8 0, .int .u8 0, .int .u8 0, .int .u8 0, .int .u8 0, .int .u8 0, .int .u8 0, .int .u8 0, .int .u8 0, .int .u8 0, .int .u8 0, .int .u8 0, .int .u8 0, .int .u8 0, .int .u8 0, .int .u8 0]] 8 rfl (World.shaped_of_RefB (by kernel_rfl) (by kernel_rfl)) (by kernel_rfl) (by kernel_rfl) (by kernel_rfl) (door_met os _)) ?_
  intro W base args ds gs before hval0 hW _ _ hL _
  have hval : ∀ (j : Nat) t v, Tryd.f3.params[j]? = some t → args[j]? = some v → Value.okWide Tryd.prog W .any base t v := hval0
  have hW' := hW
  obtain ⟨p, q, hA0, hV, rfl, hfz, hnd⟩ := hW
  have hA : DataW.TrodAll enc Tryd.prog W 0 (fun _ => true) true Tryd.f3.params.toList args.toList ds p := hA0
  rw [Tryd.params3] at hA hval
  obtain ⟨v0, vs0, d0, ds0, p0, q0, hargs, rfl, rfl, h0, r0⟩ := trodAll_cons hA
  obtain ⟨v1, vs1, d1, ds1, p1, q1, rfl, rfl, rfl, h1, r1⟩ := trodAll_cons r0
  obtain ⟨rfl, rfl, rfl⟩ := trodAll_nil r1
  obtain rfl : args = #[v0, v1] := by cases args; simp_all
  obtain ⟨rfl, rfl⟩ := trodVars_none hV
  have k0 := h0
  have lt0 : ∀ x ∈ p0, x.block < W.heap.size := by obtain ⟨m, hm⟩ := k0; exact DataW.trod_lt m _ _ _ hm
  obtain ⟨s0, rfl⟩ := open_words8 Tryd.underlying23 Tryd.underlying22 (by kernel_rfl) (by kernel_rfl) (hval 0 23 v0 rfl rfl) h0
  have k1 := h1
  have lt1 : ∀ x ∈ p1, x.block < W.heap.size := by obtain ⟨m, hm⟩ := k1; exact DataW.trod_lt m _ _ _ hm
  obtain ⟨l1, hl1, rfl⟩ := open_arr_bytes (n := 64) Tryd.underlying24 Tryd.underlying5 (by kernel_rfl) (by kernel_rfl) (hval 1 24 v1 rfl rfl) h1
  clear hA0 hval0
  refine (walk W (of_laid hL) s0 l1 hl1).mono fun e W' ⟨he, bel⟩ => ?_
  subst he
  exact ⟨_, rfl, _, _, _, [], _, [], hW', trodAll_mk1 (shut_bool Tryd.underlying4 _), (trodAll_cons_mk (Below.trod laidOut (by kernel_rfl) (of_decide_eq_true (by kernel_rfl)) k0 bel lt0) (trodAll_cons_mk (Below.trod laidOut (by kernel_rfl) (of_decide_eq_true (by kernel_rfl)) k1 bel lt1) trodAll_mk0)), rfl, bel.frame _, fun h => by cases h⟩
theorem over : Rows.shaStepsRow.holds Tryd.pinned (OpenSpec.ofChange Rows.shaStepsSpec) :=
  OpenClaim.holds_of_wide 3 Tryd.f3 rfl rfl rfl rfl rfl rfl rfl ⟨rfl, rfl, rfl, rfl, rfl⟩ rfl rfl rfl rfl rfl (by kernel_rfl) Tryd.func3 (by kernel_rfl)
    (of_decide_eq_true (by kernel_rfl)) (by unfold Func.isWrapper; first | (rw [if_pos (by decide +kernel)]; kernel_rfl) | (rw [if_neg (by decide +kernel)]; exact ⟨rfl, rfl⟩))
    (fun os started H enc _ => lifted os started H enc)
/-- The statement: the tied card. -/
theorem proved : Rows.ShaStepsCardSaid :=
  Claim7.holds_tied_plain_at .later [] [.data] true (true, "965a8da0ce5c2711f41dbdd53310348fca91422acffbe9034a6b03730aadf053") false over (fun _ h => by cases h) (by kernel_rfl) (fun _ h => by cases h) shaSteps_row_tie rfl ⟨rfl, rfl⟩ (by kernel_rfl) rfl
    (fun f fn hf hfn => by
      obtain rfl : f = 3 := Option.some.inj ((show Tryd.prog.funcNamed "concierge/conciergelaw02.ShaSteps" = some 3 by kernel_rfl).symm.trans hf) |>.symm
      obtain rfl : fn = Tryd.f3 := (Option.some.inj (Tryd.func3.symm.trans hfn)).symm
      exact ⟨by kernel_rfl, fun j t ht => by
        rw [Tryd.params3] at ht
        have hm : t ∈ [23, 24] := by simpa using Array.mem_of_getElem? ht
        have hall : ([23, 24].all fun u => !Tryd.prog.wantsStandIn u) = true := by kernel_rfl
        exact (show Tryd.prog.wantsStandIn t = false by simpa using List.all_eq_true.1 hall t hm)⟩)
    (by kernel_rfl)
end Go.Proofs.YtagfgkhadmoboaaDoor.shaSteps
