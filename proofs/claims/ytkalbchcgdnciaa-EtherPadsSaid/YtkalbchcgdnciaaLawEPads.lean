/-
  For every row of bytes, every frame and every address (of bytes and payload the first 1600) ether.Pad and ether.Reply tell what the document tells (conciergelaw04.EtherPads answers true). No conditions.
-/
import Derived.Test.YtkalbchcgdnciaaEthJ
import Derived.Test.YtkalbchcgdnciaaEthF
import Derived.ProofKit
import Derived.OpenShut
import Derived.ChangeOld
namespace Go.Proofs.Ytkalbchcgdnciaa.etherPads
open Go.ChangeShapes Go.WideShapes Go.ChangeAt Go.RowKit
set_option linter.unusedVariables false
set_option linter.unusedSimpArgs false

set_option maxRecDepth 20000 in
set_option maxHeartbeats 4000000 in
theorem walk (W : World) (a0 : Option Addr) (n0 c0 : Nat) (l0 : List UInt8) (hn0 : l0.length = n0) (b0 : Bs W (.slice a0 n0 c0) l0)
    (D S : List UInt8) (t : Int) (a1 : Option Addr) (n1 c1 : Nat) (l1 : List UInt8) (hD : D.length = 6) (hS : S.length = 6) (wf : (Lit.int .i64 t).wf = true) (hn1 : l1.length = n1) (b1 : Bs W (.slice a1 n1 c1) l1) (M : List UInt8) (hM : M.length = 6) :
    Calls Try.prog 5 #[.slice a0 n0 c0, .agg (ethL D S t (.slice a1 n1 c1)).toArray, .agg (M.map u8v).toArray] W fun e w' => e = .returned (.bool true) ∧ Below W.heap.size W w' := by
  obtain ⟨m0, x0, hm0, hx0, u0, hc0⟩ := cut_in hn0 b0
  obtain ⟨m1, x1, hm1, hx1, u1, hc1⟩ := cut_in hn1 b1
  have HC0 := Lib.hid hc0
  have HX0 := Lib.hid hx0
  have HU0 := Lib.hid u0
  have HC1 := Lib.hid hc1
  have HX1 := Lib.hid hx1
  have HU1 := Lib.hid u1
  have HD := Lib.hid hD
  have HS := Lib.hid hS
  have HM := Lib.hid hM
  have AW := Lib.hid awake_any
  have HL0 : Hid (13 < (ethL D S t (.slice a1 n1 c1)).length) := by show _ < _; rw [ethL_length _ _ hD hS]; decide
  have HG0 : Hid (((W.alloc (.cells (ethL D S t (.slice a1 n1 c1)).toArray 26)).alloc (.cells (M.map u8v).toArray 23)).heap[W.heap.size]? = some (.cells (ethL D S t (.slice a1 n1 c1)).toArray 26 (0, 0))) := by
    show _ = _
    rw [Below.heap_alloc _ _ _ (by simp), heap_alloc_last]
  have HK0 : Hid (((W.alloc (.cells (ethL D S t (.slice a1 n1 c1)).toArray 26)).alloc (.cells (M.map u8v).toArray 23)).heap[W.heap.size + 1]? = some (.cells (M.map u8v).toArray 23 (0, 0))) := by
    show _ = _
    have := heap_alloc_last (W.alloc (.cells (ethL D S t (.slice a1 n1 c1)).toArray 26)) (.cells (M.map u8v).toArray 23)
    rw [World.size_alloc] at this
    exact this
  have HB0 : Hid (Below W.heap.size W ((W.alloc (.cells (ethL D S t (.slice a1 n1 c1)).toArray 26)).alloc (.cells (M.map u8v).toArray 23))) := ((Below.refl _ _).alloc (Nat.le_refl _) _).alloc (by simp) _
  have h13 := ethL_13 t (.slice a1 n1 c1) hD hS
  have c13 := cell13 hD hS HG0.out
  have F2 : Hid ((Try.prog.info? 24).map (·.size) = some 1) := by show _ = _; kernel_rfl
  clear hn0 b0 u0 hc0 hx0 hn1 b1 u1 hc1 hx1 hD hS hM wf
  go_enter Try.func5, Try.ntmps5
  go_wp2_with fail
  refine (HC0.out _).mono ?_
  rintro e w' ⟨rfl, rfl⟩
  go_wp2_with fail
  refine (HC1.out _).mono ?_
  rintro e w' ⟨rfl, rfl⟩
  go_wp2_with (with_reducible refine wpList_store_cell rfl 24 (.tmp 12) (.tmp 11) rfl W.heap.size 13 (.slice a1 m1 c1) rfl rfl 26 _ HG0.out F2.out HL0.out rfl ?_)
  intro w1 h1 ho1
  rw [ethL_set13 _ _ _ HD.out HS.out] at h1
  have HG1 := Lib.hid h1
  have HK1 : Hid (w1.heap[W.heap.size + 1]? = some (.cells (M.map u8v).toArray 23 (0, 0))) := by
    show _ = _
    rw [ho1.heap _ (Array.getElem?_eq_some_iff.1 HK0.out).1 (by omega)]; exact HK0.out
  have HB1 := Lib.hid (ho1.below _ _ (Nat.le_refl _) HB0.out)
  have HSZ := Lib.hid (size26l t (.slice a1 m1 c1) HD.out HS.out)
  have HMS : Hid ((Try.prog.info? 23).map (·.size) = some (M.map u8v).toArray.size) := by show _ = _; rw [List.size_toArray]; exact size23l M HM.out
  have PD : Hid (∀ w', Gr w1 w' → Calls Try.prog 18 #[.slice a0 m0 c0] w' fun e w2 => ∃ v, e = .returned v ∧ OwnB w2 w'.heap.size 5 v (padL x0) ∧ Below w'.heap.size w' w2) := fun w' hw' =>
    (pad_any a0 m0 c0 x0 HX0.out w' ((HU0.out.below HB1.out).below hw') (by omega)).mono fun e w2 ⟨c', h1, h2, h3⟩ => ⟨_, h1, h2, h3⟩
  have RPD : Hid (∀ w', Gr w1 w' → Calls Try.prog 19 #[.slice a0 m0 c0] w' fun e w2 => ∃ v, e = .returned v ∧ OwnB w2 w'.heap.size 5 v (padL x0) ∧ Below w'.heap.size w' w2) := fun w' hw' =>
    rpad_any a0 m0 c0 x0 HX0.out w' ((HU0.out.below HB1.out).below hw') (by omega)
  have RP : Hid (∀ w', Gr w1 w' → Calls Try.prog 20 #[.agg (ethL D S t (.slice a1 m1 c1)).toArray, .agg (M.map u8v).toArray, .slice a0 m0 c0] w' (RepR S M t x0 w')) := fun w' hw' =>
    reply_any D S M t _ a0 m0 c0 x0 HD.out HS.out HM.out rfl HX0.out w' ((HU0.out.below HB1.out).below hw') (by omega)
  have RRP : Hid (∀ w', Gr w1 w' → Calls Try.prog 21 #[.agg (ethL D S t (.slice a1 m1 c1)).toArray, .agg (M.map u8v).toArray, .slice a0 m0 c0] w' (RepR S M t x0 w')) := fun w' hw' =>
    rreply_any D S M t _ a0 m0 c0 x0 HD.out HS.out HM.out rfl HX0.out w' ((HU0.out.below HB1.out).below hw') (by omega)
  clear h1 ho1 h13 c13
  go_wp2_with fail
  refine wp_region_G 22 Gr (by kernel_rfl) ?_
  -- 0: slot 13
  refine wpG_take preGr (i := 0) (v := ?_) (by kernel_rfl) (some 13) (by kernel_rfl) rfl (by kernel_rfl) (by kernel_rfl) (by kernel_rfl) (fun _ _ _ h => h) (by rfl) (fun w' hw' => ?_) rfl ?_
  rotate_left
  · go_simp
    with_reducible rfl
  simp only [Act.put, List.setIfInBounds_toArray, List.set_cons_zero, List.set_cons_succ]
  -- 3: slot 16
  refine wpG_take preGr (i := 3) (v := ?_) (by kernel_rfl) (some 16) (by kernel_rfl) rfl (by kernel_rfl) (by kernel_rfl) (by kernel_rfl) (fun _ _ _ h => h) (by rfl) (fun w' hw' => ?_) rfl ?_
  rotate_left
  · go_simp
    with_reducible rfl
  simp only [Act.put, List.setIfInBounds_toArray, List.set_cons_zero, List.set_cons_succ]
  refine wpG_one (i := 1) rfl (by kernel_rfl) (by rfl) ?_
  go_simp
  refine (PD.out _ (Gr.drew _)).mono ?_
  rintro e w3 ⟨v3, rfl, hown3, hb3⟩
  have GR3 : Hid (Gr w1 w3) := (Gr.drew w1).trans hb3
  have HV3 := Lib.hid hown3.bs
  refine ⟨hb3, ?_⟩
  clear hb3 hown3
  try simp only [Act.put, List.setIfInBounds_toArray, List.set_cons_zero, List.set_cons_succ]
  -- 2: slot 15
  refine wpG_take preGr (i := 2) (v := ?_) (by kernel_rfl) (some 15) (by kernel_rfl) rfl (by kernel_rfl) (by kernel_rfl) (by kernel_rfl) (fun _ _ _ h => h) (by rfl) (fun w' hw' => ?_) rfl ?_
  rotate_left
  · have s3 := run_string_of (P := Try.prog) 24 9 5 Try.underlying24 Try.underlying5 Try.underlying9 (HV3.out.below hw')
    go_simp
    with_reducible rfl
  simp only [Act.put, List.setIfInBounds_toArray, List.set_cons_zero, List.set_cons_succ]
  refine wpG_one (i := 4) rfl (by kernel_rfl) (by rfl) ?_
  go_simp
  refine (RPD.out _ GR3.out).mono ?_
  rintro e w4 ⟨v4, rfl, hown4, hb4⟩
  have GR4 : Hid (Gr w1 w4) := GR3.out.trans hb4
  have HV4 := Lib.hid hown4.bs
  refine ⟨hb4, ?_⟩
  clear hb4 hown4
  try simp only [Act.put, List.setIfInBounds_toArray, List.set_cons_zero, List.set_cons_succ]
  -- 5: slot 18
  refine wpG_take preGr (i := 5) (v := ?_) (by kernel_rfl) (some 18) (by kernel_rfl) rfl (by kernel_rfl) (by kernel_rfl) (by kernel_rfl) (fun _ _ _ h => h) (by rfl) (fun w' hw' => ?_) rfl ?_
  rotate_left
  · have s4 := run_string_of (P := Try.prog) 24 9 5 Try.underlying24 Try.underlying5 Try.underlying9 (HV4.out.below hw')
    go_simp
    with_reducible rfl
  simp only [Act.put, List.setIfInBounds_toArray, List.set_cons_zero, List.set_cons_succ]
  -- 6: slot 19
  refine wpG_take preGr (i := 6) (v := ?_) (by kernel_rfl) (some 19) (by kernel_rfl) rfl (by kernel_rfl) (by kernel_rfl) (by kernel_rfl) (fun _ _ _ h => h) (by rfl) (fun w' hw' => ?_) rfl ?_
  rotate_left
  · go_simp
    with_reducible rfl
  simp only [Act.put, List.setIfInBounds_toArray, List.set_cons_zero, List.set_cons_succ]
  -- 7: slot 20
  refine wpG_take preGr (i := 7) (v := ?_) (by kernel_rfl) (some 20) (by kernel_rfl) rfl (by kernel_rfl) (by kernel_rfl) (by kernel_rfl) (fun _ _ _ h => h) (by rfl) (fun w' hw' => ?_) rfl ?_
  rotate_left
  · go_simp
    with_reducible rfl
  simp only [Act.put, List.setIfInBounds_toArray, List.set_cons_zero, List.set_cons_succ]
  -- 8: slot 21
  refine wpG_take preGr (i := 8) (v := ?_) (by kernel_rfl) (some 21) (by kernel_rfl) rfl (by kernel_rfl) (by kernel_rfl) (by kernel_rfl) (fun _ _ _ h => h) (by rfl) (fun w' hw' => ?_) rfl ?_
  rotate_left
  · refine Eq.trans (load_row_run (P := Try.prog) 26 (.tmp 4) ?_ W.heap.size ?_ 26 (ethL D S t (.slice a1 m1 c1)).toArray (0, 0) _ (heap_gr (GR4.out.trans hw') HG1.out) Try.underlying26 rfl HSZ.out) ?_
    · rfl
    · rfl
    · with_reducible rfl
  simp only [Act.put, List.setIfInBounds_toArray, List.set_cons_zero, List.set_cons_succ]
  -- 9: slot 22
  refine wpG_take preGr (i := 9) (v := ?_) (by kernel_rfl) (some 22) (by kernel_rfl) rfl (by kernel_rfl) (by kernel_rfl) (by kernel_rfl) (fun _ _ _ h => h) (by rfl) (fun w' hw' => ?_) rfl ?_
  rotate_left
  · refine Eq.trans (load_row_run (P := Try.prog) 23 (.tmp 5) ?_ (W.heap.size + 1) ?_ 23 (M.map u8v).toArray (0, 0) _ (heap_gr (GR4.out.trans hw') HK1.out) under23 rfl HMS.out) ?_
    · rfl
    · rfl
    · with_reducible rfl
  simp only [Act.put, List.setIfInBounds_toArray, List.set_cons_zero, List.set_cons_succ]
  -- 10: slot 23
  refine wpG_take preGr (i := 10) (v := ?_) (by kernel_rfl) (some 23) (by kernel_rfl) rfl (by kernel_rfl) (by kernel_rfl) (by kernel_rfl) (fun _ _ _ h => h) (by rfl) (fun w' hw' => ?_) rfl ?_
  rotate_left
  · go_simp
    with_reducible rfl
  simp only [Act.put, List.setIfInBounds_toArray, List.set_cons_zero, List.set_cons_succ]
  -- 12: slot 25
  refine wpG_take preGr (i := 12) (v := ?_) (by kernel_rfl) (some 25) (by kernel_rfl) rfl (by kernel_rfl) (by kernel_rfl) (by kernel_rfl) (fun _ _ _ h => h) (by rfl) (fun w' hw' => ?_) rfl ?_
  rotate_left
  · refine Eq.trans (load_row_run (P := Try.prog) 26 (.tmp 4) ?_ W.heap.size ?_ 26 (ethL D S t (.slice a1 m1 c1)).toArray (0, 0) _ (heap_gr (GR4.out.trans hw') HG1.out) Try.underlying26 rfl HSZ.out) ?_
    · rfl
    · rfl
    · with_reducible rfl
  simp only [Act.put, List.setIfInBounds_toArray, List.set_cons_zero, List.set_cons_succ]
  -- 13: slot 26
  refine wpG_take preGr (i := 13) (v := ?_) (by kernel_rfl) (some 26) (by kernel_rfl) rfl (by kernel_rfl) (by kernel_rfl) (by kernel_rfl) (fun _ _ _ h => h) (by rfl) (fun w' hw' => ?_) rfl ?_
  rotate_left
  · refine Eq.trans (load_row_run (P := Try.prog) 23 (.tmp 5) ?_ (W.heap.size + 1) ?_ 23 (M.map u8v).toArray (0, 0) _ (heap_gr (GR4.out.trans hw') HK1.out) under23 rfl HMS.out) ?_
    · rfl
    · rfl
    · with_reducible rfl
  simp only [Act.put, List.setIfInBounds_toArray, List.set_cons_zero, List.set_cons_succ]
  -- 14: slot 27
  refine wpG_take preGr (i := 14) (v := ?_) (by kernel_rfl) (some 27) (by kernel_rfl) rfl (by kernel_rfl) (by kernel_rfl) (by kernel_rfl) (fun _ _ _ h => h) (by rfl) (fun w' hw' => ?_) rfl ?_
  rotate_left
  · go_simp
    with_reducible rfl
  simp only [Act.put, List.setIfInBounds_toArray, List.set_cons_zero, List.set_cons_succ]
  refine wpG_one (i := 11) rfl (by kernel_rfl) (by rfl) ?_
  go_simp
  refine (RP.out _ GR4.out).mono ?_
  rintro e w5 ⟨v5, rfl, hown5, hb5⟩
  have GR5 : Hid (Gr w1 w5) := GR4.out.trans hb5
  have HV5 := Lib.hid hown5.bs
  refine ⟨hb5, ?_⟩
  clear hb5 hown5
  try simp only [Act.put, List.setIfInBounds_toArray, List.set_cons_zero, List.set_cons_succ]
  refine wpG_one (i := 15) rfl (by kernel_rfl) (by rfl) ?_
  go_simp
  refine (RRP.out _ GR5.out).mono ?_
  rintro e w6 ⟨v6, rfl, hown6, hb6⟩
  have GR6 : Hid (Gr w1 w6) := GR5.out.trans hb6
  have HV6 := Lib.hid hown6.bs
  have HV56 := Lib.hid (HV5.out.below hb6)
  refine ⟨hb6, ?_⟩
  clear hb6 hown6
  try simp only [Act.put, List.setIfInBounds_toArray, List.set_cons_zero, List.set_cons_succ]
  refine wpG_one (i := 16) rfl (by kernel_rfl) (by rfl) ?_
  obtain ⟨a5, c5, ev5, _, _⟩ := HV5.out.shape
  subst ev5
  obtain ⟨a6, c6, ev6, _, _⟩ := HV6.out.shape
  subst ev6
  go_simp
  refine (same_true S M t a5 a6 x0.length c5 c6 x0 HS.out HM.out rfl w6 HV56.out HV6.out).mono ?_
  rintro e w7 ⟨rfl, hb7⟩
  have GR7 : Hid (Gr w1 w7) := GR6.out.trans hb7
  refine ⟨hb7, ?_⟩
  clear hb7
  try simp only [Act.put, List.setIfInBounds_toArray, List.set_cons_zero, List.set_cons_succ]
  -- 17: slot 30
  refine wpG_take preGr (i := 17) (v := ?_) (by kernel_rfl) (some 30) (by kernel_rfl) rfl (by kernel_rfl) (by kernel_rfl) (by kernel_rfl) (fun _ _ _ h => h) (by rfl) (fun w' hw' => ?_) rfl ?_
  rotate_left
  · go_simp
    with_reducible rfl
  simp only [Act.put, List.setIfInBounds_toArray, List.set_cons_zero, List.set_cons_succ]
  -- 18: slot 31
  refine wpG_take preGr (i := 18) (v := ?_) (by kernel_rfl) (some 31) (by kernel_rfl) rfl (by kernel_rfl) (by kernel_rfl) (by kernel_rfl) (fun _ _ _ h => h) (by rfl) (fun w' hw' => ?_) rfl ?_
  rotate_left
  · go_simp
    with_reducible rfl
  simp only [Act.put, List.setIfInBounds_toArray, List.set_cons_zero, List.set_cons_succ]
  refine wpG_one (i := 19) rfl (by kernel_rfl) (by rfl) ?_
  go_simp
  refine (AW.out w7).mono ?_
  rintro e w8 ⟨rfl, hb8⟩
  have GR8 : Hid (Gr w1 w8) := GR7.out.trans hb8
  refine ⟨hb8, ?_⟩
  clear hb8
  try simp only [Act.put, List.setIfInBounds_toArray, List.set_cons_zero, List.set_cons_succ]
  -- 20: slot 33
  refine wpG_take preGr (i := 20) (v := ?_) (by kernel_rfl) (some 33) (by kernel_rfl) rfl (by kernel_rfl) (by kernel_rfl) (by kernel_rfl) (fun _ _ _ h => h) (by rfl) (fun w' hw' => ?_) rfl ?_
  rotate_left
  · go_simp
    with_reducible rfl
  simp only [Act.put, List.setIfInBounds_toArray, List.set_cons_zero, List.set_cons_succ]
  -- 21: slot 6
  refine wpG_take preGr (i := 21) (v := ?_) (by kernel_rfl) (some 6) (by kernel_rfl) rfl (by kernel_rfl) (by kernel_rfl) (by kernel_rfl) (fun _ _ _ h => h) (by rfl) (fun w' hw' => ?_) rfl ?_
  rotate_left
  · go_simp
    with_reducible rfl
  simp only [Act.put, List.setIfInBounds_toArray, List.set_cons_zero, List.set_cons_succ]
  refine wpG_done (by kernel_rfl) ?_ _
  go_wp2
  go_ret
  exact ⟨rfl, HB1.out.trans (Below.mono GR8.out HB1.out.size)⟩

theorem own : ownKnob Try.prog.godebug = none := by kernel_rfl
theorem laidOut : laidOutB Try.prog = true := by kernel_rfl
set_option maxRecDepth 100000 in
theorem lifted (os : Os) (started : os.Started) (H : Type) (enc : TypeId × Value → H) :
    ReturnsInHanded {} Try.checked os 5 .any (Rows.etherPadsSpec.pre6 enc Try.prog Try.f5 Rows.etherPadsRow.domain false) (Rows.etherPadsSpec.post enc Try.prog Try.f5 false true false false) := by
  refine returnsInHanded_of_change (C := Try.checked) own started (by kernel_rfl) Try.func5
    (ChangeSpec.witness6 (enc := enc) (C := Try.checked) false ⟨#[], #[.slice none 0 0, .agg #[.int .u8 0, .int .u8 0, .int .u8 0, .int .u8 0, .int .u8 0, .int .u8 0, .int .u8 0, .int .u8 0, .int .u8 0, .int .u8 0, .int .u8 0, .int .u8 0, .int .i64 0, .slice none 0 0], .agg #[.int .u8 0, .int .u8 0, .int .u8 0, .int .u8 0, .int .u8 0, .int .u8 0]], []⟩ 8 (by kernel_rfl) (by kernel_rfl) (by kernel_rfl) (by kernel_rfl)) ?_
  intro W base args ds gs before hval0 hW hcnd _
  have hval : ∀ (j : Nat) t v, Try.f5.params[j]? = some t → args[j]? = some v → Value.okWide Try.prog W .any base t v := hval0
  have hW' := hW
  obtain ⟨p, q, hA0, hV, rfl, hfz, hnd⟩ := hW
  have hA : DataW.TrodAll enc Try.prog W 0 (fun _ => true) true Try.f5.params.toList args.toList ds p := hA0
  rw [Try.params5] at hA hval
  obtain ⟨v0, vs0, d0, ds0, p0, q0, hargs, rfl, rfl, h0, r0⟩ := trodAll_cons hA
  obtain ⟨v1, vs1, d1, ds1, p1, q1, rfl, rfl, rfl, h1, r1⟩ := trodAll_cons r0
  obtain ⟨v2, vs2, d2, ds2, p2, q2, rfl, rfl, rfl, h2, r2⟩ := trodAll_cons r1
  obtain ⟨rfl, rfl, rfl⟩ := trodAll_nil r2
  obtain rfl : args = #[v0, v1, v2] := by cases args; simp_all
  obtain ⟨rfl, rfl⟩ := trodVars_none hV
  have k0 := h0
  have lt0 : ∀ x ∈ p0, x.block < W.heap.size := by obtain ⟨m, hm⟩ := k0; exact DataW.trod_lt m _ _ _ hm
  obtain ⟨a0, n0, c0, l0, rfl, hn0, b0⟩ := open_bytes Try.underlying24 Try.underlying5 (by kernel_rfl) (hval 0 24 v0 rfl rfl) h0
  have k1 := h1
  have lt1 : ∀ x ∈ p1, x.block < W.heap.size := by obtain ⟨m, hm⟩ := k1; exact DataW.trod_lt m _ _ _ hm
  obtain ⟨D1, S1, ty1, a1, n1, c1, l1, rfl, hD1, hS1, wf1, hn1, b1⟩ := open_ether Try.underlying26 ⟨rfl, rfl, rfl, rfl⟩ Try.underlying23 Try.underlying23 Try.underlying3 Try.underlying24 Try.underlying5 ⟨by kernel_rfl, by kernel_rfl, by kernel_rfl, by kernel_rfl, by kernel_rfl, by kernel_rfl⟩ (hval 1 26 v1 rfl rfl) h1
  have k2 := h2
  have lt2 : ∀ x ∈ p2, x.block < W.heap.size := by obtain ⟨m, hm⟩ := k2; exact DataW.trod_lt m _ _ _ hm
  obtain ⟨l2, hl2, rfl⟩ := open_arr_bytes (n := 6) Try.underlying23 Try.underlying5 (by kernel_rfl) (by kernel_rfl) (hval 2 23 v2 rfl rfl) h2
  clear hA0 hval0
  refine (walk W a0 n0 c0 l0 hn0 b0 D1 S1 ty1 a1 n1 c1 l1 hD1 hS1 wf1 hn1 b1 l2 hl2).mono fun e W' ⟨he, bel⟩ => ?_
  subst he
  exact ⟨_, rfl, _, _, _, [], _, [], hW', trodAll_mk1 (shut_bool Try.underlying4 _), (trodAll_cons_mk (Below.trod laidOut (by kernel_rfl) (of_decide_eq_true (by kernel_rfl)) k0 bel lt0) (trodAll_cons_mk (Below.trod laidOut (by kernel_rfl) (of_decide_eq_true (by kernel_rfl)) k1 bel lt1) (trodAll_cons_mk (Below.trod laidOut (by kernel_rfl) (of_decide_eq_true (by kernel_rfl)) k2 bel lt2) trodAll_mk0))), rfl, bel.frame _, fun h => by cases h⟩
theorem over : Rows.etherPadsRow.holds Try.pinned (OpenSpec.ofChange Rows.etherPadsSpec) :=
  OpenClaim.holds_of_wide 5 Try.f5 rfl rfl rfl rfl rfl rfl rfl ⟨rfl, rfl, rfl, rfl, rfl⟩ rfl rfl rfl rfl rfl (by kernel_rfl) Try.func5 (by kernel_rfl)
    (of_decide_eq_true (by kernel_rfl)) (by unfold Func.isWrapper; first | (rw [if_pos (by decide +kernel)]; kernel_rfl) | (rw [if_neg (by decide +kernel)]; exact ⟨rfl, rfl⟩))
    (fun os started H enc _ => lifted os started H enc)
/-- The statement. -/
theorem proved : Rows.EtherPadsSaid := over
end Go.Proofs.Ytkalbchcgdnciaa.etherPads
