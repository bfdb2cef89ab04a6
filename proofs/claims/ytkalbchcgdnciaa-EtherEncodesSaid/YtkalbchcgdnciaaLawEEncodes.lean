/-
  For every frame (of its payload the first 1600 bytes) ether.Encode and ether.Check tell what the document tells (conciergelaw04.EtherEncodes answers true). No conditions.
-/
import Derived.Test.YtkalbchcgdnciaaEthJ
import Derived.Test.YtkalbchcgdnciaaEthC
import Derived.ProofKit
import Derived.OpenShut
import Derived.ChangeOld
namespace Go.Proofs.Ytkalbchcgdnciaa.etherEncodes
open Go.ChangeShapes Go.WideShapes Go.ChangeAt Go.RowKit
set_option linter.unusedVariables false
set_option linter.unusedSimpArgs false

set_option maxRecDepth 20000 in
set_option maxHeartbeats 4000000 in
theorem walk (W : World) (D S : List UInt8) (t : Int) (a0 : Option Addr) (n0 c0 : Nat) (l0 : List UInt8) (hD : D.length = 6) (hS : S.length = 6) (wf : (Lit.int .i64 t).wf = true) (hn0 : l0.length = n0) (b0 : Bs W (.slice a0 n0 c0) l0) :
    Calls Try.prog 3 #[.agg (ethL D S t (.slice a0 n0 c0)).toArray] W fun e w' => e = .returned (.bool true) ∧ Below W.heap.size W w' := by
  obtain ⟨m, x, hm, hx, u0, hc0⟩ := cut_in hn0 b0
  have HC0 := Lib.hid hc0
  have HX := Lib.hid hx
  have HU := Lib.hid u0
  have HD := Lib.hid hD
  have HS := Lib.hid hS
  have AW := Lib.hid awake_any
  have h13 := ethL_13 t (.slice a0 n0 c0) hD hS
  have HL0 : Hid (13 < (ethL D S t (.slice a0 n0 c0)).length) := by show _ < _; rw [ethL_length _ _ hD hS]; decide
  have HG0 : Hid ((W.alloc (.cells (ethL D S t (.slice a0 n0 c0)).toArray 26)).heap[W.heap.size]? = some (.cells (ethL D S t (.slice a0 n0 c0)).toArray 26 (0, 0))) := heap_alloc_last _ _
  have HB0 : Hid (Below W.heap.size W (W.alloc (.cells (ethL D S t (.slice a0 n0 c0)).toArray 26))) := (Below.refl _ _).alloc (Nat.le_refl _) _
  have F2 : Hid ((Try.prog.info? 24).map (·.size) = some 1) := by show _ = _; kernel_rfl
  clear hn0 b0 u0 hc0 hx hD hS wf
  go_enter Try.func3, Try.ntmps3
  go_wp2_with fail
  refine (HC0.out _).mono ?_
  rintro e w' ⟨rfl, rfl⟩
  go_wp2_with (with_reducible refine wpList_store_cell rfl 24 (.tmp 10) (.tmp 9) rfl W.heap.size 13 (.slice a0 m c0) rfl rfl 26 _ HG0.out F2.out HL0.out rfl ?_)
  intro w1 h1 ho1
  rw [ethL_set13 _ _ _ HD.out HS.out] at h1
  have HG1 := Lib.hid h1
  have HB1 := Lib.hid (ho1.below _ _ (Nat.le_refl _) HB0.out)
  have HSZ := Lib.hid (size26l t (.slice a0 m c0) HD.out HS.out)
  clear h1 ho1 h13
  go_wp2_with (with_reducible refine wpList_load_row rfl 26 (.tmp 1) rfl W.heap.size rfl 26 _ (0, 0) _ HG1.out Try.underlying26 rfl HSZ.out ?_)
  refine (encode_any D S t a0 m c0 x HD.out HS.out HX.out w1 (HU.out.below HB1.out)).mono ?_
  rintro e w2 ⟨v2, rfl, hown2, hb2⟩
  have HB2 := Lib.hid (HB1.out.trans (hb2.mono HB1.out.size))
  have HG2 := Lib.hid (heap_below HG1.out hb2)
  have HV2 := Lib.hid hown2.bs
  clear hown2 hb2
  go_wp2_with (with_reducible refine wpList_load_row rfl 26 (.tmp 1) rfl W.heap.size rfl 26 _ (0, 0) _ HG2.out Try.underlying26 rfl HSZ.out ?_)
  refine (rencode_any D S t a0 m c0 x HD.out HS.out HX.out w2 (HU.out.below HB2.out)).mono ?_
  rintro e w3 ⟨v3, rfl, hown3, hb3⟩
  have HB3 := Lib.hid (HB2.out.trans (hb3.mono HB2.out.size))
  have HG3 := Lib.hid (heap_below HG2.out hb3)
  have HV3 := Lib.hid (HV2.out.below hb3)
  have HW3 := Lib.hid hown3.bs
  obtain ⟨y, hy⟩ : ∃ y, y = encL D S t x := ⟨_, rfl⟩
  rw [← hy] at HV3 HW3
  obtain ⟨k, hk⟩ : ∃ k, k = chk t x.length := ⟨_, rfl⟩
  rw [← hk]
  have HK : Hid (k = chk t m) := by show _ = _; rw [hk, HX.out]
  clear hown3 hb3 hy hk
  go_wp2_with fail
  refine wp_region_G 21 Gr (by kernel_rfl) ?_
  -- 0: slot 21
  refine wpG_take preGr (i := 0) (v := ?_) (by kernel_rfl) (some 21) (by kernel_rfl) rfl (by kernel_rfl) (by kernel_rfl) (by kernel_rfl) (fun _ _ _ h => h) (by rfl) (fun w' hw' => ?_) rfl ?_
  rotate_left
  · have s3 := run_string_of (P := Try.prog) 24 9 5 Try.underlying24 Try.underlying5 Try.underlying9 (HV3.out.below ((Gr.drew w3).trans hw'))
    have r3 := run_string_of (P := Try.prog) 24 9 5 Try.underlying24 Try.underlying5 Try.underlying9 (HW3.out.below ((Gr.drew w3).trans hw'))
    go_simp
    with_reducible rfl
  simp only [Act.put, List.setIfInBounds_toArray, List.set_cons_zero, List.set_cons_succ]
  -- 1: slot 22
  refine wpG_take preGr (i := 1) (v := ?_) (by kernel_rfl) (some 22) (by kernel_rfl) rfl (by kernel_rfl) (by kernel_rfl) (by kernel_rfl) (fun _ _ _ h => h) (by rfl) (fun w' hw' => ?_) rfl ?_
  rotate_left
  · have s3 := run_string_of (P := Try.prog) 24 9 5 Try.underlying24 Try.underlying5 Try.underlying9 (HV3.out.below ((Gr.drew w3).trans hw'))
    have r3 := run_string_of (P := Try.prog) 24 9 5 Try.underlying24 Try.underlying5 Try.underlying9 (HW3.out.below ((Gr.drew w3).trans hw'))
    go_simp
    with_reducible rfl
  simp only [Act.put, List.setIfInBounds_toArray, List.set_cons_zero, List.set_cons_succ]
  -- 2: slot 23
  refine wpG_take preGr (i := 2) (v := ?_) (by kernel_rfl) (some 23) (by kernel_rfl) rfl (by kernel_rfl) (by kernel_rfl) (by kernel_rfl) (fun _ _ _ h => h) (by rfl) (fun w' hw' => ?_) rfl ?_
  rotate_left
  · have s3 := run_string_of (P := Try.prog) 24 9 5 Try.underlying24 Try.underlying5 Try.underlying9 (HV3.out.below ((Gr.drew w3).trans hw'))
    have r3 := run_string_of (P := Try.prog) 24 9 5 Try.underlying24 Try.underlying5 Try.underlying9 (HW3.out.below ((Gr.drew w3).trans hw'))
    go_simp
    with_reducible rfl
  simp only [Act.put, List.setIfInBounds_toArray, List.set_cons_zero, List.set_cons_succ]
  -- 3: slot 24
  refine wpG_take preGr (i := 3) (v := ?_) (by kernel_rfl) (some 24) (by kernel_rfl) rfl (by kernel_rfl) (by kernel_rfl) (by kernel_rfl) (fun _ _ _ h => h) (by rfl) (fun w' hw' => ?_) rfl ?_
  rotate_left
  · have s3 := run_string_of (P := Try.prog) 24 9 5 Try.underlying24 Try.underlying5 Try.underlying9 (HV3.out.below ((Gr.drew w3).trans hw'))
    have r3 := run_string_of (P := Try.prog) 24 9 5 Try.underlying24 Try.underlying5 Try.underlying9 (HW3.out.below ((Gr.drew w3).trans hw'))
    go_simp
    with_reducible rfl
  simp only [Act.put, List.setIfInBounds_toArray, List.set_cons_zero, List.set_cons_succ]
  -- 4: slot 25
  refine wpG_take preGr (i := 4) (v := ?_) (by kernel_rfl) (some 25) (by kernel_rfl) rfl (by kernel_rfl) (by kernel_rfl) (by kernel_rfl) (fun _ _ _ h => h) (by rfl) (fun w' hw' => ?_) rfl ?_
  rotate_left
  · have s3 := run_string_of (P := Try.prog) 24 9 5 Try.underlying24 Try.underlying5 Try.underlying9 (HV3.out.below ((Gr.drew w3).trans hw'))
    have r3 := run_string_of (P := Try.prog) 24 9 5 Try.underlying24 Try.underlying5 Try.underlying9 (HW3.out.below ((Gr.drew w3).trans hw'))
    go_simp
    with_reducible rfl
  simp only [Act.put, List.setIfInBounds_toArray, List.set_cons_zero, List.set_cons_succ]
  -- 5: slot 26
  refine wpG_take preGr (i := 5) (v := ?_) (by kernel_rfl) (some 26) (by kernel_rfl) rfl (by kernel_rfl) (by kernel_rfl) (by kernel_rfl) (fun _ _ _ h => h) (by rfl) (fun w' hw' => ?_) rfl ?_
  rotate_left
  · have s3 := run_string_of (P := Try.prog) 24 9 5 Try.underlying24 Try.underlying5 Try.underlying9 (HV3.out.below ((Gr.drew w3).trans hw'))
    have r3 := run_string_of (P := Try.prog) 24 9 5 Try.underlying24 Try.underlying5 Try.underlying9 (HW3.out.below ((Gr.drew w3).trans hw'))
    go_simp
    with_reducible rfl
  simp only [Act.put, List.setIfInBounds_toArray, List.set_cons_zero, List.set_cons_succ]
  -- 6: slot 27
  refine wpG_take preGr (i := 6) (v := ?_) (by kernel_rfl) (some 27) (by kernel_rfl) rfl (by kernel_rfl) (by kernel_rfl) (by kernel_rfl) (fun _ _ _ h => h) (by rfl) (fun w' hw' => ?_) rfl ?_
  rotate_left
  · go_simp
    with_reducible rfl
  simp only [Act.put, List.setIfInBounds_toArray, List.set_cons_zero, List.set_cons_succ]
  -- 7: slot 28
  refine wpG_take preGr (i := 7) (v := ?_) (by kernel_rfl) (some 28) (by kernel_rfl) rfl (by kernel_rfl) (by kernel_rfl) (by kernel_rfl) (fun _ _ _ h => h) (by rfl) (fun w' hw' => ?_) rfl ?_
  rotate_left
  · go_simp
    with_reducible rfl
  simp only [Act.put, List.setIfInBounds_toArray, List.set_cons_zero, List.set_cons_succ]
  -- 8: slot 29
  refine wpG_take preGr (i := 8) (v := ?_) (by kernel_rfl) (some 29) (by kernel_rfl) rfl (by kernel_rfl) (by kernel_rfl) (by kernel_rfl) (fun _ _ _ h => h) (by rfl) (fun w' hw' => ?_) rfl ?_
  rotate_left
  · go_simp
    with_reducible rfl
  simp only [Act.put, List.setIfInBounds_toArray, List.set_cons_zero, List.set_cons_succ]
  -- 9: slot 30
  refine wpG_take preGr (i := 9) (v := ?_) (by kernel_rfl) (some 30) (by kernel_rfl) rfl (by kernel_rfl) (by kernel_rfl) (by kernel_rfl) (fun _ _ _ h => h) (by rfl) (fun w' hw' => ?_) rfl ?_
  rotate_left
  · go_simp
    with_reducible rfl
  simp only [Act.put, List.setIfInBounds_toArray, List.set_cons_zero, List.set_cons_succ]
  -- 10: slot 31
  refine wpG_take preGr (i := 10) (v := ?_) (by kernel_rfl) (some 31) (by kernel_rfl) rfl (by kernel_rfl) (by kernel_rfl) (by kernel_rfl) (fun _ _ _ h => h) (by rfl) (fun w' hw' => ?_) rfl ?_
  rotate_left
  · go_simp
    with_reducible rfl
  simp only [Act.put, List.setIfInBounds_toArray, List.set_cons_zero, List.set_cons_succ]
  -- 11: slot 32
  refine wpG_take preGr (i := 11) (v := ?_) (by kernel_rfl) (some 32) (by kernel_rfl) rfl (by kernel_rfl) (by kernel_rfl) (by kernel_rfl) (fun _ _ _ h => h) (by rfl) (fun w' hw' => ?_) rfl ?_
  rotate_left
  · refine Eq.trans (load_row_run (P := Try.prog) 26 (.tmp 1) ?_ W.heap.size ?_ 26 (ethL D S t (.slice a0 m c0)).toArray (0, 0) _ (heap_gr ((Gr.drew w3).trans hw') HG3.out) Try.underlying26 rfl HSZ.out) ?_
    · rfl
    · rfl
    · with_reducible rfl
  simp only [Act.put, List.setIfInBounds_toArray, List.set_cons_zero, List.set_cons_succ]
  -- 13: slot 34
  refine wpG_take preGr (i := 13) (v := ?_) (by kernel_rfl) (some 34) (by kernel_rfl) rfl (by kernel_rfl) (by kernel_rfl) (by kernel_rfl) (fun _ _ _ h => h) (by rfl) (fun w' hw' => ?_) rfl ?_
  rotate_left
  · refine Eq.trans (load_row_run (P := Try.prog) 26 (.tmp 1) ?_ W.heap.size ?_ 26 (ethL D S t (.slice a0 m c0)).toArray (0, 0) _ (heap_gr ((Gr.drew w3).trans hw') HG3.out) Try.underlying26 rfl HSZ.out) ?_
    · rfl
    · rfl
    · with_reducible rfl
  simp only [Act.put, List.setIfInBounds_toArray, List.set_cons_zero, List.set_cons_succ]
  refine wpG_one (i := 12) rfl (by kernel_rfl) (by rfl) ?_
  go_simp
  refine (check_any D S t a0 m c0 HD.out HS.out (by unfold maxLen; omega) _).mono ?_
  rintro e w4 ⟨rfl, hb4⟩
  rw [← HK.out]
  have GR4 : Hid (Gr w3 w4) := (Gr.drew w3).trans hb4
  refine ⟨hb4, ?_⟩
  clear hb4
  try simp only [Act.put, List.setIfInBounds_toArray, List.set_cons_zero, List.set_cons_succ]
  refine wpG_one (i := 14) rfl (by kernel_rfl) (by rfl) ?_
  go_simp
  refine (rcheck_any D S t a0 m c0 HD.out HS.out (by unfold maxLen; omega) _).mono ?_
  rintro e w5 ⟨rfl, hb5⟩
  rw [← HK.out]
  have GR5 : Hid (Gr w3 w5) := GR4.out.trans hb5
  refine ⟨hb5, ?_⟩
  clear hb5
  try simp only [Act.put, List.setIfInBounds_toArray, List.set_cons_zero, List.set_cons_succ]
  -- 15: slot 36
  refine wpG_take preGr (i := 15) (v := ?_) (by kernel_rfl) (some 36) (by kernel_rfl) rfl (by kernel_rfl) (by kernel_rfl) (by kernel_rfl) (fun _ _ _ h => h) (by rfl) (fun w' hw' => ?_) rfl ?_
  rotate_left
  · go_simp
    with_reducible rfl
  simp only [Act.put, List.setIfInBounds_toArray, List.set_cons_zero, List.set_cons_succ]
  -- 16: slot 37
  refine wpG_take preGr (i := 16) (v := ?_) (by kernel_rfl) (some 37) (by kernel_rfl) rfl (by kernel_rfl) (by kernel_rfl) (by kernel_rfl) (fun _ _ _ h => h) (by rfl) (fun w' hw' => ?_) rfl ?_
  rotate_left
  · go_simp
    with_reducible rfl
  simp only [Act.put, List.setIfInBounds_toArray, List.set_cons_zero, List.set_cons_succ]
  -- 17: slot 38
  refine wpG_take preGr (i := 17) (v := ?_) (by kernel_rfl) (some 38) (by kernel_rfl) rfl (by kernel_rfl) (by kernel_rfl) (by kernel_rfl) (fun _ _ _ h => h) (by rfl) (fun w' hw' => ?_) rfl ?_
  rotate_left
  · go_simp
    with_reducible rfl
  simp only [Act.put, List.setIfInBounds_toArray, List.set_cons_zero, List.set_cons_succ]
  refine wpG_one (i := 18) rfl (by kernel_rfl) (by rfl) ?_
  go_simp
  refine (AW.out w5).mono ?_
  rintro e w6 ⟨rfl, hb6⟩
  have GR6 : Hid (Gr w3 w6) := GR5.out.trans hb6
  refine ⟨hb6, ?_⟩
  clear hb6
  try simp only [Act.put, List.setIfInBounds_toArray, List.set_cons_zero, List.set_cons_succ]
  -- 19: slot 40
  refine wpG_take preGr (i := 19) (v := ?_) (by kernel_rfl) (some 40) (by kernel_rfl) rfl (by kernel_rfl) (by kernel_rfl) (by kernel_rfl) (fun _ _ _ h => h) (by rfl) (fun w' hw' => ?_) rfl ?_
  rotate_left
  · go_simp
    with_reducible rfl
  simp only [Act.put, List.setIfInBounds_toArray, List.set_cons_zero, List.set_cons_succ]
  -- 20: slot 2
  refine wpG_take preGr (i := 20) (v := ?_) (by kernel_rfl) (some 2) (by kernel_rfl) rfl (by kernel_rfl) (by kernel_rfl) (by kernel_rfl) (fun _ _ _ h => h) (by rfl) (fun w' hw' => ?_) rfl ?_
  rotate_left
  · go_simp
    with_reducible rfl
  simp only [Act.put, List.setIfInBounds_toArray, List.set_cons_zero, List.set_cons_succ]
  refine wpG_done (by kernel_rfl) ?_ _
  go_wp2
  go_ret
  exact ⟨rfl, HB3.out.trans (Below.mono GR6.out HB3.out.size)⟩

theorem own : ownKnob Try.prog.godebug = none := by kernel_rfl
theorem laidOut : laidOutB Try.prog = true := by kernel_rfl
set_option maxRecDepth 100000 in
theorem lifted (os : Os) (started : os.Started) (H : Type) (enc : TypeId × Value → H) :
    ReturnsInHanded {} Try.checked os 3 .any (Rows.etherEncodesSpec.pre6 enc Try.prog Try.f3 Rows.etherEncodesRow.domain false) (Rows.etherEncodesSpec.post enc Try.prog Try.f3 false true false false) := by
  refine returnsInHanded_of_change (C := Try.checked) own started (by kernel_rfl) Try.func3
    (ChangeSpec.witness6 (enc := enc) (C := Try.checked) false ⟨#[], #[.agg #[.int .u8 0, .int .u8 0, .int .u8 0, .int .u8 0, .int .u8 0, .int .u8 0, .int .u8 0, .int .u8 0, .int .u8 0, .int .u8 0, .int .u8 0, .int .u8 0, .int .i64 0, .slice none 0 0]], []⟩ 8 (by kernel_rfl) (by kernel_rfl) (by kernel_rfl) (by kernel_rfl)) ?_
  intro W base args ds gs before hval0 hW hcnd _
  have hval : ∀ (j : Nat) t v, Try.f3.params[j]? = some t → args[j]? = some v → Value.okWide Try.prog W .any base t v := hval0
  have hW' := hW
  obtain ⟨p, q, hA0, hV, rfl, hfz, hnd⟩ := hW
  have hA : DataW.TrodAll enc Try.prog W 0 (fun _ => true) true Try.f3.params.toList args.toList ds p := hA0
  rw [Try.params3] at hA hval
  obtain ⟨v0, vs0, d0, ds0, p0, q0, hargs, rfl, rfl, h0, r0⟩ := trodAll_cons hA
  obtain ⟨rfl, rfl, rfl⟩ := trodAll_nil r0
  obtain rfl : args = #[v0] := by cases args; simp_all
  obtain ⟨rfl, rfl⟩ := trodVars_none hV
  have k0 := h0
  have lt0 : ∀ x ∈ p0, x.block < W.heap.size := by obtain ⟨m, hm⟩ := k0; exact DataW.trod_lt m _ _ _ hm
  obtain ⟨D0, S0, ty0, a0, n0, c0, l0, rfl, hD0, hS0, wf0, hn0, b0⟩ := open_ether Try.underlying26 ⟨rfl, rfl, rfl, rfl⟩ Try.underlying23 Try.underlying23 Try.underlying3 Try.underlying24 Try.underlying5 ⟨by kernel_rfl, by kernel_rfl, by kernel_rfl, by kernel_rfl, by kernel_rfl, by kernel_rfl⟩ (hval 0 26 v0 rfl rfl) h0
  clear hA0 hval0
  refine (walk W D0 S0 ty0 a0 n0 c0 l0 hD0 hS0 wf0 hn0 b0).mono fun e W' ⟨he, bel⟩ => ?_
  subst he
  exact ⟨_, rfl, _, _, _, [], _, [], hW', trodAll_mk1 (shut_bool Try.underlying4 _), (trodAll_cons_mk (Below.trod laidOut (by kernel_rfl) (of_decide_eq_true (by kernel_rfl)) k0 bel lt0) trodAll_mk0), rfl, bel.frame _, fun h => by cases h⟩
theorem over : Rows.etherEncodesRow.holds Try.pinned (OpenSpec.ofChange Rows.etherEncodesSpec) :=
  OpenClaim.holds_of_wide 3 Try.f3 rfl rfl rfl rfl rfl rfl rfl ⟨rfl, rfl, rfl, rfl, rfl⟩ rfl rfl rfl rfl rfl (by kernel_rfl) Try.func3 (by kernel_rfl)
    (of_decide_eq_true (by kernel_rfl)) (by unfold Func.isWrapper; first | (rw [if_pos (by decide +kernel)]; kernel_rfl) | (rw [if_neg (by decide +kernel)]; exact ⟨rfl, rfl⟩))
    (fun os started H enc _ => lifted os started H enc)
/-- The statement. -/
theorem proved : Rows.EtherEncodesSaid := over
end Go.Proofs.Ytkalbchcgdnciaa.etherEncodes
