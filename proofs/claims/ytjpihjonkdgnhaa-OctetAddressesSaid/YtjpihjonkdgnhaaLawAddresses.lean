/-
  For every address and every text octet.Text, octet.Kind and octet.Parse answer as the document's definitions do (conciergelaw01.OctetAddresses answers true). No condition.
-/
import Derived.Test.YtjpihjonkdgnhaaOctO
import Derived.ProofKit
import Derived.OpenShut
import Derived.ShutString
import Derived.ChangeOld
namespace Go.Proofs.Ytjpihjonkdgnhaa.octetAddresses
open Go.ChangeShapes Go.WideShapes Go.ChangeAt Go.RowKit
open Go.ChangeMaps (open_string shut_string)
set_option linter.unusedVariables false
set_option linter.unusedSimpArgs false

set_option maxHeartbeats 800000 in
theorem walk (W : World) (m0 m1 m2 m3 m4 m5 : UInt8) (s : ByteArray) (hs : s.size ≤ maxLen) :
    Calls Try.prog 5 #[.agg #[.int .u8 (m0.toNat : Int), .int .u8 (m1.toNat : Int), .int .u8 (m2.toNat : Int), .int .u8 (m3.toNat : Int), .int .u8 (m4.toNat : Int), .int .u8 (m5.toNat : Int)], .string s] W fun e w' => e = .returned (.bool true) ∧ Below W.heap.size W w' := by
  obtain ⟨i0, hi, hz0, hz1, hz2⟩ := info_parts info5
  obtain ⟨k, hk⟩ : ∃ k, k = min s.size 100 := ⟨_, rfl⟩
  obtain ⟨t, ht⟩ : ∃ t, s.extract 0 k = t := ⟨_, rfl⟩
  have hts : t.size ≤ 1000000 := by rw [← ht, ByteArray.size_extract]; omega
  have hif : (if (100 : Int) < (s.size : Int) then (100 : Int) else (s.size : Int)) = (k : Int) := by split <;> omega
  have hks : (k : Int) ≤ (s.size : Int) := by omega
  have qe := fun w => run_eql_array (P := Try.prog) Try.underlying38 Try.underlying5 hi hz1 [(parseB t 0 : Int), parseB t 1, parseB t 2, parseB t 3, parseB t 4, parseB t 5] [(parseB t 0 : Int), parseB t 1, parseB t 2, parseB t 3, parseB t 4, parseB t 5] rfl rfl w
  simp only [List.map_cons, List.map_nil, decide_true] at qe
  have HQ := Lib.hid qe
  clear hk hs hi hz0 hz1 hz2 qe
  go_enter Try.func5, Try.ntmps5
  go_wp2_with fail
  clear hif hks ht
  have HM := Lib.hid (heap_alloc_new W (.cells #[.int .u8 (m0.toNat : Int), .int .u8 (m1.toNat : Int), .int .u8 (m2.toNat : Int), .int .u8 (m3.toNat : Int), .int .u8 (m4.toNat : Int), .int .u8 (m5.toNat : Int)] 38))
  go_wp2_with fail
  refine (parse_any _ t hts).mono ?_
  rintro e w1 ⟨rfl, hb1⟩
  have HM1 := Lib.hid (heap_gr hb1 HM.out)
  have HX := Lib.hid (heap_alloc_new w1 (.cells #[.int .u8 (parseB t 0 : Nat), .int .u8 (parseB t 1 : Nat), .int .u8 (parseB t 2 : Nat), .int .u8 (parseB t 3 : Nat), .int .u8 (parseB t 4 : Nat), .int .u8 (parseB t 5 : Nat)] 38))
  go_wp2_with fail
  refine (rparse_any _ t hts).mono ?_
  rintro e w2 ⟨rfl, hb2⟩
  have HM2 := Lib.hid (heap_gr hb2 (heap_gr ((Gr.refl w1).alloc (.cells #[.int .u8 (parseB t 0 : Nat), .int .u8 (parseB t 1 : Nat), .int .u8 (parseB t 2 : Nat), .int .u8 (parseB t 3 : Nat), .int .u8 (parseB t 4 : Nat), .int .u8 (parseB t 5 : Nat)] 38)) HM1.out))
  have HX2 := Lib.hid (heap_gr hb2 HX.out)
  go_wp2
  have hM := heap_gr (Gr.drew _) (heap_gr ((Gr.refl w2).alloc (.cells #[.int .u8 (parseB t 0 : Nat), .int .u8 (parseB t 1 : Nat), .int .u8 (parseB t 2 : Nat), .int .u8 (parseB t 3 : Nat), .int .u8 (parseB t 4 : Nat), .int .u8 (parseB t 5 : Nat)] 38)) HM2.out)
  have hX := heap_gr (Gr.drew _) (heap_gr ((Gr.refl w2).alloc (.cells #[.int .u8 (parseB t 0 : Nat), .int .u8 (parseB t 1 : Nat), .int .u8 (parseB t 2 : Nat), .int .u8 (parseB t 3 : Nat), .int .u8 (parseB t 4 : Nat), .int .u8 (parseB t 5 : Nat)] 38)) HX2.out)
  have hY := heap_gr (Gr.drew _) (heap_alloc_new w2 (.cells #[.int .u8 (parseB t 0 : Nat), .int .u8 (parseB t 1 : Nat), .int .u8 (parseB t 2 : Nat), .int .u8 (parseB t 3 : Nat), .int .u8 (parseB t 4 : Nat), .int .u8 (parseB t 5 : Nat)] 38))
  have hq := HQ.out
  refine wp_region_G Gr (by kernel_rfl) ?_
  -- 0: slot 24
  refine wpG_take preGr (i := 0) (v := ?_) (some 24) rfl (by kernel_rfl) (by kernel_rfl) (by kernel_rfl) (fun _ _ _ h => h) (by rfl) (fun w' hw' => ?_) rfl ?_
  rotate_left
  · refine Eq.trans (load_row_run (P := Try.prog) 38 (.tmp 2) ?_ _ ?_ 38 _ (0, 0) _ (heap_gr hw' hM) Try.underlying38 rfl (by kernel_rfl)) ?_
    · rfl
    · rfl
    · with_reducible rfl
  simp only [Act.put, List.setIfInBounds_toArray, List.set_cons_zero, List.set_cons_succ]
  -- 2: slot 26
  refine wpG_take preGr (i := 2) (v := ?_) (some 26) rfl (by kernel_rfl) (by kernel_rfl) (by kernel_rfl) (fun _ _ _ h => h) (by rfl) (fun w' hw' => ?_) rfl ?_
  rotate_left
  · refine Eq.trans (load_row_run (P := Try.prog) 38 (.tmp 2) ?_ _ ?_ 38 _ (0, 0) _ (heap_gr hw' hM) Try.underlying38 rfl (by kernel_rfl)) ?_
    · rfl
    · rfl
    · with_reducible rfl
  simp only [Act.put, List.setIfInBounds_toArray, List.set_cons_zero, List.set_cons_succ]
  refine wpG_one (i := 1) rfl (by kernel_rfl) (by rfl) ?_
  go_simp
  refine (text_any _ m0 m1 m2 m3 m4 m5).mono ?_
  rintro e w3 ⟨rfl, hb3⟩
  replace hM := heap_gr hb3 hM
  replace hX := heap_gr hb3 hX
  replace hY := heap_gr hb3 hY
  refine ⟨hb3, ?_⟩
  try simp only [Act.put, List.setIfInBounds_toArray, List.set_cons_zero, List.set_cons_succ]
  refine wpG_one (i := 3) rfl (by kernel_rfl) (by rfl) ?_
  go_simp
  refine (rtext_any _ m0 m1 m2 m3 m4 m5).mono ?_
  rintro e w4 ⟨rfl, hb4⟩
  replace hM := heap_gr hb4 hM
  replace hX := heap_gr hb4 hX
  replace hY := heap_gr hb4 hY
  refine ⟨hb4, ?_⟩
  try simp only [Act.put, List.setIfInBounds_toArray, List.set_cons_zero, List.set_cons_succ]
  -- 4: slot 28
  refine wpG_take preGr (i := 4) (v := ?_) (some 28) rfl (by kernel_rfl) (by kernel_rfl) (by kernel_rfl) (fun _ _ _ h => h) (by rfl) (fun w' hw' => ?_) rfl ?_
  rotate_left
  · go_simp
    with_reducible rfl
  simp only [Act.put, List.setIfInBounds_toArray, List.set_cons_zero, List.set_cons_succ]
  -- 5: slot 29
  refine wpG_take preGr (i := 5) (v := ?_) (some 29) rfl (by kernel_rfl) (by kernel_rfl) (by kernel_rfl) (fun _ _ _ h => h) (by rfl) (fun w' hw' => ?_) rfl ?_
  rotate_left
  · go_simp
    with_reducible rfl
  simp only [Act.put, List.setIfInBounds_toArray, List.set_cons_zero, List.set_cons_succ]
  -- 6: slot 30
  refine wpG_take preGr (i := 6) (v := ?_) (some 30) rfl (by kernel_rfl) (by kernel_rfl) (by kernel_rfl) (fun _ _ _ h => h) (by rfl) (fun w' hw' => ?_) rfl ?_
  rotate_left
  · refine Eq.trans (load_row_run (P := Try.prog) 38 (.tmp 2) ?_ _ ?_ 38 _ (0, 0) _ (heap_gr hw' hM) Try.underlying38 rfl (by kernel_rfl)) ?_
    · rfl
    · rfl
    · with_reducible rfl
  simp only [Act.put, List.setIfInBounds_toArray, List.set_cons_zero, List.set_cons_succ]
  -- 8: slot 32
  refine wpG_take preGr (i := 8) (v := ?_) (some 32) rfl (by kernel_rfl) (by kernel_rfl) (by kernel_rfl) (fun _ _ _ h => h) (by rfl) (fun w' hw' => ?_) rfl ?_
  rotate_left
  · refine Eq.trans (load_row_run (P := Try.prog) 38 (.tmp 2) ?_ _ ?_ 38 _ (0, 0) _ (heap_gr hw' hM) Try.underlying38 rfl (by kernel_rfl)) ?_
    · rfl
    · rfl
    · with_reducible rfl
  simp only [Act.put, List.setIfInBounds_toArray, List.set_cons_zero, List.set_cons_succ]
  refine wpG_one (i := 7) rfl (by kernel_rfl) (by rfl) ?_
  go_simp
  refine (kind_any _ m0 m1 m2 m3 m4 m5).mono ?_
  rintro e w5 ⟨rfl, hb5⟩
  replace hM := heap_gr hb5 hM
  replace hX := heap_gr hb5 hX
  replace hY := heap_gr hb5 hY
  refine ⟨hb5, ?_⟩
  try simp only [Act.put, List.setIfInBounds_toArray, List.set_cons_zero, List.set_cons_succ]
  refine wpG_one (i := 9) rfl (by kernel_rfl) (by rfl) ?_
  go_simp
  refine (rkind_any _ m0 m1 m2 m3 m4 m5).mono ?_
  rintro e w6 ⟨rfl, hb6⟩
  replace hM := heap_gr hb6 hM
  replace hX := heap_gr hb6 hX
  replace hY := heap_gr hb6 hY
  refine ⟨hb6, ?_⟩
  try simp only [Act.put, List.setIfInBounds_toArray, List.set_cons_zero, List.set_cons_succ]
  -- 10: slot 34
  refine wpG_take preGr (i := 10) (v := ?_) (some 34) rfl (by kernel_rfl) (by kernel_rfl) (by kernel_rfl) (fun _ _ _ h => h) (by rfl) (fun w' hw' => ?_) rfl ?_
  rotate_left
  · go_simp
    with_reducible rfl
  simp only [Act.put, List.setIfInBounds_toArray, List.set_cons_zero, List.set_cons_succ]
  -- 11: slot 35
  refine wpG_take preGr (i := 11) (v := ?_) (some 35) rfl (by kernel_rfl) (by kernel_rfl) (by kernel_rfl) (fun _ _ _ h => h) (by rfl) (fun w' hw' => ?_) rfl ?_
  rotate_left
  · go_simp
    with_reducible rfl
  simp only [Act.put, List.setIfInBounds_toArray, List.set_cons_zero, List.set_cons_succ]
  -- 12: slot 36
  refine wpG_take preGr (i := 12) (v := ?_) (some 36) rfl (by kernel_rfl) (by kernel_rfl) (by kernel_rfl) (fun _ _ _ h => h) (by rfl) (fun w' hw' => ?_) rfl ?_
  rotate_left
  · go_simp
    with_reducible rfl
  simp only [Act.put, List.setIfInBounds_toArray, List.set_cons_zero, List.set_cons_succ]
  -- 13: slot 37
  refine wpG_take preGr (i := 13) (v := ?_) (some 37) rfl (by kernel_rfl) (by kernel_rfl) (by kernel_rfl) (fun _ _ _ h => h) (by rfl) (fun w' hw' => ?_) rfl ?_
  rotate_left
  · refine Eq.trans (load_row_run (P := Try.prog) 38 (.tmp 5) ?_ _ ?_ 38 _ (0, 0) _ (heap_gr hw' hX) Try.underlying38 rfl (by kernel_rfl)) ?_
    · rfl
    · rfl
    · with_reducible rfl
  simp only [Act.put, List.setIfInBounds_toArray, List.set_cons_zero, List.set_cons_succ]
  -- 14: slot 38
  refine wpG_take preGr (i := 14) (v := ?_) (some 38) rfl (by kernel_rfl) (by kernel_rfl) (by kernel_rfl) (fun _ _ _ h => h) (by rfl) (fun w' hw' => ?_) rfl ?_
  rotate_left
  · refine Eq.trans (load_row_run (P := Try.prog) 38 (.tmp 7) ?_ _ ?_ 38 _ (0, 0) _ (heap_gr hw' hY) Try.underlying38 rfl (by kernel_rfl)) ?_
    · rfl
    · rfl
    · with_reducible rfl
  simp only [Act.put, List.setIfInBounds_toArray, List.set_cons_zero, List.set_cons_succ]
  -- 15: slot 39
  refine wpG_take preGr (i := 15) (v := ?_) (some 39) rfl (by kernel_rfl) (by kernel_rfl) (by kernel_rfl) (fun _ _ _ h => h) (by rfl) (fun w' hw' => ?_) rfl ?_
  rotate_left
  · go_simp
    with_reducible rfl
  simp only [Act.put, List.setIfInBounds_toArray, List.set_cons_zero, List.set_cons_succ]
  -- 16: slot 40
  refine wpG_take preGr (i := 16) (v := ?_) (some 40) rfl (by kernel_rfl) (by kernel_rfl) (by kernel_rfl) (fun _ _ _ h => h) (by rfl) (fun w' hw' => ?_) rfl ?_
  rotate_left
  · go_simp
    with_reducible rfl
  simp only [Act.put, List.setIfInBounds_toArray, List.set_cons_zero, List.set_cons_succ]
  -- 17: slot 41
  refine wpG_take preGr (i := 17) (v := ?_) (some 41) rfl (by kernel_rfl) (by kernel_rfl) (by kernel_rfl) (fun _ _ _ h => h) (by rfl) (fun w' hw' => ?_) rfl ?_
  rotate_left
  · go_simp
    with_reducible rfl
  simp only [Act.put, List.setIfInBounds_toArray, List.set_cons_zero, List.set_cons_succ]
  -- 18: slot 42
  refine wpG_take preGr (i := 18) (v := ?_) (some 42) rfl (by kernel_rfl) (by kernel_rfl) (by kernel_rfl) (fun _ _ _ h => h) (by rfl) (fun w' hw' => ?_) rfl ?_
  rotate_left
  · go_simp
    with_reducible rfl
  simp only [Act.put, List.setIfInBounds_toArray, List.set_cons_zero, List.set_cons_succ]
  -- 19: slot 43
  refine wpG_take preGr (i := 19) (v := ?_) (some 43) rfl (by kernel_rfl) (by kernel_rfl) (by kernel_rfl) (fun _ _ _ h => h) (by rfl) (fun w' hw' => ?_) rfl ?_
  rotate_left
  · go_simp
    with_reducible rfl
  simp only [Act.put, List.setIfInBounds_toArray, List.set_cons_zero, List.set_cons_succ]
  -- 20: slot 44
  refine wpG_take preGr (i := 20) (v := ?_) (some 44) rfl (by kernel_rfl) (by kernel_rfl) (by kernel_rfl) (fun _ _ _ h => h) (by rfl) (fun w' hw' => ?_) rfl ?_
  rotate_left
  · go_simp
    with_reducible rfl
  simp only [Act.put, List.setIfInBounds_toArray, List.set_cons_zero, List.set_cons_succ]
  -- 21: slot 45
  refine wpG_take preGr (i := 21) (v := ?_) (some 45) rfl (by kernel_rfl) (by kernel_rfl) (by kernel_rfl) (fun _ _ _ h => h) (by rfl) (fun w' hw' => ?_) rfl ?_
  rotate_left
  · go_simp
    with_reducible rfl
  simp only [Act.put, List.setIfInBounds_toArray, List.set_cons_zero, List.set_cons_succ]
  -- 22: slot 46
  refine wpG_take preGr (i := 22) (v := ?_) (some 46) rfl (by kernel_rfl) (by kernel_rfl) (by kernel_rfl) (fun _ _ _ h => h) (by rfl) (fun w' hw' => ?_) rfl ?_
  rotate_left
  · go_simp
    with_reducible rfl
  simp only [Act.put, List.setIfInBounds_toArray, List.set_cons_zero, List.set_cons_succ]
  refine wpG_one (i := 23) rfl (by kernel_rfl) (by rfl) ?_
  go_simp
  refine (awake_any _).mono ?_
  rintro e w7 ⟨rfl, hb7⟩
  replace hM := heap_gr hb7 hM
  replace hX := heap_gr hb7 hX
  replace hY := heap_gr hb7 hY
  refine ⟨hb7, ?_⟩
  try simp only [Act.put, List.setIfInBounds_toArray, List.set_cons_zero, List.set_cons_succ]
  -- 24: slot 48
  refine wpG_take preGr (i := 24) (v := ?_) (some 48) rfl (by kernel_rfl) (by kernel_rfl) (by kernel_rfl) (fun _ _ _ h => h) (by rfl) (fun w' hw' => ?_) rfl ?_
  rotate_left
  · go_simp
    with_reducible rfl
  simp only [Act.put, List.setIfInBounds_toArray, List.set_cons_zero, List.set_cons_succ]
  -- 25: slot 4
  refine wpG_take preGr (i := 25) (v := ?_) (some 4) rfl (by kernel_rfl) (by kernel_rfl) (by kernel_rfl) (fun _ _ _ h => h) (by rfl) (fun w' hw' => ?_) rfl ?_
  rotate_left
  · go_simp
    with_reducible rfl
  simp only [Act.put, List.setIfInBounds_toArray, List.set_cons_zero, List.set_cons_succ]
  refine wpG_done (by kernel_rfl) ?_ _
  go_wp2
  go_ret
  exact ⟨rfl, Gr.trans ((Gr.refl W).alloc _) (Gr.trans hb1 (Gr.trans ((Gr.refl w1).alloc _) (Gr.trans hb2 (Gr.trans ((Gr.refl w2).alloc _) (Gr.trans (Gr.drew _) (Gr.trans hb3 (Gr.trans hb4 (Gr.trans hb5 (Gr.trans hb6 hb7)))))))))⟩

theorem own : ownKnob Try.prog.godebug = none := by kernel_rfl
theorem laidOut : laidOutB Try.prog = true := by kernel_rfl
set_option maxRecDepth 100000 in
theorem lifted (os : Os) (started : os.Started) (H : Type) (enc : TypeId × Value → H) :
    ReturnsInHanded {} Try.checked os 5 .any (Rows.octetAddressesSpec.pre6 enc Try.prog Try.f5 Rows.octetAddressesRow.domain false) (Rows.octetAddressesSpec.post enc Try.prog Try.f5 false true false false) := by
  refine returnsInHanded_of_change (C := Try.checked) own started (by kernel_rfl) Try.func5
    (ChangeSpec.witness6 (enc := enc) (C := Try.checked) false ⟨#[], #[.agg #[.int .u8 0, .int .u8 0, .int .u8 0, .int .u8 0, .int .u8 0, .int .u8 0], .string ⟨#[]⟩], []⟩ 8 (by kernel_rfl) (by kernel_rfl) (by kernel_rfl) (by kernel_rfl)) ?_
  intro W base args ds gs before hval0 hW hcnd _
  have hval : ∀ (j : Nat) t v, Try.f5.params[j]? = some t → args[j]? = some v → Value.okWide Try.prog W .any base t v := hval0
  have hW' := hW
  obtain ⟨p, q, hA0, hV, rfl, hfz, hnd⟩ := hW
  have hA : DataW.TrodAll enc Try.prog W 0 (fun _ => true) true Try.f5.params.toList args.toList ds p := hA0
  rw [Try.params5] at hA hval
  obtain ⟨v0, vs0, d0, ds0, p0, q0, hargs, rfl, rfl, h0, r0⟩ := trodAll_cons hA
  obtain ⟨v1, vs1, d1, ds1, p1, q1, rfl, rfl, rfl, h1, r1⟩ := trodAll_cons r0
  obtain ⟨rfl, rfl, rfl⟩ := trodAll_nil r1
  obtain rfl : args = #[v0, v1] := by cases args; simp_all
  obtain ⟨rfl, rfl⟩ := trodVars_none hV
  have k0 := h0
  have lt0 : ∀ x ∈ p0, x.block < W.heap.size := by obtain ⟨m, hm⟩ := k0; exact DataW.trod_lt m _ _ _ hm
  obtain ⟨m00, m01, m02, m03, m04, m05, rfl⟩ := open_mac Try.underlying38 Try.underlying5 (by kernel_rfl) (by kernel_rfl) (hval 0 38 v0 rfl rfl) h0
  have k1 := h1
  have lt1 : ∀ x ∈ p1, x.block < W.heap.size := by obtain ⟨m, hm⟩ := k1; exact DataW.trod_lt m _ _ _ hm
  obtain ⟨s1, rfl, rfl, rfl, hs1⟩ := open_string Try.underlying9 (hval 1 9 v1 rfl rfl) h1
  clear hA0 hval0
  refine (walk W m00 m01 m02 m03 m04 m05 s1 hs1).mono fun e W' ⟨he, bel⟩ => ?_
  subst he
  exact ⟨_, rfl, _, _, _, [], _, [], hW', trodAll_mk1 (shut_bool Try.underlying4 _), (trodAll_cons_mk (Below.trod laidOut (by kernel_rfl) (of_decide_eq_true (by kernel_rfl)) k0 bel lt0) (trodAll_cons_mk (Below.trod laidOut (by kernel_rfl) (of_decide_eq_true (by kernel_rfl)) k1 bel lt1) trodAll_mk0)), rfl, bel.frame _, fun h => by cases h⟩
theorem over : Rows.octetAddressesRow.holds Try.pinned (OpenSpec.ofChange Rows.octetAddressesSpec) :=
  OpenClaim.holds_of_wide 5 Try.f5 rfl rfl rfl rfl rfl rfl rfl ⟨rfl, rfl, rfl, rfl, rfl⟩ rfl rfl rfl rfl rfl (by kernel_rfl) Try.func5 (by kernel_rfl)
    (of_decide_eq_true (by kernel_rfl)) (by unfold Func.isWrapper; first | (rw [if_pos (by decide +kernel)]; kernel_rfl) | (rw [if_neg (by decide +kernel)]; exact ⟨rfl, rfl⟩))
    (fun os started H enc _ => lifted os started H enc)
/-- The statement. -/
theorem proved : Rows.OctetAddressesSaid := over
end Go.Proofs.Ytjpihjonkdgnhaa.octetAddresses
