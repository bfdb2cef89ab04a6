/-
  The page's example.
-/
import Derived.Test.YtjlebchbfadkoaaDoorMacT
import Derived.Test.YtjlebchbfadkoaaDoorMacD
namespace Go.Proofs.YtjlebchbfadkoaaDoor
open Go.RowKit
set_option linter.unusedVariables false
set_option linter.unusedSimpArgs false

set_option maxHeartbeats 2000000 in
theorem awake_any (w : World) (hL : Laid w) :
    Calls Tryd.prog 15 #[] w fun e w' => e = .returned (.bool true) ∧ Below w.heap.size w w' := by
  have kc := fun (w : World) (C : Array Value) (n c : Nat) => Lib.run_convert_bytes_const (P := Tryd.prog) w 22 5 C n c Tryd.underlying22 Tryd.underlying5
  have kc2 : (convert 22 22 (.slice (some ⟨w.heap.size + 1, 0, none⟩) 28 28)).run Tryd.prog ((w.alloc (.cells #[.int .u8 74, .int .u8 101, .int .u8 102, .int .u8 101] 5 (4, 5))).alloc (.cells #[.int .u8 119, .int .u8 104, .int .u8 97, .int .u8 116, .int .u8 32, .int .u8 100, .int .u8 111, .int .u8 32, .int .u8 121, .int .u8 97, .int .u8 32, .int .u8 119, .int .u8 97, .int .u8 110, .int .u8 116, .int .u8 32, .int .u8 102, .int .u8 111, .int .u8 114, .int .u8 32, .int .u8 110, .int .u8 111, .int .u8 116, .int .u8 104, .int .u8 105, .int .u8 110, .int .u8 103, .int .u8 63] 5)) = .ok (.slice (some ⟨w.heap.size + 1, 0, none⟩) 28 28) ((w.alloc (.cells #[.int .u8 74, .int .u8 101, .int .u8 102, .int .u8 101] 5 (4, 5))).alloc (.cells #[.int .u8 119, .int .u8 104, .int .u8 97, .int .u8 116, .int .u8 32, .int .u8 100, .int .u8 111, .int .u8 32, .int .u8 121, .int .u8 97, .int .u8 32, .int .u8 119, .int .u8 97, .int .u8 110, .int .u8 116, .int .u8 32, .int .u8 102, .int .u8 111, .int .u8 114, .int .u8 32, .int .u8 110, .int .u8 111, .int .u8 116, .int .u8 104, .int .u8 105, .int .u8 110, .int .u8 103, .int .u8 63] 5 (28, 29))) := by
    have := kc (w.alloc (.cells #[.int .u8 74, .int .u8 101, .int .u8 102, .int .u8 101] 5 (4, 5))) #[.int .u8 119, .int .u8 104, .int .u8 97, .int .u8 116, .int .u8 32, .int .u8 100, .int .u8 111, .int .u8 32, .int .u8 121, .int .u8 97, .int .u8 32, .int .u8 119, .int .u8 97, .int .u8 110, .int .u8 116, .int .u8 32, .int .u8 102, .int .u8 111, .int .u8 114, .int .u8 32, .int .u8 110, .int .u8 111, .int .u8 116, .int .u8 104, .int .u8 105, .int .u8 110, .int .u8 103, .int .u8 63] 28 28
    rw [World.size_alloc] at this
    exact this
  have HL0 := Lib.hid hL
  have b1 : Below w.heap.size w (w.alloc (.cells #[.int .u8 74, .int .u8 101, .int .u8 102, .int .u8 101] 5 (4, 5))) := (Below.refl _ _).alloc (Nat.le_refl _) _
  have b2 : Below w.heap.size (w.alloc (.cells #[.int .u8 74, .int .u8 101, .int .u8 102, .int .u8 101] 5 (4, 5))) ((w.alloc (.cells #[.int .u8 74, .int .u8 101, .int .u8 102, .int .u8 101] 5 (4, 5))).alloc (.cells #[.int .u8 119, .int .u8 104, .int .u8 97, .int .u8 116, .int .u8 32, .int .u8 100, .int .u8 111, .int .u8 32, .int .u8 121, .int .u8 97, .int .u8 32, .int .u8 119, .int .u8 97, .int .u8 110, .int .u8 116, .int .u8 32, .int .u8 102, .int .u8 111, .int .u8 114, .int .u8 32, .int .u8 110, .int .u8 111, .int .u8 116, .int .u8 104, .int .u8 105, .int .u8 110, .int .u8 103, .int .u8 63] 5 (28, 29))) := (Below.refl _ _).alloc (by simp) _
  have V1 : Bs (w.alloc (.cells #[.int .u8 74, .int .u8 101, .int .u8 102, .int .u8 101] 5 (4, 5))) (.slice (some ⟨w.heap.size, 0, none⟩) 4 4) jefe := rd_newm w [.int .u8 74, .int .u8 101, .int .u8 102, .int .u8 101] 5 (4, 5) 4 1 rfl (by decide)
  have V2 : Bs ((w.alloc (.cells #[.int .u8 74, .int .u8 101, .int .u8 102, .int .u8 101] 5 (4, 5))).alloc (.cells #[.int .u8 119, .int .u8 104, .int .u8 97, .int .u8 116, .int .u8 32, .int .u8 100, .int .u8 111, .int .u8 32, .int .u8 121, .int .u8 97, .int .u8 32, .int .u8 119, .int .u8 97, .int .u8 110, .int .u8 116, .int .u8 32, .int .u8 102, .int .u8 111, .int .u8 114, .int .u8 32, .int .u8 110, .int .u8 111, .int .u8 116, .int .u8 104, .int .u8 105, .int .u8 110, .int .u8 103, .int .u8 63] 5 (28, 29))) (.slice (some ⟨w.heap.size + 1, 0, none⟩) 28 28) ask := by
    have := rd_newm (w.alloc (.cells #[.int .u8 74, .int .u8 101, .int .u8 102, .int .u8 101] 5 (4, 5))) [.int .u8 119, .int .u8 104, .int .u8 97, .int .u8 116, .int .u8 32, .int .u8 100, .int .u8 111, .int .u8 32, .int .u8 121, .int .u8 97, .int .u8 32, .int .u8 119, .int .u8 97, .int .u8 110, .int .u8 116, .int .u8 32, .int .u8 102, .int .u8 111, .int .u8 114, .int .u8 32, .int .u8 110, .int .u8 111, .int .u8 116, .int .u8 104, .int .u8 105, .int .u8 110, .int .u8 103, .int .u8 63] 5 (28, 29) 28 1 rfl (by decide)
    rw [World.size_alloc] at this
    exact this
  have HV1 : Hid (Bs ((w.alloc (.cells #[.int .u8 74, .int .u8 101, .int .u8 102, .int .u8 101] 5 (4, 5))).alloc (.cells #[.int .u8 119, .int .u8 104, .int .u8 97, .int .u8 116, .int .u8 32, .int .u8 100, .int .u8 111, .int .u8 32, .int .u8 121, .int .u8 97, .int .u8 32, .int .u8 119, .int .u8 97, .int .u8 110, .int .u8 116, .int .u8 32, .int .u8 102, .int .u8 111, .int .u8 114, .int .u8 32, .int .u8 110, .int .u8 111, .int .u8 116, .int .u8 104, .int .u8 105, .int .u8 110, .int .u8 103, .int .u8 63] 5 (28, 29))) (.slice (some ⟨w.heap.size, 0, none⟩) 4 4) jefe) := V1.below ((Below.refl _ _).alloc (Nat.le_refl _) _)
  have HV2 := Lib.hid V2
  have HB2 := Lib.hid (b1.trans b2)
  obtain ⟨y, hy⟩ : ∃ y, y = hmacL jefe ask := ⟨_, rfl⟩
  have HY := Lib.hid hy
  have HYL : Hid (y.length = 32) := by show _ = _; rw [hy]; exact hmacL_length _ _
  have HE : ∀ w, (binOp .eql 24 (.agg (y.map u8v).toArray) (.agg (y.map u8v).toArray)).run Tryd.prog w = .ok (.bool true) w := fun w => eql_bytes32 y HYL.out w
  clear hL b1 b2 V1 V2 hy
  go_enter Tryd.func15, Tryd.ntmps15
  go_wp2_with fail
  change Calls Tryd.prog 9 _ ((w.alloc (.cells #[.int .u8 74, .int .u8 101, .int .u8 102, .int .u8 101] 5 (4, 5))).alloc (.cells #[.int .u8 119, .int .u8 104, .int .u8 97, .int .u8 116, .int .u8 32, .int .u8 100, .int .u8 111, .int .u8 32, .int .u8 121, .int .u8 97, .int .u8 32, .int .u8 119, .int .u8 97, .int .u8 110, .int .u8 116, .int .u8 32, .int .u8 102, .int .u8 111, .int .u8 114, .int .u8 32, .int .u8 110, .int .u8 111, .int .u8 116, .int .u8 104, .int .u8 105, .int .u8 110, .int .u8 103, .int .u8 63] 5 (28, 29))) _
  generalize (w.alloc (.cells #[.int .u8 74, .int .u8 101, .int .u8 102, .int .u8 101] 5 (4, 5))).alloc (.cells #[.int .u8 119, .int .u8 104, .int .u8 97, .int .u8 116, .int .u8 32, .int .u8 100, .int .u8 111, .int .u8 32, .int .u8 121, .int .u8 97, .int .u8 32, .int .u8 119, .int .u8 97, .int .u8 110, .int .u8 116, .int .u8 32, .int .u8 102, .int .u8 111, .int .u8 114, .int .u8 32, .int .u8 110, .int .u8 111, .int .u8 116, .int .u8 104, .int .u8 105, .int .u8 110, .int .u8 103, .int .u8 63] 5 (28, 29)) = w2 at HV1 HV2 HB2 ⊢
  have HS := Lib.hid (hmac_any (some ⟨w.heap.size, 0, none⟩) 4 4 jefe rfl (some ⟨w.heap.size + 1, 0, none⟩) 28 28 ask rfl w2 HV1.out HV2.out (HL0.out.below HB2.out) (by decide) (by decide))
  rw [← HY.out] at HS
  refine HS.out.mono ?_
  rintro e w3 ⟨rfl, hb3⟩
  have HB3 := Lib.hid (HB2.out.trans (hb3.mono HB2.out.size))
  clear hb3 HV1 HV2 HS kc2
  go_wp2_with (with_reducible refine wpList_store_row rfl 24 (.tmp 1) (.tmp 7) rfl w3.heap.size _ rfl rfl 24 z32 (heap_alloc_last _ _) ?a1 ?a2 ?a3 ?_)
  case a1 => exact size32l _ HYL.out
  case a2 => show z32.size = (y.map u8v).length; rw [List.length_map, HYL.out]; rfl
  case a3 => exact all_oneCell_toArray (oneCell_u8 _)
  intro w4 h1 h2 _
  obtain ⟨g1, hg1⟩ : ∃ g, g = w3.heap.size := ⟨_, rfl⟩
  rw [← hg1] at h1 h2 ⊢
  have HG4 := Lib.hid h1
  have HB4 := Lib.hid (h2 _ _ (by have := HB3.out.size; omega) (HB3.out.alloc HB3.out.size _))
  have hg1w : w.heap.size ≤ g1 := by have := HB3.out.size; omega
  clear h1 h2 hg1
  go_wp2_with fail
  have b5 : Below w4.heap.size w4 (w4.alloc (.cells #[.int .u8 74, .int .u8 101, .int .u8 102, .int .u8 101] 5 (4, 5))) := (Below.refl _ _).alloc (Nat.le_refl _) _
  refine (mac_new_any (some ⟨w4.heap.size, 0, none⟩) 4 4 jefe rfl (w4.alloc (.cells #[.int .u8 74, .int .u8 101, .int .u8 102, .int .u8 101] 5 (4, 5))) (rd_newm w4 [.int .u8 74, .int .u8 101, .int .u8 102, .int .u8 101] 5 (4, 5) 4 1 rfl (by decide)) ((HL0.out.below HB4.out).below b5) (by decide)).mono ?_
  rintro e w5 ⟨m, gi, go, rfl, hm5, hgi5, hgo5, hh5, hb5⟩
  have H5 := Lib.hid hh5
  have hb5' := b5.trans (hb5.mono b5.size)
  have HB5 := Lib.hid (HB4.out.trans (hb5'.mono HB4.out.size))
  have HG5 := Lib.hid (heap_below HG4.out hb5')
  rw [World.size_alloc] at hm5 hgi5 hgo5
  have hW0 : 0 < w.heap.size := HL0.out.1
  have hs4 := HB4.out.size
  have hlt4 := (Array.getElem?_eq_some_iff.1 HG4.out).1
  clear hh5 hb5 b5 hb5'
  go_wp2_with fail
  have b6 : Below w5.heap.size w5 (w5.alloc (.cells #[.int .u8 119, .int .u8 104, .int .u8 97, .int .u8 116, .int .u8 32, .int .u8 100, .int .u8 111, .int .u8 32, .int .u8 121, .int .u8 97, .int .u8 32] 5 (11, 12))) := (Below.refl _ _).alloc (Nat.le_refl _) _
  have hlt5 := H5.out.2.1.lt
  refine (mac_add_any m gi go jefe [] (w5.alloc (.cells #[.int .u8 119, .int .u8 104, .int .u8 97, .int .u8 116, .int .u8 32, .int .u8 100, .int .u8 111, .int .u8 32, .int .u8 121, .int .u8 97, .int .u8 32] 5 (11, 12))) (H5.out.below b6) ((HL0.out.below HB5.out).below b6) (by omega) (some ⟨w5.heap.size, 0, none⟩) 11 11 ask1 rfl (rd_newm w5 [.int .u8 119, .int .u8 104, .int .u8 97, .int .u8 116, .int .u8 32, .int .u8 100, .int .u8 111, .int .u8 32, .int .u8 121, .int .u8 97, .int .u8 32] 5 (11, 12) 11 1 rfl (by decide)) (fun _ ad had => by obtain rfl := Option.some.inj had; show w5.heap.size ≠ gi; omega) (by decide)).mono ?_
  rintro e w6 ⟨rfl, hh6, ho6⟩
  have H6 : Hid (MacAt w6 m gi go jefe ask1) := hh6
  have HB6 := Lib.hid (ho6.below _ _ (by omega) (HB5.out.trans (b6.mono HB5.out.size)))
  have HG6 : Hid (w6.heap[g1]? = some (.cells (y.map u8v).toArray 24 (0, 0))) := by
    show _ = _
    have h := heap_below HG5.out b6
    rw [ho6.heap _ (Array.getElem?_eq_some_iff.1 h).1 (by omega)]; exact h
  clear hh6 ho6 b6 hlt5
  go_wp2_with fail
  have b7 : Below w6.heap.size w6 (w6.alloc (.cells #[.int .u8 119, .int .u8 97, .int .u8 110, .int .u8 116, .int .u8 32, .int .u8 102, .int .u8 111, .int .u8 114, .int .u8 32, .int .u8 110, .int .u8 111, .int .u8 116, .int .u8 104, .int .u8 105, .int .u8 110, .int .u8 103, .int .u8 63] 5 (17, 18))) := (Below.refl _ _).alloc (Nat.le_refl _) _
  have hlt6 := H6.out.2.1.lt
  refine (mac_add_any m gi go jefe ask1 (w6.alloc (.cells #[.int .u8 119, .int .u8 97, .int .u8 110, .int .u8 116, .int .u8 32, .int .u8 102, .int .u8 111, .int .u8 114, .int .u8 32, .int .u8 110, .int .u8 111, .int .u8 116, .int .u8 104, .int .u8 105, .int .u8 110, .int .u8 103, .int .u8 63] 5 (17, 18))) (H6.out.below b7) ((HL0.out.below HB6.out).below b7) (by omega) (some ⟨w6.heap.size, 0, none⟩) 17 17 ask2 rfl (rd_newm w6 [.int .u8 119, .int .u8 97, .int .u8 110, .int .u8 116, .int .u8 32, .int .u8 102, .int .u8 111, .int .u8 114, .int .u8 32, .int .u8 110, .int .u8 111, .int .u8 116, .int .u8 104, .int .u8 105, .int .u8 110, .int .u8 103, .int .u8 63] 5 (17, 18) 17 1 rfl (by decide)) (fun _ ad had => by obtain rfl := Option.some.inj had; show w6.heap.size ≠ gi; omega) (by decide)).mono ?_
  rintro e w7 ⟨rfl, hh7, ho7⟩
  have H7 : Hid (MacAt w7 m gi go jefe ask) := hh7
  have HB7 := Lib.hid (ho7.below _ _ (by omega) (HB6.out.trans (b7.mono HB6.out.size)))
  have HG7 : Hid (w7.heap[g1]? = some (.cells (y.map u8v).toArray 24 (0, 0))) := by
    show _ = _
    have h := heap_below HG6.out b7
    rw [ho7.heap _ (Array.getElem?_eq_some_iff.1 h).1 (by omega)]; exact h
  clear hh7 ho7 b7 hlt6
  have hrow : ∀ j, w7.cell? ⟨g1, j, none⟩ = (y.map u8v)[j]? := fun j => by rw [cell_of_row _ _ _ _ _ _ HG7.out]; simp
  have hyl : y = _ := HY.out.trans hmac_jefe
  have c0 : ∀ w', Gr w7.drew w' → w'.cell? ⟨g1, 0, none⟩ = some (.int .u8 91) := fun w' hg => cell_gr ((Gr.drew w7).trans hg) (by rw [hrow, hyl]; rfl)
  have c1 : ∀ w', Gr w7.drew w' → w'.cell? ⟨g1, 1, none⟩ = some (.int .u8 220) := fun w' hg => cell_gr ((Gr.drew w7).trans hg) (by rw [hrow, hyl]; rfl)
  have c31 : ∀ w', Gr w7.drew w' → w'.cell? ⟨g1, 31, none⟩ = some (.int .u8 67) := fun w' hg => cell_gr ((Gr.drew w7).trans hg) (by rw [hrow, hyl]; rfl)
  have HR : Hid (∀ w', Gr w7.drew w' → w'.rangeAt g1 0 (y.map u8v)) := fun w' hg => range_of_row (heap_gr ((Gr.drew w7).trans hg) HG7.out)
  have HSZ : Hid ((Tryd.prog.info? 24).map (·.size) = some (y.map u8v).length) := by
    show _ = _
    rw [List.length_map, HYL.out]; exact size32b
  have HS := Lib.hid (mac_sum_any m gi go jefe ask w7.drew (H7.out.below (Gr.drew w7)) ((HL0.out.below HB7.out).below (Gr.drew w7)) (by decide))
  rw [← HY.out] at HS
  clear hrow hyl HG4 HG5 HG6 HB2 HB3 HB4 HB5 HB6 H5 H6
  go_wp2
  refine wp_region_G 29 Gr (by kernel_rfl) ?_
  -- 0: slot 19
  refine wpG_take preGr (i := 0) (v := ?_) (by kernel_rfl) (some 19) (by kernel_rfl) rfl (by kernel_rfl) (by kernel_rfl) (by kernel_rfl) (fun _ _ _ h => h) (by rfl) (fun w' hw' => ?_) rfl ?_
  rotate_left
  · go_simp
    with_reducible rfl
  simp only [Act.put, List.setIfInBounds_toArray, List.set_cons_zero, List.set_cons_succ]
  -- 1: slot 20
  refine wpG_take preGr (i := 1) (v := ?_) (by kernel_rfl) (some 20) (by kernel_rfl) rfl (by kernel_rfl) (by kernel_rfl) (by kernel_rfl) (fun _ _ _ h => h) (by rfl) (fun w' hw' => ?_) rfl ?_
  rotate_left
  · go_simp
    with_reducible rfl
  simp only [Act.put, List.setIfInBounds_toArray, List.set_cons_zero, List.set_cons_succ]
  -- 2: slot 21
  refine wpG_take preGr (i := 2) (v := ?_) (by kernel_rfl) (some 21) (by kernel_rfl) rfl (by kernel_rfl) (by kernel_rfl) (by kernel_rfl) (fun _ _ _ h => h) (by rfl) (fun w' hw' => ?_) rfl ?_
  rotate_left
  · go_simp
    with_reducible rfl
  simp only [Act.put, List.setIfInBounds_toArray, List.set_cons_zero, List.set_cons_succ]
  -- 3: slot 22
  refine wpG_take preGr (i := 3) (v := ?_) (by kernel_rfl) (some 22) (by kernel_rfl) rfl (by kernel_rfl) (by kernel_rfl) (by kernel_rfl) (fun _ _ _ h => h) (by rfl) (fun w' hw' => ?_) rfl ?_
  rotate_left
  · go_simp
    with_reducible rfl
  simp only [Act.put, List.setIfInBounds_toArray, List.set_cons_zero, List.set_cons_succ]
  -- 4: slot 23
  refine wpG_take preGr (i := 4) (v := ?_) (by kernel_rfl) (some 23) (by kernel_rfl) rfl (by kernel_rfl) (by kernel_rfl) (by kernel_rfl) (fun _ _ _ h => h) (by rfl) (fun w' hw' => ?_) rfl ?_
  rotate_left
  · go_simp
    with_reducible rfl
  simp only [Act.put, List.setIfInBounds_toArray, List.set_cons_zero, List.set_cons_succ]
  -- 5: slot 24
  refine wpG_take preGr (i := 5) (v := ?_) (by kernel_rfl) (some 24) (by kernel_rfl) rfl (by kernel_rfl) (by kernel_rfl) (by kernel_rfl) (fun _ _ _ h => h) (by rfl) (fun w' hw' => ?_) rfl ?_
  rotate_left
  · go_simp
    with_reducible rfl
  simp only [Act.put, List.setIfInBounds_toArray, List.set_cons_zero, List.set_cons_succ]
  -- 6: slot 25
  refine wpG_take preGr (i := 6) (v := ?_) (by kernel_rfl) (some 25) (by kernel_rfl) rfl (by kernel_rfl) (by kernel_rfl) (by kernel_rfl) (fun _ _ _ h => h) (by rfl) (fun w' hw' => ?_) rfl ?_
  rotate_left
  · go_simp
    with_reducible rfl
  simp only [Act.put, List.setIfInBounds_toArray, List.set_cons_zero, List.set_cons_succ]
  -- 7: slot 26
  refine wpG_take preGr (i := 7) (v := ?_) (by kernel_rfl) (some 26) (by kernel_rfl) rfl (by kernel_rfl) (by kernel_rfl) (by kernel_rfl) (fun _ _ _ h => h) (by rfl) (fun w' hw' => ?_) rfl ?_
  rotate_left
  · go_simp
    with_reducible rfl
  simp only [Act.put, List.setIfInBounds_toArray, List.set_cons_zero, List.set_cons_succ]
  -- 8: slot 27
  refine wpG_take preGr (i := 8) (v := ?_) (by kernel_rfl) (some 27) (by kernel_rfl) rfl (by kernel_rfl) (by kernel_rfl) (by kernel_rfl) (fun _ _ _ h => h) (by rfl) (fun w' hw' => ?_) rfl ?_
  rotate_left
  · go_simp
    with_reducible rfl
  simp only [Act.put, List.setIfInBounds_toArray, List.set_cons_zero, List.set_cons_succ]
  -- 9: slot 28
  refine wpG_take preGr (i := 9) (v := ?_) (by kernel_rfl) (some 28) (by kernel_rfl) rfl (by kernel_rfl) (by kernel_rfl) (by kernel_rfl) (fun _ _ _ h => h) (by rfl) (fun w' hw' => ?_) rfl ?_
  rotate_left
  · go_simp
    with_reducible rfl
  simp only [Act.put, List.setIfInBounds_toArray, List.set_cons_zero, List.set_cons_succ]
  -- 10: slot 29
  refine wpG_take preGr (i := 10) (v := ?_) (by kernel_rfl) (some 29) (by kernel_rfl) rfl (by kernel_rfl) (by kernel_rfl) (by kernel_rfl) (fun _ _ _ h => h) (by rfl) (fun w' hw' => ?_) rfl ?_
  rotate_left
  · go_simp
    with_reducible rfl
  simp only [Act.put, List.setIfInBounds_toArray, List.set_cons_zero, List.set_cons_succ]
  -- 11: slot 30
  refine wpG_take preGr (i := 11) (v := ?_) (by kernel_rfl) (some 30) (by kernel_rfl) rfl (by kernel_rfl) (by kernel_rfl) (by kernel_rfl) (fun _ _ _ h => h) (by rfl) (fun w' hw' => ?_) rfl ?_
  rotate_left
  · go_simp
    with_reducible rfl
  simp only [Act.put, List.setIfInBounds_toArray, List.set_cons_zero, List.set_cons_succ]
  -- 12: slot 31
  refine wpG_take preGr (i := 12) (v := ?_) (by kernel_rfl) (some 31) (by kernel_rfl) rfl (by kernel_rfl) (by kernel_rfl) (by kernel_rfl) (fun _ _ _ h => h) (by rfl) (fun w' hw' => ?_) rfl ?_
  rotate_left
  · go_simp
    with_reducible rfl
  simp only [Act.put, List.setIfInBounds_toArray, List.set_cons_zero, List.set_cons_succ]
  -- 13: slot 32
  refine wpG_take preGr (i := 13) (v := ?_) (by kernel_rfl) (some 32) (by kernel_rfl) rfl (by kernel_rfl) (by kernel_rfl) (by kernel_rfl) (fun _ _ _ h => h) (by rfl) (fun w' hw' => ?_) rfl ?_
  rotate_left
  · go_simp
    with_reducible rfl
  simp only [Act.put, List.setIfInBounds_toArray, List.set_cons_zero, List.set_cons_succ]
  -- 14: slot 33
  refine wpG_take preGr (i := 14) (v := ?_) (by kernel_rfl) (some 33) (by kernel_rfl) rfl (by kernel_rfl) (by kernel_rfl) (by kernel_rfl) (fun _ _ _ h => h) (by rfl) (fun w' hw' => ?_) rfl ?_
  rotate_left
  · go_simp
    with_reducible rfl
  simp only [Act.put, List.setIfInBounds_toArray, List.set_cons_zero, List.set_cons_succ]
  -- 15: slot 34
  refine wpG_take preGr (i := 15) (v := ?_) (by kernel_rfl) (some 34) (by kernel_rfl) rfl (by kernel_rfl) (by kernel_rfl) (by kernel_rfl) (fun _ _ _ h => h) (by rfl) (fun w' hw' => ?_) rfl ?_
  rotate_left
  · go_simp
    with_reducible rfl
  simp only [Act.put, List.setIfInBounds_toArray, List.set_cons_zero, List.set_cons_succ]
  -- 16: slot 35
  refine wpG_take preGr (i := 16) (v := ?_) (by kernel_rfl) (some 35) (by kernel_rfl) rfl (by kernel_rfl) (by kernel_rfl) (by kernel_rfl) (fun _ _ _ h => h) (by rfl) (fun w' hw' => ?_) rfl ?_
  rotate_left
  · go_simp
    with_reducible rfl
  simp only [Act.put, List.setIfInBounds_toArray, List.set_cons_zero, List.set_cons_succ]
  -- 17: slot 36
  refine wpG_take preGr (i := 17) (v := ?_) (by kernel_rfl) (some 36) (by kernel_rfl) rfl (by kernel_rfl) (by kernel_rfl) (by kernel_rfl) (fun _ _ _ h => h) (by rfl) (fun w' hw' => ?_) rfl ?_
  rotate_left
  · go_simp
    with_reducible rfl
  simp only [Act.put, List.setIfInBounds_toArray, List.set_cons_zero, List.set_cons_succ]
  -- 18: slot 37
  refine wpG_take preGr (i := 18) (v := ?_) (by kernel_rfl) (some 37) (by kernel_rfl) rfl (by kernel_rfl) (by kernel_rfl) (by kernel_rfl) (fun _ _ _ h => h) (by rfl) (fun w' hw' => ?_) rfl ?_
  rotate_left
  · go_simp
    with_reducible rfl
  simp only [Act.put, List.setIfInBounds_toArray, List.set_cons_zero, List.set_cons_succ]
  -- 20: slot 39
  refine wpG_take preGr (i := 20) (v := ?_) (by kernel_rfl) (some 39) (by kernel_rfl) rfl (by kernel_rfl) (by kernel_rfl) (by kernel_rfl) (fun _ _ _ h => h) (by rfl) (fun w' hw' => ?_) rfl ?_
  rotate_left
  · refine Eq.trans (load_mid_run (P := Tryd.prog) 24 (.tmp 1) ?_ g1 0 ?_ (y.map u8v) _ (HR.out w' hw') Tryd.underlying24 rfl HSZ.out) ?_
    · rfl
    · rfl
    · with_reducible rfl
  simp only [Act.put, List.setIfInBounds_toArray, List.set_cons_zero, List.set_cons_succ]
  refine wpG_one (i := 19) rfl (by kernel_rfl) (by rfl) ?_
  go_simp
  refine (HS.out).mono ?_
  rintro e w8 ⟨rfl, hg8⟩
  have G8 : Hid (Gr w7 w8) := Gr.trans (Gr.drew w7) hg8
  refine ⟨hg8, ?_⟩
  clear hg8
  try simp only [Act.put, List.setIfInBounds_toArray, List.set_cons_zero, List.set_cons_succ]
  -- 21: slot 40
  refine wpG_take preGr (i := 21) (v := ?_) (by kernel_rfl) (some 40) (by kernel_rfl) rfl (by kernel_rfl) (by kernel_rfl) (by kernel_rfl) (fun _ _ _ h => h) (by rfl) (fun w' hw' => ?_) rfl ?_
  rotate_left
  · go_simp
    with_reducible rfl
  simp only [Act.put, List.setIfInBounds_toArray, List.set_cons_zero, List.set_cons_succ]
  -- 22: slot 41
  refine wpG_take preGr (i := 22) (v := ?_) (by kernel_rfl) (some 41) (by kernel_rfl) rfl (by kernel_rfl) (by kernel_rfl) (by kernel_rfl) (fun _ _ _ h => h) (by rfl) (fun w' hw' => ?_) rfl ?_
  rotate_left
  · go_simp
    with_reducible rfl
  simp only [Act.put, List.setIfInBounds_toArray, List.set_cons_zero, List.set_cons_succ]
  -- 23: slot 42
  refine wpG_take preGr (i := 23) (v := ?_) (by kernel_rfl) (some 42) (by kernel_rfl) rfl (by kernel_rfl) (by kernel_rfl) (by kernel_rfl) (fun _ _ _ h => h) (by rfl) (fun w' hw' => ?_) rfl ?_
  rotate_left
  · go_simp
    with_reducible rfl
  simp only [Act.put, List.setIfInBounds_toArray, List.set_cons_zero, List.set_cons_succ]
  -- 24: slot 43
  refine wpG_take preGr (i := 24) (v := ?_) (by kernel_rfl) (some 43) (by kernel_rfl) rfl (by kernel_rfl) (by kernel_rfl) (by kernel_rfl) (fun _ _ _ h => h) (by rfl) (fun w' hw' => ?_) rfl ?_
  rotate_left
  · go_simp
    with_reducible rfl
  simp only [Act.put, List.setIfInBounds_toArray, List.set_cons_zero, List.set_cons_succ]
  refine wpG_one (i := 25) rfl (by kernel_rfl) (by rfl) ?_
  go_simp
  refine (mac_len_any m gi go jefe ask _ (H7.out.below G8.out) (by decide)).mono ?_
  rintro e w9 ⟨rfl, rfl⟩
  refine ⟨Gr.refl _, ?_⟩
  try simp only [Act.put, List.setIfInBounds_toArray, List.set_cons_zero, List.set_cons_succ]
  -- 26: slot 45
  refine wpG_take preGr (i := 26) (v := ?_) (by kernel_rfl) (some 45) (by kernel_rfl) rfl (by kernel_rfl) (by kernel_rfl) (by kernel_rfl) (fun _ _ _ h => h) (by rfl) (fun w' hw' => ?_) rfl ?_
  rotate_left
  · go_simp
    with_reducible rfl
  simp only [Act.put, List.setIfInBounds_toArray, List.set_cons_zero, List.set_cons_succ]
  -- 27: slot 46
  refine wpG_take preGr (i := 27) (v := ?_) (by kernel_rfl) (some 46) (by kernel_rfl) rfl (by kernel_rfl) (by kernel_rfl) (by kernel_rfl) (fun _ _ _ h => h) (by rfl) (fun w' hw' => ?_) rfl ?_
  rotate_left
  · go_simp
    with_reducible rfl
  simp only [Act.put, List.setIfInBounds_toArray, List.set_cons_zero, List.set_cons_succ]
  -- 28: slot 0
  refine wpG_take preGr (i := 28) (v := ?_) (by kernel_rfl) (some 0) (by kernel_rfl) rfl (by kernel_rfl) (by kernel_rfl) (by kernel_rfl) (fun _ _ _ h => h) (by rfl) (fun w' hw' => ?_) rfl ?_
  rotate_left
  · go_simp
    with_reducible rfl
  simp only [Act.put, List.setIfInBounds_toArray, List.set_cons_zero, List.set_cons_succ]
  refine wpG_done (by kernel_rfl) ?_ _
  go_wp2
  go_ret
  exact ⟨rfl, HB7.out.trans (G8.out.mono HB7.out.size)⟩
end Go.Proofs.YtjlebchbfadkoaaDoor
