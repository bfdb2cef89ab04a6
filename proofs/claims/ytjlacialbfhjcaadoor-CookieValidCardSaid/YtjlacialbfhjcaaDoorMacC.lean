/-
  A Mac's Sum and Len; hmac.Sum, Check, Derive.
-/
import Derived.Test.YtjlacialbfhjcaaDoorMacB
namespace Go.Proofs.YtjlacialbfhjcaaDoor
open Go.RowKit
set_option linter.unusedVariables false
set_option linter.unusedSimpArgs false

set_option maxHeartbeats 1000000 in
theorem mac_sum_any (m gi go : Nat) (key msg : List UInt8) (w : World) (h : MacAt w m gi go key msg) (hL : Laid w) (hsz : msg.length < 1099511627776) :
    Calls Tryd.prog 35 #[.pointer (some ⟨m, 0, none⟩)] w fun e w' => e = .returned (.agg ((hmacL key msg).map u8v).toArray) ∧ Below w.heap.size w w' := by
  have BA : Below w.heap.size w (w.alloc (.cells z32 56)) := (Below.refl _ _).alloc (Nat.le_refl _) _
  have HBA := Lib.hid BA
  have H1 := Lib.hid (h.below BA)
  have c0 := (h.below BA).cell0
  have c1 := (h.below BA).cell1
  have HM := Lib.hid (mac_made m gi go _ c0 c1)
  have HLD := Lib.hid (hL.below BA)
  have HL0 := Lib.hid hL
  have HGA : Hid ((w.alloc (.cells z32 56)).heap[w.heap.size]? = some (.cells z32 56 (0, 0))) := heap_alloc_last _ _
  have hW0 : 0 < w.heap.size := hL.1
  have hsl2 : ∀ (g : Nat) w', (Instr.sliceAt 56 (.pointer (some ⟨g, 0, none⟩)) none none none).run Tryd.prog w' = .ok (.slice (some ⟨g, 0, none⟩) 32 32) w' := fun g w' => by
    rw [run_sliceAt_array_all w' 56 ⟨g, 0, none⟩ (by kernel_rfl)]; rfl
  obtain ⟨s1, hs1⟩ : ∃ s, s = sumL (innerL key msg) := ⟨_, rfl⟩
  have HS1 := Lib.hid hs1
  have HSL : Hid (s1.length = 32) := by show _ = _; rw [hs1, sumL_length]
  clear h hL BA hs1
  go_enter Tryd.func35, Tryd.ntmps35
  go_wp2_with fail
  change Calls Tryd.prog 42 _ (w.alloc (.cells z32 56)) _
  generalize w.alloc (.cells z32 56) = w1 at HBA H1 c0 c1 HM HLD HGA ⊢
  refine HM.out.mono ?_
  rintro e w' ⟨rfl, rfl⟩
  have HH := Lib.hid (hsum_any gi (innerL key msg) w1 H1.out.2.1 HLD.out (by rw [innerL_length]; omega))
  rw [← HS1.out] at HH
  go_wp2_with fail
  refine HH.out.mono ?_
  rintro e w2 ⟨rfl, hb2⟩
  have HB2 := Lib.hid (HBA.out.trans (hb2.mono HBA.out.size))
  have HG2 := Lib.hid (heap_below HGA.out hb2)
  have H2 := Lib.hid (H1.out.below hb2)
  have hlt2 : w.heap.size < w2.heap.size := (Array.getElem?_eq_some_iff.1 HG2.out).1
  clear c0 c1 hb2
  go_wp2_with (with_reducible refine wpList_store_row rfl 56 (.tmp 3) (.tmp 13) rfl w2.heap.size _ rfl rfl 56 z32 (heap_alloc_last _ _) ?a1 ?a2 ?a3 ?_)
  case a1 => exact size32l _ HSL.out
  case a2 => show z32.size = (s1.map u8v).length; rw [List.length_map, HSL.out]; rfl
  case a3 => exact all_oneCell_toArray (oneCell_u8 _)
  intro w3 h1 h2 h3
  have hb3 : Below w2.heap.size w2 w3 := h2 _ _ (Nat.le_refl _) ((Below.refl _ _).alloc (Nat.le_refl _) _)
  have HB3 := Lib.hid (HB2.out.trans (hb3.mono HB2.out.size))
  have HG3 := Lib.hid (heap_below HG2.out hb3)
  have H3 := Lib.hid (H2.out.below hb3)
  have c1 := H3.out.cell1
  have HV3 : Hid (Bs w3 (.slice (some ⟨w2.heap.size, 0, none⟩) 32 32) s1) := by
    show Bs _ _ _
    unfold Bs
    rw [HSL.out]
    exact rd_row (cs := s1.map u8v) h1 32 (by rw [List.length_map]; exact HSL.out) (by decide)
  have hs3 : w2.heap.size < w3.heap.size := (Array.getElem?_eq_some_iff.1 h1).1
  clear h1 h2 h3 hb3
  go_wp2_with fail
  refine (fork_any go (outerL key []) w3 H3.out.2.2.1).mono ?_
  rintro e w4 ⟨g4, rfl, hg4, hh4, hb4⟩
  have H4 := Lib.hid hh4
  have HB4 := Lib.hid (HB3.out.trans (hb4.mono HB3.out.size))
  have HG4 := Lib.hid (heap_below HG3.out hb4)
  have HV4 := Lib.hid (HV3.out.below hb4)
  have HOFF : Hid (0 < 32 → Off g4 (some ⟨w2.heap.size, 0, none⟩)) := fun _ ad had => by
    obtain rfl := Option.some.inj had
    show w2.heap.size ≠ g4; omega
  clear hh4 hb4 c1
  go_wp2_with fail
  refine (add_any g4 (outerL key []) w4 H4.out (HL0.out.below HB4.out) (by omega) (some ⟨w2.heap.size, 0, none⟩) 32 32 s1 HSL.out HV4.out HOFF.out (by rw [outerL_length]; simp; have := HSL.out; omega)).mono ?_
  rintro e w5 ⟨rfl, hh5, ho5⟩
  have H5 : Hid (HashAt w5 g4 (outerL key s1)) := by
    have e : outerL key [] ++ s1 = outerL key s1 := by simp [outerL]
    rw [e] at hh5; exact hh5
  have HB5 := Lib.hid (ho5.below _ _ (by omega) HB4.out)
  have HG5 : Hid (w5.heap[w.heap.size]? = some (.cells z32 56 (0, 0))) := by
    show _ = _
    rw [ho5.heap _ (Array.getElem?_eq_some_iff.1 HG4.out).1 (by omega)]; exact HG4.out
  have HH5 := Lib.hid (hsum_any g4 (outerL key s1) w5 H5.out (HL0.out.below HB5.out) (by rw [outerL_length]; have := HSL.out; omega))
  have HE : Hid (sumL (outerL key s1) = hmacL key msg) := by show _ = _; unfold hmacL; rw [HS1.out]
  rw [HE.out] at HH5
  clear hh5 ho5
  go_wp2_with fail
  refine HH5.out.mono ?_
  rintro e w6 ⟨rfl, hb6⟩
  have HB6 := Lib.hid (HB5.out.trans (hb6.mono HB5.out.size))
  have HG6 := Lib.hid (heap_below HG5.out hb6)
  clear hb6
  go_wp2_with (with_reducible refine wpList_store_row rfl 56 (.tmp 2) (.tmp 23) rfl w.heap.size _ rfl rfl 56 _ HG6.out ?a1 ?a2 ?a3 ?_)
  case a1 => exact size32l _ (hmacL_length _ _)
  case a2 => show z32.size = ((hmacL key msg).map u8v).length; rw [List.length_map, hmacL_length]; rfl
  case a3 => exact all_oneCell_toArray (oneCell_u8 _)
  intro w7 h1 h2 _
  have H7 := Lib.hid h1
  have HB7 := Lib.hid (h2 _ _ (Nat.le_refl _) HB6.out)
  clear h1 h2
  go_wp2
  refine bodyPost_ret (v := .agg ((hmacL key msg).map u8v).toArray) (results_cell_row Tryd.results35 _ _ w.heap.size 56 _ (0, 0) _ rfl H7.out Tryd.underlying56 rfl (size32l _ (hmacL_length _ _))) rfl ?_
  exact ⟨rfl, HB7.out⟩
/-- hmac.Sum. -/
theorem hmac_any (ak : Option Addr) (nk ck : Nat) (key : List UInt8) (hnk : key.length = nk) (am : Option Addr) (nm cm : Nat) (msg : List UInt8) (hnm : msg.length = nm) (w : World) (hk : Bs w (.slice ak nk ck) key) (hm : Bs w (.slice am nm cm) msg) (hL : Laid w) (hkl : key.length < 1152921504606846976) (hml : msg.length < 1099511627776) :
    Calls Tryd.prog 25 #[.slice ak nk ck, .slice am nm cm] w fun e w' => e = .returned (.agg ((hmacL key msg).map u8v).toArray) ∧ Below w.heap.size w w' := by
  have BA : Below w.heap.size w (w.alloc (.cells z32 56)) := (Below.refl _ _).alloc (Nat.le_refl _) _
  have HBA := Lib.hid BA
  have HK := Lib.hid (hk.below BA)
  have HM := Lib.hid (hm.below BA)
  have HL0 := Lib.hid hL
  have HGA : Hid ((w.alloc (.cells z32 56)).heap[w.heap.size]? = some (.cells z32 56 (0, 0))) := heap_alloc_last _ _
  have hW0 : 0 < w.heap.size := hL.1
  have LM := Lib.hid (hm.low hnm)
  have HNK := Lib.hid hnk
  have HNM := Lib.hid hnm
  clear hk hm hL BA hnk hnm
  go_enter Tryd.func25, Tryd.ntmps25
  go_wp2_with fail
  change Calls Tryd.prog 33 _ (w.alloc (.cells z32 56)) _
  generalize w.alloc (.cells z32 56) = w1 at HBA HK HM HGA ⊢
  refine (mac_new_any ak nk ck key HNK.out w1 HK.out (HL0.out.below HBA.out) hkl).mono ?_
  rintro e w2 ⟨m, gi, go, rfl, hm2, hgi2, hgo2, hh2, hb2⟩
  have H2 := Lib.hid hh2
  have HB2 := Lib.hid (HBA.out.trans (hb2.mono HBA.out.size))
  have HG2 := Lib.hid (heap_below HGA.out hb2)
  have HM2 := Lib.hid (HM.out.below hb2)
  have hs1 := HBA.out.size
  have hlt1 : w.heap.size < w1.heap.size := (Array.getElem?_eq_some_iff.1 HGA.out).1
  have HOFF : Hid (0 < nm → Off gi am) := fun h0 ad had => by have := LM.out h0 ad had; omega
  clear hh2 hb2
  go_wp2_with fail
  refine (mac_add_any m gi go key [] w2 H2.out (HL0.out.below HB2.out) (by omega) am nm cm msg HNM.out HM2.out HOFF.out (by simp; omega)).mono ?_
  rintro e w3 ⟨rfl, hh3, ho3⟩
  rw [List.nil_append] at hh3
  have H3 := Lib.hid hh3
  have HB3 := Lib.hid (ho3.below _ _ (by omega) HB2.out)
  have HG3 : Hid (w3.heap[w.heap.size]? = some (.cells z32 56 (0, 0))) := by
    show _ = _
    rw [ho3.heap _ (Array.getElem?_eq_some_iff.1 HG2.out).1 (by omega)]; exact HG2.out
  clear hh3 ho3
  go_wp2_with fail
  refine (mac_sum_any m gi go key msg w3 H3.out (HL0.out.below HB3.out) hml).mono ?_
  rintro e w4 ⟨rfl, hb4⟩
  have HB4 := Lib.hid (HB3.out.trans (hb4.mono HB3.out.size))
  have HG4 := Lib.hid (heap_below HG3.out hb4)
  clear hb4
  go_wp2_with (with_reducible refine wpList_store_row rfl 56 (.tmp 4) (.tmp 12) rfl w.heap.size _ rfl rfl 56 _ HG4.out ?a1 ?a2 ?a3 ?_)
  case a1 => exact size32l _ (hmacL_length _ _)
  case a2 => show z32.size = ((hmacL key msg).map u8v).length; rw [List.length_map, hmacL_length]; rfl
  case a3 => exact all_oneCell_toArray (oneCell_u8 _)
  intro w7 h1 h2 _
  have H7 := Lib.hid h1
  have HB7 := Lib.hid (h2 _ _ (Nat.le_refl _) HB4.out)
  clear h1 h2
  go_wp2
  refine bodyPost_ret (v := .agg ((hmacL key msg).map u8v).toArray) (results_cell_row Tryd.results25 _ _ w.heap.size 56 _ (0, 0) _ rfl H7.out Tryd.underlying56 rfl (size32l _ (hmacL_length _ _))) rfl ?_
  exact ⟨rfl, HB7.out⟩
end Go.Proofs.YtjlacialbfhjcaaDoor
