import Derived.Test.YtjlacialbfhjcaaDoorShaJ
namespace Go.Proofs.YtjlacialbfhjcaaDoor
open Go.RowKit
set_option linter.unusedVariables false
set_option linter.unusedSimpArgs false

theorem HashAt.range {w : World} {g : Nat} {t : List UInt8} (h : HashAt w g t) : w.rangeAt g 1 (hashS t).cells := by
  obtain ⟨left, hl, hg⟩ := h
  intro i v hv
  rw [cell_of_row _ _ _ _ _ _ hg, hcells]
  have hi : i < (hashS t).cells.length := (List.getElem?_eq_some_iff.1 hv).1
  rw [Nat.add_comm 1 i, List.getElem?_toArray, List.getElem?_cons_succ, List.getElem?_append_left hi]
  exact hv
def z32 : Array Value := (List.replicate 32 (Value.int .u8 0)).toArray
theorem size32l (l : List UInt8) (h : l.length = 32) : (Tryd.prog.info? 56).map (·.size) = some (l.map u8v).toArray.size := by rw [List.size_toArray, List.length_map, h]; exact size32b
set_option maxHeartbeats 1000000 in
theorem hsum_any (g : Nat) (t : List UInt8) (w : World) (h : HashAt w g t) (hL : Laid w) (ht : t.length < 1152921504606846976) :
    Calls Tryd.prog 43 #[.pointer (some ⟨g, 0, none⟩)] w fun e w' => e = .returned (.agg ((sumL t).map u8v).toArray) ∧ Below w.heap.size w w' := by
  have HH := Lib.hid h
  have HL := Lib.hid hL
  have BA : Below w.heap.size w (w.alloc (.cells z32 56)) := (Below.refl _ _).alloc (Nat.le_refl _) _
  have HBA := Lib.hid BA
  have HA := Lib.hid (h.below BA)
  have HGA : Hid ((w.alloc (.cells z32 56)).heap[w.heap.size]? = some (.cells z32 56 (0, 0))) := heap_alloc_last _ _
  have hgw := h.lt
  have H0 : 0 < w.heap.size := hL.1
  clear h hL BA
  go_enter Tryd.func43, Tryd.ntmps43
  go_wp2_with fail
  change Calls Tryd.prog 50 _ (w.alloc (.cells z32 56)) _
  generalize w.alloc (.cells z32 56) = w1 at HBA HA HGA ⊢
  refine (isMade_yes g w1 HA.out.made).mono ?_
  rintro e w' ⟨rfl, rfl⟩
  go_wp2_with fail
  refine (fork_any g t w1 HA.out).mono ?_
  rintro e w2 ⟨g2, rfl, hg2, hh2, hb2⟩
  have H2 := Lib.hid hh2
  have HA2 := Lib.hid (HA.out.below hb2)
  have HB2 := Lib.hid (HBA.out.trans (hb2.mono HBA.out.size))
  have HG2 := Lib.hid (heap_below HGA.out hb2)
  have c73 := HA2.out.size
  have hlt1 : w.heap.size < w1.heap.size := (Array.getElem?_eq_some_iff.1 HGA.out).1
  clear hh2 hb2
  go_wp2_with fail
  refine (behind_any t.length (by omega) _ (.inl rfl) w2).mono ?_
  rintro e w3 ⟨v3, rfl, hv3, hb3⟩
  obtain ⟨ao, c, hv, _, _⟩ := hv3.bs.shape
  subst hv
  have hoff : Off g2 ao := by
    intro ad had
    have hbs := hv3
    obtain ⟨_, ⟨h1, _⟩ | ⟨g', cap, cur, h1, h2, _⟩⟩ := hbs
    · simp only [Value.slice.injEq] at h1; rw [h1.1] at had; cases had
    · simp only [Value.slice.injEq] at h1
      rw [h1.1] at had
      obtain rfl := Option.some.inj had
      have := H2.out.lt
      show g' ≠ g2
      omega
  have HOFF := Lib.hid hoff
  have H3 := Lib.hid (H2.out.below hb3)
  have HB3 := Lib.hid (HB2.out.trans (hb3.mono HB2.out.size))
  have HG3 := Lib.hid (heap_below HG2.out hb3)
  have HV3 := Lib.hid hv3.bs
  clear hv3 hb3 hoff c73
  go_wp2_with fail
  refine (add_any g2 t w3 H3.out (HL.out.below HB3.out) (by omega) ao _ c (behindL t.length) rfl HV3.out (fun _ => HOFF.out) (by have := behindL_length t.length; have := zerosN_lt t.length; omega)).mono ?_
  rintro e w4 ⟨rfl, hh4, ho4⟩
  have H4 := Lib.hid hh4
  have HB4 := Lib.hid (ho4.below _ _ (by omega) HB3.out)
  have HG4 : Hid (w4.heap[w.heap.size]? = some (.cells z32 56 (0, 0))) := by
    show _ = _
    rw [ho4.heap _ (Array.getElem?_eq_some_iff.1 HG3.out).1 (by omega)]; exact HG3.out
  have HR4 : Hid (w4.rangeAt g2 1 (sumS t).cells) := hh4.range
  clear hh4 ho4
  go_wp2_with (with_reducible refine wpList_load_mid rfl 78 (.tmp 19) rfl g2 1 rfl (sumS t).cells _ HR4.out Tryd.underlying78 rfl (size8c _) ?_)
  refine (bytesOf_any (sumS t) w4).mono ?_
  rintro e w5 ⟨rfl, hb5⟩
  have HB5 := Lib.hid (HB4.out.trans (hb5.mono HB4.out.size))
  have HG5 := Lib.hid (heap_below HG4.out hb5)
  clear hb5
  go_wp2_with (with_reducible refine wpList_store_row rfl 56 (.tmp 2) (.tmp 21) rfl w.heap.size _ rfl rfl 56 _ HG5.out ?a1 ?a2 ?a3 ?_)
  case a1 => exact size32l _ (St.bytes_length _)
  case a2 => show z32.size = ((sumS t).bytes.map u8v).length; rw [List.length_map, St.bytes_length]; rfl
  case a3 => exact all_oneCell_toArray (oneCell_u8 _)
  intro w6 h1 h2 _
  have H1 := Lib.hid h1
  have H6 := Lib.hid (h2 _ _ (Nat.le_refl _) HB5.out)
  clear h1 h2
  go_wp2
  refine bodyPost_ret (v := .agg ((sumL t).map u8v).toArray) (results_cell_row Tryd.results43 _ _ w.heap.size 56 _ (0, 0) _ rfl H1.out Tryd.underlying56 rfl (size32l _ (St.bytes_length _))) rfl ?_
  exact ⟨rfl, H6.out⟩
/-- sha.Sum. -/
theorem sum_any (ao : Option Addr) (n c : Nat) (l : List UInt8) (hn : l.length = n) (w : World) (hb : Bs w (.slice ao n c) l) (hL : Laid w) (hl : l.length < 1152921504606846976) :
    Calls Tryd.prog 48 #[.slice ao n c] w fun e w' => e = .returned (.agg ((sumL l).map u8v).toArray) ∧ Below w.heap.size w w' := by
  have BA : Below w.heap.size w (w.alloc (.cells z32 56)) := (Below.refl _ _).alloc (Nat.le_refl _) _
  have HBA := Lib.hid BA
  have HV := Lib.hid (hb.below BA)
  have HLD := Lib.hid (hL.below BA)
  have HGA : Hid ((w.alloc (.cells z32 56)).heap[w.heap.size]? = some (.cells z32 56 (0, 0))) := heap_alloc_last _ _
  have H0 : 0 < w.heap.size := hL.1
  have HN := Lib.hid hn
  have hoffw : ∀ ad, ao = some ad → 0 < n → ad.block < w.heap.size := by
    intro ad had h0
    obtain ⟨b, o, h1, h2, _⟩ := hb.cells (by omega)
    rw [h1] at had
    obtain rfl := Option.some.inj had
    exact h2
  have HOW := Lib.hid hoffw
  clear hb hL BA hn hoffw
  go_enter Tryd.func48, Tryd.ntmps48
  go_wp2_with fail
  change Calls Tryd.prog 40 _ (w.alloc (.cells z32 56)) _
  generalize w.alloc (.cells z32 56) = w1 at HBA HV HGA HLD ⊢
  refine (new_any w1).mono ?_
  rintro e w2 ⟨g, rfl, hg, hh, hb2⟩
  have H2 := Lib.hid hh
  have HV2 := Lib.hid (HV.out.below hb2)
  have HL2 := Lib.hid (HLD.out.below hb2)
  have HB2 := Lib.hid (HBA.out.trans (hb2.mono HBA.out.size))
  have HG2 := Lib.hid (heap_below HGA.out hb2)
  have hlt1 : w.heap.size < w1.heap.size := (Array.getElem?_eq_some_iff.1 HGA.out).1
  have HOFF : Hid (0 < n → Off g ao) := fun h0 ad had => by have := HOW.out ad had h0; omega
  clear hh hb2
  go_wp2_with fail
  refine (add_any g [] w2 H2.out HL2.out (by omega) ao n c l HN.out HV2.out HOFF.out (by simp; omega)).mono ?_
  rintro e w3 ⟨rfl, hh3, ho3⟩
  have H3 : Hid (HashAt w3 g l) := by rw [List.nil_append] at hh3; exact hh3
  have HB3 := Lib.hid (ho3.below _ _ (by omega) HB2.out)
  have HL3 := Lib.hid (HL2.out.only (by omega) ho3)
  have HG3 : Hid (w3.heap[w.heap.size]? = some (.cells z32 56 (0, 0))) := by
    show _ = _
    rw [ho3.heap _ (Array.getElem?_eq_some_iff.1 HG2.out).1 (by omega)]; exact HG2.out
  clear hh3 ho3
  go_wp2_with fail
  refine (hsum_any g l w3 H3.out HL3.out hl).mono ?_
  rintro e w4 ⟨rfl, hb4⟩
  have HB4 := Lib.hid (HB3.out.trans (hb4.mono HB3.out.size))
  have HG4 := Lib.hid (heap_below HG3.out hb4)
  clear hb4
  go_wp2_with (with_reducible refine wpList_store_row rfl 56 (.tmp 2) (.tmp 9) rfl w.heap.size _ rfl rfl 56 _ HG4.out ?a1 ?a2 ?a3 ?_)
  case a1 => exact size32l _ (St.bytes_length _)
  case a2 => show z32.size = ((sumL l).map u8v).length; rw [List.length_map, sumL_length]; rfl
  case a3 => exact all_oneCell_toArray (oneCell_u8 _)
  intro w6 h1 h2 _
  have H1 := Lib.hid h1
  have H6 := Lib.hid (h2 _ _ (Nat.le_refl _) HB4.out)
  clear h1 h2
  go_wp2
  refine bodyPost_ret (v := .agg ((sumL l).map u8v).toArray) (results_cell_row Tryd.results48 _ _ w.heap.size 56 _ (0, 0) _ rfl H1.out Tryd.underlying56 rfl (size32l _ (St.bytes_length _))) rfl ?_
  exact ⟨rfl, H6.out⟩
theorem behind_len (n k : Nat) (hn : n < 9223372036854775808) (hk : (behindL n).length = k) (w : World) :
    Calls Tryd.prog 52 #[.int .i64 (n : Int)] w fun e w' => ∃ ao c, e = .returned (.slice ao k c) ∧ Below w.heap.size w w' :=
  (behind_any n hn _ (.inl rfl) w).mono fun e w' ⟨v, he, hv, hb⟩ => by
    obtain ⟨ao, c, h, _⟩ := hv.bs.shape
    exact ⟨ao, c, by rw [he, h, hk], hb⟩
theorem behind55 (w : World) : Calls Tryd.prog 52 #[.int .i64 55] w fun e w' => ∃ ao c, e = .returned (.slice ao 9 c) ∧ Below w.heap.size w w' := behind_len 55 9 (by omega) (by decide +kernel) w
theorem behind56 (w : World) : Calls Tryd.prog 52 #[.int .i64 56] w fun e w' => ∃ ao c, e = .returned (.slice ao 72 c) ∧ Below w.heap.size w w' := behind_len 56 72 (by omega) (by decide +kernel) w
end Go.Proofs.YtjlacialbfhjcaaDoor
