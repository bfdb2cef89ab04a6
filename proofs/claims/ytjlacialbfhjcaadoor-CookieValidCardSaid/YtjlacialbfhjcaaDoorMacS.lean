/-
  The document's HMAC: Sum, Bytes.
-/
import Derived.Test.YtjlacialbfhjcaaDoorMacR
namespace Go.Proofs.YtjlacialbfhjcaaDoor
open Go.RowKit
set_option linter.unusedVariables false
set_option linter.unusedSimpArgs false

theorem rturned54 (ao : Option Addr) (n c : Nat) (l : List UInt8) (hn : l.length = n) (w : World) (hb : Bs w (.slice ao n c) l) (hl : l.length < 1099511627776) :
    Calls Tryd.prog 37 #[.slice ao n c, .int .u8 54] w fun e w' => ∃ g, e = .returned (.slice (some ⟨g, 0, none⟩) 64 64) ∧ OwnB w' w.heap.size 5 (.slice (some ⟨g, 0, none⟩) 64 64) (turnL (keyB l) 54) ∧ Below w.heap.size w w' := rturned_any ao n c l hn 54 w hb hl
theorem rturned92 (ao : Option Addr) (n c : Nat) (l : List UInt8) (hn : l.length = n) (w : World) (hb : Bs w (.slice ao n c) l) (hl : l.length < 1099511627776) :
    Calls Tryd.prog 37 #[.slice ao n c, .int .u8 92] w fun e w' => ∃ g, e = .returned (.slice (some ⟨g, 0, none⟩) 64 64) ∧ OwnB w' w.heap.size 5 (.slice (some ⟨g, 0, none⟩) 64 64) (turnL (keyB l) 92) ∧ Below w.heap.size w w' := rturned_any ao n c l hn 92 w hb hl
/-- What the loop holds: a row of its own (blocks from B on) that grows by the bytes of an array y in block gs; the result's variable as it was. -/
def SI (w wr : World) (B gs : Nat) (pre y : List UInt8) (v : Value) (k : Nat) : Prop :=
  wr.ownsRow B 5 1 v (pre.length + k) ((pre ++ y.take k).map u8v) ∧ Below w.heap.size w wr ∧ wr.heap[w.heap.size]? = some (.cells z32 56 (0, 0)) ∧ wr.heap[gs]? = some (.cells (y.map u8v).toArray 56 (0, 0)) ∧ w.heap.size < gs ∧ gs < B ∧ B ≤ wr.heap.size
theorem SI.next {w wr w' : World} {B gs k : Nat} {pre y : List UInt8} {v v' : Value} {o : Obj} (h : SI w wr B gs pre y v k) (hk : k < y.length) (hb : Below B (wr.alloc o) w') (ho : w'.ownsRow B 5 1 v' (pre.length + k + 1) ((pre ++ y.take k).map u8v ++ [u8v y[k]])) : SI w w' B gs pre y v' (k + 1) := by
  obtain ⟨h1, h2, h3, h4, h5, h6, h7⟩ := h
  have hb' : Below B wr w' := (((Below.refl B wr).alloc h7 o)).trans hb
  have e : (pre ++ y.take k).map u8v ++ [u8v y[k]] = (pre ++ y.take (k + 1)).map u8v := by
    rw [List.take_succ_eq_append_getElem hk, ← List.append_assoc, List.map_append (l₁ := pre ++ y.take k)]
    rfl
  rw [e] at ho
  refine ⟨ho, h2.trans (hb'.mono (by omega)), ?_, ?_, h5, h6, Nat.le_trans h7 hb'.size⟩
  · rw [hb'.block _ (by omega)]; exact h3
  · rw [hb'.block _ h6]; exact h4
set_option maxHeartbeats 2000000 in
theorem rhmac_any (ak : Option Addr) (nk ck : Nat) (key : List UInt8) (hnk : key.length = nk) (am : Option Addr) (nm cm : Nat) (msg : List UInt8) (hnm : msg.length = nm) (w : World) (hk : Bs w (.slice ak nk ck) key) (hm : Bs w (.slice am nm cm) msg) (hkl : key.length < 1000000) (hml : msg.length < 1000000) :
    Calls Tryd.prog 29 #[.slice ak nk ck, .slice am nm cm] w fun e w' => e = .returned (.agg ((hmacL key msg).map u8v).toArray) ∧ Below w.heap.size w w' := by
  obtain ⟨i0, hi, hz0, hz1, hz2⟩ := info_parts info5
  have BA : Below w.heap.size w (w.alloc (.cells z32 56)) := (Below.refl _ _).alloc (Nat.le_refl _) _
  have HBA := Lib.hid BA
  have HK0 := Lib.hid hk
  have HK := Lib.hid (hk.below BA)
  have HM := Lib.hid (hm.below BA)
  have HGA : Hid ((w.alloc (.cells z32 56)).heap[w.heap.size]? = some (.cells z32 56 (0, 0))) := heap_alloc_last _ _
  have HSZ : Hid ((w.alloc (.cells z32 56)).heap.size = w.heap.size + 1) := World.size_alloc _ _
  have HNK := Lib.hid hnk
  have HNM := Lib.hid hnm
  clear hk hm BA hnk hnm
  go_enter Tryd.func29, Tryd.ntmps29
  go_wp2_with fail
  change Calls Tryd.prog 37 _ (w.alloc (.cells z32 56)) _
  generalize w.alloc (.cells z32 56) = w1 at HBA HK HM HGA HSZ ⊢
  refine (rturned54 ak nk ck key HNK.out w1 HK.out (by omega)).mono ?_
  rintro e w2 ⟨g2, rfl, ho2, hb2⟩
  have HB2 := Lib.hid (HBA.out.trans (hb2.mono HBA.out.size))
  have HG2 := Lib.hid (heap_below HGA.out hb2)
  have HK2 := Lib.hid (HK.out.below hb2)
  have HM2 := Lib.hid (HM.out.below hb2)
  have HO2 : Hid (w2.ownsRow (w.heap.size + 1) 5 1 (.slice (some ⟨g2, 0, none⟩) 64 64) 64 ((turnL (keyB key) 54).map u8v)) := by
    have := ho2
    unfold OwnB at this
    rw [turnL_length, keyB_length, HSZ.out] at this
    exact this
  have hs2 : w.heap.size + 1 ≤ w2.heap.size := by have := hb2.size; have := HSZ.out; omega
  have HM2' : Hid (Rd w2 1 (.slice am nm cm) nm (msg.map u8v)) := by
    have := HM2.out
    unfold Bs at this
    rw [HNM.out] at this
    exact this
  clear ho2 hb2 HK HM HGA
  go_wp2_with (at_builtin; refine wpList_append_rd _ rfl _ _ 22 rfl (w.heap.size + 1) 5 i0 (.int .u8 0) 1 1 Tryd.underlying22 hi hz0 hz1 hz2 rfl (by decide) _ _ _ rfl HO2.out _ _ _ rfl HM2'.out (oneCell_u8 _) ?o2 (by decide) hs2 ?_)
  case o2 => have := HNM.out; omega
  intro v3 w3 hown3 hb3
  obtain ⟨x, hx⟩ : ∃ x, x = innerL key msg := ⟨_, rfl⟩
  have hxl : x.length = 64 + nm := by rw [hx, innerL_length, HNM.out]
  have hxm : (turnL (keyB key) 54).map u8v ++ msg.map u8v = x.map u8v := by rw [hx]; simp [innerL]
  rw [hxm] at hown3
  have HX := Lib.hid hx
  have HXL := Lib.hid hxl
  have HB3 := Lib.hid (HB2.out.trans (hb3.mono (by omega)))
  have HG3 : Hid (w3.heap[w.heap.size]? = some (.cells z32 56 (0, 0))) := by
    show _ = _
    rw [hb3.block _ (by omega)]; exact HG2.out
  have HK3 : Hid (Bs w3 (.slice ak nk ck) key) := HK0.out.below HB3.out
  have V3 : Hid (Rd w3 1 v3 (64 + nm) (x.map u8v)) := own_rd hown3
  obtain ⟨a3, c3, hv3, _, _⟩ := V3.out.shape
  subst hv3
  have M3 : Hid (Bs w3 (.slice a3 (64 + nm) c3) x) := by
    show Bs _ _ _
    unfold Bs
    rw [hxl]
    exact V3.out
  have HS := Lib.hid (rsum_any a3 (64 + nm) c3 x hxl w3 M3.out (by have := HNM.out; omega))
  obtain ⟨y, hy⟩ : ∃ y, y = sumL x := ⟨_, rfl⟩
  have HY := Lib.hid hy
  have HYL : Hid (y.length = 32) := by show _ = _; rw [hy]; exact sumL_length _
  rw [← hy] at HS
  clear hown3 hb3 hx hxl hxm HO2 HM2 HM2' HK2 V3 M3 hy
  go_wp2_with fail
  refine HS.out.mono ?_
  rintro e w4 ⟨rfl, hb4⟩
  have HB4 := Lib.hid (HB3.out.trans (hb4.mono HB3.out.size))
  have HG4 := Lib.hid (heap_below HG3.out hb4)
  have HK4 := Lib.hid (HK3.out.below hb4)
  have hs4 : w.heap.size < w4.heap.size := (Array.getElem?_eq_some_iff.1 HG4.out).1
  clear hb4
  go_wp2_with (with_reducible refine wpList_store_row rfl 56 (.tmp 5) (.tmp 12) rfl w4.heap.size _ rfl rfl 56 z32 (heap_alloc_last _ _) ?a1 ?a2 ?a3 ?_)
  case a1 => exact size32l _ HYL.out
  case a2 => show z32.size = (y.map u8v).length; rw [List.length_map, HYL.out]; rfl
  case a3 => exact all_oneCell_toArray (oneCell_u8 _)
  intro w5 h1 h2 _
  obtain ⟨gs, hgs⟩ : ∃ gs, gs = w4.heap.size := ⟨_, rfl⟩
  rw [← hgs] at h1 h2 ⊢
  have hb5 : Below w4.heap.size w4 w5 := h2 _ _ (by omega) ((Below.refl _ _).alloc (Nat.le_refl _) _)
  have HB5 := Lib.hid (HB4.out.trans (hb5.mono HB4.out.size))
  have HG5 := Lib.hid (heap_below HG4.out hb5)
  have HK5 := Lib.hid (HK4.out.below hb5)
  have HY5 := Lib.hid h1
  have hs5 : gs < w5.heap.size := (Array.getElem?_eq_some_iff.1 h1).1
  have hgs2 : w.heap.size < gs := by omega
  clear h1 h2 hb5 hgs
  go_wp2_with fail
  refine (rturned92 ak nk ck key HNK.out w5 HK5.out (by omega)).mono ?_
  rintro e w6 ⟨g6, rfl, ho6, hb6⟩
  have HI : Hid (SI w w6 w5.heap.size gs (turnL (keyB key) 92) y (.slice (some ⟨g6, 0, none⟩) 64 64) 0) := by
    refine ⟨?_, HB5.out.trans (hb6.mono HB5.out.size), heap_below HG5.out hb6, heap_below HY5.out hb6, hgs2, hs5, hb6.size⟩
    have := ho6
    unfold OwnB at this
    simpa using this
  obtain ⟨pre, hpre⟩ : ∃ pre, pre = turnL (keyB key) 92 := ⟨_, rfl⟩
  have HP := Lib.hid hpre
  have HPL : Hid (pre.length = 64) := by show _ = _; rw [hpre, turnL_length, keyB_length]
  rw [← hpre] at HI
  obtain ⟨B, hB⟩ : ∃ B, B = w5.heap.size := ⟨_, rfl⟩
  rw [← hB] at HI
  clear hpre ho6 hb6 hB HB5 HG5 HK5 HY5 hs5 HG4 HB4 HK4 HB3 HG3 HK3 HB2 HG2 HBA HSZ hs2
  go_wp2
  go_loopw [6, 7] (fun v6 i7 wr => ∃ (k : Nat) (av : Option Addr) (cv : Nat), k ≤ 32 ∧ i7 = .int .i64 (k : Int) ∧ v6 = .slice av (64 + k) cv ∧ Hid (SI w wr B gs pre y v6 k)) (fun _ i7 _ => 32 - (intOf i7).toNat)
  case atStart => exact ⟨0, _, _, by omega, rfl, rfl, HI⟩
  case round =>
    clear HI
    obtain ⟨k, av, cv, hk, rfl, rfl, HI⟩ := hrel
    by_cases hlt : k < 32
    · have hky : k < y.length := by have := HYL.out; omega
      have c0 : wr.cell? ⟨gs, k, none⟩ = some (.int .u8 (y[k].toNat : Int)) := by
        rw [cell_of_row _ _ _ _ _ _ HI.out.2.2.2.1]
        simp [hky, u8v]
      obtain ⟨z, hz⟩ : ∃ z, z = y[k] := ⟨_, rfl⟩
      rw [← hz] at c0
      have HZ := Lib.hid hz
      have hz8 := UInt8.toNat_lt z
      have O0 : Hid ((wr.alloc (.cells #[.int .u8 (z.toNat : Int)] 5)).ownsRow B 5 1 (.slice av (64 + k) cv) (64 + k) ((pre ++ y.take k).map u8v)) := by
        have := HI.out.1
        rw [HPL.out] at this
        exact this.alloc _
      have P0 : Hid (Rd (wr.alloc (.cells #[.int .u8 (z.toNat : Int)] 5)) 1 (.slice (some ⟨wr.heap.size, 0, none⟩) 1 1) 1 [.int .u8 (z.toNat : Int)]) := rd_new wr [.int .u8 (z.toNat : Int)] 5 1 1 rfl (by decide)
      have C0 : Hid (∀ u ∈ [Value.int .u8 (z.toNat : Int)], u.oneCell' = true) := by intro u hu; simp at hu; rw [hu]; rfl
      have S0 : Hid (B ≤ (wr.alloc (.cells #[.int .u8 (z.toNat : Int)] 5)).heap.size) := by show _ ≤ _; rw [World.size_alloc]; have := HI.out.2.2.2.2.2.2; omega
      clear hz
      go_wp2_with (at_builtin; refine wpList_append_rd _ rfl _ _ 22 rfl B 5 i0 (.int .u8 0) 1 1 Tryd.underlying22 hi hz0 hz1 hz2 rfl (by decide) _ _ _ rfl O0.out _ _ _ rfl P0.out C0.out ?o3 (by decide) S0.out ?_)
      case o3 => omega
      intro v7 w7 hown7 hb7
      have HI2 : Hid (SI w w7 B gs pre y v7 (k + 1)) := by
        refine HI.out.next hky hb7 ?_
        rw [HPL.out, ← HZ.out]
        simp only [List.map_append, List.map_take, List.append_assoc]
        exact hown7
      obtain ⟨a7, c7, hv7, _, _⟩ := (own_rd hown7).shape
      subst hv7
      clear hown7 hb7 O0 P0 C0 S0
      go_wp2
      go_roundw
      case rel =>
        first | exact ⟨k + 1, a7, c7, by omega, by go_num, rfl, HI2⟩ | ((repeat apply Exists.intro); exact ⟨⟨k + 1, a7, c7, by omega, by go_num, rfl, HI2⟩, rfl⟩)
      case measure => simp [intOf]; omega
    · obtain rfl : k = 32 := by omega
      have V : Hid (Bs wr (.slice av (64 + 32) cv) (outerL key y)) := by
        have h := own_rd HI.out.1
        rw [List.take_of_length_le (by have := HYL.out; omega), HPL.out] at h
        show Bs _ _ _
        unfold Bs
        rw [outerL_length, HYL.out]
        have e : outerL key y = pre ++ y := by rw [HP.out]; rfl
        rw [e]
        exact h
      have HLN : Hid ((outerL key y).length = 64 + 32) := by show _ = _; rw [outerL_length, HYL.out]
      have HS2 := Lib.hid (rsum_any av (64 + 32) cv (outerL key y) HLN.out wr V.out (by have := HLN.out; omega))
      have HE : Hid (sumL (outerL key y) = hmacL key msg) := by show _ = _; rw [HY.out, HX.out]; rfl
      rw [HE.out] at HS2
      have HBr := Lib.hid HI.out.2.1
      have HGr := Lib.hid HI.out.2.2.1
      clear HI V
      go_wp2_with fail
      refine HS2.out.mono ?_
      rintro e w8 ⟨rfl, hb8⟩
      have HB8 := Lib.hid (HBr.out.trans (hb8.mono HBr.out.size))
      have HG8 := Lib.hid (heap_below HGr.out hb8)
      clear hb8
      go_wp2_with (with_reducible refine wpList_store_row rfl 56 (.tmp 4) (.tmp 26) rfl w.heap.size _ rfl rfl 56 _ HG8.out ?a1 ?a2 ?a3 ?_)
      case a1 => exact size32l _ (hmacL_length _ _)
      case a2 => show z32.size = ((hmacL key msg).map u8v).length; rw [List.length_map, hmacL_length]; rfl
      case a3 => exact all_oneCell_toArray (oneCell_u8 _)
      intro w9 h1 h2 _
      have H9 := Lib.hid h1
      have HB9 := Lib.hid (h2 _ _ (Nat.le_refl _) HB8.out)
      clear h1 h2
      go_wp2
      refine bodyPost_ret (v := .agg ((hmacL key msg).map u8v).toArray) (results_cell_row Tryd.results29 _ _ w.heap.size 56 _ (0, 0) _ rfl H9.out Tryd.underlying56 rfl (size32l _ (hmacL_length _ _))) rfl ?_
      exact ⟨rfl, HB9.out⟩
end Go.Proofs.YtjlacialbfhjcaaDoor
