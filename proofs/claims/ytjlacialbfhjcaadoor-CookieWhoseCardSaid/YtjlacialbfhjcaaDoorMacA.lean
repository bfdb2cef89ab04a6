/-
  hmac.keyBlock; the closure of hmac.New, which begins a sum with the key's block turned by a byte.
-/
import Derived.Test.YtjlacialbfhjcaaDoorShaN
import Derived.Test.YtjlacialbfhjcaaDoorMacP
import Derived.Test.YtjlacialbfhjcaaDoorEqual
namespace Go.Proofs.YtjlacialbfhjcaaDoor
open Go.RowKit
set_option linter.unusedVariables false
set_option linter.unusedSimpArgs false

def z64 : Array Value := (List.replicate 64 (Value.int .u8 0)).toArray
theorem size64l (l : List UInt8) (h : l.length = 64) : (Tryd.prog.info? 69).map (·.size) = some (l.map u8v).toArray.size := by rw [List.size_toArray, List.length_map, h]; exact size64b
theorem size64m (l : List UInt8) (h : l.length = 64) : (Tryd.prog.info? 69).map (·.size) = some (l.map u8v).length := by rw [List.length_map, h]; exact size64b
def zl64 : List Value := List.replicate 64 (Value.int .u8 0)
theorem zl64_length : zl64.length = 64 := rfl
theorem keyB_cells (key : List UInt8) : splice zl64 0 ((keyL key).map u8v) = (keyB key).map u8v := by
  unfold splice keyB zl64
  simp only [List.take_zero, List.nil_append, List.length_map, Nat.zero_add, List.drop_replicate, List.map_append, List.map_replicate]
  rfl
theorem rd_row {w : World} {g : Nat} {cs : List Value} {t : TypeId} {fr : Nat × Nat} (h : w.heap[g]? = some (.cells cs.toArray t fr)) (n : Nat) (hn : cs.length = n) (hm : n ≤ maxLen) : Rd w 1 (.slice (some ⟨g, 0, none⟩) n n) n cs := by
  refine ⟨by omega, _, n, rfl, Nat.le_refl _, hm, (fun h => by cases h), fun ad had j u hu => ?_⟩
  obtain rfl := Option.some.inj had
  rw [Addr.add_lit, Nat.zero_add, cell_of_row _ _ _ _ _ _ h]
  simpa using hu
theorem heap2_0 (w : World) (o p : Obj) : ((w.alloc o).alloc p).heap[w.heap.size]? = some o := by
  rw [Below.heap_alloc _ _ _ (by simp), heap_alloc_last]
theorem heap2_1 (w : World) (o p : Obj) : ((w.alloc o).alloc p).heap[w.heap.size + 1]? = some p := by
  have := heap_alloc_last (w.alloc o) p
  rwa [World.size_alloc] at this

set_option maxHeartbeats 1000000 in
theorem keyBlock_any (ao : Option Addr) (n c : Nat) (l : List UInt8) (hn : l.length = n) (w : World) (hb : Bs w (.slice ao n c) l) (hL : Laid w) (hl : l.length < 1152921504606846976) :
    Calls Tryd.prog 38 #[.slice ao n c] w fun e w' => e = .returned (.agg ((keyB l).map u8v).toArray) ∧ Below w.heap.size w w' := by
  have BA : Below w.heap.size w ((w.alloc (.cells z64 69)).alloc (.cells z64 69)) := ((Below.refl _ _).alloc (Nat.le_refl _) _).alloc (by simp) _
  have HBA := Lib.hid BA
  have HV := Lib.hid (hb.below BA)
  have HLD := Lib.hid (hL.below BA)
  have HG0 : Hid (((w.alloc (.cells z64 69)).alloc (.cells z64 69)).heap[w.heap.size]? = some (.cells z64 69 (0, 0))) := heap2_0 _ _ _
  have HG1 : Hid (((w.alloc (.cells z64 69)).alloc (.cells z64 69)).heap[w.heap.size + 1]? = some (.cells z64 69 (0, 0))) := heap2_1 _ _ _
  obtain ⟨_, _, es0, hc0, hm0⟩ := hb.shape
  simp only [Value.slice.injEq] at es0
  obtain ⟨rfl, z0, rfl⟩ := es0
  clear z0
  have HN := Lib.hid hn
  have hsl : ∀ (g : Nat) w', (Instr.sliceAt 69 (.pointer (some ⟨g, 0, none⟩)) none none none).run Tryd.prog w' = .ok (.slice (some ⟨g, 0, none⟩) 64 64) w' := fun g w' => by
    rw [run_sliceAt_array_all w' 69 ⟨g, 0, none⟩ (by kernel_rfl)]; rfl
  clear hb BA hL hn
  by_cases h64 : 64 < n
  · have hk : keyL l = sumL l := by unfold keyL; rw [if_pos (by have := HN.out; omega)]
    have HK := Lib.hid hk
    clear hk
    go_enter Tryd.func38, Tryd.ntmps38
    go_wp2_with fail
    change Calls Tryd.prog 48 _ ((w.alloc (.cells z64 69)).alloc (.cells z64 69)) _
    generalize (w.alloc (.cells z64 69)).alloc (.cells z64 69) = w1 at HBA HV HLD HG0 HG1 ⊢
    refine (sum_any ao n c l HN.out w1 HV.out HLD.out hl).mono ?_
    rintro e w2 ⟨rfl, hb2⟩
    have HB2 := Lib.hid (HBA.out.trans (hb2.mono HBA.out.size))
    have HG02 := Lib.hid (heap_below HG0.out hb2)
    have HG12 := Lib.hid (heap_below HG1.out hb2)
    have hs12 : w.heap.size + 1 < w2.heap.size := (Array.getElem?_eq_some_iff.1 HG12.out).1
    clear hb2
    go_wp2_with (with_reducible refine wpList_store_row rfl 56 (.tmp 4) (.tmp 9) rfl w2.heap.size _ rfl rfl 56 z32 (heap_alloc_last _ _) ?a1 ?a2 ?a3 ?_)
    case a1 => exact size32l _ (St.bytes_length _)
    case a2 => show z32.size = ((sumL l).map u8v).length; rw [List.length_map, sumL_length]; rfl
    case a3 => exact all_oneCell_toArray (oneCell_u8 _)
    intro w3 h1 h2 h3
    have HS3 : Hid (Bs w3 (.slice (some ⟨w2.heap.size, 0, none⟩) 32 32) (keyL l)) := by
      show Bs _ _ _
      rw [HK.out]
      unfold Bs
      rw [sumL_length]
      exact rd_row (cs := (sumL l).map u8v) h1 32 (by rw [List.length_map, sumL_length]) (by decide)
    have HB3 := Lib.hid (h2 _ _ (by omega) (HB2.out.alloc HB2.out.size _))
    have HG03 : Hid (w3.heap[w.heap.size]? = some (.cells z64 69 (0, 0))) := by
      show _ = _
      rw [h3 _ (by omega), Below.heap_alloc _ _ _ (by omega)]; exact HG02.out
    have HG13 : Hid (w3.heap[w.heap.size + 1]? = some (.cells zl64.toArray 69 (0, 0))) := by
      show _ = _
      rw [h3 _ (by omega), Below.heap_alloc _ _ _ (by omega)]; exact HG12.out
    have HLK : Hid ((keyL l).length = 32) := by show _ = _; rw [HK.out, sumL_length]
    have hsl2 : ∀ (g : Nat) w', (Instr.sliceAt 56 (.pointer (some ⟨g, 0, none⟩)) none none none).run Tryd.prog w' = .ok (.slice (some ⟨g, 0, none⟩) 32 32) w' := fun g w' => by
      rw [run_sliceAt_array_all w' 56 ⟨g, 0, none⟩ (by kernel_rfl)]; rfl
    clear h1 h2 h3
    go_wp2_with (with_reducible refine wpList_copy_only rfl (.tmp 11) (.tmp 12) 22 22 rfl 5 Tryd.underlying22 ?b1 (w.heap.size + 1) 0 64 64 _ _ _ rfl rfl zl64 69 HG13.out ((keyL l).map u8v) ?b2 ?b3 ?b4 ?b5 ?_)
    case b1 => kernel_rfl
    case b2 => rw [List.length_map, HLK.out]; rfl
    case b3 => exact bs_pos HS3.out
    case b4 => rw [List.length_map, HLK.out, zl64_length]; decide
    case b5 => exact oneCell_u8 _
    intro w4 h4 ho4
    rw [keyB_cells] at h4
    have HR4 := Lib.hid (range_of_row h4)
    have HG04 : Hid (w4.heap[w.heap.size]? = some (.cells z64 69 (0, 0))) := by
      show _ = _
      rw [ho4.heap _ (Array.getElem?_eq_some_iff.1 HG03.out).1 (by omega)]; exact HG03.out
    have HB4 := Lib.hid (ho4.below _ _ (by omega) HB3.out)
    clear h4 ho4
    go_wp2_with (first | (with_reducible refine wpList_load_mid rfl 69 (.tmp 3) rfl (w.heap.size + 1) 0 rfl ((keyB l).map u8v) _ HR4.out Tryd.underlying69 rfl ?e0 ?_) | (with_reducible refine wpList_store_row rfl 69 (.tmp 2) (.tmp 14) rfl w.heap.size ((keyB l).map u8v).toArray rfl rfl 69 z64 HG04.out ?e1 ?e2 ?e3 ?_))
    case e0 => exact size64m _ (keyB_length l)
    case e1 => exact size64l _ (keyB_length l)
    case e2 => show z64.size = ((keyB l).map u8v).length; rw [List.length_map, keyB_length]; rfl
    case e3 => exact all_oneCell_toArray (oneCell_u8 _)
    intro w5 h1 h2 _
    have H1 := Lib.hid h1
    have H5 := Lib.hid (h2 _ _ (Nat.le_refl _) HB4.out)
    clear h1 h2
    go_wp2
    refine bodyPost_ret (v := .agg ((keyB l).map u8v).toArray) (results_cell_row Tryd.results38 _ _ w.heap.size 69 _ (0, 0) _ rfl H1.out Tryd.underlying69 rfl (size64l _ (keyB_length l))) rfl ?_
    exact ⟨rfl, H5.out⟩
  · have hk : keyL l = l := by unfold keyL; rw [if_neg (by have := HN.out; omega)]
    have HLK : Hid ((keyL l).length = n) := by show _ = _; rw [hk]; exact HN.out
    have HS3 : Hid (Bs ((w.alloc (.cells #[.int .u8 0, .int .u8 0, .int .u8 0, .int .u8 0, .int .u8 0, .int .u8 0, .int .u8 0, .int .u8 0, .int .u8 0, .int .u8 0, .int .u8 0, .int .u8 0, .int .u8 0, .int .u8 0, .int .u8 0, .int .u8 0, .int .u8 0, .int .u8 0, .int .u8 0, .int .u8 0, .int .u8 0, .int .u8 0, .int .u8 0, .int .u8 0, .int .u8 0, .int .u8 0, .int .u8 0, .int .u8 0, .int .u8 0, .int .u8 0, .int .u8 0, .int .u8 0, .int .u8 0, .int .u8 0, .int .u8 0, .int .u8 0, .int .u8 0, .int .u8 0, .int .u8 0, .int .u8 0, .int .u8 0, .int .u8 0, .int .u8 0, .int .u8 0, .int .u8 0, .int .u8 0, .int .u8 0, .int .u8 0, .int .u8 0, .int .u8 0, .int .u8 0, .int .u8 0, .int .u8 0, .int .u8 0, .int .u8 0, .int .u8 0, .int .u8 0, .int .u8 0, .int .u8 0, .int .u8 0, .int .u8 0, .int .u8 0, .int .u8 0, .int .u8 0] 69)).alloc (.cells #[.int .u8 0, .int .u8 0, .int .u8 0, .int .u8 0, .int .u8 0, .int .u8 0, .int .u8 0, .int .u8 0, .int .u8 0, .int .u8 0, .int .u8 0, .int .u8 0, .int .u8 0, .int .u8 0, .int .u8 0, .int .u8 0, .int .u8 0, .int .u8 0, .int .u8 0, .int .u8 0, .int .u8 0, .int .u8 0, .int .u8 0, .int .u8 0, .int .u8 0, .int .u8 0, .int .u8 0, .int .u8 0, .int .u8 0, .int .u8 0, .int .u8 0, .int .u8 0, .int .u8 0, .int .u8 0, .int .u8 0, .int .u8 0, .int .u8 0, .int .u8 0, .int .u8 0, .int .u8 0, .int .u8 0, .int .u8 0, .int .u8 0, .int .u8 0, .int .u8 0, .int .u8 0, .int .u8 0, .int .u8 0, .int .u8 0, .int .u8 0, .int .u8 0, .int .u8 0, .int .u8 0, .int .u8 0, .int .u8 0, .int .u8 0, .int .u8 0, .int .u8 0, .int .u8 0, .int .u8 0, .int .u8 0, .int .u8 0, .int .u8 0, .int .u8 0] 69)) (.slice ao n c) (keyL l)) := by rw [hk]; exact HV
    have HG13 : Hid (((w.alloc (.cells #[.int .u8 0, .int .u8 0, .int .u8 0, .int .u8 0, .int .u8 0, .int .u8 0, .int .u8 0, .int .u8 0, .int .u8 0, .int .u8 0, .int .u8 0, .int .u8 0, .int .u8 0, .int .u8 0, .int .u8 0, .int .u8 0, .int .u8 0, .int .u8 0, .int .u8 0, .int .u8 0, .int .u8 0, .int .u8 0, .int .u8 0, .int .u8 0, .int .u8 0, .int .u8 0, .int .u8 0, .int .u8 0, .int .u8 0, .int .u8 0, .int .u8 0, .int .u8 0, .int .u8 0, .int .u8 0, .int .u8 0, .int .u8 0, .int .u8 0, .int .u8 0, .int .u8 0, .int .u8 0, .int .u8 0, .int .u8 0, .int .u8 0, .int .u8 0, .int .u8 0, .int .u8 0, .int .u8 0, .int .u8 0, .int .u8 0, .int .u8 0, .int .u8 0, .int .u8 0, .int .u8 0, .int .u8 0, .int .u8 0, .int .u8 0, .int .u8 0, .int .u8 0, .int .u8 0, .int .u8 0, .int .u8 0, .int .u8 0, .int .u8 0, .int .u8 0] 69)).alloc (.cells #[.int .u8 0, .int .u8 0, .int .u8 0, .int .u8 0, .int .u8 0, .int .u8 0, .int .u8 0, .int .u8 0, .int .u8 0, .int .u8 0, .int .u8 0, .int .u8 0, .int .u8 0, .int .u8 0, .int .u8 0, .int .u8 0, .int .u8 0, .int .u8 0, .int .u8 0, .int .u8 0, .int .u8 0, .int .u8 0, .int .u8 0, .int .u8 0, .int .u8 0, .int .u8 0, .int .u8 0, .int .u8 0, .int .u8 0, .int .u8 0, .int .u8 0, .int .u8 0, .int .u8 0, .int .u8 0, .int .u8 0, .int .u8 0, .int .u8 0, .int .u8 0, .int .u8 0, .int .u8 0, .int .u8 0, .int .u8 0, .int .u8 0, .int .u8 0, .int .u8 0, .int .u8 0, .int .u8 0, .int .u8 0, .int .u8 0, .int .u8 0, .int .u8 0, .int .u8 0, .int .u8 0, .int .u8 0, .int .u8 0, .int .u8 0, .int .u8 0, .int .u8 0, .int .u8 0, .int .u8 0, .int .u8 0, .int .u8 0, .int .u8 0, .int .u8 0] 69)).heap[w.heap.size + 1]? = some (.cells zl64.toArray 69 (0, 0))) := HG1
    have HG03 : Hid (((w.alloc (.cells #[.int .u8 0, .int .u8 0, .int .u8 0, .int .u8 0, .int .u8 0, .int .u8 0, .int .u8 0, .int .u8 0, .int .u8 0, .int .u8 0, .int .u8 0, .int .u8 0, .int .u8 0, .int .u8 0, .int .u8 0, .int .u8 0, .int .u8 0, .int .u8 0, .int .u8 0, .int .u8 0, .int .u8 0, .int .u8 0, .int .u8 0, .int .u8 0, .int .u8 0, .int .u8 0, .int .u8 0, .int .u8 0, .int .u8 0, .int .u8 0, .int .u8 0, .int .u8 0, .int .u8 0, .int .u8 0, .int .u8 0, .int .u8 0, .int .u8 0, .int .u8 0, .int .u8 0, .int .u8 0, .int .u8 0, .int .u8 0, .int .u8 0, .int .u8 0, .int .u8 0, .int .u8 0, .int .u8 0, .int .u8 0, .int .u8 0, .int .u8 0, .int .u8 0, .int .u8 0, .int .u8 0, .int .u8 0, .int .u8 0, .int .u8 0, .int .u8 0, .int .u8 0, .int .u8 0, .int .u8 0, .int .u8 0, .int .u8 0, .int .u8 0, .int .u8 0] 69)).alloc (.cells #[.int .u8 0, .int .u8 0, .int .u8 0, .int .u8 0, .int .u8 0, .int .u8 0, .int .u8 0, .int .u8 0, .int .u8 0, .int .u8 0, .int .u8 0, .int .u8 0, .int .u8 0, .int .u8 0, .int .u8 0, .int .u8 0, .int .u8 0, .int .u8 0, .int .u8 0, .int .u8 0, .int .u8 0, .int .u8 0, .int .u8 0, .int .u8 0, .int .u8 0, .int .u8 0, .int .u8 0, .int .u8 0, .int .u8 0, .int .u8 0, .int .u8 0, .int .u8 0, .int .u8 0, .int .u8 0, .int .u8 0, .int .u8 0, .int .u8 0, .int .u8 0, .int .u8 0, .int .u8 0, .int .u8 0, .int .u8 0, .int .u8 0, .int .u8 0, .int .u8 0, .int .u8 0, .int .u8 0, .int .u8 0, .int .u8 0, .int .u8 0, .int .u8 0, .int .u8 0, .int .u8 0, .int .u8 0, .int .u8 0, .int .u8 0, .int .u8 0, .int .u8 0, .int .u8 0, .int .u8 0, .int .u8 0, .int .u8 0, .int .u8 0, .int .u8 0] 69)).heap[w.heap.size]? = some (.cells z64 69 (0, 0))) := HG0
    have HB3 : Hid (Below w.heap.size w ((w.alloc (.cells #[.int .u8 0, .int .u8 0, .int .u8 0, .int .u8 0, .int .u8 0, .int .u8 0, .int .u8 0, .int .u8 0, .int .u8 0, .int .u8 0, .int .u8 0, .int .u8 0, .int .u8 0, .int .u8 0, .int .u8 0, .int .u8 0, .int .u8 0, .int .u8 0, .int .u8 0, .int .u8 0, .int .u8 0, .int .u8 0, .int .u8 0, .int .u8 0, .int .u8 0, .int .u8 0, .int .u8 0, .int .u8 0, .int .u8 0, .int .u8 0, .int .u8 0, .int .u8 0, .int .u8 0, .int .u8 0, .int .u8 0, .int .u8 0, .int .u8 0, .int .u8 0, .int .u8 0, .int .u8 0, .int .u8 0, .int .u8 0, .int .u8 0, .int .u8 0, .int .u8 0, .int .u8 0, .int .u8 0, .int .u8 0, .int .u8 0, .int .u8 0, .int .u8 0, .int .u8 0, .int .u8 0, .int .u8 0, .int .u8 0, .int .u8 0, .int .u8 0, .int .u8 0, .int .u8 0, .int .u8 0, .int .u8 0, .int .u8 0, .int .u8 0, .int .u8 0] 69)).alloc (.cells #[.int .u8 0, .int .u8 0, .int .u8 0, .int .u8 0, .int .u8 0, .int .u8 0, .int .u8 0, .int .u8 0, .int .u8 0, .int .u8 0, .int .u8 0, .int .u8 0, .int .u8 0, .int .u8 0, .int .u8 0, .int .u8 0, .int .u8 0, .int .u8 0, .int .u8 0, .int .u8 0, .int .u8 0, .int .u8 0, .int .u8 0, .int .u8 0, .int .u8 0, .int .u8 0, .int .u8 0, .int .u8 0, .int .u8 0, .int .u8 0, .int .u8 0, .int .u8 0, .int .u8 0, .int .u8 0, .int .u8 0, .int .u8 0, .int .u8 0, .int .u8 0, .int .u8 0, .int .u8 0, .int .u8 0, .int .u8 0, .int .u8 0, .int .u8 0, .int .u8 0, .int .u8 0, .int .u8 0, .int .u8 0, .int .u8 0, .int .u8 0, .int .u8 0, .int .u8 0, .int .u8 0, .int .u8 0, .int .u8 0, .int .u8 0, .int .u8 0, .int .u8 0, .int .u8 0, .int .u8 0, .int .u8 0, .int .u8 0, .int .u8 0, .int .u8 0] 69))) := HBA
    clear hk HBA HV HLD HG0 HG1
    have F1 : Hid ((Tryd.prog.info? 5).map (·.size) = some 1) := by show _ = _; kernel_rfl
    have F2 : Hid (((keyL l).map u8v).length = Nat.min n 64) := by show _ = _; rw [List.length_map, HLK.out]; show n = min n 64; omega
    have F3 := Lib.hid (bs_pos HS3.out)
    have F4 : Hid (0 + ((keyL l).map u8v).length ≤ zl64.length) := by show _ ≤ _; rw [List.length_map, HLK.out, zl64_length]; omega
    have F5 := Lib.hid (oneCell_u8 (keyL l))
    unfold maxLen at hm0
    go_enter Tryd.func38, Tryd.ntmps38
    go_wp2_with (with_reducible refine wpList_copy_only rfl (.tmp 11) (.tmp 12) 22 22 rfl 5 Tryd.underlying22 F1.out (w.heap.size + 1) 0 64 64 _ _ _ rfl rfl zl64 69 HG13.out ((keyL l).map u8v) F2.out F3.out F4.out F5.out ?_)
    intro w4 h4 ho4
    rw [keyB_cells] at h4
    have HR4 := Lib.hid (range_of_row h4)
    have HG04 : Hid (w4.heap[w.heap.size]? = some (.cells z64 69 (0, 0))) := by
      show _ = _
      rw [ho4.heap _ (Array.getElem?_eq_some_iff.1 HG03.out).1 (by omega)]; exact HG03.out
    have HB4 := Lib.hid (ho4.below _ _ (by omega) HB3.out)
    clear h4 ho4
    go_wp2_with (first | (with_reducible refine wpList_load_mid rfl 69 (.tmp 3) rfl (w.heap.size + 1) 0 rfl ((keyB l).map u8v) _ HR4.out Tryd.underlying69 rfl ?e0 ?_) | (with_reducible refine wpList_store_row rfl 69 (.tmp 2) (.tmp 14) rfl w.heap.size ((keyB l).map u8v).toArray rfl rfl 69 z64 HG04.out ?e1 ?e2 ?e3 ?_))
    case e0 => exact size64m _ (keyB_length l)
    case e1 => exact size64l _ (keyB_length l)
    case e2 => show z64.size = ((keyB l).map u8v).length; rw [List.length_map, keyB_length]; rfl
    case e3 => exact all_oneCell_toArray (oneCell_u8 _)
    intro w5 h1 h2 _
    have H1 := Lib.hid h1
    have H5 := Lib.hid (h2 _ _ (Nat.le_refl _) HB4.out)
    clear h1 h2
    go_wp2
    refine bodyPost_ret (v := .agg ((keyB l).map u8v).toArray) (results_cell_row Tryd.results38 _ _ w.heap.size 69 _ (0, 0) _ rfl H1.out Tryd.underlying69 rfl (size64l _ (keyB_length l))) rfl ?_
    exact ⟨rfl, H5.out⟩

/-- The first k bytes of a block turned by a byte. -/
def turnK (l : List UInt8) (b : UInt8) (k : Nat) : List UInt8 := turnL (l.take k) b ++ l.drop k
theorem turnK_zero (l : List UInt8) (b : UInt8) : turnK l b 0 = l := by simp [turnK, turnL]
theorem turnK_full (l : List UInt8) (b : UInt8) (k : Nat) (h : l.length ≤ k) : turnK l b k = turnL l b := by simp [turnK, List.take_of_length_le h, List.drop_of_length_le h]
theorem turnK_length (l : List UInt8) (b : UInt8) (k : Nat) : (turnK l b k).length = l.length := by simp [turnK, turnL]; omega
theorem turnK_at (l : List UInt8) (b : UInt8) (k : Nat) (h : k < l.length) : (turnK l b k)[k]? = some l[k] := by
  have hl : (turnL (l.take k) b).length = k := by rw [turnL_length, List.length_take]; omega
  unfold turnK
  rw [List.getElem?_append_right (by omega), hl, Nat.sub_self, List.getElem?_drop, Nat.add_zero, List.getElem?_eq_getElem h]
theorem turnK_step (l : List UInt8) (b : UInt8) (k : Nat) (h : k < l.length) : ((turnK l b k).map u8v).set k (.int .u8 ((l[k].toNat ^^^ b.toNat : Nat) : Int)) = (turnK l b (k + 1)).map u8v := by
  have hl : (turnL (l.take k) b).length = k := by rw [turnL_length, List.length_take]; omega
  have e : Value.int .u8 ((l[k].toNat ^^^ b.toNat : Nat) : Int) = u8v (l[k] ^^^ b) := by unfold u8v; rw [UInt8.toNat_xor]
  rw [e, ← List.map_set]
  congr 1
  unfold turnK
  rw [List.set_append_right _ _ (by omega), hl, Nat.sub_self, List.drop_eq_getElem_cons h, List.set_cons_zero, List.take_succ_eq_append_getElem h]
  simp only [turnL, List.map_append, List.map_cons, List.map_nil, List.append_assoc, List.singleton_append]
set_option maxHeartbeats 1000000 in
theorem begin2_any (gb : Nat) (b : UInt8) (l : List UInt8) (hl : l.length = 64) (w : World) (hg : w.heap[gb]? = some (.cells (l.map u8v).toArray 69 (0, 0))) (hL : Laid w) :
    Calls Tryd.prog 39 #[.int .u8 (b.toNat : Int), .pointer (some ⟨gb, 0, none⟩)] w fun e w' => ∃ g, e = .returned (.pointer (some ⟨g, 0, none⟩)) ∧ w.heap.size ≤ g ∧ HashAt w' g (turnL l b) ∧ Below w.heap.size w w' := by
  have HR := Lib.hid (range_of_row hg)
  have HLD := Lib.hid hL
  have HL := Lib.hid hl
  have hW0 : 0 < w.heap.size := hL.1
  have hb8 := UInt8.toNat_lt b
  obtain ⟨i0, hi, hz0, hz1, hz2⟩ := info_parts info5
  have hsl : ∀ (g : Nat) w', (Instr.sliceAt 69 (.pointer (some ⟨g, 0, none⟩)) none none none).run Tryd.prog w' = .ok (.slice (some ⟨g, 0, none⟩) 64 64) w' := fun g w' => by
    rw [run_sliceAt_array_all w' 69 ⟨g, 0, none⟩ (by kernel_rfl)]; rfl
  clear hg hL hl
  go_enter Tryd.func39, Tryd.ntmps39
  go_wp2_with (first | (with_reducible refine wpList_load_mid rfl 69 (.tmp 1) rfl gb 0 rfl (l.map u8v) _ HR.out Tryd.underlying69 rfl ?e0 ?_) | (with_reducible refine wpList_store_row rfl 69 (.tmp 4) (.tmp 7) rfl w.heap.size (l.map u8v).toArray rfl rfl 69 z64 (heap_alloc_last _ _) ?e1 ?e2 ?e3 ?_))
  case e0 => exact size64m _ HL.out
  case e1 => exact size64l _ HL.out
  case e2 => show z64.size = (l.map u8v).length; rw [List.length_map, HL.out]; rfl
  case e3 => exact all_oneCell_toArray (oneCell_u8 _)
  intro w1 h1 h2 _
  have HI : Hid (w1.heap[w.heap.size]? = some (.cells ((turnK l b 0).map u8v).toArray 69 (0, 0)) ∧ Below w.heap.size w w1) := ⟨by rw [turnK_zero]; exact h1, h2 _ _ (Nat.le_refl _) ((Below.refl _ _).alloc (Nat.le_refl _) _)⟩
  clear h1 h2 HR
  go_wp2
  go_loopw [8] (fun i8 wr => ∃ k : Nat, k ≤ 64 ∧ i8 = .int .i64 k ∧ Hid (wr.heap[w.heap.size]? = some (.cells ((turnK l b k).map u8v).toArray 69 (0, 0)) ∧ Below w.heap.size w wr)) (fun i8 _ => 64 - (intOf i8).toNat)
  case atStart => exact ⟨0, by omega, rfl, HI⟩
  case round =>
    clear HI
    obtain ⟨k, hk, rfl, HI⟩ := hrel
    by_cases hlt : k < 64
    · have hk2 : k < l.length := by have := HL.out; omega
      have hx8 := UInt8.toNat_lt l[k]
      have c0 : wr.cell? ⟨w.heap.size, k, none⟩ = some (.int .u8 (l[k].toNat : Int)) := by
        rw [cell_of_row _ _ _ _ _ _ HI.out.1]
        have := turnK_at l b k hk2
        simp [this, u8v]
      have f0 : wr.frozen? ⟨w.heap.size, k, none⟩ = false := frozen_of_row _ _ _ _ _ HI.out.1
      obtain ⟨x, hx⟩ : ∃ x, x = l[k].toNat := ⟨_, rfl⟩
      obtain ⟨y, hy⟩ : ∃ y, y = b.toNat := ⟨_, rfl⟩
      rw [← hx] at c0 hx8
      rw [← hy] at hb8 ⊢
      have e1 := u8_xor_nat x y hx8 hb8
      obtain ⟨z, hz⟩ : ∃ z, z = x ^^^ y := ⟨_, rfl⟩
      rw [← hz] at e1
      have HI2 : Hid ((wr.setCell ⟨w.heap.size, k, none⟩ (.int .u8 (z : Int))).heap[w.heap.size]? = some (.cells ((turnK l b (k + 1)).map u8v).toArray 69 (0, 0)) ∧ Below w.heap.size w (wr.setCell ⟨w.heap.size, k, none⟩ (.int .u8 (z : Int)))) := by
        refine ⟨?_, HI.out.2.setCell (Nat.le_refl _) _⟩
        rw [heap_setCell_same _ _ _ _ _ _ HI.out.1, ← turnK_step l b k hk2, hz, hx, hy]
        simp
      clear hx hy hz
      go_wp2
      go_roundw
      case rel =>
        first | exact ⟨k + 1, by omega, by go_num, HI2⟩ | ((repeat apply Exists.intro); exact ⟨⟨k + 1, by omega, by go_num, HI2⟩, rfl⟩)
      case measure => simp [intOf]; omega
    · obtain rfl : k = 64 := by omega
      have h64 := HI.out.1
      rw [turnK_full l b 64 (by have := HL.out; omega)] at h64
      have HV : Hid (Bs wr (.slice (some ⟨w.heap.size, 0, none⟩) 64 64) (turnL l b)) := by
        show Bs _ _ _
        unfold Bs
        rw [turnL_length, HL.out]
        exact rd_row (cs := (turnL l b).map u8v) h64 64 (by rw [List.length_map, turnL_length]; exact HL.out) (by decide)
      have hwr : w.heap.size < wr.heap.size := (Array.getElem?_eq_some_iff.1 h64).1
      clear h64
      go_wp2_with fail
      refine (new_any wr).mono ?_
      rintro e w2 ⟨g, rfl, hg, hh, hb2⟩
      have H2 := Lib.hid hh
      have HV2 := Lib.hid (HV.out.below hb2)
      have HB2 := Lib.hid (HI.out.2.trans (hb2.mono HI.out.2.size))
      have HTL : Hid ((turnL l b).length = 64) := by show _ = _; rw [turnL_length]; exact HL.out
      have HOFF : Hid (0 < 64 → Off g (some ⟨w.heap.size, 0, none⟩)) := fun _ ad had => by
        obtain rfl := Option.some.inj had
        show w.heap.size ≠ g; omega
      clear hh hb2
      go_wp2_with fail
      refine (add_any g [] w2 H2.out (HLD.out.below HB2.out) (by omega) (some ⟨w.heap.size, 0, none⟩) 64 64 (turnL l b) HTL.out HV2.out HOFF.out (by simp; have := HTL.out; omega)).mono ?_
      rintro e w3 ⟨rfl, hh3, ho3⟩
      rw [List.nil_append] at hh3
      have H3 := Lib.hid hh3
      have HB3 := Lib.hid (ho3.below _ _ (by omega) HB2.out)
      clear hh3 ho3
      go_wp2
      go_ret
      exact ⟨g, rfl, by omega, H3.out, HB3.out⟩
end Go.Proofs.YtjlacialbfhjcaaDoor
