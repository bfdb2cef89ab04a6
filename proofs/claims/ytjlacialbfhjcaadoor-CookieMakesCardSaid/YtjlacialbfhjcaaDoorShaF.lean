import Derived.Test.YtjlacialbfhjcaaDoorShaE
import Derived.Test.YtjlacialbfhjcaaDoorOnly
namespace Go.Proofs.YtjlacialbfhjcaaDoor
open Go.RowKit
set_option linter.unusedVariables false
set_option linter.unusedSimpArgs false

/-- A Hash's cells. -/
def hcells (s : St) (left : List UInt8) (n : Nat) : List Value := .bool true :: (s.cells ++ (left.map u8v ++ [.int .i64 (n : Int)]))
theorem scells_length (s : St) : s.cells.length = 8 := rfl
theorem hcells_length (s : St) (left : List UInt8) (n : Nat) (h : left.length = 64) : (hcells s left n).length = 74 := by simp [hcells, scells_length, h]
theorem hcells_size (s : St) (left : List UInt8) (n : Nat) (h : left.length = 64) : (hcells s left n)[73]? = some (.int .i64 (n : Int)) := by
  unfold hcells
  rw [List.getElem?_cons_succ, List.getElem?_append_right (by rw [scells_length]; omega), List.getElem?_append_right (by rw [scells_length, List.length_map, h]; omega), scells_length, List.length_map, h]
  rfl
theorem hcells_setSize (s : St) (left : List UInt8) (n m : Nat) (h : left.length = 64) : (hcells s left n).set 73 (.int .i64 (m : Int)) = hcells s left m := by
  unfold hcells
  rw [List.set_cons_succ, List.set_append_right _ _ (by rw [scells_length]; omega), List.set_append_right _ _ (by rw [scells_length, List.length_map, h]; omega), scells_length, List.length_map, h]
  rfl
theorem hcells_splice (s : St) (left x : List UInt8) (n r : Nat) (h : left.length = 64) (hx : r + x.length ≤ 64) : splice (hcells s left n) (9 + r) (x.map u8v) = hcells s (splice left r x) n := by
  unfold splice hcells
  rw [show 9 + r = (8 + r) + 1 by omega, List.take_succ_cons, List.length_map, show 8 + r + 1 + x.length = (8 + r + x.length) + 1 by omega, List.drop_succ_cons]
  rw [List.take_append, List.take_of_length_le (by rw [scells_length]; omega), scells_length, Nat.add_sub_cancel_left, List.take_append_of_le_length (by rw [List.length_map, h]; omega)]
  rw [List.drop_append, List.drop_of_length_le (by rw [scells_length]; omega), scells_length, show 8 + r + x.length - 8 = r + x.length by omega, List.drop_append_of_le_length (by rw [List.length_map, h]; omega)]
  simp
theorem hcells_state (s t : St) (left : List UInt8) (n : Nat) : splice (hcells s left n) 1 t.cells = hcells t left n := by
  unfold splice hcells
  rw [scells_length, List.take_succ_cons, List.take_zero, show 1 + 8 = 8 + 1 by rfl, List.drop_succ_cons, List.drop_append_of_le_length (by rw [scells_length]; omega), List.drop_of_length_le (by rw [scells_length]; omega)]
  simp
/-- In block g lies a Hash of the text t. -/
def HashAt (w : World) (g : Nat) (t : List UInt8) : Prop := ∃ left, LeftOK left t ∧ w.heap[g]? = some (.cells (hcells (hashS t) left t.length).toArray 82 (0, 0))
theorem HashAt.lt {w : World} {g : Nat} {t : List UInt8} (h : HashAt w g t) : g < w.heap.size := by
  obtain ⟨left, _, hg⟩ := h
  exact (Array.getElem?_eq_some_iff.1 hg).1
theorem HashAt.below {w w' : World} {g : Nat} {t : List UInt8} (h : HashAt w g t) (hb : Below w.heap.size w w') : HashAt w' g t := by
  obtain ⟨left, hl, hg⟩ := h
  exact ⟨left, hl, heap_below hg hb⟩
theorem HashAt.only {w w' : World} {g g' : Nat} {t : List UInt8} (h : HashAt w g t) (hb : Only g' w w') (hn : g ≠ g') : HashAt w' g t := by
  have hlt := h.lt
  obtain ⟨left, hl, hg⟩ := h
  exact ⟨left, hl, by rw [hb.heap g hlt hn]; exact hg⟩
theorem HashAt.made {w : World} {g : Nat} {t : List UInt8} (h : HashAt w g t) : w.cell? ⟨g, 0, none⟩ = some (.bool true) := by
  obtain ⟨left, hl, hg⟩ := h
  rw [cell_of_row _ _ _ _ _ _ hg]; rfl
theorem HashAt.size {w : World} {g : Nat} {t : List UInt8} (h : HashAt w g t) : w.cell? ⟨g, 73, none⟩ = some (.int .i64 (t.length : Int)) := by
  obtain ⟨left, hl, hg⟩ := h
  rw [cell_of_row _ _ _ _ _ _ hg]
  have := hcells_size (hashS t) left t.length hl.1
  simpa using this
theorem HashAt.free {w : World} {g : Nat} {t : List UInt8} (h : HashAt w g t) (j : Nat) : w.frozen? ⟨g, j, none⟩ = false := by
  obtain ⟨left, hl, hg⟩ := h
  exact frozen_of_row _ _ _ _ _ hg

theorem isMade_yes (g : Nat) (w : World) (h : w.cell? ⟨g, 0, none⟩ = some (.bool true)) :
    Calls Tryd.prog 50 #[.pointer (some ⟨g, 0, none⟩)] w fun e w' => e = .returned (.bool true) ∧ w = w' := by
  go_enter Tryd.func50, Tryd.ntmps50
  go_wp2
  go_ret
  exact ⟨rfl, rfl⟩
theorem isMade_no (g : Nat) (w : World) (h : w.cell? ⟨g, 0, none⟩ = some (.bool false)) :
    Calls Tryd.prog 50 #[.pointer (some ⟨g, 0, none⟩)] w fun e w' => e = .returned (.bool false) ∧ w = w' := by
  go_enter Tryd.func50, Tryd.ntmps50
  go_wp2
  go_ret
  exact ⟨rfl, rfl⟩
theorem isMade_nil (w : World) :
    Calls Tryd.prog 50 #[.pointer none] w fun e w' => e = .returned (.bool false) ∧ w = w' := by
  go_enter Tryd.func50, Tryd.ntmps50
  go_wp2
  exact bodyPost_ret (v := .bool false) (by simp [results, Tryd.results50, go_sem]) rfl ⟨rfl, rfl⟩
theorem begin_lit (w : World) :
    Calls Tryd.prog 49 #[] w fun e w' => e = .returned (.agg #[.int .u32 1779033703, .int .u32 3144134277, .int .u32 1013904242, .int .u32 2773480762, .int .u32 1359893119, .int .u32 2600822924, .int .u32 528734635, .int .u32 1541459225]) ∧ Below w.heap.size w w' := begin_any w
theorem new_any (w : World) :
    Calls Tryd.prog 40 #[] w fun e w' => ∃ g, e = .returned (.pointer (some ⟨g, 0, none⟩)) ∧ w.heap.size ≤ g ∧ HashAt w' g [] ∧ Below w.heap.size w w' := by
  go_enter Tryd.func40, Tryd.ntmps40
  go_wp2_with fail
  refine (begin_lit _).mono ?_
  rintro e w1 ⟨rfl, hb⟩
  have HB := Lib.hid hb
  clear hb
  go_wp2_with (with_reducible refine wpList_build rfl 82 #[(0, .const (.bool true)), (1, .tmp 1)] rfl ?b1 ?_)
  case b1 => kernel_rfl
  go_ret
  refine ⟨w1.heap.size, rfl, HB.out.size, ⟨List.replicate 64 0, leftOK_nil _ (by simp), ?_⟩, HB.out.alloc HB.out.size _⟩
  rw [heap_alloc_last]
  kernel_rfl
end Go.Proofs.YtjlacialbfhjcaaDoor
