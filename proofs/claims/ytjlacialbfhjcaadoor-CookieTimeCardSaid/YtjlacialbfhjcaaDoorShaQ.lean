/-
  A text that grows, in plain words: the state behind its whole blocks, and the bytes that are left.
-/
import Derived.Test.YtjlacialbfhjcaaDoorShaP
import Derived.Laws.CopyOwn
namespace Go.Proofs.YtjlacialbfhjcaaDoor
open Go.RowKit
set_option linter.unusedVariables false
set_option linter.unusedSimpArgs false

/-- The state behind a text's whole blocks. -/
def hashS (t : List UInt8) : St := st0.run (t.length / 64) t
/-- The row of bytes that are left. -/
def LeftOK (left t : List UInt8) : Prop := left.length = 64 ∧ left.take (t.length % 64) = t.drop (64 * (t.length / 64))
theorem hashS_nil : hashS [] = st0 := rfl
theorem leftOK_nil (left : List UInt8) (h : left.length = 64) : LeftOK left [] := ⟨h, rfl⟩
theorem behind_take (t x : List UInt8) : (t ++ x).drop (64 * (t.length / 64)) = t.drop (64 * (t.length / 64)) ++ x := by
  rw [List.drop_append_of_le_length (by omega)]
theorem splice_left (left t x : List UInt8) (h : LeftOK left t) (hx : x.length ≤ 64 - t.length % 64) :
    (splice left (t.length % 64) x).length = 64 ∧ (splice left (t.length % 64) x).take (t.length % 64 + x.length) = (t ++ x).drop (64 * (t.length / 64)) := by
  obtain ⟨h1, h2⟩ := h
  have hr : t.length % 64 < 64 := Nat.mod_lt _ (by omega)
  refine ⟨by rw [length_splice _ _ _ (by omega), h1], ?_⟩
  have hl : (left.take (t.length % 64)).length = t.length % 64 := by rw [List.length_take]; omega
  rw [behind_take, ← h2, splice]
  rw [List.take_append, hl, List.take_of_length_le (by omega)]
  congr 1
  rw [Nat.add_sub_cancel_left, List.take_append_of_le_length (Nat.le_refl _), List.take_length]
/-- The block is not yet full. -/
theorem grow_part (left t x : List UInt8) (h : LeftOK left t) (hx : t.length % 64 + x.length < 64) :
    LeftOK (splice left (t.length % 64) x) (t ++ x) ∧ hashS (t ++ x) = hashS t := by
  obtain ⟨g1, g2⟩ := splice_left left t x h (by omega)
  have e1 : (t ++ x).length / 64 = t.length / 64 := by rw [List.length_append]; omega
  have e2 : (t ++ x).length % 64 = t.length % 64 + x.length := by rw [List.length_append]; omega
  refine ⟨⟨g1, by rw [e1, e2, g2]⟩, ?_⟩
  unfold hashS
  rw [e1, St.run_take _ _ _ _ (by omega)]
/-- The block is full. -/
theorem grow_full (left t x : List UInt8) (h : LeftOK left t) (hx : t.length % 64 + x.length = 64) :
    LeftOK (splice left (t.length % 64) x) (t ++ x) ∧ hashS (t ++ x) = (hashS t).step (splice left (t.length % 64) x) := by
  obtain ⟨g1, g2⟩ := splice_left left t x h (by omega)
  have e1 : (t ++ x).length / 64 = t.length / 64 + 1 := by rw [List.length_append]; omega
  have e2 : (t ++ x).length % 64 = 0 := by rw [List.length_append]; omega
  refine ⟨⟨g1, ?_⟩, ?_⟩
  · rw [e2, List.take_zero, List.drop_of_length_le]
    rw [e1, List.length_append]; omega
  · have g3 : splice left (t.length % 64) x = (t ++ x).drop (64 * (t.length / 64)) := by
      rw [← g2, List.take_of_length_le]
      rw [g1]; omega
    rw [g3]
    unfold hashS
    rw [e1, St.run_snoc st0, St.run_take _ _ _ _ (by omega), List.take_of_length_le]
    rw [← g3, g1]; omega
theorem sumS_hash (t : List UInt8) : sumS t = hashS (t ++ behindL t.length) := rfl
end Go.Proofs.YtjlacialbfhjcaaDoor
