/-
  A slice of the call's own that is written byte by byte: what a loop's rounds keep.
-/
import Derived.Test.YtbldcjngccmhpaaGen
namespace Go.Proofs.Ytbldcjngccmhpaa
open Go.RowKit
set_option linter.unusedVariables false
set_option linter.unusedSimpArgs false

/-- Block g alone has turned, and v (n bytes) can still be written. -/
def FI (w wr : World) (g base : Nat) (v : Value) (n : Nat) : Prop := Only g w wr ∧ ∃ ys : List UInt8, ys.length = n ∧ OwnB wr base 5 v ys
theorem FI.next {w wr : World} {g base n c i : Nat} {x : UInt8} (h : FI w wr g base (.slice (some ⟨g, 0, none⟩) n c) n) (hi : i < n) : FI w (wr.setCell ⟨g, i, none⟩ (.int .u8 (x.toNat : Int))) g base (.slice (some ⟨g, 0, none⟩) n c) n := by
  obtain ⟨ho, ys, hy, hown⟩ := h
  subst hy
  refine ⟨ho.trans (Only.setCell wr i _), ys.set i x, by simp, ?_⟩
  have := (World.ownsRow.stored hown i (.int .u8 (x.toNat : Int))).1
  unfold OwnB
  rw [List.length_set, List.map_set]
  exact this
theorem FI.at {w wr : World} {g base n c i : Nat} (h : FI w wr g base (.slice (some ⟨g, 0, none⟩) n c) n) (hi : i < n) : (∃ u, wr.cell? ⟨g, i, none⟩ = some u) ∧ wr.frozen? ⟨g, i, none⟩ = false := by
  obtain ⟨ho, ys, hy, hown⟩ := h
  subst hy
  refine ⟨?_, World.ownsRow.frozenAt hown _⟩
  rw [World.ownsRow.cellAt hown _ (by simp; omega)]
  exact ⟨_, List.getElem?_eq_getElem (by simp; omega)⟩
/-- The block that is written, if any. -/
theorem pick {w' w : World} {base : Nat} {a : Option Addr} {n c : Nat} {l : List UInt8} (h : OwnB w' base 5 (.slice a n c) l) (hl : l.length = n) : ∃ g, (n = 0 ∧ base + w.heap.size ≤ g ∨ a = some ⟨g, 0, none⟩ ∧ g < w'.heap.size) ∧ base ≤ g := by
  by_cases h0 : n = 0
  · exact ⟨base + w.heap.size, .inl ⟨h0, Nat.le_refl _⟩, Nat.le_add_right _ _⟩
  · obtain ⟨h1, ⟨_, h2⟩ | ⟨g, cap, cur, h2, h3, h4, _⟩⟩ := h
    · omega
    · simp only [Value.slice.injEq] at h2
      exact ⟨g, .inr ⟨h2.1, (Array.getElem?_eq_some_iff.1 h4).1⟩, h3⟩
theorem own_len {w : World} {base : Nat} {a : Option Addr} {n c : Nat} {l : List UInt8} (h : OwnB w base 5 (.slice a n c) l) : l.length = n := by
  obtain ⟨_, _, _, e1, h1, _, _⟩ := h.bs.sl
  simp only [Value.slice.injEq] at e1
  rw [e1.2.1, h1]

theorem own_max {w : World} {base : Nat} {a : Option Addr} {n c : Nat} {l : List UInt8} (h : OwnB w base 5 (.slice a n c) l) : n ≤ 9223372036854775807 := by
  obtain ⟨_, _, _, e1, _, h2, h3⟩ := h.bs.sl
  simp only [Value.slice.injEq] at e1
  obtain ⟨_, rfl, rfl⟩ := e1
  unfold maxLen at h3
  omega
/-- A byte that lies there, and what is written in its place. -/
theorem FI.byte {w wr : World} {g base n c i : Nat} (h : FI w wr g base (.slice (some ⟨g, 0, none⟩) n c) n) (hi : i < n) : (∃ z y : UInt8, wr.cell? ⟨g, i, none⟩ = some (.int .u8 (z.toNat : Int)) ∧ bits .xor .u8 (z.toNat : Int) 255 = (y.toNat : Int)) ∧ wr.frozen? ⟨g, i, none⟩ = false := by
  obtain ⟨ho, ys, hy, hown⟩ := h
  subst hy
  refine ⟨⟨ys[i], ys[i] ^^^ 255, ?_, ?_⟩, World.ownsRow.frozenAt hown _⟩
  · rw [World.ownsRow.cellAt hown _ (by simp; omega), List.getElem?_map, List.getElem?_eq_getElem hi]
    rfl
  · have := u8_xor_nat ys[i].toNat 255 (UInt8.toNat_lt _) (by decide)
    rw [show ((255 : Nat) : Int) = 255 from rfl] at this
    rw [this, UInt8.toNat_xor]
    rfl
end Go.Proofs.Ytbldcjngccmhpaa
