/-
  A constant's conversion ('[]byte("..")') behind other moves: its block bears a mark.
-/
import Derived.Test.YtjlacialbfhjcaaDoorOnly
namespace Go.Proofs.YtjlacialbfhjcaaDoor
open Go.RowKit
set_option linter.unusedVariables false
set_option linter.unusedSimpArgs false

theorem run_mark {P : Program} (w : World) (t e : TypeId) (g : Nat) (C : Array Value) (n c : Nat) (hg : w.heap[g]? = some (.cells C e (0, 0))) (ht : P.underlying t = some (.slice e)) (he : P.underlying e = some (.int .u8)) :
    ∃ wn, (convert t t (.slice (some ⟨g, 0, none⟩) n c)).run P w = .ok (.slice (some ⟨g, 0, none⟩) n c) wn ∧ Only g w wn ∧ wn.heap[g]? = some (.cells C e (C.size, C.size + 1)) := by
  have hsh : w.shape? g = some (e, C.size) := by
    unfold World.shape?
    rw [hg]
  have hh : (w.freeze ⟨g, C.size, none⟩ 1).heap = w.heap.modify g fun
      | .cells c elem (lo, hi) => .cells c elem (if lo == hi then (C.size, C.size + 1) else (min lo C.size, max hi (C.size + 1)))
      | o => o := by
    unfold World.freeze
    rw [if_neg (by decide)]
    rfl
  have hother : ∀ k, k ≠ g → (w.freeze ⟨g, C.size, none⟩ 1).heap[k]? = w.heap[k]? := fun k hk => by
    rw [hh, Array.getElem?_modify, if_neg (Ne.symm hk)]
  have hsz : (w.freeze ⟨g, C.size, none⟩ 1).heap.size = w.heap.size := by rw [hh, Array.size_modify]
  have hfz : w.freeze ⟨g, C.size, none⟩ 1 = { w with heap := (w.freeze ⟨g, C.size, none⟩ 1).heap } := by
    unfold World.freeze
    rw [if_neg (by decide)]
  refine ⟨w.freeze ⟨g, C.size, none⟩ 1, ?_, ⟨Nat.le_of_eq hsz.symm, fun B w0 hB hb => ⟨?_, ?_, ?_, ?_, fun k hk => ?_⟩, fun k _ hk => hother k hk⟩, ?_⟩
  · simp [convert, run_underlying ht, run_underlying he, markStringish, hsh]
  · rw [hfz]; exact hb.os
  · rw [hfz]; exact hb.tape
  · rw [hfz]; exact hb.output
  · rw [hsz]; exact hb.size
  · rw [hother k (by omega)]; exact hb.block k hk
  · rw [hh, Array.getElem?_modify, if_pos rfl, hg]
    rfl
end Go.Proofs.YtjlacialbfhjcaaDoor
