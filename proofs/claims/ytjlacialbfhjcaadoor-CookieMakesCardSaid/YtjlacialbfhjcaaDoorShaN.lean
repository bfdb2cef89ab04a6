import Derived.Test.YtjlacialbfhjcaaDoorShaL
import Derived.Test.YtjlacialbfhjcaaDoorShaM
namespace Go.Proofs.YtjlacialbfhjcaaDoor
open Go.RowKit
set_option linter.unusedVariables false
set_option linter.unusedSimpArgs false

/-- What a slice of bytes is as a text, in each world that only grew. -/
def Txt (w : World) (v : Value) (l : List UInt8) : Prop := ∀ w', Gr w w' → (convert 22 9 v).run Tryd.prog w' = .ok (.string ⟨l.toArray⟩) w'
theorem Txt.on {w w' : World} {v : Value} {l : List UInt8} (h : Txt w v l) (hg : Gr w w') : Txt w' v l := fun w'' k => h w'' (Gr.trans hg k)
theorem Bs.txt {w : World} {v : Value} {l : List UInt8} (h : Bs w v l) : Txt w v l := fun w' hg => run_string_of 22 9 5 Tryd.underlying22 Tryd.underlying5 Tryd.underlying9 (h.below hg)
/-- Where a slice lies that is not empty. -/
theorem Bs.low {w : World} {ao : Option Addr} {n c : Nat} {l : List UInt8} (h : Bs w (.slice ao n c) l) (hn : l.length = n) : 0 < n → ∀ ad, ao = some ad → ad.block < w.heap.size := by
  intro h0 ad had
  obtain ⟨b, o, h1, h2, _⟩ := h.cells (by omega)
  rw [h1] at had
  obtain rfl := Option.some.inj had
  exact h2
end Go.Proofs.YtjlacialbfhjcaaDoor
