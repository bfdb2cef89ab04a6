import Derived.Test.YtagfgkhadmoboaaDoorShaL
import Derived.Test.YtagfgkhadmoboaaDoorShaM
namespace Go.Proofs.YtagfgkhadmoboaaDoor
open Go.RowKit
set_option linter.unusedVariables false
set_option linter.unusedSimpArgs false

theorem cut_any (a : Option Addr) (n c : Nat) (w : World) (hn : n ≤ c) (hc : c ≤ maxLen):
    Calls Tryd.prog 18 #[.slice a n c] w fun e w' => e = .returned (.slice a (min n 400) c) ∧ w = w' := by
  unfold maxLen at hc
  by_cases h : n ≤ 400
  · have e : min n 400 = n := by omega
    rw [e]
    go_enter Tryd.func18, Tryd.ntmps18
    go_wp2
    go_ret
    exact ⟨rfl, rfl⟩
  · have e : min n 400 = 400 := by omega
    rw [e]
    go_enter Tryd.func18, Tryd.ntmps18
    go_wp2
    go_ret
    exact ⟨rfl, rfl⟩
/-- What a slice of bytes is as a text, in each world that only grew. -/
def Txt (w : World) (v : Value) (l : List UInt8) : Prop := ∀ w', Gr w w' → (convert 29 9 v).run Tryd.prog w' = .ok (.string ⟨l.toArray⟩) w'
theorem Txt.on {w w' : World} {v : Value} {l : List UInt8} (h : Txt w v l) (hg : Gr w w') : Txt w' v l := fun w'' k => h w'' (Gr.trans hg k)
theorem Bs.txt {w : World} {v : Value} {l : List UInt8} (h : Bs w v l) : Txt w v l := fun w' hg => run_string_of 29 9 5 Tryd.underlying29 Tryd.underlying5 Tryd.underlying9 (h.below hg)
/-- Where a slice lies that is not empty. -/
theorem Bs.low {w : World} {ao : Option Addr} {n c : Nat} {l : List UInt8} (h : Bs w (.slice ao n c) l) (hn : l.length = n) : 0 < n → ∀ ad, ao = some ad → ad.block < w.heap.size := by
  intro h0 ad had
  obtain ⟨b, o, h1, h2, _⟩ := h.cells (by omega)
  rw [h1] at had
  obtain rfl := Option.some.inj had
  exact h2
end Go.Proofs.YtagfgkhadmoboaaDoor
