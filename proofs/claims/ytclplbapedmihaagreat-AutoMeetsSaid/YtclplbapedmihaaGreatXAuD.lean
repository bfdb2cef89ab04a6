/- AuK AuLa AuLb AuLc AuN AuSn AuRt -/
import Derived.Test.YtclplbapedmihaaGreatZAuA
import Derived.Test.YtclplbapedmihaaGreatXAuC
import Derived.Test.YtclplbapedmihaaGreatZFs
import Derived.Test.YtclplbapedmihaaGreatZCp
import Derived.Test.YtclplbapedmihaaGreatZOp
import Derived.Test.YtclplbapedmihaaGreatZAuB
namespace Go.Proofs.YtclplbapedmihaaGreat.Au
set_option maxRecDepth 4000
open Go.RowKit O Ng
open Go.Proofs.YtclplbapedmihaaGreat.Fs (AO AO.ar AO.nil AR)
set_option linter.unusedVariables false
set_option linter.unusedSimpArgs false
end Go.Proofs.YtclplbapedmihaaGreat.Au
namespace Go.Proofs.YtclplbapedmihaaGreat.Au
set_option maxRecDepth 4000
open Go.RowKit O Ng
open Go.Proofs.YtclplbapedmihaaGreat.Fs (AO AO.ar AO.nil AR AR.at rStep_any rTimed_any)
set_option linter.unusedVariables false
set_option linter.unusedSimpArgs false
theorem bs_off {w w' : World} {p : Nat} {t : TypeId} {cs : Array Value} {fr : Nat × Nat} {v : Value} {l : List UInt8} (h : Bs w v l) (hp : w.heap[p]? = some (.cells cs t fr)) (hcs : ∀ u ∈ cs.toList, ∀ b, u ≠ u8v b) (ho : Only p w w') : Bs w' v l := by
 have hh := h;obtain ⟨h0, ao, cap, rfl, g1, g2, g3, g4⟩ := h;refine ⟨h0, ao, cap, rfl, g1, g2, g3, fun ad had j u hu => ?_⟩;have hj := (List.getElem?_eq_some_iff.1 hu).1;rw [List.length_map] at hj;obtain ⟨b, o, hao, _, hall⟩ := Bs.cells hh (by omega);obtain rfl : ad = ⟨b, o, none⟩ := Option.some.inj (had.symm.trans hao);have hc := g4 _ had j u hu
 by_cases e : b = p
 · exfalso;subst e;rw [Addr.add_lit, cell_of_row _ _ _ _ _ _ hp] at hc;rw [List.getElem?_map, List.getElem?_eq_getElem hj] at hu;obtain rfl := Option.some.inj hu;exact hcs _ (by simpa using Array.mem_of_getElem? hc) _ rfl
 · refine ho.cell ?_ hc;rw [add_block]; exact e
theorem zero_no : ∀ u ∈ (#[.int .i64 0, .int .i64 0, .int .i64 0, .slice none 0 0, .int .i64 0, .int .i64 0, .int .i64 0] : Array Value).toList, ∀ b, u ≠ u8v b := by
 intro u hu b hb;subst hb;simp [u8v] at hu
end Go.Proofs.YtclplbapedmihaaGreat.Au
namespace Go.Proofs.YtclplbapedmihaaGreat.Au
set_option maxRecDepth 4000
open Go.RowKit O Ng
open Go.Proofs.YtclplbapedmihaaGreat.Fs (AO AO.ar AO.nil AR AR.at)
set_option linter.unusedVariables false
set_option linter.unusedSimpArgs false
end Go.Proofs.YtclplbapedmihaaGreat.Au
