/- AuWh AuWi AuWa AuWb AuWc AuWe AuRp AuKp AuMx AuRg -/
import Derived.Test.YtclplbapedmihaaGreatXAuD
import Derived.Test.YtclplbapedmihaaGreatXAuC
import Derived.Test.YtclplbapedmihaaGreatZOp
import Derived.Test.YtclplbapedmihaaGreatZNgB
import Derived.Test.YtclplbapedmihaaGreatZCp
import Derived.Test.YtclplbapedmihaaGreatZAuB
import Derived.Test.YtclplbapedmihaaGreatZAuA
import Derived.Test.YtclplbapedmihaaGreatZBase
namespace Go.Proofs.YtclplbapedmihaaGreat.Au
set_option maxRecDepth 4000
open Go.RowKit O Ng
open Go.Proofs.YtclplbapedmihaaGreat.Fs (AO AO.ar AO.nil AR AR.at)
set_option linter.unusedVariables false
set_option linter.unusedSimpArgs false
theorem ctl_no : ∀ u ∈ (#[.int .i64 0, .int .i64 0, .slice none 0 0] : Array Value).toList, ∀ b, u ≠ u8v b := by
 intro u hu b hb;subst hb;simp [u8v] at hu
def Row (P0 : Value -> Nat -> List Tg -> Prop) (w0 w : World) (v : Value) (m : Nat) (us : List Tg) : Prop := (P0 v m us /\ TR w0 v m us) \/ (w.ownsRow 0 69 2 v m (flat us) /\ ∀ x ∈ us, Bs w x.val x.l)
theorem sl_no (a : Option Addr) (n c : Nat) : ∀ b, (Value.slice a n c) ≠ u8v b := by intro b h; simp [u8v] at h
end Go.Proofs.YtclplbapedmihaaGreat.Au
namespace Go.Proofs.YtclplbapedmihaaGreat.Au
set_option maxRecDepth 4000
open Go.RowKit O Ng
open Go.Proofs.YtclplbapedmihaaGreat.Fs (AO AO.ar AO.nil AR AR.at rStep_any)
set_option linter.unusedVariables false
set_option linter.unusedSimpArgs false
end Go.Proofs.YtclplbapedmihaaGreat.Au
namespace Go.Proofs.YtclplbapedmihaaGreat.Au
set_option maxRecDepth 4000
open Go.RowKit O Ng
open Go.Proofs.YtclplbapedmihaaGreat.Fs (AO AO.ar AO.nil AR AR.at)
set_option linter.unusedVariables false
set_option linter.unusedSimpArgs false
def RowO (w : World) (v : Value) (m : Nat) (us : List Tg) : Prop := w.ownsRow 0 69 2 v m (flat us) /\ ∀ x ∈ us, Bs w x.val x.l
theorem RowO.tr {w : World} {v : Value} {m : Nat} {us : List Tg} (h : RowO w v m us) : TR w v m us := ⟨own_rd h.1, h.2⟩
theorem RowO.gr {w w' : World} {v : Value} {m : Nat} {us : List Tg} (h : RowO w v m us) (hb : Gr w w') : RowO w' v m us := ⟨ownsRow_below h.1 hb, fun x hx => (h.2 x hx).below hb⟩
theorem RowO.off {w w' : World} {v : Value} {m : Nat} {us : List Tg} {p : Nat} {t : TypeId} {cs : Array Value} {fr : Nat × Nat} (h : RowO w v m us) (hp : w.heap[p]? = some (.cells cs t fr)) (ht : 69 ≠ t) (hcs : ∀ u ∈ cs.toList, ∀ b, u ≠ u8v b) (ho : Only p w w') : RowO w' v m us :=
 ⟨own_off h.1 hp ht ho, fun x hx => bs_off (h.2 x hx) hp hcs ho⟩
theorem box_off {w w' : World} {p g : Nat} {t t' : TypeId} {cs ds : Array Value} {fr fr' : Nat × Nat} (h : w.heap[g]? = some (.cells cs t fr)) (hp : w.heap[p]? = some (.cells ds t' fr')) (ht : t ≠ t') (ho : Only p w w') : w'.heap[g]? = some (.cells cs t fr) := only_heap h ho (ne_of_block h hp ht)
end Go.Proofs.YtclplbapedmihaaGreat.Au
namespace Go.Proofs.YtclplbapedmihaaGreat.Au
set_option maxRecDepth 4000
open Go.RowKit O
set_option linter.unusedVariables false
set_option linter.unusedSimpArgs false
end Go.Proofs.YtclplbapedmihaaGreat.Au
namespace Go.Proofs.YtclplbapedmihaaGreat.Au
set_option maxRecDepth 4000
open Go.RowKit O Ng
set_option linter.unusedVariables false
set_option linter.unusedSimpArgs false
end Go.Proofs.YtclplbapedmihaaGreat.Au
