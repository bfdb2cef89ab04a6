/-
  A session's protocol and control packets in memory: what functions tell that answer with them; the three-index slice; numbers read one behind the other.
-/
import Derived.Test.YthllhdcdiidfpaaCpP
import Derived.IntWalk
namespace Go.Proofs.Ythllhdcdiidfpaa
open Go.RowKit
set_option linter.unusedVariables false
set_option linter.unusedSimpArgs false

/-- What a function tells that answers with a control packet. -/
def CRes (r : QC × Int) (w : World) (e : Ending) (w' : World) : Prop :=
  ∃ A L C, e = .returned (.tuple #[.agg #[.int .i64 r.1.c, .int .i64 r.1.i, .slice A L C], .int .i64 r.2]) ∧ OwnB w' w.heap.size 5 (.slice A L C) r.1.l ∧ Below w.heap.size w w'
theorem CRes.none {r : QC × Int} {k : Int} {w w' : World} (h : r = (QC.zero, k)) (hb : Below w.heap.size w w') : CRes r w (.returned (.tuple #[.agg #[.int .i64 0, .int .i64 0, .slice Option.none 0 0], .int .i64 k])) w' := by
  subst h
  exact ⟨_, _, _, rfl, OwnB.nil _ _ _, hb⟩
theorem CRes.some {r : QC × Int} {c s : Int} {l : List UInt8} {A : Option Addr} {L C : Nat} {w w' : World} (h : r = (⟨c, s, l⟩, 0)) (ho : OwnB w' w.heap.size 5 (.slice A L C) l) (hb : Below w.heap.size w w') : CRes r w (.returned (.tuple #[.agg #[.int .i64 c, .int .i64 s, .slice A L C], .int .i64 0])) w' := by
  subst h
  exact ⟨_, _, _, rfl, ho, hb⟩
/-- What a function tells that answers with a protocol and its bytes. -/
def QRes (r : QP × Int) (w : World) (e : Ending) (w' : World) : Prop :=
  ∃ A L C, e = .returned (.tuple #[.agg #[.int .i64 r.1.p, .slice A L C], .int .i64 r.2]) ∧ OwnB w' w.heap.size 5 (.slice A L C) r.1.l ∧ Below w.heap.size w w'
theorem QRes.none {r : QP × Int} {k : Int} {w w' : World} (h : r = (QP.zero, k)) (hb : Below w.heap.size w w') : QRes r w (.returned (.tuple #[.agg #[.int .i64 0, .slice Option.none 0 0], .int .i64 k])) w' := by
  subst h
  exact ⟨_, _, _, rfl, OwnB.nil _ _ _, hb⟩
theorem QRes.some {r : QP × Int} {c : Int} {l : List UInt8} {A : Option Addr} {L C : Nat} {w w' : World} (h : r = (⟨c, l⟩, 0)) (ho : OwnB w' w.heap.size 5 (.slice A L C) l) (hb : Below w.heap.size w w') : QRes r w (.returned (.tuple #[.agg #[.int .i64 c, .slice A L C], .int .i64 0])) w' := by
  subst h
  exact ⟨_, _, _, rfl, ho, hb⟩
/-- What a function tells that answers with bytes and an error. -/
def BRes (E : Int) (b : List UInt8) (w : World) (e : Ending) (w' : World) : Prop :=
  ∃ v, e = .returned (.tuple #[v, .int .i64 E]) ∧ OwnB w' w.heap.size 5 v b ∧ Below w.heap.size w w'
theorem BRes.none {E : Int} {b : List UInt8} {w w' : World} {k : Int} (hk : E = k) (h : b = []) (hb : Below w.heap.size w w') : BRes E b w (.returned (.tuple #[.slice Option.none 0 0, .int .i64 k])) w' := by
  subst hk h
  exact ⟨_, rfl, OwnB.nil _ _ _, hb⟩
theorem BRes.some {E : Int} {b c : List UInt8} {w w' : World} {v : Value} (h : E = 0) (hc : b = c) (ho : OwnB w' w.heap.size 5 v c) (hb : Below w.heap.size w w') : BRes E b w (.returned (.tuple #[v, .int .i64 0])) w' := by
  subst h hc
  exact ⟨v, rfl, ho, hb⟩
theorem cells2 {w : World} {g : Nat} {x y : Value} {t : TypeId} {fr : Nat × Nat} (h : w.heap[g]? = some (.cells #[x, y] t fr)) : w.cell? ⟨g, 0, none⟩ = some x ∧ w.cell? ⟨g, 1, none⟩ = some y := copy_cells h
theorem builtQ (p : Int) (A : Option Addr) (L C : Nat) : Try.prog.built 24 [(0, .int .i64 p), (1, .slice A L C)] = some #[.int .i64 p, .slice A L C] := by kernel_rfl
theorem builtC (c s : Int) (A : Option Addr) (L C : Nat) : Try.prog.built 39 [(0, .int .i64 c), (1, .int .i64 s), (2, .slice A L C)] = some #[.int .i64 c, .int .i64 s, .slice A L C] := by kernel_rfl
theorem own_set2 {w : World} {base g : Nat} {e : TypeId} {v : Value} {l : List UInt8} (h : OwnB w base e v l) (hg : g < base) (a b : Value) : OwnB ((w.setCell ⟨g, 0, none⟩ a).setCell ⟨g, 1, none⟩ b) base e v l :=
  ownsRow_setCell_below (ownsRow_setCell_below h hg a) hg b

section
variable {P : Program}
theorem Rd.clip {w : World} {size n c : Nat} {ao : Option Addr} {xs : List Value} (h : Rd w size (.slice ao n c) n xs) (m : Nat) (hm : m ≤ n) : Rd w size (.slice ao m m) m (xs.take (m * size)) := by
  obtain ⟨h0, ao', cap', e, h1, h2, h3, h4⟩ := h
  simp only [Value.slice.injEq] at e
  obtain ⟨rfl, _, rfl⟩ := e
  refine ⟨?_, ao, m, rfl, Nat.le_refl _, by omega, fun ha => by have := h3 ha; omega, fun ad had j u hu => h4 ad had j u ?_⟩
  · rw [List.length_take, h0, Nat.min_eq_left]
    exact Nat.mul_le_mul_right _ hm
  · rw [List.getElem?_take] at hu
    split at hu
    · exact hu
    · cases hu
/-- 's[k:m:m]'. -/
theorem slice_three {t e : TypeId} {i : TypeInfo} {size : Nat} (ht : P.underlying t = some (.slice e)) (hi : P.info? e = some i) (hs : i.size = size) {w : World} {n c : Nat} {ao : Option Addr} {xs : List Value}
    (h : Rd w size (.slice ao n c) n xs) (kk km kx : IntKind) (K M : Int) (k m : Nat) (hK : K = (k : Int)) (hM : M = (m : Int)) (hk : k ≤ m) (hm : m ≤ n) :
    ∃ ao', (∀ w', (Instr.slice t (.slice ao n c) (some (.int kk K)) (some (.int km M)) (some (.int kx M))).run P w' = .ok (.slice ao' (m - k) (m - k)) w') ∧ Rd w size (.slice ao' (m - k) (m - k)) (m - k) ((xs.drop (k * size)).take ((m - k) * size)) := by
  subst hK hM
  have hnc : n ≤ c := by
    obtain ⟨_, _, _, e, h1, _⟩ := h
    simp only [Value.slice.injEq] at e
    obtain ⟨_, _, rfl⟩ := e
    exact h1
  refine ⟨if m = k then ao else ao.map (·.add (k * size)), fun w' => ?_, ?_⟩
  · rw [run_slice_lhm w' t ao n c (by rw [elem_of ht]; exact ht) kk km kx k m m (by omega) (by omega) (by omega) (by omega), elem_of ht, run_sizeOf hi hs]
    simp only [Result.andThen, sliced, Int.toNat_natCast]
  · have := Rd.cut (n' := m - k) (k := k) (Rd.clip h m hm) (by omega)
    rwa [List.drop_take, ← Nat.sub_mul, List.take_take, Nat.min_self] at this
end
end Go.Proofs.Ythllhdcdiidfpaa
