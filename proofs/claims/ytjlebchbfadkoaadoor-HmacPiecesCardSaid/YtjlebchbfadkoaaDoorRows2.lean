/-
  A slice of slices of bytes that comes in as data, opened: the outer row reads slices, each of which reads bytes.
-/
import Derived.Test.YtjlebchbfadkoaaDoorOpen
import Derived.Deep.Matrix
namespace Go.Proofs.YtjlebchbfadkoaaDoor
open Go.ChangeShapes Go.WideShapes Go.ChangeAt Go.RowKit
set_option linter.unusedVariables false
set_option linter.unusedSimpArgs false
section
variable {H : Type} {enc : TypeId × Value → H} {P : Program} {W : World} {base : Nat}
/-- Each of the slices in xs reads bytes. -/
def RowsIn (W : World) (xs : List Value) : Prop := ∀ (i : Nat) (u : Value), xs[i]? = some u → ∃ (A : Option Addr) (L C : Nat) (l : List UInt8), u = Value.slice A L C ∧ l.length = L ∧ Bs W (.slice A L C) l
theorem open_rows {t e q : TypeId} {v : Value} {d : DataW H} {p : List MemPlace} (ht : P.underlying t = some (.slice e)) (he : P.underlying e = some (.slice q)) (hq : P.underlying q = some (.int .u8)) (ce : P.cellsOf e = 1) (cq : P.cellsOf q = 1)
    (hval : Value.okWide P W .any base t v) (h : DataW.Trod enc P W 0 (fun _ => true) true t v d p) : ∃ a n c xs, v = .slice a n c ∧ Rd W 1 (.slice a n c) n xs ∧ RowsIn W xs := by
  obtain ⟨a, n, c, rfl⟩ := okWide_slice ht hval
  obtain ⟨fuel, hf⟩ := h
  rcases Go.Deep.open_int_rows ht he hq ce cq hf with ⟨hcs, _⟩ | ⟨x, l, c', A, L, C, Z, hcs, _, hl, hm, _, hr⟩
  · simp [Value.cells] at hcs
    obtain ⟨rfl, rfl, rfl⟩ := hcs
    exact ⟨none, 0, 0, [], rfl, Rd.nil _ _, fun i u hu => by cases hu⟩
  · simp [Value.cells] at hcs
    obtain ⟨rfl, rfl, rfl⟩ := hcs
    refine ⟨some x, n, c, (List.range n).map fun r => .slice (A r) (L r) (C r), rfl, ⟨by simp, some x, c, rfl, hl, hm, (fun h => by cases h), fun ad had j u hu => ?_⟩, fun i u hu => ?_⟩
    · obtain rfl := Option.some.inj had
      have hj : j < n := by have := (List.getElem?_eq_some_iff.1 hu).1; simpa using this
      simp [hj] at hu
      rw [(hr j (by omega)).1, hu]
    · have hi : i < n := by have := (List.getElem?_eq_some_iff.1 hu).1; simpa using this
      simp [hi] at hu
      obtain ⟨_, h1, h2, h3, h4, h5, h6⟩ := hr i (by omega)
      obtain ⟨bs, hbs⟩ := bytes_of_ints (Z i) h4
      have hbl : bs.length = C i := by rw [← h3, hbs]; simp
      have hlen : (bs.take (L i)).length = L i := by rw [List.length_take]; omega
      refine ⟨A i, L i, C i, bs.take (L i), hu.symm, hlen, ?_⟩
      unfold Bs
      rw [hlen]
      refine ⟨by simp; omega, A i, C i, rfl, h1, h2, h5, fun ad had j u hu => ?_⟩
      have hc := (h6 ad had).2
      rw [List.getElem?_map] at hu
      cases hj : (bs.take (L i))[j]? with
      | none => rw [hj] at hu; cases hu
      | some b =>
        rw [hj] at hu
        obtain rfl := Option.some.inj hu
        have hjn : j < L i := by have := (List.getElem?_eq_some_iff.1 hj).1; omega
        have hb : bs[j]? = some b := by rwa [List.getElem?_take, if_pos hjn] at hj
        have := hc j (by omega)
        rw [this, hbs]
        simp [u8v, hb]
end
end Go.Proofs.YtjlebchbfadkoaaDoor
