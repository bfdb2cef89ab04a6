/-
  A row of ints that comes in as data, opened.
-/
import Derived.Test.YtmhiajjnkcneoaaOpen
import Derived.ChangeArms
namespace Go.Proofs.Ytmhiajjnkcneoaa
open Go.ChangeShapes Go.WideShapes Go.ChangeAt Go.RowKit
set_option linter.unusedVariables false
set_option linter.unusedSimpArgs false
section
variable {H : Type} {enc : TypeId × Value → H} {P : Program} {W : World} {base : Nat}
theorem open_introw {t e : TypeId} {v : Value} {d : DataW H} {p : List MemPlace} (ht : P.underlying t = some (.slice e)) (he : P.underlying e = some (.int .i64)) (hc : P.cellsOf e = 1)
    (hval : Value.okWide P W .any base t v) (h : DataW.Trod enc P W 0 (fun _ => true) true t v d p) : ∃ (a : Option Addr) (n c : Nat) (l : List Int), v = .slice a n c ∧ l.length = n ∧ Rd W 1 (.slice a n c) n (l.map (Value.int .i64)) := by
  obtain ⟨a, n, c, rfl⟩ := okWide_slice ht hval
  obtain ⟨fuel, hf⟩ := h
  rcases open_ints ht he hc hf with ⟨hcs, _⟩ | ⟨x, l, c', zs, hcs, _, hl, hm, hz, _, hcell, hwz⟩
  · simp [Value.cells] at hcs
    obtain ⟨rfl, rfl, rfl⟩ := hcs
    exact ⟨none, 0, 0, [], rfl, rfl, Rd.nil _ _⟩
  · simp [Value.cells] at hcs
    obtain ⟨rfl, rfl, rfl⟩ := hcs
    simp at hz
    have hlen : (zs.take n).length = n := by rw [List.length_take]; omega
    refine ⟨some x, n, c, zs.take n, rfl, hlen, ?_⟩
    refine ⟨by simp; omega, some x, c, rfl, hl, hm, (fun h => by cases h), fun ad had j u hu => ?_⟩
    obtain rfl := Option.some.inj had
    rw [List.getElem?_map] at hu
    cases hj : (zs.take n)[j]? with
    | none => rw [hj] at hu; cases hu
    | some b =>
      rw [hj] at hu
      obtain rfl := Option.some.inj hu
      have hjn : j < n := by have := (List.getElem?_eq_some_iff.1 hj).1; omega
      have hb : zs[j]? = some b := by rwa [List.getElem?_take, if_pos hjn] at hj
      have := hcell j (by omega)
      rw [this]
      simp [hb]
end
end Go.Proofs.Ytmhiajjnkcneoaa
