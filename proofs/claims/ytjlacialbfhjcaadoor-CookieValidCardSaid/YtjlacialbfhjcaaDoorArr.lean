/-
  An array of integers of any length that comes in as data, opened.
-/
import Derived.Test.YtjlacialbfhjcaaDoorOpen
namespace Go.Proofs.YtjlacialbfhjcaaDoor
open Go.ChangeShapes Go.WideShapes Go.ChangeAt Go.RowKit
set_option linter.unusedVariables false
set_option linter.unusedSimpArgs false
section
variable {H : Type} {enc : TypeId × Value → H} {P : Program} {W : World} {base : Nat}

theorem ints_of_cells {k : IntKind} : ∀ (l : List Value), (∀ c ∈ l, ∃ z : Int, c = .int k z ∧ (Lit.int k z).wf = true) → ∃ zs : List Int, (∀ z ∈ zs, (Lit.int k z).wf = true) ∧ l = zs.map (Value.int k)
  | [], _ => ⟨[], by simp, rfl⟩
  | c :: l, h => by
    obtain ⟨z, rfl, hz⟩ := h c (by simp)
    obtain ⟨zs, h1, rfl⟩ := ints_of_cells l (fun c hc => h c (by simp [hc]))
    exact ⟨z :: zs, by simpa using ⟨hz, h1⟩, rfl⟩

/-- An array of n integers of one kind. -/
theorem open_arr {n : Nat} {k : IntKind} {t e : TypeId} {v : Value} {d : DataW H} {p : List MemPlace} (ht : P.underlying t = some (.array n e)) (he : P.underlying e = some (.int k)) (hc : P.cellsOf e = 1) (hct : P.cellsOf t = n)
    (hval : Value.okWide P W .any base t v) (h : DataW.Trod enc P W 0 (fun _ => true) true t v d p) :
    ∃ zs : List Int, zs.length = n ∧ (∀ z ∈ zs, (Lit.int k z).wf = true) ∧ v = .agg (zs.map (Value.int k)).toArray := by
  obtain ⟨cs, rfl, hsz, _⟩ : ∃ cs, v = .agg cs ∧ cs.size = P.cellsOf t ∧ Row.okWide P W .any base t cs := by
    simpa [Value.okWide, ht] using hval
  obtain ⟨fuel, hf⟩ := h
  obtain ⟨xs, m, _, _, _, hl, hx⟩ := DataW.trod_array ht hf
  rw [hct] at hsz
  obtain ⟨l⟩ := cs
  simp only [List.size_toArray] at hsz
  obtain ⟨zs, h1, rfl⟩ := ints_of_cells (k := k) l (fun c hcl => by
    obtain ⟨i, hi, rfl⟩ := List.mem_iff_getElem.1 hcl
    have hy := hx i (by omega)
    rw [hc, List.getElem?_eq_getElem (by omega)] at hy
    have e1 : ((l.drop (i * 1)).take 1) = [l[i]] := by
      rw [Nat.mul_one, List.drop_eq_getElem_cons hi]; rfl
    simp only [Value.cells] at hy
    rw [e1] at hy
    obtain ⟨z, e1, _, wz⟩ := DataW.trod_int he hy
    simp at e1
    exact ⟨z, e1, wz⟩)
  exact ⟨zs, by simpa using hsz, h1, rfl⟩

/-- Bytes. -/
theorem open_arr_bytes {n : Nat} {t e : TypeId} {v : Value} {d : DataW H} {p : List MemPlace} (ht : P.underlying t = some (.array n e)) (he : P.underlying e = some (.int .u8)) (hc : P.cellsOf e = 1) (hct : P.cellsOf t = n)
    (hval : Value.okWide P W .any base t v) (h : DataW.Trod enc P W 0 (fun _ => true) true t v d p) :
    ∃ l : List UInt8, l.length = n ∧ v = .agg (l.map u8v).toArray := by
  obtain ⟨zs, hl, hw, rfl⟩ := open_arr ht he hc hct hval h
  obtain ⟨l, rfl⟩ := bytes_of_ints zs hw
  exact ⟨l, by simpa using hl, by simp [u8v, Function.comp_def]⟩
end
end Go.Proofs.YtjlacialbfhjcaaDoor
