/-
  Settings of cookies that come in as data, opened.
-/
import Derived.Test.YtjlacialbfhjcaaDoorOpen
import Derived.ChangeArms
namespace Go.Proofs.YtjlacialbfhjcaaDoor
open Go.ChangeShapes Go.WideShapes Go.ChangeAt Go.RowKit
set_option linter.unusedVariables false
set_option linter.unusedSimpArgs false
section
variable {H : Type} {enc : TypeId × Value → H} {P : Program} {W : World} {base : Nat}
theorem open_conf {t e : TypeId} {f0 f1 : Field} {v : Value} {d : DataW H} {p : List MemPlace} (ht : P.underlying t = some (.struct #[f0, f1])) (hoff : f0.offset = 0 ∧ f1.offset = 1)
    (u0 : P.underlying f0.type = some (.slice e)) (u1 : P.underlying f1.type = some (.int .i64)) (he : P.underlying e = some (.int .u8))
    (hc : P.cellsOf t = 2 ∧ P.cellsOf f0.type = 1 ∧ P.cellsOf f1.type = 1 ∧ P.cellsOf e = 1)
    (hval : Value.okWide P W .any base t v) (h : DataW.Trod enc P W 0 (fun _ => true) true t v d p) :
    ∃ (a : Option Addr) (n c : Nat) (l : List UInt8) (T : Int), v = .agg #[.slice a n c, .int .i64 T] ∧ l.length = n ∧ Bs W (.slice a n c) l := by
  obtain ⟨cs, rfl, hsz, _⟩ : ∃ cs, v = .agg cs ∧ cs.size = P.cellsOf t ∧ Row.okWide P W .any base t cs := by
    simpa [Value.okWide, ht] using hval
  obtain ⟨fuel, hf⟩ := h
  obtain ⟨o0, o1⟩ := hoff
  obtain ⟨ct, c0, c1, ce⟩ := hc
  obtain ⟨xs, m, _, _, _, hl, hx⟩ := DataW.trod_struct ht hf
  rw [ct] at hsz
  obtain ⟨l⟩ := cs
  simp only [List.size_toArray] at hsz
  match xs, hl with
  | [y0, y1], _ =>
    have h0 := hx 0 f0 rfl
    have h1 := hx 1 f1 rfl
    simp only [Value.cells, o0, o1, c0, c1, List.getElem?_cons_zero, List.getElem?_cons_succ] at h0 h1
    match l, hsz with
    | [x0, x1], _ =>
      obtain ⟨a, n, c, bs, e0, hn, hb⟩ := bytes_cell2 u0 he ce h0
      obtain ⟨k1, e1, _, _⟩ := DataW.trod_int u1 h1
      refine ⟨a, n, c, bs, k1, ?_, hn, hb⟩
      simp at e0 e1
      simp [e0, e1]
end
end Go.Proofs.YtjlacialbfhjcaaDoor
