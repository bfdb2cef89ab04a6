/-
  A session's protocol, a control packet that come in as data, opened.
-/
import Derived.Test.YteemcckfhadkhaaOpen
import Derived.ChangeArms
namespace Go.Proofs.Yteemcckfhadkhaa
open Go.ChangeShapes Go.WideShapes Go.ChangeAt Go.RowKit
set_option linter.unusedVariables false
set_option linter.unusedSimpArgs false
section
variable {H : Type} {enc : TypeId × Value → H} {P : Program} {W : World} {base : Nat}
theorem open_ppp {t e : TypeId} {f0 f1 : Field} {v : Value} {d : DataW H} {p : List MemPlace} (ht : P.underlying t = some (.struct #[f0, f1])) (hoff : f0.offset = 0 ∧ f1.offset = 1)
    (u0 : P.underlying f0.type = some (.int .i64)) (u1 : P.underlying f1.type = some (.slice e)) (he : P.underlying e = some (.int .u8))
    (hc : P.cellsOf t = 2 ∧ P.cellsOf f0.type = 1 ∧ P.cellsOf f1.type = 1 ∧ P.cellsOf e = 1)
    (hval : Value.okWide P W .any base t v) (h : DataW.Trod enc P W 0 (fun _ => true) true t v d p) :
    ∃ (C : Int) (a : Option Addr) (n c : Nat) (l : List UInt8), v = .agg #[.int .i64 C, .slice a n c] ∧ l.length = n ∧ Bs W (.slice a n c) l := by
  obtain ⟨cs, rfl, hsz, _⟩ : ∃ cs, v = .agg cs ∧ cs.size = P.cellsOf t ∧ Row.okWide P W .any base t cs := by
    simpa [Value.okWide, ht] using hval
  obtain ⟨fuel, hf⟩ := h
  obtain ⟨o0, o1⟩ := hoff
  obtain ⟨ct, c0, c1, ce⟩ := hc
  obtain ⟨xs, m, _, _, _, hl, hx⟩ := DataW.trod_struct ht hf
  rw [ct] at hsz
  obtain ⟨l⟩ := cs
  simp only [List.size_toArray] at hsz
  match xs, hl with
  | [y0, y1], _ =>
    have h0 := hx 0 f0 rfl
    have h1 := hx 1 f1 rfl
    simp only [Value.cells, o0, o1, c0, c1, List.getElem?_cons_zero, List.getElem?_cons_succ] at h0 h1
    match l, hsz with
    | [x0, x1], _ =>
      obtain ⟨k0, e0, _, _⟩ := DataW.trod_int u0 h0
      obtain ⟨a, n, c, bs, e1, hn, hb⟩ := bytes_cell2 u1 he ce h1
      refine ⟨k0, a, n, c, bs, ?_, hn, hb⟩
      simp at e0 e1
      simp [e0, e1]
theorem open_ctl {t e : TypeId} {f0 f1 f2 : Field} {v : Value} {d : DataW H} {p : List MemPlace} (ht : P.underlying t = some (.struct #[f0, f1, f2])) (hoff : f0.offset = 0 ∧ f1.offset = 1 ∧ f2.offset = 2)
    (u0 : P.underlying f0.type = some (.int .i64)) (u1 : P.underlying f1.type = some (.int .i64)) (u2 : P.underlying f2.type = some (.slice e)) (he : P.underlying e = some (.int .u8))
    (hc : P.cellsOf t = 3 ∧ P.cellsOf f0.type = 1 ∧ P.cellsOf f1.type = 1 ∧ P.cellsOf f2.type = 1 ∧ P.cellsOf e = 1)
    (hval : Value.okWide P W .any base t v) (h : DataW.Trod enc P W 0 (fun _ => true) true t v d p) :
    ∃ (C S : Int) (a : Option Addr) (n c : Nat) (l : List UInt8), v = .agg #[.int .i64 C, .int .i64 S, .slice a n c] ∧ l.length = n ∧ Bs W (.slice a n c) l := by
  obtain ⟨cs, rfl, hsz, _⟩ : ∃ cs, v = .agg cs ∧ cs.size = P.cellsOf t ∧ Row.okWide P W .any base t cs := by
    simpa [Value.okWide, ht] using hval
  obtain ⟨fuel, hf⟩ := h
  obtain ⟨o0, o1, o2⟩ := hoff
  obtain ⟨ct, c0, c1, c2, ce⟩ := hc
  obtain ⟨xs, m, _, _, _, hl, hx⟩ := DataW.trod_struct ht hf
  rw [ct] at hsz
  obtain ⟨l⟩ := cs
  simp only [List.size_toArray] at hsz
  match xs, hl with
  | [y0, y1, y2], _ =>
    have h0 := hx 0 f0 rfl
    have h1 := hx 1 f1 rfl
    have h2 := hx 2 f2 rfl
    simp only [Value.cells, o0, o1, o2, c0, c1, c2, List.getElem?_cons_zero, List.getElem?_cons_succ] at h0 h1 h2
    match l, hsz with
    | [x0, x1, x2], _ =>
      obtain ⟨k0, e0, _, _⟩ := DataW.trod_int u0 h0
      obtain ⟨k1, e1, _, _⟩ := DataW.trod_int u1 h1
      obtain ⟨a, n, c, bs, e2, hn, hb⟩ := bytes_cell2 u2 he ce h2
      refine ⟨k0, k1, a, n, c, bs, ?_, hn, hb⟩
      simp at e0 e1 e2
      simp [e0, e1, e2]
end
end Go.Proofs.Yteemcckfhadkhaa
