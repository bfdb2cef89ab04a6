/-
  A call (three ints), a slice of calls that come in as data, opened.
-/
import Derived.Test.YtmcifmgfgdahnaaOpen
import Derived.ChangeArms
import Derived.Deep.Slices
namespace Go.Proofs.Ytmcifmgfgdahnaa
open Go.ChangeShapes Go.WideShapes Go.ChangeAt Go.RowKit
set_option linter.unusedVariables false
set_option linter.unusedSimpArgs false
/-- A call: what, of which number, when. -/
structure Oq where
  kind : Int
  id : Int
  at_ : Int
def oqCells (q : Oq) : List Value := [.int .i64 q.kind, .int .i64 q.id, .int .i64 q.at_]
def oqFlat (qs : List Oq) : List Value := qs.flatMap oqCells
theorem oqFlat_length (qs : List Oq) : (oqFlat qs).length = qs.length * 3 := by
  induction qs with
  | nil => rfl
  | cons q qs ih =>
    show (oqCells q ++ oqFlat qs).length = _
    rw [List.length_append, ih, List.length_cons]
    show 3 + _ = _
    omega
theorem oqFlat_get : ∀ (qs : List Oq) (i : Nat) (hi : i < qs.length) (j : Nat), j < 3 → (oqFlat qs)[i * 3 + j]? = (oqCells qs[i])[j]?
  | q :: qs, 0, _, j, hj => by
    show (oqCells q ++ oqFlat qs)[0 * 3 + j]? = _
    rw [List.getElem?_append_left (by show _ < 3; omega)]
    simp
  | q :: qs, i + 1, hi, j, hj => by
    show (oqCells q ++ oqFlat qs)[(i + 1) * 3 + j]? = _
    rw [List.getElem?_append_right (by show 3 ≤ _; omega), show (i + 1) * 3 + j - (oqCells q).length = i * 3 + j by show _ - 3 = _; omega]
    rw [oqFlat_get qs i (by simpa using hi) j hj]
    rfl
/-- A slice of calls. -/
structure OqR (w : World) (v : Value) (n : Nat) (qs : List Oq) : Prop where
  rd : Rd w 3 v n (oqFlat qs)
  wf : ∀ q ∈ qs, (Lit.int .i64 q.kind).wf = true ∧ (Lit.int .i64 q.id).wf = true ∧ (Lit.int .i64 q.at_).wf = true
theorem OqR.len {w : World} {v : Value} {n : Nat} {qs : List Oq} (h : OqR w v n qs) : qs.length = n := by
  have h1 := h.rd.1
  rw [oqFlat_length] at h1
  omega
theorem OqR.below {w w' : World} {v : Value} {n : Nat} {qs : List Oq} (h : OqR w v n qs) (hb : Below w.heap.size w w') : OqR w' v n qs := ⟨h.rd.below hb, h.wf⟩
theorem OqR.cells {w : World} {ao : Option Addr} {n c : Nat} {qs : List Oq} (h : OqR w (.slice ao n c) n qs) (hn : 0 < n) :
    ∃ b o, ao = some ⟨b, o, none⟩ ∧ b < w.heap.size ∧ ∀ i (hi : i < qs.length), w.cell? ⟨b, o + i * 3, none⟩ = some (.int .i64 qs[i].kind) ∧ w.cell? ⟨b, o + i * 3 + 1, none⟩ = some (.int .i64 qs[i].id) ∧
      w.cell? ⟨b, o + i * 3 + 2, none⟩ = some (.int .i64 qs[i].at_) := by
  obtain ⟨b, o, h1, h2, h3⟩ := Rd.cells h.rd hn (by omega)
  exact ⟨b, o, h1, h2, fun i hi => ⟨h3 _ _ (oqFlat_get qs i hi 0 (by decide)), h3 _ _ (oqFlat_get qs i hi 1 (by decide)), h3 _ _ (oqFlat_get qs i hi 2 (by decide))⟩⟩
section
variable {H : Type} {enc : TypeId × Value → H} {P : Program} {W : World} {base : Nat}
theorem open_op {t : TypeId} {f0 f1 f2 : Field} {v : Value} {d : DataW H} {p : List MemPlace} (ht : P.underlying t = some (.struct #[f0, f1, f2])) (hoff : f0.offset = 0 ∧ f1.offset = 1 ∧ f2.offset = 2)
    (u0 : P.underlying f0.type = some (.int .i64)) (u1 : P.underlying f1.type = some (.int .i64)) (u2 : P.underlying f2.type = some (.int .i64))
    (hc : P.cellsOf t = 3 ∧ P.cellsOf f0.type = 1 ∧ P.cellsOf f1.type = 1 ∧ P.cellsOf f2.type = 1)
    (hval : Value.okWide P W .any base t v) (h : DataW.Trod enc P W 0 (fun _ => true) true t v d p) :
    ∃ x y z : Int, v = .agg #[.int .i64 x, .int .i64 y, .int .i64 z] ∧ (Lit.int .i64 x).wf = true ∧ (Lit.int .i64 y).wf = true ∧ (Lit.int .i64 z).wf = true := by
  obtain ⟨cs, rfl, hsz, _⟩ : ∃ cs, v = .agg cs ∧ cs.size = P.cellsOf t ∧ Row.okWide P W .any base t cs := by
    simpa [Value.okWide, ht] using hval
  obtain ⟨fuel, hf⟩ := h
  obtain ⟨o0, o1, o2⟩ := hoff
  obtain ⟨ct, c0, c1, c2⟩ := hc
  obtain ⟨xs, m, _, _, _, hl, hx⟩ := DataW.trod_struct ht hf
  rw [ct] at hsz
  obtain ⟨l⟩ := cs
  simp only [List.size_toArray] at hsz
  match xs, hl with
  | [y0, y1, y2], _ =>
    have h0 := hx 0 f0 rfl
    have h1 := hx 1 f1 rfl
    have h2 := hx 2 f2 rfl
    simp only [Value.cells, o0, o1, o2, c0, c1, c2, List.getElem?_cons_zero, List.getElem?_cons_succ] at h0 h1 h2
    match l, hsz with
    | [x0, x1, x2], _ =>
      obtain ⟨k0, e0, _, w0⟩ := DataW.trod_int u0 h0
      obtain ⟨k1, e1, _, w1⟩ := DataW.trod_int u1 h1
      obtain ⟨k2, e2, _, w2⟩ := DataW.trod_int u2 h2
      refine ⟨k0, k1, k2, ?_, w0, w1, w2⟩
      simp at e0 e1 e2
      simp [e0, e1, e2]
/-- A slice of calls that came in. -/
theorem open_ops {t e : TypeId} {f0 f1 f2 : Field} {v : Value} {d : DataW H} {p : List MemPlace} (ht : P.underlying t = some (.slice e)) (he : P.underlying e = some (.struct #[f0, f1, f2]))
    (ho : f0.offset = 0 ∧ f1.offset = 1 ∧ f2.offset = 2) (u0 : P.underlying f0.type = some (.int .i64)) (u1 : P.underlying f1.type = some (.int .i64)) (u2 : P.underlying f2.type = some (.int .i64))
    (hcs : P.cellsOf e = 3 ∧ P.cellsOf f0.type = 1 ∧ P.cellsOf f1.type = 1 ∧ P.cellsOf f2.type = 1)
    (hval : Value.okWide P W .any base t v) (h : DataW.Trod enc P W 0 (fun _ => true) true t v d p) : ∃ a n c qs, v = .slice a n c ∧ OqR W (.slice a n c) n qs := by
  obtain ⟨a, n, c, rfl⟩ := okWide_slice ht hval
  obtain ⟨fuel, hf⟩ := h
  obtain ⟨ce, c0, c1, c2⟩ := hcs
  obtain ⟨o0, o1, o2⟩ := ho
  rcases Go.Deep.open_slice ht hf with ⟨hcs, _⟩ | ⟨x, len, cap, m, k, D, Pl, hc, _, hl, hm, hmm, _, hall⟩
  · simp [Value.cells] at hcs
    obtain ⟨rfl, rfl, rfl⟩ := hcs
    exact ⟨none, 0, 0, [], rfl, ⟨Rd.nil _ _, fun q hq => by cases hq⟩⟩
  · simp [Value.cells] at hc
    obtain ⟨rfl, rfl, rfl⟩ := hc
    have hnm : n ≤ m := by rw [hmm]; simp; omega
    have each : ∀ i, i < n → ∃ q : Oq, (∀ j u, (oqCells q)[j]? = some u → W.cell? (x.add (i * 3 + j)) = some u) ∧ ((Lit.int .i64 q.kind).wf = true ∧ (Lit.int .i64 q.id).wf = true ∧ (Lit.int .i64 q.at_).wf = true) := by
      intro i hi
      obtain ⟨cs', h1, h2⟩ := hall i (by omega)
      rw [ce] at h1
      obtain ⟨_, hlen, hcell⟩ := World.cells?_some h1
      obtain ⟨xs, k', hk, hxy, _, hxl, hf'⟩ := DataW.trod_struct he h2
      match xs, hxl, cs', hlen with
      | [y0, y1, y2], _, [v0, v1, v2], _ =>
        have g0 := hf' 0 f0 rfl
        have g1 := hf' 1 f1 rfl
        have g2 := hf' 2 f2 rfl
        simp [o0, o1, o2, c0, c1, c2] at g0 g1 g2
        have e0 := hcell 0 (by omega)
        have e1 := hcell 1 (by omega)
        have e2 := hcell 2 (by omega)
        rw [Go.Deep.add_add] at e0 e1 e2
        obtain ⟨z0, q0, _, w0⟩ := DataW.trod_int u0 g0
        obtain ⟨z1, q1, _, w1⟩ := DataW.trod_int u1 g1
        obtain ⟨z2, q2, _, w2⟩ := DataW.trod_int u2 g2
        simp only [List.cons.injEq, and_true] at q0 q1 q2
        subst q0 q1 q2
        refine ⟨⟨z0, z1, z2⟩, fun j u hu => ?_, w0, w1, w2⟩
        match j, hu with
        | 0, hu => obtain rfl := Option.some.inj hu; simpa using e0
        | 1, hu => obtain rfl := Option.some.inj hu; simpa using e1
        | 2, hu => obtain rfl := Option.some.inj hu; simpa using e2
        | j + 3, hu => exact absurd hu (by simp [oqCells])
    have inh : Inhabited Oq := ⟨⟨0, 0, 0⟩⟩
    obtain ⟨q, hq⟩ := Go.Deep.choose_lt each
    refine ⟨some x, n, c, (List.range n).map q, rfl, ⟨⟨by rw [oqFlat_length]; simp, some x, c, rfl, hl, hm, (fun h => by cases h), fun ad had j u hu => ?_⟩, fun t ht => ?_⟩⟩
    · obtain rfl := Option.some.inj had
      have hj := (List.getElem?_eq_some_iff.1 hu).1
      rw [oqFlat_length, List.length_map, List.length_range] at hj
      have hi : j / 3 < n := by omega
      have hg := oqFlat_get ((List.range n).map q) (j / 3) (by simpa using hi) (j % 3) (by omega)
      rw [show j / 3 * 3 + j % 3 = j by omega, hu] at hg
      simp only [List.getElem_map, List.getElem_range] at hg
      have := (hq _ hi).1 (j % 3) u hg.symm
      rwa [show j / 3 * 3 + j % 3 = j by omega] at this
    · obtain ⟨i, hi, rfl⟩ := List.mem_map.1 ht
      exact (hq i (List.mem_range.1 hi)).2
end
end Go.Proofs.Ytmcifmgfgdahnaa
