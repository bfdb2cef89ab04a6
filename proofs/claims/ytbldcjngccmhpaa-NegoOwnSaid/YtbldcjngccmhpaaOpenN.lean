/-
  Options whose types are in range, rules: slices that come in as data, opened.
-/
import Derived.Test.YtbldcjngccmhpaaOpenO
import Derived.Test.YtbldcjngccmhpaaNgJ
import Derived.ChangeArms
import Derived.Deep.Slices
namespace Go.Proofs.Ytbldcjngccmhpaa.Ng
open Go.ChangeShapes Go.WideShapes Go.ChangeAt Go.RowKit O
set_option linter.unusedVariables false
set_option linter.unusedSimpArgs false
theorem i64_of_wf {k : Int} (h : (Lit.int .i64 k).wf = true) : I64 k := by
  have h' : (decide (-9223372036854775808 ≤ k) && decide (k ≤ 9223372036854775807)) = true := h
  simpa [I64] using h'
section
variable {H : Type} {enc : TypeId × Value → H} {P : Program} {W : World} {base : Nat}
/-- A slice of options that came in. -/
theorem open_optw {t e u8 : TypeId} {f0 f1 : Field} {v : Value} {d : DataW H} {p : List MemPlace} (ht : P.underlying t = some (.slice e)) (he : P.underlying e = some (.struct #[f0, f1]))
    (ho : f0.offset = 0 ∧ f1.offset = 1) (h0 : P.underlying f0.type = some (.int .i64)) (h1 : P.underlying f1.type = some (.slice u8)) (hu : P.underlying u8 = some (.int .u8))
    (hcs : P.cellsOf e = 2 ∧ P.cellsOf f0.type = 1 ∧ P.cellsOf f1.type = 1 ∧ P.cellsOf u8 = 1)
    (hval : Value.okWide P W .any base t v) (h : DataW.Trod enc P W 0 (fun _ => true) true t v d p) : ∃ a n c ts, v = .slice a n c ∧ TR W (.slice a n c) n ts ∧ ∀ x ∈ ts, I64 x.typ := by
  obtain ⟨a, n, c, rfl⟩ := okWide_slice ht hval
  obtain ⟨fuel, hf⟩ := h
  rcases Go.Deep.open_slice_pairs ht he hcs.1 ho.1 ho.2 hcs.2.1 hcs.2.2.1 hf with ⟨hcs, _⟩ | ⟨x, len, cap, m, k, V0, V1, D0, D1, P0, P1, hc, _, hl, hm, hmm, _, hall⟩
  · simp [Value.cells] at hcs
    obtain ⟨rfl, rfl, rfl⟩ := hcs
    exact ⟨none, 0, 0, [], rfl, TR.nil _, fun x h => by cases h⟩
  · simp [Value.cells] at hc
    obtain ⟨rfl, rfl, rfl⟩ := hc
    have hnm : n ≤ m := by rw [hmm]; simp; omega
    have each : ∀ i, i < n → ∃ q : Tg, W.cell? (x.add (i * 2)) = some (.int .i64 q.typ) ∧ W.cell? (x.add (i * 2 + 1)) = some q.val ∧ Bs W q.val q.l ∧ I64 q.typ := by
      intro i hi
      obtain ⟨g0, g1, g2, g3⟩ := hall i (by omega)
      obtain ⟨z, e1, _, wz⟩ := DataW.trod_int h0 g2
      have hz : I64 z := i64_of_wf wz
      obtain ⟨l, hb⟩ := bytes_cell h1 hu hcs.2.2.2 g3
      refine ⟨⟨z, V1 i, l⟩, ?_, g1, hb, hz⟩
      rw [g0]
      simpa using e1
    have inh : Inhabited Tg := ⟨⟨0, undef, []⟩⟩
    obtain ⟨q, hq⟩ := Go.Deep.choose_lt each
    refine ⟨some x, n, c, (List.range n).map q, rfl, ⟨⟨by rw [flat_length]; simp, some x, c, rfl, hl, hm, (fun h => by cases h), fun ad had => ?_⟩, fun t ht => ?_⟩, fun t ht => ?_⟩
    · obtain rfl := Option.some.inj had
      exact flat_cells q n fun i hi => ⟨(hq i hi).1, (hq i hi).2.1⟩
    · obtain ⟨i, hi, rfl⟩ := List.mem_map.1 ht
      exact (hq i (List.mem_range.1 hi)).2.2.1
    · obtain ⟨i, hi, rfl⟩ := List.mem_map.1 ht
      exact (hq i (List.mem_range.1 hi)).2.2.2
/-- A slice of rules that came in. -/
theorem open_rules {t e : TypeId} {f0 f1 f2 f3 f4 f5 f6 : Field} {v : Value} {d : DataW H} {p : List MemPlace} (ht : P.underlying t = some (.slice e)) (he : P.underlying e = some (.struct #[f0, f1, f2, f3, f4, f5, f6]))
    (ho : f0.offset = 0 ∧ f1.offset = 1 ∧ f2.offset = 2 ∧ f3.offset = 3 ∧ f4.offset = 4 ∧ f5.offset = 5 ∧ f6.offset = 6)
    (u0 : P.underlying f0.type = some (.int .i64)) (u1 : P.underlying f1.type = some (.int .i64)) (u2 : P.underlying f2.type = some (.int .i64)) (u3 : P.underlying f3.type = some (.int .i64)) (u4 : P.underlying f4.type = some (.int .i64)) (u5 : P.underlying f5.type = some (.int .i64)) (u6 : P.underlying f6.type = some .bool)
    (hcs : P.cellsOf e = 7 ∧ P.cellsOf f0.type = 1 ∧ P.cellsOf f1.type = 1 ∧ P.cellsOf f2.type = 1 ∧ P.cellsOf f3.type = 1 ∧ P.cellsOf f4.type = 1 ∧ P.cellsOf f5.type = 1 ∧ P.cellsOf f6.type = 1)
    (hval : Value.okWide P W .any base t v) (h : DataW.Trod enc P W 0 (fun _ => true) true t v d p) : ∃ a n c rs, v = .slice a n c ∧ RR W (.slice a n c) n rs := by
  obtain ⟨a, n, c, rfl⟩ := okWide_slice ht hval
  obtain ⟨fuel, hf⟩ := h
  obtain ⟨ce, c0, c1, c2, c3, c4, c5, c6⟩ := hcs
  obtain ⟨o0, o1, o2, o3, o4, o5, o6⟩ := ho
  rcases Go.Deep.open_slice ht hf with ⟨hcs, _⟩ | ⟨x, len, cap, m, k, D, Pl, hc, _, hl, hm, hmm, _, hall⟩
  · simp [Value.cells] at hcs
    obtain ⟨rfl, rfl, rfl⟩ := hcs
    exact ⟨none, 0, 0, [], rfl, Rd.nil _ _⟩
  · simp [Value.cells] at hc
    obtain ⟨rfl, rfl, rfl⟩ := hc
    have hnm : n ≤ m := by rw [hmm]; simp; omega
    have each : ∀ i, i < n → ∃ q : Ru, ∀ j u, (ruC q)[j]? = some u → W.cell? (x.add (i * 7 + j)) = some u := by
      intro i hi
      obtain ⟨cs', h1, h2⟩ := hall i (by omega)
      rw [ce] at h1
      obtain ⟨_, hlen, hcell⟩ := World.cells?_some h1
      obtain ⟨xs, k', hk, hxy, _, hxl, hf'⟩ := DataW.trod_struct he h2
      match xs, hxl, cs', hlen with
      | [y0, y1, y2, y3, y4, y5, y6], _, [v0, v1, v2, v3, v4, v5, v6], _ =>
        have g0 := hf' 0 f0 rfl
        have g1 := hf' 1 f1 rfl
        have g2 := hf' 2 f2 rfl
        have g3 := hf' 3 f3 rfl
        have g4 := hf' 4 f4 rfl
        have g5 := hf' 5 f5 rfl
        have g6 := hf' 6 f6 rfl
        simp [o0, o1, o2, o3, o4, o5, o6, c0, c1, c2, c3, c4, c5, c6] at g0 g1 g2 g3 g4 g5 g6
        have e0 := hcell 0 (by omega)
        have e1 := hcell 1 (by omega)
        have e2 := hcell 2 (by omega)
        have e3 := hcell 3 (by omega)
        have e4 := hcell 4 (by omega)
        have e5 := hcell 5 (by omega)
        have e6 := hcell 6 (by omega)
        rw [Go.Deep.add_add] at e0 e1 e2 e3 e4 e5 e6
        obtain ⟨z0, q0, _, w0⟩ := DataW.trod_int u0 g0
        obtain ⟨z1, q1, _, w1⟩ := DataW.trod_int u1 g1
        obtain ⟨z2, q2, _, w2⟩ := DataW.trod_int u2 g2
        obtain ⟨z3, q3, _, w3⟩ := DataW.trod_int u3 g3
        obtain ⟨z4, q4, _, w4⟩ := DataW.trod_int u4 g4
        obtain ⟨z5, q5, _, w5⟩ := DataW.trod_int u5 g5
        obtain ⟨z6, q6, _⟩ := DataW.trod_bool u6 g6
        simp only [List.cons.injEq, and_true] at q0 q1 q2 q3 q4 q5 q6
        subst q0 q1 q2 q3 q4 q5 q6
        refine ⟨⟨z0, z1, z2, z3, z4, z5, z6⟩, fun j u hu => ?_⟩
        match j, hu with
        | 0, hu => obtain rfl := Option.some.inj hu; simpa using e0
        | 1, hu => obtain rfl := Option.some.inj hu; simpa using e1
        | 2, hu => obtain rfl := Option.some.inj hu; simpa using e2
        | 3, hu => obtain rfl := Option.some.inj hu; simpa using e3
        | 4, hu => obtain rfl := Option.some.inj hu; simpa using e4
        | 5, hu => obtain rfl := Option.some.inj hu; simpa using e5
        | 6, hu => obtain rfl := Option.some.inj hu; simpa using e6
        | j + 7, hu => exact absurd hu (by simp [ruC])
    have inh : Inhabited Ru := ⟨ruZ⟩
    obtain ⟨q, hq⟩ := Go.Deep.choose_lt each
    refine ⟨some x, n, c, (List.range n).map q, rfl, ⟨by rw [flatR_length]; simp, some x, c, rfl, hl, hm, (fun h => by cases h), fun ad had j u hu => ?_⟩⟩
    obtain rfl := Option.some.inj had
    have hj := (List.getElem?_eq_some_iff.1 hu).1
    rw [flatR_length, List.length_map, List.length_range] at hj
    have hi : j / 7 < n := by omega
    have hg := flatR_get ((List.range n).map q) (j / 7) (by simpa using hi) (j % 7) (by omega)
    rw [show j / 7 * 7 + j % 7 = j by omega, hu] at hg
    simp only [List.getElem_map, List.getElem_range] at hg
    have := hq _ hi (j % 7) u hg.symm
    rwa [show j / 7 * 7 + j % 7 = j by omega] at this
end
end Go.Proofs.Ytbldcjngccmhpaa.Ng
