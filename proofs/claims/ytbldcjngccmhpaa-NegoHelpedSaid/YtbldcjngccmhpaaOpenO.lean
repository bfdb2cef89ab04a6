/-
  Options that come in as data, opened: a slice of them, one.
-/
import Derived.Test.YtbldcjngccmhpaaOpM
import Derived.Test.YtbldcjngccmhpaaOpen
import Derived.Deep.SlicePairs
namespace Go.Proofs.Ytbldcjngccmhpaa.O
open Go.ChangeShapes Go.WideShapes Go.ChangeAt Go.RowKit
set_option linter.unusedVariables false
set_option linter.unusedSimpArgs false
section
variable {H : Type} {enc : TypeId × Value → H} {P : Program} {W : World} {base : Nat}

/-- A cell that is a slice of bytes. -/
theorem bytes_cell {t e : TypeId} {v : Value} {fuel : Nat} {x : DataW H × List MemPlace} (ht : P.underlying t = some (.slice e)) (he : P.underlying e = some (.int .u8)) (hc : P.cellsOf e = 1)
    (hf : DataW.trod enc P W 0 (fun _ => true) true fuel t [v] = some x) : ∃ l, Bs W v l := by
  rcases open_ints ht he hc hf with ⟨hcs, _⟩ | ⟨x, len, c', zs, hcs, _, hl, hm, hz, _, hcell, hwz⟩
  · obtain rfl : v = .slice none 0 0 := by simpa using hcs
    exact ⟨[], Bs.nil _⟩
  · obtain rfl : v = .slice (some x) len c' := by simpa using hcs
    obtain ⟨bs, rfl⟩ := bytes_of_ints zs hwz
    simp at hz
    have hlen : (bs.take len).length = len := by rw [List.length_take]; omega
    refine ⟨bs.take len, ?_⟩
    unfold Bs
    rw [hlen]
    refine ⟨by simp; omega, some x, c', rfl, hl, hm, (fun h => by cases h), fun ad had j u hu => ?_⟩
    obtain rfl := Option.some.inj had
    rw [List.getElem?_map] at hu
    cases hj : (bs.take len)[j]? with
    | none => rw [hj] at hu; cases hu
    | some b =>
      rw [hj] at hu
      obtain rfl := Option.some.inj hu
      have hjn : j < len := by have := (List.getElem?_eq_some_iff.1 hj).1; omega
      have hb : bs[j]? = some b := by rwa [List.getElem?_take, if_pos hjn] at hj
      have := hcell j (by simp; omega)
      rw [this]
      simp [u8v, hb]
/-- Cells two by two. -/
theorem flat_cells {w : World} {a : Addr} (q : Nat → Tg) (n : Nat) (h : ∀ i, i < n → w.cell? (a.add (i * 2)) = some (.int .i64 (q i).typ) ∧ w.cell? (a.add (i * 2 + 1)) = some (q i).val) :
    ∀ j u, (flat ((List.range n).map q))[j]? = some u → w.cell? (a.add j) = some u := by
  intro j u hu
  have hj := (List.getElem?_eq_some_iff.1 hu).1
  rw [flat_length, List.length_map, List.length_range] at hj
  have hi : j / 2 < n := by omega
  have hg := flat_get ((List.range n).map q) (j / 2) (by simpa using hi)
  simp only [List.getElem_map, List.getElem_range] at hg
  rcases Nat.mod_two_eq_zero_or_one j with h2 | h2
  · rw [show j = j / 2 * 2 by omega] at hu ⊢
    rw [hg.1] at hu
    obtain rfl := Option.some.inj hu
    exact (h _ hi).1
  · rw [show j = j / 2 * 2 + 1 by omega] at hu ⊢
    rw [hg.2] at hu
    obtain rfl := Option.some.inj hu
    exact (h _ hi).2
/-- A slice of options that came in. -/
theorem open_opts {t e u8 : TypeId} {f0 f1 : Field} {v : Value} {d : DataW H} {p : List MemPlace} (ht : P.underlying t = some (.slice e)) (he : P.underlying e = some (.struct #[f0, f1]))
    (ho : f0.offset = 0 ∧ f1.offset = 1) (h0 : P.underlying f0.type = some (.int .i64)) (h1 : P.underlying f1.type = some (.slice u8)) (hu : P.underlying u8 = some (.int .u8))
    (hcs : P.cellsOf e = 2 ∧ P.cellsOf f0.type = 1 ∧ P.cellsOf f1.type = 1 ∧ P.cellsOf u8 = 1)
    (hval : Value.okWide P W .any base t v) (h : DataW.Trod enc P W 0 (fun _ => true) true t v d p) : ∃ a n c ts, v = .slice a n c ∧ TR W (.slice a n c) n ts := by
  obtain ⟨a, n, c, rfl⟩ := okWide_slice ht hval
  obtain ⟨fuel, hf⟩ := h
  rcases Go.Deep.open_slice_pairs ht he hcs.1 ho.1 ho.2 hcs.2.1 hcs.2.2.1 hf with ⟨hcs, _⟩ | ⟨x, len, cap, m, k, V0, V1, D0, D1, P0, P1, hc, _, hl, hm, hmm, _, hall⟩
  · simp [Value.cells] at hcs
    obtain ⟨rfl, rfl, rfl⟩ := hcs
    exact ⟨none, 0, 0, [], rfl, TR.nil _⟩
  · simp [Value.cells] at hc
    obtain ⟨rfl, rfl, rfl⟩ := hc
    have hnm : n ≤ m := by rw [hmm]; simp; omega
    have each : ∀ i, i < n → ∃ q : Tg, W.cell? (x.add (i * 2)) = some (.int .i64 q.typ) ∧ W.cell? (x.add (i * 2 + 1)) = some q.val ∧ Bs W q.val q.l := by
      intro i hi
      obtain ⟨g0, g1, g2, g3⟩ := hall i (by omega)
      obtain ⟨z, e1, _, wz⟩ := DataW.trod_int h0 g2
      obtain ⟨l, hb⟩ := bytes_cell h1 hu hcs.2.2.2 g3
      refine ⟨⟨z, V1 i, l⟩, ?_, g1, hb⟩
      rw [g0]
      simpa using e1
    have inh : Inhabited Tg := ⟨⟨0, undef, []⟩⟩
    obtain ⟨q, hq⟩ := Go.Deep.choose_lt each
    refine ⟨some x, n, c, (List.range n).map q, rfl, ⟨by rw [flat_length]; simp, some x, c, rfl, hl, hm, (fun h => by cases h), fun ad had => ?_⟩, fun t ht => ?_⟩
    · obtain rfl := Option.some.inj had
      exact flat_cells q n fun i hi => ⟨(hq i hi).1, (hq i hi).2.1⟩
    · obtain ⟨i, hi, rfl⟩ := List.mem_map.1 ht
      exact (hq i (List.mem_range.1 hi)).2.2
end
end Go.Proofs.Ytbldcjngccmhpaa.O
