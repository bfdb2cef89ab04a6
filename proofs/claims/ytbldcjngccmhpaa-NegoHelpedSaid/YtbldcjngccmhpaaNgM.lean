/-
  Rules in memory: each rule is seven cells.
-/
import Derived.Test.YtbldcjngccmhpaaNgP
import Derived.Test.YtbldcjngccmhpaaOpM
namespace Go.Proofs.Ytbldcjngccmhpaa.Ng
open Go.RowKit
set_option linter.unusedVariables false
set_option linter.unusedSimpArgs false

/-- A rule's cells. -/
def ruC (r : Ru) : List Value := [.int .i64 r.typ, .int .i64 r.size, .int .i64 r.kind, .int .i64 r.low, .int .i64 r.high, .int .i64 r.good, .bool r.must]
def flatR (rs : List Ru) : List Value := rs.flatMap ruC
theorem flatR_length (rs : List Ru) : (flatR rs).length = rs.length * 7 := by
  induction rs with
  | nil => rfl
  | cons q qs ih =>
    show (ruC q ++ flatR qs).length = _
    rw [List.length_append, ih, List.length_cons]
    show 7 + _ = _
    omega
theorem flatR_get : ∀ (qs : List Ru) (i : Nat) (hi : i < qs.length) (j : Nat), j < 7 → (flatR qs)[i * 7 + j]? = (ruC qs[i])[j]?
  | q :: qs, 0, _, j, hj => by
    show (ruC q ++ flatR qs)[0 * 7 + j]? = _
    rw [List.getElem?_append_left (by show _ < 7; omega)]
    simp
  | q :: qs, i + 1, hi, j, hj => by
    show (ruC q ++ flatR qs)[(i + 1) * 7 + j]? = _
    rw [List.getElem?_append_right (by show 7 ≤ _; omega), show (i + 1) * 7 + j - (ruC q).length = i * 7 + j by show _ - 7 = _; omega]
    rw [flatR_get qs i (by simpa using hi) j hj]
    rfl
/-- v is a row of n rules that reads rs in w. -/
def RR (w : World) (v : Value) (n : Nat) (rs : List Ru) : Prop := Rd w 7 v n (flatR rs)
theorem RR.len {w : World} {v : Value} {n : Nat} {rs : List Ru} (h : RR w v n rs) : rs.length = n := by
  have h1 := h.1
  rw [flatR_length] at h1
  omega
theorem RR.below {w w' : World} {v : Value} {n : Nat} {rs : List Ru} (h : RR w v n rs) (hb : Below w.heap.size w w') : RR w' v n rs := Rd.below h hb
theorem RR.shape {w : World} {v : Value} {n : Nat} {rs : List Ru} (h : RR w v n rs) : ∃ ao cap, v = .slice ao n cap ∧ n ≤ cap ∧ cap ≤ maxLen := Rd.shape h
theorem RR.sh {w : World} {ao : Option Addr} {n c : Nat} {rs : List Ru} (h : RR w (.slice ao n c) n rs) : n ≤ c ∧ c ≤ maxLen := by
  obtain ⟨_, _, es, h1, h2⟩ := h.shape
  simp only [Value.slice.injEq] at es
  obtain ⟨rfl, _, rfl⟩ := es
  exact ⟨h1, h2⟩
/-- Rule i's cells. -/
theorem RR.cells {w : World} {ao : Option Addr} {n c : Nat} {rs : List Ru} (h : RR w (.slice ao n c) n rs) (hn : 0 < n) :
    ∃ b o, ao = some ⟨b, o, none⟩ ∧ b < w.heap.size ∧ ∀ i (hi : i < rs.length), w.cell? ⟨b, o + i * 7, none⟩ = some (.int .i64 rs[i].typ) ∧ w.cell? ⟨b, o + i * 7 + 1, none⟩ = some (.int .i64 rs[i].size) ∧
      w.cell? ⟨b, o + i * 7 + 2, none⟩ = some (.int .i64 rs[i].kind) ∧ w.cell? ⟨b, o + i * 7 + 3, none⟩ = some (.int .i64 rs[i].low) ∧ w.cell? ⟨b, o + i * 7 + 4, none⟩ = some (.int .i64 rs[i].high) ∧
      w.cell? ⟨b, o + i * 7 + 5, none⟩ = some (.int .i64 rs[i].good) ∧ w.cell? ⟨b, o + i * 7 + 6, none⟩ = some (.bool rs[i].must) := by
  obtain ⟨b, o, h1, h2, h3⟩ := Rd.cells h hn (by omega)
  exact ⟨b, o, h1, h2, fun i hi => ⟨h3 _ _ (flatR_get rs i hi 0 (by decide)), h3 _ _ (flatR_get rs i hi 1 (by decide)), h3 _ _ (flatR_get rs i hi 2 (by decide)), h3 _ _ (flatR_get rs i hi 3 (by decide)),
    h3 _ _ (flatR_get rs i hi 4 (by decide)), h3 _ _ (flatR_get rs i hi 5 (by decide)), h3 _ _ (flatR_get rs i hi 6 (by decide))⟩⟩
theorem RR.range {w : World} {ao : Option Addr} {n c : Nat} {rs : List Ru} (h : RR w (.slice ao n c) n rs) (hn : 0 < n) :
    ∃ b o, ao = some ⟨b, o, none⟩ ∧ b < w.heap.size ∧ ∀ i (hi : i < rs.length), w.rangeAt b (o + i * 7) (ruC rs[i]) := by
  obtain ⟨b, o, h1, h2, h3⟩ := Rd.cells h hn (by omega)
  refine ⟨b, o, h1, h2, fun i hi j u hj => ?_⟩
  have hj7 : j < 7 := (List.getElem?_eq_some_iff.1 hj).1
  have := h3 _ _ ((flatR_get rs i hi j hj7).trans hj)
  rwa [show o + (i * 7 + j) = o + i * 7 + j by omega] at this
theorem cells7 {w : World} {g : Nat} {a b c d e f k : Value} {t : TypeId} {fr : Nat × Nat} (h : w.heap[g]? = some (.cells #[a, b, c, d, e, f, k] t fr)) :
    w.cell? ⟨g, 0, none⟩ = some a ∧ w.cell? ⟨g, 1, none⟩ = some b ∧ w.cell? ⟨g, 2, none⟩ = some c ∧ w.cell? ⟨g, 3, none⟩ = some d ∧ w.cell? ⟨g, 4, none⟩ = some e ∧ w.cell? ⟨g, 5, none⟩ = some f ∧ w.cell? ⟨g, 6, none⟩ = some k :=
  ⟨by rw [cell_of_row w g _ _ _ _ h]; rfl, by rw [cell_of_row w g _ _ _ _ h]; rfl, by rw [cell_of_row w g _ _ _ _ h]; rfl, by rw [cell_of_row w g _ _ _ _ h]; rfl, by rw [cell_of_row w g _ _ _ _ h]; rfl, by rw [cell_of_row w g _ _ _ _ h]; rfl, by rw [cell_of_row w g _ _ _ _ h]; rfl⟩
theorem sizeR : (Try.prog.info? 39).map (·.size) = some 7 := by kernel_rfl
theorem sizeR2 : (Try.prog.info? 56).map (·.size) = some 7 := by kernel_rfl
theorem ruC_one (r : Ru) : ∀ u ∈ ruC r, u.oneCell' = true := by
  intro u hu
  simp only [ruC, List.mem_cons, List.not_mem_nil, or_false] at hu
  rcases hu with rfl | rfl | rfl | rfl | rfl | rfl | rfl <;> rfl
def ruZ : Ru := ⟨0, 0, 0, 0, 0, 0, false⟩
end Go.Proofs.Ytbldcjngccmhpaa.Ng
