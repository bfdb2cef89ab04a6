/-
  Who takes over what is told, question behind question, in plain words.
-/
import Derived.Test.YtbldcjngccmhpaaNgY
namespace Go.Proofs.Ytbldcjngccmhpaa.Ng
open Go.RowKit O
set_option linter.unusedVariables false
set_option linter.unusedSimpArgs false
/-- Types in range, data that are not long. -/
def Small (l : List PT) : Prop := ∀ o ∈ l, I64 o.1 ∧ o.2.length ≤ 1000
theorem small_row {us : List Tg} (h : Small (plain us)) : (∀ x ∈ us, x.l.length ≤ 1000) ∧ ∀ x ∈ us, I64 x.typ :=
  ⟨fun x hx => (h x.plain (List.mem_map.2 ⟨x, hx, rfl⟩)).2, fun x hx => (h x.plain (List.mem_map.2 ⟨x, hx, rfl⟩)).1⟩
theorem row_small {us : List Tg} (h : ∀ x ∈ us, x.l.length ≤ 1000) (h2 : ∀ x ∈ us, I64 x.typ) : Small (plain us) := fun o ho => by
  obtain ⟨x, hx, rfl⟩ := List.mem_map.1 ho
  exact ⟨h2 x hx, h x hx⟩
theorem small_good {r : Ru} (h : isR r) : I64 (goodO r).1 ∧ (goodO r).2.length ≤ 1000 := by
  refine ⟨⟨?_, ?_⟩, ?_⟩
  · show _ ≤ r.typ; have := h.1; omega
  · show r.typ ≤ _; have := h.2.1; omega
  · show (putL _ _).length ≤ 1000
    rw [putL_length]
    have := h.2.2.2.1
    omega
theorem rejs_sub (rs : List Ru) : ∀ (l seen : List PT), ∀ o ∈ rejs rs seen l, o ∈ l
  | [], _, o, h => by cases h
  | x :: l, seen, o, h => by
    unfold rejs at h
    rcases List.mem_append.1 h with h | h
    · split at h
      · rw [List.mem_singleton.1 h]; simp
      · cases h
    · exact List.mem_cons_of_mem _ (rejs_sub rs l _ o h)
theorem small_ans {rs : List Ru} {l : List PT} {n m : Int} (ha : areR rs) (hs : Small l) : Small (ans rs l n m).2 ∧ (ans rs l n m).2.length ≤ l.length + 16 := by
  have hr := rejs_len rs l []
  have hb := bads_len rs l []
  have hk : (lacks rs l).length ≤ 16 := by
    have := lackTo_length rs l rs.length
    unfold lackTo at this
    rw [List.take_length] at this
    exact Nat.le_trans this ha.1
  unfold ans
  rw [if_neg (by simpa using ha)]
  split
  · exact ⟨fun o ho => hs o (rejs_sub rs l [] o ho), by show (rejs rs [] l).length ≤ _; omega⟩
  · split
    · exact ⟨hs, by show l.length ≤ _; omega⟩
    · split
      · refine ⟨fun o ho => ?_, by show ((bads rs [] l).map (·.1)).length ≤ _; rw [List.length_map]; omega⟩
        obtain ⟨x, hx, rfl⟩ := List.mem_map.1 ho
        exact hs _ (bads_mem hx).1
      · refine ⟨fun o ho => ?_, by show ((bads rs [] l).map (·.2) ++ lacks rs l).length ≤ _; rw [List.length_append, List.length_map]; omega⟩
        rcases List.mem_append.1 ho with ho | ho
        · obtain ⟨x, hx, rfl⟩ := List.mem_map.1 ho
          obtain ⟨_, r, hr2, _, e⟩ := bads_mem hx
          rw [e]
          exact small_good (ha.2.1 r (ruleOf_some hr2).1)
        · obtain ⟨r, hr2, rfl, _⟩ := lacks_mem ho
          exact small_good (ha.2.1 r hr2)
theorem strike_sub : ∀ (q l : List PT), ∀ o ∈ (strike q l).1, o ∈ q
  | [], l, o, h => by cases l <;> cases h
  | p :: q, [], o, h => by
    unfold strike at h
    rcases List.mem_cons.1 h with rfl | h
    · simp
    · exact List.mem_cons_of_mem _ (strike_sub q [] o h)
  | p :: q, x :: l, o, h => by
    unfold strike at h
    split at h
    · exact List.mem_cons_of_mem _ (strike_sub q l o h)
    · rcases List.mem_cons.1 h with rfl | h
      · simp
      · exact List.mem_cons_of_mem _ (strike_sub q (x :: l) o h)
theorem small_take {l : List PT} {o : PT} (hs : Small l) (ho : I64 o.1 ∧ o.2.length ≤ 1000) : I64 (takeOver l o).1 ∧ (takeOver l o).2.length ≤ 1000 := by
  unfold takeOver
  split
  · exact ho
  · rename_i x hx
    exact ⟨ho.1, (hs x (List.mem_of_find?_eq_some hx)).2⟩
theorem small_lrn {q l : List PT} {k : Int} (hq : Small q) (hl : Small l) : Small (lrn q k l).1 ∧ (lrn q k l).1.length ≤ q.length := by
  unfold lrn
  split
  · exact ⟨hq, Nat.le_refl _⟩
  · split
    · refine ⟨fun o ho => ?_, by show (q.map _).length ≤ _; rw [List.length_map]; omega⟩
      obtain ⟨x, hx, rfl⟩ := List.mem_map.1 ho
      exact small_take hl (hq x hx)
    · split
      · split
        · rename_i h
          refine ⟨fun o ho => hq o (strike_sub q l o ho), ?_⟩
          have := strike_len q l
          rw [h] at this
          show (strike q l).1.length ≤ _
          simp at this
          omega
        · exact ⟨hq, Nat.le_refl _⟩
      · exact ⟨hq, Nat.le_refl _⟩
theorem small_fol {q l : List PT} {k : Int} (hq : Small q) (hl : Small l) : Small (fol q k l).1 ∧ (fol q k l).1.length ≤ q.length + l.length := by
  unfold fol
  split
  · have h := small_lrn (k := 3) hq hl
    refine ⟨fun o ho => ?_, ?_⟩
    · rcases List.mem_append.1 ho with ho | ho
      · exact h.1 o ho
      · exact hl o (List.mem_filter.1 ho).1
    · show ((lrn q 3 l).1 ++ _).length ≤ _
      rw [List.length_append]
      have := List.length_filter_le (fun o : PT => !hasT q o.1) l
      have := h.2
      omega
  · have h := small_lrn (k := k) hq hl
    exact ⟨h.1, by have := h.2; omega⟩
/-- Where the questions stand: the first, one that fits, one that is taken. -/
def Stage (rs : List Ru) (l : List PT) (i : Nat) : Prop := (i = 0 ∧ (l.map (·.1)).Nodup) ∨ (i ≤ 1 ∧ (l.map (·.1)).Nodup ∧ rejs rs [] l = []) ∨ (i ≤ 2 ∧ ∀ m : Int, ans rs l m (m + 3) = (2, l))
theorem stage_fit {rs : List Ru} {l : List PT} {i : Nat} (ha : areR rs) (n : Int) (h1 : i ≤ 1) (hn : (l.map (·.1)).Nodup) (hr : rejs rs [] l = []) :
    (ans rs l n (n + 3)).1 = 2 ∨ ((ans rs l n (n + 3)).1 ≠ 2 ∧ (fol l (ans rs l n (n + 3)).1 (ans rs l n (n + 3)).2).2 = true ∧ Stage rs (fol l (ans rs l n (n + 3)).1 (ans rs l n (n + 3)).2).1 (i + 1)) := by
  by_cases hx : nakX rs l = []
  · left; rw [helped_ack n ha hr hx]
  · right
    obtain ⟨g1, g2, g3⟩ := helped_nak n ha hn hr hx
    have e : fol l 3 (nakX rs l) = (nextN l (nakX rs l), true) := by
      unfold fol
      rw [if_pos rfl, g2]
      rfl
    rw [g1]
    show (3 : Int) ≠ 2 ∧ (fol l 3 (nakX rs l)).2 = true ∧ Stage rs (fol l 3 (nakX rs l)).1 (i + 1)
    rw [e]
    exact ⟨by decide, rfl, .inr (.inr ⟨by omega, g3⟩)⟩
theorem stage_step {rs : List Ru} {l : List PT} {i : Nat} (ha : areR rs) (n : Int) (h : Stage rs l i) :
    (ans rs l n (n + 3)).1 = 2 ∨ ((ans rs l n (n + 3)).1 ≠ 2 ∧ (fol l (ans rs l n (n + 3)).1 (ans rs l n (n + 3)).2).2 = true ∧ Stage rs (fol l (ans rs l n (n + 3)).1 (ans rs l n (n + 3)).2).1 (i + 1)) := by
  rcases h with ⟨h0, hn⟩ | ⟨h1, hn, hr⟩ | ⟨h2, h⟩
  · by_cases hr : rejs rs [] l = []
    · exact stage_fit ha n (by omega) hn hr
    · right
      obtain ⟨g1, g2, g3, g4⟩ := helped_rej n ha hn hr
      have e : fol l 4 (rejs rs [] l) = (l.filter (fun o => (ruleOf rs o).isSome), true) := by
        unfold fol
        rw [if_neg (by decide), g2]
      rw [g1]
      show (4 : Int) ≠ 2 ∧ (fol l 4 (rejs rs [] l)).2 = true ∧ Stage rs (fol l 4 (rejs rs [] l)).1 (i + 1)
      rw [e]
      exact ⟨by decide, rfl, .inr (.inl ⟨by omega, g3, g4⟩)⟩
  · exact stage_fit ha n h1 hn hr
  · left; rw [h n]
theorem stage_end {rs : List Ru} {l : List PT} : ¬ Stage rs l 3 := by
  rintro (⟨h, _⟩ | ⟨h, _⟩ | ⟨h, _⟩) <;> omega
end Go.Proofs.Ytbldcjngccmhpaa.Ng
