/-
  Timers of a row of ticks in plain words: which of them are left when what is due is asked tick by tick, which were told; in memory.
-/
import Derived.Test.YtmcifmgfgdahnaaTmR
namespace Go.Proofs.Ytmcifmgfgdahnaa.Tm
open Go.RowKit
open Go.Proofs.Ytmcifmgfgdahnaa.Id (Tr Tr.refl Tr.gr Tr.only blk)
set_option linter.unusedVariables false

theorem infoBool : (Try.prog.info? 4).map (fun i => (i.zero, i.size, i.bytes)) = some (some (.bool false), 1, 1) := by kernel_rfl
theorem sizeBool : (Try.prog.info? 4).map (·.size) = some 1 := by kernel_rfl
theorem set_length (l : List D) (d : D) : (set l d).length ≤ l.length + 1 := by
  have := (ins_perm d (without l d.1)).length_eq
  have h2 : (without l d.1).length ≤ l.length := List.length_filter_le _ _
  unfold Tm.set
  rw [this, List.length_cons]
  omega
theorem mem_set (l : List D) (x d : D) : d ∈ set l x ↔ d = x ∨ (d ∈ l ∧ d.1 ≠ x.1) := by
  unfold Tm.set
  rw [(ins_perm _ _).mem_iff, List.mem_cons]
  unfold Tm.without
  rw [List.mem_filter]
  simp
theorem mem_cut : ∀ {l : List D} (t : Int), Srt l → ∀ d, (d ∈ due l t ↔ d ∈ l ∧ d.2 ≤ t) ∧ (d ∈ Tm.left l t ↔ d ∈ l ∧ ¬ d.2 ≤ t)
  | [], t, _, d => by simp [due, Tm.left]
  | a :: l, t, h, d => by
    have h1 := List.pairwise_cons.1 h
    by_cases c : a.2 ≤ t
    · have ih := mem_cut (l := l) t h1.2 d
      have e1 : due (a :: l) t = a :: due l t := by unfold due; rw [List.takeWhile_cons_of_pos (by simpa using c)]
      have e2 : Tm.left (a :: l) t = Tm.left l t := by unfold Tm.left; rw [List.dropWhile_cons_of_pos (by simpa using c)]
      rw [e1, e2, List.mem_cons, List.mem_cons, ih.1, ih.2]
      constructor
      · constructor
        · rintro (rfl | ⟨h2, h3⟩)
          · exact ⟨.inl rfl, c⟩
          · exact ⟨.inr h2, h3⟩
        · rintro ⟨rfl | h2, h3⟩
          · exact .inl rfl
          · exact .inr ⟨h2, h3⟩
      · constructor
        · rintro ⟨h2, h3⟩; exact ⟨.inr h2, h3⟩
        · rintro ⟨rfl | h2, h3⟩
          · exact absurd c h3
          · exact ⟨h2, h3⟩
    · have e1 : due (a :: l) t = [] := by unfold due; rw [List.takeWhile_cons_of_neg (by simpa using c)]
      have e2 : Tm.left (a :: l) t = a :: l := by unfold Tm.left; rw [List.dropWhile_cons_of_neg (by simpa using c)]
      have hall : ∀ x ∈ a :: l, ¬ x.2 ≤ t := by
        intro x hx
        rcases List.mem_cons.1 hx with rfl | hx
        · exact c
        · have := h1.1 x hx
          unfold lt at this
          omega
      rw [e1, e2]
      exact ⟨⟨fun h => by simp at h, fun h => absurd h.2 (hall d h.1)⟩, ⟨fun h => ⟨h, hall d h⟩, fun h => h.1⟩⟩
/-- The tick of a row's place. -/
def tickOf (l : List UInt8) (j : Nat) : Int := 1 + ((l.getD j 0).toNat : Int)
theorem tick_in (l : List UInt8) (j : Nat) : 1 ≤ tickOf l j ∧ tickOf l j ≤ 256 := by
  have := (l.getD j 0).toNat_lt
  unfold tickOf
  omega
/-- The row's first m timers, of ticks behind T, and no others. -/
def These (l : List UInt8) (m : Nat) (T : Int) (L : List D) : Prop := ∀ d : D, d ∈ L ↔ ∃ j : Nat, j < m ∧ d = ((j : Int), tickOf l j) ∧ T < tickOf l j
theorem These.nil (l : List UInt8) (T : Int) : These l 0 T [] := fun d => by simp
theorem These.add {l : List UInt8} {i : Nat} {L : List D} (h : These l i 0 L) : These l (i + 1) 0 (set L ((i : Int), tickOf l i)) := by
  intro d
  rw [mem_set, h d]
  constructor
  · rintro (rfl | ⟨⟨j, h1, h2, h3⟩, _⟩)
    · exact ⟨i, by omega, rfl, by have := (tick_in l i).1; omega⟩
    · exact ⟨j, by omega, h2, h3⟩
  · rintro ⟨j, h1, rfl, h3⟩
    by_cases e : j = i
    · subst e; exact .inl rfl
    · exact .inr ⟨⟨j, by omega, rfl, h3⟩, by show (j : Int) ≠ (i : Int); omega⟩
theorem These.low {l : List UInt8} {m : Nat} {T T' : Int} {L : List D} (h : These l m T L) (h0 : T ≤ 0) (h1 : T' ≤ 0) : These l m T' L := by
  intro d
  rw [h d]
  constructor <;> rintro ⟨j, a, b, c⟩ <;> exact ⟨j, a, b, by have := (tick_in l j).1; omega⟩
theorem These.left {l : List UInt8} {m : Nat} {T T' : Int} {L : List D} (h : These l m T L) (hs : Srt L) (ht : T ≤ T') : These l m T' (Tm.left L T') := by
  intro d
  rw [(mem_cut T' hs d).2, h d]
  constructor
  · rintro ⟨⟨j, a, rfl, c⟩, e⟩
    exact ⟨j, a, rfl, Int.not_le.1 e⟩
  · rintro ⟨j, a, rfl, c⟩
    exact ⟨⟨j, a, rfl, by omega⟩, Int.not_le.2 c⟩
theorem These.due {l : List UInt8} {m : Nat} {T T' : Int} {L : List D} (h : These l m T L) (hs : Srt L) (d : D) : d ∈ Tm.due L T' ↔ ∃ j : Nat, j < m ∧ d = ((j : Int), tickOf l j) ∧ T < tickOf l j ∧ tickOf l j ≤ T' := by
  rw [(mem_cut T' hs d).1, h d]
  constructor
  · rintro ⟨⟨j, a, rfl, c⟩, e⟩
    exact ⟨j, a, rfl, c, e⟩
  · rintro ⟨j, a, rfl, c, e⟩
    exact ⟨⟨j, a, rfl, c⟩, e⟩
theorem These.none {l : List UInt8} {m : Nat} {T : Int} {L : List D} (h : These l m T L) (ht : 256 ≤ T) : L = [] := by
  cases L with
  | nil => rfl
  | cons x L =>
    obtain ⟨j, _, _, hj⟩ := (h x).1 List.mem_cons_self
    have := (tick_in l j).2
    omega
theorem Srt.due {L : List D} (h : Srt L) (t : Int) : Srt (due L t) := h.sublist (List.takeWhile_sublist _)
/-! What was told. -/
def told (l : List UInt8) (m : Nat) (T : Int) (U : List D) (k : Nat) : Nat → Bool := fun j => decide (j < m ∧ tickOf l j ≤ T) || decide ((j : Int) ∈ (U.take k).map (·.1))
def bt (f : Nat → Bool) : List Value := (List.range 80).map fun j => .bool (f j)
theorem bt_length (f : Nat → Bool) : (bt f).length = 80 := by simp [bt]
theorem bt_get (f : Nat → Bool) (j : Nat) (h : j < 80) : (bt f)[j]? = some (.bool (f j)) := by simp [bt, List.getElem?_range h]
theorem bt_none (l : List UInt8) (m : Nat) (T : Int) (ht : T ≤ 0) (U : List D) : List.replicate 80 (Value.bool false) = bt (told l m T U 0) := by
  apply List.ext_getElem
  · rw [List.length_replicate, bt_length]
  · intro j h1 h2
    have := (tick_in l j).1
    have h3 : ¬ tickOf l j ≤ T := by omega
    rw [List.getElem_replicate]
    simp only [bt, List.getElem_map, List.getElem_range, told]
    simp [h3]
theorem bt_set {l : List UInt8} {m : Nat} {T : Int} {U : List D} {k j : Nat} (hk : k < U.length) (hj : U[k].1 = (j : Int)) : (bt (told l m T U k)).set j (.bool true) = bt (told l m T U (k + 1)) := by
  apply List.ext_getElem
  · rw [List.length_set, bt_length, bt_length]
  · intro i h1 h2
    have ht : (U.take (k + 1)).map (·.1) = (U.take k).map (·.1) ++ [(j : Int)] := by
      rw [List.take_add_one, List.getElem?_eq_getElem hk, List.map_append]
      simp [hj]
    rw [List.getElem_set]
    by_cases e : j = i
    · subst e
      rw [if_pos rfl]
      simp only [bt, List.getElem_map, List.getElem_range, told, ht]
      simp
    · rw [if_neg e]
      simp only [bt, List.getElem_map, List.getElem_range, told, ht]
      have : ¬ (i : Int) = (j : Int) := by omega
      simp [this]
/-- The k-th of those that are due: whose it is; not told yet. -/
theorem due_at {l : List UInt8} {m : Nat} {T T' : Int} {L : List D} (h : These l m T L) (hs : Srt L) {k : Nat} (hk : k < (Tm.due L T').length) :
    ∃ j : Nat, j < m ∧ (Tm.due L T')[k] = ((j : Int), tickOf l j) ∧ T < tickOf l j ∧ tickOf l j ≤ T' ∧ told l m T (Tm.due L T') k j = false := by
  obtain ⟨j, h1, h2, h3, h4⟩ := (h.due hs _).1 (List.getElem_mem hk)
  refine ⟨j, h1, h2, h3, h4, ?_⟩
  have hn : ¬ tickOf l j ≤ T := by omega
  have hno : ¬ (j : Int) ∈ ((Tm.due L T').take k).map (·.1) := by
    intro hm
    obtain ⟨x, hx, hxj⟩ := List.mem_map.1 hm
    obtain ⟨i, hi, hxi⟩ := List.mem_iff_getElem.1 hx
    have hi1 : i < k := by rw [List.length_take] at hi; omega
    have hi2 : i < (Tm.due L T').length := by omega
    rw [List.getElem_take] at hxi
    obtain ⟨j2, g1, g2, g3, g4⟩ := (h.due hs _).1 (List.getElem_mem hi2)
    have e : (j2 : Int) = (j : Int) := by rw [← hxj, ← hxi, g2]
    have e2 : j2 = j := by omega
    subst e2
    have := List.pairwise_iff_getElem.1 (hs.due T') i k hi2 hk hi1
    rw [g2, h2] at this
    exact lt_irrefl _ this
  unfold told
  rw [decide_eq_false (fun h => hn h.2), decide_eq_false hno]
  rfl
theorem told_end {l : List UInt8} {m : Nat} {T T' : Int} {L : List D} (h : These l m T L) (hs : Srt L) (ht : T ≤ T') (U : List D) : told l m T (Tm.due L T') (Tm.due L T').length = told l m T' U 0 := by
  funext j
  unfold told
  rw [List.take_length, List.take_zero]
  have e : ((j : Int) ∈ (Tm.due L T').map (·.1)) ↔ (j < m ∧ T < tickOf l j ∧ tickOf l j ≤ T') := by
    constructor
    · intro hm
      obtain ⟨x, hx, hxj⟩ := List.mem_map.1 hm
      obtain ⟨j2, g1, g2, g3, g4⟩ := (h.due hs _).1 hx
      have e2 : j2 = j := by rw [g2] at hxj; have h9 : (j2 : Int) = (j : Int) := hxj; omega
      subst e2
      exact ⟨g1, g3, g4⟩
    · rintro ⟨g1, g3, g4⟩
      exact List.mem_map.2 ⟨((j : Int), tickOf l j), (h.due hs _).2 ⟨j, g1, rfl, g3, g4⟩, rfl⟩
  by_cases c : j < m ∧ tickOf l j ≤ T'
  · by_cases c2 : tickOf l j ≤ T
    · simp [c, c2]
    · have : (j : Int) ∈ (Tm.due L T').map (·.1) := e.2 ⟨c.1, by omega, c.2⟩
      simp [c, this]
  · have h1 : ¬ (j < m ∧ tickOf l j ≤ T) := fun h => c ⟨h.1, by omega⟩
    have h2 : ¬ (j : Int) ∈ (Tm.due L T').map (·.1) := fun h => c ⟨(e.1 h).1, (e.1 h).2.2⟩
    rw [decide_eq_false h1, decide_eq_false h2, decide_eq_false c]
    simp
theorem told_all {l : List UInt8} {m : Nat} {T : Int} (ht : 256 ≤ T) {j : Nat} (hj : j < m) (U : List D) : told l m T U 0 j = true := by
  have := (tick_in l j).2
  have h : tickOf l j ≤ T := by omega
  simp [told, hj, h]
/-! In memory. -/
theorem own_full {w : World} {base b n : Nat} {e : TypeId} {xs : List Value} (h : w.ownsRow base e 1 (.slice (some ⟨b, 0, none⟩) n n) n xs) : w.heap[b]? = some (.cells xs.toArray e (0, 0)) := by
  rcases h.2 with ⟨h0, _⟩ | ⟨g, cap, cur, h0, _, hg, _, _, h3, h4⟩
  · simp at h0
  · simp only [Value.slice.injEq, Option.some.injEq, Addr.mk.injEq] at h0
    obtain ⟨⟨rfl, _⟩, _, rfl⟩ := h0
    rw [hg, ← h4, List.take_of_length_le (by simp; omega)]
structure TS (W w : World) (p g : Nat) (L : List D) (f : Nat → Bool) : Prop where
  lt : LT W w p L
  tb : w.heap[g]? = some (.cells (bt f).toArray 4 (0, 0))
  ge : W.heap.size ≤ g
theorem TS.gr {W w w' : World} {p g : Nat} {L : List D} {f : Nat → Bool} (h : TS W w p g L f) (hb : Below w.heap.size w w') : TS W w' p g L f := ⟨h.lt.gr hb, heap_below h.tb hb, h.ge⟩
theorem TS.go {W w w' : World} {p g : Nat} {L L' : List D} {f : Nat → Bool} (h : TS W w p g L f) (hl : LT W w' p L') (hk : Kt w w') : TS W w' p g L' f := ⟨hl, hk _ _ _ _ h.tb (by decide) (by decide) (by decide), h.ge⟩
theorem TS.cell {W w : World} {p g : Nat} {L : List D} {f : Nat → Bool} (h : TS W w p g L f) {j : Nat} (hj : j < 80) : w.cell? ⟨g, j, none⟩ = some (.bool (f j)) := by
  rw [cell_of_row _ _ _ _ _ _ h.tb]
  simpa using bt_get f j hj
theorem TS.put {W w w' : World} {p g : Nat} {L : List D} {f f' : Nat → Bool} (h : TS W w p g L f) (ho : Only g w w') (hg : w'.heap[g]? = some (.cells (bt f').toArray 4 (0, 0))) : TS W w' p g L f' :=
  ⟨h.lt.other (Tr.only ho (K := [g]) (by simp)) (fun k hk => by obtain rfl := List.mem_singleton.1 hk; exact ⟨h.ge, _, _, _, h.tb, by decide, by decide, by decide⟩), hg, h.ge⟩
theorem TS.row {W w w' : World} {p g : Nat} {L : List D} {f : Nat → Bool} (h : TS W w p g L f) (ho : Only g w w') {v : Value} {U : List D} (hr : Rw w 40 v U) : Rw w' 40 v U :=
  own_keep hr fun k hk => ho.heap k (own_blk_lt hr hk) (blk_ne_g hr h.tb (by decide) k hk)
end Go.Proofs.Ytmcifmgfgdahnaa.Tm
