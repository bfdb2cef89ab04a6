/-
  Rings in plain words: a row that lies in cells that are used round and round.
-/
import Derived.Test.YtpafcabcnkmadaaIdM
namespace Go.Proofs.Ytpafcabcnkmadaa.Id
open Go.RowKit
set_option linter.unusedVariables false
set_option linter.unusedSimpArgs false

/-- The cell of what stands behind i others: the first one lies in cell f of n. -/
def pl (f n i : Nat) : Nat := if n ≤ f + i then f + i - n else f + i
/-- The row l lies in the cells cs, from cell f on. -/
structure R {α : Type} (cs : List α) (f : Nat) (l : List α) : Prop where
  few : l.length ≤ cs.length
  first : f < cs.length ∨ (cs.length = 0 ∧ f = 0)
  get : ∀ i, i < l.length → cs[pl f cs.length i]? = l[i]?
theorem pl_zero {f n : Nat} (h : f < n) : pl f n 0 = f := by unfold pl; rw [if_neg (by omega)]; rfl
theorem pl_lt {f n i : Nat} (h : f < n) (hi : i < n) : pl f n i < n := by unfold pl; split <;> omega
theorem pl_ne {f n i j : Nat} (h : f < n) (hi : i < n) (hj : j < n) (hne : i ≠ j) : pl f n i ≠ pl f n j := by
  unfold pl
  split <;> split <;> omega
theorem pl_next {f n i : Nat} (h : f < n) (hi : i + 1 < n) : pl (pl f n 1) n i = pl f n (i + 1) := by
  unfold pl
  split <;> split <;> split <;> omega
theorem R.nil {α : Type} : R ([] : List α) 0 [] := ⟨Nat.le_refl _, .inr ⟨rfl, rfl⟩, fun i h => by simp at h⟩
theorem R.empty {α : Type} (z : List α) : R z 0 ([] : List α) := ⟨Nat.zero_le _, by cases z with | nil => exact .inr ⟨rfl, rfl⟩ | cons x z => exact .inl (Nat.zero_lt_succ _), fun i h => by simp at h⟩
theorem R.whole {α : Type} (l z : List α) : R (l ++ z) 0 l := by
  refine ⟨by simp, ?_, fun i hi => ?_⟩
  · by_cases h : (l ++ z).length = 0
    · exact .inr ⟨h, rfl⟩
    · exact .inl (by omega)
  · have : pl 0 (l ++ z).length i = i := by
      unfold pl
      rw [List.length_append, if_neg (by omega), Nat.zero_add]
    rw [this, List.getElem?_append_left hi]
theorem R.self {α : Type} (l : List α) : R l 0 l := by simpa using R.whole l []
theorem R.lt {α : Type} {cs l : List α} {f : Nat} (h : R cs f l) (hl : 0 < cs.length) : f < cs.length := by
  rcases h.first with h | h
  · exact h
  · omega
theorem R.at {α : Type} {cs l : List α} {f i : Nat} (h : R cs f l) (hi : i < l.length) : ∃ hp : pl f cs.length i < cs.length, cs[pl f cs.length i] = l[i] := by
  have h1 := h.few
  have h2 := h.get i hi
  have h3 : pl f cs.length i < cs.length := pl_lt (h.lt (by omega)) (by omega)
  refine ⟨h3, ?_⟩
  rw [List.getElem?_eq_getElem hi, List.getElem?_eq_getElem h3] at h2
  exact Option.some.inj h2
theorem R.push {α : Type} {cs l : List α} {f : Nat} (h : R cs f l) (hl : l.length < cs.length) (v : α) : R (cs.set (pl f cs.length l.length) v) f (l ++ [v]) := by
  have hf := h.lt (by omega)
  refine ⟨by simp; omega, .inl (by simpa using hf), fun i hi => ?_⟩
  rw [List.length_append, List.length_singleton] at hi
  rw [List.length_set]
  by_cases e : i = l.length
  · subst e
    rw [List.getElem?_set_self (pl_lt hf hl), List.getElem?_append_right (Nat.le_refl _)]
    simp
  · rw [List.getElem?_set_ne (pl_ne hf hl (by omega) (fun e' => e e'.symm)), List.getElem?_append_left (by omega)]
    exact h.get i (by omega)
theorem R.pop {α : Type} {cs l : List α} {x : α} {f : Nat} (h : R cs f (x :: l)) : R cs (pl f cs.length 1) l := by
  have h1 := h.few
  rw [List.length_cons] at h1
  have hf := h.lt (by omega)
  refine ⟨by omega, .inl ?_, fun i hi => ?_⟩
  · unfold pl; split <;> omega
  · rw [pl_next hf (by omega)]
    exact h.get (i + 1) (by rw [List.length_cons]; omega)
theorem R.first_lt {α : Type} {cs l : List α} {f : Nat} (h : R cs f l) : f ≤ cs.length := by
  rcases h.first with h | h <;> omega
/-! A row that rests, as it is gone round. -/
theorem filter_take_succ {α : Type} (p : α → Bool) (l : List α) (i : Nat) (h : i < l.length) : (l.take (i + 1)).filter p = (l.take i).filter p ++ if p l[i] then [l[i]] else [] := by
  rw [List.take_add_one, List.getElem?_eq_getElem h, List.filter_append]
  congr 1
  simp only [Option.toList_some, List.filter_cons, List.filter_nil]
def rising2 (l : List (Int × Int)) : Prop := l.Pairwise fun p q => p.2 ≤ q.2
theorem rising2_filter {l : List (Int × Int)} (h : rising2 l) (p : Int × Int → Bool) : rising2 (l.filter p) := List.Pairwise.filter p h
theorem rising2_drop {l : List (Int × Int)} (h : rising2 l) (k : Nat) : rising2 (l.drop k) := List.Pairwise.drop h
theorem rising2_snoc {l : List (Int × Int)} (h : rising2 l) {q : Int × Int} (hl : l.getLast? = none ∨ ∃ p, l.getLast? = some p ∧ p.2 ≤ q.2) : rising2 (l ++ [q]) := by
  unfold rising2
  rw [List.pairwise_append]
  refine ⟨h, by simp, fun a ha b hb => ?_⟩
  obtain rfl := List.mem_singleton.1 hb
  rcases hl with hl | ⟨p, hp, hq⟩
  · rw [List.getLast?_eq_none_iff] at hl
    subst hl
    cases ha
  · obtain ⟨l', rfl⟩ := List.getLast?_eq_some_iff.1 hp
    unfold rising2 at h
    rw [List.pairwise_append] at h
    rcases List.mem_append.1 ha with ha | ha
    · exact Int.le_trans (h.2.2 a ha p (List.mem_singleton.2 rfl)) hq
    · obtain rfl := List.mem_singleton.1 ha
      exact hq
/-- Who stands behind one that is not ready is not ready either. -/
theorem rouse_stop {l : List (Int × Int)} {t : Int} {i : Nat} (h : rising2 l) (hi : i < l.length) (ht : t < l[i].2) (ha : ∀ k, (hk : k < i) → ready t (l[k]'(by omega)) = true) :
    l.filter (ready t) = l.take i ∧ (l.filter fun p => !ready t p) = l.drop i := by
  have e : l = l.take i ++ l.drop i := (List.take_append_drop i l).symm
  have h1 : ∀ p ∈ l.take i, ready t p = true := by
    intro p hp
    obtain ⟨k, hk, rfl⟩ := List.mem_iff_getElem.1 hp
    rw [List.length_take] at hk
    rw [List.getElem_take]
    exact ha k (by omega)
  have h2 : ∀ p ∈ l.drop i, ready t p = false := by
    intro p hp
    have hd : l.drop i = l[i] :: l.drop (i + 1) := List.drop_eq_getElem_cons hi
    have hr := rising2_drop h i
    rw [hd] at hp hr
    unfold rising2 at hr
    rw [List.pairwise_cons] at hr
    rcases List.mem_cons.1 hp with rfl | hp
    · simp [ready]; omega
    · have := hr.1 p hp
      simp [ready]; omega
  constructor
  · conv => lhs; rw [e]
    rw [List.filter_append, List.filter_eq_self.2 h1, List.filter_eq_nil_iff.2 (fun p hp => by simp [h2 p hp]), List.append_nil]
  · conv => lhs; rw [e]
    rw [List.filter_append, List.filter_eq_nil_iff.2 (fun p hp => by simp [h1 p hp]), List.filter_eq_self.2 (fun p hp => by simp [h2 p hp]), List.nil_append]
end Go.Proofs.Ytpafcabcnkmadaa.Id
