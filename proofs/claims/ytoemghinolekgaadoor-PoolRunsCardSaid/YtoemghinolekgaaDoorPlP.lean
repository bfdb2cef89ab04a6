/-
  Places in words of 64 bits, in plain words: which places there are, one more, one less, the first, all, how many.
-/
import Derived.Lib.TrailingZeros
import Derived.Test.YtoemghinolekgaaDoorIdP
namespace Go.Proofs.YtoemghinolekgaaDoor.Pl
set_option linter.unusedVariables false
set_option linter.unusedSimpArgs false

/-- A rising row of places is told by what lies in it. -/
theorem risingN_eq : ∀ {l m : List Nat}, l.Pairwise (· < ·) → m.Pairwise (· < ·) → (∀ y, y ∈ l ↔ y ∈ m) → l = m
  | [], [], _, _, _ => rfl
  | [], y :: m, _, _, h => absurd ((h y).2 (List.mem_cons_self ..)) (by simp)
  | y :: l, [], _, _, h => absurd ((h y).1 (List.mem_cons_self ..)) (by simp)
  | x :: l, y :: m, hl, hm, h => by
    rw [List.pairwise_cons] at hl hm
    have e : x = y := by
      have h1 := (h x).1 (List.mem_cons_self ..)
      have h2 := (h y).2 (List.mem_cons_self ..)
      rcases List.mem_cons.1 h1 with h1 | h1
      · exact h1
      · rcases List.mem_cons.1 h2 with h2 | h2
        · exact h2.symm
        · have a := hl.1 y h2
          have b := hm.1 x h1
          omega
    subst e
    congr 1
    refine risingN_eq hl.2 hm.2 fun z => ?_
    have hz := h z
    simp only [List.mem_cons] at hz
    constructor
    · intro hzl
      have := hl.1 z hzl
      rcases hz.1 (.inr hzl) with rfl | h3
      · omega
      · exact h3
    · intro hzm
      have := hm.1 z hzm
      rcases hz.2 (.inr hzm) with rfl | h3
      · omega
      · exact h3
theorem range_rising (n : Nat) : (List.range n).Pairwise (· < ·) := List.pairwise_lt_range

def okW (ws : List Nat) : Prop := ∀ x ∈ ws, x < 18446744073709551616
/-- Is a place one of them? -/
def bitW (ws : List Nat) (i : Nat) : Bool := (ws.getD (i / 64) 0).testBit (i % 64)
def putW (ws : List Nat) (i : Nat) : List Nat := ws.set (i / 64) (ws.getD (i / 64) 0 ||| 2 ^ (i % 64))
def dropW (ws : List Nat) (i : Nat) : List Nat := ws.set (i / 64) (ws.getD (i / 64) 0 &&& (18446744073709551615 - 2 ^ (i % 64)))
theorem okW.at {ws : List Nat} (h : okW ws) (k : Nat) : ws.getD k 0 < 18446744073709551616 := by
  rw [List.getD_eq_getElem?_getD]
  by_cases hk : k < ws.length
  · rw [List.getElem?_eq_getElem hk]; exact h _ (List.getElem_mem hk)
  · rw [List.getElem?_eq_none (by omega)]; decide
theorem okW.set {ws : List Nat} (h : okW ws) (k x : Nat) (hx : x < 18446744073709551616) : okW (ws.set k x) := by
  intro y hy
  rcases List.mem_or_eq_of_mem_set hy with h1 | rfl
  · exact h y h1
  · exact hx
theorem two_pow_lt (i : Nat) : 2 ^ (i % 64) < 18446744073709551616 := (Nat.pow_lt_pow_iff_right (a := 2) (n := i % 64) (m := 64) (by decide)).2 (Nat.mod_lt i (by decide))
theorem okW.put {ws : List Nat} (h : okW ws) (i : Nat) : okW (putW ws i) := h.set _ _ (Nat.or_lt_two_pow (n := 64) (h.at _) (two_pow_lt i))
theorem okW.drop {ws : List Nat} (h : okW ws) (i : Nat) : okW (dropW ws i) := h.set _ _ (Nat.lt_of_le_of_lt Nat.and_le_left (h.at _))
theorem putW_length (ws : List Nat) (i : Nat) : (putW ws i).length = ws.length := by simp [putW]
theorem dropW_length (ws : List Nat) (i : Nat) : (dropW ws i).length = ws.length := by simp [dropW]
theorem getD_set (ws : List Nat) (k j x : Nat) (hk : k < ws.length) : (ws.set k x).getD j 0 = if j = k then x else ws.getD j 0 := by
  rw [List.getD_eq_getElem?_getD, List.getD_eq_getElem?_getD, List.getElem?_set]
  by_cases h : j = k
  · subst h; simp [hk]
  · simp [h, Ne.symm h]
theorem bitW_put {ws : List Nat} {i : Nat} (hi : i / 64 < ws.length) (j : Nat) : bitW (putW ws i) j = (bitW ws j || decide (j = i)) := by
  unfold bitW putW
  rw [getD_set _ _ _ _ hi]
  by_cases h : j / 64 = i / 64
  · rw [if_pos h, Nat.testBit_or, h]
    congr 1
    rw [Nat.testBit_two_pow]
    by_cases e : j = i
    · subst e; simp
    · have : ¬ i % 64 = j % 64 := by omega
      simp [this, e]
  · rw [if_neg h]
    have : j ≠ i := fun e => h (by rw [e])
    simp [this]
theorem bitW_drop {ws : List Nat} {i : Nat} (hi : i / 64 < ws.length) (j : Nat) : bitW (dropW ws i) j = (bitW ws j && !decide (j = i)) := by
  unfold bitW dropW
  rw [getD_set _ _ _ _ hi]
  by_cases h : j / 64 = i / 64
  · rw [if_pos h, Nat.testBit_and, h]
    congr 1
    have e1 : 18446744073709551615 - 2 ^ (i % 64) = 2 ^ 64 - (2 ^ (i % 64) + 1) := by omega
    rw [e1, Nat.testBit_two_pow_sub_succ (two_pow_lt i), Nat.testBit_two_pow]
    have hj : j % 64 < 64 := by omega
    by_cases e : j = i
    · subst e; simp
    · have : ¬ i % 64 = j % 64 := by omega
      simp [this, e, hj]
  · rw [if_neg h]
    have : j ≠ i := fun e => h (by rw [e])
    simp [this]
theorem bitW_out {ws : List Nat} {i : Nat} (hi : ws.length ≤ i / 64) : bitW ws i = false := by
  unfold bitW
  rw [List.getD_eq_getElem?_getD, List.getElem?_eq_none hi]
  simp
/-- The bits of a word, rising. -/
def bitsL (x : Nat) : List Nat := (List.range 64).filter x.testBit
theorem bitsL_rising (x : Nat) : (bitsL x).Pairwise (· < ·) := (range_rising 64).filter _
theorem mem_bitsL {x i : Nat} : i ∈ bitsL x ↔ i < 64 ∧ x.testBit i = true := by simp [bitsL]
theorem bitsL_zero : bitsL 0 = [] := by
  rw [List.eq_nil_iff_forall_not_mem]
  intro i hi
  have := (mem_bitsL.1 hi).2
  simp at this
theorem bit_le {k m j : Nat} (h : (2 ^ k * (2 * m + 1)).testBit j = true) : k ≤ j := by
  rw [Nat.mul_comm, Nat.testBit_mul_two_pow] at h
  simp at h
  exact h.1
theorem bit_at (k m : Nat) : (2 ^ k * (2 * m + 1)).testBit k = true := by
  rw [Nat.mul_comm, Nat.testBit_mul_two_pow]
  simp [Nat.testBit_zero]
/-- The lowest bit struck. -/
theorem bit_less (k m j : Nat) : (2 ^ k * (2 * m + 1) &&& (2 ^ k * (2 * m + 1) - 1)).testBit j = ((2 ^ k * (2 * m + 1)).testBit j && decide (j ≠ k)) := by
  rw [Nat.testBit_and]
  by_cases hj : (2 ^ k * (2 * m + 1)).testBit j = true
  · rw [hj, Bool.true_and, Bool.true_and]
    have hk := bit_le hj
    have hp : 0 < 2 ^ k := Nat.two_pow_pos k
    have e : 2 ^ k * (2 * m + 1) - 1 = 2 ^ k * (2 * m) + (2 ^ k - 1) := by rw [Nat.mul_add]; omega
    rw [e, Nat.testBit_two_pow_mul_add _ (by omega), if_neg (by omega)]
    by_cases he : j = k
    · subst he
      simp [Nat.testBit_zero]
    · obtain ⟨d, rfl⟩ : ∃ d, j = k + (d + 1) := ⟨j - k - 1, by omega⟩
      have h2 : (2 ^ k * (2 * m + 1)).testBit (k + (d + 1)) = true := hj
      have e2 : 2 ^ k * (2 * m + 1) = 2 ^ k * (2 * m + 1) + 0 := rfl
      rw [e2, Nat.testBit_two_pow_mul_add _ hp, if_neg (by omega), Nat.add_sub_cancel_left, Nat.testBit_succ] at h2
      rw [Nat.add_sub_cancel_left, Nat.testBit_succ]
      have d1 : (2 * m + 1) / 2 = m := by omega
      have d2 : 2 * m / 2 = m := by omega
      rw [d1] at h2
      rw [d2, h2]
      simp
  · simp only [Bool.not_eq_true] at hj
    rw [hj, Bool.false_and, Bool.false_and]
/-- The bits of a word that is not 0: the lowest one, and those of the rest. -/
theorem bitsL_step {x : Nat} (h0 : x ≠ 0) (hx : x < 18446744073709551616) : bitsL x = Lib.ctz 64 x :: bitsL (x &&& (x - 1)) := by
  obtain ⟨m, hm, hk⟩ := Lib.ctzFrom_spec 64 x (by omega) hx
  have e : Lib.ctz 64 x = Lib.ctzFrom 64 x := by simp [Lib.ctz, h0]
  rw [e]
  obtain ⟨k, hke⟩ : ∃ k, k = Lib.ctzFrom 64 x := ⟨_, rfl⟩
  rw [← hke] at hm hk ⊢
  rw [hm]
  refine risingN_eq (bitsL_rising _) (List.pairwise_cons.2 ⟨fun y hy => ?_, bitsL_rising _⟩) fun y => ?_
  · have h2 := (mem_bitsL.1 hy).2
    rw [bit_less] at h2
    simp only [Bool.and_eq_true, decide_eq_true_eq] at h2
    have := bit_le h2.1
    omega
  · rw [List.mem_cons, mem_bitsL, mem_bitsL, bit_less]
    simp only [Bool.and_eq_true, decide_eq_true_eq]
    constructor
    · rintro ⟨h1, h2⟩
      by_cases hy : y = k
      · exact .inl hy
      · exact .inr ⟨h1, h2, hy⟩
    · rintro (rfl | ⟨h1, h2, _⟩)
      · exact ⟨hk, bit_at _ _⟩
      · exact ⟨h1, h2⟩
theorem less_lt {x : Nat} (hx : x < 18446744073709551616) : x &&& (x - 1) < 18446744073709551616 := Nat.lt_of_le_of_lt Nat.and_le_left hx
theorem less_less {x : Nat} (h0 : x ≠ 0) : x &&& (x - 1) < x := Nat.lt_of_le_of_lt Nat.and_le_right (by omega)
/-- All of them, rising. -/
def eachW : List Nat → List Nat
  | [] => []
  | x :: r => bitsL x ++ (eachW r).map (· + 64)
theorem mem_eachW : ∀ {ws : List Nat} {i : Nat}, i ∈ eachW ws ↔ bitW ws i = true
  | [], i => by simp [eachW, bitW]
  | x :: r, i => by
    unfold eachW
    rw [List.mem_append, mem_bitsL, List.mem_map]
    by_cases hi : i < 64
    · have e : i / 64 = 0 := by omega
      have e2 : i % 64 = i := by omega
      have : bitW (x :: r) i = x.testBit i := by simp [bitW, e, e2]
      rw [this]
      constructor
      · rintro (h | ⟨a, _, h⟩)
        · exact h.2
        · omega
      · intro h; exact .inl ⟨hi, h⟩
    · obtain ⟨j, rfl⟩ : ∃ j, i = j + 64 := ⟨i - 64, by omega⟩
      have e : (j + 64) / 64 = j / 64 + 1 := by omega
      have e2 : (j + 64) % 64 = j % 64 := by omega
      have : bitW (x :: r) (j + 64) = bitW r j := by simp [bitW, e, e2]
      rw [this, ← mem_eachW]
      constructor
      · rintro (h | ⟨a, h1, h⟩)
        · omega
        · obtain rfl : a = j := by omega
          exact h1
      · intro h; exact .inr ⟨j, h, rfl⟩
theorem eachW_rising : ∀ ws : List Nat, (eachW ws).Pairwise (· < ·)
  | [] => List.Pairwise.nil
  | x :: r => by
    unfold eachW
    refine List.pairwise_append.2 ⟨bitsL_rising x, ?_, fun a ha b hb => ?_⟩
    · rw [List.pairwise_map]
      exact (eachW_rising r).imp fun h => by omega
    · obtain ⟨c, _, rfl⟩ := List.mem_map.1 hb
      have := (mem_bitsL.1 ha).1
      omega
theorem eachW_append : ∀ (a b : List Nat), eachW (a ++ b) = eachW a ++ (eachW b).map (· + 64 * a.length)
  | [], b => by simp [eachW]
  | x :: a, b => by
    rw [List.cons_append, eachW, eachW_append a b, eachW, List.map_append, List.map_map, List.append_assoc]
    congr 2
theorem eachW_take_succ (ws : List Nat) (k : Nat) (hk : k < ws.length) : eachW (ws.take (k + 1)) = eachW (ws.take k) ++ (bitsL ws[k]).map (· + 64 * k) := by
  rw [List.take_add_one, List.getElem?_eq_getElem hk, Option.toList_some, eachW_append, List.length_take, Nat.min_eq_left (by omega)]
  simp [eachW]
theorem eachW_zero {ws : List Nat} (h : ∀ x ∈ ws, x = 0) : eachW ws = [] := by
  induction ws with
  | nil => rfl
  | cons x r ih => rw [eachW, h x (by simp), bitsL_zero, ih fun y hy => h y (by simp [hy])]; rfl
/-- The first one: behind words that are 0. -/
theorem eachW_first {ws : List Nat} (k : Nat) (hk : k < ws.length) (h : ∀ j (hj : j < ws.length), j < k → ws[j] = 0) (h0 : ws[k] ≠ 0) (hx : ws[k] < 18446744073709551616) :
    (eachW ws).head? = some (64 * k + Lib.ctz 64 ws[k]) := by
  have e : ws = ws.take k ++ ws[k] :: ws.drop (k + 1) := by
    conv => lhs; rw [← List.take_append_drop k ws]
    rw [List.drop_eq_getElem_cons hk]
  have hz : ∀ x ∈ ws.take k, x = 0 := by
    intro x hx
    obtain ⟨j, hj, rfl⟩ := List.mem_iff_getElem.1 hx
    rw [List.length_take] at hj
    rw [List.getElem_take]
    exact h j (by omega) (by omega)
  have hl : (ws.take k).length = k := by rw [List.length_take]; omega
  obtain ⟨y, hy⟩ : ∃ y, y = ws[k] := ⟨_, rfl⟩
  rw [← hy] at e h0 hx ⊢
  rw [e, eachW_append, eachW_zero hz, hl, eachW, bitsL_step h0 hx]
  simp [Nat.add_comm]
theorem eachW_none {ws : List Nat} (h : ∀ j (hj : j < ws.length), ws[j] = 0) : eachW ws = [] := eachW_zero fun x hx => by
  obtain ⟨j, hj, rfl⟩ := List.mem_iff_getElem.1 hx
  exact h j hj
/-- How many. -/
def pop (x : Nat) : Nat := (bitsL x).length
theorem bitsL_le (x : Nat) : (bitsL x).length ≤ 64 := Nat.le_trans (List.length_filter_le _ _) (by simp)
theorem count_take_succ (ws : List Nat) (k : Nat) (hk : k < ws.length) : (eachW (ws.take (k + 1))).length = (eachW (ws.take k)).length + pop ws[k] := by
  rw [eachW_take_succ ws k hk, List.length_append, List.length_map]; rfl
theorem count_le : ∀ ws : List Nat, (eachW ws).length ≤ 64 * ws.length
  | [] => by simp [eachW]
  | x :: r => by
    have h1 := bitsL_le x
    have h2 := count_le r
    rw [eachW, List.length_append, List.length_map, List.length_cons]
    omega
end Go.Proofs.YtoemghinolekgaaDoor.Pl
