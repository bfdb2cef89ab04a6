/-
  Options in plain words: an option's bytes, what may be, what bytes are decoded to, there and back; numbers.
-/
import Derived.Test.YtbldcjngccmhpaaGen
namespace Go.Proofs.Ytbldcjngccmhpaa.O
set_option linter.unusedVariables false
set_option linter.unusedSimpArgs false

/-- An option: its type, its data. -/
abbrev PT := Int × List UInt8
/-- An option may be. -/
def isT (t : PT) : Prop := 0 ≤ t.1 ∧ t.1 ≤ 255 ∧ t.2.length ≤ 253
instance (t : PT) : Decidable (isT t) := by unfold isT; infer_instance
/-- An option's bytes. -/
def tagL (t : PT) : List UInt8 := UInt8.ofNat t.1.toNat :: UInt8.ofNat (t.2.length + 2) :: t.2
def wireT (ls : List PT) : List UInt8 := ls.flatMap tagL
theorem tagL_length (t : PT) : (tagL t).length = 2 + t.2.length := by simp [tagL]; omega
theorem wireT_nil : wireT [] = [] := rfl
theorem wireT_cons (t : PT) (ls : List PT) : wireT (t :: ls) = tagL t ++ wireT ls := rfl
theorem wireT_append (a b : List PT) : wireT (a ++ b) = wireT a ++ wireT b := by simp [wireT]
theorem wireT_snoc (ls : List PT) (k : Nat) (h : k < ls.length) : wireT (ls.take (k + 1)) = wireT (ls.take k) ++ tagL ls[k] := by
  rw [List.take_succ_eq_append_getElem h, wireT_append]; simp [wireT]
/-- Bounds on all that is summed up. -/
theorem wireT_le (ls : List PT) (M : Nat) (h : ∀ t ∈ ls, t.2.length ≤ M) : (wireT ls).length ≤ ls.length * (2 + M) := by
  induction ls with
  | nil => simp [wireT]
  | cons t ls ih =>
    rw [wireT_cons, List.length_append, tagL_length, List.length_cons, Nat.add_mul]
    have h1 := h t (by simp)
    have h2 := ih (fun t ht => h t (by simp [ht]))
    omega
theorem wireT_ge (ls : List PT) : ls.length * 2 ≤ (wireT ls).length := by
  induction ls with
  | nil => simp [wireT]
  | cons t ls ih => rw [wireT_cons, List.length_append, tagL_length, List.length_cons]; omega
theorem wireT_take_le (ls : List PT) (k : Nat) : (wireT (ls.take k)).length ≤ (wireT ls).length := by
  conv => rhs; rw [← List.take_append_drop k ls, wireT_append, List.length_append]
  omega

/-- What Encode tells: the error's number, or 0; and the bytes. -/
def encE (ls : List PT) : Int := if 64 < ls.length then 3 else if ∀ t ∈ ls, isT t then (if 1488 < (wireT ls).length then 2 else 0) else 80
def encB (ls : List PT) : List UInt8 := if encE ls = 0 then wireT ls else []
theorem encE_many {ls : List PT} (h : 64 < ls.length) : encE ls = 3 := if_pos h
theorem encE_tag {ls : List PT} (h : ¬ 64 < ls.length) (h2 : ¬ ∀ t ∈ ls, isT t) : encE ls = 80 := by unfold encE; rw [if_neg h, if_neg h2]
theorem encE_long {ls : List PT} (h : ¬ 64 < ls.length) (h2 : ∀ t ∈ ls, isT t) (h3 : 1488 < (wireT ls).length) : encE ls = 2 := by unfold encE; rw [if_neg h, if_pos h2, if_pos h3]
theorem encE_ok {ls : List PT} (h : ¬ 64 < ls.length) (h2 : ∀ t ∈ ls, isT t) (h3 : ¬ 1488 < (wireT ls).length) : encE ls = 0 := by unfold encE; rw [if_neg h, if_pos h2, if_neg h3]
theorem encE_zero {ls : List PT} (h : encE ls = 0) : ls.length ≤ 64 ∧ (∀ t ∈ ls, isT t) ∧ (wireT ls).length ≤ 1488 := by
  unfold encE at h
  split at h
  · cases h
  · split at h
    · split at h
      · cases h
      · rename_i h1 h2 h3; exact ⟨by omega, h2, by omega⟩
    · cases h
theorem encB_no {ls : List PT} (h : encE ls ≠ 0) : encB ls = [] := if_neg h
theorem encB_yes {ls : List PT} (h : encE ls = 0) : encB ls = wireT ls := if_pos h
theorem encB_le (ls : List PT) : (encB ls).length ≤ 1488 := by
  by_cases h : encE ls = 0
  · rw [encB_yes h]; exact (encE_zero h).2.2
  · rw [encB_no h]; simp

/-- The option at the beginning is whole. -/
def fok (l : List UInt8) : Prop := 2 ≤ l.length ∧ 2 ≤ bN l 1 ∧ bN l 1 ≤ l.length
instance (l : List UInt8) : Decidable (fok l) := by unfold fok; infer_instance
def headP (l : List UInt8) : PT := ((bN l 0 : Int), (l.drop 2).take (bN l 1 - 2))
/-- What bytes are decoded to, behind acc: the options, and the error's number or 0. -/
def decL (acc : List PT) (l : List UInt8) : List PT × Int :=
  if h0 : l.length = 0 then (acc, 0)
  else if hf : fok l then (if acc.length = 64 then ([], 3) else decL (acc ++ [headP l]) (l.drop (bN l 1)))
  else ([], 80)
termination_by l.length
decreasing_by rw [List.length_drop]; have := hf.2.1; omega
theorem decL_nil (acc : List PT) (l : List UInt8) (h : l.length = 0) : decL acc l = (acc, 0) := by rw [decL, dif_pos h]
theorem decL_bad (acc : List PT) (l : List UInt8) (h : l.length ≠ 0) (hf : ¬ fok l) : decL acc l = ([], 80) := by rw [decL, dif_neg h, dif_neg hf]
theorem fok_pos {l : List UInt8} (hf : fok l) : l.length ≠ 0 := by have := hf.1; omega
theorem decL_many (acc : List PT) (l : List UInt8) (hf : fok l) (h4 : acc.length = 64) : decL acc l = ([], 3) := by rw [decL, dif_neg (fok_pos hf), dif_pos hf, if_pos h4]
theorem decL_next (acc : List PT) (l : List UInt8) (hf : fok l) (h4 : acc.length ≠ 64) : decL acc l = decL (acc ++ [headP l]) (l.drop (bN l 1)) := by rw [decL, dif_neg (fok_pos hf), dif_pos hf, if_neg h4]
/-- What Decode tells. -/
def dec (l : List UInt8) : List PT × Int := if 1488 < l.length then ([], 2) else decL [] l
theorem dec_long {l : List UInt8} (h : 1488 < l.length) : dec l = ([], 2) := if_pos h
theorem dec_fits {l : List UInt8} (h : ¬ 1488 < l.length) : dec l = decL [] l := if_neg h

theorem head_bN0 {t : PT} (h : isT t) (r : List UInt8) : bN (tagL t ++ r) 0 = t.1.toNat := by
  unfold isT at h
  simp [tagL, bN]
  omega
theorem head_bN1 {t : PT} (h : isT t) (r : List UInt8) : bN (tagL t ++ r) 1 = t.2.length + 2 := by
  unfold isT at h
  simp [tagL, bN]
  omega
theorem head_fok {t : PT} (h : isT t) (r : List UInt8) : fok (tagL t ++ r) := by
  unfold fok
  rw [head_bN1 h, List.length_append, tagL_length]
  omega
theorem head_P {t : PT} (h : isT t) (r : List UInt8) : headP (tagL t ++ r) = t := by
  unfold headP
  rw [head_bN0 h, head_bN1 h]
  unfold isT at h
  have e1 : ((t.1.toNat : Nat) : Int) = t.1 := Int.toNat_of_nonneg h.1
  have e2 : ((tagL t ++ r).drop 2).take (t.2.length + 2 - 2) = t.2 := by simp [tagL]
  rw [e1, e2]
theorem head_drop {t : PT} (h : isT t) (r : List UInt8) : (tagL t ++ r).drop (bN (tagL t ++ r) 1) = r := by
  rw [head_bN1 h]
  simp [tagL]
/-- What was encoded is decoded, whatever stands behind it. -/
theorem decL_wire (ls : List PT) : ∀ (acc : List PT) (r : List UInt8), (∀ t ∈ ls, isT t) → acc.length + ls.length ≤ 64 → decL acc (wireT ls ++ r) = decL (acc ++ ls) r := by
  induction ls with
  | nil => intro acc r _ _; simp [wireT]
  | cons t ls ih =>
    intro acc r h hn
    have ht := h t (by simp)
    rw [List.length_cons] at hn
    rw [wireT_cons, List.append_assoc, decL_next _ _ (head_fok ht _) (by omega), head_P ht, head_drop ht]
    rw [ih _ _ (fun t ht => h t (by simp [ht])) (by simp; omega)]
    simp
/-- What is decoded, encoded again, is what it was decoded of. -/
theorem head_again (l : List UInt8) (hf : fok l) : tagL (headP l) ++ l.drop (bN l 1) = l := by
  obtain ⟨h1, h2, h3⟩ := hf
  match l, h1 with
  | a :: b :: r, _ =>
    have e1 : bN (a :: b :: r) 1 = b.toNat := by simp [bN]
    have e0 : bN (a :: b :: r) 0 = a.toNat := by simp [bN]
    rw [e1] at h2 h3
    obtain ⟨k, hk⟩ : ∃ k, b.toNat = k + 2 := ⟨b.toNat - 2, by omega⟩
    have hl : (r.take k).length = k := by rw [List.length_take]; simp at h3; omega
    have eb : UInt8.ofNat (k + 2) = b := by rw [← hk, UInt8.ofNat_toNat]
    unfold headP tagL
    rw [e1, e0, hk]
    simp [hl, eb]
theorem headP_isT (l : List UInt8) (hf : fok l) : isT (headP l) := by
  have h0 := bN_lt l 0
  have h1 := bN_lt l 1
  refine ⟨by show (0 : Int) ≤ (bN l 0 : Int); omega, by show (bN l 0 : Int) ≤ 255; omega, ?_⟩
  show ((l.drop 2).take (bN l 1 - 2)).length ≤ 253
  rw [List.length_take]; omega
theorem decL_again (n : Nat) : ∀ (acc : List PT) (l : List UInt8) (m : List PT), l.length ≤ n → acc.length ≤ 64 → decL acc l = (m, 0) → ∃ ls, m = acc ++ ls ∧ (∀ t ∈ ls, isT t) ∧ wireT ls = l ∧ m.length ≤ 64 := by
  induction n with
  | zero =>
    intro acc l m hn ha h
    rw [decL_nil _ _ (by omega)] at h
    obtain rfl : acc = m := congrArg Prod.fst h
    exact ⟨[], by simp, by simp, (List.eq_nil_of_length_eq_zero (by omega)).symm, ha⟩
  | succ n ih =>
    intro acc l m hn ha h
    by_cases h0 : l.length = 0
    · rw [decL_nil _ _ h0] at h
      obtain rfl : acc = m := congrArg Prod.fst h
      exact ⟨[], by simp, by simp, (List.eq_nil_of_length_eq_zero h0).symm, ha⟩
    by_cases hf : fok l
    · by_cases hM : acc.length = 64
      · rw [decL_many _ _ hf hM] at h
        have : (3 : Int) = 0 := congrArg Prod.snd h
        omega
      rw [decL_next _ _ hf hM] at h
      obtain ⟨ls, h1, h2, h3, h5⟩ := ih _ _ _ (by rw [List.length_drop]; have := hf.2.1; omega) (by simp; omega) h
      refine ⟨headP l :: ls, by rw [h1]; simp, ?_, ?_, h5⟩
      · intro t ht
        rcases List.mem_cons.1 ht with rfl | ht
        · exact headP_isT l hf
        · exact h2 t ht
      · rw [wireT_cons, h3]
        exact head_again l hf
    · rw [decL_bad _ _ h0 hf] at h
      have : (80 : Int) = 0 := congrArg Prod.snd h
      omega
/-- An error tells no options. -/
theorem decL_err (n : Nat) : ∀ (acc : List PT) (l : List UInt8), l.length ≤ n → (decL acc l).2 ≠ 0 → (decL acc l).1 = [] := by
  induction n with
  | zero => intro acc l hn h; rw [decL_nil _ _ (by omega)] at h; exact absurd rfl h
  | succ n ih =>
    intro acc l hn h
    by_cases h0 : l.length = 0
    · rw [decL_nil _ _ h0] at h; exact absurd rfl h
    by_cases hf : fok l
    · by_cases hM : acc.length = 64
      · rw [decL_many _ _ hf hM]
      rw [decL_next _ _ hf hM] at h ⊢
      exact ih _ _ (by rw [List.length_drop]; have := hf.2.1; omega) h
    · rw [decL_bad _ _ h0 hf]
theorem dec_err {l : List UInt8} (h : (dec l).2 ≠ 0) : (dec l).1 = [] := by
  unfold dec at h ⊢
  split
  · rfl
  · rename_i h1; rw [if_neg h1] at h; exact decL_err _ _ _ (Nat.le_refl _) h
/-- What was encoded is decoded. -/
theorem dec_wire {ls : List PT} (h : encE ls = 0) : dec (wireT ls) = (ls, 0) := by
  obtain ⟨h1, h2, h3⟩ := encE_zero h
  rw [dec_fits (by omega)]
  have := decL_wire ls [] [] h2 (by simpa using h1)
  rw [List.append_nil, decL_nil _ [] rfl] at this
  simpa using this
theorem dec_again {l : List UInt8} {m : List PT} (h : dec l = (m, 0)) : encE m = 0 ∧ wireT m = l := by
  unfold dec at h
  split at h
  · have : (2 : Int) = 0 := congrArg Prod.snd h
    omega
  · obtain ⟨ls, h1, h2, h3, h4⟩ := decL_again _ _ _ _ (Nat.le_refl _) (by decide) h
    rw [List.nil_append] at h1
    subst h1
    exact ⟨encE_ok (by omega) h2 (by rw [h3]; assumption), h3⟩
theorem dec_few {l : List UInt8} {m : List PT} (h : dec l = (m, 0)) : m.length ≤ 64 ∧ ∀ t ∈ m, isT t := by
  obtain ⟨h1, h2, _⟩ := encE_zero (dec_again h).1
  exact ⟨h1, h2⟩
/-- One more than may be. -/
theorem dec_more {ls : List PT} (h : ∀ t ∈ ls, isT t) (hn : ls.length = 65) (hw : (wireT ls).length ≤ 1488) : dec (wireT ls) = ([], 3) := by
  rw [dec_fits (by omega)]
  have e : ls = ls.take 64 ++ [ls[64]'(by omega)] := by
    conv => lhs; rw [← List.take_length (l := ls), hn, List.take_succ_eq_append_getElem (by omega)]
  have ht := h (ls[64]'(by omega)) (List.getElem_mem _)
  have hw2 : wireT ls = wireT (ls.take 64) ++ (tagL (ls[64]'(by omega)) ++ []) := by
    conv => lhs; rw [e, wireT_append]
    simp [wireT]
  rw [hw2, decL_wire _ _ _ (fun t ht => h t (List.mem_of_mem_take ht)) (by simp; omega), decL_many _ _ (head_fok ht _) (by simp; omega)]

/-- What Number tells. -/
def numOk (l : List UInt8) : Bool := decide (1 ≤ l.length ∧ l.length ≤ 4)
def numN (l : List UInt8) : Nat := if 1 ≤ l.length ∧ l.length ≤ 4 then takeN l l.length else 0
/-- What Make tells. -/
def makOk (T S N : Int) : Prop := 0 ≤ T ∧ T ≤ 255 ∧ 1 ≤ S ∧ S ≤ 4 ∧ 0 ≤ N ∧ N < ((256 ^ S.toNat : Nat) : Int)
instance (T S N : Int) : Decidable (makOk T S N) := by unfold makOk; infer_instance
theorem takeN_putL (n size : Nat) (h : n < 256 ^ size) : takeN (putL n size) size = n := by
  have key : ∀ k, k ≤ size → takeN (putL n size) k = n / 256 ^ (size - k) := by
    intro k
    induction k with
    | zero => intro _; rw [takeN_zero, Nat.sub_zero, Nat.div_eq_of_lt h]
    | succ k ih =>
      intro hk
      rw [takeN_succ _ k (by rw [putL_length]; omega), ih (by omega)]
      have e : (putL n size)[k]'(by rw [putL_length]; omega) = UInt8.ofNat (n / 256 ^ (size - 1 - k)) := by simp [putL]
      rw [e, UInt8.toNat_ofNat', show size - k = (size - (k + 1)) + 1 by omega, show size - 1 - k = size - (k + 1) by omega, ← pow_step]
      omega
  have := key size (Nat.le_refl _)
  simpa using this
end Go.Proofs.Ytbldcjngccmhpaa.O
