/-
  Tags in plain words: a tag's bytes, what may be, what bytes are decoded to, there and back.
-/
import Derived.Test.YtcpeglljcipcbaaPlain
namespace Go.Proofs.Ytcpeglljcipcbaa
set_option linter.unusedVariables false
set_option linter.unusedSimpArgs false

/-- A tag: its type, its value. -/
abbrev PT := Int × List UInt8
/-- A tag may be. -/
def isT (t : PT) : Prop := 1 ≤ t.1 ∧ t.1 ≤ 65535 ∧ t.2.length ≤ 65535
instance (t : PT) : Decidable (isT t) := by unfold isT; infer_instance
/-- A tag's bytes. -/
def tagL (t : PT) : List UInt8 := putL t.1.toNat 2 ++ (putL t.2.length 2 ++ t.2)
def wireT (ls : List PT) : List UInt8 := ls.flatMap tagL
theorem tagL_length (t : PT) : (tagL t).length = 4 + t.2.length := by simp [tagL, putL_length]; omega
theorem wireT_nil : wireT [] = [] := rfl
theorem wireT_cons (t : PT) (ls : List PT) : wireT (t :: ls) = tagL t ++ wireT ls := rfl
theorem wireT_append (a b : List PT) : wireT (a ++ b) = wireT a ++ wireT b := by simp [wireT]
theorem wireT_snoc (ls : List PT) (k : Nat) (h : k < ls.length) : wireT (ls.take (k + 1)) = wireT (ls.take k) ++ tagL ls[k] := by
  rw [List.take_succ_eq_append_getElem h, wireT_append]; simp [wireT]
/-- Bounds on all that is summed up. -/
theorem wireT_le (ls : List PT) (M : Nat) (h : ∀ t ∈ ls, t.2.length ≤ M) : (wireT ls).length ≤ ls.length * (4 + M) := by
  induction ls with
  | nil => simp [wireT]
  | cons t ls ih =>
    rw [wireT_cons, List.length_append, tagL_length, List.length_cons, Nat.add_mul]
    have h1 := h t (by simp)
    have h2 := ih (fun t ht => h t (by simp [ht]))
    omega
theorem wireT_take_le (ls : List PT) (k : Nat) : (wireT (ls.take k)).length ≤ (wireT ls).length := by
  conv => rhs; rw [← List.take_append_drop k ls, wireT_append, List.length_append]
  omega

/-- What Encode tells: the error's number, or 0; and the bytes. -/
def encE (ls : List PT) : Int := if 64 < ls.length then 3 else if ∀ t ∈ ls, isT t then (if 1494 < (wireT ls).length then 2 else 0) else 50
def encB (ls : List PT) : List UInt8 := if encE ls = 0 then wireT ls else []
theorem encE_many {ls : List PT} (h : 64 < ls.length) : encE ls = 3 := if_pos h
theorem encE_tag {ls : List PT} (h : ¬ 64 < ls.length) (h2 : ¬ ∀ t ∈ ls, isT t) : encE ls = 50 := by unfold encE; rw [if_neg h, if_neg h2]
theorem encE_long {ls : List PT} (h : ¬ 64 < ls.length) (h2 : ∀ t ∈ ls, isT t) (h3 : 1494 < (wireT ls).length) : encE ls = 2 := by unfold encE; rw [if_neg h, if_pos h2, if_pos h3]
theorem encE_ok {ls : List PT} (h : ¬ 64 < ls.length) (h2 : ∀ t ∈ ls, isT t) (h3 : ¬ 1494 < (wireT ls).length) : encE ls = 0 := by unfold encE; rw [if_neg h, if_pos h2, if_neg h3]
theorem encE_zero {ls : List PT} (h : encE ls = 0) : ls.length ≤ 64 ∧ (∀ t ∈ ls, isT t) ∧ (wireT ls).length ≤ 1494 := by
  unfold encE at h
  split at h
  · cases h
  · split at h
    · split at h
      · cases h
      · rename_i h1 h2 h3; exact ⟨by omega, h2, by omega⟩
    · cases h
theorem encB_no {ls : List PT} (h : encE ls ≠ 0) : encB ls = [] := if_neg h
theorem encB_yes {ls : List PT} (h : encE ls = 0) : encB ls = wireT ls := if_pos h

/-- A head's type, and its length. -/
def tT (l : List UInt8) : Nat := takeN l 2
def tN (l : List UInt8) : Nat := takeN (l.drop 2) 2
theorem take2_eq (l : List UInt8) (h : 2 ≤ l.length) : takeN l 2 = 256 * l[0].toNat + l[1].toNat := by
  rw [takeN_succ _ 1 (by omega), takeN_succ _ 0 (by omega), takeN_zero]
  omega
theorem tT_eq (l : List UInt8) (h : 4 ≤ l.length) : tT l = 256 * l[0].toNat + l[1].toNat := take2_eq l (by omega)
theorem tN_eq (l : List UInt8) (h : 4 ≤ l.length) : tN l = 256 * l[2].toNat + l[3].toNat := by
  unfold tN
  rw [take2_eq _ (by rw [List.length_drop]; omega)]
  simp
theorem tT_lt (l : List UInt8) (h : 4 ≤ l.length) : tT l < 65536 := by
  rw [tT_eq l h]
  have := UInt8.toNat_lt l[0]
  have := UInt8.toNat_lt l[1]
  omega
theorem tN_lt (l : List UInt8) (h : 4 ≤ l.length) : tN l < 65536 := by
  rw [tN_eq l h]
  have := UInt8.toNat_lt l[2]
  have := UInt8.toNat_lt l[3]
  omega

/-- What the rows' bytes are decoded to, behind acc: the tags, and the error's number or 0. -/
def decL (acc : List PT) (l : List UInt8) : List PT × Int :=
  if h0 : l.length = 0 then (acc, 0)
  else if l.length < 4 then ([], 50)
  else if tT l = 0 then (if tN l = 0 then (acc, 0) else ([], 50))
  else if l.length < 4 + tN l then ([], 50)
  else if acc.length = 64 then ([], 3)
  else decL (acc ++ [((tT l : Int), (l.drop 4).take (tN l))]) (l.drop (4 + tN l))
termination_by l.length
decreasing_by rw [List.length_drop]; omega
theorem decL_nil (acc : List PT) (l : List UInt8) (h : l.length = 0) : decL acc l = (acc, 0) := by rw [decL, dif_pos h]
theorem decL_short (acc : List PT) (l : List UInt8) (h : 0 < l.length) (h2 : l.length < 4) : decL acc l = ([], 50) := by rw [decL, dif_neg (by omega), if_pos h2]
theorem decL_end (acc : List PT) (l : List UInt8) (h : 4 ≤ l.length) (h2 : tT l = 0) (h3 : tN l = 0) : decL acc l = (acc, 0) := by rw [decL, dif_neg (by omega), if_neg (by omega), if_pos h2, if_pos h3]
theorem decL_bad (acc : List PT) (l : List UInt8) (h : 4 ≤ l.length) (h2 : tT l = 0) (h3 : tN l ≠ 0) : decL acc l = ([], 50) := by rw [decL, dif_neg (by omega), if_neg (by omega), if_pos h2, if_neg h3]
theorem decL_less (acc : List PT) (l : List UInt8) (h : 4 ≤ l.length) (h3 : l.length < 4 + tN l) : decL acc l = ([], 50) := by
  rw [decL, dif_neg (by omega), if_neg (by omega)]
  by_cases h2 : tT l = 0
  · rw [if_pos h2, if_neg (by omega)]
  · rw [if_neg h2, if_pos h3]
theorem decL_many (acc : List PT) (l : List UInt8) (h : 4 ≤ l.length) (h2 : tT l ≠ 0) (h3 : ¬ l.length < 4 + tN l) (h4 : acc.length = 64) : decL acc l = ([], 3) := by rw [decL, dif_neg (by omega), if_neg (by omega), if_neg h2, if_neg h3, if_pos h4]
theorem decL_next (acc : List PT) (l : List UInt8) (h : 4 ≤ l.length) (h2 : tT l ≠ 0) (h3 : ¬ l.length < 4 + tN l) (h4 : acc.length ≠ 64) :
    decL acc l = decL (acc ++ [((tT l : Int), (l.drop 4).take (tN l))]) (l.drop (4 + tN l)) := by
  rw [decL, dif_neg (by omega), if_neg (by omega), if_neg h2, if_neg h3, if_neg h4]
/-- What Decode tells. -/
def dec (l : List UInt8) : List PT × Int := if 1494 < l.length then ([], 2) else decL [] l
theorem dec_long {l : List UInt8} (h : 1494 < l.length) : dec l = ([], 2) := if_pos h
theorem dec_fits {l : List UInt8} (h : ¬ 1494 < l.length) : dec l = decL [] l := if_neg h

theorem putL_two (t : Nat) : putL t 2 = [UInt8.ofNat (t / 256), UInt8.ofNat t] := by simp [putL, List.range_succ]
theorem tagL_cons (t : PT) (r : List UInt8) : tagL t ++ r = UInt8.ofNat (t.1.toNat / 256) :: UInt8.ofNat t.1.toNat :: UInt8.ofNat (t.2.length / 256) :: UInt8.ofNat t.2.length :: (t.2 ++ r) := by
  simp [tagL, putL_two]
theorem head_T {t : PT} (h : isT t) (r : List UInt8) : tT (tagL t ++ r) = t.1.toNat := by
  rw [tT_eq _ (by rw [List.length_append, tagL_length]; omega)]
  simp only [tagL_cons, List.getElem_cons_succ, List.getElem_cons_zero, UInt8.toNat_ofNat']
  unfold isT at h
  omega
theorem head_N {t : PT} (h : isT t) (r : List UInt8) : tN (tagL t ++ r) = t.2.length := by
  rw [tN_eq _ (by rw [List.length_append, tagL_length]; omega)]
  simp only [tagL_cons, List.getElem_cons_succ, List.getElem_cons_zero, UInt8.toNat_ofNat']
  unfold isT at h
  omega
theorem head_take {t : PT} (h : isT t) (r : List UInt8) : ((tagL t ++ r).drop 4).take t.2.length = t.2 := by
  rw [tagL_cons]
  simp
theorem head_drop {t : PT} (h : isT t) (r : List UInt8) : (tagL t ++ r).drop (4 + t.2.length) = r := by
  rw [tagL_cons, Nat.add_comm]
  simp
/-- What was encoded is decoded, whatever stands behind it. -/
theorem decL_wire (ls : List PT) : ∀ (acc : List PT) (r : List UInt8), (∀ t ∈ ls, isT t) → acc.length + ls.length ≤ 64 → decL acc (wireT ls ++ r) = decL (acc ++ ls) r := by
  induction ls with
  | nil => intro acc r _ _; simp [wireT]
  | cons t ls ih =>
    intro acc r h hn
    have ht := h t (by simp)
    have ht' := ht
    unfold isT at ht'
    rw [List.length_cons] at hn
    rw [wireT_cons, List.append_assoc]
    rw [decL_next _ _ (by rw [List.length_append, tagL_length]; omega) (by rw [head_T ht]; omega) (by rw [head_N ht, List.length_append, tagL_length]; omega) (by omega)]
    rw [head_T ht, head_N ht, head_take ht, head_drop ht, Int.toNat_of_nonneg (by omega)]
    rw [ih _ _ (fun t ht => h t (by simp [ht])) (by simp; omega)]
    simp
/-- An end, and anything behind it. -/
theorem decL_stop (acc : List PT) (more : List UInt8) : decL acc (0 :: 0 :: 0 :: 0 :: more) = (acc, 0) :=
  decL_end _ _ (by simp) (by rw [tT_eq _ (by simp)]; rfl) (by rw [tN_eq _ (by simp)]; rfl)
/-- A head and its value, encoded again. -/
theorem head_again (l : List UInt8) (h : 4 ≤ l.length) (h3 : ¬ l.length < 4 + tN l) : tagL ((tT l : Int), (l.drop 4).take (tN l)) ++ l.drop (4 + tN l) = l := by
  have hl : ((l.drop 4).take (tN l)).length = tN l := by rw [List.length_take, List.length_drop]; omega
  have h4 : l = l[0] :: l[1] :: l[2] :: l[3] :: l.drop 4 := by
    conv => lhs; rw [← List.drop_zero (l := l), List.drop_eq_getElem_cons (by omega), List.drop_eq_getElem_cons (by omega), List.drop_eq_getElem_cons (by omega), List.drop_eq_getElem_cons (by omega)]
  have b0 := UInt8.toNat_lt l[0]
  have b1 := UInt8.toNat_lt l[1]
  have b2 := UInt8.toNat_lt l[2]
  have b3 := UInt8.toNat_lt l[3]
  have e : ∀ (x y : UInt8), UInt8.ofNat ((256 * x.toNat + y.toNat) / 256) = x := fun x y => by
    have := UInt8.toNat_lt x
    have := UInt8.toNat_lt y
    rw [show (256 * x.toNat + y.toNat) / 256 = x.toNat by omega, UInt8.ofNat_toNat]
  have e' : ∀ (x y : UInt8), UInt8.ofNat (256 * x.toNat + y.toNat) = y := fun x y => by
    have := UInt8.toNat_lt y
    apply UInt8.toNat_inj.1
    rw [UInt8.toNat_ofNat']
    omega
  rw [tagL_cons]
  show UInt8.ofNat ((tT l : Int).toNat / 256) :: UInt8.ofNat (tT l : Int).toNat :: UInt8.ofNat (((l.drop 4).take (tN l)).length / 256) :: UInt8.ofNat ((l.drop 4).take (tN l)).length :: ((l.drop 4).take (tN l) ++ l.drop (4 + tN l)) = l
  rw [hl, Int.toNat_natCast, tT_eq l h, tN_eq l h, e, e', e, e', ← tN_eq l h, ← List.drop_drop, List.take_append_drop, ← h4]
/-- What is decoded, encoded again, stands at the beginning of what it was decoded of. -/
theorem decL_again (n : Nat) : ∀ (acc : List PT) (l : List UInt8) (m : List PT), l.length ≤ n → acc.length ≤ 64 → decL acc l = (m, 0) → ∃ ls r, m = acc ++ ls ∧ (∀ t ∈ ls, isT t) ∧ wireT ls ++ r = l ∧ m.length ≤ 64 := by
  induction n with
  | zero =>
    intro acc l m hn ha h
    rw [decL_nil _ _ (by omega)] at h
    obtain rfl : acc = m := congrArg Prod.fst h
    exact ⟨[], l, by simp, by simp, by simp [wireT], ha⟩
  | succ n ih =>
    intro acc l m hn ha h
    by_cases h0 : l.length = 0
    · rw [decL_nil _ _ h0] at h
      obtain rfl : acc = m := congrArg Prod.fst h
      exact ⟨[], l, by simp, by simp, by simp [wireT], ha⟩
    by_cases h4 : l.length < 4
    · rw [decL_short _ _ (by omega) h4] at h
      have : (50 : Int) = 0 := congrArg Prod.snd h
      omega
    by_cases hT : tT l = 0
    · by_cases hN : tN l = 0
      · rw [decL_end _ _ (by omega) hT hN] at h
        obtain rfl : acc = m := congrArg Prod.fst h
        exact ⟨[], l, by simp, by simp, by simp [wireT], ha⟩
      · rw [decL_bad _ _ (by omega) hT hN] at h
        have : (50 : Int) = 0 := congrArg Prod.snd h
        omega
    by_cases hL : l.length < 4 + tN l
    · rw [decL_less _ _ (by omega) hL] at h
      have : (50 : Int) = 0 := congrArg Prod.snd h
      omega
    by_cases hM : acc.length = 64
    · rw [decL_many _ _ (by omega) hT hL hM] at h
      have : (3 : Int) = 0 := congrArg Prod.snd h
      omega
    rw [decL_next _ _ (by omega) hT hL hM] at h
    obtain ⟨ls, r, h1, h2, h3, h5⟩ := ih _ _ _ (by rw [List.length_drop]; omega) (by simp; omega) h
    refine ⟨((tT l : Int), (l.drop 4).take (tN l)) :: ls, r, by rw [h1]; simp, ?_, ?_, h5⟩
    · intro t ht
      rcases List.mem_cons.1 ht with rfl | ht
      · have := tT_lt l (by omega)
        have := tN_lt l (by omega)
        refine ⟨by show (1 : Int) ≤ (tT l : Int); omega, by show (tT l : Int) ≤ 65535; omega, ?_⟩
        show ((l.drop 4).take (tN l)).length ≤ 65535
        rw [List.length_take]; omega
      · exact h2 t ht
    · rw [wireT_cons, List.append_assoc, h3]
      exact head_again l (by omega) hL
/-- Behind other tags the same bytes tell the same. -/
theorem decL_behind (n : Nat) : ∀ (acc acc' : List PT) (l : List UInt8) (m : List PT), l.length ≤ n → acc.length ≤ 64 → decL acc l = (acc ++ m, 0) → acc'.length + m.length ≤ 64 → decL acc' l = (acc' ++ m, 0) := by
  intro acc acc' l m hn ha h hm
  obtain ⟨ls, r, h1, h2, h3, h5⟩ := decL_again n acc l _ hn ha h
  obtain rfl : m = ls := List.append_cancel_left h1
  rw [List.length_append] at h5
  rw [← h3, decL_wire m acc' r h2 hm]
  rw [← h3, decL_wire m acc r h2 (by omega)] at h
  clear h1 h2 h3 hn
  by_cases h0 : r.length = 0
  · rw [decL_nil _ _ h0]
  by_cases h4 : r.length < 4
  · rw [decL_short _ _ (by omega) h4] at h
    have : (50 : Int) = 0 := congrArg Prod.snd h
    omega
  by_cases hT : tT r = 0
  · by_cases hN : tN r = 0
    · rw [decL_end _ _ (by omega) hT hN]
    · rw [decL_bad _ _ (by omega) hT hN] at h
      have : (50 : Int) = 0 := congrArg Prod.snd h
      omega
  by_cases hL : r.length < 4 + tN r
  · rw [decL_less _ _ (by omega) hL] at h
    have : (50 : Int) = 0 := congrArg Prod.snd h
    omega
  by_cases hM : (acc ++ m).length = 64
  · rw [decL_many _ _ (by omega) hT hL hM] at h
    have : (3 : Int) = 0 := congrArg Prod.snd h
    omega
  rw [decL_next _ _ (by omega) hT hL hM] at h
  obtain ⟨ls, r2, g1, _⟩ := decL_again _ _ _ _ (Nat.le_refl _) (by rw [List.length_append] at hM ⊢; simp at hM ⊢; omega) h
  have := congrArg List.length g1
  simp at this
/-- An error tells no tags. -/
theorem decL_err (n : Nat) : ∀ (acc : List PT) (l : List UInt8), l.length ≤ n → (decL acc l).2 ≠ 0 → (decL acc l).1 = [] := by
  induction n with
  | zero => intro acc l hn h; rw [decL_nil _ _ (by omega)] at h; exact absurd rfl h
  | succ n ih =>
    intro acc l hn h
    by_cases h0 : l.length = 0
    · rw [decL_nil _ _ h0] at h; exact absurd rfl h
    by_cases h4 : l.length < 4
    · rw [decL_short _ _ (by omega) h4]
    by_cases hT : tT l = 0
    · by_cases hN : tN l = 0
      · rw [decL_end _ _ (by omega) hT hN] at h; exact absurd rfl h
      · rw [decL_bad _ _ (by omega) hT hN]
    by_cases hL : l.length < 4 + tN l
    · rw [decL_less _ _ (by omega) hL]
    by_cases hM : acc.length = 64
    · rw [decL_many _ _ (by omega) hT hL hM]
    rw [decL_next _ _ (by omega) hT hL hM] at h ⊢
    exact ih _ _ (by rw [List.length_drop]; omega) h
theorem dec_err {l : List UInt8} (h : (dec l).2 ≠ 0) : (dec l).1 = [] := by
  unfold dec at h ⊢
  split
  · rfl
  · rename_i h1; rw [if_neg h1] at h; exact decL_err _ _ _ (Nat.le_refl _) h
theorem dec_ok {l : List UInt8} {m : List PT} (h : dec l = (m, 0)) : l.length ≤ 1494 ∧ decL [] l = (m, 0) := by
  unfold dec at h
  split at h
  · have : (2 : Int) = 0 := congrArg Prod.snd h
    omega
  · exact ⟨by omega, h⟩
/-- What was encoded is decoded. -/
theorem dec_wire {ls : List PT} (h : encE ls = 0) : dec (wireT ls) = (ls, 0) := by
  obtain ⟨h1, h2, h3⟩ := encE_zero h
  rw [dec_fits (by omega)]
  have := decL_wire ls [] [] h2 (by simpa using h1)
  rw [List.append_nil, decL_nil _ [] rfl] at this
  simpa using this
/-- With an end, and anything behind it. -/
theorem dec_stop {ls : List PT} (h : encE ls = 0) (more : List UInt8) (hl : ((wireT ls ++ [0, 0, 0, 0]) ++ more).length ≤ 1494) : dec ((wireT ls ++ [0, 0, 0, 0]) ++ more) = (ls, 0) := by
  obtain ⟨h1, h2, h3⟩ := encE_zero h
  rw [dec_fits (by omega), List.append_assoc, decL_wire ls [] _ h2 (by simpa using h1)]
  exact decL_stop _ _
/-- What is decoded, encoded again. -/
theorem dec_again {l : List UInt8} {m : List PT} (h : dec l = (m, 0)) : encE m = 0 ∧ ∃ r, wireT m ++ r = l := by
  obtain ⟨h0, h1⟩ := dec_ok h
  obtain ⟨ls, r, g1, g2, g3, g4⟩ := decL_again _ _ _ _ (Nat.le_refl _) (by simp) h1
  obtain rfl : m = ls := by simpa using g1
  refine ⟨encE_ok (by omega) g2 ?_, r, g3⟩
  have := congrArg List.length g3
  rw [List.length_append] at this
  omega
/-- Two rows of bytes. -/
theorem dec_parts {ls m : List PT} {b : List UInt8} (h : encE ls = 0) (hb : dec b = (m, 0)) (hl : (wireT ls).length + b.length ≤ 1494) (hm : ls.length + m.length ≤ 64) : dec (wireT ls ++ b) = (ls ++ m, 0) := by
  obtain ⟨h1, h2, h3⟩ := encE_zero h
  obtain ⟨h4, h5⟩ := dec_ok hb
  rw [dec_fits (by rw [List.length_append]; omega), decL_wire ls [] b h2 (by simpa using h1), List.nil_append]
  exact decL_behind _ [] ls b m (Nat.le_refl _) (by simp) h5 hm

/-- The values of all tags of a type; the tags of other types; the first one's value. -/
def allL (ls : List PT) (t : Int) : List (List UInt8) := (ls.filter fun x => decide (x.1 = t)).map (·.2)
def withoutL (ls : List PT) (t : Int) : List PT := ls.filter fun x => decide (x.1 ≠ t)
end Go.Proofs.Ytcpeglljcipcbaa
