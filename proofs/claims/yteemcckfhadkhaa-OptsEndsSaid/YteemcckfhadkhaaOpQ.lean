/-
  How many options, and how many bytes, there may be: the rows of the law on the ends, in plain words.
-/
import Derived.Test.YteemcckfhadkhaaOpM
namespace Go.Proofs.Yteemcckfhadkhaa.O
open Go.RowKit
set_option linter.unusedVariables false
set_option linter.unusedSimpArgs false

def zl (n : Nat) : List UInt8 := List.replicate n 0
theorem zl_length (n : Nat) : (zl n).length = n := by simp [zl]
/-- So many full options. -/
def fullL (j : Nat) : List PT := (List.range j).map fun (i : Nat) => ((i : Int), zl 253)
theorem fullL_zero : fullL 0 = [] := rfl
theorem fullL_succ (j : Nat) : fullL (j + 1) = fullL j ++ [((j : Int), zl 253)] := by simp [fullL, List.range_succ]
theorem fullL_length (j : Nat) : (fullL j).length = j := by simp [fullL]
def longL (k : Nat) : List PT := fullL 5 ++ [(0, zl (210 + k))]
def manyL (n : Nat) : List PT := List.replicate n (0, [])
theorem manyL_length (n : Nat) : (manyL n).length = n := by simp [manyL]
theorem wire_full (j : Nat) : (wireT (fullL j)).length = j * 255 := by
  induction j with
  | zero => rfl
  | succ j ih => rw [fullL_succ, wireT_append, List.length_append, ih, wireT_cons, wireT_nil, List.append_nil, tagL_length, zl_length]; omega
theorem wire_many (n : Nat) : (wireT (manyL n)).length = n * 2 := by
  have h1 := wireT_le (manyL n) 0 (fun t ht => by
    obtain ⟨_, rfl⟩ := List.mem_replicate.1 ht
    exact Nat.le_refl _)
  have h2 := wireT_ge (manyL n)
  rw [manyL_length] at h1 h2
  omega
theorem wire_long (k : Nat) : (wireT (longL k)).length = 1487 + k := by
  unfold longL
  rw [wireT_append, List.length_append, wire_full, wireT_cons, wireT_nil, List.append_nil, tagL_length, zl_length]
  omega
theorem long_isT (k : Nat) (hk : k ≤ 2) : ∀ t ∈ longL k, isT t := by
  intro t ht
  rcases List.mem_append.1 ht with ht | ht
  · obtain ⟨i, hi, rfl⟩ := List.mem_map.1 ht
    have := List.mem_range.1 hi
    refine ⟨by show (0 : Int) ≤ (i : Int); omega, by show (i : Int) ≤ 255; omega, ?_⟩
    show (zl 253).length ≤ 253
    rw [zl_length]; exact Nat.le_refl _
  · rw [List.mem_singleton.1 ht]
    refine ⟨Int.le_refl 0, by show (0 : Int) ≤ 255; decide, ?_⟩
    show (zl (210 + k)).length ≤ 253
    rw [zl_length]; omega
theorem many_isT (n : Nat) : ∀ t ∈ manyL n, isT t := by
  intro t ht
  obtain ⟨_, rfl⟩ := List.mem_replicate.1 ht
  exact ⟨by decide, by decide, by decide⟩
def endL (long : Bool) (k : Nat) : List PT := if long then longL k else manyL (63 + k)
/-- The error's number. -/
def endW (long : Bool) (k : Nat) : Int := if k = 2 then (if long then 2 else 3) else 0
theorem end_isT (long : Bool) (k : Nat) (hk : k ≤ 2) : ∀ t ∈ endL long k, isT t := by
  cases long
  · exact many_isT _
  · exact long_isT k hk
theorem end_length (long : Bool) (k : Nat) (hk : k ≤ 2) : (endL long k).length ≤ 65 := by
  cases long
  · show (manyL (63 + k)).length ≤ 65; rw [manyL_length]; omega
  · show (longL k).length ≤ 65; unfold longL; rw [List.length_append, fullL_length]; simp
theorem end_enc (long : Bool) (k : Nat) (hk : k ≤ 2) : encE (endL long k) = endW long k := by
  have hT := end_isT long k hk
  by_cases h2 : k = 2
  · subst h2
    cases long
    · show encE (manyL 65) = 3
      exact encE_many (by rw [manyL_length]; decide)
    · show encE (longL 2) = 2
      exact encE_long (by unfold longL; rw [List.length_append, fullL_length]; decide) hT (by rw [wire_long]; decide)
  · have hw : endW long k = 0 := by unfold endW; rw [if_neg h2]
    rw [hw]
    cases long
    · exact encE_ok (by show ¬ 64 < (manyL (63 + k)).length; rw [manyL_length]; omega) hT (by show ¬ 1488 < (wireT (manyL (63 + k))).length; rw [wire_many]; omega)
    · exact encE_ok (by show ¬ 64 < (longL k).length; unfold longL; rw [List.length_append, fullL_length]; simp) hT (by show ¬ 1488 < (wireT (longL k)).length; rw [wire_long]; omega)
theorem end_dec (long : Bool) (k : Nat) (hk : k ≤ 2) : (dec (wireT (endL long k))).2 = endW long k ∧ (endW long k = 0 → (dec (wireT (endL long k))).1 = endL long k) := by
  by_cases h2 : k = 2
  · subst h2
    cases long
    · have : dec (wireT (manyL 65)) = ([], 3) := dec_more (many_isT 65) (manyL_length 65) (by rw [wire_many]; decide)
      show (dec (wireT (manyL 65))).2 = 3 ∧ ((3 : Int) = 0 → _)
      rw [this]
      exact ⟨rfl, fun h => by cases h⟩
    · have : dec (wireT (longL 2)) = ([], 2) := dec_long (by rw [wire_long]; decide)
      show (dec (wireT (longL 2))).2 = 2 ∧ ((2 : Int) = 0 → _)
      rw [this]
      exact ⟨rfl, fun h => by cases h⟩
  · have hw : endW long k = 0 := by unfold endW; rw [if_neg h2]
    have he := end_enc long k hk
    rw [hw] at he
    rw [dec_wire he, hw]
    exact ⟨rfl, fun _ => rfl⟩
/-- 'make([]api.Option, n)': options of nothing. -/
theorem made_opts (n : Nat) : (madeCells #[.int .i64 0, .slice none 0 0] (n * 2)).toList = flat (List.replicate n ⟨0, .slice none 0 0, []⟩) := by
  apply List.ext_getElem?
  intro j
  by_cases hj : j < n * 2
  · have hi : j / 2 < (List.replicate n (⟨0, .slice none 0 0, []⟩ : Tg)).length := by rw [List.length_replicate]; omega
    have hg := flat_get _ _ hi
    rw [List.getElem_replicate] at hg
    have hl : (madeCells #[.int .i64 0, .slice none 0 0] (n * 2)).toList[j]? = some ((#[Value.int .i64 0, .slice none 0 0] : Array Value)[j % 2]!) := by
      simp [madeCells, hj, Value.cells]
    rw [hl]
    rcases Nat.mod_two_eq_zero_or_one j with h2 | h2
    · rw [h2]
      conv => rhs; rw [show j = j / 2 * 2 by omega]
      rw [hg.1]; rfl
    · rw [h2]
      conv => rhs; rw [show j = j / 2 * 2 + 1 by omega]
      rw [hg.2]; rfl
  · rw [List.getElem?_eq_none (by rw [Array.length_toList, size_madeCells]; omega), List.getElem?_eq_none (by rw [flat_length, List.length_replicate]; omega)]
theorem plain_many (n : Nat) : plain (List.replicate n (⟨0, .slice none 0 0, []⟩ : Tg)) = manyL n := by unfold plain manyL; rw [List.map_replicate]; rfl
end Go.Proofs.Yteemcckfhadkhaa.O
