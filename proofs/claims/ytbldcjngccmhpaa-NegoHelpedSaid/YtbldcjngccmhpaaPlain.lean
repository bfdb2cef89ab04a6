/-
  Plain mathematics of numbers in bytes: no program.
-/
import Derived.Test.YtbldcjngccmhpaaLib
import Derived.Laws.BitsAllLaws
namespace Go.Proofs.Ytbldcjngccmhpaa
set_option linter.unusedVariables false

/-- The lowest size bytes of n, the highest first. -/
def putL (n size : Nat) : List UInt8 := (List.range size).map fun j => UInt8.ofNat (n / 256 ^ (size - 1 - j))
/-- The same behind k rounds from the back: the rest is zero. -/
def putK (n size k : Nat) : List Value := (List.range size).map fun j => if size ≤ j + k then u8v (UInt8.ofNat (n / 256 ^ (size - 1 - j))) else .int .u8 0

theorem putL_length (n size : Nat) : (putL n size).length = size := by simp [putL]
theorem putK_length (n size k : Nat) : (putK n size k).length = size := by simp [putK]

theorem putK_zero (n size : Nat) : putK n size 0 = List.replicate size (.int .u8 0) := by
  apply List.ext_getElem
  · simp [putK]
  · intro j h1 h2
    simp [putK] at h1 ⊢
    omega

theorem putK_full (n size : Nat) : putK n size size = (putL n size).map u8v := by
  apply List.ext_getElem
  · simp [putK, putL]
  · intro j h1 h2
    simp [putK, putL] at h1 ⊢

theorem putK_step (n size k : Nat) (hk : k < size) :
    (putK n size k).set (size - 1 - k) (.int .u8 ((n / 256 ^ k % 256 : Nat) : Int)) = putK n size (k + 1) := by
  apply List.ext_getElem
  · simp [putK]
  · intro j h1 h2
    simp [putK] at h1
    rw [List.getElem_set]
    simp only [putK, List.getElem_map, List.getElem_range]
    by_cases e : size - 1 - k = j
    · rw [if_pos e, if_pos (by omega)]
      have : size - 1 - j = k := by omega
      rw [this, u8v_ofNat]
    · rw [if_neg e]
      by_cases h : size ≤ j + k
      · rw [if_pos h, if_pos (by omega)]
      · rw [if_neg h, if_neg (by omega)]

theorem pow_step (n k : Nat) : n / 256 ^ k / 256 = n / 256 ^ (k + 1) := by
  rw [Nat.div_div_eq_div_mul, Nat.pow_succ]
end Go.Proofs.Ytbldcjngccmhpaa
namespace Go.Proofs.Ytbldcjngccmhpaa
/-- The number in the first k bytes. -/
def takeN (l : List UInt8) (k : Nat) : Nat := (l.take k).foldl (fun n b => n * 256 + b.toNat) 0

theorem takeN_zero (l : List UInt8) : takeN l 0 = 0 := by simp [takeN]
theorem takeN_succ (l : List UInt8) (k : Nat) (h : k < l.length) : takeN l (k + 1) = takeN l k * 256 + l[k].toNat := by
  unfold takeN
  rw [List.take_succ_eq_append_getElem h, List.foldl_append]
  rfl
theorem takeN_lt (l : List UInt8) : ∀ k, k ≤ l.length → takeN l k < 256 ^ k
  | 0, _ => by simp [takeN]
  | k + 1, h => by
    have ih := takeN_lt l k (by omega)
    rw [takeN_succ l k (by omega), Nat.pow_succ]
    have := UInt8.toNat_lt l[k]
    omega
theorem takeN_lt7 (l : List UInt8) (k : Nat) (h : k ≤ l.length) (h7 : k ≤ 7) : takeN l k < 72057594037927936 :=
  Nat.lt_of_lt_of_le (takeN_lt l k h) (Nat.le_trans (Nat.pow_le_pow_right (by omega) h7) (by decide))
end Go.Proofs.Ytbldcjngccmhpaa
namespace Go.Proofs.Ytbldcjngccmhpaa
theorem u64_or256 (m b : Nat) (hm : m < 72057594037927936) (hb : b < 256) : bits .or .u64 ((m : Int) * 256) (b : Int) = ((m * 256 + b : Nat) : Int) := by
  have e : ((m : Int) * 256) = ((m * 256 : Nat) : Int) := by omega
  rw [e, u64_or_nat _ _ (by omega) (by omega)]
  congr 1
  have := Nat.two_pow_add_eq_or_of_lt (i := 8) (show b < 2 ^ 8 by omega) m
  rw [show m * 256 = 2 ^ 8 * m from by omega, ← this]
theorem drop_u8 (l : List UInt8) (k : Nat) : (l.map u8v).drop (k * 1) = (l.drop k).map u8v := by simp
theorem take_u8 (l : List UInt8) (k : Nat) : (l.map u8v).take (k * 1) = (l.take k).map u8v := by simp
end Go.Proofs.Ytbldcjngccmhpaa
namespace Go.Proofs.Ytbldcjngccmhpaa
theorem tup3 {k : IntKind} {a b : Int} {v u : Value} (h : a = b) : Ending.returned (.tuple #[.int k a, v, u]) = .returned (.tuple #[.int k b, v, u]) := by rw [h]
theorem tup2r {k : IntKind} {a b : Int} {v : Value} (h : a = b) : Ending.returned (.tuple #[v, .int k a]) = .returned (.tuple #[v, .int k b]) := by rw [h]
theorem ret_int {k : IntKind} {a b : Int} (h : a = b) : Ending.returned (.int k a) = .returned (.int k b) := by rw [h]
end Go.Proofs.Ytbldcjngccmhpaa
namespace Go.Proofs.Ytbldcjngccmhpaa
/-- A digit's value. -/
def digV (c : Nat) : Option Nat := if 48 ≤ c ∧ c ≤ 57 then some (c - 48) else if 97 ≤ c ∧ c ≤ 102 then some (c - 87) else none
/-- The digit of a value. -/
def hexN (d : Nat) : Nat := if d < 10 then 48 + d else 87 + d
theorem digV_lt {c d : Nat} (h : digV c = some d) : d < 16 := by
  unfold digV at h; split at h
  · cases h; omega
  · split at h
    · cases h; omega
    · cases h
theorem digV_hexN {c d : Nat} (h : digV c = some d) : hexN d = c := by
  unfold digV at h; split at h
  · cases h; unfold hexN; rw [if_pos (by omega)]; omega
  · split at h
    · cases h; unfold hexN; rw [if_neg (by omega)]; omega
    · cases h
theorem hexN_digV (d : Nat) (h : d < 16) : digV (hexN d) = some d := by
  unfold hexN digV
  by_cases h1 : d < 10
  · rw [if_pos h1, if_pos (by omega)]; congr 1; omega
  · rw [if_neg h1, if_neg (by omega), if_pos (by omega)]; congr 1; omega
theorem hexN_lt (d : Nat) (h : d < 16) : hexN d < 256 := by unfold hexN; split <;> omega
theorem digV_none {c : Nat} (h : digV c = none) : c < 48 ∨ (57 < c ∧ c < 97) ∨ 102 < c := by
  unfold digV at h; split at h
  · cases h
  · split at h
    · cases h
    · omega
theorem digV_some {c d : Nat} (h : digV c = some d) : (48 ≤ c ∧ c ≤ 57 ∧ d = c - 48) ∨ (97 ≤ c ∧ c ≤ 102 ∧ d = c - 87) := by
  unfold digV at h; split at h
  · cases h; omega
  · split at h
    · cases h; omega
    · cases h
theorem u8_or16 (a b : Nat) (ha : a < 16) (hb : b < 16) : bits .or .u8 ((a : Int) * 16) (b : Int) = ((a * 16 + b : Nat) : Int) := by
  have e : ((a : Int) * 16) = ((a * 16 : Nat) : Int) := by omega
  rw [e, u8_or_nat _ _ (by omega) (by omega)]
  congr 1
  have := Nat.two_pow_add_eq_or_of_lt (i := 4) (show b < 2 ^ 4 by omega) a
  rw [show a * 16 = 2 ^ 4 * a from by omega, ← this]
/-- The two digits of a byte. -/
def hexP (b : UInt8) : List UInt8 := [UInt8.ofNat (hexN (b.toNat / 16)), UInt8.ofNat (hexN (b.toNat % 16))]
def hexL (l : List UInt8) : List UInt8 := l.flatMap hexP
theorem hexL_length (l : List UInt8) : (hexL l).length = 2 * l.length := by
  induction l with
  | nil => rfl
  | cons b l ih => simp [hexL, hexP] at ih ⊢; omega
theorem hexL_snoc (l : List UInt8) (k : Nat) (h : k < l.length) : hexL (l.take (k + 1)) = hexL (l.take k) ++ hexP l[k] := by
  rw [List.take_succ_eq_append_getElem h]; unfold hexL; rw [List.flatMap_append]; simp only [List.flatMap_cons, List.flatMap_nil, List.append_nil]
end Go.Proofs.Ytbldcjngccmhpaa
namespace Go.Proofs.Ytbldcjngccmhpaa
theorem u8_and15 (a : Nat) (ha : a < 256) : bits .and .u8 (a : Int) 15 = ((a % 16 : Nat) : Int) := by
  have e : (15 : Int) = ((15 : Nat) : Int) := rfl
  rw [e, u8_and_nat a 15 ha (by decide)]
  congr 1
  exact Nat.and_two_pow_sub_one_eq_mod a 4
end Go.Proofs.Ytbldcjngccmhpaa
namespace Go.Proofs.Ytbldcjngccmhpaa
theorem hexP_cells (x : UInt8) : (hexP x).map u8v = [.int .u8 (hexN (x.toNat / 16) : Nat), .int .u8 (hexN (x.toNat % 16) : Nat)] := by
  have hx := UInt8.toNat_lt x
  have h1 := hexN_lt (x.toNat / 16) (by omega)
  have h2 := hexN_lt (x.toNat % 16) (by omega)
  simp only [hexP, List.map_cons, List.map_nil, u8v_ofNat, Nat.mod_eq_of_lt h1, Nat.mod_eq_of_lt h2]
end Go.Proofs.Ytbldcjngccmhpaa
namespace Go.Proofs.Ytbldcjngccmhpaa
/-- Byte i of a text. -/
def chr (s : ByteArray) (i : Nat) : Nat := (s.data.toList.getD i 0).toNat
theorem chr_lt (s : ByteArray) (i : Nat) : chr s i < 256 := by unfold chr; have := UInt8.toNat_lt (s.data.toList.getD i 0); omega
theorem index_chr {P : Program} {t : TypeId} (ht : P.underlying t = some .string) (s : ByteArray) (kk : IntKind) (i : Int) (n : Nat) (hi : i = (n : Int)) (hn : n < s.size) (w : World) :
    (Instr.index t (.string s) (.int kk i)).run P w = .ok (.int .u8 (chr s n : Nat)) w := by
  subst hi
  rw [run_index_string (h := ht), dif_pos ⟨by omega, by omega⟩]
  have hn' : n < s.data.toList.length := by simpa using hn
  simp only [Int.toNat_natCast, chr, List.getD_eq_getElem?_getD, List.getElem?_eq_getElem hn', Option.getD_some]
  congr 1
/-- Are all pairs digits? -/
def pairOk (s : ByteArray) (j : Nat) : Prop := (digV (chr s (2 * j))).isSome = true ∧ (digV (chr s (2 * j + 1))).isSome = true
instance (s : ByteArray) (j : Nat) : Decidable (pairOk s j) := by unfold pairOk; infer_instance
def pairB (s : ByteArray) (j : Nat) : Nat := (digV (chr s (2 * j))).getD 0 * 16 + (digV (chr s (2 * j + 1))).getD 0
def UnhexOk (s : ByteArray) : Prop := s.size % 2 = 0 ∧ ∀ j, j < s.size / 2 → pairOk s j
def unhexK (s : ByteArray) (k : Nat) : List UInt8 := (List.range k).map fun j => UInt8.ofNat (pairB s j)
theorem unhexK_length (s : ByteArray) (k : Nat) : (unhexK s k).length = k := by simp [unhexK]
theorem unhexK_succ (s : ByteArray) (k : Nat) : unhexK s (k + 1) = unhexK s k ++ [UInt8.ofNat (pairB s k)] := by simp [unhexK, List.range_succ]
/-- The array of octet.Unhex behind k rounds. -/
def unhexC (s : ByteArray) (n k : Nat) : List Value := (List.range n).map fun j => if j < k then u8v (UInt8.ofNat (pairB s j)) else .int .u8 0
theorem unhexC_length (s : ByteArray) (n k : Nat) : (unhexC s n k).length = n := by simp [unhexC]
theorem unhexC_zero (s : ByteArray) (n : Nat) : unhexC s n 0 = List.replicate n (.int .u8 0) := by
  apply List.ext_getElem
  · simp [unhexC]
  · intro j h1 h2; simp [unhexC]
theorem unhexC_full (s : ByteArray) (n : Nat) : unhexC s n n = (unhexK s n).map u8v := by
  apply List.ext_getElem
  · simp [unhexC, unhexK]
  · intro j h1 h2; simp [unhexC, unhexK] at h1 ⊢; intro h; omega
theorem unhexC_step (s : ByteArray) (n k : Nat) (hk : k < n) (hb : pairB s k < 256) : (unhexC s n k).set k (.int .u8 (pairB s k : Nat)) = unhexC s n (k + 1) := by
  apply List.ext_getElem
  · simp [unhexC]
  · intro j h1 h2
    simp [unhexC] at h1
    rw [List.getElem_set]
    simp only [unhexC, List.getElem_map, List.getElem_range]
    by_cases e : k = j
    · subst e
      rw [if_pos rfl, if_pos (by omega), u8v_ofNat, Nat.mod_eq_of_lt hb]
    · rw [if_neg e]
      by_cases h : j < k
      · rw [if_pos h, if_pos (by omega)]
      · rw [if_neg h, if_neg (by omega)]
theorem pairOk_some {s : ByteArray} {j : Nat} (h : pairOk s j) : ∃ a b, digV (chr s (2 * j)) = some a ∧ digV (chr s (2 * j + 1)) = some b ∧ pairB s j = a * 16 + b ∧ a < 16 ∧ b < 16 := by
  obtain ⟨h1, h2⟩ := h
  obtain ⟨a, ha⟩ := Option.isSome_iff_exists.1 h1
  obtain ⟨b, hb⟩ := Option.isSome_iff_exists.1 h2
  exact ⟨a, b, ha, hb, by simp [pairB, ha, hb], digV_lt ha, digV_lt hb⟩
theorem pairOk_not {s : ByteArray} {j : Nat} (h : ¬ pairOk s j) : digV (chr s (2 * j)) = none ∨ digV (chr s (2 * j + 1)) = none := by
  unfold pairOk at h
  cases h1 : digV (chr s (2 * j)) with
  | none => exact .inl rfl
  | some a =>
    cases h2 : digV (chr s (2 * j + 1)) with
    | none => exact .inr rfl
    | some b => simp [h1, h2] at h
/-- The first pair that is none. -/
theorem first_bad (p : Nat → Prop) [DecidablePred p] : ∀ n, (∀ j, j < n → p j) ∨ ∃ j, j < n ∧ ¬ p j ∧ ∀ i, i < j → p i
  | 0 => .inl fun j h => by omega
  | n + 1 => by
    rcases first_bad p n with h | ⟨j, hj, hn, hi⟩
    · by_cases hp : p n
      · exact .inl fun j hj => by
          by_cases e : j = n
          · exact e ▸ hp
          · exact h j (by omega)
      · exact .inr ⟨n, by omega, hp, h⟩
    · exact .inr ⟨j, by omega, hn, hi⟩
end Go.Proofs.Ytbldcjngccmhpaa
