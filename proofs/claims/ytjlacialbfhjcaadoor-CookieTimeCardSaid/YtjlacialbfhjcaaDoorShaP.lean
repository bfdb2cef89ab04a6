/-
  SHA-256 in plain words (lists of bytes, words of 32 bits): no program.
-/
import Derived.Test.YtjlacialbfhjcaaDoorPlain
import Derived.Test.YtjlacialbfhjcaaDoorU32
namespace Go.Proofs.YtjlacialbfhjcaaDoor
set_option linter.unusedVariables false

def rotr (x : UInt32) (n : Nat) : UInt32 := (x >>> UInt32.ofNat n) ||| (x <<< UInt32.ofNat (32 - n))
def bS1 (x : UInt32) : UInt32 := rotr x 6 ^^^ rotr x 11 ^^^ rotr x 25
def bS0 (x : UInt32) : UInt32 := rotr x 2 ^^^ rotr x 13 ^^^ rotr x 22
def sS0 (x : UInt32) : UInt32 := rotr x 7 ^^^ rotr x 18 ^^^ (x >>> 3)
def sS1 (x : UInt32) : UInt32 := rotr x 17 ^^^ rotr x 19 ^^^ (x >>> 10)
def chB (x y z : UInt32) : UInt32 := (x &&& y) ||| (~~~x &&& z)
def mjB (x y z : UInt32) : UInt32 := (x &&& y) ||| (x &&& z) ||| (y &&& z)

theorem ch_xor (x y z : UInt32) : (x &&& y) ^^^ (~~~x &&& z) = chB x y z := by
  unfold chB
  apply UInt32.eq_of_toBitVec_eq
  simp only [UInt32.toBitVec_xor, UInt32.toBitVec_and, UInt32.toBitVec_or, UInt32.toBitVec_not]
  apply BitVec.eq_of_getLsbD_eq
  intro i hi
  simp [hi]
  cases x.toBitVec[i] <;> cases y.toBitVec[i] <;> cases z.toBitVec[i] <;> rfl
theorem mj_xor (x y z : UInt32) : (x &&& y) ^^^ (x &&& z) ^^^ (y &&& z) = mjB x y z := by
  unfold mjB
  apply UInt32.eq_of_toBitVec_eq
  simp only [UInt32.toBitVec_xor, UInt32.toBitVec_and, UInt32.toBitVec_or, UInt32.toBitVec_not]
  apply BitVec.eq_of_getLsbD_eq
  intro i hi
  simp [hi]
  cases x.toBitVec[i] <;> cases y.toBitVec[i] <;> cases z.toBitVec[i] <;> rfl
theorem rotl_r (x : UInt32) (n : Nat) (h : n ≤ 32) : (x <<< UInt32.ofNat (32 - n)) ||| (x >>> UInt32.ofNat n) = rotr x n := by
  unfold rotr
  exact UInt32.or_comm _ _

/-- The constants. -/
def kL : List UInt32 := [
  0x428a2f98, 0x71374491, 0xb5c0fbcf, 0xe9b5dba5, 0x3956c25b, 0x59f111f1, 0x923f82a4, 0xab1c5ed5,
  0xd807aa98, 0x12835b01, 0x243185be, 0x550c7dc3, 0x72be5d74, 0x80deb1fe, 0x9bdc06a7, 0xc19bf174,
  0xe49b69c1, 0xefbe4786, 0x0fc19dc6, 0x240ca1cc, 0x2de92c6f, 0x4a7484aa, 0x5cb0a9dc, 0x76f988da,
  0x983e5152, 0xa831c66d, 0xb00327c8, 0xbf597fc7, 0xc6e00bf3, 0xd5a79147, 0x06ca6351, 0x14292967,
  0x27b70a85, 0x2e1b2138, 0x4d2c6dfc, 0x53380d13, 0x650a7354, 0x766a0abb, 0x81c2c92e, 0x92722c85,
  0xa2bfe8a1, 0xa81a664b, 0xc24b8b70, 0xc76c51a3, 0xd192e819, 0xd6990624, 0xf40e3585, 0x106aa070,
  0x19a4c116, 0x1e376c08, 0x2748774c, 0x34b0bcb5, 0x391c0cb3, 0x4ed8aa4a, 0x5b9cca4f, 0x682e6ff3,
  0x748f82ee, 0x78a5636f, 0x84c87814, 0x8cc70208, 0x90befffa, 0xa4506ceb, 0xbef9a3f7, 0xc67178f2]
theorem kL_length : kL.length = 64 := rfl

/-- A state. -/
structure St where
  a : UInt32
  b : UInt32
  c : UInt32
  d : UInt32
  e : UInt32
  f : UInt32
  g : UInt32
  h : UInt32
def st0 : St := ⟨0x6a09e667, 0xbb67ae85, 0x3c6ef372, 0xa54ff53a, 0x510e527f, 0x9b05688c, 0x1f83d9ab, 0x5be0cd19⟩
def St.one (s : St) (k w : UInt32) : UInt32 := s.h + bS1 s.e + chB s.e s.f s.g + k + w
def St.two (s : St) : UInt32 := bS0 s.a + mjB s.a s.b s.c
def St.next (s : St) (k w : UInt32) : St := ⟨s.one k w + s.two, s.a, s.b, s.c, s.d + s.one k w, s.e, s.f, s.g⟩
def St.add (s t : St) : St := ⟨s.a + t.a, s.b + t.b, s.c + t.c, s.d + t.d, s.e + t.e, s.f + t.f, s.g + t.g, s.h + t.h⟩
def St.list (s : St) : List UInt32 := [s.a, s.b, s.c, s.d, s.e, s.f, s.g, s.h]

/-- Four bytes as a word. -/
def word4 (l : List UInt8) (i : Nat) : UInt32 := UInt32.ofNat (takeN (l.drop i) 4)
/-- One more word behind those that there are (t of them). -/
def wNext (w : List UInt32) : UInt32 := w.getD (w.length - 16) 0 + sS0 (w.getD (w.length - 15) 0) + w.getD (w.length - 7) 0 + sS1 (w.getD (w.length - 2) 0)
/-- The first t words of a block's schedule. -/
def wL (l : List UInt8) : Nat → List UInt32
  | 0 => []
  | t + 1 => wL l t ++ [if t < 16 then word4 l (4 * t) else wNext (wL l t)]
theorem wL_length (l : List UInt8) : ∀ t, (wL l t).length = t
  | 0 => rfl
  | t + 1 => by simp [wL, wL_length l t]
theorem wL_get (l : List UInt8) (t u : Nat) (h : t < u) : (wL l u).getD t 0 = if t < 16 then word4 l (4 * t) else wNext (wL l t) := by
  induction u with
  | zero => omega
  | succ u ih =>
    by_cases e : t = u
    · subst e
      simp [wL, wL_length]
    · rw [← ih (by omega), wL, List.getD_eq_getElem?_getD, List.getElem?_append_left (by rw [wL_length]; omega), ← List.getD_eq_getElem?_getD]
theorem wL_take (l : List UInt8) (t u : Nat) (h : t ≤ u) : (wL l u).take t = wL l t := by
  induction u with
  | zero => obtain rfl : t = 0 := by omega
            rfl
  | succ u ih =>
    by_cases e : t = u + 1
    · subst e; rw [List.take_of_length_le (by rw [wL_length]; omega)]
    · rw [wL, List.take_append_of_le_length (by rw [wL_length]; omega), ih (by omega)]
theorem wL_eq (l : List UInt8) (t u v : Nat) (h : t < u) (k : t < v) : (wL l u).getD t 0 = (wL l v).getD t 0 := by rw [wL_get l t u h, wL_get l t v k]
/-- A word behind the sixteenth. -/
theorem wL_later (l : List UInt8) (t u : Nat) (h : t < u) (h16 : 16 ≤ t) : (wL l u).getD t 0 = (wL l u).getD (t - 16) 0 + sS0 ((wL l u).getD (t - 15) 0) + (wL l u).getD (t - 7) 0 + sS1 ((wL l u).getD (t - 2) 0) := by
  rw [wL_get l t u h, if_neg (by omega), wNext, wL_length]
  rw [wL_eq l (t - 16) t u (by omega) (by omega), wL_eq l (t - 15) t u (by omega) (by omega), wL_eq l (t - 7) t u (by omega) (by omega), wL_eq l (t - 2) t u (by omega) (by omega)]
theorem wL_early (l : List UInt8) (t u : Nat) (h : t < u) (h16 : t < 16) : (wL l u).getD t 0 = word4 l (4 * t) := by
  rw [wL_get l t u h, if_pos h16]

/-- t rounds. -/
def St.rounds (s : St) (l : List UInt8) : Nat → St
  | 0 => s
  | t + 1 => (s.rounds l t).next (kL.getD t 0) ((wL l 64).getD t 0)
def St.step (s : St) (l : List UInt8) : St := s.add (s.rounds l 64)
/-- n blocks. -/
def St.run (s : St) : Nat → List UInt8 → St
  | 0, _ => s
  | n + 1, l => (s.step (l.take 64)).run n (l.drop 64)
theorem St.run_snoc (s : St) (n : Nat) : ∀ (s : St) (l : List UInt8), s.run (n + 1) l = (s.run n l).step ((l.drop (64 * n)).take 64) := by
  induction n with
  | zero => intro s l; simp [St.run]
  | succ n ih =>
    intro s l
    rw [St.run, ih, List.drop_drop, St.run]
    congr 3
    omega
theorem St.run_take (n : Nat) : ∀ (s : St) (l m : List UInt8), 64 * n ≤ l.length → s.run n (l ++ m) = s.run n l := by
  induction n with
  | zero => intros; rfl
  | succ n ih =>
    intro s l m h
    rw [St.run, St.run, List.take_append_of_le_length (by omega), List.drop_append_of_le_length (by omega), ih _ _ _ (by rw [List.length_drop]; omega)]

/-- How many zeros stand behind a text of n bytes. -/
def zerosN (n : Nat) : Nat := (119 - n % 64) % 64
theorem zerosN_lt (n : Nat) : zerosN n < 64 := Nat.mod_lt _ (by omega)
theorem zerosN_fit (n : Nat) : (n + (1 + zerosN n + 8)) % 64 = 0 := by unfold zerosN; omega
theorem zerosN_first (n k : Nat) (h : k < zerosN n) : (n % 64 + (1 + k) + 8) % 64 ≠ 0 := by unfold zerosN at h; omega
theorem zerosN_at (n : Nat) : (n % 64 + (1 + zerosN n) + 8) % 64 = 0 := by unfold zerosN; omega
def behindL (n : Nat) : List UInt8 := 128 :: (List.replicate (zerosN n) 0 ++ putL (8 * n % 18446744073709551616) 8)
theorem behindL_length (n : Nat) : (behindL n).length = 9 + zerosN n := by simp [behindL, putL_length]; omega
theorem behindL_fit (l : List UInt8) : (l ++ behindL l.length).length % 64 = 0 := by
  rw [List.length_append, behindL_length]
  have := zerosN_fit l.length
  omega
/-- The state behind a text and what stands behind it. -/
def sumS (l : List UInt8) : St := st0.run ((l ++ behindL l.length).length / 64) (l ++ behindL l.length)
def wordB (x : UInt32) : List UInt8 := putL x.toNat 4
def St.bytes (s : St) : List UInt8 := s.list.flatMap wordB
def sumL (l : List UInt8) : List UInt8 := (sumS l).bytes
theorem St.bytes_length (s : St) : s.bytes.length = 32 := by simp [St.bytes, St.list, wordB, putL_length]
theorem sumL_length (l : List UInt8) : (sumL l).length = 32 := St.bytes_length _

/-- The page's example. -/
theorem sum_abc : sumL [97, 98, 99] = [186, 120, 22, 191, 143, 1, 207, 234, 65, 65, 64, 222, 93, 174, 34, 35, 176, 3, 97, 163, 150, 23, 122, 156, 180, 16, 255, 97, 242, 0, 21, 173] := by decide +kernel
end Go.Proofs.YtjlacialbfhjcaaDoor
