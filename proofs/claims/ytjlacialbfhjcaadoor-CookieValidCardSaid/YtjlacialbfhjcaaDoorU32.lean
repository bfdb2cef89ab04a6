/-
  Words of 32 bits: what the walk spells as integers, told as UInt32 ('iv x': the word x as an integer; the walk doesn't look into it).
-/
import Derived.Laws.BitsAllLaws
import Derived.Test.YtjlacialbfhjcaaDoorLib
namespace Go.Proofs.YtjlacialbfhjcaaDoor
set_option linter.unusedVariables false
set_option linter.unusedSimpArgs false

/-- A word as an integer. -/
def iv (x : UInt32) : Int := (x.toNat : Int)
abbrev u32v (b : UInt32) : Value := .int .u32 (iv b)
theorem u32_lt (a : UInt32) : a.toNat < 4294967296 := UInt32.toNat_lt a
theorem iv_lo (a : UInt32) : 0 ≤ iv a := by unfold iv; omega
theorem iv_hi (a : UInt32) : iv a < 4294967296 := by have := u32_lt a; unfold iv; omega
theorem iv_nat (a : UInt32) : iv a = (a.toNat : Int) := rfl
theorem iv_inj {a b : UInt32} (h : iv a = iv b) : a = b := by unfold iv at h; exact UInt32.toNat_inj.1 (by omega)
theorem iv_mk (n : Nat) (h : n < 4294967296) : iv (UInt32.ofNat n) = (n : Int) := by unfold iv; rw [UInt32.toNat_ofNat', Nat.mod_eq_of_lt (by omega)]
theorem w_and (a b : UInt32) : bits .and .u32 (iv a) (iv b) = iv (a &&& b) := by
  unfold iv; rw [u32_and_nat _ _ (u32_lt a) (u32_lt b), UInt32.toNat_and]
theorem w_or (a b : UInt32) : bits .or .u32 (iv a) (iv b) = iv (a ||| b) := by
  unfold iv; rw [u32_or_nat _ _ (u32_lt a) (u32_lt b), UInt32.toNat_or]
theorem w_xor (a b : UInt32) : bits .xor .u32 (iv a) (iv b) = iv (a ^^^ b) := by
  unfold iv; rw [u32_xor_nat _ _ (u32_lt a) (u32_lt b), UInt32.toNat_xor]
theorem w_andNot (a b : UInt32) : bits .andNot .u32 (iv a) (iv b) = iv (a &&& ~~~b) := by
  unfold iv; rw [u32_andNot_nat _ _ (u32_lt a) (u32_lt b), UInt32.toNat_and, UInt32.toNat_not]
  rfl
theorem w_add (a b : UInt32) : IntKind.u32.wrap (iv a + iv b) = iv (a + b) := by
  unfold iv; rw [IntKind.wrap_u32', UInt32.toNat_add]
  omega
theorem u32_all (a : UInt32) : (4294967295 : UInt32) ^^^ a = ~~~a := by
  apply UInt32.eq_of_toBitVec_eq
  rw [UInt32.toBitVec_xor, UInt32.toBitVec_not]
  exact BitVec.allOnes_xor
theorem w_not (a : UInt32) : bits .xor .u32 IntKind.u32.max (iv a) = iv (~~~a) := by
  rw [← u32_all, ← w_xor]
  rfl
theorem w_shr (a : UInt32) (n : Nat) (h : n < 32) : iv a / 2 ^ n = iv (a >>> UInt32.ofNat n) := by
  unfold iv
  rw [UInt32.toNat_shiftRight, UInt32.toNat_ofNat', Nat.mod_eq_of_lt (a := n) (by omega), Nat.mod_eq_of_lt h, Nat.shiftRight_eq_div_pow]
  simp
theorem w_shl (a : UInt32) (n : Nat) (h : n < 32) : IntKind.u32.wrap (iv a * 2 ^ n) = iv (a <<< UInt32.ofNat n) := by
  unfold iv
  rw [IntKind.wrap_u32', UInt32.toNat_shiftLeft, UInt32.toNat_ofNat', Nat.mod_eq_of_lt (a := n) (by omega), Nat.mod_eq_of_lt h, Nat.shiftLeft_eq]
  simp
theorem w_shl' (a : UInt32) (n : Nat) (h : n < 32) : iv a * 2 ^ n % 4294967296 = iv (a <<< UInt32.ofNat n) := by
  rw [← w_shl a n h, IntKind.wrap_u32']
end Go.Proofs.YtjlacialbfhjcaaDoor
