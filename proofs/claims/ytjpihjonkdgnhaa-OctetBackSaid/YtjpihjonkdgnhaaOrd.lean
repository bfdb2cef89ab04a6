import Derived.Test.YtjpihjonkdgnhaaOctN
namespace Go.Proofs.Ytjpihjonkdgnhaa
open Go.RowKit
set_option linter.unusedVariables false
set_option linter.unusedSimpArgs false

theorem putL_succ (n k : Nat) : putL n (k + 1) = UInt8.ofNat (n / 256 ^ k) :: putL (n % 256 ^ k) k := by
  unfold putL
  rw [List.range_succ_eq_map, List.map_cons, List.map_map]
  congr 1
  apply List.map_congr_left
  intro j hj
  have hj' : j < k := by simpa using hj
  simp only [Function.comp]
  have e : k + 1 - 1 - Nat.succ j = k - 1 - j := by omega
  rw [e]
  apply UInt8.toNat_inj.1
  rw [UInt8.toNat_ofNat', UInt8.toNat_ofNat']
  have hk : k = (k - 1 - j) + (j + 1) := by omega
  have h1 : 256 ^ k = 256 ^ (k - 1 - j) * 256 ^ (j + 1) := by rw [← Nat.pow_add]; congr 1
  rw [h1, Nat.mod_mul_right_div_self]
  have hd : 256 ∣ 256 ^ (j + 1) := ⟨256 ^ j, by rw [Nat.pow_succ, Nat.mul_comm]⟩
  exact (Nat.mod_mod_of_dvd (n / 256 ^ (k - 1 - j)) hd).symm

theorem less_putL : ∀ (k a b : Nat), a < 256 ^ k → b < 256 ^ k → Op.bytesLess (putL a k) (putL b k) = decide (a < b) ∧ (putL a k == putL b k) = decide (a = b)
  | 0, a, b, ha, hb => by
    have : a = 0 := by simpa using ha
    have : b = 0 := by simpa using hb
    subst a b
    exact ⟨rfl, rfl⟩
  | k + 1, a, b, ha, hb => by
    have hp : 0 < 256 ^ k := Nat.pow_pos (by omega)
    have qa : a / 256 ^ k < 256 := Nat.div_lt_of_lt_mul (by rw [Nat.pow_succ] at ha; exact ha)
    have qb : b / 256 ^ k < 256 := Nat.div_lt_of_lt_mul (by rw [Nat.pow_succ] at hb; exact hb)
    have ra := Nat.mod_lt a hp
    have rb := Nat.mod_lt b hp
    obtain ⟨i1, i2⟩ := less_putL k (a % 256 ^ k) (b % 256 ^ k) ra rb
    rw [putL_succ, putL_succ]
    have da := Nat.div_add_mod a (256 ^ k)
    have db := Nat.div_add_mod b (256 ^ k)
    have t1 : (UInt8.ofNat (a / 256 ^ k)).toNat = a / 256 ^ k := by rw [UInt8.toNat_ofNat', Nat.mod_eq_of_lt qa]
    have t2 : (UInt8.ofNat (b / 256 ^ k)).toNat = b / 256 ^ k := by rw [UInt8.toNat_ofNat', Nat.mod_eq_of_lt qb]
    have lt : ((UInt8.ofNat (a / 256 ^ k)) < (UInt8.ofNat (b / 256 ^ k))) ↔ a / 256 ^ k < b / 256 ^ k := by rw [UInt8.lt_iff_toNat_lt, t1, t2]
    have eq : (UInt8.ofNat (a / 256 ^ k) = UInt8.ofNat (b / 256 ^ k)) ↔ a / 256 ^ k = b / 256 ^ k := by rw [← UInt8.toNat_inj, t1, t2]
    obtain ⟨u, hu⟩ : ∃ u, u = UInt8.ofNat (a / 256 ^ k) := ⟨_, rfl⟩
    obtain ⟨v, hv⟩ : ∃ v, v = UInt8.ofNat (b / 256 ^ k) := ⟨_, rfl⟩
    rw [← hu, ← hv] at lt eq ⊢
    clear ha hb t1 t2 hu hv
    generalize 256 ^ k = p at *
    have lo : a / p < b / p → a < b := fun h => by
      have : p * (a / p + 1) ≤ p * (b / p) := Nat.mul_le_mul_left _ h
      rw [Nat.mul_add] at this; omega
    have hi : b / p < a / p → b < a := fun h => by
      have : p * (b / p + 1) ≤ p * (a / p) := Nat.mul_le_mul_left _ h
      rw [Nat.mul_add] at this; omega
    have same : a / p = b / p → ((a < b) ↔ a % p < b % p) ∧ ((a = b) ↔ a % p = b % p) := fun h => by
      rw [h] at da; constructor <;> constructor <;> intro _ <;> omega
    constructor
    · simp only [Op.bytesLess, i1]
      rcases Nat.lt_trichotomy (a / p) (b / p) with h | h | h
      · simp [lt.2 h, lo h]
      · have h1 : ¬ u < v := fun x => by have := lt.1 x; omega
        simp [h1, eq.2 h, (same h).1]
      · have h1 : ¬ u < v := fun x => by have := lt.1 x; omega
        have h2 : ¬ u = v := fun x => by have := eq.1 x; omega
        have h3 := hi h
        have h4 : (u == v) = false := by simpa using h2
        have h5 : decide (u < v) = false := by simpa using h1
        rw [h4, h5]
        simp only [Bool.false_and, Bool.or_self]
        exact (decide_eq_false (by omega)).symm
    · rw [List.cons_beq_cons, i2]
      rcases Nat.lt_trichotomy (a / p) (b / p) with h | h | h
      · have h2 : ¬ u = v := fun x => by have := eq.1 x; omega
        have h3 := lo h
        have h4 : (u == v) = false := by simpa using h2
        rw [h4, Bool.false_and]
        exact (decide_eq_false (by omega)).symm
      · simp [eq.2 h, (same h).2]
      · have h2 : ¬ u = v := fun x => by have := eq.1 x; omega
        have h3 := hi h
        have h4 : (u == v) = false := by simpa using h2
        rw [h4, Bool.false_and]
        exact (decide_eq_false (by omega)).symm
end Go.Proofs.Ytjpihjonkdgnhaa
