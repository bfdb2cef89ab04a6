/-
  Cookies in plain words: settings, epochs, a cookie's bytes, what is valid; in time; whose.
-/
import Derived.Test.YtjlacialbfhjcaaDoorMacP
namespace Go.Proofs.YtjlacialbfhjcaaDoor.Ck
set_option linter.unusedVariables false
set_option linter.unusedSimpArgs false

/-- The highest tick. -/
def top : Int := 1099511627776
/-- Settings may be: a secret, an epoch's ticks. -/
def okC (sec : List UInt8) (T : Int) : Prop := 1 ≤ sec.length ∧ sec.length ≤ 64 ∧ 1 ≤ T ∧ T ≤ top
instance (sec : List UInt8) (T : Int) : Decidable (okC sec T) := by unfold okC; infer_instance
/-- What Epoch tells: the error's number, or 0; the epoch. -/
def epE (sec : List UInt8) (T t : Int) : Int := if okC sec T then (if 0 ≤ t ∧ t ≤ top then 0 else 1) else 90
def epN (sec : List UInt8) (T t : Int) : Int := if epE sec T t = 0 then t / T else 0
theorem epE_set {sec : List UInt8} {T t : Int} (h : ¬ okC sec T) : epE sec T t = 90 := if_neg h
theorem epE_arg {sec : List UInt8} {T t : Int} (h : okC sec T) (h2 : ¬ (0 ≤ t ∧ t ≤ top)) : epE sec T t = 1 := by unfold epE; rw [if_pos h, if_neg h2]
theorem epE_ok {sec : List UInt8} {T t : Int} (h : okC sec T) (h2 : 0 ≤ t ∧ t ≤ top) : epE sec T t = 0 := by unfold epE; rw [if_pos h, if_pos h2]
theorem epE_zero {sec : List UInt8} {T t : Int} (h : epE sec T t = 0) : okC sec T ∧ 0 ≤ t ∧ t ≤ top := by
  unfold epE at h
  split at h
  · split at h
    · rename_i h1 h2; exact ⟨h1, h2⟩
    · cases h
  · cases h
theorem epN_no {sec : List UInt8} {T t : Int} (h : epE sec T t ≠ 0) : epN sec T t = 0 := if_neg h
theorem epN_yes {sec : List UInt8} {T t : Int} (h : epE sec T t = 0) : epN sec T t = t / T := if_pos h
theorem epN_range {sec : List UInt8} {T t : Int} (h : epE sec T t = 0) : 0 ≤ t / T ∧ t / T ≤ top := by
  obtain ⟨⟨_, _, h1, _⟩, h2, h3⟩ := epE_zero h
  exact ⟨Int.ediv_nonneg h2 (by omega), Int.le_trans (Int.ediv_le_self _ h2) h3⟩
/-- The label: epoch. -/
def labE : List UInt8 := [101, 112, 111, 99, 104]
/-- The cookie of an epoch. -/
def msgL (mac uniq : List UInt8) (n : Int) : List UInt8 := mac ++ (putL uniq.length 2 ++ (uniq ++ putL n.toNat 8))
def cookL (sec mac uniq : List UInt8) (n : Int) : List UInt8 := hmacL (hmacL sec (labelL labE n)) (msgL mac uniq n)
theorem cookL_length (sec mac uniq : List UInt8) (n : Int) : (cookL sec mac uniq n).length = 32 := hmacL_length _ _
theorem msgL_length (mac uniq : List UInt8) (n : Int) (h : mac.length = 6) : (msgL mac uniq n).length = 16 + uniq.length := by
  simp [msgL, putL_length, h]; omega
/-- What Make tells: the error's number, or 0; the cookie. -/
def makE (sec : List UInt8) (T : Int) (uniq : List UInt8) (t : Int) : Int := if epE sec T t = 0 then (if 1494 < uniq.length then 2 else 0) else epE sec T t
def makB (sec : List UInt8) (T : Int) (mac uniq : List UInt8) (t : Int) : List UInt8 := if makE sec T uniq t = 0 then cookL sec mac uniq (t / T) else []
theorem makE_ep {sec uniq : List UInt8} {T t : Int} (h : epE sec T t ≠ 0) : makE sec T uniq t = epE sec T t := if_neg h
theorem makE_long {sec uniq : List UInt8} {T t : Int} (h : epE sec T t = 0) (h2 : 1494 < uniq.length) : makE sec T uniq t = 2 := by unfold makE; rw [if_pos h, if_pos h2]
theorem makE_ok {sec uniq : List UInt8} {T t : Int} (h : epE sec T t = 0) (h2 : ¬ 1494 < uniq.length) : makE sec T uniq t = 0 := by unfold makE; rw [if_pos h, if_neg h2]
theorem makE_zero {sec uniq : List UInt8} {T t : Int} (h : makE sec T uniq t = 0) : epE sec T t = 0 ∧ uniq.length ≤ 1494 := by
  unfold makE at h
  split at h
  · split at h
    · cases h
    · rename_i h1 h2; exact ⟨h1, by omega⟩
  · rename_i h1; exact absurd h h1
theorem makB_no {sec mac uniq : List UInt8} {T t : Int} (h : makE sec T uniq t ≠ 0) : makB sec T mac uniq t = [] := if_neg h
theorem makB_yes {sec mac uniq : List UInt8} {T t : Int} (h : makE sec T uniq t = 0) : makB sec T mac uniq t = cookL sec mac uniq (t / T) := if_pos h
/-- What is valid. -/
def valid (sec : List UInt8) (T : Int) (mac uniq c : List UInt8) (t : Int) : Prop := makE sec T uniq t = 0 ∧ (c = cookL sec mac uniq (t / T) ∨ 0 < t / T ∧ c = cookL sec mac uniq (t / T - 1))
instance (sec : List UInt8) (T : Int) (mac uniq c : List UInt8) (t : Int) : Decidable (valid sec T mac uniq c t) := by unfold valid; infer_instance
theorem valid_length {sec mac uniq c : List UInt8} {T t : Int} (h : valid sec T mac uniq c t) : c.length = 32 := by
  rcases h.2 with e | ⟨_, e⟩ <;> rw [e, cookL_length]
/-- In time: valid in the epoch in which it was made, and in the next one. -/
theorem valid_time {sec mac uniq : List UInt8} {T t s : Int} (h : makE sec T uniq t = 0) (h1 : t ≤ s) (h2 : s < (t / T + 2) * T) (h3 : s ≤ top) : valid sec T mac uniq (makB sec T mac uniq t) s := by
  obtain ⟨he, hu⟩ := makE_zero h
  obtain ⟨hc, ht0, ht1⟩ := epE_zero he
  have hT : 0 < T := by have := hc.2.2.1; omega
  have hs : makE sec T uniq s = 0 := makE_ok (epE_ok hc ⟨by omega, h3⟩) (by omega)
  have a1 : t / T ≤ s / T := Int.ediv_le_ediv hT h1
  have a2 : s / T < t / T + 2 := Int.ediv_lt_of_lt_mul hT h2
  have a0 : 0 ≤ t / T := Int.ediv_nonneg ht0 (by omega)
  rw [makB_yes h]
  refine ⟨hs, ?_⟩
  by_cases e : s / T = t / T
  · rw [e]; exact .inl rfl
  · refine .inr ⟨by omega, ?_⟩
    rw [show s / T - 1 = t / T by omega]
/-- Whose: what is valid is one of the two that Make tells. -/
theorem valid_whose {sec mac uniq c : List UInt8} {T t : Int} (h : valid sec T mac uniq c t) : c = makB sec T mac uniq t ∨ (T ≤ t ∧ makE sec T uniq (t - T) = 0 ∧ c = makB sec T mac uniq (t - T)) := by
  obtain ⟨hm, hv⟩ := h
  obtain ⟨he, hu⟩ := makE_zero hm
  obtain ⟨hc, ht0, ht1⟩ := epE_zero he
  have hT : 0 < T := by have := hc.2.2.1; omega
  rcases hv with e | ⟨hp, e⟩
  · left; rw [makB_yes hm, e]
  · right
    have hle : T ≤ t := by
      have h1 : 1 * T ≤ t / T * T := Int.mul_le_mul_of_nonneg_right (by omega) (by omega)
      have h2 : t / T * T ≤ t := Int.ediv_mul_le _ (by omega)
      omega
    have hk : makE sec T uniq (t - T) = 0 := makE_ok (epE_ok hc ⟨by omega, by omega⟩) (by omega)
    refine ⟨hle, hk, ?_⟩
    rw [makB_yes hk, e]
    have hd : (t - T) / T = t / T - 1 := by
      have := Int.add_mul_ediv_right (t - T) 1 (show T ≠ 0 by omega)
      rw [Int.one_mul, Int.sub_add_cancel] at this
      omega
    rw [hd]
end Go.Proofs.YtjlacialbfhjcaaDoor.Ck
