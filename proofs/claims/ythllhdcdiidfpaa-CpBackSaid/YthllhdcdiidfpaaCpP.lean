/-
  A session's protocols and control packets in plain words: their bytes, what is split and decoded, there and back; what is rejected.
-/
import Derived.Test.YthllhdcdiidfpaaGen
namespace Go.Proofs.Ythllhdcdiidfpaa
set_option linter.unusedVariables false
set_option linter.unusedSimpArgs false

/-- A protocol, and its bytes. -/
structure QP where
  p : Int
  l : List UInt8
def QP.zero : QP := ⟨0, []⟩
def protoB (p : Int) : Bool := decide (1 ≤ p) && decide (p ≤ 65535) && decide (p / 256 % 2 = 0) && decide (p % 2 = 1)
theorem protoB_true {p : Int} (h : protoB p = true) : 1 ≤ p ∧ p ≤ 65535 ∧ p / 256 % 2 = 0 ∧ p % 2 = 1 := by
  unfold protoB at h
  simp only [Bool.and_eq_true, decide_eq_true_eq] at h
  exact ⟨h.1.1.1, h.1.1.2, h.1.2, h.2⟩
def joinE (q : QP) : Int := if protoB q.p = true then (if 1492 < q.l.length then 2 else 0) else 70
def wireJ (q : QP) : List UInt8 := UInt8.ofNat (q.p.toNat / 256) :: UInt8.ofNat q.p.toNat :: q.l
def joinB (q : QP) : List UInt8 := if joinE q = 0 then wireJ q else []
theorem wireJ_length (q : QP) : (wireJ q).length = 2 + q.l.length := by simp [wireJ]; omega
theorem joinE_no {q : QP} (h : protoB q.p = false) : joinE q = 70 := if_neg (by rw [h]; decide)
theorem joinE_long {q : QP} (h : protoB q.p = true) (h2 : 1492 < q.l.length) : joinE q = 2 := by unfold joinE; rw [if_pos h, if_pos h2]
theorem joinE_ok {q : QP} (h : protoB q.p = true) (h2 : ¬ 1492 < q.l.length) : joinE q = 0 := by unfold joinE; rw [if_pos h, if_neg h2]
theorem joinE_zero {q : QP} (h : joinE q = 0) : protoB q.p = true ∧ q.l.length ≤ 1492 := by
  unfold joinE at h
  split at h
  · split at h
    · cases h
    · exact ⟨by assumption, by omega⟩
  · cases h
theorem joinB_no {q : QP} (h : joinE q ≠ 0) : joinB q = [] := if_neg h
theorem joinB_yes {q : QP} (h : joinE q = 0) : joinB q = wireJ q := if_pos h

/-- The first two bytes, as a number. -/
def bP (l : List UInt8) : Nat := 256 * bN l 0 + bN l 1
theorem bP_lt (l : List UInt8) : bP l < 65536 := by unfold bP; have := bN_lt l 0; have := bN_lt l 1; omega
/-- What Split tells. -/
def splt (l : List UInt8) : QP × Int :=
  if l.length < 2 then (QP.zero, 70) else if protoB (bP l) = false then (QP.zero, 70) else if 1492 < l.length - 2 then (QP.zero, 2) else (⟨bP l, l.drop 2⟩, 0)
theorem splt_short {l : List UInt8} (h : l.length < 2) : splt l = (QP.zero, 70) := if_pos h
theorem splt_no {l : List UInt8} (h : ¬ l.length < 2) (h2 : protoB (bP l) = false) : splt l = (QP.zero, 70) := by unfold splt; rw [if_neg h, if_pos h2]
theorem splt_long {l : List UInt8} (h : ¬ l.length < 2) (h2 : protoB (bP l) = true) (h3 : 1492 < l.length - 2) : splt l = (QP.zero, 2) := by unfold splt; rw [if_neg h, if_neg (by rw [h2]; decide), if_pos h3]
theorem splt_yes {l : List UInt8} (h : ¬ l.length < 2) (h2 : protoB (bP l) = true) (h3 : ¬ 1492 < l.length - 2) : splt l = (⟨bP l, l.drop 2⟩, 0) := by unfold splt; rw [if_neg h, if_neg (by rw [h2]; decide), if_neg h3]
theorem splt_zero {l : List UInt8} (h : (splt l).2 = 0) : ¬ l.length < 2 ∧ protoB (bP l) = true ∧ ¬ 1492 < l.length - 2 := by
  unfold splt at h
  split at h
  · cases h
  · split at h
    · cases h
    · split at h
      · cases h
      · rename_i h1 h2 h3
        exact ⟨h1, by simpa using h2, h3⟩
/-- What was joined is split. -/
theorem splt_wire {q : QP} (h : joinE q = 0) : splt (wireJ q) = (q, 0) := by
  obtain ⟨h1, h5⟩ := joinE_zero h
  obtain ⟨m1, m2, m3, m4⟩ := protoB_true h1
  have hl : (wireJ q).length = 2 + q.l.length := wireJ_length q
  have e0 : bN (wireJ q) 0 = q.p.toNat / 256 := ofNat_toNat8 _ (by omega)
  have e1 : bN (wireJ q) 1 = q.p.toNat % 256 := by show (UInt8.ofNat q.p.toNat).toNat = _; rw [UInt8.toNat_ofNat']
  have eP : bP (wireJ q) = q.p.toNat := by unfold bP; rw [e0, e1]; omega
  have eI : ((bP (wireJ q) : Nat) : Int) = q.p := by rw [eP]; omega
  rw [splt_yes (by omega) (by rw [eI]; exact h1) (by omega), eI]
  rfl
/-- What was split, joined, is what it was split of. -/
theorem splt_again {l : List UInt8} (h : (splt l).2 = 0) : joinE (splt l).1 = 0 ∧ wireJ (splt l).1 = l := by
  obtain ⟨h1, h2, h3⟩ := splt_zero h
  rw [splt_yes h1 h2 h3]
  have b0 := bN_lt l 0
  have b1 := bN_lt l 1
  have hl : (l.drop 2).length = l.length - 2 := List.length_drop
  refine ⟨joinE_ok h2 (by show ¬ 1492 < (l.drop 2).length; omega), ?_⟩
  have g : ∀ i, i < l.length → UInt8.ofNat (bN l i) = l.getD i 0 := fun i hi => by unfold bN; rw [UInt8.ofNat_toNat]
  show UInt8.ofNat (((bP l : Nat) : Int).toNat / 256) :: UInt8.ofNat ((bP l : Nat) : Int).toNat :: l.drop 2 = l
  have hd : (256 * bN l 0 + bN l 1) / 256 = bN l 0 := by omega
  have hm : UInt8.ofNat (256 * bN l 0 + bN l 1) = UInt8.ofNat (bN l 1) := by
    apply UInt8.toNat_inj.1
    rw [UInt8.toNat_ofNat', UInt8.toNat_ofNat']
    omega
  have eP : bP l = 256 * bN l 0 + bN l 1 := rfl
  rw [Int.toNat_natCast, eP, hd, hm, g 0 (by omega), g 1 (by omega)]
  match l, h1 with
  | a :: b :: r, _ => rfl
  | [], h => exact absurd (by decide) h
  | [_], h => exact absurd (by simp) h

/-- A control packet: its code, its number, its data. -/
structure QC where
  c : Int
  i : Int
  l : List UInt8
def QC.zero : QC := ⟨0, 0, []⟩
def byteB (n : Int) : Bool := decide (0 ≤ n) && decide (n ≤ 255)
theorem byteB_true {p : Int} (h : byteB p = true) : 0 ≤ p ∧ p ≤ 255 := by
  unfold byteB at h
  simpa using h
theorem byteB_yes {p : Int} (h : 0 ≤ p) (h2 : p ≤ 255) : byteB p = true := by unfold byteB; simp [h, h2]
def cencE (q : QC) : Int := if byteB q.c = true ∧ byteB q.i = true then (if 1488 < q.l.length then 2 else 0) else 1
def wireC (q : QC) : List UInt8 := UInt8.ofNat q.c.toNat :: UInt8.ofNat q.i.toNat :: UInt8.ofNat ((4 + q.l.length) / 256) :: UInt8.ofNat (4 + q.l.length) :: q.l
def cencB (q : QC) : List UInt8 := if cencE q = 0 then wireC q else []
theorem wireC_length (q : QC) : (wireC q).length = 4 + q.l.length := by simp [wireC]; omega
theorem cencE_code {q : QC} (h : byteB q.c = false) : cencE q = 1 := if_neg (by rw [h]; simp)
theorem cencE_num {q : QC} (h : byteB q.i = false) : cencE q = 1 := if_neg (by rw [h]; simp)
theorem cencE_long {q : QC} (h : byteB q.c = true) (h1 : byteB q.i = true) (h2 : 1488 < q.l.length) : cencE q = 2 := by unfold cencE; rw [if_pos ⟨h, h1⟩, if_pos h2]
theorem cencE_ok {q : QC} (h : byteB q.c = true) (h1 : byteB q.i = true) (h2 : ¬ 1488 < q.l.length) : cencE q = 0 := by unfold cencE; rw [if_pos ⟨h, h1⟩, if_neg h2]
theorem cencE_zero {q : QC} (h : cencE q = 0) : byteB q.c = true ∧ byteB q.i = true ∧ q.l.length ≤ 1488 := by
  unfold cencE at h
  split at h
  · rename_i h1
    split at h
    · cases h
    · exact ⟨h1.1, h1.2, by omega⟩
  · cases h
theorem cencB_no {q : QC} (h : cencE q ≠ 0) : cencB q = [] := if_neg h
theorem cencB_yes {q : QC} (h : cencE q = 0) : cencB q = wireC q := if_pos h
/-- The length that a packet's head tells. -/
def cN (l : List UInt8) : Nat := 256 * bN l 2 + bN l 3
theorem cN_lt (l : List UInt8) : cN l < 65536 := by unfold cN; have := bN_lt l 2; have := bN_lt l 3; omega
/-- What Decode tells. -/
def cdec (l : List UInt8) : QC × Int :=
  if l.length < 4 then (QC.zero, 71) else if cN l < 4 then (QC.zero, 71) else if l.length < cN l then (QC.zero, 71) else (⟨bN l 0, bN l 1, (l.drop 4).take (cN l - 4)⟩, 0)
theorem cdec_short {l : List UInt8} (h : l.length < 4) : cdec l = (QC.zero, 71) := if_pos h
theorem cdec_low {l : List UInt8} (h : ¬ l.length < 4) (h2 : cN l < 4) : cdec l = (QC.zero, 71) := by unfold cdec; rw [if_neg h, if_pos h2]
theorem cdec_less {l : List UInt8} (h : ¬ l.length < 4) (h2 : ¬ cN l < 4) (h3 : l.length < cN l) : cdec l = (QC.zero, 71) := by unfold cdec; rw [if_neg h, if_neg h2, if_pos h3]
theorem cdec_yes {l : List UInt8} (h : ¬ l.length < 4) (h2 : ¬ cN l < 4) (h3 : ¬ l.length < cN l) : cdec l = (⟨bN l 0, bN l 1, (l.drop 4).take (cN l - 4)⟩, 0) := by unfold cdec; rw [if_neg h, if_neg h2, if_neg h3]
theorem cdec_zero {l : List UInt8} (h : (cdec l).2 = 0) : ¬ l.length < 4 ∧ ¬ cN l < 4 ∧ ¬ l.length < cN l := by
  unfold cdec at h
  split at h
  · cases h
  · split at h
    · cases h
    · split at h
      · cases h
      · exact ⟨by assumption, by assumption, by assumption⟩
/-- What was encoded is decoded, whatever stands behind it. -/
theorem cdec_wire {q : QC} (h : cencE q = 0) (more : List UInt8) : cdec (wireC q ++ more) = (q, 0) := by
  obtain ⟨h1, h2, h5⟩ := cencE_zero h
  obtain ⟨m1, m2⟩ := byteB_true h1
  obtain ⟨m3, m4⟩ := byteB_true h2
  have hl : (wireC q ++ more).length = 4 + q.l.length + more.length := by rw [List.length_append, wireC_length]
  have e0 : bN (wireC q ++ more) 0 = q.c.toNat := ofNat_toNat8 _ (by omega)
  have e1 : bN (wireC q ++ more) 1 = q.i.toNat := ofNat_toNat8 _ (by omega)
  have e2 : bN (wireC q ++ more) 2 = (4 + q.l.length) / 256 := ofNat_toNat8 _ (by omega)
  have e3 : bN (wireC q ++ more) 3 = (4 + q.l.length) % 256 := by show (UInt8.ofNat (4 + q.l.length)).toNat = _; rw [UInt8.toNat_ofNat']
  have eN : cN (wireC q ++ more) = 4 + q.l.length := by unfold cN; rw [e2, e3]; omega
  rw [cdec_yes (by omega) (by omega) (by omega), eN, e0, e1]
  have e6 : ((wireC q ++ more).drop 4).take (4 + q.l.length - 4) = q.l := by
    show (q.l ++ more).take (4 + q.l.length - 4) = q.l
    rw [show 4 + q.l.length - 4 = q.l.length by omega]
    simp
  rw [e6, Int.toNat_of_nonneg m1, Int.toNat_of_nonneg m3]
/-- What is decoded, encoded, stands at the beginning of what it was decoded of. -/
theorem cdec_again {l : List UInt8} (h : (cdec l).2 = 0) (hs : (cdec l).1.l.length ≤ 1488) : cencE (cdec l).1 = 0 ∧ ∃ r, wireC (cdec l).1 ++ r = l := by
  obtain ⟨h1, h2, h3⟩ := cdec_zero h
  rw [cdec_yes h1 h2 h3] at hs ⊢
  have b0 := bN_lt l 0
  have b1 := bN_lt l 1
  have b2 := bN_lt l 2
  have b3 := bN_lt l 3
  have hl : ((l.drop 4).take (cN l - 4)).length = cN l - 4 := by rw [List.length_take, List.length_drop]; omega
  refine ⟨cencE_ok (byteB_yes (by simp) (by simp; omega)) (byteB_yes (by simp) (by simp; omega)) (by show ¬ 1488 < ((l.drop 4).take (cN l - 4)).length; exact Nat.not_lt.2 hs), l.drop (4 + (cN l - 4)), ?_⟩
  have g : ∀ i, i < l.length → UInt8.ofNat (bN l i) = l.getD i 0 := fun i hi => by unfold bN; rw [UInt8.ofNat_toNat]
  have hd : ∀ a b : Nat, b < 256 → (256 * a + b) / 256 = a := fun a b hb => by omega
  have hm : ∀ a b : Nat, b < 256 → UInt8.ofNat (256 * a + b) = UInt8.ofNat b := fun a b hb => by
    apply UInt8.toNat_inj.1
    rw [UInt8.toNat_ofNat', UInt8.toNat_ofNat']
    omega
  show UInt8.ofNat ((bN l 0 : Nat) : Int).toNat :: UInt8.ofNat ((bN l 1 : Nat) : Int).toNat :: UInt8.ofNat ((4 + ((l.drop 4).take (cN l - 4)).length) / 256) :: UInt8.ofNat (4 + ((l.drop 4).take (cN l - 4)).length) :: ((l.drop 4).take (cN l - 4) ++ l.drop (4 + (cN l - 4))) = l
  rw [hl, Int.toNat_natCast, Int.toNat_natCast, ← List.drop_drop, List.take_append_drop, show 4 + (cN l - 4) = 256 * bN l 2 + bN l 3 by unfold cN at h2 ⊢; omega]
  rw [hd _ _ b3, hm _ _ b3, g 0 (by omega), g 1 (by omega), g 2 (by omega), g 3 (by omega)]
  match l, h1 with
  | a :: b :: c :: d :: r, _ => rfl
  | [], h => exact absurd (by decide) h
  | [_], h => exact absurd (by simp) h
  | [_, _], h => exact absurd (by simp) h
  | [_, _, _], h => exact absurd (by simp) h

/-- The packet that tells that something is none. -/
def tellP (code id : Int) (e : Int) (b : List UInt8) : QC × Int := if byteB id = true then (if e = 0 then (⟨code, id, b.take 1488⟩, 0) else (QC.zero, e)) else (QC.zero, 1)
def rejP (q : QC) (id : Int) : QC × Int := tellP 7 id (cencE q) (cencB q)
def proP (q : QP) (id : Int) : QC × Int := tellP 8 id (joinE q) (joinB q)
theorem tellP_no {code id e : Int} {b : List UInt8} (h : byteB id = false) : tellP code id e b = (QC.zero, 1) := if_neg (by rw [h]; decide)
theorem tellP_err {code id e : Int} {b : List UInt8} (h : byteB id = true) (h2 : e ≠ 0) : tellP code id e b = (QC.zero, e) := by unfold tellP; rw [if_pos h, if_neg h2]
theorem tellP_ok {code id e : Int} {b : List UInt8} (h : byteB id = true) (h2 : e = 0) : tellP code id e b = (⟨code, id, b.take 1488⟩, 0) := by unfold tellP; rw [if_pos h, if_pos h2]
/-- What tells that something is none can be encoded, and joined. -/
theorem tellP_fits {code id e : Int} {b : List UInt8} (hc : byteB code = true) (h : (tellP code id e b).2 = 0) : cencE (tellP code id e b).1 = 0 ∧ joinE ⟨49185, wireC (tellP code id e b).1⟩ = 0 := by
  unfold tellP at h ⊢
  split at h
  · rename_i h1
    split at h
    · rename_i h2
      rw [if_pos h1, if_pos h2]
      have hl : (b.take 1488).length ≤ 1488 := by rw [List.length_take]; omega
      refine ⟨cencE_ok hc h1 (by show ¬ 1488 < (b.take 1488).length; omega), joinE_ok (show protoB 49185 = true from by decide) ?_⟩
      show ¬ 1492 < (wireC ⟨code, id, b.take 1488⟩).length
      rw [wireC_length]
      show ¬ 1492 < 4 + (b.take 1488).length
      omega
    · exact absurd h (by assumption)
  · cases h
end Go.Proofs.Ythllhdcdiidfpaa
