/-
  A pool in plain words: a range, which of its addresses are leased; Take, Want, Give; how many are free.
-/
import Derived.Test.YtoemghinolekgaaDoorPlP
namespace Go.Proofs.YtoemghinolekgaaDoor.Pl
set_option linter.unusedVariables false
set_option linter.unusedSimpArgs false

/-- A range and the leased addresses, rising. -/
structure Po where
  base : Int
  size : Nat
  res : List Int
  L : List Int
def has (S : Po) (a : Int) : Bool := decide (S.base ≤ a ∧ a - S.base < (S.size : Int) ∧ a - S.base ∉ S.res)
/-- May a range be? -/
structure okR (b z : Int) (res : List Int) : Prop where
  base : 1 ≤ b ∧ b ≤ 4294967294
  size : 0 ≤ z ∧ z ≤ 65536
  last : b + z ≤ 4294967295
  rise : res.Pairwise (· < ·)
  isin : ∀ p ∈ res, 0 ≤ p ∧ p < z
structure OkP (S : Po) : Prop where
  r : okR S.base S.size S.res
  rise : S.L.Pairwise (· < ·)
  has : ∀ a ∈ S.L, has S a = true
def born (b : Int) (z : Nat) (res : List Int) : Po := ⟨b, z, res, []⟩
theorem born_ok {b : Int} {z : Nat} {res : List Int} (h : okR b z res) : OkP (born b z res) := ⟨h, List.Pairwise.nil, by simp [born]⟩
def freeL (S : Po) : List Nat := (List.range S.size).filter fun i : Nat => !decide ((i : Int) ∈ S.res) && !decide (S.base + (i : Int) ∈ S.L)
def leasedL (S : Po) : List Nat := (List.range S.size).filter fun i : Nat => decide (S.base + (i : Int) ∈ S.L)
theorem mem_freeL {S : Po} {i : Nat} : i ∈ freeL S ↔ i < S.size ∧ (i : Int) ∉ S.res ∧ S.base + (i : Int) ∉ S.L := by simp [freeL]
theorem mem_leasedL {S : Po} {i : Nat} : i ∈ leasedL S ↔ i < S.size ∧ S.base + (i : Int) ∈ S.L := by simp [leasedL]
theorem freeL_rising (S : Po) : (freeL S).Pairwise (· < ·) := (range_rising _).filter _
theorem leasedL_rising (S : Po) : (leasedL S).Pairwise (· < ·) := (range_rising _).filter _
theorem has_iff {S : Po} {a : Int} : has S a = true ↔ S.base ≤ a ∧ a - S.base < (S.size : Int) ∧ a - S.base ∉ S.res := by simp [has]
theorem OkP.inL {S : Po} (h : OkP S) {a : Int} (ha : a ∈ S.L) : S.base ≤ a ∧ a - S.base < (S.size : Int) ∧ a - S.base ∉ S.res := has_iff.1 (h.has a ha)
/-- The leased places are the leased addresses. -/
theorem leased_map {S : Po} (h : OkP S) : (leasedL S).map (fun i : Nat => S.base + (i : Int)) = S.L := by
  refine Id.rising_eq ?_ h.rise fun y => ?_
  · rw [List.pairwise_map]
    exact (leasedL_rising S).imp fun h => by omega
  · rw [List.mem_map]
    constructor
    · rintro ⟨i, hi, rfl⟩
      exact (mem_leasedL.1 hi).2
    · intro hy
      have := h.inL hy
      refine ⟨(y - S.base).toNat, mem_leasedL.2 ⟨by omega, ?_⟩, by omega⟩
      have e : S.base + ((y - S.base).toNat : Int) = y := by omega
      rw [e]; exact hy
theorem res_filter {S : Po} (h : OkP S) : ((List.range S.size).filter fun i : Nat => decide ((i : Int) ∈ S.res)).map (fun i : Nat => (i : Int)) = S.res := by
  refine Id.rising_eq ?_ h.r.rise fun y => ?_
  · rw [List.pairwise_map]
    exact ((range_rising _).filter _).imp fun h => by omega
  · rw [List.mem_map]
    constructor
    · rintro ⟨i, hi, rfl⟩
      simpa using (List.mem_filter.1 hi).2
    · intro hy
      have := h.r.isin y hy
      refine ⟨y.toNat, List.mem_filter.2 ⟨List.mem_range.2 (by omega), ?_⟩, by omega⟩
      have e : ((y.toNat : Nat) : Int) = y := by omega
      rw [e]; simpa using hy
theorem three_parts (p q r : Nat → Bool) : ∀ l : List Nat, (∀ i ∈ l, (p i).toNat + (q i).toNat + (r i).toNat = 1) → (l.filter p).length + (l.filter q).length + (l.filter r).length = l.length
  | [], _ => rfl
  | i :: l, h => by
    have ih := three_parts p q r l fun j hj => h j (by simp [hj])
    have hi := h i (by simp)
    simp only [List.filter_cons, List.length_cons]
    cases hp : p i <;> cases hq : q i <;> cases hr : r i <;> simp [hp, hq, hr] at hi ⊢ <;> omega
/-- Free, leased and reserved are the range. -/
theorem parts {S : Po} (h : OkP S) : (freeL S).length + S.res.length + S.L.length = S.size := by
  have e1 := congrArg List.length (leased_map h)
  have e2 := congrArg List.length (res_filter h)
  rw [List.length_map] at e1 e2
  have := three_parts (fun i : Nat => !decide ((i : Int) ∈ S.res) && !decide (S.base + (i : Int) ∈ S.L)) (fun i : Nat => decide ((i : Int) ∈ S.res)) (fun i : Nat => decide (S.base + (i : Int) ∈ S.L)) (List.range S.size) fun i hi => by
    by_cases a : (i : Int) ∈ S.res
    · by_cases b : S.base + (i : Int) ∈ S.L
      · have := (h.inL b).2.2
        rw [show S.base + (i : Int) - S.base = (i : Int) by omega] at this
        exact absurd a this
      · simp [a, b]
    · by_cases b : S.base + (i : Int) ∈ S.L <;> simp [a, b]
  rw [List.length_range] at this
  unfold freeL
  unfold leasedL at e1
  omega
def free (S : Po) : Int := (S.size : Int) - (S.res.length : Int) - (S.L.length : Int)
theorem free_eq {S : Po} (h : OkP S) : ((freeL S).length : Int) = free S := by
  have := parts h
  unfold free
  omega
def put (S : Po) (a : Int) : Po := { S with L := Id.put a S.L }
/-- A row without one. -/
def strike (n : Int) (l : List Int) : List Int := l.filter fun y => decide (y ≠ n)
theorem strike_same {n x : Int} {l : List Int} (h : x = n) : strike n (l ++ [x]) = strike n l := by simp [strike, h]
theorem strike_other {n x : Int} {l : List Int} (h : x ≠ n) : strike n (l ++ [x]) = strike n l ++ [x] := by simp [strike, h]
def drop (S : Po) (a : Int) : Po := { S with L := strike a S.L }
theorem mem_drop {S : Po} {a y : Int} : y ∈ (drop S a).L ↔ y ∈ S.L ∧ y ≠ a := by simp [drop, strike]
theorem mem_put {S : Po} {a y : Int} : y ∈ (put S a).L ↔ y = a ∨ y ∈ S.L := Id.put_mem
theorem has_same {S T : Po} (h1 : T.base = S.base) (h2 : T.size = S.size) (h3 : T.res = S.res) (a : Int) : has T a = has S a := by unfold has; rw [h1, h2, h3]
theorem put_ok {S : Po} (h : OkP S) {a : Int} (ha : has S a = true) (hn : a ∉ S.L) : OkP (put S a) := by
  refine ⟨h.r, Id.put_rising h.rise hn, fun y hy => ?_⟩
  rw [show Pl.has (put S a) y = Pl.has S y from has_same rfl rfl rfl y]
  rcases mem_put.1 hy with rfl | hy
  · exact ha
  · exact h.has y hy
theorem drop_ok {S : Po} (h : OkP S) (a : Int) : OkP (drop S a) :=
  ⟨h.r, h.rise.filter _, fun y hy => by rw [show Pl.has (drop S a) y = Pl.has S y from has_same rfl rfl rfl y]; exact h.has y (mem_drop.1 hy).1⟩
/-- Take: the state, the address, the error. -/
def take (S : Po) : Po × Int × Int := match freeL S with
  | [] => (S, 0, 121)
  | i :: _ => (put S (S.base + (i : Int)), S.base + (i : Int), 0)
def want (S : Po) (a : Int) : Po × Int := if has S a = true then (if a ∈ S.L then (S, 122) else (put S a, 0)) else (S, 5)
def give (S : Po) (a : Int) : Po × Int := if has S a = true then (if a ∈ S.L then (drop S a, 0) else (S, 112)) else (S, 5)
theorem free_has {S : Po} {i : Nat} (hi : i ∈ freeL S) : has S (S.base + (i : Int)) = true ∧ S.base + (i : Int) ∉ S.L := by
  have h := mem_freeL.1 hi
  refine ⟨has_iff.2 ⟨by omega, by omega, ?_⟩, h.2.2⟩
  rw [show S.base + (i : Int) - S.base = (i : Int) by omega]
  exact h.2.1
theorem has_free {S : Po} {a : Int} (ha : has S a = true) (hn : a ∉ S.L) : (a - S.base).toNat ∈ freeL S ∧ S.base + (((a - S.base).toNat : Nat) : Int) = a := by
  have h := has_iff.1 ha
  have e1 : (((a - S.base).toNat : Nat) : Int) = a - S.base := by omega
  have e : S.base + (((a - S.base).toNat : Nat) : Int) = a := by omega
  refine ⟨mem_freeL.2 ⟨by omega, ?_, by rw [e]; exact hn⟩, e⟩
  rw [e1]; exact h.2.2
theorem take_ok {S : Po} (h : OkP S) : OkP (take S).1 := by
  unfold take
  split
  · exact h
  · rename_i i r hr
    have hi : i ∈ freeL S := by rw [hr]; simp
    exact put_ok h (free_has hi).1 (free_has hi).2
theorem want_ok {S : Po} (h : OkP S) (a : Int) : OkP (want S a).1 := by
  unfold want
  split
  · rename_i ha
    split
    · exact h
    · rename_i hn; exact put_ok h ha hn
  · exact h
theorem give_ok {S : Po} (h : OkP S) (a : Int) : OkP (give S a).1 := by
  unfold give
  split
  · split
    · exact drop_ok h a
    · exact h
  · exact h
theorem take_range (S : Po) : (take S).1.base = S.base ∧ (take S).1.size = S.size ∧ (take S).1.res = S.res := by
  unfold take; split <;> exact ⟨rfl, rfl, rfl⟩
theorem want_range (S : Po) (a : Int) : (want S a).1.base = S.base ∧ (want S a).1.size = S.size ∧ (want S a).1.res = S.res := by
  unfold want; split
  · split <;> exact ⟨rfl, rfl, rfl⟩
  · exact ⟨rfl, rfl, rfl⟩
theorem give_range (S : Po) (a : Int) : (give S a).1.base = S.base ∧ (give S a).1.size = S.size ∧ (give S a).1.res = S.res := by
  unfold give; split
  · split <;> exact ⟨rfl, rfl, rfl⟩
  · exact ⟨rfl, rfl, rfl⟩
/-- What the words of the free ones, of the leased ones read. -/
structure Ties (S : Po) (fr le : List Nat) : Prop where
  fl : fr.length = (S.size + 63) / 64
  ll : le.length = (S.size + 63) / 64
  f : ∀ i, bitW fr i = decide (i ∈ freeL S)
  l : ∀ i, bitW le i = decide (i ∈ leasedL S)
theorem Ties.eachF {S : Po} {fr le : List Nat} (h : Ties S fr le) : eachW fr = freeL S :=
  risingN_eq (eachW_rising _) (freeL_rising _) fun y => by rw [mem_eachW, h.f]; simp
theorem Ties.eachL {S : Po} {fr le : List Nat} (h : Ties S fr le) : eachW le = leasedL S :=
  risingN_eq (eachW_rising _) (leasedL_rising _) fun y => by rw [mem_eachW, h.l]; simp
theorem Ties.inF {S : Po} {fr le : List Nat} (h : Ties S fr le) {i : Nat} (hi : i < S.size) : i / 64 < fr.length := by rw [h.fl]; omega
theorem Ties.inL {S : Po} {fr le : List Nat} (h : Ties S fr le) {i : Nat} (hi : i < S.size) : i / 64 < le.length := by rw [h.ll]; omega
/-- A free place is leased. -/
theorem Ties.lease {S : Po} {fr le : List Nat} (h : Ties S fr le) {i : Nat} (hi : i ∈ freeL S) : Ties (put S (S.base + (i : Int))) (dropW fr i) (putW le i) := by
  have hm := mem_freeL.1 hi
  refine ⟨by rw [dropW_length]; exact h.fl, by rw [putW_length]; exact h.ll, fun j => ?_, fun j => ?_⟩
  · rw [bitW_drop (h.inF hm.1), h.f, Bool.eq_iff_iff]
    simp only [Bool.and_eq_true, Bool.not_eq_true', decide_eq_true_eq, decide_eq_false_iff_not]
    rw [mem_freeL, mem_freeL, mem_put]
    show _ ↔ j < S.size ∧ (j : Int) ∉ S.res ∧ ¬ (S.base + (j : Int) = S.base + (i : Int) ∨ S.base + (j : Int) ∈ S.L)
    constructor
    · rintro ⟨⟨h1, h2, h3⟩, h4⟩
      exact ⟨h1, h2, fun h5 => h5.elim (fun h5 => h4 (by omega)) h3⟩
    · rintro ⟨h1, h2, h3⟩
      exact ⟨⟨h1, h2, fun h5 => h3 (.inr h5)⟩, fun h5 => h3 (.inl (by omega))⟩
  · rw [bitW_put (h.inL hm.1), h.l, Bool.eq_iff_iff]
    simp only [Bool.or_eq_true, decide_eq_true_eq]
    rw [mem_leasedL, mem_leasedL, mem_put]
    show _ ↔ j < S.size ∧ (S.base + (j : Int) = S.base + (i : Int) ∨ S.base + (j : Int) ∈ S.L)
    constructor
    · rintro (⟨h1, h2⟩ | rfl)
      · exact ⟨h1, .inr h2⟩
      · exact ⟨hm.1, .inl rfl⟩
    · rintro ⟨h1, h2 | h2⟩
      · exact .inr (by omega)
      · exact .inl ⟨h1, h2⟩
/-- A leased place is given. -/
theorem Ties.release {S : Po} (ok : OkP S) {fr le : List Nat} (h : Ties S fr le) {i : Nat} (hi : i ∈ leasedL S) : Ties (drop S (S.base + (i : Int))) (putW fr i) (dropW le i) := by
  have hm := mem_leasedL.1 hi
  have hr := (ok.inL hm.2).2.2
  rw [show S.base + (i : Int) - S.base = (i : Int) by omega] at hr
  refine ⟨by rw [putW_length]; exact h.fl, by rw [dropW_length]; exact h.ll, fun j => ?_, fun j => ?_⟩
  · rw [bitW_put (h.inF hm.1), h.f, Bool.eq_iff_iff]
    simp only [Bool.or_eq_true, decide_eq_true_eq]
    rw [mem_freeL, mem_freeL, mem_drop]
    show _ ↔ j < S.size ∧ (j : Int) ∉ S.res ∧ ¬ (S.base + (j : Int) ∈ S.L ∧ S.base + (j : Int) ≠ S.base + (i : Int))
    constructor
    · rintro (⟨h1, h2, h3⟩ | rfl)
      · exact ⟨h1, h2, fun h5 => h3 h5.1⟩
      · exact ⟨hm.1, hr, fun h5 => h5.2 rfl⟩
    · rintro ⟨h1, h2, h3⟩
      by_cases e : j = i
      · exact .inr e
      · exact .inl ⟨h1, h2, fun h5 => h3 ⟨h5, by omega⟩⟩
  · rw [bitW_drop (h.inL hm.1), h.l, Bool.eq_iff_iff]
    simp only [Bool.and_eq_true, Bool.not_eq_true', decide_eq_true_eq, decide_eq_false_iff_not]
    rw [mem_leasedL, mem_leasedL, mem_drop]
    show _ ↔ j < S.size ∧ (S.base + (j : Int) ∈ S.L ∧ S.base + (j : Int) ≠ S.base + (i : Int))
    constructor
    · rintro ⟨⟨h1, h2⟩, h3⟩
      exact ⟨h1, h2, by omega⟩
    · rintro ⟨h1, h2, h3⟩
      exact ⟨⟨h1, h2⟩, fun e => h3 (by rw [e])⟩
/-- Is an address one of the pool's? Free or leased. -/
theorem Ties.has {S : Po} (ok : OkP S) {fr le : List Nat} (h : Ties S fr le) {i : Nat} : (bitW fr i || bitW le i) = Pl.has S (S.base + (i : Int)) := by
  rw [h.f, h.l, Bool.eq_iff_iff, has_iff]
  simp only [Bool.or_eq_true, decide_eq_true_eq]
  rw [mem_freeL, mem_leasedL, show S.base + (i : Int) - S.base = (i : Int) by omega]
  constructor
  · rintro (⟨h1, h2, h3⟩ | ⟨h1, h2⟩)
    · exact ⟨by omega, by omega, h2⟩
    · have := (ok.inL h2).2.2
      rw [show S.base + (i : Int) - S.base = (i : Int) by omega] at this
      exact ⟨by omega, by omega, this⟩
  · rintro ⟨_, h1, h2⟩
    by_cases e : S.base + (i : Int) ∈ S.L
    · exact .inr ⟨by omega, e⟩
    · exact .inl ⟨by omega, h2, e⟩
theorem Ties.leased {S : Po} {fr le : List Nat} (h : Ties S fr le) {a : Int} (ha : Pl.has S a = true) : bitW le (a - S.base).toNat = decide (a ∈ S.L) := by
  have := has_iff.1 ha
  have e : S.base + (((a - S.base).toNat : Nat) : Int) = a := by omega
  rw [h.l, Bool.eq_iff_iff]
  simp only [decide_eq_true_eq]
  rw [mem_leasedL, e]
  exact ⟨fun h => h.2, fun h => ⟨by omega, h⟩⟩
end Go.Proofs.YtoemghinolekgaaDoor.Pl
