/-
  Timers in plain words: no program. A key and its tick; in order; a heap (in a row: who stands at c is not ahead of who stands at (c - 1) / 2); what a step down, a step up leave.
-/
import Derived.Test.YtmcifmgfgdahnaaLib
namespace Go.Proofs.Ytmcifmgfgdahnaa.Tm
set_option linter.unusedVariables false

/-- A key, its tick. -/
abbrev D := Int × Int
/-- Ahead: by ticks, and by keys. -/
def lt (a b : D) : Prop := a.2 < b.2 ∨ (a.2 = b.2 ∧ a.1 < b.1)
instance (a b : D) : Decidable (lt a b) := by unfold lt; infer_instance
theorem lt_irrefl (a : D) : ¬ lt a a := by unfold lt; omega
theorem lt_trans {a b c : D} (h : lt a b) (k : lt b c) : lt a c := by unfold lt at *; omega
theorem lt_total {a b : D} (h : ¬ lt a b) (hk : a.1 ≠ b.1) : lt b a := by unfold lt at *; omega
def le (a b : D) : Prop := ¬ lt b a
theorem le_trans {a b c : D} (h : le a b) (k : le b c) : le a c := by unfold le lt at *; omega
theorem le_of_lt {a b : D} (h : lt a b) : le a b := by unfold le lt at *; omega
theorem le_refl (a : D) : le a a := lt_irrefl a
/-- Who stands there. -/
def at_ (q : List D) (i : Nat) : D := q.getD i (0, 0)
theorem at_get {q : List D} {i : Nat} (h : i < q.length) : at_ q i = q[i] := by simp [at_, List.getD, h]
theorem at_set {q : List D} {i k : Nat} {d : D} (h : i < q.length) : at_ (q.set i d) k = if k = i then d else at_ q k := by
  simp only [at_, List.getD, List.getElem?_set]
  by_cases e : k = i
  · subst e; simp [h]
  · rw [if_neg (fun h => e h.symm), if_neg e]
theorem at_append_lt {q r : List D} {k : Nat} (h : k < q.length) : at_ (q ++ r) k = at_ q k := by simp [at_, List.getD, List.getElem?_append, h]
theorem at_append_last {q : List D} {d : D} : at_ (q ++ [d]) q.length = d := by simp [at_, List.getD]
theorem at_take {q : List D} {n k : Nat} (h : k < n) : at_ (q.take n) k = at_ q k := by simp [at_, List.getD, List.getElem?_take, h]
def swp (q : List D) (i j : Nat) : List D := (q.set i (at_ q j)).set j (at_ q i)
theorem swp_length (q : List D) (i j : Nat) : (swp q i j).length = q.length := by simp [swp]
theorem at_swp {q : List D} {i j k : Nat} (hi : i < q.length) (hj : j < q.length) : at_ (swp q i j) k = if k = j then at_ q i else if k = i then at_ q j else at_ q k := by
  unfold swp
  rw [at_set (by simpa using hj), at_set hi]
theorem swp_perm {q : List D} {i j : Nat} (hi : i < q.length) (hj : j < q.length) : (swp q i j).Perm q := by
  unfold swp
  rw [at_get hi, at_get hj]
  exact List.set_set_perm hi hj
/-! Heaps. -/
def Hp (q : List D) (n : Nat) : Prop := ∀ c, 0 < c → c < n → le (at_ q ((c - 1) / 2)) (at_ q c)
/-- Who stands at i may stand wrongly. -/
structure HE (q : List D) (n i : Nat) : Prop where
  far : ∀ c, 0 < c → c < n → c ≠ i → (c - 1) / 2 ≠ i → le (at_ q ((c - 1) / 2)) (at_ q c)
  grand : ∀ c, 0 < c → c < n → (c - 1) / 2 = i → 0 < i → le (at_ q ((i - 1) / 2)) (at_ q c)
/-- .. may stand too far down. -/
structure HU (q : List D) (n i : Nat) : Prop where
  far : ∀ c, 0 < c → c < n → c ≠ i → le (at_ q ((c - 1) / 2)) (at_ q c)
  grand : ∀ c, 0 < c → c < n → (c - 1) / 2 = i → 0 < i → le (at_ q ((i - 1) / 2)) (at_ q c)
/-- No child of i stands ahead of it. -/
def Low (q : List D) (n i : Nat) : Prop := ∀ c, 0 < c → c < n → (c - 1) / 2 = i → le (at_ q i) (at_ q c)
/-- i does not stand ahead of its parent. -/
def Up (q : List D) (i : Nat) : Prop := 0 < i → le (at_ q ((i - 1) / 2)) (at_ q i)
theorem HE.done {q : List D} {n i : Nat} (h : HE q n i) (hu : Up q i) (hl : Low q n i) : Hp q n := by
  intro c h0 hc
  by_cases e : (c - 1) / 2 = i
  · rw [e]; exact hl c h0 hc e
  · by_cases e2 : c = i
    · subst e2; exact hu h0
    · exact h.far c h0 hc e2 e
theorem HE.up {q : List D} {n i : Nat} (h : HE q n i) (hl : Low q n i) : HU q n i :=
  ⟨fun c h0 hc e2 => by
    by_cases e : (c - 1) / 2 = i
    · rw [e]; exact hl c h0 hc e
    · exact h.far c h0 hc e2 e, h.grand⟩
theorem HU.done {q : List D} {n i : Nat} (h : HU q n i) (hu : Up q i) : Hp q n := by
  intro c h0 hc
  by_cases e2 : c = i
  · subst e2; exact hu h0
  · exact h.far c h0 hc e2
/-- A step down: i changes places with its child j, which stands ahead of it and not behind the other one. -/
theorem HE.step {q : List D} {n i j : Nat} (h : HE q n i) (hn : n ≤ q.length) (hj0 : 0 < j) (hj : j < n) (hp : (j - 1) / 2 = i) (hlt : lt (at_ q j) (at_ q i)) (hs : ∀ c, 0 < c → c < n → (c - 1) / 2 = i → le (at_ q j) (at_ q c)) :
    HE (swp q i j) n j ∧ Up (swp q i j) j := by
  have hij : i < j := by omega
  have hil : i < q.length := by omega
  have hjl : j < q.length := by omega
  refine ⟨⟨fun c h0 hc h1 h2 => ?_, fun c h0 hc h1 _ => ?_⟩, fun _ => ?_⟩
  · rw [at_swp hil hjl, at_swp hil hjl, if_neg h2, if_neg h1]
    by_cases e : (c - 1) / 2 = i
    · rw [if_pos e, if_neg (by omega)]
      exact hs c h0 hc e
    · rw [if_neg e]
      by_cases e2 : c = i
      · rw [if_pos e2, e2]
        exact h.grand j hj0 hj hp (by omega)
      · rw [if_neg e2]
        exact h.far c h0 hc e2 e
  · rw [at_swp hil hjl, at_swp hil hjl, hp, if_neg (by omega), if_pos rfl, if_neg (by omega), if_neg (by omega)]
    have := h.far c h0 hc (by omega) (by omega)
    rw [h1] at this
    exact this
  · rw [at_swp hil hjl, at_swp hil hjl, hp, if_neg (by omega), if_pos rfl, if_pos rfl]
    exact le_of_lt hlt
/-- A step up: j changes places with its parent i, which it stands ahead of. -/
theorem HU.step {q : List D} {n i j : Nat} (h : HU q n j) (hn : n ≤ q.length) (hj0 : 0 < j) (hj : j < n) (hp : (j - 1) / 2 = i) (hlt : lt (at_ q j) (at_ q i)) : HU (swp q i j) n i := by
  have hij : i < j := by omega
  have hil : i < q.length := by omega
  have hjl : j < q.length := by omega
  refine ⟨fun c h0 hc h1 => ?_, fun c h0 hc h1 hi0 => ?_⟩
  · rw [at_swp hil hjl, at_swp hil hjl]
    by_cases e : c = j
    · rw [e, hp, if_neg (by omega), if_pos rfl, if_pos rfl]
      exact le_of_lt hlt
    · rw [if_neg e, if_neg h1]
      have hf := h.far c h0 hc e
      by_cases e1 : (c - 1) / 2 = j
      · rw [if_pos e1]
        have := h.grand c h0 hc e1 hj0
        rwa [hp] at this
      · rw [if_neg e1]
        by_cases e2 : (c - 1) / 2 = i
        · rw [if_pos e2]
          rw [e2] at hf
          exact le_trans (le_of_lt hlt) hf
        · rw [if_neg e2]
          exact hf
  · rw [at_swp hil hjl, at_swp hil hjl, if_neg (by omega), if_neg (by omega)]
    have hpi := h.far i hi0 (by omega) (by omega)
    by_cases e : c = j
    · rw [if_pos e]
      exact hpi
    · rw [if_neg e, if_neg (by omega)]
      have := h.far c h0 hc e
      rw [h1] at this
      exact le_trans hpi this
theorem Hp.first {q : List D} {n : Nat} (h : Hp q n) : ∀ (i : Nat), i < n → le (at_ q 0) (at_ q i) := by
  intro i
  induction i using Nat.strongRecOn with
  | _ i ih =>
    intro hi
    by_cases h0 : i = 0
    · subst h0; exact le_refl _
    · exact le_trans (ih ((i - 1) / 2) (by omega) (by omega)) (h i (by omega) hi)
theorem Hp.he {q : List D} {n : Nat} (h : Hp q n) (i : Nat) (hi : i < n) : HE q n i :=
  ⟨fun c h0 hc _ _ => h c h0 hc, fun c h0 hc h1 hi0 => by
    have a := h i hi0 hi
    have b := h c h0 hc
    rw [h1] at b
    exact le_trans a b⟩
/-- All but who stands at i are the same. -/
theorem HE.congr {q q' : List D} {n i : Nat} (h : HE q n i) (hq : ∀ k, k < n → k ≠ i → at_ q' k = at_ q k) (hi : i < n) : HE q' n i :=
  ⟨fun c h0 hc h1 h2 => by rw [hq c hc h1, hq _ (by omega) h2]; exact h.far c h0 hc h1 h2,
   fun c h0 hc h1 hi0 => by rw [hq c hc (by omega), hq _ (by omega) (by omega)]; exact h.grand c h0 hc h1 hi0⟩
theorem Hp.congr {q q' : List D} {n : Nat} (h : Hp q n) (hq : ∀ k, k < n → at_ q' k = at_ q k) : Hp q' n :=
  fun c h0 hc => by rw [hq c hc, hq _ (by omega)]; exact h c h0 hc
theorem Hp.mono {q : List D} {n m : Nat} (h : Hp q n) (hm : m ≤ n) : Hp q m := fun c h0 hc => h c h0 (by omega)
theorem HU.push {q : List D} {d : D} (h : Hp q q.length) : HU (q ++ [d]) (q.length + 1) q.length :=
  ⟨fun c h0 hc h1 => by rw [at_append_lt (by omega), at_append_lt (by omega)]; exact h c h0 (by omega),
   fun c h0 hc h1 hi0 => by omega⟩
theorem HE.set {q : List D} {n i : Nat} {d : D} (h : Hp q n) (hi : i < n) (hn : n ≤ q.length) : HE (q.set i d) n i :=
  (h.he i hi).congr (fun k _ hk => by rw [at_set (by omega), if_neg hk]) hi
theorem HE.cut {q : List D} {n i : Nat} (h : Hp q (n + 1)) (hi : i < n) (hn : n < q.length) : HE (swp q i n) n i :=
  ((h.mono (Nat.le_succ n)).he i hi).congr (fun k hk hk2 => by rw [at_swp (by omega) hn, if_neg (by omega), if_neg hk2]) hi
/-! Places. -/
def upd (f : Int → Option Nat) (k : Int) (o : Option Nat) : Int → Option Nat := fun x => if x = k then o else f x
/-- The places of a row's keys. -/
def Ties (q : List D) (f : Int → Option Nat) : Prop := ∀ k i, f k = some i ↔ i < q.length ∧ (at_ q i).1 = k
theorem Ties.one {q : List D} {f : Int → Option Nat} (h : Ties q f) {i j : Nat} (hi : i < q.length) (hj : j < q.length) (e : (at_ q i).1 = (at_ q j).1) : i = j := by
  have a := (h (at_ q i).1 i).2 ⟨hi, rfl⟩
  have b := (h (at_ q i).1 j).2 ⟨hj, e.symm⟩
  rw [a] at b
  exact Option.some.inj b
theorem Ties.swp {q : List D} {f : Int → Option Nat} (h : Ties q f) {i j : Nat} (hi : i < q.length) (hj : j < q.length) : Ties (swp q i j) (upd (upd f (at_ q j).1 i) (at_ q i).1 j) := by
  intro k x
  rw [swp_length, at_swp hi hj]
  unfold upd
  by_cases e1 : k = (at_ q i).1
  · rw [if_pos e1]
    constructor
    · intro e; obtain rfl := Option.some.inj e; exact ⟨hj, by rw [if_pos rfl, e1]⟩
    · rintro ⟨hx, e⟩
      by_cases c1 : x = j
      · rw [c1]
      · rw [if_neg c1] at e
        by_cases c2 : x = i
        · rw [if_pos c2] at e
          have := h.one hj hi (e.trans e1)
          omega
        · rw [if_neg c2] at e
          have := h.one hx hi (e.trans e1)
          omega
  · rw [if_neg e1]
    by_cases e2 : k = (at_ q j).1
    · rw [if_pos e2]
      constructor
      · intro e; obtain rfl := Option.some.inj e
        refine ⟨hi, ?_⟩
        by_cases c : i = j
        · subst c; exact absurd e2 e1
        · rw [if_neg c, if_pos rfl, e2]
      · rintro ⟨hx, e⟩
        by_cases c1 : x = j
        · rw [if_pos c1] at e; exact absurd e.symm e1
        · rw [if_neg c1] at e
          by_cases c2 : x = i
          · rw [c2]
          · rw [if_neg c2] at e
            exact absurd (h.one hx hj (e.trans e2)) c1
    · rw [if_neg e2, h k x]
      constructor
      · rintro ⟨hx, e⟩
        refine ⟨hx, ?_⟩
        rw [if_neg (by rintro rfl; exact e2 e.symm), if_neg (by rintro rfl; exact e1 e.symm)]
        exact e
      · rintro ⟨hx, e⟩
        refine ⟨hx, ?_⟩
        by_cases c1 : x = j
        · rw [if_pos c1] at e; exact absurd e.symm e1
        · rw [if_neg c1] at e
          by_cases c2 : x = i
          · rw [if_pos c2] at e; exact absurd e.symm e2
          · rwa [if_neg c2] at e
theorem Ties.push {q : List D} {f : Int → Option Nat} (h : Ties q f) {d : D} (hd : f d.1 = none) : Ties (q ++ [d]) (upd f d.1 (some q.length)) := by
  intro k x
  rw [List.length_append, List.length_singleton]
  unfold upd
  by_cases e : k = d.1
  · rw [if_pos e]
    constructor
    · intro e2; obtain rfl := Option.some.inj e2; exact ⟨by omega, by rw [at_append_last, e]⟩
    · rintro ⟨hx, e2⟩
      by_cases c : x < q.length
      · rw [at_append_lt c] at e2
        have := (h k x).2 ⟨c, e2⟩
        rw [e, hd] at this
        cases this
      · have : x = q.length := by omega
        rw [this]
  · rw [if_neg e, h k x]
    constructor
    · rintro ⟨hx, e2⟩; exact ⟨by omega, by rw [at_append_lt hx]; exact e2⟩
    · rintro ⟨hx, e2⟩
      by_cases c : x < q.length
      · rw [at_append_lt c] at e2; exact ⟨c, e2⟩
      · have : x = q.length := by omega
        rw [this, at_append_last] at e2
        exact absurd e2.symm e
theorem Ties.drop {q : List D} {d : D} {f : Int → Option Nat} (h : Ties (q ++ [d]) f) : Ties q (upd f d.1 none) := by
  intro k x
  unfold upd
  have hl : (q ++ [d]).length = q.length + 1 := by simp
  by_cases e : k = d.1
  · rw [if_pos e]
    constructor
    · intro e2; cases e2
    · rintro ⟨hx, e2⟩
      have := h.one (i := x) (j := q.length) (by omega) (by omega) (by rw [at_append_lt hx, at_append_last, e2, e])
      omega
  · rw [if_neg e, h k x, hl]
    constructor
    · rintro ⟨hx, e2⟩
      by_cases c : x < q.length
      · rw [at_append_lt c] at e2; exact ⟨c, e2⟩
      · have : x = q.length := by omega
        rw [this, at_append_last] at e2
        exact absurd e2.symm e
    · rintro ⟨hx, e2⟩; exact ⟨by omega, by rw [at_append_lt hx]; exact e2⟩
theorem Ties.set {q : List D} {f : Int → Option Nat} (h : Ties q f) {i : Nat} {d : D} (hi : i < q.length) (hd : (at_ q i).1 = d.1) : Ties (q.set i d) f := by
  intro k x
  rw [h k x, List.length_set, at_set hi]
  by_cases c : x = i
  · rw [if_pos c, c, hd]
  · rw [if_neg c]
theorem Ties.nil : Ties [] (fun _ => none) := fun k x => by simp
/-! In order. -/
def Srt (l : List D) : Prop := l.Pairwise lt
def without (l : List D) (k : Int) : List D := l.filter fun p => p.1 != k
def ins (d : D) (l : List D) : List D := l.takeWhile (fun p => decide (lt p d)) ++ d :: l.dropWhile (fun p => decide (lt p d))
def due (l : List D) (t : Int) : List D := l.takeWhile fun p => decide (p.2 ≤ t)
def left (l : List D) (t : Int) : List D := l.dropWhile fun p => decide (p.2 ≤ t)
def set (l : List D) (d : D) : List D := ins d (without l d.1)
def Apart (l : List D) : Prop := (l.map (·.1)).Nodup
theorem Ties.apart {q : List D} {f : Int → Option Nat} (h : Ties q f) : Apart q := by
  unfold Apart
  rw [List.Nodup, List.pairwise_map, List.pairwise_iff_getElem]
  intro i j hi hj hij e
  have := h.one hi hj (by rw [at_get hi, at_get hj]; exact e)
  omega
theorem ins_perm (d : D) (l : List D) : (ins d l).Perm (d :: l) := by
  unfold ins
  refine List.perm_middle.trans ?_
  rw [List.takeWhile_append_dropWhile]
theorem Apart.perm {l m : List D} (h : Apart l) (p : l.Perm m) : Apart m := (p.map _).nodup_iff.1 h
theorem without_sub (l : List D) (k : Int) : (without l k).Sublist l := List.filter_sublist
theorem Apart.without {l : List D} (h : Apart l) (k : Int) : Apart (without l k) := h.sublist ((without_sub l k).map _)
theorem without_not (l : List D) (k : Int) : k ∉ (without l k).map (·.1) := by
  intro h
  obtain ⟨p, hp, e⟩ := List.mem_map.1 h
  have := (List.mem_filter.1 hp).2
  simp [e] at this
theorem Apart.cons {l : List D} (h : Apart l) {d : D} (hd : d.1 ∉ l.map (·.1)) : Apart (d :: l) := by
  unfold Apart
  rw [List.map_cons, List.nodup_cons]
  exact ⟨hd, h⟩
theorem Apart.set {l : List D} (h : Apart l) (d : D) : Apart (set l d) := ((h.without d.1).cons (without_not l d.1)).perm (ins_perm _ _).symm
theorem Srt.ins {l : List D} (h : Srt l) {d : D} (hd : d.1 ∉ l.map (·.1)) : Srt (ins d l) := by
  induction l with
  | nil => exact List.pairwise_singleton _ _
  | cons a l ih =>
    have h1 := List.pairwise_cons.1 h
    have hd1 : d.1 ≠ a.1 := fun e => hd (by simp [e])
    unfold Tm.ins
    by_cases c : lt a d
    · rw [List.takeWhile_cons_of_pos (by simpa using c), List.dropWhile_cons_of_pos (by simpa using c), List.cons_append]
      refine List.pairwise_cons.2 ⟨fun x hx => ?_, ih h1.2 (fun hm => hd (by simp only [List.map_cons, List.mem_cons]; exact .inr hm))⟩
      rcases List.mem_cons.1 ((ins_perm d l).mem_iff.1 hx) with rfl | hx
      · exact c
      · exact h1.1 x hx
    · rw [List.takeWhile_cons_of_neg (by simpa using c), List.dropWhile_cons_of_neg (by simpa using c), List.nil_append]
      have hda := lt_total c (fun e => hd1 e.symm)
      refine List.pairwise_cons.2 ⟨fun x hx => ?_, h⟩
      rcases List.mem_cons.1 hx with rfl | hx
      · exact hda
      · exact lt_trans hda (h1.1 x hx)
theorem Srt.without {l : List D} (h : Srt l) (k : Int) : Srt (without l k) := h.sublist (without_sub l k)
theorem Srt.set {l : List D} (h : Srt l) (d : D) : Srt (set l d) := (h.without d.1).ins (without_not l d.1)
theorem Srt.unique : ∀ {l m : List D}, Srt l → Srt m → l.Perm m → l = m
  | [], m, _, _, p => (List.nil_perm.1 p).symm
  | a :: l, [], _, _, p => by simpa using p.length_eq
  | a :: l, b :: m, hl, hm, p => by
    have h1 := List.pairwise_cons.1 hl
    have h2 := List.pairwise_cons.1 hm
    have e : a = b := by
      rcases List.mem_cons.1 (p.mem_iff.1 (List.mem_cons_self)) with h | h
      · exact h
      · rcases List.mem_cons.1 (p.mem_iff.2 (List.mem_cons_self)) with h' | h'
        · exact h'.symm
        · exact absurd (lt_trans (h1.1 b h') (h2.1 a h)) (lt_irrefl _)
    subst e
    rw [Srt.unique h1.2 h2.2 ((List.perm_cons a).1 p)]
/-- The first of a heap is the first in order. -/
theorem first_eq {q l : List D} {a : D} (hq : Hp q q.length) (hp : q.Perm (a :: l)) (hs : Srt (a :: l)) : at_ q 0 = a := by
  have hlen : 0 < q.length := by rw [hp.length_eq]; simp
  have hm : at_ q 0 ∈ a :: l := hp.mem_iff.1 (by rw [at_get hlen]; exact List.getElem_mem _)
  rcases List.mem_cons.1 hm with h | h
  · exact h
  · obtain ⟨i, hi, e⟩ := List.mem_iff_getElem.1 (hp.mem_iff.2 (List.mem_cons_self : a ∈ a :: l))
    have := hq.first i hi
    rw [at_get hi, e] at this
    exact absurd ((List.pairwise_cons.1 hs).1 _ h) this
theorem without_of {l : List D} {k : Int} (h : k ∉ l.map (·.1)) : without l k = l := by
  unfold without
  rw [List.filter_eq_self]
  intro p hp
  have : p.1 ≠ k := fun e => h (List.mem_map.2 ⟨p, hp, e⟩)
  simpa using this
/-- One key is taken away. -/
theorem without_perm {q l : List D} {d : D} (h : (q ++ [d]).Perm l) (ha : Apart l) : q.Perm (without l d.1) := by
  have h1 : (without (q ++ [d]) d.1).Perm (without l d.1) := h.filter _
  have h2 := ha.perm h.symm
  have h3 : d.1 ∉ q.map (·.1) := by
    unfold Apart at h2
    rw [List.map_append, List.nodup_append] at h2
    intro hm
    exact h2.2.2 _ hm d.1 (by simp) rfl
  have h4 : without (q ++ [d]) d.1 = q := by
    unfold without
    rw [List.filter_append]
    have := without_of h3
    unfold without at this
    rw [this]
    simp
  rwa [h4] at h1
theorem cons_eraseIdx_perm : ∀ (l : List D) (i : Nat) (h : i < l.length), (l[i] :: l.eraseIdx i).Perm l
  | a :: l, 0, _ => List.Perm.refl _
  | a :: l, i + 1, h => (List.Perm.swap _ _ _).trans ((cons_eraseIdx_perm l i (by simpa using h)).cons a)
theorem set_perm_old {q l : List D} {i : Nat} {d : D} (hi : i < q.length) (hk : (at_ q i).1 = d.1) (hp : q.Perm l) (ha : Apart l) : (q.set i d).Perm (set l d) := by
  refine List.Perm.trans ?_ (ins_perm _ _).symm
  have e1 : q.Perm (q.eraseIdx i ++ [at_ q i]) := by
    rw [at_get hi]
    exact (cons_eraseIdx_perm q i hi).symm.trans (List.perm_append_singleton _ _).symm
  have e2 := without_perm (e1.symm.trans hp) ha
  rw [hk] at e2
  refine List.Perm.trans ?_ (List.Perm.cons d e2)
  have e3 : (q.set i d).Perm (d :: (q.set i d).eraseIdx i) := by
    have := (cons_eraseIdx_perm (q.set i d) i (by simpa using hi)).symm
    simpa using this
  rwa [List.eraseIdx_set_eq] at e3
theorem set_perm_new {q l : List D} {d : D} (hk : d.1 ∉ q.map (·.1)) (hp : q.Perm l) : (q ++ [d]).Perm (set l d) := by
  refine List.Perm.trans ?_ (ins_perm _ _).symm
  rw [without_of (fun h => hk ((hp.map _).mem_iff.2 h))]
  exact (List.perm_append_singleton _ _).trans (List.Perm.cons d hp)
end Go.Proofs.Ytmcifmgfgdahnaa.Tm
