/-
  Rules and options in plain words: which rules may be, what is answered, what is learned; what follows (taken, helped, less).
-/
import Derived.Test.YtbldcjngccmhpaaGen
namespace Go.Proofs.Ytbldcjngccmhpaa.Ng
set_option linter.unusedVariables false
set_option linter.unusedSimpArgs false
/-- An option: its type, its data. -/
abbrev PT := Int × List UInt8
/-- A rule. -/
structure Ru where
  typ : Int
  size : Int
  kind : Int
  low : Int
  high : Int
  good : Int
  must : Bool
def lim (k : Int) : Int := 256 ^ k.toNat
def takes (r : Ru) (n : Int) : Bool := if r.kind = 1 then true else if r.kind = 2 then decide (r.low ≤ n ∧ n ≤ r.high) else if r.kind = 3 then decide (n = r.good) else if r.kind = 4 then decide (n ≠ r.low) else false
/-- A rule may be. -/
def isR (r : Ru) : Prop := 1 ≤ r.typ ∧ r.typ ≤ 255 ∧ 0 ≤ r.size ∧ r.size ≤ 4 ∧ (r.size = 0 → r.kind = 1) ∧ 0 ≤ r.low ∧ r.low < lim r.size ∧ 0 ≤ r.high ∧ r.high < lim r.size ∧ 0 ≤ r.good ∧ r.good < lim r.size ∧ (r.kind = 2 → r.low ≤ r.high) ∧ takes r r.good = true
instance (r : Ru) : Decidable (isR r) := by unfold isR; infer_instance
/-- Rules may be. -/
def areR (rs : List Ru) : Prop := rs.length ≤ 16 ∧ (∀ r ∈ rs, isR r) ∧ (rs.map Ru.typ).Nodup
instance (rs : List Ru) : Decidable (areR rs) := by unfold areR; infer_instance
/-- An option's number. -/
def num (o : PT) : Int := (takeN o.2 o.2.length : Nat)
def fits (r : Ru) (o : PT) : Bool := decide (r.typ = o.1 ∧ r.size = (o.2.length : Int))
def ruleOf (rs : List Ru) (o : PT) : Option Ru := rs.find? fun r => fits r o
def hasT (l : List PT) (t : Int) : Bool := l.any fun o => decide (o.1 = t)
def goodO (r : Ru) : PT := (r.typ, putL r.good.toNat r.size.toNat)
/-- Of the options behind 'seen': those that are refused; those that are not taken, with what would be. -/
def rejs (rs : List Ru) : List PT → List PT → List PT
  | _, [] => []
  | seen, o :: l => (if (ruleOf rs o).isNone || hasT seen o.1 then [o] else []) ++ rejs rs (seen ++ [o]) l
def bads (rs : List Ru) : List PT → List PT → List (PT × PT)
  | _, [] => []
  | seen, o :: l => (match ruleOf rs o with
    | none => []
    | some r => if hasT seen o.1 then [] else if takes r (num o) then [] else [(o, goodO r)]) ++ bads rs (seen ++ [o]) l
def lacks (rs : List Ru) (l : List PT) : List PT := (rs.filter fun r => r.must && !hasT l r.typ).map goodO
/-- What is answered. -/
def ans (rs : List Ru) (l : List PT) (naks most : Int) : Int × List PT :=
  if ¬ areR rs then (0, [])
  else if rejs rs [] l ≠ [] then (4, rejs rs [] l)
  else if (bads rs [] l).map (·.2) ++ lacks rs l = [] then (2, l)
  else if most ≤ naks ∧ bads rs [] l ≠ [] then (4, (bads rs [] l).map (·.1))
  else (3, (bads rs [] l).map (·.2) ++ lacks rs l)
/-- What is learned. -/
def takeOver (l : List PT) (o : PT) : PT := match l.find? fun x => decide (x.1 = o.1) with
  | none => o
  | some x => (o.1, x.2)
/-- ask without l; none, if l does not stand in it, in that order. -/
def strike : List PT → List PT → List PT × List PT
  | [], l => ([], l)
  | o :: ask, [] => ((o :: (strike ask []).1), (strike ask []).2)
  | o :: ask, x :: l => if x = o then strike ask l else (o :: (strike ask (x :: l)).1, (strike ask (x :: l)).2)
def lrn (ask : List PT) (code : Int) (l : List PT) : List PT × Bool :=
  if l = [] then (ask, false)
  else if code = 3 then (ask.map (takeOver l), true)
  else if code = 4 then (if (strike ask l).2 = [] then ((strike ask l).1, true) else (ask, false))
  else (ask, false)
theorem strike_len : ∀ (ask l : List PT), (strike ask l).1.length + l.length = ask.length + (strike ask l).2.length
  | [], l => by simp [strike]
  | o :: ask, [] => by
    have h := strike_len ask []
    simp only [strike, List.length_cons, List.length_nil] at h ⊢
    omega
  | o :: ask, x :: l => by
    unfold strike
    split
    · have h := strike_len ask l
      simp only [List.length_cons]
      omega
    · have h := strike_len ask (x :: l)
      simp only [List.length_cons] at h ⊢
      omega
/-- Behind a ConfRej that is true fewer options are asked for. -/
theorem less_rej {ask l x : List PT} (h : lrn ask 4 l = (x, true)) : l ≠ [] ∧ x.length + l.length = ask.length := by
  unfold lrn at h
  by_cases c : l = []
  · rw [if_pos c] at h; cases h
  · rw [if_neg c, if_neg (by decide), if_pos rfl] at h
    by_cases d : (strike ask l).2 = []
    · rw [if_pos d] at h
      have h1 := strike_len ask l
      rw [d] at h1
      cases h
      exact ⟨c, by simpa using h1⟩
    · rw [if_neg d] at h; cases h
theorem takeOver_typ (l : List PT) (o : PT) : (takeOver l o).1 = o.1 := by unfold takeOver; split <;> rfl
theorem less_nak (ask l : List PT) : (lrn ask 3 l).2 = decide (l ≠ []) ∧ (lrn ask 3 l).1.length = ask.length ∧ (lrn ask 3 l).1.map (·.1) = ask.map (·.1) := by
  unfold lrn
  by_cases c : l = []
  · rw [if_pos c]; simp [c]
  · rw [if_neg c, if_pos rfl]
    refine ⟨by simp [c], by simp, ?_⟩
    simp [takeOver_typ]
/-! What is taken. -/
theorem hasT_iff {l : List PT} {t : Int} : hasT l t = true ↔ ∃ o ∈ l, o.1 = t := by simp [hasT]
theorem ans_ack {rs : List Ru} {l x : List PT} {naks most : Int} (h : ans rs l naks most = (2, x)) : x = l ∧ areR rs ∧ rejs rs [] l = [] ∧ bads rs [] l = [] ∧ lacks rs l = [] := by
  unfold ans at h
  by_cases c1 : ¬ areR rs
  · rw [if_pos c1] at h; cases h
  · rw [if_neg c1] at h
    by_cases c2 : rejs rs [] l ≠ []
    · rw [if_pos c2] at h; cases h
    · rw [if_neg c2] at h
      by_cases c3 : (bads rs [] l).map (·.2) ++ lacks rs l = []
      · rw [if_pos c3] at h
        cases h
        have c4 := List.append_eq_nil_iff.1 c3
        exact ⟨rfl, Decidable.not_not.1 c1, Decidable.not_not.1 c2, List.map_eq_nil_iff.1 c4.1, c4.2⟩
      · rw [if_neg c3] at h
        by_cases c4 : most ≤ naks ∧ bads rs [] l ≠ []
        · rw [if_pos c4] at h; cases h
        · rw [if_neg c4] at h; cases h
theorem rejs_nil {rs : List Ru} : ∀ {l seen : List PT}, rejs rs seen l = [] → (∀ o ∈ l, (ruleOf rs o).isSome = true ∧ hasT seen o.1 = false) ∧ (l.map (·.1)).Nodup
  | [], seen, _ => ⟨(fun o ho => by cases ho), List.nodup_nil⟩
  | o :: l, seen, h => by
    unfold rejs at h
    obtain ⟨h1, h2⟩ := List.append_eq_nil_iff.1 h
    have ih := rejs_nil h2
    have h3 : (ruleOf rs o).isSome = true ∧ hasT seen o.1 = false := by
      by_cases c : ((ruleOf rs o).isNone || hasT seen o.1) = true
      · rw [if_pos c] at h1; cases h1
      · simp only [Bool.or_eq_true, not_or, Bool.not_eq_true] at c
        refine ⟨?_, c.2⟩
        have := c.1
        cases hr : ruleOf rs o with
        | none => rw [hr] at this; cases this
        | some r => rfl
    refine ⟨fun p hp => ?_, ?_⟩
    · rcases List.mem_cons.1 hp with rfl | hp
      · exact h3
      · have := ih.1 p hp
        refine ⟨this.1, ?_⟩
        have h4 := this.2
        simp only [hasT, List.any_append, Bool.or_eq_false_iff] at h4
        exact h4.1
    · rw [List.map_cons, List.nodup_cons]
      refine ⟨fun hm => ?_, ih.2⟩
      obtain ⟨p, hp, e⟩ := List.mem_map.1 hm
      have h4 := (ih.1 p hp).2
      simp [hasT, e] at h4
theorem bads_nil {rs : List Ru} : ∀ {l seen : List PT}, rejs rs seen l = [] → bads rs seen l = [] → ∀ o ∈ l, ∃ r, ruleOf rs o = some r ∧ takes r (num o) = true
  | [], _, _, _, o, ho => by cases ho
  | o :: l, seen, hr, hb, p, hp => by
    have h0 := (rejs_nil hr).1 o (by simp)
    unfold rejs at hr
    unfold bads at hb
    obtain ⟨_, hr2⟩ := List.append_eq_nil_iff.1 hr
    obtain ⟨hb1, hb2⟩ := List.append_eq_nil_iff.1 hb
    rcases List.mem_cons.1 hp with rfl | hp
    · cases hq : ruleOf rs p with
      | none => rw [hq] at h0; cases h0.1
      | some r =>
        rw [hq] at hb1
        simp only [h0.2] at hb1
        refine ⟨r, rfl, ?_⟩
        by_cases c : takes r (num p) = true
        · exact c
        · simp [c] at hb1
    · exact bads_nil hr2 hb2 p hp
theorem ruleOf_some {rs : List Ru} {o : PT} {r : Ru} (h : ruleOf rs o = some r) : r ∈ rs ∧ r.typ = o.1 ∧ r.size = (o.2.length : Int) := by
  have h1 := List.find?_some h
  unfold fits at h1
  exact ⟨List.mem_of_find?_eq_some h, of_decide_eq_true h1⟩
theorem lacks_nil {rs : List Ru} {l : List PT} (h : lacks rs l = []) : ∀ r ∈ rs, r.must = true → hasT l r.typ = true := by
  intro r hr hm
  unfold lacks at h
  have h1 := List.filter_eq_nil_iff.1 (List.map_eq_nil_iff.1 h) r hr
  simpa [hm] using h1
/-- What is answered by ConfAck is taken, each number of it; nothing lacks. -/
theorem taken {rs : List Ru} {l x : List PT} {naks most : Int} (h : ans rs l naks most = (2, x)) :
    x = l ∧ (∀ o ∈ l, ∃ r ∈ rs, r.typ = o.1 ∧ r.size = (o.2.length : Int) ∧ takes r (num o) = true) ∧ ∀ r ∈ rs, r.must = true → hasT l r.typ = true := by
  obtain ⟨h1, _, h2, h3, h4⟩ := ans_ack h
  refine ⟨h1, fun o ho => ?_, lacks_nil h4⟩
  obtain ⟨r, hr, ht⟩ := bads_nil h2 h3 o ho
  have := ruleOf_some hr
  exact ⟨r, this.1, this.2.1, this.2.2, ht⟩
/-! Who is helped. -/
/-- The options of a row of different types that fit no rule. -/
theorem rejs_filter {rs : List Ru} : ∀ {l seen : List PT}, (l.map (·.1)).Nodup → (∀ o ∈ l, hasT seen o.1 = false) → rejs rs seen l = l.filter fun o => (ruleOf rs o).isNone
  | [], _, _, _ => rfl
  | o :: l, seen, hn, hs => by
    rw [List.map_cons, List.nodup_cons] at hn
    have ih := rejs_filter (rs := rs) (l := l) (seen := seen ++ [o]) hn.2 (fun p hp => by
      have h1 := hs p (by simp [hp])
      have h2 : o.1 ≠ p.1 := fun e => hn.1 (List.mem_map.2 ⟨p, hp, e.symm⟩)
      simp only [hasT, List.any_append, Bool.or_eq_false_iff] at h1 ⊢
      exact ⟨h1, by simp [h2]⟩)
    unfold rejs
    rw [ih, hs o (by simp), Bool.or_false, List.filter_cons]
    split <;> rfl
theorem strike_filter (q : PT → Bool) : ∀ l : List PT, strike l (l.filter q) = (l.filter fun o => !q o, [])
  | [] => rfl
  | o :: l => by
    have ih := strike_filter q l
    by_cases c : q o = true
    · rw [List.filter_cons_of_pos c, List.filter_cons_of_neg (by simp [c])]
      show strike (o :: l) (o :: l.filter q) = _
      unfold strike
      rw [if_pos rfl]
      exact ih
    · rw [List.filter_cons_of_neg c, List.filter_cons_of_pos (by simpa using c)]
      cases hf : l.filter q with
      | nil =>
        unfold strike
        rw [hf] at ih
        rw [ih]
      | cons x m =>
        have hx : x ≠ o := by
          intro e
          have := (List.mem_filter.1 (show x ∈ l.filter q by rw [hf]; simp)).2
          rw [e] at this
          exact c this
        unfold strike
        rw [if_neg hx, ← hf, ih]
theorem takeN_putL (n size : Nat) (h : n < 256 ^ size) : takeN (putL n size) size = n := by
  have key : ∀ k, k ≤ size → takeN (putL n size) k = n / 256 ^ (size - k) := by
    intro k
    induction k with
    | zero => intro _; rw [takeN_zero, Nat.sub_zero, Nat.div_eq_of_lt h]
    | succ k ih =>
      intro hk
      rw [takeN_succ _ k (by rw [putL_length]; omega), ih (by omega)]
      have e : (putL n size)[k]'(by rw [putL_length]; omega) = UInt8.ofNat (n / 256 ^ (size - 1 - k)) := by simp [putL]
      rw [e, UInt8.toNat_ofNat', show size - k = (size - (k + 1)) + 1 by omega, show size - 1 - k = size - (k + 1) by omega, ← pow_step]
      omega
  have := key size (Nat.le_refl _)
  simpa using this
theorem good_num {r : Ru} (h : isR r) : num (goodO r) = r.good := by
  obtain ⟨_, _, h0, _, _, _, _, _, _, g0, g1, _, _⟩ := h
  unfold num goodO
  rw [putL_length, takeN_putL]
  · omega
  · unfold lim at g1
    have : ((256 : Int) ^ r.size.toNat) = ((256 ^ r.size.toNat : Nat) : Int) := by simp
    omega
theorem good_fits {r : Ru} (h : isR r) : fits r (goodO r) = true := by
  have h0 := h.2.2.1
  unfold fits goodO
  rw [putL_length]
  simp
  omega
/-- Of rules of different types the one of an option's type. -/
theorem rule_only : ∀ {rs : List Ru} {r r' : Ru}, (rs.map Ru.typ).Nodup → r ∈ rs → r' ∈ rs → r.typ = r'.typ → r = r'
  | [], _, _, _, h, _, _ => by cases h
  | q :: rs, r, r', hn, h, h', e => by
    rw [List.map_cons, List.nodup_cons] at hn
    rcases List.mem_cons.1 h with rfl | hm
    · rcases List.mem_cons.1 h' with rfl | hm'
      · rfl
      · exact (hn.1 (List.mem_map.2 ⟨r', hm', e.symm⟩)).elim
    · rcases List.mem_cons.1 h' with rfl | hm'
      · exact (hn.1 (List.mem_map.2 ⟨r, hm, e⟩)).elim
      · exact rule_only hn.2 hm hm' e
theorem good_rule {rs : List Ru} {r : Ru} (ha : areR rs) (h : r ∈ rs) : ruleOf rs (goodO r) = some r ∧ takes r (num (goodO r)) = true := by
  have hr := ha.2.1 r h
  constructor
  · cases hf : ruleOf rs (goodO r) with
    | none =>
      have := List.find?_eq_none.1 hf r h
      exact absurd (good_fits hr) this
    | some q =>
      have hq := ruleOf_some hf
      exact congrArg some (rule_only ha.2.2 hq.1 h hq.2.1)
  · rw [good_num hr]; exact hr.2.2.2.2.2.2.2.2.2.2.2.2
/-- What stands for each rule that an option breaks. -/
theorem bads_mem {rs : List Ru} : ∀ {l seen : List PT} {x : PT × PT}, x ∈ bads rs seen l → x.1 ∈ l ∧ ∃ r, ruleOf rs x.1 = some r ∧ takes r (num x.1) = false ∧ x.2 = goodO r
  | o :: l, seen, x, hx => by
    unfold bads at hx
    rcases List.mem_append.1 hx with hx | hx
    · cases hr : ruleOf rs o with
      | none => rw [hr] at hx; cases hx
      | some r =>
        rw [hr] at hx
        by_cases c1 : hasT seen o.1 = true
        · simp [c1] at hx
        · by_cases c2 : takes r (num o) = true
          · simp [c1, c2] at hx
          · simp [c1, c2] at hx
            subst hx
            exact ⟨by simp, r, hr, by simpa using c2, rfl⟩
    · have := bads_mem hx
      exact ⟨by simp [this.1], this.2⟩
theorem bads_has {rs : List Ru} : ∀ {l seen : List PT}, (l.map (·.1)).Nodup → (∀ o ∈ l, hasT seen o.1 = false) → ∀ o ∈ l, ∀ r, ruleOf rs o = some r → takes r (num o) = false → (o, goodO r) ∈ bads rs seen l
  | p :: l, seen, hn, hs, o, ho, r, hr, ht => by
    rw [List.map_cons, List.nodup_cons] at hn
    unfold bads
    rcases List.mem_cons.1 ho with rfl | ho
    · refine List.mem_append.2 (.inl ?_)
      rw [hr, hs o (by simp)]
      simp [ht]
    · refine List.mem_append.2 (.inr (bads_has hn.2 (fun q hq => ?_) o ho r hr ht))
      have h1 := hs q (by simp [hq])
      have h2 : p.1 ≠ q.1 := fun e => hn.1 (List.mem_map.2 ⟨q, hq, e.symm⟩)
      simp only [hasT, List.any_append, Bool.or_eq_false_iff] at h1 ⊢
      exact ⟨h1, by simp [h2]⟩
/-- The next question behind what a ConfNak tells. -/
def nextN (l x : List PT) : List PT := l.map (takeOver x) ++ x.filter fun o => !hasT l o.1
def nakX (rs : List Ru) (l : List PT) : List PT := (bads rs [] l).map (·.2) ++ lacks rs l
theorem lacks_mem {rs : List Ru} {l : List PT} {x : PT} (h : x ∈ lacks rs l) : ∃ r ∈ rs, x = goodO r ∧ r.must = true ∧ hasT l r.typ = false := by
  unfold lacks at h
  obtain ⟨r, hr, rfl⟩ := List.mem_map.1 h
  have h1 := List.mem_filter.1 hr
  simp only [Bool.and_eq_true, Bool.not_eq_true'] at h1
  exact ⟨r, h1.1, rfl, h1.2.1, h1.2.2⟩
theorem hasT_of_mem {l : List PT} {o : PT} (h : o ∈ l) : hasT l o.1 = true := hasT_iff.2 ⟨o, h, rfl⟩
theorem only_opt : ∀ {l : List PT} {a b : PT}, (l.map (·.1)).Nodup → a ∈ l → b ∈ l → a.1 = b.1 → a = b
  | [], _, _, _, h, _, _ => by cases h
  | q :: l, a, b, hn, h, h', e => by
    rw [List.map_cons, List.nodup_cons] at hn
    rcases List.mem_cons.1 h with rfl | hm
    · rcases List.mem_cons.1 h' with rfl | hm'
      · rfl
      · exact (hn.1 (List.mem_map.2 ⟨b, hm', e.symm⟩)).elim
    · rcases List.mem_cons.1 h' with rfl | hm'
      · exact (hn.1 (List.mem_map.2 ⟨a, hm, e⟩)).elim
      · exact only_opt hn.2 hm hm' e
theorem good_typ (r : Ru) : (goodO r).1 = r.typ := rfl
/-- Each option of the next question is taken. -/
theorem next_ok {rs : List Ru} {l : List PT} (ha : areR rs) (hn : (l.map (·.1)).Nodup) (hr : rejs rs [] l = []) : ∀ o ∈ nextN l (nakX rs l), ∃ r, ruleOf rs o = some r ∧ takes r (num o) = true := by
  intro o ho
  rcases List.mem_append.1 ho with ho | ho
  · obtain ⟨p, hp, rfl⟩ := List.mem_map.1 ho
    unfold takeOver
    split
    · rename_i hf
      obtain ⟨r, hr1⟩ := Option.isSome_iff_exists.1 ((rejs_nil hr).1 p hp).1
      refine ⟨r, hr1, ?_⟩
      by_cases c : takes r (num p) = true
      · exact c
      · have hb := bads_has (seen := []) hn (fun _ _ => rfl) p hp r hr1 (by simpa using c)
        have h1 : goodO r ∈ nakX rs l := List.mem_append.2 (.inl (List.mem_map.2 ⟨_, hb, rfl⟩))
        have h2 := List.find?_eq_none.1 hf _ h1
        exact absurd (decide_eq_true (ruleOf_some hr1).2.1) h2
    · rename_i x hf
      have hx := List.mem_of_find?_eq_some hf
      have ht : x.1 = p.1 := by have := List.find?_some hf; simpa using this
      rcases List.mem_append.1 hx with hx | hx
      · obtain ⟨y, hy, rfl⟩ := List.mem_map.1 hx
        obtain ⟨hy1, r, hy2, _, hy4⟩ := bads_mem hy
        have hm := (ruleOf_some hy2).1
        have hg := good_rule ha hm
        refine ⟨r, ?_, ?_⟩
        · have : (p.1, y.2.2) = goodO r := by rw [← hy4]; exact Prod.ext ht.symm rfl
          rw [this]; exact hg.1
        · have : (p.1, y.2.2) = goodO r := by rw [← hy4]; exact Prod.ext ht.symm rfl
          rw [this]; exact hg.2
      · obtain ⟨r, hm, rfl, _, hno⟩ := lacks_mem hx
        rw [good_typ] at ht
        rw [ht, hasT_of_mem hp] at hno
        cases hno
  · have h1 := List.mem_filter.1 ho
    rcases List.mem_append.1 h1.1 with hx | hx
    · obtain ⟨y, hy, rfl⟩ := List.mem_map.1 hx
      obtain ⟨hy1, r, hy2, _, hy4⟩ := bads_mem hy
      rw [hy4]
      exact ⟨r, good_rule ha (ruleOf_some hy2).1⟩
    · obtain ⟨r, hm, rfl, _, _⟩ := lacks_mem hx
      exact ⟨r, good_rule ha hm⟩
theorem bads_typ_nodup {rs : List Ru} : ∀ {l seen : List PT}, (l.map (·.1)).Nodup → ((bads rs seen l).map fun x => x.1.1).Nodup
  | [], _, _ => List.nodup_nil
  | o :: l, seen, hn => by
    rw [List.map_cons, List.nodup_cons] at hn
    have ih := bads_typ_nodup (rs := rs) (l := l) (seen := seen ++ [o]) hn.2
    have hno : ∀ x ∈ bads rs (seen ++ [o]) l, x.1.1 ≠ o.1 := fun x hx e => hn.1 (List.mem_map.2 ⟨x.1, (bads_mem hx).1, e⟩)
    unfold bads
    cases ruleOf rs o with
    | none => exact ih
    | some r =>
      by_cases c1 : hasT seen o.1 = true
      · simp only [c1, if_true, List.nil_append]; exact ih
      · by_cases c2 : takes r (num o) = true
        · simp only [c1, c2, if_true, List.nil_append]; simpa using ih
        · simp only [c1, c2]
          show (o.1 :: _).Nodup
          refine List.nodup_cons.2 ⟨fun hm => ?_, ih⟩
          obtain ⟨x, hx, e⟩ := List.mem_map.1 hm
          exact hno x hx e
/-- The next question asks of each type once, and nothing lacks. -/
theorem next_types {rs : List Ru} {l : List PT} (ha : areR rs) (hn : (l.map (·.1)).Nodup) : ((nextN l (nakX rs l)).map (·.1)).Nodup ∧ lacks rs (nextN l (nakX rs l)) = [] := by
  have e1 : (l.map (takeOver (nakX rs l))).map (·.1) = l.map (·.1) := by simp [takeOver_typ]
  have e2 : ∀ g ∈ (bads rs [] l).map (·.2), hasT l g.1 = true := by
    intro g hg
    obtain ⟨y, hy, rfl⟩ := List.mem_map.1 hg
    obtain ⟨hy1, r, hy2, _, hy4⟩ := bads_mem hy
    rw [hy4, good_typ, (ruleOf_some hy2).2.1]
    exact hasT_of_mem hy1
  have e3 : ∀ g ∈ lacks rs l, hasT l g.1 = false := by
    intro g hg
    obtain ⟨r, hm, rfl, _, h⟩ := lacks_mem hg
    exact h
  have e4 : (nakX rs l).filter (fun o => !hasT l o.1) = lacks rs l := by
    unfold nakX
    rw [List.filter_append, List.filter_eq_nil_iff.2 (fun g hg => by simp [e2 g hg]), List.nil_append, List.filter_eq_self.2 (fun g hg => by simp [e3 g hg])]
  have e5 : ((lacks rs l).map (·.1)).Nodup := by
    have h1 : (lacks rs l).map (·.1) = (rs.filter fun r => r.must && !hasT l r.typ).map Ru.typ := by unfold lacks; simp [good_typ]
    rw [h1]
    exact List.Nodup.sublist (List.Sublist.map _ List.filter_sublist) ha.2.2
  have e6 : (nextN l (nakX rs l)).map (·.1) = l.map (·.1) ++ (lacks rs l).map (·.1) := by unfold nextN; rw [List.map_append, e1, e4]
  refine ⟨?_, ?_⟩
  · rw [e6]
    refine List.nodup_append.2 ⟨hn, e5, fun a h1 b h2 e => ?_⟩
    obtain ⟨o, ho, rfl⟩ := List.mem_map.1 h1
    obtain ⟨g, hg, rfl⟩ := List.mem_map.1 h2
    have := e3 g hg
    rw [← e, hasT_of_mem ho] at this
    cases this
  · unfold lacks
    refine List.map_eq_nil_iff.2 (List.filter_eq_nil_iff.2 fun r hr => ?_)
    simp only [Bool.and_eq_true, Bool.not_eq_true', not_and, Bool.not_eq_false]
    intro hm
    have key : ∀ t, hasT (nextN l (nakX rs l)) t = true ↔ t ∈ (nextN l (nakX rs l)).map (·.1) := fun t => by rw [hasT_iff]; simp [List.mem_map]
    rw [key, e6, List.mem_append]
    by_cases c : hasT l r.typ = true
    · obtain ⟨o, ho, e⟩ := hasT_iff.1 c
      exact .inl (List.mem_map.2 ⟨o, ho, e⟩)
    · exact .inr (List.mem_map.2 ⟨goodO r, by unfold lacks; exact List.mem_map.2 ⟨r, List.mem_filter.2 ⟨hr, by simp [hm, c]⟩, rfl⟩, rfl⟩)
theorem rejs_none {rs : List Ru} {l : List PT} (hn : (l.map (·.1)).Nodup) (h : ∀ o ∈ l, ∃ r, ruleOf rs o = some r) : rejs rs [] l = [] := by
  rw [rejs_filter (seen := []) hn (fun _ _ => rfl)]
  refine List.filter_eq_nil_iff.2 fun o ho => ?_
  obtain ⟨r, hr⟩ := h o ho
  simp [hr]
theorem bads_none {rs : List Ru} {l : List PT} (h : ∀ o ∈ l, ∃ r, ruleOf rs o = some r ∧ takes r (num o) = true) : bads rs [] l = [] := by
  cases hb : bads rs [] l with
  | nil => rfl
  | cons x m =>
    obtain ⟨h1, r, h2, h3, _⟩ := bads_mem (show x ∈ bads rs [] l by rw [hb]; simp)
    obtain ⟨q, hq, ht⟩ := h x.1 h1
    rw [h2] at hq
    obtain rfl := Option.some.inj hq
    rw [h3] at ht
    cases ht
theorem ans_ok {rs : List Ru} {l : List PT} (n m : Int) (ha : areR rs) (h1 : rejs rs [] l = []) (h2 : bads rs [] l = []) (h3 : lacks rs l = []) : ans rs l n m = (2, l) := by
  unfold ans
  rw [if_neg (by simpa using ha), if_neg (by simp [h1]), if_pos (by rw [h2, h3]; rfl)]
/-- The three steps of who takes over what is told. -/
theorem helped_rej {rs : List Ru} {l : List PT} (n : Int) (ha : areR rs) (hn : (l.map (·.1)).Nodup) (h : rejs rs [] l ≠ []) :
    ans rs l n (n + 3) = (4, rejs rs [] l) ∧ lrn l 4 (rejs rs [] l) = (l.filter (fun o => (ruleOf rs o).isSome), true) ∧ ((l.filter (fun o => (ruleOf rs o).isSome)).map (·.1)).Nodup ∧ rejs rs [] (l.filter (fun o => (ruleOf rs o).isSome)) = [] := by
  have hf := rejs_filter (rs := rs) (seen := []) hn (fun _ _ => rfl)
  have hs := strike_filter (fun o => (ruleOf rs o).isNone) l
  have e0 : (fun o => !(ruleOf rs o).isNone) = fun o => (ruleOf rs o).isSome := by funext o; cases ruleOf rs o <;> rfl
  simp only [e0] at hs
  refine ⟨?_, ?_, ?_, ?_⟩
  · unfold ans
    rw [if_neg (by simpa using ha), if_pos h]
  · unfold lrn
    rw [if_neg h, if_neg (by decide), if_pos rfl, hf, hs]
    simp
  · exact List.Nodup.sublist (List.Sublist.map _ List.filter_sublist) hn
  · refine rejs_none (List.Nodup.sublist (List.Sublist.map _ List.filter_sublist) hn) fun o ho => ?_
    exact Option.isSome_iff_exists.1 (List.mem_filter.1 ho).2
theorem helped_nak {rs : List Ru} {l : List PT} (n : Int) (ha : areR rs) (hn : (l.map (·.1)).Nodup) (h : rejs rs [] l = []) (hx : nakX rs l ≠ []) :
    ans rs l n (n + 3) = (3, nakX rs l) ∧ lrn l 3 (nakX rs l) = (l.map (takeOver (nakX rs l)), true) ∧ ∀ m, ans rs (nextN l (nakX rs l)) m (m + 3) = (2, nextN l (nakX rs l)) := by
  have ht := next_types ha hn
  have ho := next_ok ha hn h
  refine ⟨?_, ?_, fun m => ans_ok _ _ ha (rejs_none ht.1 fun o h => ?_) (bads_none ho) ht.2⟩
  · unfold ans
    rw [if_neg (by simpa using ha), if_neg (by simp [h]), if_neg (show ¬ (bads rs [] l).map (·.2) ++ lacks rs l = [] from hx), if_neg (by omega)]
    rfl
  · unfold lrn
    rw [if_neg hx, if_pos rfl]
  · obtain ⟨r, hr, _⟩ := ho o h
    exact ⟨r, hr⟩
theorem helped_ack {rs : List Ru} {l : List PT} (n : Int) (ha : areR rs) (h : rejs rs [] l = []) (hx : nakX rs l = []) : ans rs l n (n + 3) = (2, l) := by
  have h1 := List.append_eq_nil_iff.1 hx
  exact ans_ok _ _ ha h (List.map_eq_nil_iff.1 h1.1) h1.2
end Go.Proofs.Ytbldcjngccmhpaa.Ng
