/-
  Rules and options in plain words: which rules may be, what is answered, what is learned; what follows (taken, helped, less).
  Rules in memory: each rule is seven cells.
  Which numbers a rule takes, which rules may be: nego.isIn, kindOf, its methods, rule.mayBe.
  Which rules may be: nego's rule.mayBe.
  The rule of a type (nego's rules.of), which rules may be (rules.mayBe), Check.
  Whether a rule takes an option that fits it (nego's rule.takes), the option that a rule takes before all others (rule.good).
  Options walked by a closure (nego.walk), over a variable function.
  nego's copies, refused, mended.
  nego's misfits: its closure keeps which rules' types came.
  nego's lacking (slices.ContainsFunc over its closure).
  nego.Answer.
  A map of ints to ints in memory, as a function; slices.Backward over a row of options.
  nego's taught: which places come first is gathered in a map, behind a range over slices.Backward.
  nego's without: what is asked for without the options of an answer, taken away one behind the other.
  nego's without, Learn.
  The document's limit, below, Takes, Is.
  The document's Are, rule, has, number, good.
  The document's Same, Copy; the laws' Rules, Opts.
  The document's Answer.
  The laws' follow: a question that takes over what was answered.
  Who takes over what is told, question behind question, in plain words.
  The document's Answer, whatever comes.
  The document's Learn.
  The laws' Opts; the document's Copy.
-/
import Derived.Test.YtclplbapedmihaaZBase
import Derived.Test.YtclplbapedmihaaZOp
import Derived.IntWalk
import Derived.Deep.DeepCutAuto
import Derived.Maps.OwnSet
import Derived.RangeFuncNested
import Derived.Shelf.Abstract
import Derived.WalkKit
import Derived.OwnWalkIn
import Derived.TacticsInMore
import Derived.LoopNIn
import Derived.LoopIn
namespace Go.Proofs.Ytclplbapedmihaa.Ng
set_option maxRecDepth 4000
set_option linter.unusedVariables false
set_option linter.unusedSimpArgs false
/-- An option: its type, its data. -/
abbrev PT := Int × List UInt8
/-- A rule. -/
structure Ru where
  typ : Int
  size : Int
  kind : Int
  low : Int
  high : Int
  good : Int
  must : Bool
def lim (k : Int) : Int := 256 ^ k.toNat
def takes (r : Ru) (n : Int) : Bool := if r.kind = 1 then true else if r.kind = 2 then decide (r.low ≤ n ∧ n ≤ r.high) else if r.kind = 3 then decide (n = r.good) else if r.kind = 4 then decide (n ≠ r.low) else false
/-- A rule may be. -/
def isR (r : Ru) : Prop := 1 ≤ r.typ ∧ r.typ ≤ 255 ∧ 0 ≤ r.size ∧ r.size ≤ 4 ∧ (r.size = 0 → r.kind = 1) ∧ 0 ≤ r.low ∧ r.low < lim r.size ∧ 0 ≤ r.high ∧ r.high < lim r.size ∧ 0 ≤ r.good ∧ r.good < lim r.size ∧ (r.kind = 2 → r.low ≤ r.high) ∧ takes r r.good = true
instance (r : Ru) : Decidable (isR r) := by unfold isR; infer_instance
/-- Rules may be. -/
def areR (rs : List Ru) : Prop := rs.length ≤ 16 ∧ (∀ r ∈ rs, isR r) ∧ (rs.map Ru.typ).Nodup
instance (rs : List Ru) : Decidable (areR rs) := by unfold areR; infer_instance
/-- An option's number. -/
def num (o : PT) : Int := (takeN o.2 o.2.length : Nat)
def fits (r : Ru) (o : PT) : Bool := decide (r.typ = o.1 ∧ r.size = (o.2.length : Int))
def ruleOf (rs : List Ru) (o : PT) : Option Ru := rs.find? fun r => fits r o
def hasT (l : List PT) (t : Int) : Bool := l.any fun o => decide (o.1 = t)
def goodO (r : Ru) : PT := (r.typ, putL r.good.toNat r.size.toNat)
/-- Of the options behind 'seen': those that are refused; those that are not taken, with what would be. -/
def rejs (rs : List Ru) : List PT → List PT → List PT
  | _, [] => []
  | seen, o :: l => (if (ruleOf rs o).isNone || hasT seen o.1 then [o] else []) ++ rejs rs (seen ++ [o]) l
def bads (rs : List Ru) : List PT → List PT → List (PT × PT)
  | _, [] => []
  | seen, o :: l => (match ruleOf rs o with
    | none => []
    | some r => if hasT seen o.1 then [] else if takes r (num o) then [] else [(o, goodO r)]) ++ bads rs (seen ++ [o]) l
def lacks (rs : List Ru) (l : List PT) : List PT := (rs.filter fun r => r.must && !hasT l r.typ).map goodO
/-- What is answered. -/
def ans (rs : List Ru) (l : List PT) (naks most : Int) : Int × List PT :=
  if ¬ areR rs then (0, [])
  else if rejs rs [] l ≠ [] then (4, rejs rs [] l)
  else if (bads rs [] l).map (·.2) ++ lacks rs l = [] then (2, l)
  else if most ≤ naks ∧ bads rs [] l ≠ [] then (4, (bads rs [] l).map (·.1))
  else (3, (bads rs [] l).map (·.2) ++ lacks rs l)
/-- What is learned. -/
def takeOver (l : List PT) (o : PT) : PT := match l.find? fun x => decide (x.1 = o.1) with
  | none => o
  | some x => (o.1, x.2)
/-- ask without l; none, if l does not stand in it, in that order. -/
def strike : List PT → List PT → List PT × List PT
  | [], l => ([], l)
  | o :: ask, [] => ((o :: (strike ask []).1), (strike ask []).2)
  | o :: ask, x :: l => if x = o then strike ask l else (o :: (strike ask (x :: l)).1, (strike ask (x :: l)).2)
def lrn (ask : List PT) (code : Int) (l : List PT) : List PT × Bool :=
  if l = [] then (ask, false)
  else if code = 3 then (ask.map (takeOver l), true)
  else if code = 4 then (if (strike ask l).2 = [] then ((strike ask l).1, true) else (ask, false))
  else (ask, false)
theorem ans_ack {rs : List Ru} {l x : List PT} {naks most : Int} (h : ans rs l naks most = (2, x)) : x = l ∧ areR rs ∧ rejs rs [] l = [] ∧ bads rs [] l = [] ∧ lacks rs l = [] := by
  unfold ans at h
  by_cases c1 : ¬ areR rs
  · rw [if_pos c1] at h; cases h
  · rw [if_neg c1] at h
    by_cases c2 : rejs rs [] l ≠ []
    · rw [if_pos c2] at h; cases h
    · rw [if_neg c2] at h
      by_cases c3 : (bads rs [] l).map (·.2) ++ lacks rs l = []
      · rw [if_pos c3] at h
        cases h
        have c4 := List.append_eq_nil_iff.1 c3
        exact ⟨rfl, Decidable.not_not.1 c1, Decidable.not_not.1 c2, List.map_eq_nil_iff.1 c4.1, c4.2⟩
      · rw [if_neg c3] at h
        by_cases c4 : most ≤ naks ∧ bads rs [] l ≠ []
        · rw [if_pos c4] at h; cases h
        · rw [if_neg c4] at h; cases h
theorem rejs_nil {rs : List Ru} : ∀ {l seen : List PT}, rejs rs seen l = [] → (∀ o ∈ l, (ruleOf rs o).isSome = true ∧ hasT seen o.1 = false) ∧ (l.map (·.1)).Nodup
  | [], seen, _ => ⟨(fun o ho => by cases ho), List.nodup_nil⟩
  | o :: l, seen, h => by
    unfold rejs at h
    obtain ⟨h1, h2⟩ := List.append_eq_nil_iff.1 h
    have ih := rejs_nil h2
    have h3 : (ruleOf rs o).isSome = true ∧ hasT seen o.1 = false := by
      by_cases c : ((ruleOf rs o).isNone || hasT seen o.1) = true
      · rw [if_pos c] at h1; cases h1
      · simp only [Bool.or_eq_true, not_or, Bool.not_eq_true] at c
        refine ⟨?_, c.2⟩
        have := c.1
        cases hr : ruleOf rs o with
        | none => rw [hr] at this; cases this
        | some r => rfl
    refine ⟨fun p hp => ?_, ?_⟩
    · rcases List.mem_cons.1 hp with rfl | hp
      · exact h3
      · have := ih.1 p hp
        refine ⟨this.1, ?_⟩
        have h4 := this.2
        simp only [hasT, List.any_append, Bool.or_eq_false_iff] at h4
        exact h4.1
    · rw [List.map_cons, List.nodup_cons]
      refine ⟨fun hm => ?_, ih.2⟩
      obtain ⟨p, hp, e⟩ := List.mem_map.1 hm
      have h4 := (ih.1 p hp).2
      simp [hasT, e] at h4
theorem bads_nil {rs : List Ru} : ∀ {l seen : List PT}, rejs rs seen l = [] → bads rs seen l = [] → ∀ o ∈ l, ∃ r, ruleOf rs o = some r ∧ takes r (num o) = true
  | [], _, _, _, o, ho => by cases ho
  | o :: l, seen, hr, hb, p, hp => by
    have h0 := (rejs_nil hr).1 o (by simp)
    unfold rejs at hr
    unfold bads at hb
    obtain ⟨_, hr2⟩ := List.append_eq_nil_iff.1 hr
    obtain ⟨hb1, hb2⟩ := List.append_eq_nil_iff.1 hb
    rcases List.mem_cons.1 hp with rfl | hp
    · cases hq : ruleOf rs p with
      | none => rw [hq] at h0; cases h0.1
      | some r =>
        rw [hq] at hb1
        simp only [h0.2] at hb1
        refine ⟨r, rfl, ?_⟩
        by_cases c : takes r (num p) = true
        · exact c
        · simp [c] at hb1
    · exact bads_nil hr2 hb2 p hp
theorem ruleOf_some {rs : List Ru} {o : PT} {r : Ru} (h : ruleOf rs o = some r) : r ∈ rs ∧ r.typ = o.1 ∧ r.size = (o.2.length : Int) := by
  have h1 := List.find?_some h
  unfold fits at h1
  exact ⟨List.mem_of_find?_eq_some h, of_decide_eq_true h1⟩
theorem lacks_nil {rs : List Ru} {l : List PT} (h : lacks rs l = []) : ∀ r ∈ rs, r.must = true → hasT l r.typ = true := by
  intro r hr hm
  unfold lacks at h
  have h1 := List.filter_eq_nil_iff.1 (List.map_eq_nil_iff.1 h) r hr
  simpa [hm] using h1
/-- What is answered by ConfAck is taken, each number of it; nothing lacks. -/
theorem taken {rs : List Ru} {l x : List PT} {naks most : Int} (h : ans rs l naks most = (2, x)) :
    x = l ∧ (∀ o ∈ l, ∃ r ∈ rs, r.typ = o.1 ∧ r.size = (o.2.length : Int) ∧ takes r (num o) = true) ∧ ∀ r ∈ rs, r.must = true → hasT l r.typ = true := by
  obtain ⟨h1, _, h2, h3, h4⟩ := ans_ack h
  refine ⟨h1, fun o ho => ?_, lacks_nil h4⟩
  obtain ⟨r, hr, ht⟩ := bads_nil h2 h3 o ho
  have := ruleOf_some hr
  exact ⟨r, this.1, this.2.1, this.2.2, ht⟩
end Go.Proofs.Ytclplbapedmihaa.Ng
namespace Go.Proofs.Ytclplbapedmihaa.Ng
set_option maxRecDepth 4000
open Go.RowKit
set_option linter.unusedVariables false
set_option linter.unusedSimpArgs false
/-- A rule's cells. -/
def ruC (r : Ru) : List Value := [.int .i64 r.typ, .int .i64 r.size, .int .i64 r.kind, .int .i64 r.low, .int .i64 r.high, .int .i64 r.good, .bool r.must]
def flatR (rs : List Ru) : List Value := rs.flatMap ruC
theorem flatR_length (rs : List Ru) : (flatR rs).length = rs.length * 7 := by
  induction rs with
  | nil => rfl
  | cons q qs ih =>
    show (ruC q ++ flatR qs).length = _
    rw [List.length_append, ih, List.length_cons]
    show 7 + _ = _
    omega
theorem flatR_get : ∀ (qs : List Ru) (i : Nat) (hi : i < qs.length) (j : Nat), j < 7 → (flatR qs)[i * 7 + j]? = (ruC qs[i])[j]?
  | q :: qs, 0, _, j, hj => by
    show (ruC q ++ flatR qs)[0 * 7 + j]? = _
    rw [List.getElem?_append_left (by show _ < 7; omega)]
    simp
  | q :: qs, i + 1, hi, j, hj => by
    show (ruC q ++ flatR qs)[(i + 1) * 7 + j]? = _
    rw [List.getElem?_append_right (by show 7 ≤ _; omega), show (i + 1) * 7 + j - (ruC q).length = i * 7 + j by show _ - 7 = _; omega]
    rw [flatR_get qs i (by simpa using hi) j hj]
    rfl
/-- v is a row of n rules that reads rs in w. -/
def RR (w : World) (v : Value) (n : Nat) (rs : List Ru) : Prop := Rd w 7 v n (flatR rs)
theorem RR.len {w : World} {v : Value} {n : Nat} {rs : List Ru} (h : RR w v n rs) : rs.length = n := by
  have h1 := h.1
  rw [flatR_length] at h1
  omega
theorem RR.below {w w' : World} {v : Value} {n : Nat} {rs : List Ru} (h : RR w v n rs) (hb : Below w.heap.size w w') : RR w' v n rs := Rd.below h hb
theorem RR.shape {w : World} {v : Value} {n : Nat} {rs : List Ru} (h : RR w v n rs) : ∃ ao cap, v = .slice ao n cap ∧ n ≤ cap ∧ cap ≤ maxLen := Rd.shape h
theorem RR.sh {w : World} {ao : Option Addr} {n c : Nat} {rs : List Ru} (h : RR w (.slice ao n c) n rs) : n ≤ c ∧ c ≤ maxLen := by
  obtain ⟨_, _, es, h1, h2⟩ := h.shape
  simp only [Value.slice.injEq] at es
  obtain ⟨rfl, _, rfl⟩ := es
  exact ⟨h1, h2⟩
/-- Rule i's cells. -/
theorem RR.cells {w : World} {ao : Option Addr} {n c : Nat} {rs : List Ru} (h : RR w (.slice ao n c) n rs) (hn : 0 < n) :
    ∃ b o, ao = some ⟨b, o, none⟩ ∧ b < w.heap.size ∧ ∀ i (hi : i < rs.length), w.cell? ⟨b, o + i * 7, none⟩ = some (.int .i64 rs[i].typ) ∧ w.cell? ⟨b, o + i * 7 + 1, none⟩ = some (.int .i64 rs[i].size) ∧
      w.cell? ⟨b, o + i * 7 + 2, none⟩ = some (.int .i64 rs[i].kind) ∧ w.cell? ⟨b, o + i * 7 + 3, none⟩ = some (.int .i64 rs[i].low) ∧ w.cell? ⟨b, o + i * 7 + 4, none⟩ = some (.int .i64 rs[i].high) ∧
      w.cell? ⟨b, o + i * 7 + 5, none⟩ = some (.int .i64 rs[i].good) ∧ w.cell? ⟨b, o + i * 7 + 6, none⟩ = some (.bool rs[i].must) := by
  obtain ⟨b, o, h1, h2, h3⟩ := Rd.cells h hn (by omega)
  exact ⟨b, o, h1, h2, fun i hi => ⟨h3 _ _ (flatR_get rs i hi 0 (by decide)), h3 _ _ (flatR_get rs i hi 1 (by decide)), h3 _ _ (flatR_get rs i hi 2 (by decide)), h3 _ _ (flatR_get rs i hi 3 (by decide)),
    h3 _ _ (flatR_get rs i hi 4 (by decide)), h3 _ _ (flatR_get rs i hi 5 (by decide)), h3 _ _ (flatR_get rs i hi 6 (by decide))⟩⟩
theorem RR.range {w : World} {ao : Option Addr} {n c : Nat} {rs : List Ru} (h : RR w (.slice ao n c) n rs) (hn : 0 < n) :
    ∃ b o, ao = some ⟨b, o, none⟩ ∧ b < w.heap.size ∧ ∀ i (hi : i < rs.length), w.rangeAt b (o + i * 7) (ruC rs[i]) := by
  obtain ⟨b, o, h1, h2, h3⟩ := Rd.cells h hn (by omega)
  refine ⟨b, o, h1, h2, fun i hi j u hj => ?_⟩
  have hj7 : j < 7 := (List.getElem?_eq_some_iff.1 hj).1
  have := h3 _ _ ((flatR_get rs i hi j hj7).trans hj)
  rwa [show o + (i * 7 + j) = o + i * 7 + j by omega] at this
theorem cells7 {w : World} {g : Nat} {a b c d e f k : Value} {t : TypeId} {fr : Nat × Nat} (h : w.heap[g]? = some (.cells #[a, b, c, d, e, f, k] t fr)) :
    w.cell? ⟨g, 0, none⟩ = some a ∧ w.cell? ⟨g, 1, none⟩ = some b ∧ w.cell? ⟨g, 2, none⟩ = some c ∧ w.cell? ⟨g, 3, none⟩ = some d ∧ w.cell? ⟨g, 4, none⟩ = some e ∧ w.cell? ⟨g, 5, none⟩ = some f ∧ w.cell? ⟨g, 6, none⟩ = some k :=
  ⟨by rw [cell_of_row w g _ _ _ _ h]; rfl, by rw [cell_of_row w g _ _ _ _ h]; rfl, by rw [cell_of_row w g _ _ _ _ h]; rfl, by rw [cell_of_row w g _ _ _ _ h]; rfl, by rw [cell_of_row w g _ _ _ _ h]; rfl, by rw [cell_of_row w g _ _ _ _ h]; rfl, by rw [cell_of_row w g _ _ _ _ h]; rfl⟩
theorem sizeR : (Try.prog.info? 68).map (·.size) = some 7 := by kernel_rfl
theorem sizeR2 : (Try.prog.info? 86).map (·.size) = some 7 := by kernel_rfl
theorem ruC_one (r : Ru) : ∀ u ∈ ruC r, u.oneCell' = true := by
  intro u hu
  simp only [ruC, List.mem_cons, List.not_mem_nil, or_false] at hu
  rcases hu with rfl | rfl | rfl | rfl | rfl | rfl | rfl <;> rfl
def ruZ : Ru := ⟨0, 0, 0, 0, 0, 0, false⟩
end Go.Proofs.Ytclplbapedmihaa.Ng
namespace Go.Proofs.Ytclplbapedmihaa.Ng
set_option maxRecDepth 4000
open Go.RowKit
set_option linter.unusedVariables false
set_option linter.unusedSimpArgs false
theorem isIn_any (n lo hi : Int) (w : World) :
    Calls Try.prog 56 #[.int .i64 n, .int .i64 lo, .int .i64 hi] w fun e w' => e = .returned (.bool (decide (lo ≤ n ∧ n ≤ hi))) ∧ w = w' := by
  by_cases h1 : lo ≤ n
  · go_enter Try.func56, Try.ntmps56
    go_wp2
    go_ret
    refine ⟨by simp [h1]; try (intros; omega), rfl⟩
  · go_enter Try.func56, Try.ntmps56
    go_wp2
    go_ret
    refine ⟨by simp [h1]; try (intros; omega), rfl⟩
theorem takesEach_any (r : Ru) (n : Int) (w : World) : Calls Try.prog 69 #[.agg #[.int .i64 r.typ, .int .i64 r.size, .int .i64 r.kind, .int .i64 r.low, .int .i64 r.high, .int .i64 r.good, .bool r.must], .int .i64 n] w fun e w' => e = .returned (.bool true) ∧ Below w.heap.size w w' := by
  go_enter Try.func69, Try.ntmps69
  go_wp2
  go_ret
  exact ⟨rfl, by first | exact Below.refl _ _ | exact (Below.refl _ _).alloc (Nat.le_refl _) _⟩
theorem takesSpan_any (r : Ru) (n : Int) (w : World) : Calls Try.prog 70 #[.agg #[.int .i64 r.typ, .int .i64 r.size, .int .i64 r.kind, .int .i64 r.low, .int .i64 r.high, .int .i64 r.good, .bool r.must], .int .i64 n] w fun e w' => e = .returned (.bool (decide (r.low ≤ n ∧ n ≤ r.high))) ∧ Below w.heap.size w w' := by
  have I := Lib.hid (isIn_any n r.low r.high (w.alloc (.cells #[.int .i64 r.typ, .int .i64 r.size, .int .i64 r.kind, .int .i64 r.low, .int .i64 r.high, .int .i64 r.good, .bool r.must] 86)))
  go_enter Try.func70, Try.ntmps70
  go_wp2_with fail
  refine I.out.mono ?_
  rintro e w' ⟨rfl, rfl⟩
  go_wp2
  go_ret
  exact ⟨by simp, (Below.refl _ _).alloc (Nat.le_refl _) _⟩
theorem takesGood_any (r : Ru) (n : Int) (w : World) : Calls Try.prog 71 #[.agg #[.int .i64 r.typ, .int .i64 r.size, .int .i64 r.kind, .int .i64 r.low, .int .i64 r.high, .int .i64 r.good, .bool r.must], .int .i64 n] w fun e w' => e = .returned (.bool (decide (n = r.good))) ∧ Below w.heap.size w w' := by
  go_enter Try.func71, Try.ntmps71
  go_wp2
  go_ret
  exact ⟨by simp [Bool.beq_eq_decide_eq], (Below.refl _ _).alloc (Nat.le_refl _) _⟩
theorem takesOther_any (r : Ru) (n : Int) (w : World) : Calls Try.prog 72 #[.agg #[.int .i64 r.typ, .int .i64 r.size, .int .i64 r.kind, .int .i64 r.low, .int .i64 r.high, .int .i64 r.good, .bool r.must], .int .i64 n] w fun e w' => e = .returned (.bool (decide (n ≠ r.low))) ∧ Below w.heap.size w w' := by
  go_enter Try.func72, Try.ntmps72
  go_wp2
  go_ret
  exact ⟨by simp [bne, Bool.beq_eq_decide_eq], (Below.refl _ _).alloc (Nat.le_refl _) _⟩
/-- What kindOf tells. -/
theorem kindOf_any (K : Int) (w : World) :
    Calls Try.prog 55 #[.int .i64 K] w fun e w' => ((∃ k, e = .returned (.func (.func k) #[] #[]) ∧ (1 ≤ K ∧ K ≤ 4) ∧ (∀ (args : Array Value) (w' : World), (callFunc k args).run Try.prog w' = .ok (.enter k args) w') ∧
      ∀ (r : Ru) (n : Int) (w2 : World), r.kind = K → Calls Try.prog k #[.agg #[.int .i64 r.typ, .int .i64 r.size, .int .i64 r.kind, .int .i64 r.low, .int .i64 r.high, .int .i64 r.good, .bool r.must], .int .i64 n] w2 fun e w3 => e = .returned (.bool (takes r n)) ∧ Below w2.heap.size w2 w3) ∨
      (e = .returned (.nilFunc) ∧ ¬ (1 ≤ K ∧ K ≤ 4))) ∧ w = w' := by
  by_cases h1 : K = 1
  · subst h1
    go_enter Try.func55, Try.ntmps55
    go_wp2
    go_ret
    refine ⟨.inl ⟨69, rfl, by omega, fun _ _ => rfl, fun r n w2 hr => ?_⟩, rfl⟩
    have e : takes r n = true := by unfold takes; rw [if_pos hr]
    rw [e]
    exact takesEach_any r n w2
  by_cases h2 : K = 2
  · subst h2
    go_enter Try.func55, Try.ntmps55
    go_wp2
    go_ret
    refine ⟨.inl ⟨70, rfl, by omega, fun _ _ => rfl, fun r n w2 hr => ?_⟩, rfl⟩
    have e : takes r n = decide (r.low ≤ n ∧ n ≤ r.high) := by unfold takes; rw [if_neg (by omega), if_pos hr]
    rw [e]
    exact takesSpan_any r n w2
  by_cases h3 : K = 3
  · subst h3
    go_enter Try.func55, Try.ntmps55
    go_wp2
    go_ret
    refine ⟨.inl ⟨71, rfl, by omega, fun _ _ => rfl, fun r n w2 hr => ?_⟩, rfl⟩
    have e : takes r n = decide (n = r.good) := by unfold takes; rw [if_neg (by omega), if_neg (by omega), if_pos hr]
    rw [e]
    exact takesGood_any r n w2
  by_cases h4 : K = 4
  · subst h4
    go_enter Try.func55, Try.ntmps55
    go_wp2
    go_ret
    refine ⟨.inl ⟨72, rfl, by omega, fun _ _ => rfl, fun r n w2 hr => ?_⟩, rfl⟩
    have e : takes r n = decide (n ≠ r.low) := by unfold takes; rw [if_neg (by omega), if_neg (by omega), if_neg (by omega), if_pos hr]
    rw [e]
    exact takesOther_any r n w2
  have e1 : (K == 1) = false := by simpa using h1
  have e2 : (K == 2) = false := by simpa using h2
  have e3 : (K == 3) = false := by simpa using h3
  have e4 : (K == 4) = false := by simpa using h4
  have HN : Hid (¬ (1 ≤ K ∧ K ≤ 4)) := by show ¬ _; omega
  clear h1 h2 h3 h4
  go_enter Try.func55, Try.ntmps55
  go_wp2
  go_ret
  exact ⟨.inr ⟨rfl, HN.out⟩, rfl⟩
end Go.Proofs.Ytclplbapedmihaa.Ng
namespace Go.Proofs.Ytclplbapedmihaa.Ng
set_option maxRecDepth 4000
open Go.RowKit
set_option linter.unusedVariables false
set_option linter.unusedSimpArgs false
theorem eql_func (k : Nat) (w : World) : (binOp .eql 97 (.func (.func k) #[] #[]) .nilFunc).run Try.prog w = .ok (.bool false) w := by
  have h : ∀ d : Nat, (Op.equalIn (d + 1) 97 (.func (.func k) #[] #[]) .nilFunc).run Try.prog w = .ok false w := fun d => by
    simp [Op.equalIn, run_underlying Try.underlying97]
  simp only [binOp]
  simp [Op.equal, Op.maxDepth, h 9999]
theorem eql_nilFunc (w : World) : (binOp .eql 97 .nilFunc .nilFunc).run Try.prog w = .ok (.bool true) w := by
  have h : ∀ d : Nat, (Op.equalIn (d + 1) 97 .nilFunc .nilFunc).run Try.prog w = .ok true w := fun d => by
    simp [Op.equalIn, run_underlying Try.underlying97]
  simp only [binOp]
  simp [Op.equal, Op.maxDepth, h 9999]
theorem isR_no1 {r : Ru} (h : ¬ (1 ≤ r.kind ∧ r.kind ≤ 4)) : ¬ isR r := fun hr => by
  have h1 := hr.2.2.2.2.2.2.2.2.2.2.2.2
  unfold takes at h1
  rw [if_neg (by omega), if_neg (by omega), if_neg (by omega), if_neg (by omega)] at h1
  cases h1
theorem isR_iff {r : Ru} (h1 : 1 ≤ r.typ ∧ r.typ ≤ 255) (h2 : 0 ≤ r.size ∧ r.size ≤ 4) (h3 : r.size = 0 → r.kind = 1) (M : Int) (hM : M + 1 = lim r.size) (h4 : 0 ≤ r.low ∧ r.low ≤ M) (h5 : 0 ≤ r.high ∧ r.high ≤ M) (h6 : 0 ≤ r.good ∧ r.good ≤ M) :
    decide (isR r) = takes r r.good := by
  rw [Bool.eq_iff_iff, decide_eq_true_eq]
  refine ⟨fun h => h.2.2.2.2.2.2.2.2.2.2.2.2, fun h => ⟨h1.1, h1.2, h2.1, h2.2, h3, h4.1, by omega, h5.1, by omega, h6.1, by omega, fun hk => ?_, h⟩⟩
  unfold takes at h
  rw [if_neg (by omega), if_pos hk] at h
  have := of_decide_eq_true h
  omega
theorem lim_cases {k : Int} (h : 0 ≤ k ∧ k ≤ 4) : (k = 0 ∧ lim k = 1) ∨ (k = 1 ∧ lim k = 256) ∨ (k = 2 ∧ lim k = 65536) ∨ (k = 3 ∧ lim k = 16777216) ∨ (k = 4 ∧ lim k = 4294967296) := by
  have : k = 0 ∨ k = 1 ∨ k = 2 ∨ k = 3 ∨ k = 4 := by omega
  rcases this with rfl | rfl | rfl | rfl | rfl
  · exact .inl ⟨rfl, by decide⟩
  · exact .inr (.inl ⟨rfl, by decide⟩)
  · exact .inr (.inr (.inl ⟨rfl, by decide⟩))
  · exact .inr (.inr (.inr (.inl ⟨rfl, by decide⟩)))
  · exact .inr (.inr (.inr (.inr ⟨rfl, by decide⟩)))
set_option maxRecDepth 20000 in
set_option maxHeartbeats 2000000 in
theorem mayBe_any (r : Ru) (w : World) : Calls Try.prog 52 #[.agg #[.int .i64 r.typ, .int .i64 r.size, .int .i64 r.kind, .int .i64 r.low, .int .i64 r.high, .int .i64 r.good, .bool r.must]] w fun e w' => e = .returned (.bool (decide (isR r))) ∧ Below w.heap.size w w' := by
  have hg : (w.alloc (.cells #[.int .i64 r.typ, .int .i64 r.size, .int .i64 r.kind, .int .i64 r.low, .int .i64 r.high, .int .i64 r.good, .bool r.must] 86)).heap[w.heap.size]? = some (.cells #[.int .i64 r.typ, .int .i64 r.size, .int .i64 r.kind, .int .i64 r.low, .int .i64 r.high, .int .i64 r.good, .bool r.must] 86) := heap_alloc_last _ _
  have HB : Hid (Below w.heap.size w (w.alloc (.cells #[.int .i64 r.typ, .int .i64 r.size, .int .i64 r.kind, .int .i64 r.low, .int .i64 r.high, .int .i64 r.good, .bool r.must] 86))) := (Below.refl _ _).alloc (Nat.le_refl _) _
  obtain ⟨k0, k1, k2, k3, k4, k5, k6⟩ := cells7 hg
  have KO := Lib.hid (kindOf_any r.kind (w.alloc (.cells #[.int .i64 r.typ, .int .i64 r.size, .int .i64 r.kind, .int .i64 r.low, .int .i64 r.high, .int .i64 r.good, .bool r.must] 86)))
  have q1 := eql_func
  have q2 := eql_nilFunc
  clear hg
  go_enter Try.func52, Try.ntmps52
  go_wp2_with fail
  generalize (w.alloc (.cells #[.int .i64 r.typ, .int .i64 r.size, .int .i64 r.kind, .int .i64 r.low, .int .i64 r.high, .int .i64 r.good, .bool r.must] 86)) = w1 at k0 k1 k2 k3 k4 k5 k6 KO HB ⊢
  have IT := Lib.hid (isIn_any r.typ 1 255 w1)
  have IS := Lib.hid (isIn_any r.size 0 4 w1)
  refine KO.out.mono ?_
  rintro e w' ⟨(⟨k, rfl, hk1, hk2, hk3⟩ | ⟨rfl, hno⟩), rfl⟩
  · have HK2 := Lib.hid hk2
    have HK3 := Lib.hid hk3
    have HK1 := Lib.hid hk1
    clear hk1 hk2 hk3 KO
    by_cases ht : 1 ≤ r.typ ∧ r.typ ≤ 255
    · by_cases hs : 0 ≤ r.size ∧ r.size ≤ 4
      · rw [decide_eq_true ht] at IT
        rw [decide_eq_true hs] at IS
        have HT := Lib.hid ht
        have HS := Lib.hid hs
        clear ht hs
        go_wp2_with fail
        refine IT.out.mono ?_
        rintro e w' ⟨rfl, rfl⟩
        go_wp2_with fail
        refine IS.out.mono ?_
        rintro e w' ⟨rfl, rfl⟩
        by_cases h0 : r.size = 0 ∧ r.kind ≠ 1
        · have HN : Hid (¬ isR r) := fun h => h0.2 (h.2.2.2.2.1 h0.1)
          obtain ⟨h00, h01⟩ := h0
          have e1 : (r.kind != 1) = true := by simpa using h01
          clear h01
          go_wp2
          go_ret
          exact ⟨by rw [decide_eq_false HN.out]; rfl, HB.out⟩
        · have H0 : Hid (r.size = 0 → r.kind = 1) := fun h => Classical.byContradiction fun hk => h0 ⟨h, hk⟩
          go_upto_region 4 with fail
          go_cut [29] (fun s wx => s = .bool false ∧ w1 = wx)
          case first =>
            by_cases h1 : r.size = 0
            · have e1 : (r.kind != 1) = false := by simpa using H0.out h1
              clear h0
              go_wp2
              go_meet
              exact ⟨rfl, rfl⟩
            · have e1 : (r.size == 0) = false := by simpa using h1
              clear h0 h1
              go_wp2
              go_meet
              exact ⟨rfl, rfl⟩
          case rest =>
            clear h0
            obtain ⟨rfl, rfl⟩ := hcut
            go_upto_region 6 with fail
            go_cut [4] (fun s wx => ∃ M : Int, s = .int .i64 M ∧ M + 1 = lim r.size ∧ w1 = wx)
            case first =>
              rcases lim_cases HS.out with ⟨e1, e2⟩ | ⟨e1, e2⟩ | ⟨e1, e2⟩ | ⟨e1, e2⟩ | ⟨e1, e2⟩
              all_goals (
                rw [e1] at k1
                clear e1
                have E2 := Lib.hid e2
                clear e2
                go_wp2
                go_meet
                exact ⟨_, rfl, by rw [E2.out]; rfl, rfl⟩)
            case rest =>
              obtain ⟨M, rfl, hM, rfl⟩ := hcut
              have HM := Lib.hid hM
              clear hM
              have I3 := Lib.hid (isIn_any r.low 0 M w1)
              have I4 := Lib.hid (isIn_any r.high 0 M w1)
              have I5 := Lib.hid (isIn_any r.good 0 M w1)
              by_cases h3 : 0 ≤ r.low ∧ r.low ≤ M
              · rw [decide_eq_true h3] at I3
                have H3 := Lib.hid h3
                clear h3
                by_cases h4 : 0 ≤ r.high ∧ r.high ≤ M
                · rw [decide_eq_true h4] at I4
                  have H4 := Lib.hid h4
                  clear h4
                  by_cases h5 : 0 ≤ r.good ∧ r.good ≤ M
                  · rw [decide_eq_true h5] at I5
                    have HE := Lib.hid (isR_iff HT.out HS.out H0.out M HM.out H3.out H4.out h5)
                    clear h5
                    have TK := Lib.hid (HK3.out r r.good w1 rfl)
                    go_wp2_with fail
                    refine I3.out.mono ?_
                    rintro e w' ⟨rfl, rfl⟩
                    go_wp2_with fail
                    refine I4.out.mono ?_
                    rintro e w' ⟨rfl, rfl⟩
                    go_wp2_with fail
                    refine I5.out.mono ?_
                    rintro e w' ⟨rfl, rfl⟩
                    have hk2 := HK2.out
                    go_wp2_with fail
                    refine TK.out.mono ?_
                    rintro e w' ⟨rfl, hb⟩
                    rw [← HE.out]
                    have HB2 := Lib.hid (HB.out.trans (hb.mono HB.out.size))
                    clear hb
                    go_wp2
                    go_ret
                    exact ⟨rfl, HB2.out⟩
                  · rw [decide_eq_false h5] at I5
                    have HN : Hid (¬ isR r) := fun h => h5 (by have := HM.out; have := h.2.2.2.2.2.2.2.2.2.1; have := h.2.2.2.2.2.2.2.2.2.2.1; omega)
                    clear h5
                    go_wp2_with fail
                    refine I3.out.mono ?_
                    rintro e w' ⟨rfl, rfl⟩
                    go_wp2_with fail
                    refine I4.out.mono ?_
                    rintro e w' ⟨rfl, rfl⟩
                    go_wp2_with fail
                    refine I5.out.mono ?_
                    rintro e w' ⟨rfl, rfl⟩
                    go_wp2
                    go_ret
                    exact ⟨by rw [decide_eq_false HN.out]; rfl, HB.out⟩
                · rw [decide_eq_false h4] at I4
                  have HN : Hid (¬ isR r) := fun h => h4 (by have := HM.out; have := h.2.2.2.2.2.2.2.1; have := h.2.2.2.2.2.2.2.2.1; omega)
                  clear h4
                  go_wp2_with fail
                  refine I3.out.mono ?_
                  rintro e w' ⟨rfl, rfl⟩
                  go_wp2_with fail
                  refine I4.out.mono ?_
                  rintro e w' ⟨rfl, rfl⟩
                  go_wp2
                  go_ret
                  exact ⟨by rw [decide_eq_false HN.out]; rfl, HB.out⟩
              · rw [decide_eq_false h3] at I3
                have HN : Hid (¬ isR r) := fun h => h3 (by have := HM.out; have := h.2.2.2.2.2.1; have := h.2.2.2.2.2.2.1; omega)
                clear h3
                go_wp2_with fail
                refine I3.out.mono ?_
                rintro e w' ⟨rfl, rfl⟩
                go_wp2
                go_ret
                exact ⟨by rw [decide_eq_false HN.out]; rfl, HB.out⟩
      · rw [decide_eq_true ht] at IT
        rw [decide_eq_false hs] at IS
        have HN : Hid (¬ isR r) := fun h => hs ⟨h.2.2.1, h.2.2.2.1⟩
        clear ht hs
        go_wp2_with fail
        refine IT.out.mono ?_
        rintro e w' ⟨rfl, rfl⟩
        go_wp2_with fail
        refine IS.out.mono ?_
        rintro e w' ⟨rfl, rfl⟩
        go_wp2
        go_ret
        exact ⟨by rw [decide_eq_false HN.out]; rfl, HB.out⟩
    · rw [decide_eq_false ht] at IT
      have HN : Hid (¬ isR r) := fun h => ht ⟨h.1, h.2.1⟩
      clear ht
      go_wp2_with fail
      refine IT.out.mono ?_
      rintro e w' ⟨rfl, rfl⟩
      go_wp2
      go_ret
      exact ⟨by rw [decide_eq_false HN.out]; rfl, HB.out⟩
  · have HN := Lib.hid (isR_no1 hno)
    clear hno
    go_wp2
    go_ret
    exact ⟨by rw [decide_eq_false HN.out]; rfl, HB.out⟩
end Go.Proofs.Ytclplbapedmihaa.Ng
namespace Go.Proofs.Ytclplbapedmihaa.Ng
set_option maxRecDepth 4000
open Go.RowKit
set_option linter.unusedVariables false
set_option linter.unusedSimpArgs false
theorem results_tmp_cell_row {P : Program} {fn : Func} {p u : Tmp} {ty : TypeId} (h : fn.results = #[.tmp u, .cell p ty]) (tmps : Array Value) (w : World) (g : Nat) (t : TypeId) (cs : Array Value) (fr : Nat × Nat) (d : TypeDesc)
    (hp : tmps.getD p undef = .pointer (some ⟨g, 0, none⟩)) (hg : w.heap[g]? = some (.cells cs t fr))
    (hu : P.underlying ty = some d) (hd : (match d with | .struct _ | .array _ _ => true | _ => false) = true) (hi : (P.info? ty).map (·.size) = some cs.size) :
    (results fn tmps).run P w = .ok (.tuple #[tmps.getD u undef, .agg cs]) w := by
  have hp' : tmps[p]?.getD undef = .pointer (some ⟨g, 0, none⟩) := by simpa using hp
  have hr := run_loadVar_row w g t ty cs fr d hg hu hd hi
  simp only [results, h]
  simp [Sem.run_bind, Result.andThen, hp', asAddr, hr]
/-- What 'of' tells: the place of the first rule of a type, and the rule. -/
def OfR (rs : List Ru) (T : Int) (w : World) (e : Ending) (w' : World) : Prop :=
  ((∃ (k : Nat) (h : k < rs.length) (r : Ru), e = .returned (.tuple #[.int .i64 (k : Int), .agg #[.int .i64 r.typ, .int .i64 r.size, .int .i64 r.kind, .int .i64 r.low, .int .i64 r.high, .int .i64 r.good, .bool r.must]]) ∧ r = rs[k] ∧ r.typ = T ∧ ∀ j (hj : j < k), (rs[j]'(by omega)).typ ≠ T) ∨
    (e = .returned (.tuple #[.int .i64 (-1), .agg #[.int .i64 0, .int .i64 0, .int .i64 0, .int .i64 0, .int .i64 0, .int .i64 0, .bool false]]) ∧ ∀ j (hj : j < rs.length), rs[j].typ ≠ T)) ∧ Below w.heap.size w w'
theorem OfR.hit {rs : List Ru} {T : Int} {w w' : World} (r : Ru) (k : Nat) (h : k < rs.length) (hr : r = rs[k]) (h1 : r.typ = T) (h2 : ∀ j (hj : j < k), (rs[j]'(by omega)).typ ≠ T) (hb : Below w.heap.size w w') :
    OfR rs T w (.returned (.tuple #[.int .i64 (k : Int), .agg #[.int .i64 r.typ, .int .i64 r.size, .int .i64 r.kind, .int .i64 r.low, .int .i64 r.high, .int .i64 r.good, .bool r.must]])) w' := ⟨.inl ⟨k, h, r, rfl, hr, h1, h2⟩, hb⟩
set_option maxRecDepth 20000 in
set_option maxHeartbeats 2000000 in
theorem of_any (ao : Option Addr) (n c : Nat) (rs : List Ru) (T : Int) (w : World) (hr : RR w (.slice ao n c) n rs) :
    Calls Try.prog 51 #[.slice ao n c, .int .i64 T] w (OfR rs T w) := by
  have hl := hr.len
  have HR := Lib.hid hr
  have hsh := hr.sh
  have hn63 : n ≤ 9223372036854775807 := by have := hsh.1; have := hsh.2; unfold maxLen at *; omega
  have HB0 : Hid (Below w.heap.size w (w.alloc (.cells #[.int .i64 0, .int .i64 0, .int .i64 0, .int .i64 0, .int .i64 0, .int .i64 0, .bool false] 86))) := (Below.refl _ _).alloc (Nat.le_refl _) _
  have HG0 : Hid ((w.alloc (.cells #[.int .i64 0, .int .i64 0, .int .i64 0, .int .i64 0, .int .i64 0, .int .i64 0, .bool false] 86)).heap[w.heap.size]? = some (.cells #[.int .i64 0, .int .i64 0, .int .i64 0, .int .i64 0, .int .i64 0, .int .i64 0, .bool false] 86)) := heap_alloc_last _ _
  clear hr hsh
  go_enter Try.func51, Try.ntmps51
  go_wp2
  go_loopw [10] (fun iv wr => ∃ k : Nat, k ≤ n ∧ iv = .int .i64 k ∧ (∀ j (hj : j < k) (h2 : j < rs.length), rs[j].typ ≠ T) ∧ Below w.heap.size w wr ∧ wr.heap[w.heap.size]? = some (.cells #[.int .i64 0, .int .i64 0, .int .i64 0, .int .i64 0, .int .i64 0, .int .i64 0, .bool false] 86)) (fun iv _ => n - (intOf iv).toNat)
  case atStart => exact ⟨0, Nat.zero_le _, rfl, fun j hj => by omega, HB0.out, HG0.out⟩
  case round =>
    clear HB0 HG0
    obtain ⟨k, hk, rfl, hne, hb, hg⟩ := hrel
    have HNE := Lib.hid hne
    have HB := Lib.hid hb
    have HG := Lib.hid hg
    have HBN := Lib.hid (hb.size)
    clear hne hb hg
    by_cases hlt : k < n
    · obtain ⟨b, o, rfl, hbl, hc⟩ := (HR.out.below HB.out).cells (by omega)
      obtain ⟨c0, c1, c2, c3, c4, c5, c6⟩ := hc k (by omega)
      obtain ⟨r, hr⟩ : ∃ r, r = rs[k] := ⟨_, rfl⟩
      rw [← hr] at c0 c1 c2 c3 c4 c5 c6
      have HRK := Lib.hid hr
      have HBA : Hid (Gr wr (wr.alloc (.cells #[.int .i64 r.typ, .int .i64 r.size, .int .i64 r.kind, .int .i64 r.low, .int .i64 r.high, .int .i64 r.good, .bool r.must] 68))) := (Gr.refl wr).alloc _
      have HB1 := Lib.hid (HB.out.trans (Below.mono HBA.out HBN.out))
      have HG1 := Lib.hid (heap_gr HBA.out HG.out)
      have HGC : Hid ((wr.alloc (.cells #[.int .i64 r.typ, .int .i64 r.size, .int .i64 r.kind, .int .i64 r.low, .int .i64 r.high, .int .i64 r.good, .bool r.must] 68)).heap[wr.heap.size]? = some (.cells #[.int .i64 r.typ, .int .i64 r.size, .int .i64 r.kind, .int .i64 r.low, .int .i64 r.high, .int .i64 r.good, .bool r.must] 68)) := heap_alloc_last _ _
      clear hr hc
      by_cases ht : r.typ = T
      · subst ht
        go_upto_region 5 with fail
        obtain ⟨wq, hwq⟩ : ∃ wq, wq = wr.alloc (.cells #[.int .i64 r.typ, .int .i64 r.size, .int .i64 r.kind, .int .i64 r.low, .int .i64 r.high, .int .i64 r.good, .bool r.must] 68) := ⟨_, rfl⟩
        rw [← hwq]
        rw [← hwq] at HB1 HG1 HGC
        clear hwq c0 c1 c2 c3 c4 c5 c6
        refine wp_region_G 3 Gr (by kernel_rfl) ?_
        -- 0: slot 19
        refine wpG_take preGr (i := 0) (v := ?_) (by kernel_rfl) (some 19) (by kernel_rfl) rfl (by kernel_rfl) (by kernel_rfl) (by kernel_rfl) (fun _ _ _ h => h) (by rfl) (fun w' hw' => ?_) rfl ?_
        rotate_left
        · go_simp
          with_reducible rfl
        simp only [Act.put, List.setIfInBounds_toArray, List.set_cons_zero, List.set_cons_succ]
        -- 1: slot 20
        refine wpG_take preGr (i := 1) (v := ?_) (by kernel_rfl) (some 20) (by kernel_rfl) rfl (by kernel_rfl) (by kernel_rfl) (by kernel_rfl) (fun _ _ _ h => h) (by rfl) (fun w' hw' => ?_) rfl ?_
        rotate_left
        · obtain ⟨g0, g1, g2, g3, g4, g5, g6⟩ := cells7 (heap_gr hw' HGC.out)
          go_simp
          with_reducible rfl
        simp only [Act.put, List.setIfInBounds_toArray, List.set_cons_zero, List.set_cons_succ]
        -- 2: slot 4
        refine wpG_take preGr (i := 2) (v := ?_) (by kernel_rfl) (some 4) (by kernel_rfl) rfl (by kernel_rfl) (by kernel_rfl) (by kernel_rfl) (fun _ _ _ h => h) (by rfl) (fun w' hw' => ?_) rfl ?_
        rotate_left
        · go_simp
          with_reducible rfl
        simp only [Act.put, List.setIfInBounds_toArray, List.set_cons_zero, List.set_cons_succ]
        refine wpG_tail (i := 3) (by decide) rfl (by kernel_rfl) (by rfl) ?_
        refine wp_store_whole (none) 86 (.tmp 5) (.tmp 20) rfl w.heap.size (ruC r) rfl rfl 86 (ruC ruZ) HG1.out sizeR2 rfl (ruC_one r) rfl ?_
        intro w4 h4 ho4
        have H4 := Lib.hid h4
        have HB4 : Hid (Below w.heap.size w w4) := ho4.below _ _ (Nat.le_refl _) HB1.out.drew
        clear h4 ho4
        try simp only [Act.put, List.setIfInBounds_toArray, List.set_cons_zero, List.set_cons_succ]
        refine wpG_done (by kernel_rfl) ?_ _
        go_wp2
        refine bodyPost_ret (v := .tuple #[.int .i64 k, .agg #[.int .i64 r.typ, .int .i64 r.size, .int .i64 r.kind, .int .i64 r.low, .int .i64 r.high, .int .i64 r.good, .bool r.must]]) (results_tmp_cell_row (P := Try.prog) (fn := Try.f51) rfl _ _ w.heap.size 86 _ (0, 0) _ rfl H4.out Try.underlying86 rfl (by kernel_rfl)) rfl ?_
        exact OfR.hit r k (by omega) HRK.out rfl (fun j hj => HNE.out j hj (by omega)) HB4.out
      · have htf : (r.typ == T) = false := by simpa using ht
        have HT := Lib.hid ht
        clear ht
        go_wp2
        go_roundw
        case rel =>
          have HN1 : ∀ j (hj : j < k + 1) (h2 : j < rs.length), rs[j].typ ≠ T := fun j hj h2 => by
            by_cases e : j = k
            · subst e; rw [← HRK.out]; exact HT.out
            · exact HNE.out j (by omega) h2
          first | exact ⟨k + 1, by omega, by go_num, HN1, HB1.out, HG1.out⟩ | ((repeat apply Exists.intro); exact ⟨⟨k + 1, by omega, by go_num, HN1, HB1.out, HG1.out⟩, rfl⟩)
        case measure => simp [intOf]; omega
    · obtain rfl : k = n := by omega
      go_wp2_with (refine wpList_store_whole rfl 86 (.tmp 5) (.tmp 22) rfl w.heap.size (ruC ruZ) rfl rfl 86 (ruC ruZ) HG.out sizeR2 rfl (ruC_one ruZ) ?_)
      intro w3 h3 ho3
      have H3 := Lib.hid h3
      have HB3 : Hid (Below w.heap.size w w3) := ho3.below _ _ (Nat.le_refl _) HB.out
      clear h3 ho3
      go_wp2
      refine bodyPost_ret (v := .tuple #[.int .i64 (-1), .agg #[.int .i64 0, .int .i64 0, .int .i64 0, .int .i64 0, .int .i64 0, .int .i64 0, .bool false]]) (results_tmp_cell_row (P := Try.prog) (fn := Try.f51) rfl _ _ w.heap.size 86 _ (0, 0) _ rfl H3.out Try.underlying86 rfl (by kernel_rfl)) rfl ?_
      exact ⟨.inr ⟨rfl, fun j hj => HNE.out j (by omega) hj⟩, HB3.out⟩
/-- What has been looked at: all may be, and no two have one type. -/
def okTo (rs : List Ru) (k : Nat) : Prop := ∀ j (hj : j < rs.length), j < k → isR rs[j] ∧ ∀ i (hi : i < j), (rs[i]'(by omega)).typ ≠ rs[j].typ
theorem okTo.next {rs : List Ru} {k : Nat} (h : okTo rs k) (hk : k < rs.length) (h1 : isR rs[k]) (h2 : ∀ i (hi : i < k), (rs[i]'(by omega)).typ ≠ rs[k].typ) : okTo rs (k + 1) := fun j hj hjk => by
  by_cases e : j = k
  · subst e; exact ⟨h1, h2⟩
  · exact h j hj (by omega)
theorem areR_iff (rs : List Ru) : areR rs ↔ rs.length ≤ 16 ∧ okTo rs rs.length := by
  constructor
  · rintro ⟨h1, h2, h3⟩
    refine ⟨h1, fun j hj _ => ⟨h2 _ (List.getElem_mem hj), fun i hi e => ?_⟩⟩
    have := List.pairwise_iff_getElem.1 h3 i j (by rw [List.length_map]; omega) (by rw [List.length_map]; omega) hi
    apply this
    simp [e]
  · rintro ⟨h1, h2⟩
    refine ⟨h1, fun r hr => ?_, ?_⟩
    · obtain ⟨i, hi, rfl⟩ := List.mem_iff_getElem.1 hr
      exact (h2 i hi hi).1
    · refine List.pairwise_iff_getElem.2 fun i j hi hj hij e => ?_
      rw [List.length_map] at hj
      simp only [List.getElem_map] at e
      exact (h2 j hj hj).2 i hij e
set_option maxRecDepth 20000 in
set_option maxHeartbeats 2000000 in
theorem mayBes_any (ao : Option Addr) (n c : Nat) (rs : List Ru) (w : World) (hr : RR w (.slice ao n c) n rs) :
    Calls Try.prog 47 #[.slice ao n c] w fun e w' => e = .returned (.bool (decide (areR rs))) ∧ Below w.heap.size w w' := by
  have hl := hr.len
  have HR := Lib.hid hr
  clear hr
  by_cases h16 : n ≤ 16
  · go_enter Try.func47, Try.ntmps47
    go_wp2
    go_loopw [12] (fun iv wr => ∃ k : Nat, k ≤ n ∧ iv = .int .i64 k ∧ okTo rs k ∧ Below w.heap.size w wr) (fun iv _ => n - (intOf iv).toNat)
    case atStart => exact ⟨0, Nat.zero_le _, rfl, fun j hj h => by omega, Below.refl _ _⟩
    case round =>
      obtain ⟨k, hk, rfl, hok, hb⟩ := hrel
      have HOK := Lib.hid hok
      have HB := Lib.hid hb
      have HBN := Lib.hid (hb.size)
      clear hok hb
      by_cases hlt : k < n
      · obtain ⟨b, o, rfl, hbl, hc⟩ := (HR.out.below HB.out).cells (by omega)
        obtain ⟨c0, c1, c2, c3, c4, c5, c6⟩ := hc k (by omega)
        obtain ⟨r, hr⟩ : ∃ r, r = rs[k] := ⟨_, rfl⟩
        rw [← hr] at c0 c1 c2 c3 c4 c5 c6
        have HRK := Lib.hid hr
        have HBA : Hid (Gr wr (wr.alloc (.cells #[.int .i64 r.typ, .int .i64 r.size, .int .i64 r.kind, .int .i64 r.low, .int .i64 r.high, .int .i64 r.good, .bool r.must] 68))) := (Gr.refl wr).alloc _
        have HB1 := Lib.hid (HB.out.trans (Below.mono HBA.out HBN.out))
        have HGC : Hid ((wr.alloc (.cells #[.int .i64 r.typ, .int .i64 r.size, .int .i64 r.kind, .int .i64 r.low, .int .i64 r.high, .int .i64 r.good, .bool r.must] 68)).heap[wr.heap.size]? = some (.cells #[.int .i64 r.typ, .int .i64 r.size, .int .i64 r.kind, .int .i64 r.low, .int .i64 r.high, .int .i64 r.good, .bool r.must] 68)) := heap_alloc_last _ _
        have q0 := (cells7 HGC.out).1
        have OF := Lib.hid (of_any _ n c rs r.typ (wr.alloc (.cells #[.int .i64 r.typ, .int .i64 r.size, .int .i64 r.kind, .int .i64 r.low, .int .i64 r.high, .int .i64 r.good, .bool r.must] 68)) (HR.out.below HB1.out))
        clear hr hc
        go_wp2_with fail
        refine OF.out.mono ?_
        rintro e w2 ⟨(⟨i, hi, x, rfl, hx, h1, h2⟩ | ⟨rfl, hno⟩), hb2⟩
        · have HX := Lib.hid hx
          have hik : i ≤ k := Classical.byContradiction fun h => h2 k (by omega) (by rw [← HRK.out])
          have H1 := Lib.hid h1
          have H2 := Lib.hid h2
          have HG2 := Lib.hid (heap_below HGC.out hb2)
          have HB2 := Lib.hid (HB1.out.trans (hb2.mono HB1.out.size))
          clear h1 h2 hb2 hx OF c0 c1 c2 c3 c4 c5 c6 q0
          by_cases hlk : i < k
          · have HN : Hid (¬ areR rs) := fun h => by
              have := ((areR_iff rs).1 h).2 k (by omega) (by omega)
              exact this.2 i hlk (by rw [← HX.out, H1.out, HRK.out])
            go_wp2
            go_ret
            exact ⟨by rw [decide_eq_false HN.out]; rfl, (HB2.out.alloc HB2.out.size _)⟩
          · obtain rfl : i = k := by omega
            have HX2 : Hid (x = r) := HX.out.trans HRK.out.symm
            have hg3 : Gr w2 (w2.alloc (.cells #[.int .i64 x.typ, .int .i64 x.size, .int .i64 x.kind, .int .i64 x.low, .int .i64 x.high, .int .i64 x.good, .bool x.must] 86)) := (Gr.refl _).alloc _
            have HB3 := Lib.hid (HB2.out.trans (Below.mono hg3 HB2.out.size))
            have HG3 := Lib.hid (heap_gr hg3 HG2.out)
            obtain ⟨q0, q1, q2, q3, q4, q5, q6⟩ := cells7 HG3.out
            have MB := Lib.hid (mayBe_any r (w2.alloc (.cells #[.int .i64 x.typ, .int .i64 x.size, .int .i64 x.kind, .int .i64 x.low, .int .i64 x.high, .int .i64 x.good, .bool x.must] 86)))
            clear hg3
            by_cases hi2 : isR r
            · rw [decide_eq_true hi2] at MB
              have HOK2 : Hid (okTo rs (i + 1)) := HOK.out.next (by omega) (by rw [← HRK.out]; exact hi2) (fun j hj => by rw [← HX.out, H1.out]; exact H2.out j hj)
              clear hi2
              go_wp2_with fail
              refine MB.out.mono ?_
              rintro e w4 ⟨rfl, hb4⟩
              have HB4 := Lib.hid (HB3.out.trans (hb4.mono HB3.out.size))
              clear hb4
              go_wp2
              go_roundw
              case rel =>
                first | exact ⟨i + 1, by omega, by go_num, HOK2.out, HB4.out⟩ | ((repeat apply Exists.intro); exact ⟨⟨i + 1, by omega, by go_num, HOK2.out, HB4.out⟩, rfl⟩)
              case measure => simp [intOf]; omega
            · rw [decide_eq_false hi2] at MB
              have HN : Hid (¬ areR rs) := fun h => hi2 (by
                have := (((areR_iff rs).1 h).2 i (by omega) (by omega)).1
                rwa [← HRK.out] at this)
              clear hi2
              go_wp2_with fail
              refine MB.out.mono ?_
              rintro e w4 ⟨rfl, hb4⟩
              have HB4 := Lib.hid (HB3.out.trans (hb4.mono HB3.out.size))
              clear hb4
              go_wp2
              go_ret
              exact ⟨by rw [decide_eq_false HN.out]; rfl, HB4.out⟩
        · exact (hno k (by omega) (by rw [← HRK.out])).elim
      · obtain rfl : k = n := by omega
        have HA : Hid (areR rs) := (areR_iff rs).2 ⟨by omega, by rw [hl]; exact HOK.out⟩
        go_wp2
        go_ret
        exact ⟨by rw [decide_eq_true HA.out]; rfl, HB.out⟩
  · have HN : Hid (¬ areR rs) := fun h => h16 (by rw [← hl]; exact h.1)
    have hlt : (16 : Int) < (n : Int) := by omega
    clear h16
    go_enter Try.func47, Try.ntmps47
    go_wp2
    go_ret
    exact ⟨by rw [decide_eq_false HN.out]; rfl, Below.refl _ _⟩
theorem check_any (ao : Option Addr) (n c : Nat) (rs : List Ru) (w : World) (hr : RR w (.slice ao n c) n rs) :
    Calls Try.prog 37 #[.slice ao n c] w fun e w' => e = .returned (.int .i64 (if areR rs then 0 else 150)) ∧ Below w.heap.size w w' := by
  have MB := Lib.hid (mayBes_any ao n c rs w hr)
  clear hr
  by_cases h : areR rs
  · rw [decide_eq_true h] at MB
    rw [if_pos h]
    clear h
    go_enter Try.func37, Try.ntmps37
    go_wp2_with fail
    refine MB.out.mono ?_
    rintro e w4 ⟨rfl, hb4⟩
    have HB4 := Lib.hid hb4
    clear hb4
    go_wp2
    go_ret
    exact ⟨rfl, HB4.out⟩
  · rw [decide_eq_false h] at MB
    rw [if_neg h]
    clear h
    go_enter Try.func37, Try.ntmps37
    go_wp2_with fail
    refine MB.out.mono ?_
    rintro e w4 ⟨rfl, hb4⟩
    have HB4 := Lib.hid hb4
    clear hb4
    go_wp2
    go_ret
    exact ⟨rfl, HB4.out⟩
end Go.Proofs.Ytclplbapedmihaa.Ng
namespace Go.Proofs.Ytclplbapedmihaa.Ng
set_option maxRecDepth 4000
open Go.RowKit
set_option linter.unusedVariables false
set_option linter.unusedSimpArgs false
end Go.Proofs.Ytclplbapedmihaa.Ng
namespace Go.Proofs.Ytclplbapedmihaa.Ng
set_option maxRecDepth 4000
open Go.RowKit
set_option linter.unusedVariables false
set_option linter.unusedSimpArgs false
/-- Nothing that was there has turned; or nothing but one block. -/
def OB (o : Option Nat) (w w' : World) : Prop := match o with
  | none => Below w.heap.size w w'
  | some g => Only g w w'
theorem OB.refl (o : Option Nat) (w : World) : OB o w w := by cases o with
  | none => exact Below.refl _ _
  | some g => exact Only.refl _ _
theorem OB.size {o : Option Nat} {w w' : World} (h : OB o w w') : w.heap.size ≤ w'.heap.size := by cases o with
  | none => exact Below.size h
  | some g => exact Only.size h
theorem OB.trans {o : Option Nat} {a b c : World} (h : OB o a b) (k : OB o b c) : OB o a c := by cases o with
  | none => exact Below.trans h (Below.mono k (Below.size h))
  | some g => exact Only.trans h k
theorem OB.after {o : Option Nat} {a b c : World} (h : OB o a b) (ho : ∀ g, o = some g → g < a.heap.size) (k : Below a.heap.size b c) : OB o a c := by cases o with
  | none => exact Below.trans h k
  | some g =>
    have hg := ho g rfl
    exact ⟨Nat.le_trans (Only.size h) k.size, fun B w0 hB hb => ((Only.below h) B w0 hB hb).trans (k.mono (by omega)), fun i hi hn => by rw [k.block i hi, Only.heap h i hi hn]⟩
theorem OB.below {o : Option Nat} {w0 w w' : World} (h : OB o w w') (hg : ∀ g, o = some g → w0.heap.size ≤ g) (hb : Below w0.heap.size w0 w) : Below w0.heap.size w0 w' := by cases o with
  | none => exact hb.trans (Below.mono h hb.size)
  | some g => exact Only.below h _ _ (hg g rfl) hb
theorem OB.own {o : Option Nat} {w w' : World} {base : Nat} {e : TypeId} {size n : Nat} {v : Value} {xs : List Value} (h : OB o w w') (hg : ∀ g, o = some g → g < base) (hr : w.ownsRow base e size v n xs) : w'.ownsRow base e size v n xs := by cases o with
  | none => exact ownsRow_below hr h
  | some g => exact ownsRow_only hr h (hg g rfl)
theorem OB.to {o : Option Nat} {w w' : World} {base : Nat} {v : Value} {ts : List O.Tg} (h : OB o w w') (hg : ∀ g, o = some g → g < base) (hr : O.TO w base v ts) : O.TO w' base v ts :=
  ⟨h.own hg hr.own, fun t ht => h.own hg (hr.vals t ht)⟩
theorem OB.heap {o : Option Nat} {w w' : World} {k : Nat} {x : Obj} (h : OB o w w') (hk : o ≠ some k) (hx : w.heap[k]? = some x) : w'.heap[k]? = some x := by cases o with
  | none => exact heap_below hx h
  | some g => rw [Only.heap h k (Array.getElem?_eq_some_iff.1 hx).1 (fun e => hk (by rw [e]))]; exact hx
/-- What stays of the first k. -/
def outs (out : Nat → Option PT) (k : Nat) : List PT := (List.range k).filterMap out
end Go.Proofs.Ytclplbapedmihaa.Ng
namespace Go.Proofs.Ytclplbapedmihaa.Ng
set_option maxRecDepth 4000
open Go.RowKit O
set_option linter.unusedVariables false
set_option linter.unusedSimpArgs false
end Go.Proofs.Ytclplbapedmihaa.Ng
namespace Go.Proofs.Ytclplbapedmihaa.Ng
set_option maxRecDepth 4000
open Go.RowKit O
set_option linter.unusedVariables false
set_option linter.unusedSimpArgs false
end Go.Proofs.Ytclplbapedmihaa.Ng
namespace Go.Proofs.Ytclplbapedmihaa.Ng
set_option maxRecDepth 4000
open Go.RowKit O
set_option linter.unusedVariables false
set_option linter.unusedSimpArgs false
end Go.Proofs.Ytclplbapedmihaa.Ng
namespace Go.Proofs.Ytclplbapedmihaa.Ng
set_option maxRecDepth 4000
open Go.RowKit O
set_option linter.unusedVariables false
set_option linter.unusedSimpArgs false
/-- What a function tells that tells a code and options of its own. -/
def ARes (x : Int × List PT) (w : World) (e : Ending) (w' : World) : Prop := ∃ v us, e = .returned (.tuple #[.int .i64 x.1, v]) ∧ plain us = x.2 ∧ TO w' w.heap.size v us ∧ Below w.heap.size w w'
theorem ARes.of {x : Int × List PT} {w w' : World} (k : Int) (l : List PT) (v : Value) (us : List Tg) (h : x = (k, l)) (h1 : plain us = l) (h2 : TO w' w.heap.size v us) (h3 : Below w.heap.size w w') : ARes x w (.returned (.tuple #[.int .i64 k, v])) w' := by
  subst h
  exact ⟨v, us, rfl, h1, h2, h3⟩
end Go.Proofs.Ytclplbapedmihaa.Ng
namespace Go.Proofs.Ytclplbapedmihaa.Ng
set_option maxRecDepth 4000
open Go.RowKit Go.Shelf O
open Go.Maps (Keyed)
set_option linter.unusedVariables false
set_option linter.unusedSimpArgs false
def I64 (k : Int) : Prop := -9223372036854775808 ≤ k ∧ k ≤ 9223372036854775807
theorem I64.wf {k : Int} (h : I64 k) : (Lit.int .i64 k).wf = true := by
  show (decide (-9223372036854775808 ≤ k) && decide (k ≤ 9223372036854775807)) = true
  simp [h.1, h.2]
/-- Block b is a map of n entries that reads as f. -/
def FM (w : World) (b : Nat) (f : Int → Option Nat) (n : Nat) : Prop :=
  ∃ D, w.ownsMap Try.prog 3 (plainElem (H := Unit) Try.prog 3) b n D ∧ Maps.size D = n ∧ ∀ k, I64 k → Maps.has D (.int .i64 k) = (f k).isSome ∧ D.atKey (.int .i64 k) (.lit (.int .i64 0)) = .lit (.int .i64 (((f k).getD 0 : Nat) : Int))
theorem FM.lt {w : World} {b n : Nat} {f : Int → Option Nat} (h : FM w b f n) : b < w.heap.size := by
  obtain ⟨D, h1, _⟩ := h
  exact h1.lt
theorem FM.keep {w w' : World} {b n : Nat} {f : Int → Option Nat} (h : FM w b f n) (hb : w'.heap[b]? = w.heap[b]?) : FM w' b f n := by
  obtain ⟨D, ⟨a, c, h1, h2⟩, h3⟩ := h
  exact ⟨D, ⟨a, c, hb.trans h1, h2⟩, h3⟩
theorem FM.made (w : World) : FM (w.alloc (.map #[] 0)) w.heap.size (fun _ => none) 0 :=
  ⟨.map [], World.ownsMap_made _ _ _ _, rfl, fun k hk => ⟨rfl, rfl⟩⟩
theorem FM.copy {w : World} {b n : Nat} {f : Int → Option Nat} (h : FM w b f n) : ∃ a c, w.heap[b]? = some (.map a c) ∧ ∀ w' b', w'.heap[b']? = some (.map a c) → FM w' b' f n := by
  obtain ⟨D, ⟨a, c, h1, h2, h4, h5⟩, h3⟩ := h
  exact ⟨a, c, h1, fun w' b' hb => ⟨D, ⟨a, c, hb, h2, h4, h5⟩, h3⟩⟩
theorem FM.below {w w' : World} {b n : Nat} {f : Int → Option Nat} (h : FM w b f n) (hb : Below w.heap.size w w') : FM w' b f n := h.keep (hb.block _ h.lt)
section
variable {P : Program} {α : Type} {g : Operand} {ps : Array Tmp} {assign body : Code} {Q : Exit → Act → World → Prop} {a : Act} {w : World}
end
section
attribute [local go_sem] Oper.semAt_some
end
end Go.Proofs.Ytclplbapedmihaa.Ng
namespace Go.Proofs.Ytclplbapedmihaa.Ng
set_option maxRecDepth 4000
open Go.RowKit Go.Shelf O
set_option linter.unusedVariables false
set_option linter.unusedSimpArgs false
section
attribute [local go_sem] Oper.semAt_some
end
end Go.Proofs.Ytclplbapedmihaa.Ng
namespace Go.Proofs.Ytclplbapedmihaa.Ng
set_option maxRecDepth 4000
open Go.RowKit O
set_option linter.unusedVariables false
set_option linter.unusedSimpArgs false
theorem bytes_ne {l m : List UInt8} (h : ¬ l = m) : (l == m) = false := beq_eq_false_iff_ne.2 h
theorem bytesEqual_any (a b : Option Addr) (n n' c c' : Nat) (l m : List UInt8) (w : World) (h : Bs w (.slice a n c) l) (h' : Bs w (.slice b n' c') m) :
    Calls Try.prog 48 #[.slice a n c, .slice b n' c'] w fun e w' => e = .returned (.bool (decide (l = m))) ∧ w = w' := by
  have s1 := run_string_of (P := Try.prog) 29 9 5 Try.underlying29 Try.underlying5 Try.underlying9 h
  have s2 := run_string_of (P := Try.prog) 29 9 5 Try.underlying29 Try.underlying5 Try.underlying9 h'
  by_cases hd : l = m
  · have e : decide (l = m) = true := decide_eq_true hd
    rw [e]
    subst hd
    clear h h' e
    go_enter Try.func48, Try.ntmps48
    go_wp2
    go_ret
    exact ⟨rfl, rfl⟩
  · have e : decide (l = m) = false := decide_eq_false hd
    rw [e]
    have hb := bytes_ne hd
    clear h h' hd e
    go_enter Try.func48, Try.ntmps48
    go_wp2
    go_ret
    exact ⟨rfl, rfl⟩
theorem TR.tail {w : World} {a : Option Addr} {m c : Nat} {us : List Tg} (h : TR w (.slice a m c) m us) (hm : 1 ≤ m) :
    ∃ a', (∀ w', (Instr.slice 26 (.slice a m c) (some (.int .i64 1)) none none).run Try.prog w' = .ok (.slice a' (m - 1) (c - 1)) w') ∧ TR w (.slice a' (m - 1) (c - 1)) (m - 1) (us.drop 1) := by
  obtain ⟨i0, hi, hz0, hz1, hz2⟩ := info_parts infoT
  obtain ⟨a', h1, h2⟩ := slice_from (P := Try.prog) Try.underlying26 hi hz1 h.rd .i64 1 1 rfl hm
  refine ⟨a', h1, ?_, fun t ht => h.vals t (List.mem_of_mem_drop ht)⟩
  have e : (flat us).drop (1 * 2) = flat (us.drop 1) := by
    cases us with
    | nil => rfl
    | cons x r => rfl
  rw [e] at h2
  exact h2
end Go.Proofs.Ytclplbapedmihaa.Ng
namespace Go.Proofs.Ytclplbapedmihaa.Ng
set_option maxRecDepth 4000
open Go.RowKit O
set_option linter.unusedVariables false
set_option linter.unusedSimpArgs false
/-- What Learn tells. -/
def LRes (x : List PT × Bool) (w : World) (e : Ending) (w' : World) : Prop := ∃ v us, e = .returned (.tuple #[v, .bool x.2]) ∧ plain us = x.1 ∧ TO w' w.heap.size v us ∧ Below w.heap.size w w'
theorem LRes.of {x : List PT × Bool} {w w' : World} (l : List PT) (b : Bool) (v : Value) (us : List Tg) (h : x = (l, b)) (h1 : plain us = l) (h2 : TO w' w.heap.size v us) (h3 : Below w.heap.size w w') : LRes x w (.returned (.tuple #[v, .bool b])) w' := by
  subst h
  exact ⟨v, us, rfl, h1, h2, h3⟩
end Go.Proofs.Ytclplbapedmihaa.Ng
namespace Go.Proofs.Ytclplbapedmihaa.Ng
set_option maxRecDepth 4000
open Go.RowKit
set_option linter.unusedVariables false
set_option linter.unusedSimpArgs false
theorem limit_any (k : Nat) (hk : k ≤ 4) (w : World) :
    Calls Try.prog 42 #[.int .i64 (k : Int)] w fun e w' => e = .returned (.int .i64 (lim (k : Int))) ∧ w = w' := by
  go_enter Try.func42, Try.ntmps42
  go_wp2
  go_loopw [3, 4] (fun nv iv wr => ∃ j M : Nat, j ≤ k ∧ M = 256 ^ j ∧ iv = .int .i64 j ∧ nv = .int .i64 (M : Nat) ∧ w = wr) (fun _ iv _ => k - (intOf iv).toNat)
  case atStart => exact ⟨0, 1, Nat.zero_le _, rfl, rfl, rfl, rfl⟩
  case round =>
    obtain ⟨j, M, hj, hM, rfl, rfl, rfl⟩ := hrel
    have hM4 : M ≤ 4294967296 := by rw [hM]; exact Nat.pow_le_pow_right (by decide) (show j ≤ 4 by omega)
    have HM := Lib.hid hM
    clear hM
    by_cases hlt : j < k
    · go_wp2
      go_roundw
      case rel => exact ⟨j + 1, M * 256, by omega, by rw [HM.out, Nat.pow_succ], by go_num, by go_num, trivial⟩
      case measure => simp [intOf]; omega
    · obtain rfl : j = k := by omega
      have HL : Hid (lim (j : Int) = (M : Int)) := by
        show _ = _
        unfold lim
        rw [Int.toNat_natCast, HM.out]
        simp
      go_wp2
      go_ret
      exact ⟨by rw [HL.out]; rfl, rfl⟩
theorem below_any (n m : Int) (w : World) :
    Calls Try.prog 43 #[.int .i64 n, .int .i64 m] w fun e w' => e = .returned (.bool (decide (0 ≤ n ∧ n < m))) ∧ w = w' := by
  by_cases h1 : 0 ≤ n
  · go_enter Try.func43, Try.ntmps43
    go_wp2
    go_ret
    refine ⟨by simp [h1]; try (intros; omega), rfl⟩
  · go_enter Try.func43, Try.ntmps43
    go_wp2
    go_ret
    refine ⟨by simp [h1]; try (intros; omega), rfl⟩
set_option maxRecDepth 20000 in
theorem rtakes_any (r : Ru) (n : Int) (w : World) :
    Calls Try.prog 44 #[.agg #[.int .i64 r.typ, .int .i64 r.size, .int .i64 r.kind, .int .i64 r.low, .int .i64 r.high, .int .i64 r.good, .bool r.must], .int .i64 n] w fun e w' => e = .returned (.bool (takes r n)) ∧ Below w.heap.size w w' := by
  have hal : Gr w (w.alloc (.cells #[.int .i64 r.typ, .int .i64 r.size, .int .i64 r.kind, .int .i64 r.low, .int .i64 r.high, .int .i64 r.good, .bool r.must] 68)) := (Gr.refl w).alloc _
  have HAL := Lib.hid hal
  obtain ⟨x0, x1, x2, x3, x4, x5, x6⟩ := cells7 (heap_alloc_last w (.cells #[.int .i64 r.typ, .int .i64 r.size, .int .i64 r.kind, .int .i64 r.low, .int .i64 r.high, .int .i64 r.good, .bool r.must] 68))
  clear hal
  by_cases h1 : r.kind = 1
  · have e : takes r n = true := by unfold takes; rw [if_pos h1]
    rw [e]
    have e1 : (r.kind == 1) = true := by simpa using h1
    clear h1 e
    go_enter Try.func44, Try.ntmps44
    go_wp2
    go_ret
    exact ⟨rfl, HAL.out⟩
  have e1 : (r.kind == 1) = false := by simpa using h1
  by_cases h2 : r.kind = 2
  · have e : takes r n = decide (r.low ≤ n ∧ n ≤ r.high) := by unfold takes; rw [if_neg h1, if_pos h2]
    rw [e]
    have e2 : (r.kind == 2) = true := by simpa using h2
    clear h1 h2 e
    by_cases hlo : r.low ≤ n
    · go_enter Try.func44, Try.ntmps44
      go_wp2
      go_ret
      exact ⟨by simp [hlo], HAL.out⟩
    · go_enter Try.func44, Try.ntmps44
      go_wp2
      go_ret
      exact ⟨by simp [hlo]; try (intros; omega), HAL.out⟩
  have e2 : (r.kind == 2) = false := by simpa using h2
  by_cases h3 : r.kind = 3
  · have e : takes r n = decide (n = r.good) := by unfold takes; rw [if_neg h1, if_neg h2, if_pos h3]
    rw [e]
    have e3 : (r.kind == 3) = true := by simpa using h3
    clear h1 h2 h3 e
    go_enter Try.func44, Try.ntmps44
    go_wp2
    go_ret
    exact ⟨by simp [Bool.beq_eq_decide_eq], HAL.out⟩
  have e3 : (r.kind == 3) = false := by simpa using h3
  by_cases h4 : r.kind = 4
  · have e : takes r n = decide (n ≠ r.low) := by unfold takes; rw [if_neg h1, if_neg h2, if_neg h3, if_pos h4]
    rw [e]
    have e4 : (r.kind == 4) = true := by simpa using h4
    clear h1 h2 h3 h4 e
    go_enter Try.func44, Try.ntmps44
    go_wp2
    go_ret
    exact ⟨by simp [bne, Bool.beq_eq_decide_eq], HAL.out⟩
  have e4 : (r.kind == 4) = false := by simpa using h4
  have e : takes r n = false := by unfold takes; rw [if_neg h1, if_neg h2, if_neg h3, if_neg h4]
  rw [e]
  clear h1 h2 h3 h4 e
  go_enter Try.func44, Try.ntmps44
  go_wp2
  go_ret
  exact ⟨rfl, HAL.out⟩
set_option maxRecDepth 20000 in
set_option maxHeartbeats 2000000 in
theorem ris_any (r : Ru) (w : World) : Calls Try.prog 31 #[.agg #[.int .i64 r.typ, .int .i64 r.size, .int .i64 r.kind, .int .i64 r.low, .int .i64 r.high, .int .i64 r.good, .bool r.must]] w fun e w' => e = .returned (.bool (decide (isR r))) ∧ Below w.heap.size w w' := by
  have hg : (w.alloc (.cells #[.int .i64 r.typ, .int .i64 r.size, .int .i64 r.kind, .int .i64 r.low, .int .i64 r.high, .int .i64 r.good, .bool r.must] 68)).heap[w.heap.size]? = some (.cells #[.int .i64 r.typ, .int .i64 r.size, .int .i64 r.kind, .int .i64 r.low, .int .i64 r.high, .int .i64 r.good, .bool r.must] 68) := heap_alloc_last _ _
  have HB : Hid (Below w.heap.size w (w.alloc (.cells #[.int .i64 r.typ, .int .i64 r.size, .int .i64 r.kind, .int .i64 r.low, .int .i64 r.high, .int .i64 r.good, .bool r.must] 68))) := (Below.refl _ _).alloc (Nat.le_refl _) _
  obtain ⟨k0, k1, k2, k3, k4, k5, k6⟩ := cells7 hg
  clear hg
  obtain ⟨bad, hbad⟩ : ∃ b, b = decide (¬ (1 ≤ r.typ ∧ r.typ ≤ 255 ∧ 0 ≤ r.size ∧ r.size ≤ 4 ∧ (r.size = 0 → r.kind = 1))) := ⟨_, rfl⟩
  have HBAD := Lib.hid hbad
  clear hbad
  go_enter Try.func31, Try.ntmps31
  go_upto_region 1 with fail
  generalize (w.alloc (.cells #[.int .i64 r.typ, .int .i64 r.size, .int .i64 r.kind, .int .i64 r.low, .int .i64 r.high, .int .i64 r.good, .bool r.must] 68)) = w1 at k0 k1 k2 k3 k4 k5 k6 HB ⊢
  go_cut [31] (fun s wx => s = .bool bad ∧ w1 = wx)
  case first =>
    by_cases h1 : r.typ < 1
    · obtain rfl : bad = true := by rw [HBAD.out]; exact decide_eq_true (by omega)
      go_wp2
      go_meet
      exact ⟨rfl, rfl⟩
    by_cases h2 : 255 < r.typ
    · obtain rfl : bad = true := by rw [HBAD.out]; exact decide_eq_true (by omega)
      go_wp2
      go_meet
      exact ⟨rfl, rfl⟩
    by_cases h3 : r.size < 0
    · obtain rfl : bad = true := by rw [HBAD.out]; exact decide_eq_true (by omega)
      go_wp2
      go_meet
      exact ⟨rfl, rfl⟩
    by_cases h4 : 4 < r.size
    · obtain rfl : bad = true := by rw [HBAD.out]; exact decide_eq_true (by omega)
      go_wp2
      go_meet
      exact ⟨rfl, rfl⟩
    by_cases h5 : r.size = 0
    · by_cases h6 : r.kind = 1
      · obtain rfl : bad = false := by rw [HBAD.out]; exact decide_eq_false (by omega)
        have e5 : (r.size == 0) = true := by simpa using h5
        have e6 : (r.kind != 1) = false := by simpa using h6
        clear h5 h6
        go_wp2
        go_meet
        exact ⟨rfl, rfl⟩
      · obtain rfl : bad = true := by rw [HBAD.out]; exact decide_eq_true (by omega)
        have e5 : (r.size == 0) = true := by simpa using h5
        have e6 : (r.kind != 1) = true := by simpa using h6
        clear h5 h6
        go_wp2
        go_meet
        exact ⟨rfl, rfl⟩
    · obtain rfl : bad = false := by rw [HBAD.out]; exact decide_eq_false (by omega)
      have e5 : (r.size == 0) = false := by simpa using h5
      clear h5
      go_wp2
      go_meet
      exact ⟨rfl, rfl⟩
  case rest =>
    obtain ⟨rfl, rfl⟩ := hcut
    cases bad with
    | true =>
      have h := of_decide_eq_true HBAD.out.symm
      have HN : Hid (¬ isR r) := fun hr => h ⟨hr.1, hr.2.1, hr.2.2.1, hr.2.2.2.1, hr.2.2.2.2.1⟩
      clear h
      go_wp2
      go_ret
      exact ⟨by rw [decide_eq_false HN.out]; rfl, HB.out⟩
    | false =>
      have h := of_decide_eq_false HBAD.out.symm
      have HOK : Hid (1 ≤ r.typ ∧ r.typ ≤ 255 ∧ 0 ≤ r.size ∧ r.size ≤ 4 ∧ (r.size = 0 → r.kind = 1)) := Classical.byContradiction h
      clear h
      obtain ⟨n, hn⟩ : ∃ n : Nat, r.size = (n : Int) := ⟨r.size.toNat, by have := HOK.out.2.2.1; omega⟩
      have hn4 : n ≤ 4 := by have := HOK.out.2.2.2.1; omega
      have LM := Lib.hid (limit_any n hn4 w1)
      rw [← hn] at LM
      obtain ⟨M, hM⟩ : ∃ M, M = lim r.size := ⟨_, rfl⟩
      rw [← hM] at LM
      have HM := Lib.hid hM
      clear hn hn4 hM
      have I3 := Lib.hid (below_any r.low M w1)
      have I4 := Lib.hid (below_any r.high M w1)
      have I5 := Lib.hid (below_any r.good M w1)
      have TK := Lib.hid (rtakes_any r r.good w1)
      go_wp2_with fail
      refine LM.out.mono ?_
      rintro e w' ⟨rfl, rfl⟩
      by_cases h3 : 0 ≤ r.low ∧ r.low < M
      · rw [decide_eq_true h3] at I3
        have H3 := Lib.hid h3
        clear h3
        by_cases h4 : 0 ≤ r.high ∧ r.high < M
        · rw [decide_eq_true h4] at I4
          have H4 := Lib.hid h4
          clear h4
          by_cases h5 : 0 ≤ r.good ∧ r.good < M
          · rw [decide_eq_true h5] at I5
            have H5 := Lib.hid h5
            clear h5
            by_cases h6 : r.kind = 2 ∧ ¬ r.low ≤ r.high
            · have HN : Hid (¬ isR r) := fun h => h6.2 (h.2.2.2.2.2.2.2.2.2.2.2.1 h6.1)
              obtain ⟨h61, h62⟩ := h6
              have e6 : (r.kind != 2) = false := by simpa using h61
              clear h61
              go_wp2_with fail
              refine I3.out.mono ?_
              rintro e w' ⟨rfl, rfl⟩
              go_wp2_with fail
              refine I4.out.mono ?_
              rintro e w' ⟨rfl, rfl⟩
              go_wp2_with fail
              refine I5.out.mono ?_
              rintro e w' ⟨rfl, rfl⟩
              go_wp2
              go_ret
              exact ⟨by rw [decide_eq_false HN.out]; rfl, HB.out⟩
            · have H6 : Hid (r.kind = 2 → r.low ≤ r.high) := fun hk => Classical.byContradiction fun h => h6 ⟨hk, h⟩
              have HE : Hid (decide (isR r) = takes r r.good) := by
                show _ = _
                have h1 := HOK.out
                have hm := HM.out
                have a3 := H3.out
                have a4 := H4.out
                have a5 := H5.out
                rw [hm] at a3 a4 a5
                rw [Bool.eq_iff_iff, decide_eq_true_eq]
                exact ⟨fun h => h.2.2.2.2.2.2.2.2.2.2.2.2, fun h => ⟨h1.1, h1.2.1, h1.2.2.1, h1.2.2.2.1, h1.2.2.2.2, a3.1, a3.2, a4.1, a4.2, a5.1, a5.2, H6.out, h⟩⟩
              clear h6
              by_cases h7 : r.kind = 2
              · have e7 : (r.kind != 2) = false := by simpa using h7
                have h8 := H6.out h7
                clear h7
                go_wp2_with fail
                refine I3.out.mono ?_
                rintro e w' ⟨rfl, rfl⟩
                go_wp2_with fail
                refine I4.out.mono ?_
                rintro e w' ⟨rfl, rfl⟩
                go_wp2_with fail
                refine I5.out.mono ?_
                rintro e w' ⟨rfl, rfl⟩
                go_wp2_with fail
                refine TK.out.mono ?_
                rintro e w' ⟨rfl, hb⟩
                have HB2 := Lib.hid (HB.out.trans (hb.mono HB.out.size))
                clear hb
                go_wp2
                go_ret
                exact ⟨by rw [HE.out]; rfl, HB2.out⟩
              · have e7 : (r.kind != 2) = true := by simpa using h7
                clear h7
                go_wp2_with fail
                refine I3.out.mono ?_
                rintro e w' ⟨rfl, rfl⟩
                go_wp2_with fail
                refine I4.out.mono ?_
                rintro e w' ⟨rfl, rfl⟩
                go_wp2_with fail
                refine I5.out.mono ?_
                rintro e w' ⟨rfl, rfl⟩
                go_wp2_with fail
                refine TK.out.mono ?_
                rintro e w' ⟨rfl, hb⟩
                have HB2 := Lib.hid (HB.out.trans (hb.mono HB.out.size))
                clear hb
                go_wp2
                go_ret
                exact ⟨by rw [HE.out]; rfl, HB2.out⟩
          · rw [decide_eq_false h5] at I5
            have HN : Hid (¬ isR r) := fun h => h5 (by rw [HM.out]; exact ⟨h.2.2.2.2.2.2.2.2.2.1, h.2.2.2.2.2.2.2.2.2.2.1⟩)
            clear h5
            go_wp2_with fail
            refine I3.out.mono ?_
            rintro e w' ⟨rfl, rfl⟩
            go_wp2_with fail
            refine I4.out.mono ?_
            rintro e w' ⟨rfl, rfl⟩
            go_wp2_with fail
            refine I5.out.mono ?_
            rintro e w' ⟨rfl, rfl⟩
            go_wp2
            go_ret
            exact ⟨by rw [decide_eq_false HN.out]; rfl, HB.out⟩
        · rw [decide_eq_false h4] at I4
          have HN : Hid (¬ isR r) := fun h => h4 (by rw [HM.out]; exact ⟨h.2.2.2.2.2.2.2.1, h.2.2.2.2.2.2.2.2.1⟩)
          clear h4
          go_wp2_with fail
          refine I3.out.mono ?_
          rintro e w' ⟨rfl, rfl⟩
          go_wp2_with fail
          refine I4.out.mono ?_
          rintro e w' ⟨rfl, rfl⟩
          go_wp2
          go_ret
          exact ⟨by rw [decide_eq_false HN.out]; rfl, HB.out⟩
      · rw [decide_eq_false h3] at I3
        have HN : Hid (¬ isR r) := fun h => h3 (by rw [HM.out]; exact ⟨h.2.2.2.2.2.1, h.2.2.2.2.2.2.1⟩)
        clear h3
        go_wp2_with fail
        refine I3.out.mono ?_
        rintro e w' ⟨rfl, rfl⟩
        go_wp2
        go_ret
        exact ⟨by rw [decide_eq_false HN.out]; rfl, HB.out⟩
end Go.Proofs.Ytclplbapedmihaa.Ng
namespace Go.Proofs.Ytclplbapedmihaa.Ng
set_option maxRecDepth 4000
open Go.RowKit O
set_option linter.unusedVariables false
set_option linter.unusedSimpArgs false
theorem cellB' {B b o : Nat} {w w' : World} {v : Value} (hb : Below B w w') (h : b < B) (hc : w.cell? ⟨b, o, none⟩ = some v) : w'.cell? ⟨b, o, none⟩ = some v := by
  rw [World.cell?_of_block (w := w) (hb.block b h)]; exact hc
set_option maxRecDepth 20000 in
set_option maxHeartbeats 4000000 in
theorem are_any (ao : Option Addr) (n c : Nat) (rs : List Ru) (w : World) (hr : RR w (.slice ao n c) n rs) :
    Calls Try.prog 17 #[.slice ao n c] w fun e w' => e = .returned (.bool (decide (areR rs))) ∧ Below w.heap.size w w' := by
  have hl := hr.len
  have HR := Lib.hid hr
  clear hr
  by_cases h16 : n ≤ 16
  · go_enter Try.func17, Try.ntmps17
    go_wp2
    go_loopw [3, 4] (fun iv kv wr => ∃ (i : Nat) (lv : Value), i ≤ n ∧ iv = .int .i64 (i : Int) ∧ lv = kv ∧ okTo rs i ∧ Below w.heap.size w wr) (fun iv _ _ => n - (intOf iv).toNat)
    case atStart => exact ⟨0, _, Nat.zero_le _, rfl, rfl, fun j hj h => by omega, Below.refl _ _⟩
    case round =>
      obtain ⟨i, lv, hi, rfl, rfl, hok, hb⟩ := hrel
      have HOK := Lib.hid hok
      have HB := Lib.hid hb
      have HBN := Lib.hid hb.size
      clear hok hb
      by_cases hlt : i < n
      · obtain ⟨b, o, rfl, hbl, hc⟩ := HR.out.cells (by omega)
        have HCC := Lib.hid hc
        obtain ⟨wA, hwA⟩ : ∃ x, x = wr := ⟨_, rfl⟩
        subst hwA
        obtain ⟨r, hr⟩ : ∃ r, r = rs[i] := ⟨_, rfl⟩
        have hcw : ∀ w', Below w.heap.size w w' → _ := fun w' hb => And.intro (cellB' hb hbl (hc i (by omega)).1) (And.intro (cellB' hb hbl (hc i (by omega)).2.1) (And.intro (cellB' hb hbl (hc i (by omega)).2.2.1) (And.intro (cellB' hb hbl (hc i (by omega)).2.2.2.1) (And.intro (cellB' hb hbl (hc i (by omega)).2.2.2.2.1) (And.intro (cellB' hb hbl (hc i (by omega)).2.2.2.2.2.1) (cellB' hb hbl (hc i (by omega)).2.2.2.2.2.2))))))
        rw [← hr] at hcw
        have HCW := Lib.hid hcw
        obtain ⟨c0, c1, c2, c3, c4, c5, c6⟩ := hcw wA HB.out
        have HRK := Lib.hid hr
        have IS := Lib.hid (ris_any r wA)
        have hin : (i : Int) < (n : Int) := by omega
        clear hr hc hcw
        by_cases his : isR r
        · rw [decide_eq_true his] at IS
          have HIS := Lib.hid his
          clear his
          go_wp2_with fail
          refine IS.out.mono ?_
          rintro e w2 ⟨rfl, hb2⟩
          have HB2 := Lib.hid (HB.out.trans (hb2.mono HBN.out))
          clear hb2 c0 c1 c2 c3 c4 c5 c6 IS
          go_wp2
          go_loopw [4] (fun kv wr => ∃ k : Nat, k ≤ i ∧ kv = .int .i64 (k : Int) ∧ (∀ j (hj : j < k) (h2 : j < rs.length), rs[j].typ ≠ r.typ) ∧ Below w.heap.size w wr) (fun kv _ => i - (intOf kv).toNat)
          case atStart => exact ⟨0, Nat.zero_le _, rfl, fun j hj => by omega, HB2.out⟩
          case round =>
            obtain ⟨k, hk, rfl, hne, hb3⟩ := hrel
            have HNE := Lib.hid hne
            have HB3 := Lib.hid hb3
            clear hne hb3
            by_cases hlt2 : k < i
            · have HK0 := Lib.hid (HCC.out k (by omega)).1
              have HI0 := Lib.hid (HCW.out w (Below.refl _ _)).1
              obtain ⟨T, hT⟩ : ∃ T, T = rs[k].typ := ⟨_, rfl⟩
              rw [← hT] at HK0
              have HTT := Lib.hid hT
              have hkn : k < n := by omega
              have hkn2 : (k : Int) < (n : Int) := by omega
              have hki : (k : Int) < (i : Int) := by omega
              clear hT
              by_cases ht : T = r.typ
              · have HN : Hid (¬ areR rs) := fun h => by
                  have := (((areR_iff rs).1 h).2 i (by omega) (by omega)).2 k hlt2
                  exact this (by rw [← HTT.out, ← HRK.out, ht])
                have hte : (T == r.typ) = true := by simpa using ht
                clear ht
                go_upto_region 11 with fail
                refine wp_region_G 11 Gr (by kernel_rfl) ?_
                -- 0: slot 25
                refine wpG_take preGr (i := 0) (v := ?_) (by kernel_rfl) (some 25) (by kernel_rfl) rfl (by kernel_rfl) (by kernel_rfl) (by kernel_rfl) (fun _ _ _ h => h) (by rfl) (fun w' hw' => ?_) rfl ?_
                rotate_left
                · try have g0 := cellB' (HB3.out.drew.trans (hw'.mono HB3.out.size)) hbl HK0.out
                  try have g1 := cellB' (HB3.out.drew.trans (hw'.mono HB3.out.size)) hbl HI0.out
                  go_simp
                  with_reducible rfl
                simp only [Act.put, List.setIfInBounds_toArray, List.set_cons_zero, List.set_cons_succ]
                -- 1: slot 26
                refine wpG_take preGr (i := 1) (v := ?_) (by kernel_rfl) (some 26) (by kernel_rfl) rfl (by kernel_rfl) (by kernel_rfl) (by kernel_rfl) (fun _ _ _ h => h) (by rfl) (fun w' hw' => ?_) rfl ?_
                rotate_left
                · try have g0 := cellB' (HB3.out.drew.trans (hw'.mono HB3.out.size)) hbl HK0.out
                  try have g1 := cellB' (HB3.out.drew.trans (hw'.mono HB3.out.size)) hbl HI0.out
                  go_simp
                  with_reducible rfl
                simp only [Act.put, List.setIfInBounds_toArray, List.set_cons_zero, List.set_cons_succ]
                -- 2: slot 27
                refine wpG_take preGr (i := 2) (v := ?_) (by kernel_rfl) (some 27) (by kernel_rfl) rfl (by kernel_rfl) (by kernel_rfl) (by kernel_rfl) (fun _ _ _ h => h) (by rfl) (fun w' hw' => ?_) rfl ?_
                rotate_left
                · try have g0 := cellB' (HB3.out.drew.trans (hw'.mono HB3.out.size)) hbl HK0.out
                  try have g1 := cellB' (HB3.out.drew.trans (hw'.mono HB3.out.size)) hbl HI0.out
                  go_simp
                  with_reducible rfl
                simp only [Act.put, List.setIfInBounds_toArray, List.set_cons_zero, List.set_cons_succ]
                -- 3: slot 28
                refine wpG_take preGr (i := 3) (v := ?_) (by kernel_rfl) (some 28) (by kernel_rfl) rfl (by kernel_rfl) (by kernel_rfl) (by kernel_rfl) (fun _ _ _ h => h) (by rfl) (fun w' hw' => ?_) rfl ?_
                rotate_left
                · try have g0 := cellB' (HB3.out.drew.trans (hw'.mono HB3.out.size)) hbl HK0.out
                  try have g1 := cellB' (HB3.out.drew.trans (hw'.mono HB3.out.size)) hbl HI0.out
                  go_simp
                  with_reducible rfl
                simp only [Act.put, List.setIfInBounds_toArray, List.set_cons_zero, List.set_cons_succ]
                -- 4: slot 29
                refine wpG_take preGr (i := 4) (v := ?_) (by kernel_rfl) (some 29) (by kernel_rfl) rfl (by kernel_rfl) (by kernel_rfl) (by kernel_rfl) (fun _ _ _ h => h) (by rfl) (fun w' hw' => ?_) rfl ?_
                rotate_left
                · try have g0 := cellB' (HB3.out.drew.trans (hw'.mono HB3.out.size)) hbl HK0.out
                  try have g1 := cellB' (HB3.out.drew.trans (hw'.mono HB3.out.size)) hbl HI0.out
                  go_simp
                  with_reducible rfl
                simp only [Act.put, List.setIfInBounds_toArray, List.set_cons_zero, List.set_cons_succ]
                -- 5: slot 30
                refine wpG_take preGr (i := 5) (v := ?_) (by kernel_rfl) (some 30) (by kernel_rfl) rfl (by kernel_rfl) (by kernel_rfl) (by kernel_rfl) (fun _ _ _ h => h) (by rfl) (fun w' hw' => ?_) rfl ?_
                rotate_left
                · try have g0 := cellB' (HB3.out.drew.trans (hw'.mono HB3.out.size)) hbl HK0.out
                  try have g1 := cellB' (HB3.out.drew.trans (hw'.mono HB3.out.size)) hbl HI0.out
                  go_simp
                  with_reducible rfl
                simp only [Act.put, List.setIfInBounds_toArray, List.set_cons_zero, List.set_cons_succ]
                -- 6: slot 31
                refine wpG_take preGr (i := 6) (v := ?_) (by kernel_rfl) (some 31) (by kernel_rfl) rfl (by kernel_rfl) (by kernel_rfl) (by kernel_rfl) (fun _ _ _ h => h) (by rfl) (fun w' hw' => ?_) rfl ?_
                rotate_left
                · try have g0 := cellB' (HB3.out.drew.trans (hw'.mono HB3.out.size)) hbl HK0.out
                  try have g1 := cellB' (HB3.out.drew.trans (hw'.mono HB3.out.size)) hbl HI0.out
                  go_simp
                  with_reducible rfl
                simp only [Act.put, List.setIfInBounds_toArray, List.set_cons_zero, List.set_cons_succ]
                -- 7: slot 32
                refine wpG_take preGr (i := 7) (v := ?_) (by kernel_rfl) (some 32) (by kernel_rfl) rfl (by kernel_rfl) (by kernel_rfl) (by kernel_rfl) (fun _ _ _ h => h) (by rfl) (fun w' hw' => ?_) rfl ?_
                rotate_left
                · try have g0 := cellB' (HB3.out.drew.trans (hw'.mono HB3.out.size)) hbl HK0.out
                  try have g1 := cellB' (HB3.out.drew.trans (hw'.mono HB3.out.size)) hbl HI0.out
                  go_simp
                  with_reducible rfl
                simp only [Act.put, List.setIfInBounds_toArray, List.set_cons_zero, List.set_cons_succ]
                -- 8: slot 33
                refine wpG_take preGr (i := 8) (v := ?_) (by kernel_rfl) (some 33) (by kernel_rfl) rfl (by kernel_rfl) (by kernel_rfl) (by kernel_rfl) (fun _ _ _ h => h) (by rfl) (fun w' hw' => ?_) rfl ?_
                rotate_left
                · try have g0 := cellB' (HB3.out.drew.trans (hw'.mono HB3.out.size)) hbl HK0.out
                  try have g1 := cellB' (HB3.out.drew.trans (hw'.mono HB3.out.size)) hbl HI0.out
                  go_simp
                  with_reducible rfl
                simp only [Act.put, List.setIfInBounds_toArray, List.set_cons_zero, List.set_cons_succ]
                -- 9: slot 34
                refine wpG_take preGr (i := 9) (v := ?_) (by kernel_rfl) (some 34) (by kernel_rfl) rfl (by kernel_rfl) (by kernel_rfl) (by kernel_rfl) (fun _ _ _ h => h) (by rfl) (fun w' hw' => ?_) rfl ?_
                rotate_left
                · try have g0 := cellB' (HB3.out.drew.trans (hw'.mono HB3.out.size)) hbl HK0.out
                  try have g1 := cellB' (HB3.out.drew.trans (hw'.mono HB3.out.size)) hbl HI0.out
                  go_simp
                  with_reducible rfl
                simp only [Act.put, List.setIfInBounds_toArray, List.set_cons_zero, List.set_cons_succ]
                -- 10: slot 35
                refine wpG_take preGr (i := 10) (v := ?_) (by kernel_rfl) (some 35) (by kernel_rfl) rfl (by kernel_rfl) (by kernel_rfl) (by kernel_rfl) (fun _ _ _ h => h) (by rfl) (fun w' hw' => ?_) rfl ?_
                rotate_left
                · try have g0 := cellB' (HB3.out.drew.trans (hw'.mono HB3.out.size)) hbl HK0.out
                  try have g1 := cellB' (HB3.out.drew.trans (hw'.mono HB3.out.size)) hbl HI0.out
                  go_simp
                  with_reducible rfl
                simp only [Act.put, List.setIfInBounds_toArray, List.set_cons_zero, List.set_cons_succ]
                refine wpG_done (by kernel_rfl) ?_ _
                go_wp2
                go_ret
                exact ⟨by rw [decide_eq_false HN.out]; rfl, HB3.out.drew⟩
              · have htf : (T == r.typ) = false := by simpa using ht
                have HT := Lib.hid ht
                clear ht
                go_upto_region 11 with fail
                refine wp_region_G 11 Gr (by kernel_rfl) ?_
                -- 0: slot 25
                refine wpG_take preGr (i := 0) (v := ?_) (by kernel_rfl) (some 25) (by kernel_rfl) rfl (by kernel_rfl) (by kernel_rfl) (by kernel_rfl) (fun _ _ _ h => h) (by rfl) (fun w' hw' => ?_) rfl ?_
                rotate_left
                · try have g0 := cellB' (HB3.out.drew.trans (hw'.mono HB3.out.size)) hbl HK0.out
                  try have g1 := cellB' (HB3.out.drew.trans (hw'.mono HB3.out.size)) hbl HI0.out
                  go_simp
                  with_reducible rfl
                simp only [Act.put, List.setIfInBounds_toArray, List.set_cons_zero, List.set_cons_succ]
                -- 1: slot 26
                refine wpG_take preGr (i := 1) (v := ?_) (by kernel_rfl) (some 26) (by kernel_rfl) rfl (by kernel_rfl) (by kernel_rfl) (by kernel_rfl) (fun _ _ _ h => h) (by rfl) (fun w' hw' => ?_) rfl ?_
                rotate_left
                · try have g0 := cellB' (HB3.out.drew.trans (hw'.mono HB3.out.size)) hbl HK0.out
                  try have g1 := cellB' (HB3.out.drew.trans (hw'.mono HB3.out.size)) hbl HI0.out
                  go_simp
                  with_reducible rfl
                simp only [Act.put, List.setIfInBounds_toArray, List.set_cons_zero, List.set_cons_succ]
                -- 2: slot 27
                refine wpG_take preGr (i := 2) (v := ?_) (by kernel_rfl) (some 27) (by kernel_rfl) rfl (by kernel_rfl) (by kernel_rfl) (by kernel_rfl) (fun _ _ _ h => h) (by rfl) (fun w' hw' => ?_) rfl ?_
                rotate_left
                · try have g0 := cellB' (HB3.out.drew.trans (hw'.mono HB3.out.size)) hbl HK0.out
                  try have g1 := cellB' (HB3.out.drew.trans (hw'.mono HB3.out.size)) hbl HI0.out
                  go_simp
                  with_reducible rfl
                simp only [Act.put, List.setIfInBounds_toArray, List.set_cons_zero, List.set_cons_succ]
                -- 3: slot 28
                refine wpG_take preGr (i := 3) (v := ?_) (by kernel_rfl) (some 28) (by kernel_rfl) rfl (by kernel_rfl) (by kernel_rfl) (by kernel_rfl) (fun _ _ _ h => h) (by rfl) (fun w' hw' => ?_) rfl ?_
                rotate_left
                · try have g0 := cellB' (HB3.out.drew.trans (hw'.mono HB3.out.size)) hbl HK0.out
                  try have g1 := cellB' (HB3.out.drew.trans (hw'.mono HB3.out.size)) hbl HI0.out
                  go_simp
                  with_reducible rfl
                simp only [Act.put, List.setIfInBounds_toArray, List.set_cons_zero, List.set_cons_succ]
                -- 4: slot 29
                refine wpG_take preGr (i := 4) (v := ?_) (by kernel_rfl) (some 29) (by kernel_rfl) rfl (by kernel_rfl) (by kernel_rfl) (by kernel_rfl) (fun _ _ _ h => h) (by rfl) (fun w' hw' => ?_) rfl ?_
                rotate_left
                · try have g0 := cellB' (HB3.out.drew.trans (hw'.mono HB3.out.size)) hbl HK0.out
                  try have g1 := cellB' (HB3.out.drew.trans (hw'.mono HB3.out.size)) hbl HI0.out
                  go_simp
                  with_reducible rfl
                simp only [Act.put, List.setIfInBounds_toArray, List.set_cons_zero, List.set_cons_succ]
                -- 5: slot 30
                refine wpG_take preGr (i := 5) (v := ?_) (by kernel_rfl) (some 30) (by kernel_rfl) rfl (by kernel_rfl) (by kernel_rfl) (by kernel_rfl) (fun _ _ _ h => h) (by rfl) (fun w' hw' => ?_) rfl ?_
                rotate_left
                · try have g0 := cellB' (HB3.out.drew.trans (hw'.mono HB3.out.size)) hbl HK0.out
                  try have g1 := cellB' (HB3.out.drew.trans (hw'.mono HB3.out.size)) hbl HI0.out
                  go_simp
                  with_reducible rfl
                simp only [Act.put, List.setIfInBounds_toArray, List.set_cons_zero, List.set_cons_succ]
                -- 6: slot 31
                refine wpG_take preGr (i := 6) (v := ?_) (by kernel_rfl) (some 31) (by kernel_rfl) rfl (by kernel_rfl) (by kernel_rfl) (by kernel_rfl) (fun _ _ _ h => h) (by rfl) (fun w' hw' => ?_) rfl ?_
                rotate_left
                · try have g0 := cellB' (HB3.out.drew.trans (hw'.mono HB3.out.size)) hbl HK0.out
                  try have g1 := cellB' (HB3.out.drew.trans (hw'.mono HB3.out.size)) hbl HI0.out
                  go_simp
                  with_reducible rfl
                simp only [Act.put, List.setIfInBounds_toArray, List.set_cons_zero, List.set_cons_succ]
                -- 7: slot 32
                refine wpG_take preGr (i := 7) (v := ?_) (by kernel_rfl) (some 32) (by kernel_rfl) rfl (by kernel_rfl) (by kernel_rfl) (by kernel_rfl) (fun _ _ _ h => h) (by rfl) (fun w' hw' => ?_) rfl ?_
                rotate_left
                · try have g0 := cellB' (HB3.out.drew.trans (hw'.mono HB3.out.size)) hbl HK0.out
                  try have g1 := cellB' (HB3.out.drew.trans (hw'.mono HB3.out.size)) hbl HI0.out
                  go_simp
                  with_reducible rfl
                simp only [Act.put, List.setIfInBounds_toArray, List.set_cons_zero, List.set_cons_succ]
                -- 8: slot 33
                refine wpG_take preGr (i := 8) (v := ?_) (by kernel_rfl) (some 33) (by kernel_rfl) rfl (by kernel_rfl) (by kernel_rfl) (by kernel_rfl) (fun _ _ _ h => h) (by rfl) (fun w' hw' => ?_) rfl ?_
                rotate_left
                · try have g0 := cellB' (HB3.out.drew.trans (hw'.mono HB3.out.size)) hbl HK0.out
                  try have g1 := cellB' (HB3.out.drew.trans (hw'.mono HB3.out.size)) hbl HI0.out
                  go_simp
                  with_reducible rfl
                simp only [Act.put, List.setIfInBounds_toArray, List.set_cons_zero, List.set_cons_succ]
                -- 9: slot 34
                refine wpG_take preGr (i := 9) (v := ?_) (by kernel_rfl) (some 34) (by kernel_rfl) rfl (by kernel_rfl) (by kernel_rfl) (by kernel_rfl) (fun _ _ _ h => h) (by rfl) (fun w' hw' => ?_) rfl ?_
                rotate_left
                · try have g0 := cellB' (HB3.out.drew.trans (hw'.mono HB3.out.size)) hbl HK0.out
                  try have g1 := cellB' (HB3.out.drew.trans (hw'.mono HB3.out.size)) hbl HI0.out
                  go_simp
                  with_reducible rfl
                simp only [Act.put, List.setIfInBounds_toArray, List.set_cons_zero, List.set_cons_succ]
                -- 10: slot 35
                refine wpG_take preGr (i := 10) (v := ?_) (by kernel_rfl) (some 35) (by kernel_rfl) rfl (by kernel_rfl) (by kernel_rfl) (by kernel_rfl) (fun _ _ _ h => h) (by rfl) (fun w' hw' => ?_) rfl ?_
                rotate_left
                · try have g0 := cellB' (HB3.out.drew.trans (hw'.mono HB3.out.size)) hbl HK0.out
                  try have g1 := cellB' (HB3.out.drew.trans (hw'.mono HB3.out.size)) hbl HI0.out
                  go_simp
                  with_reducible rfl
                simp only [Act.put, List.setIfInBounds_toArray, List.set_cons_zero, List.set_cons_succ]
                refine wpG_done (by kernel_rfl) ?_ _
                go_wp2
                go_roundw
                case rel =>
                  have HN1 : ∀ j (hj : j < k + 1) (h2 : j < rs.length), rs[j].typ ≠ r.typ := fun j hj h2 => by
                    by_cases e : j = k
                    · subst e; rw [← HTT.out]; exact HT.out
                    · exact HNE.out j (by omega) h2
                  first | exact ⟨k + 1, by omega, by go_num, HN1, HB3.out.drew⟩ | ((repeat apply Exists.intro); exact ⟨⟨k + 1, by omega, by go_num, HN1, HB3.out.drew⟩, rfl⟩)
                case measure => simp [intOf]; omega
            · obtain rfl : k = i := by omega
              have HOK2 : Hid (okTo rs (k + 1)) := HOK.out.next (by omega) (by rw [← HRK.out]; exact HIS.out) (fun j hj => by rw [← HRK.out]; exact HNE.out j hj (by omega))
              go_wp2
              go_roundw
              case rel =>
                first | exact ⟨k + 1, _, by omega, by go_num, rfl, HOK2.out, HB3.out⟩ | ((repeat apply Exists.intro); exact ⟨⟨k + 1, _, by omega, by go_num, rfl, HOK2.out, HB3.out⟩, rfl⟩)
              case measure => simp [intOf]; omega
        · rw [decide_eq_false his] at IS
          have HN : Hid (¬ areR rs) := fun h => his (by
            have := (((areR_iff rs).1 h).2 i (by omega) (by omega)).1
            rwa [← HRK.out] at this)
          clear his
          go_wp2_with fail
          refine IS.out.mono ?_
          rintro e w2 ⟨rfl, hb2⟩
          have HB2 := Lib.hid (HB.out.trans (hb2.mono HBN.out))
          clear hb2
          go_wp2
          go_ret
          exact ⟨by rw [decide_eq_false HN.out]; rfl, HB2.out⟩
      · obtain rfl : i = n := by omega
        have HA : Hid (areR rs) := (areR_iff rs).2 ⟨by omega, by rw [hl]; exact HOK.out⟩
        go_wp2
        go_ret
        exact ⟨by rw [decide_eq_true HA.out]; rfl, HB.out⟩
  · have HN : Hid (¬ areR rs) := fun h => h16 (by rw [← hl]; exact h.1)
    have hlt : (16 : Int) < (n : Int) := by omega
    clear h16
    go_enter Try.func17, Try.ntmps17
    go_wp2
    go_ret
    exact ⟨by rw [decide_eq_false HN.out]; rfl, Below.refl _ _⟩
end Go.Proofs.Ytclplbapedmihaa.Ng
namespace Go.Proofs.Ytclplbapedmihaa.Ng
set_option maxRecDepth 4000
open Go.RowKit O
set_option linter.unusedVariables false
set_option linter.unusedSimpArgs false
def Alike (ts us : List Tg) (k : Nat) : Prop := (plain ts).take k = (plain us).take k
theorem Alike.zero (ts us : List Tg) : Alike ts us 0 := rfl
theorem Alike.next {ts us : List Tg} {k : Nat} (h : Alike ts us k) (h1 : k < ts.length) (h2 : k < us.length) (e : (ts[k].typ, ts[k].l) = (us[k].typ, us[k].l)) : Alike ts us (k + 1) := by
  unfold Alike at *
  rw [List.take_succ_eq_append_getElem (by rw [plain_length]; exact h1), List.take_succ_eq_append_getElem (by rw [plain_length]; exact h2), h, plain_get ts k h1, plain_get us k h2, e]
theorem Alike.all {ts us : List Tg} {n : Nat} (h : Alike ts us n) (h1 : ts.length = n) (h2 : us.length = n) : plain ts = plain us := by
  unfold Alike at h
  rwa [List.take_of_length_le (by rw [plain_length]; omega), List.take_of_length_le (by rw [plain_length]; omega)] at h
theorem plain_at {ts us : List Tg} (h : plain ts = plain us) (i : Nat) (h1 : i < ts.length) (h2 : i < us.length) : (ts[i].typ, ts[i].l) = (us[i].typ, us[i].l) := by
  have e1 := plain_get ts i h1
  have e2 := plain_get us i h2
  have h3 : (plain ts)[i]'(by rw [plain_length]; exact h1) = (plain us)[i]'(by rw [plain_length]; exact h2) := by simp only [h]
  rw [e1, e2] at h3
  exact h3
theorem plain_len {ts us : List Tg} (h : plain ts = plain us) : ts.length = us.length := by
  have := congrArg List.length h; rwa [plain_length, plain_length] at this
end Go.Proofs.Ytclplbapedmihaa.Ng
namespace Go.Proofs.Ytclplbapedmihaa.Ng
set_option maxRecDepth 4000
open Go.RowKit O
set_option linter.unusedVariables false
set_option linter.unusedSimpArgs false
/-- A row of options of the call's own, whose data lie elsewhere. -/
def RO (w0 w : World) (base : Nat) (v : Value) (l : List PT) : Prop := ∃ R : List Tg, plain R = l ∧ w.ownsRow base 52 2 v R.length (flat R) ∧ ∀ t ∈ R, Bs w0 t.val t.l
/-- Three rows of the call's own: what is refused; what is not taken; what would be. -/
structure D3 (w : World) (rl bl nl : List PT) (rv bv nv : Value) (wr : World) : Prop where
  low : Below w.heap.size w wr
  r : RO w wr w.heap.size rv rl
  b : RO w wr w.heap.size bv bl
  n : ∃ N, plain N = nl ∧ TO wr w.heap.size nv N
  rb : ∀ k ∈ blk rv, k ∉ blk bv
  rn : ∀ k ∈ blk rv, k ∉ blk nv
  bn : ∀ k ∈ blk bv, k ∉ blk nv
theorem RO.gr {w0 w w' : World} {base : Nat} {v : Value} {l : List PT} (h : RO w0 w base v l) (hb : Below w.heap.size w w') : RO w0 w' base v l := by
  obtain ⟨R, h1, h2, h3⟩ := h
  exact ⟨R, h1, ownsRow_below h2 hb, h3⟩
theorem D3.gr {w wr w' : World} {rl bl nl : List PT} {rv bv nv : Value} (h : D3 w rl bl nl rv bv nv wr) (hb : Below wr.heap.size wr w') : D3 w rl bl nl rv bv nv w' := by
  obtain ⟨N, h1, h2⟩ := h.n
  exact ⟨h.low.trans (hb.mono h.low.size), h.r.gr hb, h.b.gr hb, ⟨N, h1, h2.below hb⟩, h.rb, h.rn, h.bn⟩
theorem RO.far {w0 w w' : World} {base : Nat} {u v v' : Value} {l : List PT} (h : RO w0 w base u l) (hd : ∀ k ∈ blk u, k ∉ blk v) (hg : w.grownBy w' v.ownBlock) (hw : ∀ k ∈ blk v', k ∈ blk v ∨ w.heap.size ≤ k) : RO w0 w' base u l ∧ ∀ k ∈ blk u, k ∉ blk v' := by
  obtain ⟨R, h1, h2, h3⟩ := h
  have := far_grow h2 hd hg hw
  exact ⟨⟨R, h1, this.1, h3⟩, this.2⟩
theorem TO.far {w w' : World} {base : Nat} {u v v' : Value} {N xs : List Tg} {m : Nat} (h : TO w base u N) (hd : ∀ k ∈ blk u, k ∉ blk v) (hown : w.ownsRow base 52 2 v m (flat xs)) (hg : w.grownBy w' v.ownBlock) (hw : ∀ k ∈ blk v', k ∈ blk v ∨ w.heap.size ≤ k) : TO w' base u N ∧ ∀ k ∈ blk u, k ∉ blk v' := by
  have := far_grow h.own hd hg hw
  exact ⟨⟨this.1, fun t ht => (h.vals t ht).kept hg (own_ne_block (h.vals t ht) hown (by decide))⟩, this.2⟩
theorem RO.own {w0 w : World} {base : Nat} {v : Value} {l : List PT} (h : RO w0 w base v l) : ∃ R : List Tg, plain R = l ∧ R.length = l.length ∧ w.ownsRow base 52 2 v l.length (flat R) ∧ ∀ t ∈ R, Bs w0 t.val t.l := by
  obtain ⟨R, h1, h2, h3⟩ := h
  have e : R.length = l.length := by rw [← h1, plain_length]
  exact ⟨R, h1, e, by rw [← e]; exact h2, h3⟩
theorem D3.zero (w : World) : D3 w [] [] [] (.slice none 0 0) (.slice none 0 0) (.slice none 0 0) w :=
  ⟨Below.refl _ _, ⟨[], rfl, World.ownsRow_nil _ _ _ _, fun t h => by cases h⟩, ⟨[], rfl, World.ownsRow_nil _ _ _ _, fun t h => by cases h⟩, ⟨[], rfl, TO.nil _ _⟩, (fun k h => by cases h), (fun k h => by cases h), (fun k h => by cases h)⟩
end Go.Proofs.Ytclplbapedmihaa.Ng
namespace Go.Proofs.Ytclplbapedmihaa.Ng
set_option maxRecDepth 4000
open Go.RowKit O
set_option linter.unusedVariables false
set_option linter.unusedSimpArgs false
/-- What follow tells. -/
def FRes (x : List PT × Bool) (w : World) (e : Ending) (w' : World) : Prop := ∃ a m c us, e = .returned (.tuple #[.slice a m c, .bool x.2]) ∧ plain us = x.1 ∧ TR w' (.slice a m c) m us ∧ Below w.heap.size w w'
theorem FRes.of {x : List PT × Bool} {w w' : World} (l : List PT) (b : Bool) (a : Option Addr) (m c : Nat) (us : List Tg) (h : x = (l, b)) (h1 : plain us = l) (h2 : TR w' (.slice a m c) m us) (h3 : Below w.heap.size w w') : FRes x w (.returned (.tuple #[.slice a m c, .bool b])) w' := by
  subst h
  exact ⟨a, m, c, us, rfl, h1, h2, h3⟩
end Go.Proofs.Ytclplbapedmihaa.Ng
namespace Go.Proofs.Ytclplbapedmihaa.Ng
set_option maxRecDepth 4000
open Go.RowKit O
set_option linter.unusedVariables false
set_option linter.unusedSimpArgs false
/-- Types in range, data that are not long. -/
def Small (l : List PT) : Prop := ∀ o ∈ l, I64 o.1 ∧ o.2.length ≤ 1000
theorem small_row {us : List Tg} (h : Small (plain us)) : (∀ x ∈ us, x.l.length ≤ 1000) ∧ ∀ x ∈ us, I64 x.typ :=
  ⟨fun x hx => (h x.plain (List.mem_map.2 ⟨x, hx, rfl⟩)).2, fun x hx => (h x.plain (List.mem_map.2 ⟨x, hx, rfl⟩)).1⟩
end Go.Proofs.Ytclplbapedmihaa.Ng
namespace Go.Proofs.Ytclplbapedmihaa.Ng
set_option maxRecDepth 4000
open Go.RowKit O
set_option linter.unusedVariables false
set_option linter.unusedSimpArgs false
/-- What the document's Answer tells: a code, and options that are read. -/
def RRes (x : Int × List PT) (w : World) (e : Ending) (w' : World) : Prop := ∃ a m c us, e = .returned (.tuple #[.int .i64 x.1, .slice a m c]) ∧ plain us = x.2 ∧ TR w' (.slice a m c) m us ∧ Below w.heap.size w w'
theorem RRes.of {x : Int × List PT} {w w' : World} (k : Int) (l : List PT) (a : Option Addr) (m c : Nat) (us : List Tg) (h : x = (k, l)) (h1 : plain us = l) (h2 : TR w' (.slice a m c) m us) (h3 : Below w.heap.size w w') : RRes x w (.returned (.tuple #[.int .i64 k, .slice a m c])) w' := by
  subst h
  exact ⟨a, m, c, us, rfl, h1, h2, h3⟩
end Go.Proofs.Ytclplbapedmihaa.Ng
namespace Go.Proofs.Ytclplbapedmihaa.Ng
set_option maxRecDepth 4000
open Go.RowKit O
set_option linter.unusedVariables false
set_option linter.unusedSimpArgs false
/-- The row that was handed in, or one that the call made, of bytes that could be read ahead of it. -/
def Kept (v0 : Value) (n0 : Nat) (qs : List Tg) (w w' : World) (v : Value) (m : Nat) (us : List Tg) : Prop := (v = v0 ∧ m = n0 ∧ us = qs) ∨ (w'.ownsRow w.heap.size 52 2 v m (flat us) ∧ ∀ x ∈ us, Bs w x.val x.l)
theorem Kept.tr {v0 : Value} {n0 : Nat} {qs : List Tg} {w w' : World} {v : Value} {m : Nat} {us : List Tg} (h : Kept v0 n0 qs w w' v m us) (h0 : TR w v0 n0 qs) (hb : Below w.heap.size w w') : TR w' v m us := by
  rcases h with ⟨rfl, rfl, rfl⟩ | ⟨h1, h2⟩
  · exact h0.below hb
  · exact ⟨own_rd h1, fun x hx => (h2 x hx).below hb⟩
/-- What the document's Learn tells. -/
def RLRes (v0 : Value) (n0 : Nat) (qs : List Tg) (x : List PT × Bool) (w : World) (e : Ending) (w' : World) : Prop := ∃ a m c us, e = .returned (.tuple #[.slice a m c, .bool x.2]) ∧ plain us = x.1 ∧ Kept v0 n0 qs w w' (.slice a m c) m us ∧ Below w.heap.size w w'
theorem RLRes.of {v0 : Value} {n0 : Nat} {qs : List Tg} {x : List PT × Bool} {w w' : World} (l : List PT) (b : Bool) (a : Option Addr) (m c : Nat) (us : List Tg) (h : x = (l, b)) (h1 : plain us = l) (h2 : Kept v0 n0 qs w w' (.slice a m c) m us) (h3 : Below w.heap.size w w') : RLRes v0 n0 qs x w (.returned (.tuple #[.slice a m c, .bool b])) w' := by
  subst h
  exact ⟨a, m, c, us, rfl, h1, h2, h3⟩
theorem RO.only {w0 w w' : World} {base g : Nat} {v : Value} {l : List PT} (h : RO w0 w base v l) (ho : Only g w w') (hg : ∀ k ∈ blk v, k ≠ g) : RO w0 w' base v l := by
  obtain ⟨R, h1, h2, h3⟩ := h
  exact ⟨R, h1, own_keepW h2 fun k hk => ho.heap k (own_blk h2 k hk).2 (hg k hk), h3⟩
theorem RO.tr {v0 : Value} {n0 : Nat} {qs : List Tg} {w w' : World} {v : Value} {l : List PT} (h : RO w w' w.heap.size v l) (hb : Below w.heap.size w w') : ∃ a m c us, v = .slice a m c ∧ plain us = l ∧ Kept v0 n0 qs w w' (.slice a m c) m us := by
  obtain ⟨R, h1, h2, h3⟩ := h
  obtain ⟨a, c, rfl, _, _⟩ := (own_rd h2).shape
  exact ⟨a, R.length, c, R, rfl, h1, .inr ⟨h2, h3⟩⟩
/-- One option more. -/
theorem RO.more {w0 w2 : World} {base : Nat} {v' : Value} {l : List PT} {R : List Tg} {t : Tg} (hR : plain R = l) (hv : ∀ t ∈ R, Bs w0 t.val t.l) (ht : Bs w0 t.val t.l) (ho : w2.ownsRow base 52 2 v' (l.length + 1) (flat R ++ [.int .i64 t.typ, t.val])) : RO w0 w2 base v' (l ++ [t.plain]) := by
  refine ⟨R ++ [t], by rw [plain_append, hR]; rfl, ?_, fun x hx => ?_⟩
  · have e : (R ++ [t]).length = l.length + 1 := by rw [List.length_append, ← hR, plain_length]; rfl
    rw [e, flat_append]
    exact ho
  · rcases List.mem_append.1 hx with hx | hx
    · exact hv x hx
    · rw [List.mem_singleton.1 hx]; exact ht
end Go.Proofs.Ytclplbapedmihaa.Ng
namespace Go.Proofs.Ytclplbapedmihaa.Ng
set_option maxRecDepth 4000
open Go.RowKit O
set_option linter.unusedVariables false
set_option linter.unusedSimpArgs false
end Go.Proofs.Ytclplbapedmihaa.Ng
