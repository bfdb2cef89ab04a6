/-
  Rules and options in plain words: which rules may be, what is answered, what is learned; what follows (taken, helped, less).
  Rules in memory: each rule is seven cells.
  Which numbers a rule takes, which rules may be: nego.isIn, kindOf, its methods, rule.mayBe.
  Which rules may be: nego's rule.mayBe.
  The rule of a type (nego's rules.of), which rules may be (rules.mayBe), Check.
  Whether a rule takes an option that fits it (nego's rule.takes), the option that a rule takes before all others (rule.good).
  Options walked by a closure (nego.walk), over a variable function.
  nego's copies, refused, mended.
  nego's misfits: its closure keeps which rules' types came.
  nego's lacking (slices.ContainsFunc over its closure).
  nego.Answer.
  A map of ints to ints in memory, as a function; slices.Backward over a row of options.
  nego's taught: which places come first is gathered in a map, behind a range over slices.Backward.
  nego's without: what is asked for without the options of an answer, taken away one behind the other.
  nego's without, Learn.
-/
import Derived.Test.YtclplbapedmihaaGreatZBase
import Derived.Test.YtclplbapedmihaaGreatZOp
import Derived.IntWalk
import Derived.Deep.DeepCutAuto
import Derived.Maps.OwnSet
import Derived.RangeFuncNested
import Derived.Shelf.Abstract
import Derived.WalkKit
import Derived.OwnWalkIn
import Derived.TacticsInMore
import Derived.LoopNIn
import Derived.LoopIn
namespace Go.Proofs.YtclplbapedmihaaGreat.Ng
set_option maxRecDepth 4000
set_option linter.unusedVariables false
set_option linter.unusedSimpArgs false
/-- An option: its type, its data. -/
abbrev PT := Int × List UInt8
/-- A rule. -/
structure Ru where
  typ : Int
  size : Int
  kind : Int
  low : Int
  high : Int
  good : Int
  must : Bool
def lim (k : Int) : Int := 256 ^ k.toNat
def takes (r : Ru) (n : Int) : Bool := if r.kind = 1 then true else if r.kind = 2 then decide (r.low ≤ n ∧ n ≤ r.high) else if r.kind = 3 then decide (n = r.good) else if r.kind = 4 then decide (n ≠ r.low) else false
/-- A rule may be. -/
def isR (r : Ru) : Prop := 1 ≤ r.typ ∧ r.typ ≤ 255 ∧ 0 ≤ r.size ∧ r.size ≤ 4 ∧ (r.size = 0 → r.kind = 1) ∧ 0 ≤ r.low ∧ r.low < lim r.size ∧ 0 ≤ r.high ∧ r.high < lim r.size ∧ 0 ≤ r.good ∧ r.good < lim r.size ∧ (r.kind = 2 → r.low ≤ r.high) ∧ takes r r.good = true
instance (r : Ru) : Decidable (isR r) := by unfold isR; infer_instance
/-- Rules may be. -/
def areR (rs : List Ru) : Prop := rs.length ≤ 16 ∧ (∀ r ∈ rs, isR r) ∧ (rs.map Ru.typ).Nodup
instance (rs : List Ru) : Decidable (areR rs) := by unfold areR; infer_instance
/-- An option's number. -/
def num (o : PT) : Int := (takeN o.2 o.2.length : Nat)
def fits (r : Ru) (o : PT) : Bool := decide (r.typ = o.1 ∧ r.size = (o.2.length : Int))
def ruleOf (rs : List Ru) (o : PT) : Option Ru := rs.find? fun r => fits r o
def hasT (l : List PT) (t : Int) : Bool := l.any fun o => decide (o.1 = t)
def goodO (r : Ru) : PT := (r.typ, putL r.good.toNat r.size.toNat)
/-- Of the options behind 'seen': those that are refused; those that are not taken, with what would be. -/
def rejs (rs : List Ru) : List PT → List PT → List PT
  | _, [] => []
  | seen, o :: l => (if (ruleOf rs o).isNone || hasT seen o.1 then [o] else []) ++ rejs rs (seen ++ [o]) l
def bads (rs : List Ru) : List PT → List PT → List (PT × PT)
  | _, [] => []
  | seen, o :: l => (match ruleOf rs o with
    | none => []
    | some r => if hasT seen o.1 then [] else if takes r (num o) then [] else [(o, goodO r)]) ++ bads rs (seen ++ [o]) l
def lacks (rs : List Ru) (l : List PT) : List PT := (rs.filter fun r => r.must && !hasT l r.typ).map goodO
/-- What is answered. -/
def ans (rs : List Ru) (l : List PT) (naks most : Int) : Int × List PT :=
  if ¬ areR rs then (0, [])
  else if rejs rs [] l ≠ [] then (4, rejs rs [] l)
  else if (bads rs [] l).map (·.2) ++ lacks rs l = [] then (2, l)
  else if most ≤ naks ∧ bads rs [] l ≠ [] then (4, (bads rs [] l).map (·.1))
  else (3, (bads rs [] l).map (·.2) ++ lacks rs l)
/-- What is learned. -/
def takeOver (l : List PT) (o : PT) : PT := match l.find? fun x => decide (x.1 = o.1) with
  | none => o
  | some x => (o.1, x.2)
/-- ask without l; none, if l does not stand in it, in that order. -/
def strike : List PT → List PT → List PT × List PT
  | [], l => ([], l)
  | o :: ask, [] => ((o :: (strike ask []).1), (strike ask []).2)
  | o :: ask, x :: l => if x = o then strike ask l else (o :: (strike ask (x :: l)).1, (strike ask (x :: l)).2)
def lrn (ask : List PT) (code : Int) (l : List PT) : List PT × Bool :=
  if l = [] then (ask, false)
  else if code = 3 then (ask.map (takeOver l), true)
  else if code = 4 then (if (strike ask l).2 = [] then ((strike ask l).1, true) else (ask, false))
  else (ask, false)
theorem hasT_iff {l : List PT} {t : Int} : hasT l t = true ↔ ∃ o ∈ l, o.1 = t := by simp [hasT]
theorem ans_ack {rs : List Ru} {l x : List PT} {naks most : Int} (h : ans rs l naks most = (2, x)) : x = l ∧ areR rs ∧ rejs rs [] l = [] ∧ bads rs [] l = [] ∧ lacks rs l = [] := by
  unfold ans at h
  by_cases c1 : ¬ areR rs
  · rw [if_pos c1] at h; cases h
  · rw [if_neg c1] at h
    by_cases c2 : rejs rs [] l ≠ []
    · rw [if_pos c2] at h; cases h
    · rw [if_neg c2] at h
      by_cases c3 : (bads rs [] l).map (·.2) ++ lacks rs l = []
      · rw [if_pos c3] at h
        cases h
        have c4 := List.append_eq_nil_iff.1 c3
        exact ⟨rfl, Decidable.not_not.1 c1, Decidable.not_not.1 c2, List.map_eq_nil_iff.1 c4.1, c4.2⟩
      · rw [if_neg c3] at h
        by_cases c4 : most ≤ naks ∧ bads rs [] l ≠ []
        · rw [if_pos c4] at h; cases h
        · rw [if_neg c4] at h; cases h
theorem rejs_nil {rs : List Ru} : ∀ {l seen : List PT}, rejs rs seen l = [] → (∀ o ∈ l, (ruleOf rs o).isSome = true ∧ hasT seen o.1 = false) ∧ (l.map (·.1)).Nodup
  | [], seen, _ => ⟨(fun o ho => by cases ho), List.nodup_nil⟩
  | o :: l, seen, h => by
    unfold rejs at h
    obtain ⟨h1, h2⟩ := List.append_eq_nil_iff.1 h
    have ih := rejs_nil h2
    have h3 : (ruleOf rs o).isSome = true ∧ hasT seen o.1 = false := by
      by_cases c : ((ruleOf rs o).isNone || hasT seen o.1) = true
      · rw [if_pos c] at h1; cases h1
      · simp only [Bool.or_eq_true, not_or, Bool.not_eq_true] at c
        refine ⟨?_, c.2⟩
        have := c.1
        cases hr : ruleOf rs o with
        | none => rw [hr] at this; cases this
        | some r => rfl
    refine ⟨fun p hp => ?_, ?_⟩
    · rcases List.mem_cons.1 hp with rfl | hp
      · exact h3
      · have := ih.1 p hp
        refine ⟨this.1, ?_⟩
        have h4 := this.2
        simp only [hasT, List.any_append, Bool.or_eq_false_iff] at h4
        exact h4.1
    · rw [List.map_cons, List.nodup_cons]
      refine ⟨fun hm => ?_, ih.2⟩
      obtain ⟨p, hp, e⟩ := List.mem_map.1 hm
      have h4 := (ih.1 p hp).2
      simp [hasT, e] at h4
theorem bads_nil {rs : List Ru} : ∀ {l seen : List PT}, rejs rs seen l = [] → bads rs seen l = [] → ∀ o ∈ l, ∃ r, ruleOf rs o = some r ∧ takes r (num o) = true
  | [], _, _, _, o, ho => by cases ho
  | o :: l, seen, hr, hb, p, hp => by
    have h0 := (rejs_nil hr).1 o (by simp)
    unfold rejs at hr
    unfold bads at hb
    obtain ⟨_, hr2⟩ := List.append_eq_nil_iff.1 hr
    obtain ⟨hb1, hb2⟩ := List.append_eq_nil_iff.1 hb
    rcases List.mem_cons.1 hp with rfl | hp
    · cases hq : ruleOf rs p with
      | none => rw [hq] at h0; cases h0.1
      | some r =>
        rw [hq] at hb1
        simp only [h0.2] at hb1
        refine ⟨r, rfl, ?_⟩
        by_cases c : takes r (num p) = true
        · exact c
        · simp [c] at hb1
    · exact bads_nil hr2 hb2 p hp
theorem ruleOf_some {rs : List Ru} {o : PT} {r : Ru} (h : ruleOf rs o = some r) : r ∈ rs ∧ r.typ = o.1 ∧ r.size = (o.2.length : Int) := by
  have h1 := List.find?_some h
  unfold fits at h1
  exact ⟨List.mem_of_find?_eq_some h, of_decide_eq_true h1⟩
theorem lacks_nil {rs : List Ru} {l : List PT} (h : lacks rs l = []) : ∀ r ∈ rs, r.must = true → hasT l r.typ = true := by
  intro r hr hm
  unfold lacks at h
  have h1 := List.filter_eq_nil_iff.1 (List.map_eq_nil_iff.1 h) r hr
  simpa [hm] using h1
/-- What is answered by ConfAck is taken, each number of it; nothing lacks. -/
theorem taken {rs : List Ru} {l x : List PT} {naks most : Int} (h : ans rs l naks most = (2, x)) :
    x = l ∧ (∀ o ∈ l, ∃ r ∈ rs, r.typ = o.1 ∧ r.size = (o.2.length : Int) ∧ takes r (num o) = true) ∧ ∀ r ∈ rs, r.must = true → hasT l r.typ = true := by
  obtain ⟨h1, _, h2, h3, h4⟩ := ans_ack h
  refine ⟨h1, fun o ho => ?_, lacks_nil h4⟩
  obtain ⟨r, hr, ht⟩ := bads_nil h2 h3 o ho
  have := ruleOf_some hr
  exact ⟨r, this.1, this.2.1, this.2.2, ht⟩
end Go.Proofs.YtclplbapedmihaaGreat.Ng
namespace Go.Proofs.YtclplbapedmihaaGreat.Ng
set_option maxRecDepth 4000
open Go.RowKit
set_option linter.unusedVariables false
set_option linter.unusedSimpArgs false
/-- A rule's cells. -/
def ruC (r : Ru) : List Value := [.int .i64 r.typ, .int .i64 r.size, .int .i64 r.kind, .int .i64 r.low, .int .i64 r.high, .int .i64 r.good, .bool r.must]
def flatR (rs : List Ru) : List Value := rs.flatMap ruC
theorem flatR_length (rs : List Ru) : (flatR rs).length = rs.length * 7 := by
  induction rs with
  | nil => rfl
  | cons q qs ih =>
    show (ruC q ++ flatR qs).length = _
    rw [List.length_append, ih, List.length_cons]
    show 7 + _ = _
    omega
theorem flatR_get : ∀ (qs : List Ru) (i : Nat) (hi : i < qs.length) (j : Nat), j < 7 → (flatR qs)[i * 7 + j]? = (ruC qs[i])[j]?
  | q :: qs, 0, _, j, hj => by
    show (ruC q ++ flatR qs)[0 * 7 + j]? = _
    rw [List.getElem?_append_left (by show _ < 7; omega)]
    simp
  | q :: qs, i + 1, hi, j, hj => by
    show (ruC q ++ flatR qs)[(i + 1) * 7 + j]? = _
    rw [List.getElem?_append_right (by show 7 ≤ _; omega), show (i + 1) * 7 + j - (ruC q).length = i * 7 + j by show _ - 7 = _; omega]
    rw [flatR_get qs i (by simpa using hi) j hj]
    rfl
/-- v is a row of n rules that reads rs in w. -/
def RR (w : World) (v : Value) (n : Nat) (rs : List Ru) : Prop := Rd w 7 v n (flatR rs)
theorem RR.len {w : World} {v : Value} {n : Nat} {rs : List Ru} (h : RR w v n rs) : rs.length = n := by
  have h1 := h.1
  rw [flatR_length] at h1
  omega
theorem RR.below {w w' : World} {v : Value} {n : Nat} {rs : List Ru} (h : RR w v n rs) (hb : Below w.heap.size w w') : RR w' v n rs := Rd.below h hb
theorem RR.shape {w : World} {v : Value} {n : Nat} {rs : List Ru} (h : RR w v n rs) : ∃ ao cap, v = .slice ao n cap ∧ n ≤ cap ∧ cap ≤ maxLen := Rd.shape h
theorem RR.sh {w : World} {ao : Option Addr} {n c : Nat} {rs : List Ru} (h : RR w (.slice ao n c) n rs) : n ≤ c ∧ c ≤ maxLen := by
  obtain ⟨_, _, es, h1, h2⟩ := h.shape
  simp only [Value.slice.injEq] at es
  obtain ⟨rfl, _, rfl⟩ := es
  exact ⟨h1, h2⟩
/-- Rule i's cells. -/
theorem RR.cells {w : World} {ao : Option Addr} {n c : Nat} {rs : List Ru} (h : RR w (.slice ao n c) n rs) (hn : 0 < n) :
    ∃ b o, ao = some ⟨b, o, none⟩ ∧ b < w.heap.size ∧ ∀ i (hi : i < rs.length), w.cell? ⟨b, o + i * 7, none⟩ = some (.int .i64 rs[i].typ) ∧ w.cell? ⟨b, o + i * 7 + 1, none⟩ = some (.int .i64 rs[i].size) ∧
      w.cell? ⟨b, o + i * 7 + 2, none⟩ = some (.int .i64 rs[i].kind) ∧ w.cell? ⟨b, o + i * 7 + 3, none⟩ = some (.int .i64 rs[i].low) ∧ w.cell? ⟨b, o + i * 7 + 4, none⟩ = some (.int .i64 rs[i].high) ∧
      w.cell? ⟨b, o + i * 7 + 5, none⟩ = some (.int .i64 rs[i].good) ∧ w.cell? ⟨b, o + i * 7 + 6, none⟩ = some (.bool rs[i].must) := by
  obtain ⟨b, o, h1, h2, h3⟩ := Rd.cells h hn (by omega)
  exact ⟨b, o, h1, h2, fun i hi => ⟨h3 _ _ (flatR_get rs i hi 0 (by decide)), h3 _ _ (flatR_get rs i hi 1 (by decide)), h3 _ _ (flatR_get rs i hi 2 (by decide)), h3 _ _ (flatR_get rs i hi 3 (by decide)),
    h3 _ _ (flatR_get rs i hi 4 (by decide)), h3 _ _ (flatR_get rs i hi 5 (by decide)), h3 _ _ (flatR_get rs i hi 6 (by decide))⟩⟩
theorem RR.range {w : World} {ao : Option Addr} {n c : Nat} {rs : List Ru} (h : RR w (.slice ao n c) n rs) (hn : 0 < n) :
    ∃ b o, ao = some ⟨b, o, none⟩ ∧ b < w.heap.size ∧ ∀ i (hi : i < rs.length), w.rangeAt b (o + i * 7) (ruC rs[i]) := by
  obtain ⟨b, o, h1, h2, h3⟩ := Rd.cells h hn (by omega)
  refine ⟨b, o, h1, h2, fun i hi j u hj => ?_⟩
  have hj7 : j < 7 := (List.getElem?_eq_some_iff.1 hj).1
  have := h3 _ _ ((flatR_get rs i hi j hj7).trans hj)
  rwa [show o + (i * 7 + j) = o + i * 7 + j by omega] at this
theorem cells7 {w : World} {g : Nat} {a b c d e f k : Value} {t : TypeId} {fr : Nat × Nat} (h : w.heap[g]? = some (.cells #[a, b, c, d, e, f, k] t fr)) :
    w.cell? ⟨g, 0, none⟩ = some a ∧ w.cell? ⟨g, 1, none⟩ = some b ∧ w.cell? ⟨g, 2, none⟩ = some c ∧ w.cell? ⟨g, 3, none⟩ = some d ∧ w.cell? ⟨g, 4, none⟩ = some e ∧ w.cell? ⟨g, 5, none⟩ = some f ∧ w.cell? ⟨g, 6, none⟩ = some k :=
  ⟨by rw [cell_of_row w g _ _ _ _ h]; rfl, by rw [cell_of_row w g _ _ _ _ h]; rfl, by rw [cell_of_row w g _ _ _ _ h]; rfl, by rw [cell_of_row w g _ _ _ _ h]; rfl, by rw [cell_of_row w g _ _ _ _ h]; rfl, by rw [cell_of_row w g _ _ _ _ h]; rfl, by rw [cell_of_row w g _ _ _ _ h]; rfl⟩
theorem sizeR : (Tryz.prog.info? 101).map (·.size) = some 7 := by kernel_rfl
theorem sizeR2 : (Tryz.prog.info? 146).map (·.size) = some 7 := by kernel_rfl
theorem ruC_one (r : Ru) : ∀ u ∈ ruC r, u.oneCell' = true := by
  intro u hu
  simp only [ruC, List.mem_cons, List.not_mem_nil, or_false] at hu
  rcases hu with rfl | rfl | rfl | rfl | rfl | rfl | rfl <;> rfl
def ruZ : Ru := ⟨0, 0, 0, 0, 0, 0, false⟩
end Go.Proofs.YtclplbapedmihaaGreat.Ng
namespace Go.Proofs.YtclplbapedmihaaGreat.Ng
set_option maxRecDepth 4000
open Go.RowKit
set_option linter.unusedVariables false
set_option linter.unusedSimpArgs false
theorem isIn_any (n lo hi : Int) (w : World) :
    Calls Tryz.prog 154 #[.int .i64 n, .int .i64 lo, .int .i64 hi] w fun e w' => e = .returned (.bool (decide (lo ≤ n ∧ n ≤ hi))) ∧ w = w' := by
  by_cases h1 : lo ≤ n
  · go_enter Tryz.func154, Tryz.ntmps154
    go_wp2
    go_ret
    refine ⟨by simp [h1]; try (intros; omega), rfl⟩
  · go_enter Tryz.func154, Tryz.ntmps154
    go_wp2
    go_ret
    refine ⟨by simp [h1]; try (intros; omega), rfl⟩
theorem takesEach_any (r : Ru) (n : Int) (w : World) : Calls Tryz.prog 163 #[.agg #[.int .i64 r.typ, .int .i64 r.size, .int .i64 r.kind, .int .i64 r.low, .int .i64 r.high, .int .i64 r.good, .bool r.must], .int .i64 n] w fun e w' => e = .returned (.bool true) ∧ Below w.heap.size w w' := by
  go_enter Tryz.func163, Tryz.ntmps163
  go_wp2
  go_ret
  exact ⟨rfl, by first | exact Below.refl _ _ | exact (Below.refl _ _).alloc (Nat.le_refl _) _⟩
theorem takesSpan_any (r : Ru) (n : Int) (w : World) : Calls Tryz.prog 164 #[.agg #[.int .i64 r.typ, .int .i64 r.size, .int .i64 r.kind, .int .i64 r.low, .int .i64 r.high, .int .i64 r.good, .bool r.must], .int .i64 n] w fun e w' => e = .returned (.bool (decide (r.low ≤ n ∧ n ≤ r.high))) ∧ Below w.heap.size w w' := by
  have I := Lib.hid (isIn_any n r.low r.high (w.alloc (.cells #[.int .i64 r.typ, .int .i64 r.size, .int .i64 r.kind, .int .i64 r.low, .int .i64 r.high, .int .i64 r.good, .bool r.must] 146)))
  go_enter Tryz.func164, Tryz.ntmps164
  go_wp2_with fail
  refine I.out.mono ?_
  rintro e w' ⟨rfl, rfl⟩
  go_wp2
  go_ret
  exact ⟨by simp, (Below.refl _ _).alloc (Nat.le_refl _) _⟩
theorem takesGood_any (r : Ru) (n : Int) (w : World) : Calls Tryz.prog 165 #[.agg #[.int .i64 r.typ, .int .i64 r.size, .int .i64 r.kind, .int .i64 r.low, .int .i64 r.high, .int .i64 r.good, .bool r.must], .int .i64 n] w fun e w' => e = .returned (.bool (decide (n = r.good))) ∧ Below w.heap.size w w' := by
  go_enter Tryz.func165, Tryz.ntmps165
  go_wp2
  go_ret
  exact ⟨by simp [Bool.beq_eq_decide_eq], (Below.refl _ _).alloc (Nat.le_refl _) _⟩
theorem takesOther_any (r : Ru) (n : Int) (w : World) : Calls Tryz.prog 166 #[.agg #[.int .i64 r.typ, .int .i64 r.size, .int .i64 r.kind, .int .i64 r.low, .int .i64 r.high, .int .i64 r.good, .bool r.must], .int .i64 n] w fun e w' => e = .returned (.bool (decide (n ≠ r.low))) ∧ Below w.heap.size w w' := by
  go_enter Tryz.func166, Tryz.ntmps166
  go_wp2
  go_ret
  exact ⟨by simp [bne, Bool.beq_eq_decide_eq], (Below.refl _ _).alloc (Nat.le_refl _) _⟩
/-- What kindOf tells. -/
theorem kindOf_any (K : Int) (w : World) :
    Calls Tryz.prog 153 #[.int .i64 K] w fun e w' => ((∃ k, e = .returned (.func (.func k) #[] #[]) ∧ (1 ≤ K ∧ K ≤ 4) ∧ (∀ (args : Array Value) (w' : World), (callFunc k args).run Tryz.prog w' = .ok (.enter k args) w') ∧
      ∀ (r : Ru) (n : Int) (w2 : World), r.kind = K → Calls Tryz.prog k #[.agg #[.int .i64 r.typ, .int .i64 r.size, .int .i64 r.kind, .int .i64 r.low, .int .i64 r.high, .int .i64 r.good, .bool r.must], .int .i64 n] w2 fun e w3 => e = .returned (.bool (takes r n)) ∧ Below w2.heap.size w2 w3) ∨
      (e = .returned (.nilFunc) ∧ ¬ (1 ≤ K ∧ K ≤ 4))) ∧ w = w' := by
  by_cases h1 : K = 1
  · subst h1
    go_enter Tryz.func153, Tryz.ntmps153
    go_wp2
    go_ret
    refine ⟨.inl ⟨163, rfl, by omega, fun _ _ => rfl, fun r n w2 hr => ?_⟩, rfl⟩
    have e : takes r n = true := by unfold takes; rw [if_pos hr]
    rw [e]
    exact takesEach_any r n w2
  by_cases h2 : K = 2
  · subst h2
    go_enter Tryz.func153, Tryz.ntmps153
    go_wp2
    go_ret
    refine ⟨.inl ⟨164, rfl, by omega, fun _ _ => rfl, fun r n w2 hr => ?_⟩, rfl⟩
    have e : takes r n = decide (r.low ≤ n ∧ n ≤ r.high) := by unfold takes; rw [if_neg (by omega), if_pos hr]
    rw [e]
    exact takesSpan_any r n w2
  by_cases h3 : K = 3
  · subst h3
    go_enter Tryz.func153, Tryz.ntmps153
    go_wp2
    go_ret
    refine ⟨.inl ⟨165, rfl, by omega, fun _ _ => rfl, fun r n w2 hr => ?_⟩, rfl⟩
    have e : takes r n = decide (n = r.good) := by unfold takes; rw [if_neg (by omega), if_neg (by omega), if_pos hr]
    rw [e]
    exact takesGood_any r n w2
  by_cases h4 : K = 4
  · subst h4
    go_enter Tryz.func153, Tryz.ntmps153
    go_wp2
    go_ret
    refine ⟨.inl ⟨166, rfl, by omega, fun _ _ => rfl, fun r n w2 hr => ?_⟩, rfl⟩
    have e : takes r n = decide (n ≠ r.low) := by unfold takes; rw [if_neg (by omega), if_neg (by omega), if_neg (by omega), if_pos hr]
    rw [e]
    exact takesOther_any r n w2
  have e1 : (K == 1) = false := by simpa using h1
  have e2 : (K == 2) = false := by simpa using h2
  have e3 : (K == 3) = false := by simpa using h3
  have e4 : (K == 4) = false := by simpa using h4
  have HN : Hid (¬ (1 ≤ K ∧ K ≤ 4)) := by show ¬ _; omega
  clear h1 h2 h3 h4
  go_enter Tryz.func153, Tryz.ntmps153
  go_wp2
  go_ret
  exact ⟨.inr ⟨rfl, HN.out⟩, rfl⟩
end Go.Proofs.YtclplbapedmihaaGreat.Ng
namespace Go.Proofs.YtclplbapedmihaaGreat.Ng
set_option maxRecDepth 4000
open Go.RowKit
set_option linter.unusedVariables false
set_option linter.unusedSimpArgs false
theorem eql_func (k : Nat) (w : World) : (binOp .eql 168 (.func (.func k) #[] #[]) .nilFunc).run Tryz.prog w = .ok (.bool false) w := by
  have h : ∀ d : Nat, (Op.equalIn (d + 1) 168 (.func (.func k) #[] #[]) .nilFunc).run Tryz.prog w = .ok false w := fun d => by
    simp [Op.equalIn, run_underlying Tryz.underlying168]
  simp only [binOp]
  simp [Op.equal, Op.maxDepth, h 9999]
theorem eql_nilFunc (w : World) : (binOp .eql 168 .nilFunc .nilFunc).run Tryz.prog w = .ok (.bool true) w := by
  have h : ∀ d : Nat, (Op.equalIn (d + 1) 168 .nilFunc .nilFunc).run Tryz.prog w = .ok true w := fun d => by
    simp [Op.equalIn, run_underlying Tryz.underlying168]
  simp only [binOp]
  simp [Op.equal, Op.maxDepth, h 9999]
theorem isR_no1 {r : Ru} (h : ¬ (1 ≤ r.kind ∧ r.kind ≤ 4)) : ¬ isR r := fun hr => by
  have h1 := hr.2.2.2.2.2.2.2.2.2.2.2.2
  unfold takes at h1
  rw [if_neg (by omega), if_neg (by omega), if_neg (by omega), if_neg (by omega)] at h1
  cases h1
theorem isR_iff {r : Ru} (h1 : 1 ≤ r.typ ∧ r.typ ≤ 255) (h2 : 0 ≤ r.size ∧ r.size ≤ 4) (h3 : r.size = 0 → r.kind = 1) (M : Int) (hM : M + 1 = lim r.size) (h4 : 0 ≤ r.low ∧ r.low ≤ M) (h5 : 0 ≤ r.high ∧ r.high ≤ M) (h6 : 0 ≤ r.good ∧ r.good ≤ M) :
    decide (isR r) = takes r r.good := by
  rw [Bool.eq_iff_iff, decide_eq_true_eq]
  refine ⟨fun h => h.2.2.2.2.2.2.2.2.2.2.2.2, fun h => ⟨h1.1, h1.2, h2.1, h2.2, h3, h4.1, by omega, h5.1, by omega, h6.1, by omega, fun hk => ?_, h⟩⟩
  unfold takes at h
  rw [if_neg (by omega), if_pos hk] at h
  have := of_decide_eq_true h
  omega
theorem lim_cases {k : Int} (h : 0 ≤ k ∧ k ≤ 4) : (k = 0 ∧ lim k = 1) ∨ (k = 1 ∧ lim k = 256) ∨ (k = 2 ∧ lim k = 65536) ∨ (k = 3 ∧ lim k = 16777216) ∨ (k = 4 ∧ lim k = 4294967296) := by
  have : k = 0 ∨ k = 1 ∨ k = 2 ∨ k = 3 ∨ k = 4 := by omega
  rcases this with rfl | rfl | rfl | rfl | rfl
  · exact .inl ⟨rfl, by decide⟩
  · exact .inr (.inl ⟨rfl, by decide⟩)
  · exact .inr (.inr (.inl ⟨rfl, by decide⟩))
  · exact .inr (.inr (.inr (.inl ⟨rfl, by decide⟩)))
  · exact .inr (.inr (.inr (.inr ⟨rfl, by decide⟩)))
set_option maxRecDepth 20000 in
set_option maxHeartbeats 2000000 in
theorem mayBe_any (r : Ru) (w : World) : Calls Tryz.prog 115 #[.agg #[.int .i64 r.typ, .int .i64 r.size, .int .i64 r.kind, .int .i64 r.low, .int .i64 r.high, .int .i64 r.good, .bool r.must]] w fun e w' => e = .returned (.bool (decide (isR r))) ∧ Below w.heap.size w w' := by
  have hg : (w.alloc (.cells #[.int .i64 r.typ, .int .i64 r.size, .int .i64 r.kind, .int .i64 r.low, .int .i64 r.high, .int .i64 r.good, .bool r.must] 146)).heap[w.heap.size]? = some (.cells #[.int .i64 r.typ, .int .i64 r.size, .int .i64 r.kind, .int .i64 r.low, .int .i64 r.high, .int .i64 r.good, .bool r.must] 146) := heap_alloc_last _ _
  have HB : Hid (Below w.heap.size w (w.alloc (.cells #[.int .i64 r.typ, .int .i64 r.size, .int .i64 r.kind, .int .i64 r.low, .int .i64 r.high, .int .i64 r.good, .bool r.must] 146))) := (Below.refl _ _).alloc (Nat.le_refl _) _
  obtain ⟨k0, k1, k2, k3, k4, k5, k6⟩ := cells7 hg
  have KO := Lib.hid (kindOf_any r.kind (w.alloc (.cells #[.int .i64 r.typ, .int .i64 r.size, .int .i64 r.kind, .int .i64 r.low, .int .i64 r.high, .int .i64 r.good, .bool r.must] 146)))
  have q1 := eql_func
  have q2 := eql_nilFunc
  clear hg
  go_enter Tryz.func115, Tryz.ntmps115
  go_wp2_with fail
  generalize (w.alloc (.cells #[.int .i64 r.typ, .int .i64 r.size, .int .i64 r.kind, .int .i64 r.low, .int .i64 r.high, .int .i64 r.good, .bool r.must] 146)) = w1 at k0 k1 k2 k3 k4 k5 k6 KO HB ⊢
  have IT := Lib.hid (isIn_any r.typ 1 255 w1)
  have IS := Lib.hid (isIn_any r.size 0 4 w1)
  refine KO.out.mono ?_
  rintro e w' ⟨(⟨k, rfl, hk1, hk2, hk3⟩ | ⟨rfl, hno⟩), rfl⟩
  · have HK2 := Lib.hid hk2
    have HK3 := Lib.hid hk3
    have HK1 := Lib.hid hk1
    clear hk1 hk2 hk3 KO
    by_cases ht : 1 ≤ r.typ ∧ r.typ ≤ 255
    · by_cases hs : 0 ≤ r.size ∧ r.size ≤ 4
      · rw [decide_eq_true ht] at IT
        rw [decide_eq_true hs] at IS
        have HT := Lib.hid ht
        have HS := Lib.hid hs
        clear ht hs
        go_wp2_with fail
        refine IT.out.mono ?_
        rintro e w' ⟨rfl, rfl⟩
        go_wp2_with fail
        refine IS.out.mono ?_
        rintro e w' ⟨rfl, rfl⟩
        by_cases h0 : r.size = 0 ∧ r.kind ≠ 1
        · have HN : Hid (¬ isR r) := fun h => h0.2 (h.2.2.2.2.1 h0.1)
          obtain ⟨h00, h01⟩ := h0
          have e1 : (r.kind != 1) = true := by simpa using h01
          clear h01
          go_wp2
          go_ret
          exact ⟨by rw [decide_eq_false HN.out]; rfl, HB.out⟩
        · have H0 : Hid (r.size = 0 → r.kind = 1) := fun h => Classical.byContradiction fun hk => h0 ⟨h, hk⟩
          go_upto_region 4 with fail
          go_cut [29] (fun s wx => s = .bool false ∧ w1 = wx)
          case first =>
            by_cases h1 : r.size = 0
            · have e1 : (r.kind != 1) = false := by simpa using H0.out h1
              clear h0
              go_wp2
              go_meet
              exact ⟨rfl, rfl⟩
            · have e1 : (r.size == 0) = false := by simpa using h1
              clear h0 h1
              go_wp2
              go_meet
              exact ⟨rfl, rfl⟩
          case rest =>
            clear h0
            obtain ⟨rfl, rfl⟩ := hcut
            go_upto_region 6 with fail
            go_cut [4] (fun s wx => ∃ M : Int, s = .int .i64 M ∧ M + 1 = lim r.size ∧ w1 = wx)
            case first =>
              rcases lim_cases HS.out with ⟨e1, e2⟩ | ⟨e1, e2⟩ | ⟨e1, e2⟩ | ⟨e1, e2⟩ | ⟨e1, e2⟩
              all_goals (
                rw [e1] at k1
                clear e1
                have E2 := Lib.hid e2
                clear e2
                go_wp2
                go_meet
                exact ⟨_, rfl, by rw [E2.out]; rfl, rfl⟩)
            case rest =>
              obtain ⟨M, rfl, hM, rfl⟩ := hcut
              have HM := Lib.hid hM
              clear hM
              have I3 := Lib.hid (isIn_any r.low 0 M w1)
              have I4 := Lib.hid (isIn_any r.high 0 M w1)
              have I5 := Lib.hid (isIn_any r.good 0 M w1)
              by_cases h3 : 0 ≤ r.low ∧ r.low ≤ M
              · rw [decide_eq_true h3] at I3
                have H3 := Lib.hid h3
                clear h3
                by_cases h4 : 0 ≤ r.high ∧ r.high ≤ M
                · rw [decide_eq_true h4] at I4
                  have H4 := Lib.hid h4
                  clear h4
                  by_cases h5 : 0 ≤ r.good ∧ r.good ≤ M
                  · rw [decide_eq_true h5] at I5
                    have HE := Lib.hid (isR_iff HT.out HS.out H0.out M HM.out H3.out H4.out h5)
                    clear h5
                    have TK := Lib.hid (HK3.out r r.good w1 rfl)
                    go_wp2_with fail
                    refine I3.out.mono ?_
                    rintro e w' ⟨rfl, rfl⟩
                    go_wp2_with fail
                    refine I4.out.mono ?_
                    rintro e w' ⟨rfl, rfl⟩
                    go_wp2_with fail
                    refine I5.out.mono ?_
                    rintro e w' ⟨rfl, rfl⟩
                    have hk2 := HK2.out
                    go_wp2_with fail
                    refine TK.out.mono ?_
                    rintro e w' ⟨rfl, hb⟩
                    rw [← HE.out]
                    have HB2 := Lib.hid (HB.out.trans (hb.mono HB.out.size))
                    clear hb
                    go_wp2
                    go_ret
                    exact ⟨rfl, HB2.out⟩
                  · rw [decide_eq_false h5] at I5
                    have HN : Hid (¬ isR r) := fun h => h5 (by have := HM.out; have := h.2.2.2.2.2.2.2.2.2.1; have := h.2.2.2.2.2.2.2.2.2.2.1; omega)
                    clear h5
                    go_wp2_with fail
                    refine I3.out.mono ?_
                    rintro e w' ⟨rfl, rfl⟩
                    go_wp2_with fail
                    refine I4.out.mono ?_
                    rintro e w' ⟨rfl, rfl⟩
                    go_wp2_with fail
                    refine I5.out.mono ?_
                    rintro e w' ⟨rfl, rfl⟩
                    go_wp2
                    go_ret
                    exact ⟨by rw [decide_eq_false HN.out]; rfl, HB.out⟩
                · rw [decide_eq_false h4] at I4
                  have HN : Hid (¬ isR r) := fun h => h4 (by have := HM.out; have := h.2.2.2.2.2.2.2.1; have := h.2.2.2.2.2.2.2.2.1; omega)
                  clear h4
                  go_wp2_with fail
                  refine I3.out.mono ?_
                  rintro e w' ⟨rfl, rfl⟩
                  go_wp2_with fail
                  refine I4.out.mono ?_
                  rintro e w' ⟨rfl, rfl⟩
                  go_wp2
                  go_ret
                  exact ⟨by rw [decide_eq_false HN.out]; rfl, HB.out⟩
              · rw [decide_eq_false h3] at I3
                have HN : Hid (¬ isR r) := fun h => h3 (by have := HM.out; have := h.2.2.2.2.2.1; have := h.2.2.2.2.2.2.1; omega)
                clear h3
                go_wp2_with fail
                refine I3.out.mono ?_
                rintro e w' ⟨rfl, rfl⟩
                go_wp2
                go_ret
                exact ⟨by rw [decide_eq_false HN.out]; rfl, HB.out⟩
      · rw [decide_eq_true ht] at IT
        rw [decide_eq_false hs] at IS
        have HN : Hid (¬ isR r) := fun h => hs ⟨h.2.2.1, h.2.2.2.1⟩
        clear ht hs
        go_wp2_with fail
        refine IT.out.mono ?_
        rintro e w' ⟨rfl, rfl⟩
        go_wp2_with fail
        refine IS.out.mono ?_
        rintro e w' ⟨rfl, rfl⟩
        go_wp2
        go_ret
        exact ⟨by rw [decide_eq_false HN.out]; rfl, HB.out⟩
    · rw [decide_eq_false ht] at IT
      have HN : Hid (¬ isR r) := fun h => ht ⟨h.1, h.2.1⟩
      clear ht
      go_wp2_with fail
      refine IT.out.mono ?_
      rintro e w' ⟨rfl, rfl⟩
      go_wp2
      go_ret
      exact ⟨by rw [decide_eq_false HN.out]; rfl, HB.out⟩
  · have HN := Lib.hid (isR_no1 hno)
    clear hno
    go_wp2
    go_ret
    exact ⟨by rw [decide_eq_false HN.out]; rfl, HB.out⟩
end Go.Proofs.YtclplbapedmihaaGreat.Ng
namespace Go.Proofs.YtclplbapedmihaaGreat.Ng
set_option maxRecDepth 4000
open Go.RowKit
set_option linter.unusedVariables false
set_option linter.unusedSimpArgs false
theorem results_tmp_cell_row {P : Program} {fn : Func} {p u : Tmp} {ty : TypeId} (h : fn.results = #[.tmp u, .cell p ty]) (tmps : Array Value) (w : World) (g : Nat) (t : TypeId) (cs : Array Value) (fr : Nat × Nat) (d : TypeDesc)
    (hp : tmps.getD p undef = .pointer (some ⟨g, 0, none⟩)) (hg : w.heap[g]? = some (.cells cs t fr))
    (hu : P.underlying ty = some d) (hd : (match d with | .struct _ | .array _ _ => true | _ => false) = true) (hi : (P.info? ty).map (·.size) = some cs.size) :
    (results fn tmps).run P w = .ok (.tuple #[tmps.getD u undef, .agg cs]) w := by
  have hp' : tmps[p]?.getD undef = .pointer (some ⟨g, 0, none⟩) := by simpa using hp
  have hr := run_loadVar_row w g t ty cs fr d hg hu hd hi
  simp only [results, h]
  simp [Sem.run_bind, Result.andThen, hp', asAddr, hr]
/-- What 'of' tells: the place of the first rule of a type, and the rule. -/
def OfR (rs : List Ru) (T : Int) (w : World) (e : Ending) (w' : World) : Prop :=
  ((∃ (k : Nat) (h : k < rs.length) (r : Ru), e = .returned (.tuple #[.int .i64 (k : Int), .agg #[.int .i64 r.typ, .int .i64 r.size, .int .i64 r.kind, .int .i64 r.low, .int .i64 r.high, .int .i64 r.good, .bool r.must]]) ∧ r = rs[k] ∧ r.typ = T ∧ ∀ j (hj : j < k), (rs[j]'(by omega)).typ ≠ T) ∨
    (e = .returned (.tuple #[.int .i64 (-1), .agg #[.int .i64 0, .int .i64 0, .int .i64 0, .int .i64 0, .int .i64 0, .int .i64 0, .bool false]]) ∧ ∀ j (hj : j < rs.length), rs[j].typ ≠ T)) ∧ Below w.heap.size w w'
theorem OfR.hit {rs : List Ru} {T : Int} {w w' : World} (r : Ru) (k : Nat) (h : k < rs.length) (hr : r = rs[k]) (h1 : r.typ = T) (h2 : ∀ j (hj : j < k), (rs[j]'(by omega)).typ ≠ T) (hb : Below w.heap.size w w') :
    OfR rs T w (.returned (.tuple #[.int .i64 (k : Int), .agg #[.int .i64 r.typ, .int .i64 r.size, .int .i64 r.kind, .int .i64 r.low, .int .i64 r.high, .int .i64 r.good, .bool r.must]])) w' := ⟨.inl ⟨k, h, r, rfl, hr, h1, h2⟩, hb⟩
set_option maxRecDepth 20000 in
set_option maxHeartbeats 2000000 in
theorem of_any (ao : Option Addr) (n c : Nat) (rs : List Ru) (T : Int) (w : World) (hr : RR w (.slice ao n c) n rs) :
    Calls Tryz.prog 114 #[.slice ao n c, .int .i64 T] w (OfR rs T w) := by
  have hl := hr.len
  have HR := Lib.hid hr
  have hsh := hr.sh
  have hn63 : n ≤ 9223372036854775807 := by have := hsh.1; have := hsh.2; unfold maxLen at *; omega
  have HB0 : Hid (Below w.heap.size w (w.alloc (.cells #[.int .i64 0, .int .i64 0, .int .i64 0, .int .i64 0, .int .i64 0, .int .i64 0, .bool false] 146))) := (Below.refl _ _).alloc (Nat.le_refl _) _
  have HG0 : Hid ((w.alloc (.cells #[.int .i64 0, .int .i64 0, .int .i64 0, .int .i64 0, .int .i64 0, .int .i64 0, .bool false] 146)).heap[w.heap.size]? = some (.cells #[.int .i64 0, .int .i64 0, .int .i64 0, .int .i64 0, .int .i64 0, .int .i64 0, .bool false] 146)) := heap_alloc_last _ _
  clear hr hsh
  go_enter Tryz.func114, Tryz.ntmps114
  go_wp2
  go_loopw [10] (fun iv wr => ∃ k : Nat, k ≤ n ∧ iv = .int .i64 k ∧ (∀ j (hj : j < k) (h2 : j < rs.length), rs[j].typ ≠ T) ∧ Below w.heap.size w wr ∧ wr.heap[w.heap.size]? = some (.cells #[.int .i64 0, .int .i64 0, .int .i64 0, .int .i64 0, .int .i64 0, .int .i64 0, .bool false] 146)) (fun iv _ => n - (intOf iv).toNat)
  case atStart => exact ⟨0, Nat.zero_le _, rfl, fun j hj => by omega, HB0.out, HG0.out⟩
  case round =>
    clear HB0 HG0
    obtain ⟨k, hk, rfl, hne, hb, hg⟩ := hrel
    have HNE := Lib.hid hne
    have HB := Lib.hid hb
    have HG := Lib.hid hg
    have HBN := Lib.hid (hb.size)
    clear hne hb hg
    by_cases hlt : k < n
    · obtain ⟨b, o, rfl, hbl, hc⟩ := (HR.out.below HB.out).cells (by omega)
      obtain ⟨c0, c1, c2, c3, c4, c5, c6⟩ := hc k (by omega)
      obtain ⟨r, hr⟩ : ∃ r, r = rs[k] := ⟨_, rfl⟩
      rw [← hr] at c0 c1 c2 c3 c4 c5 c6
      have HRK := Lib.hid hr
      have HBA : Hid (Gr wr (wr.alloc (.cells #[.int .i64 r.typ, .int .i64 r.size, .int .i64 r.kind, .int .i64 r.low, .int .i64 r.high, .int .i64 r.good, .bool r.must] 101))) := (Gr.refl wr).alloc _
      have HB1 := Lib.hid (HB.out.trans (Below.mono HBA.out HBN.out))
      have HG1 := Lib.hid (heap_gr HBA.out HG.out)
      have HGC : Hid ((wr.alloc (.cells #[.int .i64 r.typ, .int .i64 r.size, .int .i64 r.kind, .int .i64 r.low, .int .i64 r.high, .int .i64 r.good, .bool r.must] 101)).heap[wr.heap.size]? = some (.cells #[.int .i64 r.typ, .int .i64 r.size, .int .i64 r.kind, .int .i64 r.low, .int .i64 r.high, .int .i64 r.good, .bool r.must] 101)) := heap_alloc_last _ _
      clear hr hc
      by_cases ht : r.typ = T
      · subst ht
        go_upto_region 5 with fail
        obtain ⟨wq, hwq⟩ : ∃ wq, wq = wr.alloc (.cells #[.int .i64 r.typ, .int .i64 r.size, .int .i64 r.kind, .int .i64 r.low, .int .i64 r.high, .int .i64 r.good, .bool r.must] 101) := ⟨_, rfl⟩
        rw [← hwq]
        rw [← hwq] at HB1 HG1 HGC
        clear hwq c0 c1 c2 c3 c4 c5 c6
        refine wp_region_G 3 Gr (by kernel_rfl) ?_
        -- 0: slot 19
        refine wpG_take preGr (i := 0) (v := ?_) (by kernel_rfl) (some 19) (by kernel_rfl) rfl (by kernel_rfl) (by kernel_rfl) (by kernel_rfl) (fun _ _ _ h => h) (by rfl) (fun w' hw' => ?_) rfl ?_
        rotate_left
        · go_simp
          with_reducible rfl
        simp only [Act.put, List.setIfInBounds_toArray, List.set_cons_zero, List.set_cons_succ]
        -- 1: slot 20
        refine wpG_take preGr (i := 1) (v := ?_) (by kernel_rfl) (some 20) (by kernel_rfl) rfl (by kernel_rfl) (by kernel_rfl) (by kernel_rfl) (fun _ _ _ h => h) (by rfl) (fun w' hw' => ?_) rfl ?_
        rotate_left
        · obtain ⟨g0, g1, g2, g3, g4, g5, g6⟩ := cells7 (heap_gr hw' HGC.out)
          go_simp
          with_reducible rfl
        simp only [Act.put, List.setIfInBounds_toArray, List.set_cons_zero, List.set_cons_succ]
        -- 2: slot 4
        refine wpG_take preGr (i := 2) (v := ?_) (by kernel_rfl) (some 4) (by kernel_rfl) rfl (by kernel_rfl) (by kernel_rfl) (by kernel_rfl) (fun _ _ _ h => h) (by rfl) (fun w' hw' => ?_) rfl ?_
        rotate_left
        · go_simp
          with_reducible rfl
        simp only [Act.put, List.setIfInBounds_toArray, List.set_cons_zero, List.set_cons_succ]
        refine wpG_tail (i := 3) (by decide) rfl (by kernel_rfl) (by rfl) ?_
        refine wp_store_whole (none) 146 (.tmp 5) (.tmp 20) rfl w.heap.size (ruC r) rfl rfl 146 (ruC ruZ) HG1.out sizeR2 rfl (ruC_one r) rfl ?_
        intro w4 h4 ho4
        have H4 := Lib.hid h4
        have HB4 : Hid (Below w.heap.size w w4) := ho4.below _ _ (Nat.le_refl _) HB1.out.drew
        clear h4 ho4
        try simp only [Act.put, List.setIfInBounds_toArray, List.set_cons_zero, List.set_cons_succ]
        refine wpG_done (by kernel_rfl) ?_ _
        go_wp2
        refine bodyPost_ret (v := .tuple #[.int .i64 k, .agg #[.int .i64 r.typ, .int .i64 r.size, .int .i64 r.kind, .int .i64 r.low, .int .i64 r.high, .int .i64 r.good, .bool r.must]]) (results_tmp_cell_row (P := Tryz.prog) (fn := Tryz.f114) rfl _ _ w.heap.size 146 _ (0, 0) _ rfl H4.out Tryz.underlying146 rfl (by kernel_rfl)) rfl ?_
        exact OfR.hit r k (by omega) HRK.out rfl (fun j hj => HNE.out j hj (by omega)) HB4.out
      · have htf : (r.typ == T) = false := by simpa using ht
        have HT := Lib.hid ht
        clear ht
        go_wp2
        go_roundw
        case rel =>
          have HN1 : ∀ j (hj : j < k + 1) (h2 : j < rs.length), rs[j].typ ≠ T := fun j hj h2 => by
            by_cases e : j = k
            · subst e; rw [← HRK.out]; exact HT.out
            · exact HNE.out j (by omega) h2
          first | exact ⟨k + 1, by omega, by go_num, HN1, HB1.out, HG1.out⟩ | ((repeat apply Exists.intro); exact ⟨⟨k + 1, by omega, by go_num, HN1, HB1.out, HG1.out⟩, rfl⟩)
        case measure => simp [intOf]; omega
    · obtain rfl : k = n := by omega
      go_wp2_with (refine wpList_store_whole rfl 146 (.tmp 5) (.tmp 22) rfl w.heap.size (ruC ruZ) rfl rfl 146 (ruC ruZ) HG.out sizeR2 rfl (ruC_one ruZ) ?_)
      intro w3 h3 ho3
      have H3 := Lib.hid h3
      have HB3 : Hid (Below w.heap.size w w3) := ho3.below _ _ (Nat.le_refl _) HB.out
      clear h3 ho3
      go_wp2
      refine bodyPost_ret (v := .tuple #[.int .i64 (-1), .agg #[.int .i64 0, .int .i64 0, .int .i64 0, .int .i64 0, .int .i64 0, .int .i64 0, .bool false]]) (results_tmp_cell_row (P := Tryz.prog) (fn := Tryz.f114) rfl _ _ w.heap.size 146 _ (0, 0) _ rfl H3.out Tryz.underlying146 rfl (by kernel_rfl)) rfl ?_
      exact ⟨.inr ⟨rfl, fun j hj => HNE.out j (by omega) hj⟩, HB3.out⟩
/-- What has been looked at: all may be, and no two have one type. -/
def okTo (rs : List Ru) (k : Nat) : Prop := ∀ j (hj : j < rs.length), j < k → isR rs[j] ∧ ∀ i (hi : i < j), (rs[i]'(by omega)).typ ≠ rs[j].typ
theorem okTo.next {rs : List Ru} {k : Nat} (h : okTo rs k) (hk : k < rs.length) (h1 : isR rs[k]) (h2 : ∀ i (hi : i < k), (rs[i]'(by omega)).typ ≠ rs[k].typ) : okTo rs (k + 1) := fun j hj hjk => by
  by_cases e : j = k
  · subst e; exact ⟨h1, h2⟩
  · exact h j hj (by omega)
theorem areR_iff (rs : List Ru) : areR rs ↔ rs.length ≤ 16 ∧ okTo rs rs.length := by
  constructor
  · rintro ⟨h1, h2, h3⟩
    refine ⟨h1, fun j hj _ => ⟨h2 _ (List.getElem_mem hj), fun i hi e => ?_⟩⟩
    have := List.pairwise_iff_getElem.1 h3 i j (by rw [List.length_map]; omega) (by rw [List.length_map]; omega) hi
    apply this
    simp [e]
  · rintro ⟨h1, h2⟩
    refine ⟨h1, fun r hr => ?_, ?_⟩
    · obtain ⟨i, hi, rfl⟩ := List.mem_iff_getElem.1 hr
      exact (h2 i hi hi).1
    · refine List.pairwise_iff_getElem.2 fun i j hi hj hij e => ?_
      rw [List.length_map] at hj
      simp only [List.getElem_map] at e
      exact (h2 j hj hj).2 i hij e
set_option maxRecDepth 20000 in
set_option maxHeartbeats 2000000 in
theorem mayBes_any (ao : Option Addr) (n c : Nat) (rs : List Ru) (w : World) (hr : RR w (.slice ao n c) n rs) :
    Calls Tryz.prog 93 #[.slice ao n c] w fun e w' => e = .returned (.bool (decide (areR rs))) ∧ Below w.heap.size w w' := by
  have hl := hr.len
  have HR := Lib.hid hr
  clear hr
  by_cases h16 : n ≤ 16
  · go_enter Tryz.func93, Tryz.ntmps93
    go_wp2
    go_loopw [12] (fun iv wr => ∃ k : Nat, k ≤ n ∧ iv = .int .i64 k ∧ okTo rs k ∧ Below w.heap.size w wr) (fun iv _ => n - (intOf iv).toNat)
    case atStart => exact ⟨0, Nat.zero_le _, rfl, fun j hj h => by omega, Below.refl _ _⟩
    case round =>
      obtain ⟨k, hk, rfl, hok, hb⟩ := hrel
      have HOK := Lib.hid hok
      have HB := Lib.hid hb
      have HBN := Lib.hid (hb.size)
      clear hok hb
      by_cases hlt : k < n
      · obtain ⟨b, o, rfl, hbl, hc⟩ := (HR.out.below HB.out).cells (by omega)
        obtain ⟨c0, c1, c2, c3, c4, c5, c6⟩ := hc k (by omega)
        obtain ⟨r, hr⟩ : ∃ r, r = rs[k] := ⟨_, rfl⟩
        rw [← hr] at c0 c1 c2 c3 c4 c5 c6
        have HRK := Lib.hid hr
        have HBA : Hid (Gr wr (wr.alloc (.cells #[.int .i64 r.typ, .int .i64 r.size, .int .i64 r.kind, .int .i64 r.low, .int .i64 r.high, .int .i64 r.good, .bool r.must] 101))) := (Gr.refl wr).alloc _
        have HB1 := Lib.hid (HB.out.trans (Below.mono HBA.out HBN.out))
        have HGC : Hid ((wr.alloc (.cells #[.int .i64 r.typ, .int .i64 r.size, .int .i64 r.kind, .int .i64 r.low, .int .i64 r.high, .int .i64 r.good, .bool r.must] 101)).heap[wr.heap.size]? = some (.cells #[.int .i64 r.typ, .int .i64 r.size, .int .i64 r.kind, .int .i64 r.low, .int .i64 r.high, .int .i64 r.good, .bool r.must] 101)) := heap_alloc_last _ _
        have q0 := (cells7 HGC.out).1
        have OF := Lib.hid (of_any _ n c rs r.typ (wr.alloc (.cells #[.int .i64 r.typ, .int .i64 r.size, .int .i64 r.kind, .int .i64 r.low, .int .i64 r.high, .int .i64 r.good, .bool r.must] 101)) (HR.out.below HB1.out))
        clear hr hc
        go_wp2_with fail
        refine OF.out.mono ?_
        rintro e w2 ⟨(⟨i, hi, x, rfl, hx, h1, h2⟩ | ⟨rfl, hno⟩), hb2⟩
        · have HX := Lib.hid hx
          have hik : i ≤ k := Classical.byContradiction fun h => h2 k (by omega) (by rw [← HRK.out])
          have H1 := Lib.hid h1
          have H2 := Lib.hid h2
          have HG2 := Lib.hid (heap_below HGC.out hb2)
          have HB2 := Lib.hid (HB1.out.trans (hb2.mono HB1.out.size))
          clear h1 h2 hb2 hx OF c0 c1 c2 c3 c4 c5 c6 q0
          by_cases hlk : i < k
          · have HN : Hid (¬ areR rs) := fun h => by
              have := ((areR_iff rs).1 h).2 k (by omega) (by omega)
              exact this.2 i hlk (by rw [← HX.out, H1.out, HRK.out])
            go_wp2
            go_ret
            exact ⟨by rw [decide_eq_false HN.out]; rfl, (HB2.out.alloc HB2.out.size _)⟩
          · obtain rfl : i = k := by omega
            have HX2 : Hid (x = r) := HX.out.trans HRK.out.symm
            have hg3 : Gr w2 (w2.alloc (.cells #[.int .i64 x.typ, .int .i64 x.size, .int .i64 x.kind, .int .i64 x.low, .int .i64 x.high, .int .i64 x.good, .bool x.must] 146)) := (Gr.refl _).alloc _
            have HB3 := Lib.hid (HB2.out.trans (Below.mono hg3 HB2.out.size))
            have HG3 := Lib.hid (heap_gr hg3 HG2.out)
            obtain ⟨q0, q1, q2, q3, q4, q5, q6⟩ := cells7 HG3.out
            have MB := Lib.hid (mayBe_any r (w2.alloc (.cells #[.int .i64 x.typ, .int .i64 x.size, .int .i64 x.kind, .int .i64 x.low, .int .i64 x.high, .int .i64 x.good, .bool x.must] 146)))
            clear hg3
            by_cases hi2 : isR r
            · rw [decide_eq_true hi2] at MB
              have HOK2 : Hid (okTo rs (i + 1)) := HOK.out.next (by omega) (by rw [← HRK.out]; exact hi2) (fun j hj => by rw [← HX.out, H1.out]; exact H2.out j hj)
              clear hi2
              go_wp2_with fail
              refine MB.out.mono ?_
              rintro e w4 ⟨rfl, hb4⟩
              have HB4 := Lib.hid (HB3.out.trans (hb4.mono HB3.out.size))
              clear hb4
              go_wp2
              go_roundw
              case rel =>
                first | exact ⟨i + 1, by omega, by go_num, HOK2.out, HB4.out⟩ | ((repeat apply Exists.intro); exact ⟨⟨i + 1, by omega, by go_num, HOK2.out, HB4.out⟩, rfl⟩)
              case measure => simp [intOf]; omega
            · rw [decide_eq_false hi2] at MB
              have HN : Hid (¬ areR rs) := fun h => hi2 (by
                have := (((areR_iff rs).1 h).2 i (by omega) (by omega)).1
                rwa [← HRK.out] at this)
              clear hi2
              go_wp2_with fail
              refine MB.out.mono ?_
              rintro e w4 ⟨rfl, hb4⟩
              have HB4 := Lib.hid (HB3.out.trans (hb4.mono HB3.out.size))
              clear hb4
              go_wp2
              go_ret
              exact ⟨by rw [decide_eq_false HN.out]; rfl, HB4.out⟩
        · exact (hno k (by omega) (by rw [← HRK.out])).elim
      · obtain rfl : k = n := by omega
        have HA : Hid (areR rs) := (areR_iff rs).2 ⟨by omega, by rw [hl]; exact HOK.out⟩
        go_wp2
        go_ret
        exact ⟨by rw [decide_eq_true HA.out]; rfl, HB.out⟩
  · have HN : Hid (¬ areR rs) := fun h => h16 (by rw [← hl]; exact h.1)
    have hlt : (16 : Int) < (n : Int) := by omega
    clear h16
    go_enter Tryz.func93, Tryz.ntmps93
    go_wp2
    go_ret
    exact ⟨by rw [decide_eq_false HN.out]; rfl, Below.refl _ _⟩
theorem check_any (ao : Option Addr) (n c : Nat) (rs : List Ru) (w : World) (hr : RR w (.slice ao n c) n rs) :
    Calls Tryz.prog 80 #[.slice ao n c] w fun e w' => e = .returned (.int .i64 (if areR rs then 0 else 150)) ∧ Below w.heap.size w w' := by
  have MB := Lib.hid (mayBes_any ao n c rs w hr)
  clear hr
  by_cases h : areR rs
  · rw [decide_eq_true h] at MB
    rw [if_pos h]
    clear h
    go_enter Tryz.func80, Tryz.ntmps80
    go_wp2_with fail
    refine MB.out.mono ?_
    rintro e w4 ⟨rfl, hb4⟩
    have HB4 := Lib.hid hb4
    clear hb4
    go_wp2
    go_ret
    exact ⟨rfl, HB4.out⟩
  · rw [decide_eq_false h] at MB
    rw [if_neg h]
    clear h
    go_enter Tryz.func80, Tryz.ntmps80
    go_wp2_with fail
    refine MB.out.mono ?_
    rintro e w4 ⟨rfl, hb4⟩
    have HB4 := Lib.hid hb4
    clear hb4
    go_wp2
    go_ret
    exact ⟨rfl, HB4.out⟩
end Go.Proofs.YtclplbapedmihaaGreat.Ng
namespace Go.Proofs.YtclplbapedmihaaGreat.Ng
set_option maxRecDepth 4000
open Go.RowKit
set_option linter.unusedVariables false
set_option linter.unusedSimpArgs false
theorem sizeMayBe_zero (w : World) : Calls Tryz.prog 85 #[.int .i64 0] w fun e w' => e = .returned (.bool false) ∧ w = w' := by
  go_enter Tryz.func85, Tryz.ntmps85
  go_wp2
  go_ret
  exact ⟨rfl, rfl⟩
theorem take_zero (w : World) (a : Option Addr) (n c : Nat) : Calls Tryz.prog 160 #[.slice a n c, .int .i64 0] w fun e w' => e = .returned (.tuple #[.int .u64 0, .slice none 0 0, .bool false]) ∧ w = w' := by
  go_enter Tryz.func160, Tryz.ntmps160
  go_wp2_with (go_at_call 85; refine (sizeMayBe_zero _).mono ?_; rintro e w' ⟨rfl, rfl⟩)
  go_ret3
  exact ⟨tup3 rfl, rfl⟩
end Go.Proofs.YtclplbapedmihaaGreat.Ng
namespace Go.Proofs.YtclplbapedmihaaGreat.Ng
set_option maxRecDepth 4000
open Go.RowKit
set_option linter.unusedVariables false
set_option linter.unusedSimpArgs false
/-- Nothing that was there has turned; or nothing but one block. -/
def OB (o : Option Nat) (w w' : World) : Prop := match o with
  | none => Below w.heap.size w w'
  | some g => Only g w w'
theorem OB.refl (o : Option Nat) (w : World) : OB o w w := by cases o with
  | none => exact Below.refl _ _
  | some g => exact Only.refl _ _
theorem OB.size {o : Option Nat} {w w' : World} (h : OB o w w') : w.heap.size ≤ w'.heap.size := by cases o with
  | none => exact Below.size h
  | some g => exact Only.size h
theorem OB.trans {o : Option Nat} {a b c : World} (h : OB o a b) (k : OB o b c) : OB o a c := by cases o with
  | none => exact Below.trans h (Below.mono k (Below.size h))
  | some g => exact Only.trans h k
theorem OB.after {o : Option Nat} {a b c : World} (h : OB o a b) (ho : ∀ g, o = some g → g < a.heap.size) (k : Below a.heap.size b c) : OB o a c := by cases o with
  | none => exact Below.trans h k
  | some g =>
    have hg := ho g rfl
    exact ⟨Nat.le_trans (Only.size h) k.size, fun B w0 hB hb => ((Only.below h) B w0 hB hb).trans (k.mono (by omega)), fun i hi hn => by rw [k.block i hi, Only.heap h i hi hn]⟩
theorem OB.below {o : Option Nat} {w0 w w' : World} (h : OB o w w') (hg : ∀ g, o = some g → w0.heap.size ≤ g) (hb : Below w0.heap.size w0 w) : Below w0.heap.size w0 w' := by cases o with
  | none => exact hb.trans (Below.mono h hb.size)
  | some g => exact Only.below h _ _ (hg g rfl) hb
theorem OB.own {o : Option Nat} {w w' : World} {base : Nat} {e : TypeId} {size n : Nat} {v : Value} {xs : List Value} (h : OB o w w') (hg : ∀ g, o = some g → g < base) (hr : w.ownsRow base e size v n xs) : w'.ownsRow base e size v n xs := by cases o with
  | none => exact ownsRow_below hr h
  | some g => exact ownsRow_only hr h (hg g rfl)
theorem OB.to {o : Option Nat} {w w' : World} {base : Nat} {v : Value} {ts : List O.Tg} (h : OB o w w') (hg : ∀ g, o = some g → g < base) (hr : O.TO w base v ts) : O.TO w' base v ts :=
  ⟨h.own hg hr.own, fun t ht => h.own hg (hr.vals t ht)⟩
theorem OB.heap {o : Option Nat} {w w' : World} {k : Nat} {x : Obj} (h : OB o w w') (hk : o ≠ some k) (hx : w.heap[k]? = some x) : w'.heap[k]? = some x := by cases o with
  | none => exact heap_below hx h
  | some g => rw [Only.heap h k (Array.getElem?_eq_some_iff.1 hx).1 (fun e => hk (by rw [e]))]; exact hx
/-- What the closure tells of one option: what stays, if it stays. -/
def Tells (out : Option PT) (w' : World) (e : Ending) : Prop :=
  ∃ (U : Int) (A : Option Addr) (L C : Nat) (b : Bool) (l : List UInt8), e = .returned (.tuple #[.agg #[.int .i64 U, .slice A L C], .bool b]) ∧ out = (if b then some (U, l) else none) ∧ (b = true → l.length = L ∧ L ≤ 1000 ∧ Bs w' (.slice A L C) l)
/-- What stays of the first k. -/
def outs (out : Nat → Option PT) (k : Nat) : List PT := (List.range k).filterMap out
theorem outs_succ (out : Nat → Option PT) (k : Nat) : outs out (k + 1) = outs out k ++ (out k).toList := by
  unfold outs
  rw [List.range_succ, List.filterMap_append]
  cases h : out k <;> simp [h]
theorem outs_zero (out : Nat → Option PT) : outs out 0 = [] := rfl
theorem outs_length (out : Nat → Option PT) (k : Nat) : (outs out k).length ≤ k := by
  unfold outs
  exact Nat.le_trans (List.length_filterMap_le _ _) (by simp)
open O in
set_option maxRecDepth 20000 in
set_option maxHeartbeats 4000000 in
theorem walk_any (w0 w : World) (o : Option Nat) (hg0 : ∀ g, o = some g → w0.heap.size ≤ g) (hg1 : ∀ g, o = some g → g < w.heap.size) (hb0 : Below w0.heap.size w0 w)
    (ao : Option Addr) (n c : Nat) (ts : List Tg) (hr : TR w0 (.slice ao n c) n ts) (hn : n ≤ 1000)
    (k : Nat) (caps : Array Value) (hk : ∀ (args : Array Value) (w' : World), (callFunc k args).run Tryz.prog w' = .ok (.enter k args) w')
    (I : Nat → World → Prop) (hI : ∀ j w1 w2, I j w1 → Below w.heap.size w1 w2 → I j w2) (h0 : I 0 w) (out : Nat → Option PT)
    (HS : ∀ j (hj : j < ts.length) (T : Int) (A : Option Addr) (L C : Nat) (wr : World), T = ts[j].typ → ts[j].val = .slice A L C → Bs wr (.slice A L C) ts[j].l → Below w0.heap.size w0 wr → w.heap.size ≤ wr.heap.size → I j wr →
      Calls Tryz.prog k (#[.agg #[.int .i64 T, .slice A L C]] ++ caps) wr fun e w' => Tells (out j) w' e ∧ OB o wr w' ∧ I (j + 1) w') :
    Calls Tryz.prog 140 #[.slice ao n c, .func (.func k) #[] caps] w fun e w' => ∃ v us, e = .returned v ∧ plain us = outs out n ∧ TO w' w.heap.size v us ∧ OB o w w' ∧ I n w' := by
  obtain ⟨i0, hi, hz0, hz1, hz2⟩ := info_parts infoT
  have hl := hr.len
  have HR := Lib.hid hr
  have HG0 := Lib.hid hg0
  have HG1 := Lib.hid hg1
  have HB0 := Lib.hid hb0
  have HI := Lib.hid hI
  have H0 := Lib.hid h0
  have HSS := Lib.hid HS
  clear hr hg0 hg1 hb0 hI h0 HS
  go_enter Tryz.func140, Tryz.ntmps140
  go_wp2
  go_loopw [5, 12] (fun ov iv wr => ∃ (j : Nat) (us : List Tg) (lv : Value), j ≤ n ∧ iv = .int .i64 j ∧ lv = ov ∧ plain us = outs out j ∧ TO wr w.heap.size lv us ∧ OB o w wr ∧ I j wr) (fun _ iv _ => n - (intOf iv).toNat)
  case atStart => exact ⟨0, [], _, Nat.zero_le _, rfl, rfl, rfl, TO.nil _ _, OB.refl _ _, H0.out⟩
  case round =>
    obtain ⟨j, us, lv, hj, rfl, rfl, hus, hto, hob, hij⟩ := hrel
    have HUS := Lib.hid hus
    have HTO := Lib.hid hto
    have HOB := Lib.hid hob
    have HIJ := Lib.hid hij
    have HB := Lib.hid (hob.below HG0.out HB0.out)
    have HBN := Lib.hid hob.size
    clear hus hto hob hij
    by_cases hlt : j < n
    · obtain ⟨b, off, rfl, hbl, hc⟩ := (HR.out.below HB.out).cells (by omega)
      obtain ⟨hc0, hc1⟩ := hc j (by omega)
      have HV := Lib.hid (HR.out.val j (by omega))
      obtain ⟨A, L, C, hv, hL, hLC, hCm⟩ := HV.out.sl
      rw [hv] at hc1
      have HE := Lib.hid hv
      obtain ⟨T, hT⟩ : ∃ T, T = ts[j].typ := ⟨_, rfl⟩
      rw [← hT] at hc0
      have HTT := Lib.hid hT
      have HBA : Hid (Gr wr (wr.alloc (.cells #[.int .i64 T, .slice A L C] 69))) := (Gr.refl wr).alloc _
      have HBS : Hid (Bs w0 (.slice A L C) ts[j].l) := by show Bs _ _ _; rw [← hv]; exact HV.out
      have CA := Lib.hid (HSS.out j (by omega) T A L C (wr.alloc (.cells #[.int .i64 T, .slice A L C] 69)) HTT.out HE.out (HBS.out.below (HB.out.trans (Below.mono HBA.out HB.out.size))) (HB.out.trans (Below.mono HBA.out HB.out.size)) (Nat.le_trans HBN.out HBA.out.size) (HI.out _ _ _ HIJ.out (Below.mono HBA.out HBN.out)))
      have HOB1 : Hid (OB o w (wr.alloc (.cells #[.int .i64 T, .slice A L C] 69))) := HOB.out.after HG1.out (Below.mono HBA.out HBN.out)
      have HTO1 : Hid (TO (wr.alloc (.cells #[.int .i64 T, .slice A L C] 69)) w.heap.size lv us) := HTO.out.below HBA.out
      clear hv hL hT hc hLC hCm
      go_wp2_with fail
      refine CA.out.mono ?_
      rintro e w2 ⟨⟨U, A2, L2, C2, q, l, rfl, hout, hq⟩, hob2, hi2⟩
      have HOB2 := Lib.hid (HOB1.out.trans hob2)
      have HTO2 := Lib.hid (hob2.to HG1.out HTO1.out)
      have HI2 := Lib.hid hi2
      have HOUT := Lib.hid hout
      have HQ := Lib.hid hq
      have HBC : Hid (Gr w2 (w2.alloc (.cells #[.int .i64 U, .slice A2 L2 C2] 69))) := (Gr.refl w2).alloc _
      have HBN2 := Lib.hid HOB2.out.size
      have HGC : Hid ((w2.alloc (.cells #[.int .i64 U, .slice A2 L2 C2] 69)).heap[w2.heap.size]? = some (.cells #[.int .i64 U, .slice A2 L2 C2] 69)) := heap_alloc_last _ _
      have HOB3 : Hid (OB o w (w2.alloc (.cells #[.int .i64 U, .slice A2 L2 C2] 69))) := HOB2.out.after HG1.out (Below.mono HBC.out HBN2.out)
      have HTO3 : Hid (TO (w2.alloc (.cells #[.int .i64 U, .slice A2 L2 C2] 69)) w.heap.size lv us) := HTO2.out.below HBC.out
      have HI3 := Lib.hid (HI.out _ _ _ HI2.out (Below.mono HBC.out HBN2.out))
      clear hob2 hi2 hout hq hc0 hc1 CA
      cases q with
      | false =>
        go_wp2
        go_roundw
        case rel =>
          have HU : plain us = outs out (j + 1) := by rw [outs_succ, HOUT.out, HUS.out]; simp
          first | exact ⟨j + 1, us, _, by omega, by go_num, rfl, HU, HTO3.out, HOB3.out, HI3.out⟩ | ((repeat apply Exists.intro); exact ⟨⟨j + 1, us, _, by omega, by go_num, rfl, HU, HTO3.out, HOB3.out, HI3.out⟩, rfl⟩)
        case measure => simp [intOf]; omega
      | true =>
        obtain ⟨hl2, hL2, hbs⟩ := HQ.out rfl
        have CL : Hid (∀ w', Gr (w2.alloc (.cells #[.int .i64 U, .slice A2 L2 C2] 69)) w' → Calls Tryz.prog 77 #[.slice A2 L2 C2] w' fun e w3 => ∃ v, e = .returned v ∧ OwnB w3 w'.heap.size 5 v l ∧ Below w'.heap.size w' w3) := fun w' hw' =>
          clone_any w' A2 L2 C2 l hl2 (hbs.below (HBC.out.trans hw')) (by omega)
        clear hl2 hL2 hbs
        go_upto_region 7 with fail
        obtain ⟨wq, hwq⟩ : ∃ wq, wq = w2.alloc (.cells #[.int .i64 U, .slice A2 L2 C2] 69) := ⟨_, rfl⟩
        rw [← hwq]
        rw [← hwq] at HGC HOB3 HTO3 HI3 CL
        have HQN := Lib.hid HOB3.out.size
        clear hwq
        have hus : us.length ≤ 1000 := by
          have h1 := outs_length out j
          rw [← HUS.out, plain_length] at h1
          omega
        refine wp_region_G 8 Gr (by kernel_rfl) ?_
        -- 0: slot 23
        refine wpG_take preGr (i := 0) (v := ?_) (by kernel_rfl) (some 23) (by kernel_rfl) rfl (by kernel_rfl) (by kernel_rfl) (by kernel_rfl) (fun _ _ _ h => h) (by rfl) (fun w' hw' => ?_) rfl ?_
        rotate_left
        · try have g0 := (copy_cells (heap_gr ((Gr.drew wq).trans hw') HGC.out)).1
          try have g1 := (copy_cells (heap_gr ((Gr.drew wq).trans hw') HGC.out)).2
          go_simp
          with_reducible rfl
        simp only [Act.put, List.setIfInBounds_toArray, List.set_cons_zero, List.set_cons_succ]
        -- 1: slot 24
        refine wpG_take preGr (i := 1) (v := ?_) (by kernel_rfl) (some 24) (by kernel_rfl) rfl (by kernel_rfl) (by kernel_rfl) (by kernel_rfl) (fun _ _ _ h => h) (by rfl) (fun w' hw' => ?_) rfl ?_
        rotate_left
        · try have g0 := (copy_cells (heap_gr ((Gr.drew wq).trans hw') HGC.out)).1
          try have g1 := (copy_cells (heap_gr ((Gr.drew wq).trans hw') HGC.out)).2
          go_simp
          with_reducible rfl
        simp only [Act.put, List.setIfInBounds_toArray, List.set_cons_zero, List.set_cons_succ]
        -- 2: slot 25
        refine wpG_take preGr (i := 2) (v := ?_) (by kernel_rfl) (some 25) (by kernel_rfl) rfl (by kernel_rfl) (by kernel_rfl) (by kernel_rfl) (fun _ _ _ h => h) (by rfl) (fun w' hw' => ?_) rfl ?_
        rotate_left
        · try have g0 := (copy_cells (heap_gr ((Gr.drew wq).trans hw') HGC.out)).1
          try have g1 := (copy_cells (heap_gr ((Gr.drew wq).trans hw') HGC.out)).2
          go_simp
          with_reducible rfl
        simp only [Act.put, List.setIfInBounds_toArray, List.set_cons_zero, List.set_cons_succ]
        -- 3: slot 26
        refine wpG_take preGr (i := 3) (v := ?_) (by kernel_rfl) (some 26) (by kernel_rfl) rfl (by kernel_rfl) (by kernel_rfl) (by kernel_rfl) (fun _ _ _ h => h) (by rfl) (fun w' hw' => ?_) rfl ?_
        rotate_left
        · try have g0 := (copy_cells (heap_gr ((Gr.drew wq).trans hw') HGC.out)).1
          try have g1 := (copy_cells (heap_gr ((Gr.drew wq).trans hw') HGC.out)).2
          go_simp
          with_reducible rfl
        simp only [Act.put, List.setIfInBounds_toArray, List.set_cons_zero, List.set_cons_succ]
        -- 4: slot 27
        refine wpG_take preGr (i := 4) (v := ?_) (by kernel_rfl) (some 27) (by kernel_rfl) rfl (by kernel_rfl) (by kernel_rfl) (by kernel_rfl) (fun _ _ _ h => h) (by rfl) (fun w' hw' => ?_) rfl ?_
        rotate_left
        · try have g0 := (copy_cells (heap_gr ((Gr.drew wq).trans hw') HGC.out)).1
          try have g1 := (copy_cells (heap_gr ((Gr.drew wq).trans hw') HGC.out)).2
          go_simp
          with_reducible rfl
        simp only [Act.put, List.setIfInBounds_toArray, List.set_cons_zero, List.set_cons_succ]
        refine wpG_one (i := 5) rfl (by kernel_rfl) (by rfl) ?_
        go_simp
        refine (CL.out _ (Gr.drew _)).mono ?_
        rintro e w3 ⟨v3, rfl, hown3, hb3⟩
        obtain ⟨A3, L3, C3, ev, hL3, _, _⟩ := hown3.bs.sl
        subst ev
        refine ⟨hb3, ?_⟩
        have hq3 : Gr wq w3 := (Gr.drew wq).trans hb3
        have HOB4 : Hid (OB o w w3) := HOB3.out.after HG1.out (Below.mono hq3 HQN.out)
        have HTO4 : Hid (TO w3 w.heap.size lv us) := HTO3.out.below hq3
        have HI4 := Lib.hid (HI.out _ _ _ HI3.out (Below.mono hq3 HQN.out))
        have HO4 := Lib.hid (hown3.mono (base' := w.heap.size) HQN.out)
        have HN4 := Lib.hid HOB4.out.size
        clear hown3 hb3 hq3 hL3
        try simp only [Act.put, List.setIfInBounds_toArray, List.set_cons_zero, List.set_cons_succ]
        -- 6: slot 29
        refine wpG_take preGr (i := 6) (v := ?_) (by kernel_rfl) (some 29) (by kernel_rfl) rfl (by kernel_rfl) (by kernel_rfl) (by kernel_rfl) (fun _ _ _ h => h) (by rfl) (fun w' hw' => ?_) rfl ?_
        rotate_left
        · refine Eq.trans (build_run (P := Tryz.prog) 69 [(0, .tmp 25), (1, .tmp 28)] ?_ #[.int .i64 U, .slice A3 L3 C3] ?_) ?_
          · rfl
          · exact builtT U A3 L3 C3
          · with_reducible rfl
        simp only [Act.put, List.setIfInBounds_toArray, List.set_cons_zero, List.set_cons_succ]
        refine wpG_one (i := 7) rfl (by kernel_rfl) (by rfl) ?_
        go_simp
        refine ⟨(Gr.refl _).alloc _, ?_⟩
        have hal : Gr w3 (w3.alloc (.cells #[.int .i64 U, .slice A3 L3 C3] 69)) := (Gr.refl _).alloc _
        have HOB5 : Hid (OB o w (w3.alloc (.cells #[.int .i64 U, .slice A3 L3 C3] 69))) := HOB4.out.after HG1.out (Below.mono hal HN4.out)
        have HTO5 : Hid (TO (w3.alloc (.cells #[.int .i64 U, .slice A3 L3 C3] 69)) w.heap.size lv us) := HTO4.out.below hal
        have HI5 := Lib.hid (HI.out _ _ _ HI4.out (Below.mono hal HN4.out))
        have HO5 := Lib.hid (HO4.out.below hal)
        have HN5 := Lib.hid HOB5.out.size
        have HRD := Lib.hid (rd_new w3 [.int .i64 U, .slice A3 L3 C3] 69 1 2 rfl (by decide))
        clear hal
        try simp only [Act.put, List.setIfInBounds_toArray, List.set_cons_zero, List.set_cons_succ]
        refine wpG_tail (i := 8) (by decide) rfl (by kernel_rfl) (by rfl) ?_
        refine wp_append_gr _ (some 31) (.tmp 23) (.tmp 30) 26 rfl w.heap.size 69 i0 _ 2 32 Tryz.underlying26 hi hz0 hz1 hz2 rfl (by decide) _ _ _ rfl HTO5.out.own _ 1 _ rfl HRD.out (one_tag U rfl) (by omega) (by decide) HN5.out rfl ?_
        intro v' wo ho' hg'
        have HTO6 : Hid (TO wo w.heap.size v' (us ++ [⟨U, .slice A3 L3 C3, l⟩])) := HTO5.out.more HO5.out ho' hg'
        have hgb := grown_below HTO5.out.own HN5.out hg'
        have HOB6 := Lib.hid (HOB5.out.after HG1.out hgb)
        have HI6 := Lib.hid (HI.out _ _ _ HI5.out hgb)
        clear ho' hg' hgb
        try simp only [Act.put, List.setIfInBounds_toArray, List.set_cons_zero, List.set_cons_succ]
        refine wpG_tail (i := 9) (by decide) rfl (by kernel_rfl) (by rfl) ?_
        go_simp
        try simp only [Act.put, List.setIfInBounds_toArray, List.set_cons_zero, List.set_cons_succ]
        refine wpG_done (by kernel_rfl) ?_ _
        go_wp2
        go_roundw
        case rel =>
          have HU : plain (us ++ [(⟨U, .slice A3 L3 C3, l⟩ : Tg)]) = outs out (j + 1) := by rw [outs_succ, HOUT.out, plain_append, HUS.out]; rfl
          first | exact ⟨j + 1, _, _, by omega, by go_num, rfl, HU, HTO6.out, HOB6.out, HI6.out⟩ | ((repeat apply Exists.intro); exact ⟨⟨j + 1, _, _, by omega, by go_num, rfl, HU, HTO6.out, HOB6.out, HI6.out⟩, rfl⟩)
        case measure => simp [intOf]; omega
    · obtain rfl : j = n := by omega
      obtain ⟨a', c', ev, _, _⟩ := HTO.out.tr.shape
      subst ev
      go_wp2
      go_ret
      exact ⟨_, us, rfl, HUS.out, HTO.out, HOB.out, HIJ.out⟩
end Go.Proofs.YtclplbapedmihaaGreat.Ng
namespace Go.Proofs.YtclplbapedmihaaGreat.Ng
set_option maxRecDepth 4000
open Go.RowKit O
set_option linter.unusedVariables false
set_option linter.unusedSimpArgs false
/-- What stays of a row, each looked at with those ahead of it. -/
def scanL (f : List PT → PT → Option PT) : List PT → List PT → List PT
  | _, [] => []
  | seen, o :: l => (f seen o).toList ++ scanL f (seen ++ [o]) l
theorem scanL_snoc (f : List PT → PT → Option PT) : ∀ (l seen : List PT) (o : PT), scanL f seen (l ++ [o]) = scanL f seen l ++ (f (seen ++ l) o).toList
  | [], seen, o => by simp [scanL]
  | x :: l, seen, o => by
    rw [List.cons_append, scanL, scanL, scanL_snoc f l, List.append_assoc, List.append_assoc]
    rfl
def outAt (l : List PT) (f : List PT → PT → Option PT) (j : Nat) : Option PT := l[j]?.bind (f (l.take j))
theorem outAt_get {ts : List Tg} (f : List PT → PT → Option PT) (j : Nat) (h : j < ts.length) : outAt (plain ts) f j = f ((plain ts).take j) (ts[j].typ, ts[j].l) := by
  unfold outAt
  rw [List.getElem?_eq_getElem (by rw [plain_length]; exact h), plain_get _ _ h]
  rfl
theorem outs_scan (l : List PT) (f : List PT → PT → Option PT) : ∀ k, k ≤ l.length → outs (outAt l f) k = scanL f [] (l.take k)
  | 0, _ => by rw [outs_zero]; rfl
  | k + 1, h => by
    rw [outs_succ, outs_scan l f k (by omega), List.take_succ_eq_append_getElem h, scanL_snoc]
    unfold outAt
    rw [List.getElem?_eq_getElem h]
    rfl
theorem outs_all (l : List PT) (f : List PT → PT → Option PT) {n : Nat} (h : l.length = n) : outs (outAt l f) n = scanL f [] l := by
  rw [outs_scan l f n (by omega), List.take_of_length_le (by omega)]
theorem scanL_plain (f : PT → Option PT) : ∀ (l seen : List PT), scanL (fun _ => f) seen l = l.filterMap f
  | [], _ => rfl
  | o :: l, seen => by
    rw [scanL, scanL_plain f l, List.filterMap_cons]
    cases f o <;> rfl
set_option maxRecDepth 20000 in
set_option maxHeartbeats 2000000 in
theorem copies1_any (T : Int) (A : Option Addr) (L C : Nat) (l : List UInt8) (hl : l.length = L) (hL : L ≤ 1000) (w : World) (hb : Bs w (.slice A L C) l) :
    Calls Tryz.prog 147 #[.agg #[.int .i64 T, .slice A L C]] w fun e w' => Tells (some (T, l)) w' e ∧ OB none w w' := by
  have hal : Gr w ((w.alloc (.cells #[.int .i64 T, .slice A L C] 69)).alloc (.cells #[.int .i64 0, .slice none 0 0] 69)) := ((Gr.refl w).alloc _).alloc _
  have HAL := Lib.hid hal
  have hg0 : ((w.alloc (.cells #[.int .i64 T, .slice A L C] 69)).alloc (.cells #[.int .i64 0, .slice none 0 0] 69)).heap[w.heap.size]? = some (.cells #[.int .i64 T, .slice A L C] 69) := heap2_0' _ _ _
  have HG1 : Hid (((w.alloc (.cells #[.int .i64 T, .slice A L C] 69)).alloc (.cells #[.int .i64 0, .slice none 0 0] 69)).heap[w.heap.size + 1]? = some (.cells #[.int .i64 0, .slice none 0 0] 69)) := heap2_1' _ _ _
  obtain ⟨k0, k1⟩ := copy_cells hg0
  have HB := Lib.hid hb
  clear hal hg0 hb
  go_enter Tryz.func147, Tryz.ntmps147
  go_wp2_with (refine wpList_store_whole rfl 69 (.tmp 2) (.tmp 4) rfl (w.heap.size + 1) [.int .i64 T, .slice A L C] rfl rfl 69 [.int .i64 0, .slice none 0 0] HG1.out O.sizeT rfl (O.one_tag _ rfl) ?_)
  intro w3 h3 ho3
  have H3 := Lib.hid h3
  have HB3 : Hid (Below w.heap.size w w3) := ho3.below _ _ (Nat.le_succ _) HAL.out
  clear h3 ho3
  go_wp2
  refine bodyPost_ret (v := .tuple #[.agg #[.int .i64 T, .slice A L C], .bool true]) (results_cell_tmp_row (P := Tryz.prog) (fn := Tryz.f147) rfl _ _ (w.heap.size + 1) 69 _ (0, 0) _ rfl H3.out Tryz.underlying69 rfl (by kernel_rfl)) rfl ?_
  exact ⟨⟨T, A, L, C, true, l, rfl, rfl, fun _ => ⟨hl, hL, HB.out.below HB3.out⟩⟩, HB3.out⟩
theorem copies_any (ao : Option Addr) (n c : Nat) (ts : List Tg) (w : World) (hr : TR w (.slice ao n c) n ts) (hn : n ≤ 1000) (hm : ∀ x ∈ ts, x.l.length ≤ 1000) :
    Calls Tryz.prog 110 #[.slice ao n c] w fun e w' => ∃ v us, e = .returned v ∧ plain us = plain ts ∧ TO w' w.heap.size v us ∧ Below w.heap.size w w' := by
  have hl := hr.len
  have WK := Lib.hid (walk_any w w none (fun _ h => by cases h) (fun _ h => by cases h) (Below.refl _ _) ao n c ts hr hn 147 #[] (fun _ _ => rfl) (fun _ _ => True) (fun _ _ _ _ _ => trivial) trivial (outAt (plain ts) fun _ => some)
    (fun j hj T A L C wr hT hv hbs hbw hsz _ => by
      have hL : ts[j].l.length = L := by
        obtain ⟨_, _, es, _⟩ := hbs.shape
        simp only [Value.slice.injEq] at es
        exact es.2.1.symm
      have := hm ts[j] (List.getElem_mem hj)
      refine (copies1_any T A L C ts[j].l hL (by omega) wr hbs).mono ?_
      rintro e w' ⟨h1, h2⟩
      refine ⟨?_, h2, trivial⟩
      rw [outAt_get _ j hj, ← hT]
      exact h1))
  have HE : Hid (outs (outAt (plain ts) fun _ => some) n = plain ts) := by
    show _ = _
    rw [outs_all _ _ (by rw [plain_length]; exact hl), scanL_plain]
    simp
  clear hr
  go_enter Tryz.func110, Tryz.ntmps110
  go_wp2_with fail
  refine WK.out.mono ?_
  rintro e w2 ⟨v, us, rfl, h1, h2, h3, _⟩
  rw [HE.out] at h1
  have H1 := Lib.hid h1
  have H2 := Lib.hid h2
  have H3 := Lib.hid h3
  clear h1 h2 h3
  go_wp2
  go_ret
  exact ⟨v, us, rfl, H1.out, H2.out, H3.out⟩
end Go.Proofs.YtclplbapedmihaaGreat.Ng
namespace Go.Proofs.YtclplbapedmihaaGreat.Ng
set_option maxRecDepth 4000
open Go.RowKit O
set_option linter.unusedVariables false
set_option linter.unusedSimpArgs false
end Go.Proofs.YtclplbapedmihaaGreat.Ng
namespace Go.Proofs.YtclplbapedmihaaGreat.Ng
set_option maxRecDepth 4000
open Go.RowKit O
set_option linter.unusedVariables false
set_option linter.unusedSimpArgs false
theorem lacking1_any (r : Ru) (gx : Nat) (T : Int) (A : Option Addr) (L C : Nat) (w : World) (hg : w.heap[gx]? = some (.cells #[.int .i64 r.typ, .int .i64 r.size, .int .i64 r.kind, .int .i64 r.low, .int .i64 r.high, .int .i64 r.good, .bool r.must] 101)) :
    Calls Tryz.prog 145 #[.agg #[.int .i64 T, .slice A L C], .pointer (some ⟨gx, 0, none⟩)] w fun e w' => e = .returned (.bool (decide (T = r.typ))) ∧ Below w.heap.size w w' := by
  have hal : Gr w (w.alloc (.cells #[.int .i64 T, .slice A L C] 69)) := (Gr.refl w).alloc _
  have k0 := (cells7 (heap_gr hal hg)).1
  go_enter Tryz.func145, Tryz.ntmps145
  go_wp2
  go_ret
  exact ⟨by simp [Bool.beq_eq_decide_eq], (Below.refl _ _).alloc (Nat.le_refl _) _⟩
theorem hasT_at {ts : List Tg} {t : Int} (k : Nat) (h : k < ts.length) (e : ts[k].typ = t) : hasT (plain ts) t = true := by
  rw [hasT_iff]
  exact ⟨ts[k].plain, List.mem_map.2 ⟨_, List.getElem_mem h, rfl⟩, e⟩
theorem hasT_none {ts : List Tg} {t : Int} (h : ∀ j (hj : j < ts.length), ts[j].typ ≠ t) : hasT (plain ts) t = false := by
  rw [Bool.eq_false_iff]
  intro e
  obtain ⟨o, ho, e⟩ := hasT_iff.1 e
  obtain ⟨x, hx, rfl⟩ := List.mem_map.1 ho
  obtain ⟨i, hi, rfl⟩ := List.mem_iff_getElem.1 hx
  exact h i hi e
set_option maxRecDepth 20000 in
set_option maxHeartbeats 2000000 in
theorem indexFunc_any (ao : Option Addr) (n c : Nat) (ts : List Tg) (r : Ru) (gx : Nat) (w : World) (hr : TR w (.slice ao n c) n ts) (hg : w.heap[gx]? = some (.cells #[.int .i64 r.typ, .int .i64 r.size, .int .i64 r.kind, .int .i64 r.low, .int .i64 r.high, .int .i64 r.good, .bool r.must] 101)) (hn : n ≤ 1000) :
    Calls Tryz.prog 161 #[.slice ao n c, .func (.func 145) #[] #[.pointer (some ⟨gx, 0, none⟩)]] w fun e w' => (∃ i : Int, e = .returned (.int .i64 i) ∧ decide (i ≥ 0) = hasT (plain ts) r.typ) ∧ Below w.heap.size w w' := by
  have hl := hr.len
  have HR := Lib.hid hr
  have HG := Lib.hid hg
  clear hr hg
  go_enter Tryz.func161, Tryz.ntmps161
  go_wp2
  go_loopw [5, 8] (fun sv iv wr => ∃ (k : Nat) (lv : Value), k ≤ n ∧ iv = .int .i64 k ∧ lv = sv ∧ (∀ j (hj : j < k) (h2 : j < ts.length), ts[j].typ ≠ r.typ) ∧ Below w.heap.size w wr) (fun _ iv _ => n - (intOf iv).toNat)
  case atStart => exact ⟨0, _, Nat.zero_le _, rfl, rfl, fun j hj => by omega, Below.refl _ _⟩
  case round =>
    obtain ⟨k, lv, hk, rfl, rfl, hne, hb⟩ := hrel
    have HNE := Lib.hid hne
    have HB := Lib.hid hb
    clear hne hb
    by_cases hlt : k < n
    · obtain ⟨b, o, rfl, hbl, hc⟩ := (HR.out.below HB.out).cells (by omega)
      obtain ⟨hc0, hc1⟩ := hc k (by omega)
      have HV := Lib.hid (HR.out.val k (by omega))
      obtain ⟨A, L, C, hv, hL, hLC, hCm⟩ := HV.out.sl
      rw [hv] at hc1
      obtain ⟨T, hT⟩ : ∃ T, T = ts[k].typ := ⟨_, rfl⟩
      rw [← hT] at hc0
      have HTT := Lib.hid hT
      have CA := Lib.hid (lacking1_any r gx T A L C wr (heap_below HG.out HB.out))
      clear hv hL hT hc
      by_cases ht : T = r.typ
      · rw [decide_eq_true ht] at CA
        have HF : Hid (hasT (plain ts) r.typ = true) := hasT_at k (by omega) (by rw [← HTT.out]; exact ht)
        clear ht
        go_wp2_with fail
        refine CA.out.mono ?_
        rintro e w2 ⟨rfl, hb2⟩
        have HB2 := Lib.hid (HB.out.trans (hb2.mono HB.out.size))
        clear hb2
        go_wp2
        go_ret
        exact ⟨⟨k, rfl, by rw [HF.out]; simp⟩, HB2.out⟩
      · rw [decide_eq_false ht] at CA
        have HT := Lib.hid ht
        clear ht
        go_wp2_with fail
        refine CA.out.mono ?_
        rintro e w2 ⟨rfl, hb2⟩
        have HB2 := Lib.hid (HB.out.trans (hb2.mono HB.out.size))
        clear hb2 hc0 hc1
        go_wp2
        go_roundw
        case rel =>
          have HN1 : ∀ j (hj : j < k + 1) (h2 : j < ts.length), ts[j].typ ≠ r.typ := fun j hj h2 => by
            by_cases e : j = k
            · subst e; rw [← HTT.out]; exact HT.out
            · exact HNE.out j (by omega) h2
          first | exact ⟨k + 1, _, by omega, by go_num, rfl, HN1, HB2.out⟩ | ((repeat apply Exists.intro); exact ⟨⟨k + 1, _, by omega, by go_num, rfl, HN1, HB2.out⟩, rfl⟩)
        case measure => simp [intOf]; omega
    · obtain rfl : k = n := by omega
      have HF := Lib.hid (hasT_none (t := r.typ) fun j hj => HNE.out j (by omega) hj)
      go_wp2
      go_ret
      exact ⟨⟨-1, rfl, by rw [HF.out]; rfl⟩, HB.out⟩
theorem contains_any (ao : Option Addr) (n c : Nat) (ts : List Tg) (r : Ru) (gx : Nat) (w : World) (hr : TR w (.slice ao n c) n ts) (hg : w.heap[gx]? = some (.cells #[.int .i64 r.typ, .int .i64 r.size, .int .i64 r.kind, .int .i64 r.low, .int .i64 r.high, .int .i64 r.good, .bool r.must] 101)) (hn : n ≤ 1000) :
    Calls Tryz.prog 144 #[.slice ao n c, .func (.func 145) #[] #[.pointer (some ⟨gx, 0, none⟩)]] w fun e w' => e = .returned (.bool (hasT (plain ts) r.typ)) ∧ Below w.heap.size w w' := by
  have IX := Lib.hid (indexFunc_any ao n c ts r gx w hr hg hn)
  clear hr hg
  go_enter Tryz.func144, Tryz.ntmps144
  go_wp2_with fail
  refine IX.out.mono ?_
  rintro e w2 ⟨⟨i, rfl, hi⟩, hb2⟩
  have HI := Lib.hid hi
  have HB2 := Lib.hid hb2
  clear hi hb2
  go_wp2
  go_ret
  exact ⟨by rw [← HI.out]; simp, HB2.out⟩
end Go.Proofs.YtclplbapedmihaaGreat.Ng
namespace Go.Proofs.YtclplbapedmihaaGreat.Ng
set_option maxRecDepth 4000
open Go.RowKit O
set_option linter.unusedVariables false
set_option linter.unusedSimpArgs false
/-- What a function tells that tells a code and options of its own. -/
def ARes (x : Int × List PT) (w : World) (e : Ending) (w' : World) : Prop := ∃ v us, e = .returned (.tuple #[.int .i64 x.1, v]) ∧ plain us = x.2 ∧ TO w' w.heap.size v us ∧ Below w.heap.size w w'
theorem ARes.of {x : Int × List PT} {w w' : World} (k : Int) (l : List PT) (v : Value) (us : List Tg) (h : x = (k, l)) (h1 : plain us = l) (h2 : TO w' w.heap.size v us) (h3 : Below w.heap.size w w') : ARes x w (.returned (.tuple #[.int .i64 k, v])) w' := by
  subst h
  exact ⟨v, us, rfl, h1, h2, h3⟩
end Go.Proofs.YtclplbapedmihaaGreat.Ng
namespace Go.Proofs.YtclplbapedmihaaGreat.Ng
set_option maxRecDepth 4000
open Go.RowKit Go.Shelf O
open Go.Maps (Keyed)
set_option linter.unusedVariables false
set_option linter.unusedSimpArgs false
def upd (f : Int → Option Nat) (k : Int) (o : Option Nat) : Int → Option Nat := fun x => if x = k then o else f x
def I64 (k : Int) : Prop := -9223372036854775808 ≤ k ∧ k ≤ 9223372036854775807
theorem I64.wf {k : Int} (h : I64 k) : (Lit.int .i64 k).wf = true := by
  show (decide (-9223372036854775808 ≤ k) && decide (k ≤ 9223372036854775807)) = true
  simp [h.1, h.2]
theorem law : Keyed Tryz.prog 3 := Maps.int_keyed Tryz.underlying3
theorem keyI {k : Int} (h : I64 k) : keyOf Tryz.prog 3 (.int .i64 k) = some (.int .i64 k) := Maps.keyOf_int_mk Tryz.underlying3 h.wf
theorem zeroI (w : World) : (zeroValue 3).run Tryz.prog w = .ok (.int .i64 0) w := by kernel_rfl
/-- Block b is a map of n entries that reads as f. -/
def FM (w : World) (b : Nat) (f : Int → Option Nat) (n : Nat) : Prop :=
  ∃ D, w.ownsMap Tryz.prog 3 (plainElem (H := Unit) Tryz.prog 3) b n D ∧ Maps.size D = n ∧ ∀ k, I64 k → Maps.has D (.int .i64 k) = (f k).isSome ∧ D.atKey (.int .i64 k) (.lit (.int .i64 0)) = .lit (.int .i64 (((f k).getD 0 : Nat) : Int))
theorem own_tight {w : World} {b n : Nat} {D : DataW Unit} (h : w.ownsMap Tryz.prog 3 (plainElem Tryz.prog 3) b n D) : w.ownsMap Tryz.prog 3 (plainElem Tryz.prog 3) b (Maps.size D) D := by
  obtain ⟨es, clock, h1, h2, h3, h4⟩ := h
  refine ⟨es, clock, h1, h2, ?_, h4⟩
  rw [h4, Maps.size_eq, length_sorted]
  simp
theorem isKey (k : Int) : WideAt.IsKeyLit (.int .i64 k) := by unfold WideAt.IsKeyLit; trivial
theorem FM.lt {w : World} {b n : Nat} {f : Int → Option Nat} (h : FM w b f n) : b < w.heap.size := by
  obtain ⟨D, h1, _⟩ := h
  exact h1.lt
theorem FM.keep {w w' : World} {b n : Nat} {f : Int → Option Nat} (h : FM w b f n) (hb : w'.heap[b]? = w.heap[b]?) : FM w' b f n := by
  obtain ⟨D, ⟨a, c, h1, h2⟩, h3⟩ := h
  exact ⟨D, ⟨a, c, hb.trans h1, h2⟩, h3⟩
theorem FM.made (w : World) : FM (w.alloc (.map #[] 0)) w.heap.size (fun _ => none) 0 :=
  ⟨.map [], World.ownsMap_made _ _ _ _, rfl, fun k hk => ⟨rfl, rfl⟩⟩
theorem FM.copy {w : World} {b n : Nat} {f : Int → Option Nat} (h : FM w b f n) : ∃ a c, w.heap[b]? = some (.map a c) ∧ ∀ w' b', w'.heap[b']? = some (.map a c) → FM w' b' f n := by
  obtain ⟨D, ⟨a, c, h1, h2, h4, h5⟩, h3⟩ := h
  exact ⟨a, c, h1, fun w' b' hb => ⟨D, ⟨a, c, hb, h2, h4, h5⟩, h3⟩⟩
/-- 'i, ok := m[k]'. -/
theorem FM.look {w : World} {b n : Nat} {f : Int → Option Nat} (h : FM w b f n) {k : Int} (hk : I64 k) :
    (Instr.lookup 163 (.map (some b)) (.int .i64 k) true).run Tryz.prog w = .ok (.tuple #[.int .i64 (((f k).getD 0 : Nat) : Int), .bool (f k).isSome]) w := by
  obtain ⟨D, ho, hs, hf⟩ := h
  obtain ⟨v, ps, h1, h2⟩ := ho.look_ok law Tryz.underlying163 (zeroI w) (plainElem_int Tryz.underlying3 (a := 0) (by decide)) (keyI hk)
  obtain ⟨c, rfl, h3, h4⟩ := plainElem_int_inv Tryz.underlying3 h2
  obtain ⟨g1, g2⟩ := hf k hk
  have h5 := congrArg Prod.fst h3
  simp only at h5
  rw [g2] at h5
  have h6 : (((f k).getD 0 : Nat) : Int) = c := by simpa using h5
  rw [← h6, g1] at h1
  exact h1
/-- 'm[k] = i'. -/
theorem FM.set {w : World} {b n : Nat} {f : Int → Option Nat} (h : FM w b f n) {k : Int} (hk : I64 k) {i : Nat} (hi : (i : Int) ≤ 9223372036854775807) (hn : n < maxLen) :
    ∃ w', (Instr.mapUpdate 163 (.map (some b)) (.int .i64 k) (.int .i64 (i : Int))).run Tryz.prog w = .ok () w' ∧ FM w' b (upd f k (some i)) (if (f k).isSome then n else n + 1) ∧ w.mapTurned w' b := by
  obtain ⟨D, ho, hs, hf⟩ := h
  have hw : (Lit.int .i64 (i : Int)).wf = true := I64.wf ⟨by omega, hi⟩
  obtain ⟨w', hr, ho', ht⟩ := ho.store law Tryz.underlying163 hn (keyI hk) (plainElem_int Tryz.underlying3 hw)
  have hT := ho.tidy law
  have hsz := Maps.size_put (k := .int .i64 k) hT (DataW.lit (.int .i64 (i : Int)))
  rw [(hf k hk).1, hs] at hsz
  refine ⟨w', hr, ⟨_, ?_, hsz, fun x hx => ?_⟩, ht⟩
  · rw [← hsz]; exact own_tight ho'
  · unfold upd
    by_cases e : x = k
    · subst e
      rw [if_pos rfl, Maps.has_put_same hT.isMap (isKey _), Maps.atKey_put_same hT.isMap (isKey _)]
      exact ⟨rfl, rfl⟩
    · have hne : Lit.int .i64 x ≠ Lit.int .i64 k := fun h => e (by simpa using h)
      rw [if_neg e, Maps.has_put_other hne, Maps.atKey_put_other hne]
      exact hf x hx
theorem FM.below {w w' : World} {b n : Nat} {f : Int → Option Nat} (h : FM w b f n) (hb : Below w.heap.size w w') : FM w' b f n := h.keep (hb.block _ h.lt)
section
variable {P : Program} {α : Type} {g : Operand} {ps : Array Tmp} {assign body : Code} {Q : Exit → Act → World → Prop} {a : Act} {w : World}
end
section
attribute [local go_sem] Oper.semAt_some
/-- What a round knows of what it is handed. -/
def GoodI (ts : List Tg) (xs : List (Nat × Tg)) (x : Nat × Tg) : Prop := x.1 + xs.length + 1 = ts.length ∧ ts[x.1]? = some x.2
end
end Go.Proofs.YtclplbapedmihaaGreat.Ng
namespace Go.Proofs.YtclplbapedmihaaGreat.Ng
set_option maxRecDepth 4000
open Go.RowKit Go.Shelf O
set_option linter.unusedVariables false
set_option linter.unusedSimpArgs false
/-- The first place of each type. -/
def fIdx : List Tg → Nat → Int → Option Nat
  | [], _ => fun _ => none
  | t :: l, i => upd (fIdx l (i + 1)) t.typ (some i)
/-- Between two rounds. -/
structure TI (w : World) (la : Option Addr) (ln lc : Nat) (ts : List Tg) (xs : List (Nat × Tg)) (W : World) : Prop where
  few : xs.length ≤ ts.length
  low : Below w.heap.size w W
  c0 : W.heap[w.heap.size]? = some (.cells #[.slice la ln lc] 26)
  c3 : W.heap[w.heap.size + 3]? = some (.cells #[.slice la ln lc] 26)
  c2 : W.heap[w.heap.size + 2]? = some (.cells #[.map (some (w.heap.size + 1))] 163 (0, 0))
  fm : ∃ cnt, cnt ≤ xs.length ∧ FM W (w.heap.size + 1) (fIdx (ts.drop (ts.length - xs.length)) (ts.length - xs.length)) cnt
theorem TI.turns (w : World) (la : Option Addr) (ln lc : Nat) (ts : List Tg) (B : Nat) (hB : w.heap.size + 3 ≤ B) (xs : List (Nat × Tg)) : Turns B (TI w la ln lc ts xs) := fun A l o o' h hl ho hc => by
  refine ⟨h.few, turns_below (by omega) A l o o' h.low hl ho hc, turns_block A l o o' h.c0 hl ho hc, turns_block A l o o' h.c3 hl ho hc, turns_block A l o o' h.c2 hl ho hc, ?_⟩
  obtain ⟨cnt, h1, h2⟩ := h.fm
  exact ⟨cnt, h1, h2.keep (World.putObj_heap_other (by omega))⟩
theorem TI.gr {w : World} {la : Option Addr} {ln lc : Nat} {ts : List Tg} {xs : List (Nat × Tg)} {A B : World} (h : TI w la ln lc ts xs A) (hq : Gr A B) : TI w la ln lc ts xs B := by
  refine ⟨h.few, h.low.trans (Below.mono hq h.low.size), heap_gr hq h.c0, heap_gr hq h.c3, heap_gr hq h.c2, ?_⟩
  obtain ⟨cnt, h1, h2⟩ := h.fm
  exact ⟨cnt, h1, h2.below hq⟩
/-- What stands behind the round's assignments. -/
def MidI (w : World) (la : Option Addr) (ln lc : Nat) (ts : List Tg) (q0 : Value) (xs : List (Nat × Tg)) (x : Nat × Tg) (b : Act) (W : World) : Prop :=
  TI w la ln lc ts xs W ∧ GoodI ts xs x ∧ ∃ g, w.heap.size + 3 ≤ g ∧ W.heap[g]? = some (.cells #[.int .i64 x.2.typ, x.2.val] 69 (0, 0)) ∧
    ∃ t0 t1 t2 t4 t8 t9 t10 t11 t12 t13 t14 t15 t16 t17 t18 t19, b = { tmps := #[t0, t1, t2, .pointer (some ⟨w.heap.size, 0, none⟩), t4, .pointer (some ⟨w.heap.size + 2, 0, none⟩), .int .i64 (x.1 : Int), .pointer (some ⟨g, 0, none⟩), t8, t9, t10, t11, t12, t13, t14, t15, t16, t17, t18, t19], defers := [] }
theorem MidI.turns (w : World) (la : Option Addr) (ln lc : Nat) (ts : List Tg) (q0 : Value) (B : Nat) (hB : w.heap.size + 3 ≤ B) (xs : List (Nat × Tg)) (x : Nat × Tg) (b : Act) : Turns B (MidI w la ln lc ts q0 xs x b) := fun A l o o' h hl ho hc => by
  obtain ⟨h1, h2, g, h3, h4, h5⟩ := h
  exact ⟨TI.turns w la ln lc ts B hB xs A l o o' h1 hl ho hc, h2, g, h3, turns_block A l o o' h4 hl ho hc, h5⟩
section
attribute [local go_sem] Oper.semAt_some
end
end Go.Proofs.YtclplbapedmihaaGreat.Ng
namespace Go.Proofs.YtclplbapedmihaaGreat.Ng
set_option maxRecDepth 4000
open Go.RowKit O
set_option linter.unusedVariables false
set_option linter.unusedSimpArgs false
theorem bytes_ne {l m : List UInt8} (h : ¬ l = m) : (l == m) = false := beq_eq_false_iff_ne.2 h
theorem TR.tail {w : World} {a : Option Addr} {m c : Nat} {us : List Tg} (h : TR w (.slice a m c) m us) (hm : 1 ≤ m) :
    ∃ a', (∀ w', (Instr.slice 26 (.slice a m c) (some (.int .i64 1)) none none).run Tryz.prog w' = .ok (.slice a' (m - 1) (c - 1)) w') ∧ TR w (.slice a' (m - 1) (c - 1)) (m - 1) (us.drop 1) := by
  obtain ⟨i0, hi, hz0, hz1, hz2⟩ := info_parts infoT
  obtain ⟨a', h1, h2⟩ := slice_from (P := Tryz.prog) Tryz.underlying26 hi hz1 h.rd .i64 1 1 rfl hm
  refine ⟨a', h1, ?_, fun t ht => h.vals t (List.mem_of_mem_drop ht)⟩
  have e : (flat us).drop (1 * 2) = flat (us.drop 1) := by
    cases us with
    | nil => rfl
    | cons x r => rfl
  rw [e] at h2
  exact h2
end Go.Proofs.YtclplbapedmihaaGreat.Ng
namespace Go.Proofs.YtclplbapedmihaaGreat.Ng
set_option maxRecDepth 4000
open Go.RowKit O
set_option linter.unusedVariables false
set_option linter.unusedSimpArgs false
/-- What Learn tells. -/
def LRes (x : List PT × Bool) (w : World) (e : Ending) (w' : World) : Prop := ∃ v us, e = .returned (.tuple #[v, .bool x.2]) ∧ plain us = x.1 ∧ TO w' w.heap.size v us ∧ Below w.heap.size w w'
theorem LRes.of {x : List PT × Bool} {w w' : World} (l : List PT) (b : Bool) (v : Value) (us : List Tg) (h : x = (l, b)) (h1 : plain us = l) (h2 : TO w' w.heap.size v us) (h3 : Below w.heap.size w w') : LRes x w (.returned (.tuple #[v, .bool b])) w' := by
  subst h
  exact ⟨v, us, rfl, h1, h2, h3⟩
end Go.Proofs.YtclplbapedmihaaGreat.Ng
