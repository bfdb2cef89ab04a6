/- NgP NgM NgA NgB NgC NgD NgE NgF NgG NgH NgI NgJ NgK NgL NgN -/
import Derived.Test.YtclplbapedmihaaGreatZBase
import Derived.Test.YtclplbapedmihaaGreatZOp
import Derived.IntWalk
import Derived.Deep.DeepCutAuto
import Derived.Maps.OwnSet
import Derived.RangeFuncNested
import Derived.Shelf.Abstract
import Derived.WalkKit
import Derived.OwnWalkIn
import Derived.TacticsInMore
import Derived.LoopNIn
import Derived.LoopIn
namespace Go.Proofs.YtclplbapedmihaaGreat.Ng
set_option maxRecDepth 4000
set_option linter.unusedVariables false
set_option linter.unusedSimpArgs false
abbrev PT := Int × List UInt8
structure Ru where
 typ : Int
 size : Int
 kind : Int
 low : Int
 high : Int
 good : Int
 must : Bool
def lim (k : Int) : Int := 256 ^ k.toNat
def takes (r : Ru) (n : Int) : Bool := if r.kind = 1 then true else if r.kind = 2 then decide (r.low <= n /\ n <= r.high) else if r.kind = 3 then decide (n = r.good) else if r.kind = 4 then decide (n ≠ r.low) else false
def isR (r : Ru) : Prop := 1 <= r.typ /\ r.typ <= 255 /\ 0 <= r.size /\ r.size <= 4 /\ (r.size = 0 -> r.kind = 1) /\ 0 <= r.low /\ r.low < lim r.size /\ 0 <= r.high /\ r.high < lim r.size /\ 0 <= r.good /\ r.good < lim r.size /\ (r.kind = 2 -> r.low <= r.high) /\ takes r r.good = true
instance (r : Ru) : Decidable (isR r) := by unfold isR; infer_instance
def areR (rs : List Ru) : Prop := rs.length <= 16 /\ (∀ r ∈ rs, isR r) /\ (rs.map Ru.typ).Nodup
instance (rs : List Ru) : Decidable (areR rs) := by unfold areR; infer_instance
def num (o : PT) : Int := (takeN o.2 o.2.length : Nat)
def fits (r : Ru) (o : PT) : Bool := decide (r.typ = o.1 /\ r.size = (o.2.length : Int))
def ruleOf (rs : List Ru) (o : PT) : Option Ru := rs.find? fun r => fits r o
def hasT (l : List PT) (t : Int) : Bool := l.any fun o => decide (o.1 = t)
def goodO (r : Ru) : PT := (r.typ, putL r.good.toNat r.size.toNat)
def rejs (rs : List Ru) : List PT -> List PT -> List PT
 | _, [] => []
 | seen, o :: l => (if (ruleOf rs o).isNone || hasT seen o.1 then [o] else []) ++ rejs rs (seen ++ [o]) l
def bads (rs : List Ru) : List PT -> List PT -> List (PT × PT)
 | _, [] => []
 | seen, o :: l => (match ruleOf rs o with
  | none => []
  | some r => if hasT seen o.1 then [] else if takes r (num o) then [] else [(o, goodO r)]) ++ bads rs (seen ++ [o]) l
def lacks (rs : List Ru) (l : List PT) : List PT := (rs.filter fun r => r.must && !hasT l r.typ).map goodO
def ans (rs : List Ru) (l : List PT) (naks most : Int) : Int × List PT :=
 if ¬ areR rs then (0, [])
 else if rejs rs [] l ≠ [] then (4, rejs rs [] l)
 else if (bads rs [] l).map (·.2) ++ lacks rs l = [] then (2, l)
 else if most <= naks /\ bads rs [] l ≠ [] then (4, (bads rs [] l).map (·.1))
 else (3, (bads rs [] l).map (·.2) ++ lacks rs l)
def takeOver (l : List PT) (o : PT) : PT := match l.find? fun x => decide (x.1 = o.1) with
 | none => o
 | some x => (o.1, x.2)
def strike : List PT -> List PT -> List PT × List PT
 | [], l => ([], l)
 | o :: ask, [] => ((o :: (strike ask []).1), (strike ask []).2)
 | o :: ask, x :: l => if x = o then strike ask l else (o :: (strike ask (x :: l)).1, (strike ask (x :: l)).2)
def lrn (ask : List PT) (code : Int) (l : List PT) : List PT × Bool :=
 if l = [] then (ask, false)
 else if code = 3 then (ask.map (takeOver l), true)
 else if code = 4 then (if (strike ask l).2 = [] then ((strike ask l).1, true) else (ask, false))
 else (ask, false)
theorem strike_len : ∀ (ask l : List PT), (strike ask l).1.length + l.length = ask.length + (strike ask l).2.length
 | [], l => by simp [strike]
 | o :: ask, [] => by
  have h := strike_len ask [];simp only [strike, List.length_cons, List.length_nil] at h ⊢;omega
 | o :: ask, x :: l => by
  unfold strike;split
  · have h := strike_len ask l;simp only [List.length_cons];omega
  · have h := strike_len ask (x :: l);simp only [List.length_cons] at h ⊢;omega
theorem hasT_iff {l : List PT} {t : Int} : hasT l t = true ↔ ∃ o ∈ l, o.1 = t := by simp [hasT]
theorem ans_ack {rs : List Ru} {l x : List PT} {naks most : Int} (h : ans rs l naks most = (2, x)) : x = l /\ areR rs /\ rejs rs [] l = [] /\ bads rs [] l = [] /\ lacks rs l = [] := by
 unfold ans at h
 by_cases c1 : ¬ areR rs
 · rw [if_pos c1] at h; cases h
 · rw [if_neg c1] at h
   by_cases c2 : rejs rs [] l ≠ []
   · rw [if_pos c2] at h; cases h
   · rw [if_neg c2] at h
     by_cases c3 : (bads rs [] l).map (·.2) ++ lacks rs l = []
     · rw [if_pos c3] at h;cases h;have c4 := List.append_eq_nil_iff.1 c3;exact ⟨rfl, Decidable.not_not.1 c1, Decidable.not_not.1 c2, List.map_eq_nil_iff.1 c4.1, c4.2⟩
     · rw [if_neg c3] at h
       by_cases c4 : most <= naks /\ bads rs [] l ≠ []
       · rw [if_pos c4] at h; cases h
       · rw [if_neg c4] at h; cases h
theorem rejs_nil {rs : List Ru} : ∀ {l seen : List PT}, rejs rs seen l = [] -> (∀ o ∈ l, (ruleOf rs o).isSome = true /\ hasT seen o.1 = false) /\ (l.map (·.1)).Nodup
 | [], seen, _ => ⟨(fun o ho => by cases ho), List.nodup_nil⟩
 | o :: l, seen, h => by
  unfold rejs at h;obtain ⟨h1, h2⟩ := List.append_eq_nil_iff.1 h;have ih := rejs_nil h2;have h3 : (ruleOf rs o).isSome = true /\ hasT seen o.1 = false := by
   by_cases c : ((ruleOf rs o).isNone || hasT seen o.1) = true
   · rw [if_pos c] at h1; cases h1
   · simp only [Bool.or_eq_true, not_or, Bool.not_eq_true] at c;refine ⟨?_, c.2⟩;have := c.1;cases hr : ruleOf rs o with
     | none => rw [hr] at this; cases this
     | some r => rfl
  refine ⟨fun p hp => ?_, ?_⟩
  · rcases List.mem_cons.1 hp with rfl | hp
    · exact h3
    · have := ih.1 p hp;refine ⟨this.1, ?_⟩;have h4 := this.2;simp only [hasT, List.any_append, Bool.or_eq_false_iff] at h4;exact h4.1
  · rw [List.map_cons, List.nodup_cons];refine ⟨fun hm => ?_, ih.2⟩;obtain ⟨p, hp, e⟩ := List.mem_map.1 hm;have h4 := (ih.1 p hp).2;simp [hasT, e] at h4
theorem bads_nil {rs : List Ru} : ∀ {l seen : List PT}, rejs rs seen l = [] -> bads rs seen l = [] -> ∀ o ∈ l, ∃ r, ruleOf rs o = some r /\ takes r (num o) = true
 | [], _, _, _, o, ho => by cases ho
 | o :: l, seen, hr, hb, p, hp => by
  have h0 := (rejs_nil hr).1 o (by simp);unfold rejs at hr;unfold bads at hb;obtain ⟨_, hr2⟩ := List.append_eq_nil_iff.1 hr;obtain ⟨hb1, hb2⟩ := List.append_eq_nil_iff.1 hb
  rcases List.mem_cons.1 hp with rfl | hp
  · cases hq : ruleOf rs p with
    | none => rw [hq] at h0; cases h0.1
    | some r =>
     rw [hq] at hb1;simp only [h0.2] at hb1;refine ⟨r, rfl, ?_⟩
     by_cases c : takes r (num p) = true
     · exact c
     · simp [c] at hb1
  · exact bads_nil hr2 hb2 p hp
theorem ruleOf_some {rs : List Ru} {o : PT} {r : Ru} (h : ruleOf rs o = some r) : r ∈ rs /\ r.typ = o.1 /\ r.size = (o.2.length : Int) := by
 have h1 := List.find?_some h;unfold fits at h1;exact ⟨List.mem_of_find?_eq_some h, of_decide_eq_true h1⟩
theorem lacks_nil {rs : List Ru} {l : List PT} (h : lacks rs l = []) : ∀ r ∈ rs, r.must = true -> hasT l r.typ = true := by
 intro r hr hm;unfold lacks at h;have h1 := List.filter_eq_nil_iff.1 (List.map_eq_nil_iff.1 h) r hr;simpa [hm] using h1
theorem taken {rs : List Ru} {l x : List PT} {naks most : Int} (h : ans rs l naks most = (2, x)) :
 x = l /\ (∀ o ∈ l, ∃ r ∈ rs, r.typ = o.1 /\ r.size = (o.2.length : Int) /\ takes r (num o) = true) /\ ∀ r ∈ rs, r.must = true -> hasT l r.typ = true := by
 obtain ⟨h1, _, h2, h3, h4⟩ := ans_ack h;refine ⟨h1, fun o ho => ?_, lacks_nil h4⟩;obtain ⟨r, hr, ht⟩ := bads_nil h2 h3 o ho;have := ruleOf_some hr;exact ⟨r, this.1, this.2.1, this.2.2, ht⟩
theorem rule_only : ∀ {rs : List Ru} {r r' : Ru}, (rs.map Ru.typ).Nodup -> r ∈ rs -> r' ∈ rs -> r.typ = r'.typ -> r = r'
 | [], _, _, _, h, _, _ => by cases h
 | q :: rs, r, r', hn, h, h', e => by
  rw [List.map_cons, List.nodup_cons] at hn
  rcases List.mem_cons.1 h with rfl | hm
  · rcases List.mem_cons.1 h' with rfl | hm'
    · rfl
    · exact (hn.1 (List.mem_map.2 ⟨r', hm', e.symm⟩)).elim
  · rcases List.mem_cons.1 h' with rfl | hm'
    · exact (hn.1 (List.mem_map.2 ⟨r, hm, e⟩)).elim
    · exact rule_only hn.2 hm hm' e
theorem bads_mem {rs : List Ru} : ∀ {l seen : List PT} {x : PT × PT}, x ∈ bads rs seen l -> x.1 ∈ l /\ ∃ r, ruleOf rs x.1 = some r /\ takes r (num x.1) = false /\ x.2 = goodO r
 | o :: l, seen, x, hx => by
  unfold bads at hx
  rcases List.mem_append.1 hx with hx | hx
  · cases hr : ruleOf rs o with
    | none => rw [hr] at hx; cases hx
    | some r =>
     rw [hr] at hx
     by_cases c1 : hasT seen o.1 = true
     · simp [c1] at hx
     · by_cases c2 : takes r (num o) = true
       · simp [c1, c2] at hx
       · simp [c1, c2] at hx;subst hx;exact ⟨by simp, r, hr, by simpa using c2, rfl⟩
  · have := bads_mem hx;exact ⟨by simp [this.1], this.2⟩
theorem lacks_mem {rs : List Ru} {l : List PT} {x : PT} (h : x ∈ lacks rs l) : ∃ r ∈ rs, x = goodO r /\ r.must = true /\ hasT l r.typ = false := by
 unfold lacks at h;obtain ⟨r, hr, rfl⟩ := List.mem_map.1 h;have h1 := List.mem_filter.1 hr;simp only [Bool.and_eq_true, Bool.not_eq_true'] at h1;exact ⟨r, h1.1, rfl, h1.2.1, h1.2.2⟩
end Go.Proofs.YtclplbapedmihaaGreat.Ng
namespace Go.Proofs.YtclplbapedmihaaGreat.Ng
set_option maxRecDepth 4000
open Go.RowKit
set_option linter.unusedVariables false
set_option linter.unusedSimpArgs false
def ruC (r : Ru) : List Value := [.int .i64 r.typ, .int .i64 r.size, .int .i64 r.kind, .int .i64 r.low, .int .i64 r.high, .int .i64 r.good, .bool r.must]
def flatR (rs : List Ru) : List Value := rs.flatMap ruC
theorem flatR_length (rs : List Ru) : (flatR rs).length = rs.length * 7 := by
 induction rs with
 | nil => rfl
 | cons q qs ih =>
  show (ruC q ++ flatR qs).length = _;rw [List.length_append, ih, List.length_cons];show 7 + _ = _;omega
theorem flatR_get : ∀ (qs : List Ru) (i : Nat) (hi : i < qs.length) (j : Nat), j < 7 -> (flatR qs)[i * 7 + j]? = (ruC qs[i])[j]?
 | q :: qs, 0, _, j, hj => by
  show (ruC q ++ flatR qs)[0 * 7 + j]? = _;rw [List.getElem?_append_left (by show _ < 7; omega)];simp
 | q :: qs, i + 1, hi, j, hj => by
  show (ruC q ++ flatR qs)[(i + 1) * 7 + j]? = _;rw [List.getElem?_append_right (by show 7 <= _; omega), show (i + 1) * 7 + j - (ruC q).length = i * 7 + j by show _ - 7 = _; omega];rw [flatR_get qs i (by simpa using hi) j hj];rfl
def RR (w : World) (v : Value) (n : Nat) (rs : List Ru) : Prop := Rd w 7 v n (flatR rs)
theorem RR.len {w : World} {v : Value} {n : Nat} {rs : List Ru} (h : RR w v n rs) : rs.length = n := by
 have h1 := h.1;rw [flatR_length] at h1;omega
theorem RR.below {w w' : World} {v : Value} {n : Nat} {rs : List Ru} (h : RR w v n rs) (hb : Below w.heap.size w w') : RR w' v n rs := Rd.below h hb
theorem RR.shape {w : World} {v : Value} {n : Nat} {rs : List Ru} (h : RR w v n rs) : ∃ ao cap, v = .slice ao n cap /\ n <= cap /\ cap <= maxLen := Rd.shape h
theorem RR.sh {w : World} {ao : Option Addr} {n c : Nat} {rs : List Ru} (h : RR w (.slice ao n c) n rs) : n <= c /\ c <= maxLen := by
 obtain ⟨_, _, es, h1, h2⟩ := h.shape;simp only [Value.slice.injEq] at es;obtain ⟨rfl, _, rfl⟩ := es;exact ⟨h1, h2⟩
theorem RR.cells {w : World} {ao : Option Addr} {n c : Nat} {rs : List Ru} (h : RR w (.slice ao n c) n rs) (hn : 0 < n) :
 ∃ b o, ao = some ⟨b, o, none⟩ /\ b < w.heap.size /\ ∀ i (hi : i < rs.length), w.cell? ⟨b, o + i * 7, none⟩ = some (.int .i64 rs[i].typ) /\ w.cell? ⟨b, o + i * 7 + 1, none⟩ = some (.int .i64 rs[i].size) /\
  w.cell? ⟨b, o + i * 7 + 2, none⟩ = some (.int .i64 rs[i].kind) /\ w.cell? ⟨b, o + i * 7 + 3, none⟩ = some (.int .i64 rs[i].low) /\ w.cell? ⟨b, o + i * 7 + 4, none⟩ = some (.int .i64 rs[i].high) /\
  w.cell? ⟨b, o + i * 7 + 5, none⟩ = some (.int .i64 rs[i].good) /\ w.cell? ⟨b, o + i * 7 + 6, none⟩ = some (.bool rs[i].must) := by
 obtain ⟨b, o, h1, h2, h3⟩ := Rd.cells h hn (by omega);exact ⟨b, o, h1, h2, fun i hi => ⟨h3 _ _ (flatR_get rs i hi 0 (by decide)), h3 _ _ (flatR_get rs i hi 1 (by decide)), h3 _ _ (flatR_get rs i hi 2 (by decide)), h3 _ _ (flatR_get rs i hi 3 (by decide)),
  h3 _ _ (flatR_get rs i hi 4 (by decide)), h3 _ _ (flatR_get rs i hi 5 (by decide)), h3 _ _ (flatR_get rs i hi 6 (by decide))⟩⟩
theorem cells7 {w : World} {g : Nat} {a b c d e f k : Value} {t : TypeId} {fr : Nat × Nat} (h : w.heap[g]? = some (.cells #[a, b, c, d, e, f, k] t fr)) :
 w.cell? ⟨g, 0, none⟩ = some a /\ w.cell? ⟨g, 1, none⟩ = some b /\ w.cell? ⟨g, 2, none⟩ = some c /\ w.cell? ⟨g, 3, none⟩ = some d /\ w.cell? ⟨g, 4, none⟩ = some e /\ w.cell? ⟨g, 5, none⟩ = some f /\ w.cell? ⟨g, 6, none⟩ = some k :=
 ⟨by rw [cell_of_row w g _ _ _ _ h]; rfl, by rw [cell_of_row w g _ _ _ _ h]; rfl, by rw [cell_of_row w g _ _ _ _ h]; rfl, by rw [cell_of_row w g _ _ _ _ h]; rfl, by rw [cell_of_row w g _ _ _ _ h]; rfl, by rw [cell_of_row w g _ _ _ _ h]; rfl, by rw [cell_of_row w g _ _ _ _ h]; rfl⟩
theorem sizeR : (Tryz.prog.info? 101).map (·.size) = some 7 := by kernel_rfl
theorem sizeR2 : (Tryz.prog.info? 146).map (·.size) = some 7 := by kernel_rfl
theorem ruC_one (r : Ru) : ∀ u ∈ ruC r, u.oneCell' = true := by
 intro u hu;simp only [ruC, List.mem_cons, List.not_mem_nil, or_false] at hu
 rcases hu with rfl | rfl | rfl | rfl | rfl | rfl | rfl <;> rfl
def ruZ : Ru := ⟨0, 0, 0, 0, 0, 0, false⟩
theorem isIn_any (n lo hi : Int) (w : World) :
 Calls Tryz.prog 154 #[.int .i64 n, .int .i64 lo, .int .i64 hi] w fun e w' => e = .returned (.bool (decide (lo <= n /\ n <= hi))) /\ w = w' := by
 by_cases h1 : lo <= n
 · go_enter Tryz.func154, Tryz.ntmps154
   go_wp2
   go_ret
   refine ⟨by simp [h1]; try (intros; omega), rfl⟩
 · go_enter Tryz.func154, Tryz.ntmps154
   go_wp2
   go_ret
   refine ⟨by simp [h1]; try (intros; omega), rfl⟩
theorem takesEach_any (r : Ru) (n : Int) (w : World) : Calls Tryz.prog 163 #[.agg #[.int .i64 r.typ, .int .i64 r.size, .int .i64 r.kind, .int .i64 r.low, .int .i64 r.high, .int .i64 r.good, .bool r.must], .int .i64 n] w fun e w' => e = .returned (.bool true) /\ Below w.heap.size w w' := by
 go_enter Tryz.func163, Tryz.ntmps163
 go_wp2
 go_ret
 exact ⟨rfl, by first | exact Below.refl _ _ | exact (Below.refl _ _).alloc (Nat.le_refl _) _⟩
theorem takesSpan_any (r : Ru) (n : Int) (w : World) : Calls Tryz.prog 164 #[.agg #[.int .i64 r.typ, .int .i64 r.size, .int .i64 r.kind, .int .i64 r.low, .int .i64 r.high, .int .i64 r.good, .bool r.must], .int .i64 n] w fun e w' => e = .returned (.bool (decide (r.low <= n /\ n <= r.high))) /\ Below w.heap.size w w' := by
 have I := hd_ (isIn_any n r.low r.high (w.alloc (.cells #[.int .i64 r.typ, .int .i64 r.size, .int .i64 r.kind, .int .i64 r.low, .int .i64 r.high, .int .i64 r.good, .bool r.must] 146)));go_enter Tryz.func164, Tryz.ntmps164
 go_wp2_with fail
 refine I.out.mono ?_;rintro e w' ⟨rfl, rfl⟩;go_wp2
 go_ret
 exact ⟨by simp, (Below.refl _ _).alloc (Nat.le_refl _) _⟩
theorem takesGood_any (r : Ru) (n : Int) (w : World) : Calls Tryz.prog 165 #[.agg #[.int .i64 r.typ, .int .i64 r.size, .int .i64 r.kind, .int .i64 r.low, .int .i64 r.high, .int .i64 r.good, .bool r.must], .int .i64 n] w fun e w' => e = .returned (.bool (decide (n = r.good))) /\ Below w.heap.size w w' := by
 go_enter Tryz.func165, Tryz.ntmps165
 go_wp2
 go_ret
 exact ⟨by simp [Bool.beq_eq_decide_eq], (Below.refl _ _).alloc (Nat.le_refl _) _⟩
theorem takesOther_any (r : Ru) (n : Int) (w : World) : Calls Tryz.prog 166 #[.agg #[.int .i64 r.typ, .int .i64 r.size, .int .i64 r.kind, .int .i64 r.low, .int .i64 r.high, .int .i64 r.good, .bool r.must], .int .i64 n] w fun e w' => e = .returned (.bool (decide (n ≠ r.low))) /\ Below w.heap.size w w' := by
 go_enter Tryz.func166, Tryz.ntmps166
 go_wp2
 go_ret
 exact ⟨by simp [bne, Bool.beq_eq_decide_eq], (Below.refl _ _).alloc (Nat.le_refl _) _⟩
theorem kindOf_any (K : Int) (w : World) :
 Calls Tryz.prog 153 #[.int .i64 K] w fun e w' => ((∃ k, e = .returned (.func (.func k) #[] #[]) /\ (1 <= K /\ K <= 4) /\ (∀ (args : Array Value) (w' : World), (callFunc k args).run Tryz.prog w' = .ok (.enter k args) w') /\
  ∀ (r : Ru) (n : Int) (w2 : World), r.kind = K -> Calls Tryz.prog k #[.agg #[.int .i64 r.typ, .int .i64 r.size, .int .i64 r.kind, .int .i64 r.low, .int .i64 r.high, .int .i64 r.good, .bool r.must], .int .i64 n] w2 fun e w3 => e = .returned (.bool (takes r n)) /\ Below w2.heap.size w2 w3) \/
  (e = .returned (.nilFunc) /\ ¬ (1 <= K /\ K <= 4))) /\ w = w' := by
 by_cases h1 : K = 1
 · subst h1;go_enter Tryz.func153, Tryz.ntmps153
   go_wp2
   go_ret
   refine ⟨.inl ⟨163, rfl, by omega, fun _ _ => rfl, fun r n w2 hr => ?_⟩, rfl⟩;have e : takes r n = true := by unfold takes; rw [if_pos hr]
   rw [e];exact takesEach_any r n w2
 by_cases h2 : K = 2
 · subst h2;go_enter Tryz.func153, Tryz.ntmps153
   go_wp2
   go_ret
   refine ⟨.inl ⟨164, rfl, by omega, fun _ _ => rfl, fun r n w2 hr => ?_⟩, rfl⟩;have e : takes r n = decide (r.low <= n /\ n <= r.high) := by unfold takes; rw [if_neg (by omega), if_pos hr]
   rw [e];exact takesSpan_any r n w2
 by_cases h3 : K = 3
 · subst h3;go_enter Tryz.func153, Tryz.ntmps153
   go_wp2
   go_ret
   refine ⟨.inl ⟨165, rfl, by omega, fun _ _ => rfl, fun r n w2 hr => ?_⟩, rfl⟩;have e : takes r n = decide (n = r.good) := by unfold takes; rw [if_neg (by omega), if_neg (by omega), if_pos hr]
   rw [e];exact takesGood_any r n w2
 by_cases h4 : K = 4
 · subst h4;go_enter Tryz.func153, Tryz.ntmps153
   go_wp2
   go_ret
   refine ⟨.inl ⟨166, rfl, by omega, fun _ _ => rfl, fun r n w2 hr => ?_⟩, rfl⟩;have e : takes r n = decide (n ≠ r.low) := by unfold takes; rw [if_neg (by omega), if_neg (by omega), if_neg (by omega), if_pos hr]
   rw [e];exact takesOther_any r n w2
 have e1 : (K == 1) = false := by simpa using h1
 have e2 : (K == 2) = false := by simpa using h2
 have e3 : (K == 3) = false := by simpa using h3
 have e4 : (K == 4) = false := by simpa using h4
 have HN : Hid (¬ (1 <= K /\ K <= 4)) := by show ¬ _; omega
 clear h1 h2 h3 h4;go_enter Tryz.func153, Tryz.ntmps153
 go_wp2
 go_ret
 exact ⟨.inr ⟨rfl, HN.out⟩, rfl⟩
theorem eql_func (k : Nat) (w : World) : (binOp .eql 168 (.func (.func k) #[] #[]) .nilFunc).run Tryz.prog w = .ok (.bool false) w := by
 have h : ∀ d : Nat, (Op.equalIn (d + 1) 168 (.func (.func k) #[] #[]) .nilFunc).run Tryz.prog w = .ok false w := fun d => by
  simp [Op.equalIn, run_underlying Tryz.underlying168]
 simp only [binOp];simp [Op.equal, Op.maxDepth, h 9999]
theorem eql_nilFunc (w : World) : (binOp .eql 168 .nilFunc .nilFunc).run Tryz.prog w = .ok (.bool true) w := by
 have h : ∀ d : Nat, (Op.equalIn (d + 1) 168 .nilFunc .nilFunc).run Tryz.prog w = .ok true w := fun d => by
  simp [Op.equalIn, run_underlying Tryz.underlying168]
 simp only [binOp];simp [Op.equal, Op.maxDepth, h 9999]
theorem isR_no1 {r : Ru} (h : ¬ (1 <= r.kind /\ r.kind <= 4)) : ¬ isR r := fun hr => by
 have h1 := hr.2.2.2.2.2.2.2.2.2.2.2.2;unfold takes at h1;rw [if_neg (by omega), if_neg (by omega), if_neg (by omega), if_neg (by omega)] at h1;cases h1
theorem isR_iff {r : Ru} (h1 : 1 <= r.typ /\ r.typ <= 255) (h2 : 0 <= r.size /\ r.size <= 4) (h3 : r.size = 0 -> r.kind = 1) (M : Int) (hM : M + 1 = lim r.size) (h4 : 0 <= r.low /\ r.low <= M) (h5 : 0 <= r.high /\ r.high <= M) (h6 : 0 <= r.good /\ r.good <= M) :
 decide (isR r) = takes r r.good := by
 rw [Bool.eq_iff_iff, decide_eq_true_eq];refine ⟨fun h => h.2.2.2.2.2.2.2.2.2.2.2.2, fun h => ⟨h1.1, h1.2, h2.1, h2.2, h3, h4.1, by omega, h5.1, by omega, h6.1, by omega, fun hk => ?_, h⟩⟩;unfold takes at h;rw [if_neg (by omega), if_pos hk] at h;have := of_decide_eq_true h;omega
theorem lim_cases {k : Int} (h : 0 <= k /\ k <= 4) : (k = 0 /\ lim k = 1) \/ (k = 1 /\ lim k = 256) \/ (k = 2 /\ lim k = 65536) \/ (k = 3 /\ lim k = 16777216) \/ (k = 4 /\ lim k = 4294967296) := by
 have : k = 0 \/ k = 1 \/ k = 2 \/ k = 3 \/ k = 4 := by omega
 rcases this with rfl | rfl | rfl | rfl | rfl
 · exact .inl ⟨rfl, by decide⟩
 · exact .inr (.inl ⟨rfl, by decide⟩)
 · exact .inr (.inr (.inl ⟨rfl, by decide⟩))
 · exact .inr (.inr (.inr (.inl ⟨rfl, by decide⟩)))
 · exact .inr (.inr (.inr (.inr ⟨rfl, by decide⟩)))
set_option maxRecDepth 20000 in
set_option maxHeartbeats 2000000 in
theorem mayBe_any (r : Ru) (w : World) : Calls Tryz.prog 115 #[.agg #[.int .i64 r.typ, .int .i64 r.size, .int .i64 r.kind, .int .i64 r.low, .int .i64 r.high, .int .i64 r.good, .bool r.must]] w fun e w' => e = .returned (.bool (decide (isR r))) /\ Below w.heap.size w w' := by
 have hg : (w.alloc (.cells #[.int .i64 r.typ, .int .i64 r.size, .int .i64 r.kind, .int .i64 r.low, .int .i64 r.high, .int .i64 r.good, .bool r.must] 146)).heap[w.heap.size]? = some (.cells #[.int .i64 r.typ, .int .i64 r.size, .int .i64 r.kind, .int .i64 r.low, .int .i64 r.high, .int .i64 r.good, .bool r.must] 146) := heap_alloc_last _ _;have HB : Hid (Below w.heap.size w (w.alloc (.cells #[.int .i64 r.typ, .int .i64 r.size, .int .i64 r.kind, .int .i64 r.low, .int .i64 r.high, .int .i64 r.good, .bool r.must] 146))) := (Below.refl _ _).alloc (Nat.le_refl _) _;obtain ⟨k0, k1, k2, k3, k4, k5, k6⟩ := cells7 hg;have KO := hd_ (kindOf_any r.kind (w.alloc (.cells #[.int .i64 r.typ, .int .i64 r.size, .int .i64 r.kind, .int .i64 r.low, .int .i64 r.high, .int .i64 r.good, .bool r.must] 146)));have q1 := eql_func;have q2 := eql_nilFunc;clear hg;go_enter Tryz.func115, Tryz.ntmps115
 go_wp2_with fail
 generalize (w.alloc (.cells #[.int .i64 r.typ, .int .i64 r.size, .int .i64 r.kind, .int .i64 r.low, .int .i64 r.high, .int .i64 r.good, .bool r.must] 146)) = w1 at k0 k1 k2 k3 k4 k5 k6 KO HB ⊢;have IT := hd_ (isIn_any r.typ 1 255 w1);have IS := hd_ (isIn_any r.size 0 4 w1);refine KO.out.mono ?_;rintro e w' ⟨(⟨k, rfl, hk1, hk2, hk3⟩ | ⟨rfl, hno⟩), rfl⟩
 · have HK2 := hd_ hk2;have HK3 := hd_ hk3;have HK1 := hd_ hk1;clear hk1 hk2 hk3 KO
   by_cases ht : 1 <= r.typ /\ r.typ <= 255
   · by_cases hs : 0 <= r.size /\ r.size <= 4
     · rw [decide_eq_true ht] at IT;rw [decide_eq_true hs] at IS;have HT := hd_ ht;have HS := hd_ hs;clear ht hs;go_wp2_with fail
       refine IT.out.mono ?_;rintro e w' ⟨rfl, rfl⟩;go_wp2_with fail
       refine IS.out.mono ?_;rintro e w' ⟨rfl, rfl⟩
       by_cases h0 : r.size = 0 /\ r.kind ≠ 1
       · have HN : Hid (¬ isR r) := fun h => h0.2 (h.2.2.2.2.1 h0.1)
         obtain ⟨h00, h01⟩ := h0;have e1 : (r.kind != 1) = true := by simpa using h01
         clear h01;go_wp2
         go_ret
         exact ⟨by rw [decide_eq_false HN.out]; rfl, HB.out⟩
       · have H0 : Hid (r.size = 0 -> r.kind = 1) := fun h => Classical.byContradiction fun hk => h0 ⟨h, hk⟩
         go_upto_region 4 with fail
         go_cut [29] (fun s wx => s = .bool false /\ w1 = wx)
         case first =>
          by_cases h1 : r.size = 0
          · have e1 : (r.kind != 1) = false := by simpa using H0.out h1
            clear h0;go_wp2
            go_meet
            exact ⟨rfl, rfl⟩
          · have e1 : (r.size == 0) = false := by simpa using h1
            clear h0 h1;go_wp2
            go_meet
            exact ⟨rfl, rfl⟩
         case rest =>
          clear h0;obtain ⟨rfl, rfl⟩ := hcut;go_upto_region 6 with fail
          go_cut [4] (fun s wx => ∃ M : Int, s = .int .i64 M /\ M + 1 = lim r.size /\ w1 = wx)
          case first =>
           rcases lim_cases HS.out with ⟨e1, e2⟩ | ⟨e1, e2⟩ | ⟨e1, e2⟩ | ⟨e1, e2⟩ | ⟨e1, e2⟩
           all_goals (
            rw [e1] at k1;clear e1;have E2 := hd_ e2;clear e2;go_wp2
            go_meet
            exact ⟨_, rfl, by rw [E2.out]; rfl, rfl⟩)
          case rest =>
           obtain ⟨M, rfl, hM, rfl⟩ := hcut;have HM := hd_ hM;clear hM;have I3 := hd_ (isIn_any r.low 0 M w1);have I4 := hd_ (isIn_any r.high 0 M w1);have I5 := hd_ (isIn_any r.good 0 M w1)
           by_cases h3 : 0 <= r.low /\ r.low <= M
           · rw [decide_eq_true h3] at I3;have H3 := hd_ h3;clear h3
             by_cases h4 : 0 <= r.high /\ r.high <= M
             · rw [decide_eq_true h4] at I4;have H4 := hd_ h4;clear h4
               by_cases h5 : 0 <= r.good /\ r.good <= M
               · rw [decide_eq_true h5] at I5;have HE := hd_ (isR_iff HT.out HS.out H0.out M HM.out H3.out H4.out h5);clear h5;have TK := hd_ (HK3.out r r.good w1 rfl);go_wp2_with fail
                 refine I3.out.mono ?_;rintro e w' ⟨rfl, rfl⟩;go_wp2_with fail
                 refine I4.out.mono ?_;rintro e w' ⟨rfl, rfl⟩;go_wp2_with fail
                 refine I5.out.mono ?_;rintro e w' ⟨rfl, rfl⟩;have hk2 := HK2.out;go_wp2_with fail
                 refine TK.out.mono ?_;rintro e w' ⟨rfl, hb⟩;rw [<- HE.out];have HB2 := hd_ (HB.out.trans (hb.mono HB.out.size));clear hb;go_wp2
                 go_ret
                 exact ⟨rfl, HB2.out⟩
               · rw [decide_eq_false h5] at I5;have HN : Hid (¬ isR r) := fun h => h5 (by have := HM.out; have := h.2.2.2.2.2.2.2.2.2.1; have := h.2.2.2.2.2.2.2.2.2.2.1; omega)
                 clear h5;go_wp2_with fail
                 refine I3.out.mono ?_;rintro e w' ⟨rfl, rfl⟩;go_wp2_with fail
                 refine I4.out.mono ?_;rintro e w' ⟨rfl, rfl⟩;go_wp2_with fail
                 refine I5.out.mono ?_;rintro e w' ⟨rfl, rfl⟩;go_wp2
                 go_ret
                 exact ⟨by rw [decide_eq_false HN.out]; rfl, HB.out⟩
             · rw [decide_eq_false h4] at I4;have HN : Hid (¬ isR r) := fun h => h4 (by have := HM.out; have := h.2.2.2.2.2.2.2.1; have := h.2.2.2.2.2.2.2.2.1; omega)
               clear h4;go_wp2_with fail
               refine I3.out.mono ?_;rintro e w' ⟨rfl, rfl⟩;go_wp2_with fail
               refine I4.out.mono ?_;rintro e w' ⟨rfl, rfl⟩;go_wp2
               go_ret
               exact ⟨by rw [decide_eq_false HN.out]; rfl, HB.out⟩
           · rw [decide_eq_false h3] at I3;have HN : Hid (¬ isR r) := fun h => h3 (by have := HM.out; have := h.2.2.2.2.2.1; have := h.2.2.2.2.2.2.1; omega)
             clear h3;go_wp2_with fail
             refine I3.out.mono ?_;rintro e w' ⟨rfl, rfl⟩;go_wp2
             go_ret
             exact ⟨by rw [decide_eq_false HN.out]; rfl, HB.out⟩
     · rw [decide_eq_true ht] at IT;rw [decide_eq_false hs] at IS;have HN : Hid (¬ isR r) := fun h => hs ⟨h.2.2.1, h.2.2.2.1⟩
       clear ht hs;go_wp2_with fail
       refine IT.out.mono ?_;rintro e w' ⟨rfl, rfl⟩;go_wp2_with fail
       refine IS.out.mono ?_;rintro e w' ⟨rfl, rfl⟩;go_wp2
       go_ret
       exact ⟨by rw [decide_eq_false HN.out]; rfl, HB.out⟩
   · rw [decide_eq_false ht] at IT;have HN : Hid (¬ isR r) := fun h => ht ⟨h.1, h.2.1⟩
     clear ht;go_wp2_with fail
     refine IT.out.mono ?_;rintro e w' ⟨rfl, rfl⟩;go_wp2
     go_ret
     exact ⟨by rw [decide_eq_false HN.out]; rfl, HB.out⟩
 · have HN := hd_ (isR_no1 hno);clear hno;go_wp2
   go_ret
   exact ⟨by rw [decide_eq_false HN.out]; rfl, HB.out⟩
theorem results_tmp_cell_row {P : Program} {fn : Func} {p u : Tmp} {ty : TypeId} (h : fn.results = #[.tmp u, .cell p ty]) (tmps : Array Value) (w : World) (g : Nat) (t : TypeId) (cs : Array Value) (fr : Nat × Nat) (d : TypeDesc)
 (hp : tmps.getD p undef = .pointer (some ⟨g, 0, none⟩)) (hg : w.heap[g]? = some (.cells cs t fr))
 (hu : P.underlying ty = some d) (hd : (match d with | .struct _ | .array _ _ => true | _ => false) = true) (hi : (P.info? ty).map (·.size) = some cs.size) :
 (results fn tmps).run P w = .ok (.tuple #[tmps.getD u undef, .agg cs]) w := by
 have hp' : tmps[p]?.getD undef = .pointer (some ⟨g, 0, none⟩) := by simpa using hp
 have hr := run_loadVar_row w g t ty cs fr d hg hu hd hi;simp only [results, h];simp [Sem.run_bind, Result.andThen, hp', asAddr, hr]
def OfR (rs : List Ru) (T : Int) (w : World) (e : Ending) (w' : World) : Prop :=
 ((∃ (k : Nat) (h : k < rs.length) (r : Ru), e = .returned (.tuple #[.int .i64 (k : Int), .agg #[.int .i64 r.typ, .int .i64 r.size, .int .i64 r.kind, .int .i64 r.low, .int .i64 r.high, .int .i64 r.good, .bool r.must]]) /\ r = rs[k] /\ r.typ = T /\ ∀ j (hj : j < k), (rs[j]'(by omega)).typ ≠ T) \/
  (e = .returned (.tuple #[.int .i64 (-1), .agg #[.int .i64 0, .int .i64 0, .int .i64 0, .int .i64 0, .int .i64 0, .int .i64 0, .bool false]]) /\ ∀ j (hj : j < rs.length), rs[j].typ ≠ T)) /\ Below w.heap.size w w'
theorem OfR.hit {rs : List Ru} {T : Int} {w w' : World} (r : Ru) (k : Nat) (h : k < rs.length) (hr : r = rs[k]) (h1 : r.typ = T) (h2 : ∀ j (hj : j < k), (rs[j]'(by omega)).typ ≠ T) (hb : Below w.heap.size w w') :
 OfR rs T w (.returned (.tuple #[.int .i64 (k : Int), .agg #[.int .i64 r.typ, .int .i64 r.size, .int .i64 r.kind, .int .i64 r.low, .int .i64 r.high, .int .i64 r.good, .bool r.must]])) w' := ⟨.inl ⟨k, h, r, rfl, hr, h1, h2⟩, hb⟩
set_option maxRecDepth 20000 in
set_option maxHeartbeats 2000000 in
theorem of_any (ao : Option Addr) (n c : Nat) (rs : List Ru) (T : Int) (w : World) (hr : RR w (.slice ao n c) n rs) :
 Calls Tryz.prog 114 #[.slice ao n c, .int .i64 T] w (OfR rs T w) := by
 have hl := hr.len;have HR := hd_ hr;have hsh := hr.sh;have hn63 : n <= 9223372036854775807 := by have := hsh.1; have := hsh.2; unfold maxLen at *; omega
 have HB0 : Hid (Below w.heap.size w (w.alloc (.cells #[.int .i64 0, .int .i64 0, .int .i64 0, .int .i64 0, .int .i64 0, .int .i64 0, .bool false] 146))) := (Below.refl _ _).alloc (Nat.le_refl _) _;have HG0 : Hid ((w.alloc (.cells #[.int .i64 0, .int .i64 0, .int .i64 0, .int .i64 0, .int .i64 0, .int .i64 0, .bool false] 146)).heap[w.heap.size]? = some (.cells #[.int .i64 0, .int .i64 0, .int .i64 0, .int .i64 0, .int .i64 0, .int .i64 0, .bool false] 146)) := heap_alloc_last _ _;clear hr hsh;go_enter Tryz.func114, Tryz.ntmps114
 go_wp2
 go_loopw [10] (fun iv wr => ∃ k : Nat, k <= n /\ iv = .int .i64 k /\ (∀ j (hj : j < k) (h2 : j < rs.length), rs[j].typ ≠ T) /\ Below w.heap.size w wr /\ wr.heap[w.heap.size]? = some (.cells #[.int .i64 0, .int .i64 0, .int .i64 0, .int .i64 0, .int .i64 0, .int .i64 0, .bool false] 146)) (fun iv _ => n - (intOf iv).toNat)
 case atStart => exact ⟨0, Nat.zero_le _, rfl, fun j hj => by omega, HB0.out, HG0.out⟩
 case round =>
  clear HB0 HG0;obtain ⟨k, hk, rfl, hne, hb, hg⟩ := hrel;have HNE := hd_ hne;have HB := hd_ hb;have HG := hd_ hg;have HBN := hd_ (hb.size);clear hne hb hg
  by_cases hlt : k < n
  · obtain ⟨b, o, rfl, hbl, hc⟩ := (HR.out.below HB.out).cells (by omega);obtain ⟨c0, c1, c2, c3, c4, c5, c6⟩ := hc k (by omega);obtain ⟨r, hr⟩ : ∃ r, r = rs[k] := ⟨_, rfl⟩;rw [<- hr] at c0 c1 c2 c3 c4 c5 c6;have HRK := hd_ hr;have HBA : Hid (Gr wr (wr.alloc (.cells #[.int .i64 r.typ, .int .i64 r.size, .int .i64 r.kind, .int .i64 r.low, .int .i64 r.high, .int .i64 r.good, .bool r.must] 101))) := (Gr.refl wr).alloc _;have HB1 := hd_ (HB.out.trans (Below.mono HBA.out HBN.out));have HG1 := hd_ (heap_gr HBA.out HG.out);have HGC : Hid ((wr.alloc (.cells #[.int .i64 r.typ, .int .i64 r.size, .int .i64 r.kind, .int .i64 r.low, .int .i64 r.high, .int .i64 r.good, .bool r.must] 101)).heap[wr.heap.size]? = some (.cells #[.int .i64 r.typ, .int .i64 r.size, .int .i64 r.kind, .int .i64 r.low, .int .i64 r.high, .int .i64 r.good, .bool r.must] 101)) := heap_alloc_last _ _;clear hr hc
    by_cases ht : r.typ = T
    · subst ht;go_upto_region 5 with fail
      obtain ⟨wq, hwq⟩ : ∃ wq, wq = wr.alloc (.cells #[.int .i64 r.typ, .int .i64 r.size, .int .i64 r.kind, .int .i64 r.low, .int .i64 r.high, .int .i64 r.good, .bool r.must] 101) := ⟨_, rfl⟩;rw [<- hwq];rw [<- hwq] at HB1 HG1 HGC;clear hwq c0 c1 c2 c3 c4 c5 c6;refine wp_region_G 3 Gr (by kernel_rfl) ?_;refine wpG_u preGr 0 (some 19) ?_;refine wpG_u preGr 1 (some 20) ?_ (hy := fun w' hw' => by
       obtain ⟨g0, g1, g2, g3, g4, g5, g6⟩ := cells7 (heap_gr hw' HGC.out);go_simp;with_reducible rfl)
      refine wpG_u preGr 2 (some 4) ?_;refine wpG_tail (i := 3) (by decide) rfl (by kernel_rfl) (by rfl) ?_;refine wp_store_whole (none) 146 (.tmp 5) (.tmp 20) rfl w.heap.size (ruC r) rfl rfl 146 (ruC ruZ) HG1.out sizeR2 rfl (ruC_one r) rfl ?_;intro w4 h4 ho4;have H4 := hd_ h4;have HB4 : Hid (Below w.heap.size w w4) := ho4.below _ _ (Nat.le_refl _) HB1.out.drew;clear h4 ho4;try simp only [Act.put, aq1, aq2, aq3]
      refine wpG_done (by kernel_rfl) ?_ _;go_wp2
      refine bodyPost_ret (v := .tuple #[.int .i64 k, .agg #[.int .i64 r.typ, .int .i64 r.size, .int .i64 r.kind, .int .i64 r.low, .int .i64 r.high, .int .i64 r.good, .bool r.must]]) (results_tmp_cell_row (P := Tryz.prog) (fn := Tryz.f114) rfl _ _ w.heap.size 146 _ (0, 0) _ rfl H4.out Tryz.underlying146 rfl (by kernel_rfl)) rfl ?_;exact OfR.hit r k (by omega) HRK.out rfl (fun j hj => HNE.out j hj (by omega)) HB4.out
    · have htf : (r.typ == T) = false := by simpa using ht
      have HT := hd_ ht;clear ht;go_wp2
      go_roundw
      case rel =>
       have HN1 : ∀ j (hj : j < k + 1) (h2 : j < rs.length), rs[j].typ ≠ T := fun j hj h2 => by
        by_cases e : j = k
        · subst e; rw [<- HRK.out]; exact HT.out
        · exact HNE.out j (by omega) h2
       first | exact ⟨k + 1, by omega, by go_num, HN1, HB1.out, HG1.out⟩ | ((repeat apply Exists.intro); exact ⟨⟨k + 1, by omega, by go_num, HN1, HB1.out, HG1.out⟩, rfl⟩)
      case measure => simp [intOf]; omega
  · obtain rfl : k = n := by omega
    go_wp2_with (refine wpList_store_whole rfl 146 (.tmp 5) (.tmp 22) rfl w.heap.size (ruC ruZ) rfl rfl 146 (ruC ruZ) HG.out sizeR2 rfl (ruC_one ruZ) ?_)
    intro w3 h3 ho3;have H3 := hd_ h3;have HB3 : Hid (Below w.heap.size w w3) := ho3.below _ _ (Nat.le_refl _) HB.out;clear h3 ho3;go_wp2
    refine bodyPost_ret (v := .tuple #[.int .i64 (-1), .agg #[.int .i64 0, .int .i64 0, .int .i64 0, .int .i64 0, .int .i64 0, .int .i64 0, .bool false]]) (results_tmp_cell_row (P := Tryz.prog) (fn := Tryz.f114) rfl _ _ w.heap.size 146 _ (0, 0) _ rfl H3.out Tryz.underlying146 rfl (by kernel_rfl)) rfl ?_;exact ⟨.inr ⟨rfl, fun j hj => HNE.out j (by omega) hj⟩, HB3.out⟩
def okTo (rs : List Ru) (k : Nat) : Prop := ∀ j (hj : j < rs.length), j < k -> isR rs[j] /\ ∀ i (hi : i < j), (rs[i]'(by omega)).typ ≠ rs[j].typ
theorem okTo.next {rs : List Ru} {k : Nat} (h : okTo rs k) (hk : k < rs.length) (h1 : isR rs[k]) (h2 : ∀ i (hi : i < k), (rs[i]'(by omega)).typ ≠ rs[k].typ) : okTo rs (k + 1) := fun j hj hjk => by
 by_cases e : j = k
 · subst e; exact ⟨h1, h2⟩
 · exact h j hj (by omega)
theorem areR_iff (rs : List Ru) : areR rs ↔ rs.length <= 16 /\ okTo rs rs.length := by
 constructor
 · rintro ⟨h1, h2, h3⟩;refine ⟨h1, fun j hj _ => ⟨h2 _ (List.getElem_mem hj), fun i hi e => ?_⟩⟩;have := List.pairwise_iff_getElem.1 h3 i j (by rw [List.length_map]; omega) (by rw [List.length_map]; omega) hi;apply this;simp [e]
 · rintro ⟨h1, h2⟩;refine ⟨h1, fun r hr => ?_, ?_⟩
   · obtain ⟨i, hi, rfl⟩ := List.mem_iff_getElem.1 hr;exact (h2 i hi hi).1
   · refine List.pairwise_iff_getElem.2 fun i j hi hj hij e => ?_
     rw [List.length_map] at hj;simp only [List.getElem_map] at e;exact (h2 j hj hj).2 i hij e
set_option maxRecDepth 20000 in
set_option maxHeartbeats 2000000 in
theorem mayBes_any (ao : Option Addr) (n c : Nat) (rs : List Ru) (w : World) (hr : RR w (.slice ao n c) n rs) :
 Calls Tryz.prog 93 #[.slice ao n c] w fun e w' => e = .returned (.bool (decide (areR rs))) /\ Below w.heap.size w w' := by
 have hl := hr.len;have HR := hd_ hr;clear hr
 by_cases h16 : n <= 16
 · go_enter Tryz.func93, Tryz.ntmps93
   go_wp2
   go_loopw [12] (fun iv wr => ∃ k : Nat, k <= n /\ iv = .int .i64 k /\ okTo rs k /\ Below w.heap.size w wr) (fun iv _ => n - (intOf iv).toNat)
   case atStart => exact ⟨0, Nat.zero_le _, rfl, fun j hj h => by omega, Below.refl _ _⟩
   case round =>
    obtain ⟨k, hk, rfl, hok, hb⟩ := hrel;have HOK := hd_ hok;have HB := hd_ hb;have HBN := hd_ (hb.size);clear hok hb
    by_cases hlt : k < n
    · obtain ⟨b, o, rfl, hbl, hc⟩ := (HR.out.below HB.out).cells (by omega);obtain ⟨c0, c1, c2, c3, c4, c5, c6⟩ := hc k (by omega);obtain ⟨r, hr⟩ : ∃ r, r = rs[k] := ⟨_, rfl⟩;rw [<- hr] at c0 c1 c2 c3 c4 c5 c6;have HRK := hd_ hr;have HBA : Hid (Gr wr (wr.alloc (.cells #[.int .i64 r.typ, .int .i64 r.size, .int .i64 r.kind, .int .i64 r.low, .int .i64 r.high, .int .i64 r.good, .bool r.must] 101))) := (Gr.refl wr).alloc _;have HB1 := hd_ (HB.out.trans (Below.mono HBA.out HBN.out));have HGC : Hid ((wr.alloc (.cells #[.int .i64 r.typ, .int .i64 r.size, .int .i64 r.kind, .int .i64 r.low, .int .i64 r.high, .int .i64 r.good, .bool r.must] 101)).heap[wr.heap.size]? = some (.cells #[.int .i64 r.typ, .int .i64 r.size, .int .i64 r.kind, .int .i64 r.low, .int .i64 r.high, .int .i64 r.good, .bool r.must] 101)) := heap_alloc_last _ _;have q0 := (cells7 HGC.out).1;have OF := hd_ (of_any _ n c rs r.typ (wr.alloc (.cells #[.int .i64 r.typ, .int .i64 r.size, .int .i64 r.kind, .int .i64 r.low, .int .i64 r.high, .int .i64 r.good, .bool r.must] 101)) (HR.out.below HB1.out));clear hr hc;go_wp2_with fail
      refine OF.out.mono ?_;rintro e w2 ⟨(⟨i, hi, x, rfl, hx, h1, h2⟩ | ⟨rfl, hno⟩), hb2⟩
      · have HX := hd_ hx;have hik : i <= k := Classical.byContradiction fun h => h2 k (by omega) (by rw [<- HRK.out])
        have H1 := hd_ h1;have H2 := hd_ h2;have HG2 := hd_ (heap_below HGC.out hb2);have HB2 := hd_ (HB1.out.trans (hb2.mono HB1.out.size));clear h1 h2 hb2 hx OF c0 c1 c2 c3 c4 c5 c6 q0
        by_cases hlk : i < k
        · have HN : Hid (¬ areR rs) := fun h => by
           have := ((areR_iff rs).1 h).2 k (by omega) (by omega);exact this.2 i hlk (by rw [<- HX.out, H1.out, HRK.out])
          go_wp2
          go_ret
          exact ⟨by rw [decide_eq_false HN.out]; rfl, (HB2.out.alloc HB2.out.size _)⟩
        · obtain rfl : i = k := by omega
          have HX2 : Hid (x = r) := HX.out.trans HRK.out.symm;have hg3 : Gr w2 (w2.alloc (.cells #[.int .i64 x.typ, .int .i64 x.size, .int .i64 x.kind, .int .i64 x.low, .int .i64 x.high, .int .i64 x.good, .bool x.must] 146)) := (Gr.refl _).alloc _;have HB3 := hd_ (HB2.out.trans (Below.mono hg3 HB2.out.size));have HG3 := hd_ (heap_gr hg3 HG2.out);obtain ⟨q0, q1, q2, q3, q4, q5, q6⟩ := cells7 HG3.out;have MB := hd_ (mayBe_any r (w2.alloc (.cells #[.int .i64 x.typ, .int .i64 x.size, .int .i64 x.kind, .int .i64 x.low, .int .i64 x.high, .int .i64 x.good, .bool x.must] 146)));clear hg3
          by_cases hi2 : isR r
          · rw [decide_eq_true hi2] at MB;have HOK2 : Hid (okTo rs (i + 1)) := HOK.out.next (by omega) (by rw [<- HRK.out]; exact hi2) (fun j hj => by rw [<- HX.out, H1.out]; exact H2.out j hj);clear hi2;go_wp2_with fail
            refine MB.out.mono ?_;rintro e w4 ⟨rfl, hb4⟩;have HB4 := hd_ (HB3.out.trans (hb4.mono HB3.out.size));clear hb4;go_wp2
            go_roundw
            case rel =>
             first | exact ⟨i + 1, by omega, by go_num, HOK2.out, HB4.out⟩ | ((repeat apply Exists.intro); exact ⟨⟨i + 1, by omega, by go_num, HOK2.out, HB4.out⟩, rfl⟩)
            case measure => simp [intOf]; omega
          · rw [decide_eq_false hi2] at MB;have HN : Hid (¬ areR rs) := fun h => hi2 (by
             have := (((areR_iff rs).1 h).2 i (by omega) (by omega)).1
             rwa [<- HRK.out] at this)
            clear hi2;go_wp2_with fail
            refine MB.out.mono ?_;rintro e w4 ⟨rfl, hb4⟩;have HB4 := hd_ (HB3.out.trans (hb4.mono HB3.out.size));clear hb4;go_wp2
            go_ret
            exact ⟨by rw [decide_eq_false HN.out]; rfl, HB4.out⟩
      · exact (hno k (by omega) (by rw [<- HRK.out])).elim
    · obtain rfl : k = n := by omega
      have HA : Hid (areR rs) := (areR_iff rs).2 ⟨by omega, by rw [hl]; exact HOK.out⟩;go_wp2
      go_ret
      exact ⟨by rw [decide_eq_true HA.out]; rfl, HB.out⟩
 · have HN : Hid (¬ areR rs) := fun h => h16 (by rw [<- hl]; exact h.1)
   have hlt : (16 : Int) < (n : Int) := by omega
   clear h16;go_enter Tryz.func93, Tryz.ntmps93
   go_wp2
   go_ret
   exact ⟨by rw [decide_eq_false HN.out]; rfl, Below.refl _ _⟩
theorem check_any (ao : Option Addr) (n c : Nat) (rs : List Ru) (w : World) (hr : RR w (.slice ao n c) n rs) :
 Calls Tryz.prog 80 #[.slice ao n c] w fun e w' => e = .returned (.int .i64 (if areR rs then 0 else 150)) /\ Below w.heap.size w w' := by
 have MB := hd_ (mayBes_any ao n c rs w hr);clear hr
 by_cases h : areR rs
 · rw [decide_eq_true h] at MB;rw [if_pos h];clear h;go_enter Tryz.func80, Tryz.ntmps80
   go_wp2_with fail
   refine MB.out.mono ?_;rintro e w4 ⟨rfl, hb4⟩;have HB4 := hd_ hb4;clear hb4;go_wp2
   go_ret
   exact ⟨rfl, HB4.out⟩
 · rw [decide_eq_false h] at MB;rw [if_neg h];clear h;go_enter Tryz.func80, Tryz.ntmps80
   go_wp2_with fail
   refine MB.out.mono ?_;rintro e w4 ⟨rfl, hb4⟩;have HB4 := hd_ hb4;clear hb4;go_wp2
   go_ret
   exact ⟨rfl, HB4.out⟩
theorem sizeMayBe_zero (w : World) : Calls Tryz.prog 85 #[.int .i64 0] w fun e w' => e = .returned (.bool false) /\ w = w' := by
 go_enter Tryz.func85, Tryz.ntmps85
 go_wp2
 go_ret
 exact ⟨rfl, rfl⟩
theorem take_zero (w : World) (a : Option Addr) (n c : Nat) : Calls Tryz.prog 160 #[.slice a n c, .int .i64 0] w fun e w' => e = .returned (.tuple #[.int .u64 0, .slice none 0 0, .bool false]) /\ w = w' := by
 go_enter Tryz.func160, Tryz.ntmps160
 go_wp2_with (go_at_call 85; refine (sizeMayBe_zero _).mono ?_; rintro e w' ⟨rfl, rfl⟩)
 go_ret3
 exact ⟨tup3 rfl, rfl⟩
theorem put_zero (w : World) (n : Int) : Calls Tryz.prog 67 #[.int .u64 n, .int .i64 0] w fun e w' => e = .returned (.slice none 0 0) /\ w = w' := by
 go_enter Tryz.func67, Tryz.ntmps67
 go_wp2_with (go_at_call 85; refine (sizeMayBe_zero _).mono ?_; rintro e w' ⟨rfl, rfl⟩)
 go_ret
 exact ⟨rfl, rfl⟩
theorem putL_zero (n : Nat) : putL n 0 = [] := by simp [putL]
theorem put_small (n size : Nat) (w : World) (h1 : size <= 4) (hn : n < 18446744073709551616) :
 Calls Tryz.prog 67 #[.int .u64 n, .int .i64 size] w fun e w' => ∃ v, e = .returned v /\ OwnB w' w.heap.size 5 v (putL n size) /\ Below w.heap.size w w' := by
 by_cases h0 : size = 0
 · subst h0;refine (put_zero w n).mono ?_;rintro e w' ⟨rfl, rfl⟩;exact ⟨_, rfl, by rw [putL_zero]; exact OwnB.nil _ _ _, Below.refl _ _⟩
 · exact put_yes n size w (by omega) (by omega) hn
theorem take_small (w : World) (a : Option Addr) (n c : Nat) (l : List UInt8) (hn : l.length = n) (h : Bs w (.slice a n c) l) (h4 : n <= 4) :
 Calls Tryz.prog 160 #[.slice a n c, .int .i64 n] w fun e w' => ∃ a' n' c' b, e = .returned (.tuple #[.int .u64 (takeN l n : Nat), .slice a' n' c', .bool b]) /\ Below w.heap.size w w' := by
 by_cases h0 : n = 0
 · subst h0;refine (take_zero w a 0 c).mono ?_;rintro e w' ⟨rfl, rfl⟩;exact ⟨none, 0, 0, false, by rw [takeN_zero]; rfl, Below.refl _ _⟩
 · refine (take_yes w a n c l n hn h (by omega) (by omega) (Nat.le_refl _) (by omega)).mono ?_;rintro e w' ⟨v, rfl, ho, hb⟩;obtain ⟨A, L, C, ev, _⟩ := ho.bs.sl;subst ev;exact ⟨A, L, C, true, rfl, hb⟩
theorem takeN_lt4 (l : List UInt8) (h : l.length <= 4) : takeN l l.length < 4294967296 := by
 match l, h with
 | [], _ => rw [List.length_nil, takeN_zero]; omega
 | [a], h => rw [List.length_singleton, takeN_eq1 _ (by simp)]; have := bN_lt [a] 0; omega
 | [a, b], h => rw [show [a, b].length = 2 from rfl, takeN_eq2 _ (by simp)]; have := bN_lt [a, b] 0; have := bN_lt [a, b] 1; omega
 | [a, b, c], h =>
  rw [show [a, b, c].length = 3 from rfl, takeN_succ _ 2 (by simp), takeN_eq2 _ (by simp)];have := bN_lt [a, b, c] 0; have := bN_lt [a, b, c] 1;have := UInt8.toNat_lt c;simp only [List.getElem_cons_succ, List.getElem_cons_zero];omega
 | [a, b, c, d], h =>
  rw [show [a, b, c, d].length = 4 from rfl, takeN_succ _ 3 (by simp), takeN_succ _ 2 (by simp), takeN_eq2 _ (by simp)];have := bN_lt [a, b, c, d] 0; have := bN_lt [a, b, c, d] 1;have := UInt8.toNat_lt c;have := UInt8.toNat_lt d;simp only [List.getElem_cons_succ, List.getElem_cons_zero];omega
set_option maxRecDepth 20000 in
set_option maxHeartbeats 2000000 in
theorem takes_any (r : Ru) (T : Int) (a : Option Addr) (n c : Nat) (l : List UInt8) (hn : l.length = n) (w : World) (hb : Bs w (.slice a n c) l) (hk : 1 <= r.kind /\ r.kind <= 4) (hs : r.size = n) (h4 : n <= 4) :
 Calls Tryz.prog 143 #[.agg #[.int .i64 r.typ, .int .i64 r.size, .int .i64 r.kind, .int .i64 r.low, .int .i64 r.high, .int .i64 r.good, .bool r.must], .agg #[.int .i64 T, .slice a n c]] w fun e w' => e = .returned (.bool (takes r (num (T, l)))) /\ Below w.heap.size w w' := by
 rw [hs];have HS := hd_ hs;have hal : Gr w ((w.alloc (.cells #[.int .i64 r.typ, .int .i64 n, .int .i64 r.kind, .int .i64 r.low, .int .i64 r.high, .int .i64 r.good, .bool r.must] 146)).alloc (.cells #[.int .i64 T, .slice a n c] 69)) := ((Gr.refl w).alloc _).alloc _;have HAL := hd_ hal;have hg0 : ((w.alloc (.cells #[.int .i64 r.typ, .int .i64 n, .int .i64 r.kind, .int .i64 r.low, .int .i64 r.high, .int .i64 r.good, .bool r.must] 146)).alloc (.cells #[.int .i64 T, .slice a n c] 69)).heap[w.heap.size]? = some (.cells #[.int .i64 r.typ, .int .i64 n, .int .i64 r.kind, .int .i64 r.low, .int .i64 r.high, .int .i64 r.good, .bool r.must] 146) := heap2_0' _ _ _;have HG0 := hd_ hg0;obtain ⟨k0, k1, k2, k3, k4, k5, k6⟩ := cells7 hg0;have hg1 : ((w.alloc (.cells #[.int .i64 r.typ, .int .i64 n, .int .i64 r.kind, .int .i64 r.low, .int .i64 r.high, .int .i64 r.good, .bool r.must] 146)).alloc (.cells #[.int .i64 T, .slice a n c] 69)).heap[w.heap.size + 1]? = some (.cells #[.int .i64 T, .slice a n c] 69) := heap2_1' _ _ _;obtain ⟨j0, j1⟩ := copy_cells hg1;have hlt : takeN l n < 4294967296 := by have := takeN_lt4 l (by omega); rwa [hn] at this
 have TK := hd_ (take_small ((w.alloc (.cells #[.int .i64 r.typ, .int .i64 n, .int .i64 r.kind, .int .i64 r.low, .int .i64 r.high, .int .i64 r.good, .bool r.must] 146)).alloc (.cells #[.int .i64 T, .slice a n c] 69)) a n c l hn (hb.below hal) h4);have HNUM : Hid (num (T, l) = (takeN l n : Int)) := by
  show num (T, l) = _;unfold num;rw [hn]
 obtain ⟨N, hN⟩ : ∃ N, N = takeN l n := ⟨_, rfl⟩;rw [<- hN] at TK HNUM hlt;have HW : Hid (IntKind.i64.wrap (N : Int) = (N : Int)) := by
  show _ = _;rw [IntKind.wrap_i64]; omega
 have HK := hd_ hk;clear hal hg0 hg1 hb hn hs h4 hN hlt hk;go_enter Tryz.func143, Tryz.ntmps143
 go_wp2_with fail
 refine TK.out.mono ?_;rintro e w2 ⟨a', n', c', b, rfl, hb2⟩;have HG2 := hd_ (heap_below HG0.out hb2);have HB2 : Hid (Below w.heap.size w w2) := HAL.out.trans hb2;have HSZ := hd_ (show w.heap.size <= w2.heap.size from HB2.out.size);clear hb2 k0 k1 k2 k3 k4 k5 k6 j0 j1 TK HG0 HAL;go_upto_region 2 with fail
 refine wp_region_G 8 Gr (by kernel_rfl) ?_;refine wpG_u preGr 0 (some 17) ?_;refine wpG_u preGr 1 (some 18) ?_ (hy := fun w' hw' => by
  obtain ⟨g0, g1, g2, g3, g4, g5, g6⟩ := cells7 (heap_gr ((Gr.drew w2).trans hw') HG2.out);have hw64 := HW.out;go_simp;with_reducible rfl)
 refine wpG_u preGr 3 (some 20) ?_ (hy := fun w' hw' => by
  obtain ⟨g0, g1, g2, g3, g4, g5, g6⟩ := cells7 (heap_gr ((Gr.drew w2).trans hw') HG2.out);have hw64 := HW.out;go_simp;with_reducible rfl)
 refine wpG_u preGr 4 (some 21) ?_;refine wpG_u preGr 5 (some 22) ?_ (hy := fun w' hw' => by
  obtain ⟨g0, g1, g2, g3, g4, g5, g6⟩ := cells7 (heap_gr ((Gr.drew w2).trans hw') HG2.out);have hw64 := HW.out;go_simp;with_reducible rfl)
 refine wpG_one (i := 2) rfl (by kernel_rfl) (by rfl) ?_;go_simp;refine (kindOf_any _ _).mono ?_;rintro e w3 ⟨(⟨k, rfl, hk1, hk2, hk3⟩ | ⟨rfl, hno⟩), rfl⟩;rotate_left
 · exact absurd HK.out hno
 have HK3 := hd_ (hk3 r N w2.drew rfl);rw [HS.out] at HK3;clear hk3;refine ⟨Gr.refl _, ?_⟩;try simp only [Act.put, aq1, aq2, aq3]
 refine wpG_one (i := 6) rfl (by kernel_rfl) (by rfl) ?_;go_simp;refine HK3.out.mono ?_;rintro e w3 ⟨rfl, hb3⟩;refine ⟨hb3, ?_⟩;have HB3 := hd_ (HB2.out.trans (((Gr.drew w2).trans hb3).mono HSZ.out));clear hb3;try simp only [Act.put, aq1, aq2, aq3]
 refine wpG_u preGr 7 (some 4) ?_ (hy := fun w' hw' => by
  go_simp;with_reducible rfl)
 refine wpG_done (by kernel_rfl) ?_ _;go_wp2
 go_ret
 exact ⟨by rw [HNUM.out]; rfl, HB3.out⟩
set_option maxRecDepth 20000 in
set_option maxHeartbeats 2000000 in
theorem good_any (r : Ru) (w : World) (hr : isR r) :
 Calls Tryz.prog 146 #[.agg #[.int .i64 r.typ, .int .i64 r.size, .int .i64 r.kind, .int .i64 r.low, .int .i64 r.high, .int .i64 r.good, .bool r.must]] w fun e w' => ∃ v, e = .returned (.agg #[.int .i64 r.typ, v]) /\ OwnB w' w.heap.size 5 v (goodO r).2 /\ Below w.heap.size w w' := by
 obtain ⟨n, hn⟩ : ∃ n : Nat, r.size = (n : Int) := ⟨r.size.toNat, by have := hr.2.2.1; omega⟩;obtain ⟨N, hN⟩ : ∃ N : Nat, r.good = (N : Int) := ⟨r.good.toNat, by have := hr.2.2.2.2.2.2.2.2.2.1; omega⟩;have h4 : n <= 4 := by have := hr.2.2.2.1; omega
 have hlt : N < 4294967296 := by
  have h1 := hr.2.2.2.2.2.2.2.2.2.2.1
  rcases lim_cases ⟨hr.2.2.1, hr.2.2.2.1⟩ with ⟨_, e⟩ | ⟨_, e⟩ | ⟨_, e⟩ | ⟨_, e⟩ | ⟨_, e⟩ <;> omega
 have e2 : (goodO r).2 = putL N n := by
  show putL r.good.toNat r.size.toNat = _;rw [hn, hN]; rfl
 rw [e2, hn, hN];have hal : Gr w ((w.alloc (.cells #[.int .i64 r.typ, .int .i64 n, .int .i64 r.kind, .int .i64 r.low, .int .i64 r.high, .int .i64 N, .bool r.must] 146)).alloc (.cells #[.int .i64 0, .slice none 0 0] 69)) := ((Gr.refl w).alloc _).alloc _;have HAL := hd_ hal;have HG0 : Hid (((w.alloc (.cells #[.int .i64 r.typ, .int .i64 n, .int .i64 r.kind, .int .i64 r.low, .int .i64 r.high, .int .i64 N, .bool r.must] 146)).alloc (.cells #[.int .i64 0, .slice none 0 0] 69)).heap[w.heap.size]? = some (.cells #[.int .i64 r.typ, .int .i64 n, .int .i64 r.kind, .int .i64 r.low, .int .i64 r.high, .int .i64 N, .bool r.must] 146)) := heap2_0' _ _ _;have HG1 : Hid (((w.alloc (.cells #[.int .i64 r.typ, .int .i64 n, .int .i64 r.kind, .int .i64 r.low, .int .i64 r.high, .int .i64 N, .bool r.must] 146)).alloc (.cells #[.int .i64 0, .slice none 0 0] 69)).heap[w.heap.size + 1]? = some (.cells #[.int .i64 0, .slice none 0 0] 69)) := heap2_1' _ _ _;have HW : Hid (IntKind.u64.wrap (N : Int) = (N : Int)) := by
  show _ = _;rw [IntKind.wrap_u64]; omega
 have PU : Hid (∀ w', Calls Tryz.prog 67 #[.int .u64 N, .int .i64 n] w' fun e w3 => ∃ v, e = .returned v /\ OwnB w3 w'.heap.size 5 v (putL N n) /\ Below w'.heap.size w' w3) := fun w' => put_small N n w' h4 (by omega)
 have HL : Hid ((putL N n).length = n) := by show _ = _; rw [putL_length]
 clear hal hr hn hN h4 hlt e2;go_enter Tryz.func146, Tryz.ntmps146
 go_upto_region 1 with fail
 obtain ⟨wq, hwq⟩ : ∃ wq, wq = ((w.alloc (.cells #[.int .i64 r.typ, .int .i64 n, .int .i64 r.kind, .int .i64 r.low, .int .i64 r.high, .int .i64 N, .bool r.must] 146)).alloc (.cells #[.int .i64 0, .slice none 0 0] 69)) := ⟨_, rfl⟩;rw [<- hwq];rw [<- hwq] at HAL HG0 HG1;clear hwq;refine wp_region_G 9 Gr (by kernel_rfl) ?_;refine wpG_u preGr 0 (some 3) ?_;refine wpG_u preGr 1 (some 4) ?_ (hy := fun w' hw' => by
  obtain ⟨g0, g1, g2, g3, g4, g5, g6⟩ := cells7 (heap_gr ((Gr.drew wq).trans hw') HG0.out);have hw64 := HW.out;go_simp;with_reducible rfl)
 refine wpG_u preGr 2 (some 5) ?_;refine wpG_u preGr 3 (some 6) ?_ (hy := fun w' hw' => by
  obtain ⟨g0, g1, g2, g3, g4, g5, g6⟩ := cells7 (heap_gr ((Gr.drew wq).trans hw') HG0.out);have hw64 := HW.out;go_simp;with_reducible rfl)
 refine wpG_u preGr 4 (some 7) ?_ (hy := fun w' hw' => by
  obtain ⟨g0, g1, g2, g3, g4, g5, g6⟩ := cells7 (heap_gr ((Gr.drew wq).trans hw') HG0.out);have hw64 := HW.out;go_simp;with_reducible rfl)
 refine wpG_u preGr 5 (some 8) ?_;refine wpG_u preGr 6 (some 9) ?_ (hy := fun w' hw' => by
  obtain ⟨g0, g1, g2, g3, g4, g5, g6⟩ := cells7 (heap_gr ((Gr.drew wq).trans hw') HG0.out);have hw64 := HW.out;go_simp;with_reducible rfl)
 refine wpG_one (i := 7) rfl (by kernel_rfl) (by rfl) ?_;go_simp;refine (PU.out _).mono ?_;rintro e w3 ⟨v3, rfl, hown3, hb3⟩;obtain ⟨A3, L3, C3, ev, hL3, _, _⟩ := hown3.bs.sl;subst ev;refine ⟨hb3, ?_⟩;have hq3 : Gr wq w3 := (Gr.drew wq).trans hb3;have HB3 := hd_ (HAL.out.trans hq3);have HG3 := hd_ (heap_gr hq3 HG1.out);have HO3 := hd_ (hown3.mono (base' := w.heap.size) (show w.heap.size <= wq.drew.heap.size from HAL.out.size));clear hown3 hb3 hq3 hL3;try simp only [Act.put, aq1, aq2, aq3]
 refine wpG_u preGr 8 (some 11) ?_ (hy := fun w' hw' => by
  refine Eq.trans (build_run (P := Tryz.prog) 69 [(0, .tmp 4), (1, .tmp 10)] ?_ #[.int .i64 r.typ, .slice A3 L3 C3] ?_) ?_
  · rfl
  · exact O.builtT r.typ A3 L3 C3
  · with_reducible rfl)
 refine wpG_tail (i := 9) (by decide) rfl (by kernel_rfl) (by rfl) ?_;refine wp_store_whole (none) 69 (.tmp 2) (.tmp 11) rfl (w.heap.size + 1) [.int .i64 r.typ, .slice A3 L3 C3] rfl rfl 69 [.int .i64 0, .slice none 0 0] HG3.out O.sizeT rfl (O.one_tag _ rfl) rfl ?_;intro w4 h4 ho4;have H4 := hd_ h4;have HB4 : Hid (Below w.heap.size w w4) := ho4.below _ _ (Nat.le_succ _) HB3.out;have HO4 := hd_ (HO3.out.off ho4 (fun q hq e => own_ne_cell HO3.out HG3.out (by decide) (by rw [hq, e])));clear h4 ho4;try simp only [Act.put, aq1, aq2, aq3]
 refine wpG_done (by kernel_rfl) ?_ _;go_wp2
 refine bodyPost_ret (v := .agg #[.int .i64 r.typ, .slice A3 L3 C3]) (results_cell_row (P := Tryz.prog) (fn := Tryz.f146) rfl _ _ (w.heap.size + 1) 69 _ (0, 0) _ rfl H4.out Tryz.underlying69 rfl (by kernel_rfl)) rfl ?_;exact ⟨_, rfl, HO4.out, HB4.out⟩
def OB (o : Option Nat) (w w' : World) : Prop := match o with
 | none => Below w.heap.size w w'
 | some g => Only g w w'
theorem OB.refl (o : Option Nat) (w : World) : OB o w w := by cases o with
 | none => exact Below.refl _ _
 | some g => exact Only.refl _ _
theorem OB.size {o : Option Nat} {w w' : World} (h : OB o w w') : w.heap.size <= w'.heap.size := by cases o with
 | none => exact Below.size h
 | some g => exact Only.size h
theorem OB.trans {o : Option Nat} {a b c : World} (h : OB o a b) (k : OB o b c) : OB o a c := by cases o with
 | none => exact Below.trans h (Below.mono k (Below.size h))
 | some g => exact Only.trans h k
theorem OB.after {o : Option Nat} {a b c : World} (h : OB o a b) (ho : ∀ g, o = some g -> g < a.heap.size) (k : Below a.heap.size b c) : OB o a c := by cases o with
 | none => exact Below.trans h k
 | some g =>
  have hg := ho g rfl;exact ⟨Nat.le_trans (Only.size h) k.size, fun B w0 hB hb => ((Only.below h) B w0 hB hb).trans (k.mono (by omega)), fun i hi hn => by rw [k.block i hi, Only.heap h i hi hn]⟩
theorem OB.below {o : Option Nat} {w0 w w' : World} (h : OB o w w') (hg : ∀ g, o = some g -> w0.heap.size <= g) (hb : Below w0.heap.size w0 w) : Below w0.heap.size w0 w' := by cases o with
 | none => exact hb.trans (Below.mono h hb.size)
 | some g => exact Only.below h _ _ (hg g rfl) hb
theorem OB.own {o : Option Nat} {w w' : World} {base : Nat} {e : TypeId} {size n : Nat} {v : Value} {xs : List Value} (h : OB o w w') (hg : ∀ g, o = some g -> g < base) (hr : w.ownsRow base e size v n xs) : w'.ownsRow base e size v n xs := by cases o with
 | none => exact ownsRow_below hr h
 | some g => exact ownsRow_only hr h (hg g rfl)
theorem OB.to {o : Option Nat} {w w' : World} {base : Nat} {v : Value} {ts : List O.Tg} (h : OB o w w') (hg : ∀ g, o = some g -> g < base) (hr : O.TO w base v ts) : O.TO w' base v ts :=
 ⟨h.own hg hr.own, fun t ht => h.own hg (hr.vals t ht)⟩
def Tells (out : Option PT) (w' : World) (e : Ending) : Prop :=
 ∃ (U : Int) (A : Option Addr) (L C : Nat) (b : Bool) (l : List UInt8), e = .returned (.tuple #[.agg #[.int .i64 U, .slice A L C], .bool b]) /\ out = (if b then some (U, l) else none) /\ (b = true -> l.length = L /\ L <= 1000 /\ Bs w' (.slice A L C) l)
def outs (out : Nat -> Option PT) (k : Nat) : List PT := (List.range k).filterMap out
theorem outs_succ (out : Nat -> Option PT) (k : Nat) : outs out (k + 1) = outs out k ++ (out k).toList := by
 unfold outs;rw [List.range_succ, List.filterMap_append];cases h : out k <;> simp [h]
theorem outs_zero (out : Nat -> Option PT) : outs out 0 = [] := rfl
theorem outs_length (out : Nat -> Option PT) (k : Nat) : (outs out k).length <= k := by
 unfold outs;exact Nat.le_trans (List.length_filterMap_le _ _) (by simp)
open O in
set_option maxRecDepth 20000 in
set_option maxHeartbeats 4000000 in
theorem walk_any (w0 w : World) (o : Option Nat) (hg0 : ∀ g, o = some g -> w0.heap.size <= g) (hg1 : ∀ g, o = some g -> g < w.heap.size) (hb0 : Below w0.heap.size w0 w)
 (ao : Option Addr) (n c : Nat) (ts : List Tg) (hr : TR w0 (.slice ao n c) n ts) (hn : n <= 1000)
 (k : Nat) (caps : Array Value) (hk : ∀ (args : Array Value) (w' : World), (callFunc k args).run Tryz.prog w' = .ok (.enter k args) w')
 (I : Nat -> World -> Prop) (hI : ∀ j w1 w2, I j w1 -> Below w.heap.size w1 w2 -> I j w2) (h0 : I 0 w) (out : Nat -> Option PT)
 (HS : ∀ j (hj : j < ts.length) (T : Int) (A : Option Addr) (L C : Nat) (wr : World), T = ts[j].typ -> ts[j].val = .slice A L C -> Bs wr (.slice A L C) ts[j].l -> Below w0.heap.size w0 wr -> w.heap.size <= wr.heap.size -> I j wr ->
  Calls Tryz.prog k (#[.agg #[.int .i64 T, .slice A L C]] ++ caps) wr fun e w' => Tells (out j) w' e /\ OB o wr w' /\ I (j + 1) w') :
 Calls Tryz.prog 140 #[.slice ao n c, .func (.func k) #[] caps] w fun e w' => ∃ v us, e = .returned v /\ plain us = outs out n /\ TO w' w.heap.size v us /\ OB o w w' /\ I n w' := by
 obtain ⟨i0, hi, hz0, hz1, hz2⟩ := info_parts infoT;have hl := hr.len;have HR := hd_ hr;have HG0 := hd_ hg0;have HG1 := hd_ hg1;have HB0 := hd_ hb0;have HI := hd_ hI;have H0 := hd_ h0;have HSS := hd_ HS;clear hr hg0 hg1 hb0 hI h0 HS;go_enter Tryz.func140, Tryz.ntmps140
 go_wp2
 go_loopw [5, 12] (fun ov iv wr => ∃ (j : Nat) (us : List Tg) (lv : Value), j <= n /\ iv = .int .i64 j /\ lv = ov /\ plain us = outs out j /\ TO wr w.heap.size lv us /\ OB o w wr /\ I j wr) (fun _ iv _ => n - (intOf iv).toNat)
 case atStart => exact ⟨0, [], _, Nat.zero_le _, rfl, rfl, rfl, TO.nil _ _, OB.refl _ _, H0.out⟩
 case round =>
  obtain ⟨j, us, lv, hj, rfl, rfl, hus, hto, hob, hij⟩ := hrel;have HUS := hd_ hus;have HTO := hd_ hto;have HOB := hd_ hob;have HIJ := hd_ hij;have HB := hd_ (hob.below HG0.out HB0.out);have HBN := hd_ hob.size;clear hus hto hob hij
  by_cases hlt : j < n
  · obtain ⟨b, off, rfl, hbl, hc⟩ := (HR.out.below HB.out).cells (by omega);obtain ⟨hc0, hc1⟩ := hc j (by omega);have HV := hd_ (HR.out.val j (by omega));obtain ⟨A, L, C, hv, hL, hLC, hCm⟩ := HV.out.sl;rw [hv] at hc1;have HE := hd_ hv;obtain ⟨T, hT⟩ : ∃ T, T = ts[j].typ := ⟨_, rfl⟩;rw [<- hT] at hc0;have HTT := hd_ hT;have HBA : Hid (Gr wr (wr.alloc (.cells #[.int .i64 T, .slice A L C] 69))) := (Gr.refl wr).alloc _;have HBS : Hid (Bs w0 (.slice A L C) ts[j].l) := by show Bs _ _ _; rw [<- hv]; exact HV.out
    have CA := hd_ (HSS.out j (by omega) T A L C (wr.alloc (.cells #[.int .i64 T, .slice A L C] 69)) HTT.out HE.out (HBS.out.below (HB.out.trans (Below.mono HBA.out HB.out.size))) (HB.out.trans (Below.mono HBA.out HB.out.size)) (Nat.le_trans HBN.out HBA.out.size) (HI.out _ _ _ HIJ.out (Below.mono HBA.out HBN.out)));have HOB1 : Hid (OB o w (wr.alloc (.cells #[.int .i64 T, .slice A L C] 69))) := HOB.out.after HG1.out (Below.mono HBA.out HBN.out);have HTO1 : Hid (TO (wr.alloc (.cells #[.int .i64 T, .slice A L C] 69)) w.heap.size lv us) := HTO.out.below HBA.out;clear hv hL hT hc hLC hCm;go_wp2_with fail
    refine CA.out.mono ?_;rintro e w2 ⟨⟨U, A2, L2, C2, q, l, rfl, hout, hq⟩, hob2, hi2⟩;have HOB2 := hd_ (HOB1.out.trans hob2);have HTO2 := hd_ (hob2.to HG1.out HTO1.out);have HI2 := hd_ hi2;have HOUT := hd_ hout;have HQ := hd_ hq;have HBC : Hid (Gr w2 (w2.alloc (.cells #[.int .i64 U, .slice A2 L2 C2] 69))) := (Gr.refl w2).alloc _;have HBN2 := hd_ HOB2.out.size;have HGC : Hid ((w2.alloc (.cells #[.int .i64 U, .slice A2 L2 C2] 69)).heap[w2.heap.size]? = some (.cells #[.int .i64 U, .slice A2 L2 C2] 69)) := heap_alloc_last _ _;have HOB3 : Hid (OB o w (w2.alloc (.cells #[.int .i64 U, .slice A2 L2 C2] 69))) := HOB2.out.after HG1.out (Below.mono HBC.out HBN2.out);have HTO3 : Hid (TO (w2.alloc (.cells #[.int .i64 U, .slice A2 L2 C2] 69)) w.heap.size lv us) := HTO2.out.below HBC.out;have HI3 := hd_ (HI.out _ _ _ HI2.out (Below.mono HBC.out HBN2.out));clear hob2 hi2 hout hq hc0 hc1 CA;cases q with
    | false =>
     go_wp2
     go_roundw
     case rel =>
      have HU : plain us = outs out (j + 1) := by rw [outs_succ, HOUT.out, HUS.out]; simp
      first | exact ⟨j + 1, us, _, by omega, by go_num, rfl, HU, HTO3.out, HOB3.out, HI3.out⟩ | ((repeat apply Exists.intro); exact ⟨⟨j + 1, us, _, by omega, by go_num, rfl, HU, HTO3.out, HOB3.out, HI3.out⟩, rfl⟩)
     case measure => simp [intOf]; omega
    | true =>
     obtain ⟨hl2, hL2, hbs⟩ := HQ.out rfl;have CL : Hid (∀ w', Gr (w2.alloc (.cells #[.int .i64 U, .slice A2 L2 C2] 69)) w' -> Calls Tryz.prog 77 #[.slice A2 L2 C2] w' fun e w3 => ∃ v, e = .returned v /\ OwnB w3 w'.heap.size 5 v l /\ Below w'.heap.size w' w3) := fun w' hw' =>
      clone_any w' A2 L2 C2 l hl2 (hbs.below (HBC.out.trans hw')) (by omega)
     clear hl2 hL2 hbs;go_upto_region 7 with fail
     obtain ⟨wq, hwq⟩ : ∃ wq, wq = w2.alloc (.cells #[.int .i64 U, .slice A2 L2 C2] 69) := ⟨_, rfl⟩;rw [<- hwq];rw [<- hwq] at HGC HOB3 HTO3 HI3 CL;have HQN := hd_ HOB3.out.size;clear hwq;have hus : us.length <= 1000 := by
      have h1 := outs_length out j;rw [<- HUS.out, plain_length] at h1;omega
     refine wp_region_G 8 Gr (by kernel_rfl) ?_;refine wpG_u preGr 0 (some 23) ?_;refine wpG_u preGr 1 (some 24) ?_;refine wpG_u preGr 2 (some 25) ?_ (hy := fun w' hw' => by
      try have g0 := (copy_cells (heap_gr ((Gr.drew wq).trans hw') HGC.out)).1
      try have g1 := (copy_cells (heap_gr ((Gr.drew wq).trans hw') HGC.out)).2
      go_simp;with_reducible rfl)
     refine wpG_u preGr 3 (some 26) ?_;refine wpG_u preGr 4 (some 27) ?_ (hy := fun w' hw' => by
      try have g0 := (copy_cells (heap_gr ((Gr.drew wq).trans hw') HGC.out)).1
      try have g1 := (copy_cells (heap_gr ((Gr.drew wq).trans hw') HGC.out)).2
      go_simp;with_reducible rfl)
     refine wpG_one (i := 5) rfl (by kernel_rfl) (by rfl) ?_;go_simp;refine (CL.out _ (Gr.drew _)).mono ?_;rintro e w3 ⟨v3, rfl, hown3, hb3⟩;obtain ⟨A3, L3, C3, ev, hL3, _, _⟩ := hown3.bs.sl;subst ev;refine ⟨hb3, ?_⟩;have hq3 : Gr wq w3 := (Gr.drew wq).trans hb3;have HOB4 : Hid (OB o w w3) := HOB3.out.after HG1.out (Below.mono hq3 HQN.out);have HTO4 : Hid (TO w3 w.heap.size lv us) := HTO3.out.below hq3;have HI4 := hd_ (HI.out _ _ _ HI3.out (Below.mono hq3 HQN.out));have HO4 := hd_ (hown3.mono (base' := w.heap.size) HQN.out);have HN4 := hd_ HOB4.out.size;clear hown3 hb3 hq3 hL3;try simp only [Act.put, aq1, aq2, aq3]
     refine wpG_u preGr 6 (some 29) ?_ (hy := fun w' hw' => by
      refine Eq.trans (build_run (P := Tryz.prog) 69 [(0, .tmp 25), (1, .tmp 28)] ?_ #[.int .i64 U, .slice A3 L3 C3] ?_) ?_
      · rfl
      · exact builtT U A3 L3 C3
      · with_reducible rfl)
     refine wpG_one (i := 7) rfl (by kernel_rfl) (by rfl) ?_;go_simp;refine ⟨(Gr.refl _).alloc _, ?_⟩;have hal : Gr w3 (w3.alloc (.cells #[.int .i64 U, .slice A3 L3 C3] 69)) := (Gr.refl _).alloc _;have HOB5 : Hid (OB o w (w3.alloc (.cells #[.int .i64 U, .slice A3 L3 C3] 69))) := HOB4.out.after HG1.out (Below.mono hal HN4.out);have HTO5 : Hid (TO (w3.alloc (.cells #[.int .i64 U, .slice A3 L3 C3] 69)) w.heap.size lv us) := HTO4.out.below hal;have HI5 := hd_ (HI.out _ _ _ HI4.out (Below.mono hal HN4.out));have HO5 := hd_ (HO4.out.below hal);have HN5 := hd_ HOB5.out.size;have HRD := hd_ (rd_new w3 [.int .i64 U, .slice A3 L3 C3] 69 1 2 rfl (by decide));clear hal;try simp only [Act.put, aq1, aq2, aq3]
     refine wpG_tail (i := 8) (by decide) rfl (by kernel_rfl) (by rfl) ?_;refine wp_append_gr _ (some 31) (.tmp 23) (.tmp 30) 26 rfl w.heap.size 69 i0 _ 2 32 Tryz.underlying26 hi hz0 hz1 hz2 rfl (by decide) _ _ _ rfl HTO5.out.own _ 1 _ rfl HRD.out (one_tag U rfl) (by omega) (by decide) HN5.out rfl ?_;intro v' wo ho' hg';have HTO6 : Hid (TO wo w.heap.size v' (us ++ [⟨U, .slice A3 L3 C3, l⟩])) := HTO5.out.more HO5.out ho' hg';have hgb := grown_below HTO5.out.own HN5.out hg';have HOB6 := hd_ (HOB5.out.after HG1.out hgb);have HI6 := hd_ (HI.out _ _ _ HI5.out hgb);clear ho' hg' hgb;try simp only [Act.put, aq1, aq2, aq3]
     refine wpG_tail (i := 9) (by decide) rfl (by kernel_rfl) (by rfl) ?_;go_simp;try simp only [Act.put, aq1, aq2, aq3]
     refine wpG_done (by kernel_rfl) ?_ _;go_wp2
     go_roundw
     case rel =>
      have HU : plain (us ++ [(⟨U, .slice A3 L3 C3, l⟩ : Tg)]) = outs out (j + 1) := by rw [outs_succ, HOUT.out, plain_append, HUS.out]; rfl
      first | exact ⟨j + 1, _, _, by omega, by go_num, rfl, HU, HTO6.out, HOB6.out, HI6.out⟩ | ((repeat apply Exists.intro); exact ⟨⟨j + 1, _, _, by omega, by go_num, rfl, HU, HTO6.out, HOB6.out, HI6.out⟩, rfl⟩)
     case measure => simp [intOf]; omega
  · obtain rfl : j = n := by omega
    obtain ⟨a', c', ev, _, _⟩ := HTO.out.tr.shape;subst ev;go_wp2
    go_ret
    exact ⟨_, us, rfl, HUS.out, HTO.out, HOB.out, HIJ.out⟩
end Go.Proofs.YtclplbapedmihaaGreat.Ng
namespace Go.Proofs.YtclplbapedmihaaGreat.Ng
set_option maxRecDepth 4000
open Go.RowKit O
set_option linter.unusedVariables false
set_option linter.unusedSimpArgs false
theorem plain_nil_iff {ts : List Tg} : plain ts = [] ↔ ts.length = 0 := by
 rw [<- List.length_eq_zero_iff, plain_length]
def scanL (f : List PT -> PT -> Option PT) : List PT -> List PT -> List PT
 | _, [] => []
 | seen, o :: l => (f seen o).toList ++ scanL f (seen ++ [o]) l
theorem scanL_snoc (f : List PT -> PT -> Option PT) : ∀ (l seen : List PT) (o : PT), scanL f seen (l ++ [o]) = scanL f seen l ++ (f (seen ++ l) o).toList
 | [], seen, o => by simp [scanL]
 | x :: l, seen, o => by
  rw [List.cons_append, scanL, scanL, scanL_snoc f l, List.append_assoc, List.append_assoc];rfl
def outAt (l : List PT) (f : List PT -> PT -> Option PT) (j : Nat) : Option PT := l[j]?.bind (f (l.take j))
theorem outAt_get {ts : List Tg} (f : List PT -> PT -> Option PT) (j : Nat) (h : j < ts.length) : outAt (plain ts) f j = f ((plain ts).take j) (ts[j].typ, ts[j].l) := by
 unfold outAt;rw [List.getElem?_eq_getElem (by rw [plain_length]; exact h), plain_get _ _ h];rfl
theorem outs_scan (l : List PT) (f : List PT -> PT -> Option PT) : ∀ k, k <= l.length -> outs (outAt l f) k = scanL f [] (l.take k)
 | 0, _ => by rw [outs_zero]; rfl
 | k + 1, h => by
  rw [outs_succ, outs_scan l f k (by omega), List.take_succ_eq_append_getElem h, scanL_snoc];unfold outAt;rw [List.getElem?_eq_getElem h];rfl
theorem outs_all (l : List PT) (f : List PT -> PT -> Option PT) {n : Nat} (h : l.length = n) : outs (outAt l f) n = scanL f [] l := by
 rw [outs_scan l f n (by omega), List.take_of_length_le (by omega)]
theorem scanL_plain (f : PT -> Option PT) : ∀ (l seen : List PT), scanL (fun _ => f) seen l = l.filterMap f
 | [], _ => rfl
 | o :: l, seen => by
  rw [scanL, scanL_plain f l, List.filterMap_cons];cases f o <;> rfl
def refd (rs : List Ru) (o : PT) : Option PT := match ruleOf rs o with
 | none => none
 | some r => if takes r (num o) then none else some o
def mendd (rs : List Ru) (o : PT) : Option PT := (ruleOf rs o).map goodO
theorem bads_eq {rs : List Ru} : ∀ {l seen : List PT}, rejs rs seen l = [] -> (bads rs seen l).map (·.1) = l.filterMap (refd rs) /\ (bads rs seen l).map (·.2) = (l.filterMap (refd rs)).filterMap (mendd rs)
 | [], _, _ => ⟨rfl, rfl⟩
 | o :: l, seen, h => by
  have h0 := (rejs_nil h).1 o (by simp);unfold rejs at h;obtain ⟨_, h2⟩ := List.append_eq_nil_iff.1 h;have ih := bads_eq h2;obtain ⟨r, hr⟩ := Option.isSome_iff_exists.1 h0.1;have e1 : refd rs o = if takes r (num o) then none else some o := by unfold refd; rw [hr]
  have e2 : mendd rs o = some (goodO r) := by unfold mendd; rw [hr]; rfl
  unfold bads;rw [List.filterMap_cons];cases ht : takes r (num o) with
  | true => simp [hr, h0.2, ht, e1, ih.1, ih.2]
  | false => simp [hr, h0.2, ht, e1, e2, ih.1, ih.2]
theorem ruleOf_hit {rs : List Ru} {o : PT} {r : Ru} (ha : areR rs) (k : Nat) (hk : k < rs.length) (hr : r = rs[k]) (ht : r.typ = o.1) : ruleOf rs o = if r.size = (o.2.length : Int) then some r else none := by
 have hm : r ∈ rs := by rw [hr]; exact List.getElem_mem hk
 split
 · rename_i hs
   cases hf : ruleOf rs o with
   | none =>
    have := List.find?_eq_none.1 hf r hm;simp [fits, ht, hs] at this
   | some q =>
    have hq := ruleOf_some hf;exact congrArg some (rule_only ha.2.2 hq.1 hm (hq.2.1.trans ht.symm))
 · rename_i hs
   cases hf : ruleOf rs o with
   | none => rfl
   | some q =>
    have hq := ruleOf_some hf;have e := rule_only ha.2.2 hq.1 hm (hq.2.1.trans ht.symm);rw [<- e] at hs;exact (hs hq.2.2).elim
theorem ruleOf_miss {rs : List Ru} {o : PT} (h : ∀ j (hj : j < rs.length), rs[j].typ ≠ o.1) : ruleOf rs o = none := by
 refine List.find?_eq_none.2 fun r hr => ?_
 obtain ⟨i, hi, rfl⟩ := List.mem_iff_getElem.1 hr;simp [fits, h i hi]
theorem isR_kind {r : Ru} (h : isR r) : 1 <= r.kind /\ r.kind <= 4 := Classical.byContradiction fun hk => isR_no1 hk h
theorem isR_small {r : Ru} (h : isR r) : 0 <= r.size /\ r.size <= 4 := ⟨h.2.2.1, h.2.2.2.1⟩
theorem areR_at {rs : List Ru} (ha : areR rs) (k : Nat) (hk : k < rs.length) : isR rs[k] := ha.2.1 _ (List.getElem_mem hk)
set_option maxRecDepth 20000 in
set_option maxHeartbeats 2000000 in
theorem copies1_any (T : Int) (A : Option Addr) (L C : Nat) (l : List UInt8) (hl : l.length = L) (hL : L <= 1000) (w : World) (hb : Bs w (.slice A L C) l) :
 Calls Tryz.prog 147 #[.agg #[.int .i64 T, .slice A L C]] w fun e w' => Tells (some (T, l)) w' e /\ OB none w w' := by
 have hal : Gr w ((w.alloc (.cells #[.int .i64 T, .slice A L C] 69)).alloc (.cells #[.int .i64 0, .slice none 0 0] 69)) := ((Gr.refl w).alloc _).alloc _;have HAL := hd_ hal;have hg0 : ((w.alloc (.cells #[.int .i64 T, .slice A L C] 69)).alloc (.cells #[.int .i64 0, .slice none 0 0] 69)).heap[w.heap.size]? = some (.cells #[.int .i64 T, .slice A L C] 69) := heap2_0' _ _ _;have HG1 : Hid (((w.alloc (.cells #[.int .i64 T, .slice A L C] 69)).alloc (.cells #[.int .i64 0, .slice none 0 0] 69)).heap[w.heap.size + 1]? = some (.cells #[.int .i64 0, .slice none 0 0] 69)) := heap2_1' _ _ _;obtain ⟨k0, k1⟩ := copy_cells hg0;have HB := hd_ hb;clear hal hg0 hb;go_enter Tryz.func147, Tryz.ntmps147
 go_wp2_with (refine wpList_store_whole rfl 69 (.tmp 2) (.tmp 4) rfl (w.heap.size + 1) [.int .i64 T, .slice A L C] rfl rfl 69 [.int .i64 0, .slice none 0 0] HG1.out O.sizeT rfl (O.one_tag _ rfl) ?_)
 intro w3 h3 ho3;have H3 := hd_ h3;have HB3 : Hid (Below w.heap.size w w3) := ho3.below _ _ (Nat.le_succ _) HAL.out;clear h3 ho3;go_wp2
 refine bodyPost_ret (v := .tuple #[.agg #[.int .i64 T, .slice A L C], .bool true]) (results_cell_tmp_row (P := Tryz.prog) (fn := Tryz.f147) rfl _ _ (w.heap.size + 1) 69 _ (0, 0) _ rfl H3.out Tryz.underlying69 rfl (by kernel_rfl)) rfl ?_;exact ⟨⟨T, A, L, C, true, l, rfl, rfl, fun _ => ⟨hl, hL, HB.out.below HB3.out⟩⟩, HB3.out⟩
theorem copies_any (ao : Option Addr) (n c : Nat) (ts : List Tg) (w : World) (hr : TR w (.slice ao n c) n ts) (hn : n <= 1000) (hm : ∀ x ∈ ts, x.l.length <= 1000) :
 Calls Tryz.prog 110 #[.slice ao n c] w fun e w' => ∃ v us, e = .returned v /\ plain us = plain ts /\ TO w' w.heap.size v us /\ Below w.heap.size w w' := by
 have hl := hr.len;have WK := hd_ (walk_any w w none (fun _ h => by cases h) (fun _ h => by cases h) (Below.refl _ _) ao n c ts hr hn 147 #[] (fun _ _ => rfl) (fun _ _ => True) (fun _ _ _ _ _ => trivial) trivial (outAt (plain ts) fun _ => some)
  (fun j hj T A L C wr hT hv hbs hbw hsz _ => by
   have hL : ts[j].l.length = L := by
    obtain ⟨_, _, es, _⟩ := hbs.shape;simp only [Value.slice.injEq] at es;exact es.2.1.symm
   have := hm ts[j] (List.getElem_mem hj);refine (copies1_any T A L C ts[j].l hL (by omega) wr hbs).mono ?_;rintro e w' ⟨h1, h2⟩;refine ⟨?_, h2, trivial⟩;rw [outAt_get _ j hj, <- hT];exact h1))
 have HE : Hid (outs (outAt (plain ts) fun _ => some) n = plain ts) := by
  show _ = _;rw [outs_all _ _ (by rw [plain_length]; exact hl), scanL_plain];simp
 clear hr;go_enter Tryz.func110, Tryz.ntmps110
 go_wp2_with fail
 refine WK.out.mono ?_;rintro e w2 ⟨v, us, rfl, h1, h2, h3, _⟩;rw [HE.out] at h1;have H1 := hd_ h1;have H2 := hd_ h2;have H3 := hd_ h3;clear h1 h2 h3;go_wp2
 go_ret
 exact ⟨v, us, rfl, H1.out, H2.out, H3.out⟩
set_option maxRecDepth 20000 in
set_option maxHeartbeats 2000000 in
theorem refused1_any (ra : Option Addr) (rn rc : Nat) (rs : List Ru) (ha : areR rs) (gr : Nat) (T : Int) (A : Option Addr) (L C : Nat) (l : List UInt8) (hl : l.length = L) (hL : L <= 1000) (w : World) (hb : Bs w (.slice A L C) l)
 (hr : RR w (.slice ra rn rc) rn rs) (hg : w.heap[gr]? = some (.cells #[.slice ra rn rc] 135)) (hf : (ruleOf rs (T, l)).isSome = true) :
 Calls Tryz.prog 142 #[.agg #[.int .i64 T, .slice A L C], .pointer (some ⟨gr, 0, none⟩)] w fun e w' => Tells (refd rs (T, l)) w' e /\ OB none w w' := by
 have hal : Gr w ((w.alloc (.cells #[.int .i64 T, .slice A L C] 69)).alloc (.cells #[.int .i64 0, .slice none 0 0] 69)) := ((Gr.refl w).alloc _).alloc _;have HAL := hd_ hal;have HG0 : Hid (((w.alloc (.cells #[.int .i64 T, .slice A L C] 69)).alloc (.cells #[.int .i64 0, .slice none 0 0] 69)).heap[w.heap.size]? = some (.cells #[.int .i64 T, .slice A L C] 69)) := heap2_0' _ _ _;have HG1 : Hid (((w.alloc (.cells #[.int .i64 T, .slice A L C] 69)).alloc (.cells #[.int .i64 0, .slice none 0 0] 69)).heap[w.heap.size + 1]? = some (.cells #[.int .i64 0, .slice none 0 0] 69)) := heap2_1' _ _ _;obtain ⟨k0, k1⟩ := copy_cells HG0.out;have kr := cell1 (heap_gr hal hg);have HB := hd_ hb;have HF := hd_ hf;have HA := hd_ ha;have OF := hd_ (of_any ra rn rc rs T ((w.alloc (.cells #[.int .i64 T, .slice A L C] 69)).alloc (.cells #[.int .i64 0, .slice none 0 0] 69)) (hr.below hal));clear hal hb hr hg hf ha;go_enter Tryz.func142, Tryz.ntmps142
 go_wp2_with fail
 refine OF.out.mono ?_;rintro e w2 ⟨(⟨k, hk, r, rfl, hrk, hrt, _⟩ | ⟨rfl, hno⟩), hb2⟩
 · have HRU := hd_ (ruleOf_hit (o := (T, l)) HA.out k hk hrk hrt);have HIS : Hid (isR r) := by show isR r; rw [hrk]; exact areR_at HA.out k hk
   have HSZ : Hid (r.size = (L : Int)) := by
    show _ = _;have h1 := HF.out;rw [HRU.out] at h1;split at h1
    · rename_i h; rw [h]; exact congrArg Int.ofNat hl
    · cases h1
   have hL4 : L <= 4 := by have := (isR_small HIS.out).2; rw [HSZ.out] at this; omega
   have HG2 := hd_ (heap_below HG0.out hb2);have HG3 := hd_ (heap_below HG1.out hb2);have HB2 : Hid (Gr w w2) := HAL.out.trans hb2;have HGX : Hid ((w2.alloc (.cells #[.int .i64 r.typ, .int .i64 r.size, .int .i64 r.kind, .int .i64 r.low, .int .i64 r.high, .int .i64 r.good, .bool r.must] 146)).heap[w2.heap.size]? = some (.cells #[.int .i64 r.typ, .int .i64 r.size, .int .i64 r.kind, .int .i64 r.low, .int .i64 r.high, .int .i64 r.good, .bool r.must] 146)) := heap_alloc_last _ _;have hal2 : Gr w2 (w2.alloc (.cells #[.int .i64 r.typ, .int .i64 r.size, .int .i64 r.kind, .int .i64 r.low, .int .i64 r.high, .int .i64 r.good, .bool r.must] 146)) := (Gr.refl _).alloc _;have HG4 := hd_ (heap_gr hal2 HG2.out);have HG5 := hd_ (heap_gr hal2 HG3.out);have HB4 : Hid (Gr w (w2.alloc (.cells #[.int .i64 r.typ, .int .i64 r.size, .int .i64 r.kind, .int .i64 r.low, .int .i64 r.high, .int .i64 r.good, .bool r.must] 146))) := HB2.out.trans hal2;clear hb2 OF hrk k0 k1 kr HG2 HG3 HB2 HG0 HG1 HAL hal2 hrt;go_upto_region 2 with fail
   obtain ⟨wq, hwq⟩ : ∃ wq, wq = w2.alloc (.cells #[.int .i64 r.typ, .int .i64 r.size, .int .i64 r.kind, .int .i64 r.low, .int .i64 r.high, .int .i64 r.good, .bool r.must] 146) := ⟨_, rfl⟩;rw [<- hwq];rw [<- hwq] at HGX HG4 HG5 HB4;clear hwq;have TK := hd_ (takes_any r T A L C l hl wq.drew ((HB.out.below HB4.out).below (Gr.drew wq)) (isR_kind HIS.out) HSZ.out hL4);obtain ⟨b, hbb⟩ : ∃ b, b = takes r (num (T, l)) := ⟨_, rfl⟩;rw [<- hbb] at TK;have HOUT : Hid (refd rs (T, l) = if !b then some (T, l) else none) := by
    show _ = _;unfold refd;rw [HRU.out, if_pos (by rw [HSZ.out]; exact (congrArg Int.ofNat hl).symm), hbb];show (if takes r (num (T, l)) = true then none else some (T, l)) = _;cases takes r (num (T, l)) <;> rfl
   clear hbb;refine wp_region_H 5 Gr Any (by kernel_rfl) ?_;refine wpH_u preGr preAny 0 (some 14) ?_ (hy := fun w' hw' => by
    try have g0 := (copy_cells (heap_gr ((Gr.drew wq).trans hw') HG4.out)).1
    try have g1 := (copy_cells (heap_gr ((Gr.drew wq).trans hw') HG4.out)).2
    try (have gx := cells7 (heap_gr ((Gr.drew wq).trans hw') HGX.out); obtain ⟨x0, x1, x2, x3, x4, x5, x6⟩ := gx)
    go_simp;with_reducible rfl)
   refine wpH_u preGr preAny 1 (some 15) ?_ (hy := fun w' hw' => by
    try have g0 := (copy_cells (heap_gr ((Gr.drew wq).trans hw') HG4.out)).1
    try have g1 := (copy_cells (heap_gr ((Gr.drew wq).trans hw') HG4.out)).2
    try (have gx := cells7 (heap_gr ((Gr.drew wq).trans hw') HGX.out); obtain ⟨x0, x1, x2, x3, x4, x5, x6⟩ := gx)
    go_simp;with_reducible rfl)
   refine wpH_u preGr preAny 2 (some 16) ?_ (hy := fun w' hw' => by
    try have g0 := (copy_cells (heap_gr ((Gr.drew wq).trans hw') HG4.out)).1
    try have g1 := (copy_cells (heap_gr ((Gr.drew wq).trans hw') HG4.out)).2
    try (have gx := cells7 (heap_gr ((Gr.drew wq).trans hw') HGX.out); obtain ⟨x0, x1, x2, x3, x4, x5, x6⟩ := gx)
    go_simp;with_reducible rfl)
   refine wpH_one (i := 3) rfl (by kernel_rfl) (by rfl) ?_;go_simp;refine TK.out.mono ?_;rintro e w3 ⟨rfl, hb3⟩;refine ⟨hb3, trivial, ?_⟩;have hq3 : Gr wq w3 := (Gr.drew wq).trans hb3;have HG6 := hd_ (heap_gr hq3 HG5.out);have HB6 := hd_ (HB4.out.trans hq3);clear hb3 hq3;try simp only [Act.put, aq1, aq2, aq3]
   refine wpH_uH preGr preAny 4 (some 18) ?_;refine wpH_tail (i := 5) (by decide) rfl (by kernel_rfl) (by rfl) ?_;refine wp_store_whole (none) 69 (.tmp 3) (.tmp 14) rfl (w.heap.size + 1) [.int .i64 T, .slice A L C] rfl rfl 69 [.int .i64 0, .slice none 0 0] HG6.out O.sizeT rfl (O.one_tag _ rfl) rfl ?_;intro w4 h4 ho4;have H4 := hd_ h4;have HB5 : Hid (Below w.heap.size w w4) := ho4.below _ _ (Nat.le_succ _) HB6.out;clear h4 ho4;refine ⟨trivial, ?_⟩;try simp only [Act.put, aq1, aq2, aq3]
   refine wpH_tail (i := 6) (by decide) rfl (by kernel_rfl) (by rfl) ?_;go_simp;refine ⟨(pre_refl preAny _), ?_⟩;try simp only [Act.put, aq1, aq2, aq3]
   refine wpH_done (by kernel_rfl) ?_ _;go_wp2
   refine bodyPost_ret (v := .tuple #[.agg #[.int .i64 T, .slice A L C], .bool (!b)]) (results_cell_tmp_row (P := Tryz.prog) (fn := Tryz.f142) rfl _ _ (w.heap.size + 1) 69 _ (0, 0) _ rfl H4.out Tryz.underlying69 rfl (by kernel_rfl)) rfl ?_;exact ⟨⟨T, A, L, C, !b, l, rfl, HOUT.out, fun _ => ⟨hl, hL, HB.out.below HB5.out⟩⟩, HB5.out⟩
 · have := HF.out;rw [ruleOf_miss hno] at this;cases this
theorem refused_any (ra : Option Addr) (rn rc : Nat) (rs : List Ru) (ha : areR rs) (ao : Option Addr) (n c : Nat) (ts : List Tg) (w : World) (hrr : RR w (.slice ra rn rc) rn rs) (hr : TR w (.slice ao n c) n ts) (hn : n <= 1000) (hm : ∀ x ∈ ts, x.l.length <= 1000)
 (hf : ∀ x ∈ ts, (ruleOf rs (x.typ, x.l)).isSome = true) :
 Calls Tryz.prog 108 #[.slice ra rn rc, .slice ao n c] w fun e w' => ∃ v us, e = .returned v /\ plain us = (plain ts).filterMap (refd rs) /\ TO w' w.heap.size v us /\ Below w.heap.size w w' := by
 have hl := hr.len;have hal : Below w.heap.size w (w.alloc (.cells #[.slice ra rn rc] 135)) := (Below.refl _ _).alloc (Nat.le_refl _) _;have hg : (w.alloc (.cells #[.slice ra rn rc] 135)).heap[w.heap.size]? = some (.cells #[.slice ra rn rc] 135) := heap_alloc_last _ _;have hsz : (w.alloc (.cells #[.slice ra rn rc] 135)).heap.size = w.heap.size + 1 := World.size_alloc _ _;have WK := hd_ (walk_any w (w.alloc (.cells #[.slice ra rn rc] 135)) none (fun _ h => by cases h) (fun _ h => by cases h) hal ao n c ts hr hn 142 #[.pointer (some ⟨w.heap.size, 0, none⟩)] (fun _ _ => rfl)
  (fun _ w1 => w1.heap[w.heap.size]? = some (.cells #[.slice ra rn rc] 135)) (fun _ w1 w2 h hb => by rw [hb.block _ (by rw [hsz]; omega)]; exact h) hg (outAt (plain ts) fun _ => refd rs)
  (fun j hj T A L C wr hT hv hbs hbw hsz' hI => by
   have hL : ts[j].l.length = L := by
    obtain ⟨_, _, es, _⟩ := hbs.shape;simp only [Value.slice.injEq] at es;exact es.2.1.symm
   have := hm ts[j] (List.getElem_mem hj);have hfj := hf ts[j] (List.getElem_mem hj);rw [<- hT] at hfj;refine (refused1_any ra rn rc rs ha w.heap.size T A L C ts[j].l hL (by omega) wr hbs (hrr.below hbw) hI hfj).mono ?_;rintro e w' ⟨h1, h2⟩;refine ⟨?_, h2, ?_⟩
   · rw [outAt_get _ j hj, <- hT];exact h1
   · exact heap_below hI h2))
 have HE : Hid (outs (outAt (plain ts) fun _ => refd rs) n = (plain ts).filterMap (refd rs)) := by
  show _ = _;rw [outs_all _ _ (by rw [plain_length]; exact hl), scanL_plain]
 have HAL := hd_ hal;have HSZ : Hid (w.heap.size <= (w.alloc (.cells #[.slice ra rn rc] 135)).heap.size) := hal.size;clear hr hal hg hsz hrr hf hm;go_enter Tryz.func108, Tryz.ntmps108
 go_wp2_with fail
 refine WK.out.mono ?_;rintro e w2 ⟨v, us, rfl, h1, h2, h3, _⟩;rw [HE.out] at h1;have H1 := hd_ h1;have H2 := hd_ (h2.mono HSZ.out);have H3 : Hid (Below w.heap.size w w2) := HAL.out.trans (Below.mono h3 HSZ.out);clear h1 h2 h3;go_wp2
 go_ret
 exact ⟨v, us, rfl, H1.out, H2.out, H3.out⟩
set_option maxRecDepth 20000 in
set_option maxHeartbeats 2000000 in
theorem mended1_any (ra : Option Addr) (rn rc : Nat) (rs : List Ru) (ha : areR rs) (gr : Nat) (T : Int) (A : Option Addr) (L C : Nat) (l : List UInt8) (hl : l.length = L) (hL : L <= 1000) (w : World) (hb : Bs w (.slice A L C) l)
 (hr : RR w (.slice ra rn rc) rn rs) (hg : w.heap[gr]? = some (.cells #[.slice ra rn rc] 135)) (hf : (ruleOf rs (T, l)).isSome = true) :
 Calls Tryz.prog 148 #[.agg #[.int .i64 T, .slice A L C], .pointer (some ⟨gr, 0, none⟩)] w fun e w' => Tells (mendd rs (T, l)) w' e /\ OB none w w' := by
 have hal : Gr w ((w.alloc (.cells #[.int .i64 T, .slice A L C] 69)).alloc (.cells #[.int .i64 0, .slice none 0 0] 69)) := ((Gr.refl w).alloc _).alloc _;have HAL := hd_ hal;have HG0 : Hid (((w.alloc (.cells #[.int .i64 T, .slice A L C] 69)).alloc (.cells #[.int .i64 0, .slice none 0 0] 69)).heap[w.heap.size]? = some (.cells #[.int .i64 T, .slice A L C] 69)) := heap2_0' _ _ _;have HG1 : Hid (((w.alloc (.cells #[.int .i64 T, .slice A L C] 69)).alloc (.cells #[.int .i64 0, .slice none 0 0] 69)).heap[w.heap.size + 1]? = some (.cells #[.int .i64 0, .slice none 0 0] 69)) := heap2_1' _ _ _;obtain ⟨k0, k1⟩ := copy_cells HG0.out;have kr := cell1 (heap_gr hal hg);have HF := hd_ hf;have HA := hd_ ha;have OF := hd_ (of_any ra rn rc rs T ((w.alloc (.cells #[.int .i64 T, .slice A L C] 69)).alloc (.cells #[.int .i64 0, .slice none 0 0] 69)) (hr.below hal));clear hal hb hr hg hf ha;go_enter Tryz.func148, Tryz.ntmps148
 go_wp2_with fail
 refine OF.out.mono ?_;rintro e w2 ⟨(⟨k, hk, r, rfl, hrk, hrt, _⟩ | ⟨rfl, hno⟩), hb2⟩
 · have HRU := hd_ (ruleOf_hit (o := (T, l)) HA.out k hk hrk hrt);have HIS : Hid (isR r) := by show isR r; rw [hrk]; exact areR_at HA.out k hk
   have HOUT : Hid (mendd rs (T, l) = some (goodO r)) := by
    show _ = _;unfold mendd;have h1 := HF.out;rw [HRU.out] at h1 ⊢;split at h1
    · rename_i h; rw [if_pos h]; rfl
    · cases h1
   have HG3 := hd_ (heap_below HG1.out hb2);have HB2 : Hid (Gr w w2) := HAL.out.trans hb2;have hal2 : Gr w2 (w2.alloc (.cells #[.int .i64 r.typ, .int .i64 r.size, .int .i64 r.kind, .int .i64 r.low, .int .i64 r.high, .int .i64 r.good, .bool r.must] 146)) := (Gr.refl _).alloc _;have HG5 := hd_ (heap_gr hal2 HG3.out);have HB4 : Hid (Gr w (w2.alloc (.cells #[.int .i64 r.typ, .int .i64 r.size, .int .i64 r.kind, .int .i64 r.low, .int .i64 r.high, .int .i64 r.good, .bool r.must] 146))) := HB2.out.trans hal2;have GO := hd_ (good_any r (w2.alloc (.cells #[.int .i64 r.typ, .int .i64 r.size, .int .i64 r.kind, .int .i64 r.low, .int .i64 r.high, .int .i64 r.good, .bool r.must] 146)) HIS.out);have hx := heap_alloc_last w2 (.cells #[.int .i64 r.typ, .int .i64 r.size, .int .i64 r.kind, .int .i64 r.low, .int .i64 r.high, .int .i64 r.good, .bool r.must] 146);obtain ⟨x0, x1, x2, x3, x4, x5, x6⟩ := cells7 hx;clear hb2 OF hrk k0 k1 kr HG3 HB2 HG0 HG1 HAL hal2 hrt hx;go_wp2_with fail
   refine GO.out.mono ?_;rintro e w3 ⟨v, rfl, hown, hb3⟩;obtain ⟨A3, L3, C3, ev, hL3, _, _⟩ := hown.bs.sl;subst ev;have HO3 := hd_ (hown.mono (base' := w.heap.size) (Nat.le_trans HB4.out.size (Nat.le_refl _)));have HB5 : Hid (Gr w w3) := HB4.out.trans hb3;have HG6 := hd_ (heap_below HG5.out hb3);have HL3 := hd_ hL3;have hs4 : (goodO r).2.length <= 4 := by
    show (putL _ _).length <= 4;rw [putL_length];have := isR_small HIS.out;omega
   clear hown hb3 x0 x1 x2 x3 x4 x5 x6 hL3;go_wp2_with (refine wpList_store_whole rfl 69 (.tmp 3) (.tmp 15) rfl (w.heap.size + 1) [.int .i64 r.typ, .slice A3 L3 C3] rfl rfl 69 [.int .i64 0, .slice none 0 0] HG6.out O.sizeT rfl (O.one_tag _ rfl) ?_)
   intro w4 h4 ho4;have H4 := hd_ h4;have HB6 : Hid (Below w.heap.size w w4) := ho4.below _ _ (Nat.le_succ _) HB5.out;have HO4 := hd_ (HO3.out.off ho4 (fun q hq e => own_ne_cell HO3.out HG6.out (by decide) (by rw [hq, e])));clear h4 ho4;go_wp2
   refine bodyPost_ret (v := .tuple #[.agg #[.int .i64 r.typ, .slice A3 L3 C3], .bool true]) (results_cell_tmp_row (P := Tryz.prog) (fn := Tryz.f148) rfl _ _ (w.heap.size + 1) 69 _ (0, 0) _ rfl H4.out Tryz.underlying69 rfl (by kernel_rfl)) rfl ?_;exact ⟨⟨r.typ, A3, L3, C3, true, (goodO r).2, rfl, HOUT.out, fun _ => ⟨HL3.out, by rw [<- HL3.out]; omega, HO4.out.bs⟩⟩, HB6.out⟩
 · have := HF.out;rw [ruleOf_miss hno] at this;cases this
theorem mended_any (ra : Option Addr) (rn rc : Nat) (rs : List Ru) (ha : areR rs) (ao : Option Addr) (n c : Nat) (ts : List Tg) (w : World) (hrr : RR w (.slice ra rn rc) rn rs) (hr : TR w (.slice ao n c) n ts) (hn : n <= 1000) (hm : ∀ x ∈ ts, x.l.length <= 1000)
 (hf : ∀ x ∈ ts, (ruleOf rs (x.typ, x.l)).isSome = true) :
 Calls Tryz.prog 111 #[.slice ra rn rc, .slice ao n c] w fun e w' => ∃ v us, e = .returned v /\ plain us = (plain ts).filterMap (mendd rs) /\ TO w' w.heap.size v us /\ Below w.heap.size w w' := by
 have hl := hr.len;have hal : Below w.heap.size w (w.alloc (.cells #[.slice ra rn rc] 135)) := (Below.refl _ _).alloc (Nat.le_refl _) _;have hg : (w.alloc (.cells #[.slice ra rn rc] 135)).heap[w.heap.size]? = some (.cells #[.slice ra rn rc] 135) := heap_alloc_last _ _;have hsz : (w.alloc (.cells #[.slice ra rn rc] 135)).heap.size = w.heap.size + 1 := World.size_alloc _ _;have WK := hd_ (walk_any w (w.alloc (.cells #[.slice ra rn rc] 135)) none (fun _ h => by cases h) (fun _ h => by cases h) hal ao n c ts hr hn 148 #[.pointer (some ⟨w.heap.size, 0, none⟩)] (fun _ _ => rfl)
  (fun _ w1 => w1.heap[w.heap.size]? = some (.cells #[.slice ra rn rc] 135)) (fun _ w1 w2 h hb => by rw [hb.block _ (by rw [hsz]; omega)]; exact h) hg (outAt (plain ts) fun _ => mendd rs)
  (fun j hj T A L C wr hT hv hbs hbw hsz' hI => by
   have hL : ts[j].l.length = L := by
    obtain ⟨_, _, es, _⟩ := hbs.shape;simp only [Value.slice.injEq] at es;exact es.2.1.symm
   have := hm ts[j] (List.getElem_mem hj);have hfj := hf ts[j] (List.getElem_mem hj);rw [<- hT] at hfj;refine (mended1_any ra rn rc rs ha w.heap.size T A L C ts[j].l hL (by omega) wr hbs (hrr.below hbw) hI hfj).mono ?_;rintro e w' ⟨h1, h2⟩;refine ⟨?_, h2, ?_⟩
   · rw [outAt_get _ j hj, <- hT];exact h1
   · exact heap_below hI h2))
 have HE : Hid (outs (outAt (plain ts) fun _ => mendd rs) n = (plain ts).filterMap (mendd rs)) := by
  show _ = _;rw [outs_all _ _ (by rw [plain_length]; exact hl), scanL_plain]
 have HAL := hd_ hal;have HSZ : Hid (w.heap.size <= (w.alloc (.cells #[.slice ra rn rc] 135)).heap.size) := hal.size;clear hr hal hg hsz hrr hf hm;go_enter Tryz.func111, Tryz.ntmps111
 go_wp2_with fail
 refine WK.out.mono ?_;rintro e w2 ⟨v, us, rfl, h1, h2, h3, _⟩;rw [HE.out] at h1;have H1 := hd_ h1;have H2 := hd_ (h2.mono HSZ.out);have H3 : Hid (Below w.heap.size w w2) := HAL.out.trans (Below.mono h3 HSZ.out);clear h1 h2 h3;go_wp2
 go_ret
 exact ⟨v, us, rfl, H1.out, H2.out, H3.out⟩
def misf (rs : List Ru) (seen : List PT) (o : PT) : Option PT := if (ruleOf rs o).isNone || hasT seen o.1 then some o else none
theorem rejs_scan (rs : List Ru) : ∀ l seen, rejs rs seen l = scanL (misf rs) seen l
 | [], _ => rfl
 | o :: l, seen => by
  unfold rejs scanL;rw [rejs_scan rs l];unfold misf;split <;> rfl
def cameC (rs : List Ru) (seen : List PT) : List Value := (List.range 16).map fun i => .bool ((rs[i]?).any fun r => hasT seen r.typ)
theorem cameC_length (rs : List Ru) (seen : List PT) : (cameC rs seen).length = 16 := by simp [cameC]
theorem cameC_nil (rs : List Ru) : cameC rs [] = List.replicate 16 (.bool false) := by
 apply List.ext_getElem
 · simp [cameC]
 · intro i h1 h2;simp only [cameC, List.getElem_map, List.getElem_replicate, Value.bool.injEq];cases rs[(List.range 16)[i]'(by simpa [cameC] using h1)]? <;> rfl
theorem cameC_get (rs : List Ru) (seen : List PT) (i : Nat) (h : i < 16) : (cameC rs seen)[i]? = some (.bool ((rs[i]?).any fun r => hasT seen r.typ)) := by
 unfold cameC;rw [List.getElem?_map, List.getElem?_range h]; rfl
theorem hasT_snoc (seen : List PT) (o : PT) (t : Int) : hasT (seen ++ [o]) t = (hasT seen t || decide (o.1 = t)) := by simp [hasT]
theorem cameC_miss {rs : List Ru} {seen : List PT} {o : PT} (h : ∀ j (hj : j < rs.length), rs[j].typ ≠ o.1) : cameC rs (seen ++ [o]) = cameC rs seen := by
 apply List.ext_getElem?;intro i
 by_cases hi : i < 16
 · rw [cameC_get _ _ _ hi, cameC_get _ _ _ hi]
   by_cases hr : i < rs.length
   · rw [List.getElem?_eq_getElem hr];simp only [Option.any_some, hasT_snoc];rw [decide_eq_false (fun e => h i hr e.symm), Bool.or_false]
   · rw [List.getElem?_eq_none (by omega)]; rfl
 · rw [List.getElem?_eq_none (by rw [cameC_length]; omega), List.getElem?_eq_none (by rw [cameC_length]; omega)]
theorem cameC_hit {rs : List Ru} {seen : List PT} {o : PT} (ha : areR rs) (k : Nat) (hk : k < rs.length) (ht : rs[k].typ = o.1) : cameC rs (seen ++ [o]) = (cameC rs seen).set k (.bool true) := by
 have h16 := ha.1;apply List.ext_getElem?;intro i;rw [List.getElem?_set]
 by_cases hi : i < 16
 · rw [cameC_get _ _ _ hi, cameC_get _ _ _ hi, cameC_length]
   by_cases hr : i < rs.length
   · rw [List.getElem?_eq_getElem hr];simp only [Option.any_some, hasT_snoc]
     by_cases e : k = i
     · subst e;rw [decide_eq_true ht.symm, Bool.or_true, if_pos rfl, if_pos hi]
     · have : ¬ o.1 = rs[i].typ := fun e2 => by
        have h2 := List.pairwise_iff_getElem.1 ha.2.2
        rcases Nat.lt_or_gt_of_ne e with h | h
        · exact h2 k i (by rw [List.length_map]; exact hk) (by rw [List.length_map]; exact hr) h (by simp [ht, e2])
        · exact h2 i k (by rw [List.length_map]; exact hr) (by rw [List.length_map]; exact hk) h (by simp [ht, e2])
       rw [decide_eq_false this, Bool.or_false, if_neg e]
   · rw [List.getElem?_eq_none (by omega), if_neg (by omega)]; rfl
 · rw [List.getElem?_eq_none (by rw [cameC_length]; omega), List.getElem?_eq_none (by rw [cameC_length]; omega), if_neg (by omega)]
theorem only_new {gc g : Nat} {w w3 w4 : World} (h : Only gc w w3) (k : Only g w3 w4) (hg : w.heap.size <= g) (hc : gc <= g) : Only gc w w4 :=
 ⟨Nat.le_trans h.size k.size, fun B w0 hB hb => k.below B w0 (Nat.le_trans hB hc) (h.below B w0 hB hb), fun i hi hn => by rw [k.heap i (Nat.lt_of_lt_of_le hi h.size) (by omega), h.heap i hi hn]⟩
theorem sizeA : (Tryz.prog.info? 4).map (·.size) = some 1 := by kernel_rfl
set_option maxRecDepth 20000 in
set_option maxHeartbeats 4000000 in
theorem misfits1_any (ra : Option Addr) (rn rc : Nat) (rs : List Ru) (ha : areR rs) (gr gc : Nat) (hgg : gr ≠ gc) (seen : List PT) (T : Int) (A : Option Addr) (L C : Nat) (l : List UInt8) (hl : l.length = L) (hL : L <= 1000) (w : World) (hb : ∀ w', Only gc w w' -> Bs w' (.slice A L C) l)
 (hr : RR w (.slice ra rn rc) rn rs) (hg : w.heap[gr]? = some (.cells #[.slice ra rn rc] 135)) (hc : w.heap[gc]? = some (.cells (cameC rs seen).toArray 158 (0, 0))) :
 Calls Tryz.prog 141 #[.agg #[.int .i64 T, .slice A L C], .pointer (some ⟨gr, 0, none⟩), .pointer (some ⟨gc, 0, none⟩)] w fun e w' => Tells (misf rs seen (T, l)) w' e /\ Only gc w w' /\ w'.heap[gc]? = some (.cells (cameC rs (seen ++ [(T, l)])).toArray 158 (0, 0)) := by
 have hal : Gr w ((w.alloc (.cells #[.int .i64 T, .slice A L C] 69)).alloc (.cells #[.int .i64 0, .slice none 0 0] 69)) := ((Gr.refl w).alloc _).alloc _;have HAL := hd_ hal;have HG0 : Hid (((w.alloc (.cells #[.int .i64 T, .slice A L C] 69)).alloc (.cells #[.int .i64 0, .slice none 0 0] 69)).heap[w.heap.size]? = some (.cells #[.int .i64 T, .slice A L C] 69)) := heap2_0' _ _ _;have HG1 : Hid (((w.alloc (.cells #[.int .i64 T, .slice A L C] 69)).alloc (.cells #[.int .i64 0, .slice none 0 0] 69)).heap[w.heap.size + 1]? = some (.cells #[.int .i64 0, .slice none 0 0] 69)) := heap2_1' _ _ _;obtain ⟨k0, k1⟩ := copy_cells HG0.out;have kr := cell1 (heap_gr hal hg);have HB := hd_ hb;have HA := hd_ ha;have hgc : gc < w.heap.size := (Array.getElem?_eq_some_iff.1 hc).1;have HC := hd_ (heap_gr hal hc);have OF := hd_ (of_any ra rn rc rs T ((w.alloc (.cells #[.int .i64 T, .slice A L C] 69)).alloc (.cells #[.int .i64 0, .slice none 0 0] 69)) (hr.below hal));have HLEN := hd_ hl;clear hal hb hr hg ha hc hl;go_enter Tryz.func141, Tryz.ntmps141
 go_wp2_with fail
 refine OF.out.mono ?_;rintro e w2 ⟨(⟨k, hk, r, rfl, hrk, hrt, _⟩ | ⟨rfl, hno⟩), hb2⟩
 · have hal2 : Gr w2 (w2.alloc (.cells #[.int .i64 r.typ, .int .i64 r.size, .int .i64 r.kind, .int .i64 r.low, .int .i64 r.high, .int .i64 r.good, .bool r.must] 146)) := (Gr.refl _).alloc _;have HGX : Hid ((w2.alloc (.cells #[.int .i64 r.typ, .int .i64 r.size, .int .i64 r.kind, .int .i64 r.low, .int .i64 r.high, .int .i64 r.good, .bool r.must] 146)).heap[w2.heap.size]? = some (.cells #[.int .i64 r.typ, .int .i64 r.size, .int .i64 r.kind, .int .i64 r.low, .int .i64 r.high, .int .i64 r.good, .bool r.must] 146)) := heap_alloc_last _ _;have HG4 := hd_ (heap_gr hal2 (heap_below HG0.out hb2));have HG5 := hd_ (heap_gr hal2 (heap_below HG1.out hb2));have HC4 := hd_ (heap_gr hal2 (heap_below HC.out hb2));have HB4 : Hid (Gr w (w2.alloc (.cells #[.int .i64 r.typ, .int .i64 r.size, .int .i64 r.kind, .int .i64 r.low, .int .i64 r.high, .int .i64 r.good, .bool r.must] 146))) := (HAL.out.trans hb2).trans hal2;have hsz2 : w.heap.size + 2 <= w2.heap.size := by have := hb2.size; simp at this; omega
   have k16 : k < 16 := Nat.lt_of_lt_of_le hk HA.out.1;obtain ⟨ag, hag⟩ : ∃ ag, ag = hasT seen T := ⟨_, rfl⟩;have HAG := hd_ hag;have HRK := hd_ hrk;have HRT := hd_ hrt;have hck : (w2.alloc (.cells #[.int .i64 r.typ, .int .i64 r.size, .int .i64 r.kind, .int .i64 r.low, .int .i64 r.high, .int .i64 r.good, .bool r.must] 146)).cell? ⟨gc, k, none⟩ = some (.bool ag) := by
    rw [cell_of_row _ gc _ _ _ _ HC4.out, List.getElem?_toArray, cameC_get _ _ _ k16, List.getElem?_eq_getElem hk];simp only [Option.any_some];rw [<- hrk, hrt, hag]
   have hk16 : (k : Int) < 16 := by omega
   have HMIS : Hid (misf rs seen (T, l) = if (ag || decide (¬ (L : Int) = r.size)) then some (T, l) else none) := by
    show _ = _;unfold misf;rw [ruleOf_hit (o := (T, l)) HA.out k hk hrk hrt, <- hag, <- HLEN.out]
    by_cases hs : r.size = ((T, l).2.length : Int)
    · have e : decide (¬ ((l.length : Nat) : Int) = r.size) = false := decide_eq_false (fun h => h hs.symm);rw [if_pos hs, e]; simp
    · have e : decide (¬ ((l.length : Nat) : Int) = r.size) = true := decide_eq_true (fun h => hs h.symm);rw [if_neg hs, e]; simp
   clear hb2 OF hrk hrt k0 k1 kr HG0 HG1 HAL hal2 hag;go_wp2_with (refine wpList_store_cell rfl 4 (.tmp 23) (.const (.bool true)) rfl gc k (.bool true) rfl rfl 158 (cameC rs seen) HC4.out sizeA (by rw [cameC_length]; exact k16) rfl ?_)
   intro w3 h3 ho3;have HC3 : Hid (w3.heap[gc]? = some (.cells (cameC rs (seen ++ [(T, l)])).toArray 158 (0, 0))) := by
    show _ = _;rw [cameC_hit HA.out k hk (by rw [<- HRK.out, HRT.out])];exact h3
   have HG6 : Hid (w3.heap[w.heap.size]? = some (.cells #[.int .i64 T, .slice A L C] 69)) := (ho3.heap _ (Array.getElem?_eq_some_iff.1 HG4.out).1 (by omega)).trans HG4.out;have HG7 : Hid (w3.heap[w.heap.size + 1]? = some (.cells #[.int .i64 0, .slice none 0 0] 69)) := (ho3.heap _ (Array.getElem?_eq_some_iff.1 HG5.out).1 (by omega)).trans HG5.out;have HGX6 : Hid (w3.heap[w2.heap.size]? = some (.cells #[.int .i64 r.typ, .int .i64 r.size, .int .i64 r.kind, .int .i64 r.low, .int .i64 r.high, .int .i64 r.good, .bool r.must] 146)) := (ho3.heap _ (Array.getElem?_eq_some_iff.1 HGX.out).1 (by omega)).trans HGX.out;have HO3 : Hid (Only gc w w3) := (Only.grown HB4.out (by omega)).trans ho3;have hsz3 : w.heap.size + 1 < w3.heap.size := (Array.getElem?_eq_some_iff.1 HG7.out).1;have hk0 : ¬ (k : Int) < 0 := by omega
   clear h3 ho3 hck HG4 HG5 HGX HC4 HC HB4;cases ag with
   | true =>
    go_upto_region 6 with fail
    refine wp_region_H 10 Gr (Kp [w.heap.size,w2.heap.size]) (by kernel_rfl) ?_;refine wpH_u preGr (preKp _) 0 (some 24) ?_ (hy := fun w' hw' => by
     try have g0 := (copy_cells (heap_gr ((Gr.drew w3).trans hw') HG6.out)).1
     try have g1 := (copy_cells (heap_gr ((Gr.drew w3).trans hw') HG6.out)).2
     go_simp;with_reducible rfl)
    refine wpH_u preGr (preKp _) 1 (some 25) ?_;refine wpH_u preGr (preKp _) 2 (some 26) ?_;refine wpH_p preGr (preKp _) 3 (some 27) ?_;refine wpH_p preGr (preKp _) 4 (some 28) ?_;refine wpH_p preGr (preKp _) 5 (some 29) ?_;refine wpH_p preGr (preKp _) 6 (some 30) ?_;refine wpH_p preGr (preKp _) 7 (some 31) ?_;refine wpH_p preGr (preKp _) 8 (some 32) ?_;refine wpH_uH preGr (preKp _) 9 (some 33) ?_;refine wpH_tail (i := 10) (by decide) rfl (by kernel_rfl) (by rfl) ?_;refine wp_store_whole (none) 69 (.tmp 4) (.tmp 24) rfl (w.heap.size + 1) [.int .i64 T, .slice A L C] rfl rfl 69 [.int .i64 0, .slice none 0 0] HG7.out O.sizeT rfl (O.one_tag _ rfl) rfl ?_;intro w4 h4 ho4;have H4 := hd_ h4;have HO4 := hd_ ho4;refine ⟨⟨ho4.size, fun b hb => ?_⟩, ?_⟩
    · simp only [List.mem_cons, List.not_mem_nil, or_false] at hb
      rcases hb with rfl | rfl
      · exact ho4.heap _ (Array.getElem?_eq_some_iff.1 HG6.out).1 (by omega)
      · exact ho4.heap _ (Array.getElem?_eq_some_iff.1 HGX6.out).1 (by omega)
    clear h4 ho4;try simp only [Act.put, aq1, aq2, aq3]
    refine wpH_tail (i := 11) (by decide) rfl (by kernel_rfl) (by rfl) ?_;go_simp;refine ⟨(pre_refl (preKp _) _), ?_⟩;try simp only [Act.put, aq1, aq2, aq3]
    refine wpH_done (by kernel_rfl) ?_ _;have HF : Hid (Only gc w w4) := only_new HO3.out ((Only.grown (Gr.drew w3) (by omega)).trans HO4.out) (Nat.le_succ _) (by omega);have HC5 : Hid (w4.heap[gc]? = some (.cells (cameC rs (seen ++ [(T, l)])).toArray 158 (0, 0))) := (HO4.out.heap gc (Array.getElem?_eq_some_iff.1 HC3.out).1 (by omega)).trans HC3.out;go_wp2
    refine bodyPost_ret (v := .tuple #[.agg #[.int .i64 T, .slice A L C], .bool true]) (results_cell_tmp_row (P := Tryz.prog) (fn := Tryz.f141) rfl _ _ (w.heap.size + 1) 69 _ (0, 0) _ rfl H4.out Tryz.underlying69 rfl (by kernel_rfl)) rfl ?_;exact ⟨⟨T, A, L, C, true, l, rfl, by rw [HMIS.out]; rfl, fun _ => ⟨HLEN.out, hL, HB.out _ HF.out⟩⟩, HF.out, HC5.out⟩
   | false =>
    go_upto_region 6 with fail
    refine wp_region_H 10 Gr (Kp [w.heap.size,w2.heap.size]) (by kernel_rfl) ?_;refine wpH_u preGr (preKp _) 0 (some 24) ?_ (hy := fun w' hw' => by
     try have g0 := (copy_cells (heap_gr ((Gr.drew w3).trans hw') HG6.out)).1
     try have g1 := (copy_cells (heap_gr ((Gr.drew w3).trans hw') HG6.out)).2
     go_simp;with_reducible rfl)
    refine wpH_u preGr (preKp _) 1 (some 25) ?_;refine wpH_u preGr (preKp _) 2 (some 26) ?_;refine wpH_uH preGr (preKp _) 3 (some 27) ?_;refine wpH_uH preGr (preKp _) 4 (some 28) ?_ (hy := fun w' hw' => by
     have gg := copy_cells ((hw'.2 w.heap.size (by simp)).trans HG6.out);have g0 := gg.1;have g1 := gg.2;have gx := cells7 ((hw'.2 w2.heap.size (by simp)).trans HGX6.out);have g2 := gx.2.1;clear gg gx;go_simp;with_reducible rfl)
    refine wpH_uH preGr (preKp _) 5 (some 29) ?_ (hy := fun w' hw' => by
     have gg := copy_cells ((hw'.2 w.heap.size (by simp)).trans HG6.out);have g0 := gg.1;have g1 := gg.2;have gx := cells7 ((hw'.2 w2.heap.size (by simp)).trans HGX6.out);have g2 := gx.2.1;clear gg gx;go_simp;with_reducible rfl)
    refine wpH_uH preGr (preKp _) 6 (some 30) ?_;refine wpH_uH preGr (preKp _) 7 (some 31) ?_ (hy := fun w' hw' => by
     have gg := copy_cells ((hw'.2 w.heap.size (by simp)).trans HG6.out);have g0 := gg.1;have g1 := gg.2;have gx := cells7 ((hw'.2 w2.heap.size (by simp)).trans HGX6.out);have g2 := gx.2.1;clear gg gx;go_simp;with_reducible rfl)
    refine wpH_uH preGr (preKp _) 8 (some 32) ?_;refine wpH_uH preGr (preKp _) 9 (some 33) ?_;refine wpH_tail (i := 10) (by decide) rfl (by kernel_rfl) (by rfl) ?_;refine wp_store_whole (none) 69 (.tmp 4) (.tmp 24) rfl (w.heap.size + 1) [.int .i64 T, .slice A L C] rfl rfl 69 [.int .i64 0, .slice none 0 0] HG7.out O.sizeT rfl (O.one_tag _ rfl) rfl ?_;intro w4 h4 ho4;have H4 := hd_ h4;have HO4 := hd_ ho4;refine ⟨⟨ho4.size, fun b hb => ?_⟩, ?_⟩
    · simp only [List.mem_cons, List.not_mem_nil, or_false] at hb
      rcases hb with rfl | rfl
      · exact ho4.heap _ (Array.getElem?_eq_some_iff.1 HG6.out).1 (by omega)
      · exact ho4.heap _ (Array.getElem?_eq_some_iff.1 HGX6.out).1 (by omega)
    clear h4 ho4;try simp only [Act.put, aq1, aq2, aq3]
    refine wpH_tail (i := 11) (by decide) rfl (by kernel_rfl) (by rfl) ?_;go_simp;refine ⟨(pre_refl (preKp _) _), ?_⟩;try simp only [Act.put, aq1, aq2, aq3]
    refine wpH_done (by kernel_rfl) ?_ _;have HF : Hid (Only gc w w4) := only_new HO3.out ((Only.grown (Gr.drew w3) (by omega)).trans HO4.out) (Nat.le_succ _) (by omega);have HC5 : Hid (w4.heap[gc]? = some (.cells (cameC rs (seen ++ [(T, l)])).toArray 158 (0, 0))) := (HO4.out.heap gc (Array.getElem?_eq_some_iff.1 HC3.out).1 (by omega)).trans HC3.out;go_wp2
    refine bodyPost_ret (v := .tuple #[.agg #[.int .i64 T, .slice A L C], .bool ((L : Int) != r.size)]) (results_cell_tmp_row (P := Tryz.prog) (fn := Tryz.f141) rfl _ _ (w.heap.size + 1) 69 _ (0, 0) _ rfl H4.out Tryz.underlying69 rfl (by kernel_rfl)) rfl ?_;exact ⟨⟨T, A, L, C, (L : Int) != r.size, l, rfl, by rw [HMIS.out]; simp [bne_iff_ne], fun _ => ⟨HLEN.out, hL, HB.out _ HF.out⟩⟩, HF.out, HC5.out⟩
 · have hal2 : Gr w2 (w2.alloc (.cells #[.int .i64 0, .int .i64 0, .int .i64 0, .int .i64 0, .int .i64 0, .int .i64 0, .bool false] 146)) := (Gr.refl _).alloc _;have HG4 := hd_ (heap_gr hal2 (heap_below HG0.out hb2));have HG5 := hd_ (heap_gr hal2 (heap_below HG1.out hb2));have HC4 := hd_ (heap_gr hal2 (heap_below HC.out hb2));have HB4 : Hid (Gr w (w2.alloc (.cells #[.int .i64 0, .int .i64 0, .int .i64 0, .int .i64 0, .int .i64 0, .int .i64 0, .bool false] 146))) := (HAL.out.trans hb2).trans hal2;obtain ⟨q0, q1⟩ := copy_cells HG4.out;have HMIS : Hid (misf rs seen (T, l) = some (T, l)) := by
    show _ = _;unfold misf;rw [ruleOf_miss hno]; rfl
   have HCM := hd_ (cameC_miss (seen := seen) (o := (T, l)) hno);clear hb2 OF k0 k1 kr HG0 HG1 HAL hal2;go_wp2_with (refine wpList_store_whole rfl 69 (.tmp 4) (.tmp 18) rfl (w.heap.size + 1) [.int .i64 T, .slice A L C] rfl rfl 69 [.int .i64 0, .slice none 0 0] HG5.out O.sizeT rfl (O.one_tag _ rfl) ?_)
   intro w4 h4 ho4;have H4 := hd_ h4;have HF : Hid (Only gc w w4) := Only.grown (ho4.below _ _ (Nat.le_succ _) HB4.out) (by omega);have HC5 : Hid (w4.heap[gc]? = some (.cells (cameC rs (seen ++ [(T, l)])).toArray 158 (0, 0))) := by
    show _ = _;rw [HCM.out];exact (ho4.heap gc (Array.getElem?_eq_some_iff.1 HC4.out).1 (by omega)).trans HC4.out
   clear h4 ho4;go_wp2
   refine bodyPost_ret (v := .tuple #[.agg #[.int .i64 T, .slice A L C], .bool true]) (results_cell_tmp_row (P := Tryz.prog) (fn := Tryz.f141) rfl _ _ (w.heap.size + 1) 69 _ (0, 0) _ rfl H4.out Tryz.underlying69 rfl (by kernel_rfl)) rfl ?_;exact ⟨⟨T, A, L, C, true, l, rfl, HMIS.out, fun _ => ⟨HLEN.out, hL, HB.out _ HF.out⟩⟩, HF.out, HC5.out⟩
theorem misfits_any (ra : Option Addr) (rn rc : Nat) (rs : List Ru) (ha : areR rs) (ao : Option Addr) (n c : Nat) (ts : List Tg) (w : World) (hrr : RR w (.slice ra rn rc) rn rs) (hr : TR w (.slice ao n c) n ts) (hn : n <= 1000) (hm : ∀ x ∈ ts, x.l.length <= 1000) :
 Calls Tryz.prog 107 #[.slice ra rn rc, .slice ao n c] w fun e w' => ∃ v us, e = .returned v /\ plain us = rejs rs [] (plain ts) /\ TO w' w.heap.size v us /\ Below w.heap.size w w' := by
 have hl := hr.len;have hal : Below w.heap.size w ((w.alloc (.cells #[.slice ra rn rc] 135)).alloc (.cells #[.bool false, .bool false, .bool false, .bool false, .bool false, .bool false, .bool false, .bool false, .bool false, .bool false, .bool false, .bool false, .bool false, .bool false, .bool false, .bool false] 158)) := ((Gr.refl w).alloc _).alloc _;have hsz : ((w.alloc (.cells #[.slice ra rn rc] 135)).alloc (.cells #[.bool false, .bool false, .bool false, .bool false, .bool false, .bool false, .bool false, .bool false, .bool false, .bool false, .bool false, .bool false, .bool false, .bool false, .bool false, .bool false] 158)).heap.size = w.heap.size + 2 := by rw [World.size_alloc, World.size_alloc]
 have hg : ((w.alloc (.cells #[.slice ra rn rc] 135)).alloc (.cells #[.bool false, .bool false, .bool false, .bool false, .bool false, .bool false, .bool false, .bool false, .bool false, .bool false, .bool false, .bool false, .bool false, .bool false, .bool false, .bool false] 158)).heap[w.heap.size]? = some (.cells #[.slice ra rn rc] 135) := heap2_0' _ _ _;have hc : ((w.alloc (.cells #[.slice ra rn rc] 135)).alloc (.cells #[.bool false, .bool false, .bool false, .bool false, .bool false, .bool false, .bool false, .bool false, .bool false, .bool false, .bool false, .bool false, .bool false, .bool false, .bool false, .bool false] 158)).heap[w.heap.size + 1]? = some (.cells (cameC rs []).toArray 158 (0, 0)) := by
  rw [cameC_nil]; exact heap2_1' _ _ _
 have WK := hd_ (walk_any w ((w.alloc (.cells #[.slice ra rn rc] 135)).alloc (.cells #[.bool false, .bool false, .bool false, .bool false, .bool false, .bool false, .bool false, .bool false, .bool false, .bool false, .bool false, .bool false, .bool false, .bool false, .bool false, .bool false] 158)) (some (w.heap.size + 1)) (fun g h => by obtain rfl := Option.some.inj h; omega) (fun g h => by obtain rfl := Option.some.inj h; omega) hal ao n c ts hr hn
  141 #[.pointer (some ⟨w.heap.size, 0, none⟩), .pointer (some ⟨w.heap.size + 1, 0, none⟩)] (fun _ _ => rfl)
  (fun j w1 => w1.heap[w.heap.size]? = some (.cells #[.slice ra rn rc] 135) /\ w1.heap[w.heap.size + 1]? = some (.cells (cameC rs ((plain ts).take j)).toArray 158 (0, 0)))
  (fun j w1 w2 h hb => ⟨by rw [hb.block _ (by rw [hsz]; omega)]; exact h.1, by rw [hb.block _ (by rw [hsz]; omega)]; exact h.2⟩) ⟨hg, by rw [List.take_zero]; exact hc⟩ (outAt (plain ts) (misf rs))
  (fun j hj T A L C wr hT hv hbs hbw hsz' hI => by
   have hL : ts[j].l.length = L := by
    obtain ⟨_, _, es, _⟩ := hbs.shape;simp only [Value.slice.injEq] at es;exact es.2.1.symm
   have := hm ts[j] (List.getElem_mem hj);have hval : ∀ w', Only (w.heap.size + 1) wr w' -> Bs w' (.slice A L C) ts[j].l := fun w' ho => by
    have h1 := (hr.val j hj).below (ho.below _ _ (Nat.le_succ _) hbw)
    rwa [hv] at h1
   refine (misfits1_any ra rn rc rs ha w.heap.size (w.heap.size + 1) (by omega) ((plain ts).take j) T A L C ts[j].l hL (by omega) wr hval (hrr.below hbw) hI.1 hI.2).mono ?_;rintro e w' ⟨h1, h2, h3⟩;have e1 : (plain ts).take (j + 1) = (plain ts).take j ++ [(T, ts[j].l)] := by
    rw [List.take_succ_eq_append_getElem (by rw [plain_length]; exact hj), plain_get _ _ hj, <- hT]
   refine ⟨?_, h2, ?_, by rw [e1]; exact h3⟩
   · rw [outAt_get _ j hj, <- hT];exact h1
   · exact (h2.heap _ (Array.getElem?_eq_some_iff.1 hI.1).1 (by omega)).trans hI.1))
 have HE : Hid (outs (outAt (plain ts) (misf rs)) n = rejs rs [] (plain ts)) := by
  show _ = _;rw [outs_all _ _ (by rw [plain_length]; exact hl), rejs_scan]
 have HAL := hd_ hal;have HSZ : Hid (w.heap.size <= ((w.alloc (.cells #[.slice ra rn rc] 135)).alloc (.cells #[.bool false, .bool false, .bool false, .bool false, .bool false, .bool false, .bool false, .bool false, .bool false, .bool false, .bool false, .bool false, .bool false, .bool false, .bool false, .bool false] 158)).heap.size) := hal.size;clear hr hal hg hsz hrr hm hc;go_enter Tryz.func107, Tryz.ntmps107
 go_wp2_with fail
 refine WK.out.mono ?_;rintro e w2 ⟨v, us, rfl, h1, h2, h3, _⟩;rw [HE.out] at h1;have H1 := hd_ h1;have H2 := hd_ (h2.mono HSZ.out);have H3 : Hid (Below w.heap.size w w2) := Only.below h3 _ _ (Nat.le_succ _) HAL.out;clear h1 h2 h3;go_wp2
 go_ret
 exact ⟨v, us, rfl, H1.out, H2.out, H3.out⟩
theorem lacking1_any (r : Ru) (gx : Nat) (T : Int) (A : Option Addr) (L C : Nat) (w : World) (hg : w.heap[gx]? = some (.cells #[.int .i64 r.typ, .int .i64 r.size, .int .i64 r.kind, .int .i64 r.low, .int .i64 r.high, .int .i64 r.good, .bool r.must] 101)) :
 Calls Tryz.prog 145 #[.agg #[.int .i64 T, .slice A L C], .pointer (some ⟨gx, 0, none⟩)] w fun e w' => e = .returned (.bool (decide (T = r.typ))) /\ Below w.heap.size w w' := by
 have hal : Gr w (w.alloc (.cells #[.int .i64 T, .slice A L C] 69)) := (Gr.refl w).alloc _;have k0 := (cells7 (heap_gr hal hg)).1;go_enter Tryz.func145, Tryz.ntmps145
 go_wp2
 go_ret
 exact ⟨by simp [Bool.beq_eq_decide_eq], (Below.refl _ _).alloc (Nat.le_refl _) _⟩
theorem hasT_at {ts : List Tg} {t : Int} (k : Nat) (h : k < ts.length) (e : ts[k].typ = t) : hasT (plain ts) t = true := by
 rw [hasT_iff];exact ⟨ts[k].plain, List.mem_map.2 ⟨_, List.getElem_mem h, rfl⟩, e⟩
theorem hasT_none {ts : List Tg} {t : Int} (h : ∀ j (hj : j < ts.length), ts[j].typ ≠ t) : hasT (plain ts) t = false := by
 rw [Bool.eq_false_iff];intro e;obtain ⟨o, ho, e⟩ := hasT_iff.1 e;obtain ⟨x, hx, rfl⟩ := List.mem_map.1 ho;obtain ⟨i, hi, rfl⟩ := List.mem_iff_getElem.1 hx;exact h i hi e
set_option maxRecDepth 20000 in
set_option maxHeartbeats 2000000 in
theorem indexFunc_any (ao : Option Addr) (n c : Nat) (ts : List Tg) (r : Ru) (gx : Nat) (w : World) (hr : TR w (.slice ao n c) n ts) (hg : w.heap[gx]? = some (.cells #[.int .i64 r.typ, .int .i64 r.size, .int .i64 r.kind, .int .i64 r.low, .int .i64 r.high, .int .i64 r.good, .bool r.must] 101)) (hn : n <= 1000) :
 Calls Tryz.prog 161 #[.slice ao n c, .func (.func 145) #[] #[.pointer (some ⟨gx, 0, none⟩)]] w fun e w' => (∃ i : Int, e = .returned (.int .i64 i) /\ decide (i ≥ 0) = hasT (plain ts) r.typ) /\ Below w.heap.size w w' := by
 have hl := hr.len;have HR := hd_ hr;have HG := hd_ hg;clear hr hg;go_enter Tryz.func161, Tryz.ntmps161
 go_wp2
 go_loopw [5, 8] (fun sv iv wr => ∃ (k : Nat) (lv : Value), k <= n /\ iv = .int .i64 k /\ lv = sv /\ (∀ j (hj : j < k) (h2 : j < ts.length), ts[j].typ ≠ r.typ) /\ Below w.heap.size w wr) (fun _ iv _ => n - (intOf iv).toNat)
 case atStart => exact ⟨0, _, Nat.zero_le _, rfl, rfl, fun j hj => by omega, Below.refl _ _⟩
 case round =>
  obtain ⟨k, lv, hk, rfl, rfl, hne, hb⟩ := hrel;have HNE := hd_ hne;have HB := hd_ hb;clear hne hb
  by_cases hlt : k < n
  · obtain ⟨b, o, rfl, hbl, hc⟩ := (HR.out.below HB.out).cells (by omega);obtain ⟨hc0, hc1⟩ := hc k (by omega);have HV := hd_ (HR.out.val k (by omega));obtain ⟨A, L, C, hv, hL, hLC, hCm⟩ := HV.out.sl;rw [hv] at hc1;obtain ⟨T, hT⟩ : ∃ T, T = ts[k].typ := ⟨_, rfl⟩;rw [<- hT] at hc0;have HTT := hd_ hT;have CA := hd_ (lacking1_any r gx T A L C wr (heap_below HG.out HB.out));clear hv hL hT hc
    by_cases ht : T = r.typ
    · rw [decide_eq_true ht] at CA;have HF : Hid (hasT (plain ts) r.typ = true) := hasT_at k (by omega) (by rw [<- HTT.out]; exact ht);clear ht;go_wp2_with fail
      refine CA.out.mono ?_;rintro e w2 ⟨rfl, hb2⟩;have HB2 := hd_ (HB.out.trans (hb2.mono HB.out.size));clear hb2;go_wp2
      go_ret
      exact ⟨⟨k, rfl, by rw [HF.out]; simp⟩, HB2.out⟩
    · rw [decide_eq_false ht] at CA;have HT := hd_ ht;clear ht;go_wp2_with fail
      refine CA.out.mono ?_;rintro e w2 ⟨rfl, hb2⟩;have HB2 := hd_ (HB.out.trans (hb2.mono HB.out.size));clear hb2 hc0 hc1;go_wp2
      go_roundw
      case rel =>
       have HN1 : ∀ j (hj : j < k + 1) (h2 : j < ts.length), ts[j].typ ≠ r.typ := fun j hj h2 => by
        by_cases e : j = k
        · subst e; rw [<- HTT.out]; exact HT.out
        · exact HNE.out j (by omega) h2
       first | exact ⟨k + 1, _, by omega, by go_num, rfl, HN1, HB2.out⟩ | ((repeat apply Exists.intro); exact ⟨⟨k + 1, _, by omega, by go_num, rfl, HN1, HB2.out⟩, rfl⟩)
      case measure => simp [intOf]; omega
  · obtain rfl : k = n := by omega
    have HF := hd_ (hasT_none (t := r.typ) fun j hj => HNE.out j (by omega) hj);go_wp2
    go_ret
    exact ⟨⟨-1, rfl, by rw [HF.out]; rfl⟩, HB.out⟩
theorem contains_any (ao : Option Addr) (n c : Nat) (ts : List Tg) (r : Ru) (gx : Nat) (w : World) (hr : TR w (.slice ao n c) n ts) (hg : w.heap[gx]? = some (.cells #[.int .i64 r.typ, .int .i64 r.size, .int .i64 r.kind, .int .i64 r.low, .int .i64 r.high, .int .i64 r.good, .bool r.must] 101)) (hn : n <= 1000) :
 Calls Tryz.prog 144 #[.slice ao n c, .func (.func 145) #[] #[.pointer (some ⟨gx, 0, none⟩)]] w fun e w' => e = .returned (.bool (hasT (plain ts) r.typ)) /\ Below w.heap.size w w' := by
 have IX := hd_ (indexFunc_any ao n c ts r gx w hr hg hn);clear hr hg;go_enter Tryz.func144, Tryz.ntmps144
 go_wp2_with fail
 refine IX.out.mono ?_;rintro e w2 ⟨⟨i, rfl, hi⟩, hb2⟩;have HI := hd_ hi;have HB2 := hd_ hb2;clear hi hb2;go_wp2
 go_ret
 exact ⟨by rw [<- HI.out]; simp, HB2.out⟩
def lackTo (rs : List Ru) (l : List PT) (k : Nat) : List PT := lacks (rs.take k) l
theorem lackTo_succ (rs : List Ru) (l : List PT) (k : Nat) (h : k < rs.length) : lackTo rs l (k + 1) = lackTo rs l k ++ (if rs[k].must && !hasT l rs[k].typ then [goodO rs[k]] else []) := by
 unfold lackTo lacks;rw [List.take_succ_eq_append_getElem h, List.filter_append, List.map_append]
 congr 1
 cases h : (rs[k].must && !hasT l rs[k].typ) <;> simp [List.filter_cons, h]
theorem lackTo_length (rs : List Ru) (l : List PT) (k : Nat) : (lackTo rs l k).length <= k := by
 unfold lackTo lacks;rw [List.length_map];exact Nat.le_trans (List.length_filter_le _ _) (by rw [List.length_take]; omega)
set_option maxRecDepth 20000 in
set_option maxHeartbeats 4000000 in
theorem lacking_any (ra : Option Addr) (rn rc : Nat) (rs : List Ru) (ha : areR rs) (ao : Option Addr) (n c : Nat) (ts : List Tg) (w : World) (hrr : RR w (.slice ra rn rc) rn rs) (hr : TR w (.slice ao n c) n ts) (hn : n <= 1000) :
 Calls Tryz.prog 109 #[.slice ra rn rc, .slice ao n c] w fun e w' => ∃ v us, e = .returned v /\ plain us = lacks rs (plain ts) /\ TO w' w.heap.size v us /\ Below w.heap.size w w' := by
 obtain ⟨i0, hi, hz0, hz1, hz2⟩ := info_parts infoT;have hl := hrr.len;have h16 : rn <= 16 := by rw [<- hl]; exact ha.1
 have HRR := hd_ hrr;have HR := hd_ hr;have HA := hd_ ha;clear hr hrr ha;go_enter Tryz.func109, Tryz.ntmps109
 go_wp2
 go_loopw [5, 11] (fun ov iv wr => ∃ (k : Nat) (us : List Tg) (lv : Value), k <= rn /\ iv = .int .i64 k /\ lv = ov /\ plain us = lackTo rs (plain ts) k /\ TO wr w.heap.size lv us /\ Below w.heap.size w wr) (fun _ iv _ => rn - (intOf iv).toNat)
 case atStart => exact ⟨0, [], _, Nat.zero_le _, rfl, rfl, rfl, TO.nil _ _, Below.refl _ _⟩
 case round =>
  obtain ⟨k, us, lv, hk, rfl, rfl, hus, hto, hb⟩ := hrel;have HUS := hd_ hus;have HTO := hd_ hto;have HB := hd_ hb;have HBN := hd_ hb.size;clear hus hto hb
  by_cases hlt : k < rn
  · obtain ⟨b, o, rfl, hbl, hc⟩ := (HRR.out.below HB.out).cells (by omega);obtain ⟨c0, c1, c2, c3, c4, c5, c6⟩ := hc k (by omega);obtain ⟨r, hr⟩ : ∃ r, r = rs[k] := ⟨_, rfl⟩;rw [<- hr] at c0 c1 c2 c3 c4 c5 c6;have HRK := hd_ hr;have hal : Gr wr (wr.alloc (.cells #[.int .i64 r.typ, .int .i64 r.size, .int .i64 r.kind, .int .i64 r.low, .int .i64 r.high, .int .i64 r.good, .bool r.must] 101)) := (Gr.refl wr).alloc _;have HB1 := hd_ (HB.out.trans (Below.mono hal HBN.out));have HTO1 := hd_ (HTO.out.below hal);have HGC : Hid ((wr.alloc (.cells #[.int .i64 r.typ, .int .i64 r.size, .int .i64 r.kind, .int .i64 r.low, .int .i64 r.high, .int .i64 r.good, .bool r.must] 101)).heap[wr.heap.size]? = some (.cells #[.int .i64 r.typ, .int .i64 r.size, .int .i64 r.kind, .int .i64 r.low, .int .i64 r.high, .int .i64 r.good, .bool r.must] 101)) := heap_alloc_last _ _;have CF := hd_ (contains_any ao n c ts r wr.heap.size (wr.alloc (.cells #[.int .i64 r.typ, .int .i64 r.size, .int .i64 r.kind, .int .i64 r.low, .int .i64 r.high, .int .i64 r.good, .bool r.must] 101)) (HR.out.below HB1.out) HGC.out hn);have HIS : Hid (isR r) := by show isR r; rw [hr]; exact areR_at HA.out k (by omega)
    obtain ⟨q, hq⟩ : ∃ q, q = hasT (plain ts) r.typ := ⟨_, rfl⟩;rw [<- hq] at CF;have HQ := hd_ hq;clear hr hc hal hq;go_wp2_with fail
    refine CF.out.mono ?_;rintro e w2 ⟨rfl, hb2⟩;have HB2 := hd_ (HB1.out.trans (hb2.mono HB1.out.size));have HTO2 := hd_ (HTO1.out.below hb2);have HG2 := hd_ (heap_below HGC.out hb2);obtain ⟨x0, x1, x2, x3, x4, x5, x6⟩ := cells7 HG2.out;have HOUT : Hid (lackTo rs (plain ts) (k + 1) = lackTo rs (plain ts) k ++ (if r.must && !q then [goodO r] else [])) := by
     show _ = _;rw [lackTo_succ _ _ _ (by omega), <- HRK.out, HQ.out]
    have GO := hd_ (good_any r w2 HIS.out);have HMU : Hid (r.must = true \/ r.must = false) := by show _ \/ _; cases r.must <;> simp
    clear hb2 c0 c1 c2 c3 c4 c5 c6 CF
    by_cases hd : (r.must && !q) = true
    · have hm1 : r.must = true := by cases h : r.must <;> simp_all
      have hq1 : q = false := by cases h : q <;> simp_all
      subst hq1;rw [if_pos hd] at HOUT;rw [hm1] at x6 GO;clear hd hm1;go_wp2_with fail
      refine GO.out.mono ?_;rintro e w3 ⟨v, rfl, hown, hb3⟩;obtain ⟨A3, L3, C3, ev, hL3, _, _⟩ := hown.bs.sl;subst ev;have hal3 : Gr w3 (w3.alloc (.cells #[.int .i64 r.typ, .slice A3 L3 C3] 69)) := (Gr.refl _).alloc _;have HB3 := hd_ ((HB2.out.trans (hb3.mono HB2.out.size)).trans (Below.mono hal3 (Nat.le_trans HB2.out.size hb3.size)));have HTO3 := hd_ ((HTO2.out.below hb3).below hal3);have HO3 := hd_ ((hown.below hal3).mono (base' := w.heap.size) HB2.out.size);have HRD := hd_ (rd_new w3 [.int .i64 r.typ, .slice A3 L3 C3] 69 1 2 rfl (by decide));have hus : us.length <= 16 := by
       have h1 := lackTo_length rs (plain ts) k;rw [<- HUS.out, plain_length] at h1;omega
      clear hown hb3 hL3 hal3 x0 x1 x2 x3 x4 x5 x6;go_wp2_with (at_builtin; refine wpList_append_gr _ rfl (.tmp 24) (.tmp 27) 26 rfl w.heap.size 69 i0 _ 2 32 Tryz.underlying26 hi hz0 hz1 hz2 rfl (by decide) _ _ _ rfl HTO3.out.own _ 1 _ rfl HRD.out (one_tag r.typ rfl) ?p4 (by decide) HB3.out.size ?_)
      case p4 => omega
      intro v' wo ho' hg';have HTO4 : Hid (TO wo w.heap.size v' (us ++ [⟨r.typ, .slice A3 L3 C3, (goodO r).2⟩])) := HTO3.out.more HO3.out ho' hg';have HB4 := hd_ (HB3.out.trans (grown_below HTO3.out.own HB3.out.size hg'));clear ho' hg';go_wp2
      go_roundw
      case rel =>
       have HU : plain (us ++ [(⟨r.typ, .slice A3 L3 C3, (goodO r).2⟩ : Tg)]) = lackTo rs (plain ts) (k + 1) := by rw [HOUT.out, plain_append, HUS.out]; rfl
       first | exact ⟨k + 1, _, _, by omega, by go_num, rfl, HU, HTO4.out, HB4.out⟩ | ((repeat apply Exists.intro); exact ⟨⟨k + 1, _, _, by omega, by go_num, rfl, HU, HTO4.out, HB4.out⟩, rfl⟩)
      case measure => simp [intOf]; omega
    · rw [if_neg hd, List.append_nil] at HOUT;have hd2 : (r.must && !q) = false := by simpa using hd
      clear hd;have HU : Hid (plain us = lackTo rs (plain ts) (k + 1)) := by show _ = _; rw [HOUT.out]; exact HUS.out
      rcases HMU.out with hm1 | hm1
      · have hq1 : q = true := by cases h : q <;> simp_all
        subst hq1;rw [hm1] at x6;clear hd2 hm1;go_wp2
        go_roundw
        case rel =>
         first | exact ⟨k + 1, us, _, by omega, by go_num, rfl, HU.out, HTO2.out, HB2.out⟩ | ((repeat apply Exists.intro); exact ⟨⟨k + 1, us, _, by omega, by go_num, rfl, HU.out, HTO2.out, HB2.out⟩, rfl⟩)
        case measure => simp [intOf]; omega
      · rw [hm1] at x6;clear hd2 hm1;go_wp2
        go_roundw
        case rel =>
         first | exact ⟨k + 1, us, _, by omega, by go_num, rfl, HU.out, HTO2.out, HB2.out⟩ | ((repeat apply Exists.intro); exact ⟨⟨k + 1, us, _, by omega, by go_num, rfl, HU.out, HTO2.out, HB2.out⟩, rfl⟩)
        case measure => simp [intOf]; omega
  · obtain rfl : k = rn := by omega
    have HU : Hid (plain us = lacks rs (plain ts)) := by
     show _ = _;rw [HUS.out];unfold lackTo;rw [List.take_of_length_le (by omega)]
    obtain ⟨a', c', ev, _, _⟩ := HTO.out.tr.shape;subst ev;go_wp2
    go_ret
    exact ⟨_, us, rfl, HU.out, HTO.out, HB.out⟩
def ARes (x : Int × List PT) (w : World) (e : Ending) (w' : World) : Prop := ∃ v us, e = .returned (.tuple #[.int .i64 x.1, v]) /\ plain us = x.2 /\ TO w' w.heap.size v us /\ Below w.heap.size w w'
theorem ARes.of {x : Int × List PT} {w w' : World} (k : Int) (l : List PT) (v : Value) (us : List Tg) (h : x = (k, l)) (h1 : plain us = l) (h2 : TO w' w.heap.size v us) (h3 : Below w.heap.size w w') : ARes x w (.returned (.tuple #[.int .i64 k, v])) w' := by
 subst h;exact ⟨v, us, rfl, h1, h2, h3⟩
theorem TO.join {w w' : World} {base : Nat} {v v' : Value} {ts us : List Tg} (h : TO w base v ts) (h2 : ∀ t ∈ us, OwnB w base 5 t.val t.l) (ho : w'.ownsRow base 69 2 v' (ts.length + us.length) (flat ts ++ flat us)) (hg : w.grownBy w' v.ownBlock) :
 TO w' base v' (ts ++ us) := by
 refine ⟨?_, fun u hu => ?_⟩
 · rw [flat_append, List.length_append]; exact ho
 · rcases List.mem_append.1 hu with hu | hu
   · exact (h.vals u hu).kept hg (own_ne_block (h.vals u hu) h.own (by decide))
   · exact (h2 u hu).kept hg (own_ne_block (h2 u hu) h.own (by decide))
theorem flat_one (ts : List Tg) (w : World) (h : ∀ t ∈ ts, ∃ l, Bs w t.val l) : ∀ u ∈ flat ts, u.oneCell' = true := by
 intro u hu;unfold flat at hu;obtain ⟨t, ht, hu⟩ := List.mem_flatMap.1 hu;obtain ⟨l, hb⟩ := h t ht;exact one_tag t.typ hb.oneCell u hu
theorem rejs_fit {rs : List Ru} {ts : List Tg} (h : rejs rs [] (plain ts) = []) : ∀ x ∈ ts, (ruleOf rs (x.typ, x.l)).isSome = true := fun x hx => ((rejs_nil h).1 (x.typ, x.l) (List.mem_map.2 ⟨x, hx, rfl⟩)).1
theorem refd_fit {rs : List Ru} {l : List PT} {us : List Tg} (h : plain us = l.filterMap (refd rs)) (hl : ∀ o ∈ l, (ruleOf rs o).isSome = true) : ∀ x ∈ us, (ruleOf rs (x.typ, x.l)).isSome = true /\ (x.typ, x.l) ∈ l := fun x hx => by
 have h1 : (x.typ, x.l) ∈ plain us := List.mem_map.2 ⟨x, hx, rfl⟩;rw [h] at h1;obtain ⟨o, ho, e⟩ := List.mem_filterMap.1 h1;unfold refd at e;have h2 := hl o ho;cases hr : ruleOf rs o with
 | none => rw [hr] at h2; cases h2
 | some r =>
  rw [hr] at e;simp only at e;split at e
  · cases e
  · obtain rfl := Option.some.inj e;exact ⟨h2, ho⟩
theorem ans_no {rs : List Ru} {l : List PT} {n m : Int} (h : ¬ areR rs) : ans rs l n m = (0, []) := by unfold ans; rw [if_pos h]
theorem ans_rej {rs : List Ru} {l : List PT} {n m : Int} (h : areR rs) (h1 : rejs rs [] l ≠ []) : ans rs l n m = (4, rejs rs [] l) := by unfold ans; rw [if_neg (by simpa using h), if_pos h1]
theorem ans_all {rs : List Ru} {l : List PT} {n m : Int} (h : areR rs) (h1 : rejs rs [] l = []) (h2 : l.filterMap (refd rs) = []) (h3 : lacks rs l = []) : ans rs l n m = (2, l) := by
 have hb := (bads_eq h1).1;rw [h2] at hb;unfold ans;rw [if_neg (by simpa using h), if_neg (by simpa using h1), if_pos (by rw [List.map_eq_nil_iff.1 hb, h3]; rfl)]
theorem ans_some {rs : List Ru} {l : List PT} {n m : Int} (h : areR rs) (h1 : rejs rs [] l = []) (h2 : ¬ (l.filterMap (refd rs) = [] /\ lacks rs l = [])) :
 ans rs l n m = if m <= n /\ l.filterMap (refd rs) ≠ [] then (4, l.filterMap (refd rs)) else (3, (l.filterMap (refd rs)).filterMap (mendd rs) ++ lacks rs l) := by
 have hb := bads_eq h1;have hn : ¬ ((bads rs [] l).map (·.2) ++ lacks rs l = []) := fun e => by
  have e2 := List.append_eq_nil_iff.1 e;have e3 := List.map_eq_nil_iff.1 e2.1;rw [e3] at hb;exact h2 ⟨hb.1.symm, e2.2⟩
 have hi : bads rs [] l ≠ [] ↔ l.filterMap (refd rs) ≠ [] := by rw [<- hb.1]; simp
 unfold ans;rw [if_neg (by simpa using h), if_neg (by simpa using h1), if_neg hn];simp only [hi, <- hb.1, hb.2]
set_option maxRecDepth 20000 in
set_option maxHeartbeats 4000000 in
theorem answer_any (ra : Option Addr) (rn rc : Nat) (rs : List Ru) (ao : Option Addr) (n c : Nat) (ts : List Tg) (naks most : Int) (w : World) (hrr : RR w (.slice ra rn rc) rn rs) (hr : TR w (.slice ao n c) n ts) (hn : n <= 1000) (hm : ∀ x ∈ ts, x.l.length <= 1000) :
 Calls Tryz.prog 87 #[.slice ra rn rc, .slice ao n c, .int .i64 naks, .int .i64 most] w (ARes (ans rs (plain ts) naks most) w) := by
 obtain ⟨i0, hi, hz0, hz1, hz2⟩ := info_parts infoT;have HL := hd_ hr.len;have HRR := hd_ hrr;have HR := hd_ hr;have HM := hd_ hm;have MB := hd_ (mayBes_any ra rn rc rs w hrr);clear hr hrr hm
 by_cases ha : areR rs
 · rw [decide_eq_true ha] at MB;have HA := hd_ ha;clear ha;go_enter Tryz.func87, Tryz.ntmps87
   go_wp2_with fail
   refine MB.out.mono ?_;rintro e w1 ⟨rfl, hb1⟩;have HB1 := hd_ hb1;have MI := hd_ (misfits_any ra rn rc rs HA.out ao n c ts w1 (HRR.out.below hb1) (HR.out.below hb1) hn HM.out);clear hb1 MB;go_wp2_with fail
   refine MI.out.mono ?_;rintro e w2 ⟨v2, us2, rfl, hp2, hto2, hb2⟩;have HB2 := hd_ (HB1.out.trans (hb2.mono HB1.out.size));have HP2 := hd_ hp2;have HTO2 := hd_ (hto2.mono HB1.out.size);obtain ⟨a2, c2, ev, _, _⟩ := hto2.tr.shape;subst ev;obtain ⟨m2, hm2⟩ : ∃ m, m = us2.length := ⟨_, rfl⟩;have HM2 := hd_ hm2;rw [<- hm2] at HTO2 ⊢;clear hp2 hto2 hb2 hm2 MI
   by_cases h2 : m2 = 0
   · subst h2;have HJ : Hid (rejs rs [] (plain ts) = []) := by
      show _ = _;rw [<- HP2.out]; exact plain_nil_iff.2 HM2.out.symm
     have RF := hd_ (refused_any ra rn rc rs HA.out ao n c ts w2 (HRR.out.below HB2.out) (HR.out.below HB2.out) hn HM.out (rejs_fit HJ.out));clear HP2 HTO2 HM2;go_wp2_with fail
     refine RF.out.mono ?_;rintro e w3 ⟨v3, us3, rfl, hp3, hto3, hb3⟩;have HB3 := hd_ (HB2.out.trans (hb3.mono HB2.out.size));have HP3 := hd_ hp3;have HTO3 := hd_ (hto3.mono HB2.out.size);have LK := hd_ (lacking_any ra rn rc rs HA.out ao n c ts w3 (HRR.out.below HB3.out) (HR.out.below HB3.out) hn);clear hp3 hto3 hb3 RF;go_wp2_with fail
     refine LK.out.mono ?_;rintro e w4 ⟨v4, us4, rfl, hp4, hto4, hb4⟩;have HB4 := hd_ (HB3.out.trans (hb4.mono HB3.out.size));have HP4 := hd_ hp4;have HTO4 := hd_ (hto4.mono HB3.out.size);have HTO34 := hd_ (HTO3.out.below hb4);obtain ⟨a3, c3, ev, _, _⟩ := HTO3.out.tr.shape;subst ev;obtain ⟨a4, c4, ev, _, _⟩ := hto4.tr.shape;subst ev;have hn3 : us3.length <= 1000 := by
      rw [<- plain_length, HP3.out];exact Nat.le_trans (List.length_filterMap_le _ _) (by rw [plain_length, HL.out]; exact hn)
     have hn4 : us4.length <= 16 := by
      rw [<- plain_length, HP4.out];exact Nat.le_trans (lackTo_length rs (plain ts) rs.length |> fun h => by unfold lackTo at h; rwa [List.take_length] at h) HA.out.1
     obtain ⟨m3, hm3⟩ : ∃ m, m = us3.length := ⟨_, rfl⟩;obtain ⟨m4, hm4⟩ : ∃ m, m = us4.length := ⟨_, rfl⟩;have HM3 := hd_ hm3;have HM4 := hd_ hm4;rw [<- hm3] at HTO34 hn3 ⊢;rw [<- hm4] at HTO4 hn4 ⊢;have HE3 : Hid (m3 = 0 ↔ (plain ts).filterMap (refd rs) = []) := by
      show _ ↔ _;rw [<- HP3.out, plain_nil_iff, hm3]
     have HE4 : Hid (m4 = 0 ↔ lacks rs (plain ts) = []) := by
      show _ ↔ _;rw [<- HP4.out, plain_nil_iff, hm4]
     clear hp4 hto4 hb4 LK hm3 hm4 HTO3
     by_cases h34 : m3 = 0 /\ m4 = 0
     · obtain ⟨rfl, rfl⟩ := h34;have HANS : Hid (ans rs (plain ts) naks most = (2, plain ts)) := ans_all HA.out HJ.out (HE3.out.1 rfl) (HE4.out.1 rfl);have CO := hd_ (copies_any ao n c ts w4 (HR.out.below HB4.out) hn HM.out);go_wp2_with fail
       refine CO.out.mono ?_;rintro e w5 ⟨v5, us5, rfl, hp5, hto5, hb5⟩;have HB5 := hd_ (HB4.out.trans (hb5.mono HB4.out.size));have HP5 := hd_ hp5;have HTO5 := hd_ (hto5.mono HB4.out.size);clear hp5 hto5 hb5 CO;go_wp2
       go_ret2
       exact ARes.of 2 _ _ us5 HANS.out HP5.out HTO5.out HB5.out
     · have HS := hd_ (ans_some (n := naks) (m := most) HA.out HJ.out (fun h => h34 ⟨HE3.out.2 h.1, HE4.out.2 h.2⟩))
       by_cases h3 : m3 = 0
       · subst h3;have HE30 := hd_ (HE3.out.1 rfl);have h4 : m4 ≠ 0 := fun h => h34 ⟨rfl, h⟩
         have h4b : ((m4 : Int) == 0) = false := by simpa using h4
         have hz4 : ¬ (m4 : Int) = 0 := by omega
         clear h34 h4
         by_cases hnm : naks < most
         · skip
           have HNK : Hid (¬ (most <= naks /\ (plain ts).filterMap (refd rs) ≠ [])) := fun h => by have := h.1; omega
           have HRS := hd_ (fun x hx => (refd_fit HP3.out (fun o ho => by obtain ⟨y, hy, rfl⟩ := List.mem_map.1 ho; exact rejs_fit HJ.out y hy) x hx));have HM34 : Hid (∀ x ∈ us3, x.l.length <= 1000) := fun x hx => by
            obtain ⟨y, hy, e⟩ := List.mem_map.1 (HRS.out x hx).2;have e2 : y.l = x.l := congrArg Prod.snd e;rw [<- e2]; exact HM.out y hy
           have MD := hd_ (mended_any ra rn rc rs HA.out a3 0 c3 us3 w4 (HRR.out.below HB4.out) (by have := HTO34.out.tr; rwa [<- HM3.out] at this) (by omega) HM34.out (fun x hx => (HRS.out x hx).1));go_wp2_with fail
           refine MD.out.mono ?_;rintro e w5 ⟨v5, us5, rfl, hp5, hto5, hb5⟩;have HB5 := hd_ (HB4.out.trans (hb5.mono HB4.out.size));have HP5 := hd_ hp5;have HTO5 := hd_ (hto5.mono HB4.out.size);have HTO45 := hd_ (HTO4.out.below hb5);have HRD := hd_ (by have := HTO45.out.tr.rd; rwa [<- HM4.out] at this : Rd w5 2 (.slice a4 m4 c4) m4 (flat us4));have hn5 : us5.length <= 1000 := by
            rw [<- plain_length, HP5.out];exact Nat.le_trans (List.length_filterMap_le _ _) (by rw [plain_length, <- HM3.out]; omega)
           clear hp5 hto5 hb5 MD;go_wp2_with (at_builtin; refine wpList_append_gr _ rfl (.tmp 48) (.tmp 49) 26 rfl w.heap.size 69 i0 _ 2 32 Tryz.underlying26 hi hz0 hz1 hz2 rfl (by decide) _ us5.length _ rfl HTO5.out.own _ m4 _ rfl HRD.out (flat_one us4 w5 fun x hx => ⟨_, (HTO45.out.vals x hx).bs⟩) ?p4 (by decide) HB5.out.size ?_)
           case p4 => omega
           intro v' wo ho' hg';have HTO6 : Hid (TO wo w.heap.size v' (us5 ++ us4)) := TO.join HTO5.out HTO45.out.vals (by rw [<- HM4.out]; exact ho') hg';have HB6 := hd_ (HB5.out.trans (grown_below HTO5.out.own HB5.out.size hg'));clear ho' hg';go_wp2
           go_ret2
           exact ARes.of 3 _ _ (us5 ++ us4) (HS.out.trans (if_neg HNK.out)) (by rw [plain_append, HP5.out, HP3.out, HP4.out]) HTO6.out HB6.out
         · have HNK : Hid (¬ (most <= naks /\ (plain ts).filterMap (refd rs) ≠ [])) := fun h => h.2 HE30.out
           go_wp2
           go_ret2
           exact ARes.of 3 _ _ us4 (HS.out.trans (if_neg HNK.out)) (by rw [HE30.out, HP4.out]; rfl) (by have := HTO4.out; rwa [HM4.out] at this) HB4.out
       · have h3b : ((m3 : Int) == 0) = false := by simpa using h3
         have hz3 : ¬ (m3 : Int) = 0 := by omega
         have H3N := hd_ h3;clear h34 h3
         by_cases hnm : naks < most
         · skip
           have HNK : Hid (¬ (most <= naks /\ (plain ts).filterMap (refd rs) ≠ [])) := fun h => by have := h.1; omega
           have HRS := hd_ (fun x hx => (refd_fit HP3.out (fun o ho => by obtain ⟨y, hy, rfl⟩ := List.mem_map.1 ho; exact rejs_fit HJ.out y hy) x hx));have HM34 : Hid (∀ x ∈ us3, x.l.length <= 1000) := fun x hx => by
            obtain ⟨y, hy, e⟩ := List.mem_map.1 (HRS.out x hx).2;have e2 : y.l = x.l := congrArg Prod.snd e;rw [<- e2]; exact HM.out y hy
           have MD := hd_ (mended_any ra rn rc rs HA.out a3 m3 c3 us3 w4 (HRR.out.below HB4.out) (by have := HTO34.out.tr; rwa [<- HM3.out] at this) (by omega) HM34.out (fun x hx => (HRS.out x hx).1));go_wp2_with fail
           refine MD.out.mono ?_;rintro e w5 ⟨v5, us5, rfl, hp5, hto5, hb5⟩;have HB5 := hd_ (HB4.out.trans (hb5.mono HB4.out.size));have HP5 := hd_ hp5;have HTO5 := hd_ (hto5.mono HB4.out.size);have HTO45 := hd_ (HTO4.out.below hb5);have HRD := hd_ (by have := HTO45.out.tr.rd; rwa [<- HM4.out] at this : Rd w5 2 (.slice a4 m4 c4) m4 (flat us4));have hn5 : us5.length <= 1000 := by
            rw [<- plain_length, HP5.out];exact Nat.le_trans (List.length_filterMap_le _ _) (by rw [plain_length, <- HM3.out]; omega)
           clear hp5 hto5 hb5 MD;go_wp2_with (at_builtin; refine wpList_append_gr _ rfl (.tmp 48) (.tmp 49) 26 rfl w.heap.size 69 i0 _ 2 32 Tryz.underlying26 hi hz0 hz1 hz2 rfl (by decide) _ us5.length _ rfl HTO5.out.own _ m4 _ rfl HRD.out (flat_one us4 w5 fun x hx => ⟨_, (HTO45.out.vals x hx).bs⟩) ?p4 (by decide) HB5.out.size ?_)
           case p4 => omega
           intro v' wo ho' hg';have HTO6 : Hid (TO wo w.heap.size v' (us5 ++ us4)) := TO.join HTO5.out HTO45.out.vals (by rw [<- HM4.out]; exact ho') hg';have HB6 := hd_ (HB5.out.trans (grown_below HTO5.out.own HB5.out.size hg'));clear ho' hg';go_wp2
           go_ret2
           exact ARes.of 3 _ _ (us5 ++ us4) (HS.out.trans (if_neg HNK.out)) (by rw [plain_append, HP5.out, HP3.out, HP4.out]) HTO6.out HB6.out
         · have HNK : Hid (most <= naks /\ (plain ts).filterMap (refd rs) ≠ []) := ⟨by omega, fun h => H3N.out (HE3.out.2 h)⟩;have hp3 : (0 : Int) < (m3 : Int) := by omega
           go_wp2
           go_ret2
           exact ARes.of 4 _ _ us3 (HS.out.trans (if_pos HNK.out)) HP3.out (by have := HTO34.out; rwa [HM3.out] at this) HB4.out
   · have HANS : Hid (ans rs (plain ts) naks most = (4, rejs rs [] (plain ts))) := ans_rej HA.out (fun h => h2 (by rw [HM2.out, <- plain_nil_iff, HP2.out, h]));have hp2 : (0 : Int) < (m2 : Int) := by omega
     clear h2;go_wp2
     go_ret2
     exact ARes.of 4 _ _ us2 HANS.out HP2.out (by have := HTO2.out; rwa [HM2.out] at this) HB2.out
 · rw [decide_eq_false ha] at MB;have HANS : Hid (ans rs (plain ts) naks most = (0, [])) := ans_no ha;clear ha;go_enter Tryz.func87, Tryz.ntmps87
   go_wp2_with fail
   refine MB.out.mono ?_;rintro e w1 ⟨rfl, hb1⟩;have HB1 := hd_ hb1;clear hb1 MB;go_wp2
   go_ret2
   exact ARes.of 0 _ _ [] HANS.out rfl (TO.nil _ _) HB1.out
end Go.Proofs.YtclplbapedmihaaGreat.Ng
namespace Go.Proofs.YtclplbapedmihaaGreat.Ng
set_option maxRecDepth 4000
open Go.RowKit Go.Shelf O
open Go.Maps (Keyed)
set_option linter.unusedVariables false
set_option linter.unusedSimpArgs false
def upd (f : Int -> Option Nat) (k : Int) (o : Option Nat) : Int -> Option Nat := fun x => if x = k then o else f x
def I64 (k : Int) : Prop := -9223372036854775808 <= k /\ k <= 9223372036854775807
theorem I64.wf {k : Int} (h : I64 k) : (Lit.int .i64 k).wf = true := by
 show (decide (-9223372036854775808 <= k) && decide (k <= 9223372036854775807)) = true;simp [h.1, h.2]
theorem law : Keyed Tryz.prog 3 := Maps.int_keyed Tryz.underlying3
theorem keyI {k : Int} (h : I64 k) : keyOf Tryz.prog 3 (.int .i64 k) = some (.int .i64 k) := Maps.keyOf_int_mk Tryz.underlying3 h.wf
theorem zeroI (w : World) : (zeroValue 3).run Tryz.prog w = .ok (.int .i64 0) w := by kernel_rfl
def FM (w : World) (b : Nat) (f : Int -> Option Nat) (n : Nat) : Prop :=
 ∃ D, w.ownsMap Tryz.prog 3 (plainElem (H := Unit) Tryz.prog 3) b n D /\ Maps.size D = n /\ ∀ k, I64 k -> Maps.has D (.int .i64 k) = (f k).isSome /\ D.atKey (.int .i64 k) (.lit (.int .i64 0)) = .lit (.int .i64 (((f k).getD 0 : Nat) : Int))
theorem own_tight {w : World} {b n : Nat} {D : DataW Unit} (h : w.ownsMap Tryz.prog 3 (plainElem Tryz.prog 3) b n D) : w.ownsMap Tryz.prog 3 (plainElem Tryz.prog 3) b (Maps.size D) D := by
 obtain ⟨es, clock, h1, h2, h3, h4⟩ := h;refine ⟨es, clock, h1, h2, ?_, h4⟩;rw [h4, Maps.size_eq, length_sorted];simp
theorem isKey (k : Int) : WideAt.IsKeyLit (.int .i64 k) := by unfold WideAt.IsKeyLit; trivial
theorem FM.lt {w : World} {b n : Nat} {f : Int -> Option Nat} (h : FM w b f n) : b < w.heap.size := by
 obtain ⟨D, h1, _⟩ := h;exact h1.lt
theorem FM.keep {w w' : World} {b n : Nat} {f : Int -> Option Nat} (h : FM w b f n) (hb : w'.heap[b]? = w.heap[b]?) : FM w' b f n := by
 obtain ⟨D, ⟨a, c, h1, h2⟩, h3⟩ := h;exact ⟨D, ⟨a, c, hb.trans h1, h2⟩, h3⟩
theorem FM.made (w : World) : FM (w.alloc (.map #[] 0)) w.heap.size (fun _ => none) 0 :=
 ⟨.map [], World.ownsMap_made _ _ _ _, rfl, fun k hk => ⟨rfl, rfl⟩⟩
theorem FM.look {w : World} {b n : Nat} {f : Int -> Option Nat} (h : FM w b f n) {k : Int} (hk : I64 k) :
 (Instr.lookup 163 (.map (some b)) (.int .i64 k) true).run Tryz.prog w = .ok (.tuple #[.int .i64 (((f k).getD 0 : Nat) : Int), .bool (f k).isSome]) w := by
 obtain ⟨D, ho, hs, hf⟩ := h;obtain ⟨v, ps, h1, h2⟩ := ho.look_ok law Tryz.underlying163 (zeroI w) (plainElem_int Tryz.underlying3 (a := 0) (by decide)) (keyI hk);obtain ⟨c, rfl, h3, h4⟩ := plainElem_int_inv Tryz.underlying3 h2;obtain ⟨g1, g2⟩ := hf k hk;have h5 := congrArg Prod.fst h3;simp only at h5;rw [g2] at h5;have h6 : (((f k).getD 0 : Nat) : Int) = c := by simpa using h5
 rw [<- h6, g1] at h1;exact h1
theorem FM.set {w : World} {b n : Nat} {f : Int -> Option Nat} (h : FM w b f n) {k : Int} (hk : I64 k) {i : Nat} (hi : (i : Int) <= 9223372036854775807) (hn : n < maxLen) :
 ∃ w', (Instr.mapUpdate 163 (.map (some b)) (.int .i64 k) (.int .i64 (i : Int))).run Tryz.prog w = .ok () w' /\ FM w' b (upd f k (some i)) (if (f k).isSome then n else n + 1) /\ w.mapTurned w' b := by
 obtain ⟨D, ho, hs, hf⟩ := h;have hw : (Lit.int .i64 (i : Int)).wf = true := I64.wf ⟨by omega, hi⟩;obtain ⟨w', hr, ho', ht⟩ := ho.store law Tryz.underlying163 hn (keyI hk) (plainElem_int Tryz.underlying3 hw);have hT := ho.tidy law;have hsz := Maps.size_put (k := .int .i64 k) hT (DataW.lit (.int .i64 (i : Int)));rw [(hf k hk).1, hs] at hsz;refine ⟨w', hr, ⟨_, ?_, hsz, fun x hx => ?_⟩, ht⟩
 · rw [<- hsz]; exact own_tight ho'
 · unfold upd
   by_cases e : x = k
   · subst e;rw [if_pos rfl, Maps.has_put_same hT.isMap (isKey _), Maps.atKey_put_same hT.isMap (isKey _)];exact ⟨rfl, rfl⟩
   · have hne : Lit.int .i64 x ≠ Lit.int .i64 k := fun h => e (by simpa using h)
     rw [if_neg e, Maps.has_put_other hne, Maps.atKey_put_other hne];exact hf x hx
theorem FM.below {w w' : World} {b n : Nat} {f : Int -> Option Nat} (h : FM w b f n) (hb : Below w.heap.size w w') : FM w' b f n := h.keep (hb.block _ h.lt)
theorem wpListIn_mapUpdate_fm {F : Fence} {nF : Nat} (w : World) {ops : Array Oper} {rest : List Oper} {o : Oper} {a : Act} {Q : Exit -> Act -> World -> Prop}
 (hg : o.guard = none) (m x v : Operand) (hop : o.op = Op.mapUpdate 163 m x v) (b n : Nat) (f : Int -> Option Nat) (k : Int) (i : Nat)
 (hm : a.eval m = .map (some b)) (hx : a.eval x = .int .i64 k) (hv : a.eval v = .int .i64 (i : Int)) (h : FM w b f n) (hk : I64 k) (hi : (i : Int) <= 9223372036854775807) (hn : n < maxLen)
 (hK : ∀ w', FM w' b (upd f k (some i)) (if (f k).isSome then n else n + 1) -> w.grownBy w' (some b) -> wpListIn F nF Tryz.prog ops Q rest (a.put o.dst undef) w') : wpListIn F nF Tryz.prog ops Q (o :: rest) a w := by
 refine wpListIn_plain hg fun K' hK' => ?_
 obtain ⟨w', hr, h1, h2⟩ := h.set hk hi hn;unfold Oper.wpIn;refine ⟨by simp [Oper.about, hop], ?_⟩;rw [Oper.semAt_plain F _ _ (by rw [hop]; intro c hc'; cases hc')];simp [execOp, hop, hm, hx, hv, hr, Result.andThen];exact hK' _ _ (hK w' h1 h2.grown)
section
variable {P : Program} {α : Type} {g : Operand} {ps : Array Tmp} {assign body : Code} {Q : Exit -> Act -> World -> Prop} {a : Act} {w : World}
theorem rangedI {B : Nat} (hB : B <= w.heap.size) {gf : Nat} {lb : Array Value} (hg : a.eval g = .func (.func gf) #[] lb) (eg : ∀ args w, (callFunc gf args).run P w = .ok (.enter gf args) w)
 (encs : α -> Array Value) (hps : ∀ x, (encs x).size = ps.size)
 (Good : List α -> α -> World -> Prop) (I Ix : List α -> World -> Prop) (Mid : List α -> α -> Act -> World -> Prop) (S : List α -> Prop)
 (tI : ∀ xs, Turns w.heap.size (I xs)) (tX : ∀ xs, Turns w.heap.size (Ix xs)) (tM : ∀ xs x b, Turns w.heap.size (Mid xs x b))
 (gI : ∀ xs A B, I xs A -> Gr A B -> I xs B) (h0 : I [] w)
 (hassign : ∀ l xs x W, I xs W -> Good xs x W -> assign.wpIn (Fence.wide.inRound l) 0 P
  (Exit.then (fun b W' => KeepsFrom w.heap.size W W' /\ Below B W W' /\ Mid xs x b W') (fun _ _ _ => False)) { tmps := (ps.zip (encs x)).foldl (fun t (p, v) => t.setIfInBounds p v) a.tmps, defers := [] } W)
 (hbody : ∀ l xs x b W, Mid xs x b W -> body.wpIn (Fence.wide.inRound l) 0 P (endsR w.heap.size B I Ix (xs ++ [x]) W) b W)
 (hseq : ∀ (l : Nat) (J Jx : List α -> World -> Prop) (W : World), Gr w W -> (∀ xs A, J xs A -> I xs A) -> (∀ xs A B, J xs A -> Gr A B -> J xs B) ->
  (∀ xs x V, J xs V -> Good xs x V -> YieldAt Fence.wide 0 P l (encs x) V fun e V' => (e = .returned (.bool true) /\ J (xs ++ [x]) V' /\ Below B V V') \/ (e = .returned (.bool false) /\ Jx (xs ++ [x]) V')) ->
  J [] W -> CallsIn Fence.wide 0 P gf (#[.func (.yield l) #[] #[]] ++ lb) W fun e V => (∃ v, e = .returned v) /\ ((∃ xs, S xs /\ J xs V) \/ (∃ xs, Jx xs V)))
 (hdone : ∀ D xs W, w.heap.size <= D -> S xs -> I xs W -> W.heap[D]? = some (.deferred (some [])) -> Q .normal { a with defers := { target := .collected D, args := #[] } :: a.defers } W)
 (hstop : ∀ D xs W, w.heap.size <= D -> Ix xs W -> W.heap[D]? = some (.deferred (some [])) -> Code.ret.wpIn Fence.wide 0 P Q { a with defers := { target := .collected D, args := #[] } :: a.defers } W) :
 (Code.rangeFunc g ps assign body).wpIn Fence.wide 0 P Q a w := by
 refine wpIn_rangeFunc fun fn _ => ?_
 let rc : LoopState -> Option Code -> Loop := fun st pe => { state := st, pending := pe, fn, tmps := a.tmps, params := ps, assign, body, defers := w.heap.size }
 let w1 : World := (w.alloc (.deferred (some []))).alloc (.loop (rc .ready none))
 have q1 : Gr w w1 := ((Gr.refl w).alloc _).alloc _;have hrec1 : w1.heap[w.heap.size + 1]? = some (.loop (rc .ready none)) := heap2_1' w _ _;have hdef1 : w1.heap[w.heap.size]? = some (.deferred (some [])) := heap2_0' w _ _
 let At : LoopState -> Option Code -> World -> Prop := fun st pe W => W.heap[w.heap.size + 1]? = some (.loop (rc st pe)) /\ W.heap[w.heap.size]? = some (.deferred (some []))
 have atGr : ∀ st pe A B, At st pe A -> Gr A B -> At st pe B := fun st pe A B h hq => ⟨heap_gr hq h.1, heap_gr hq h.2⟩
 have atPut : ∀ st pe st' pe' A, At st pe A -> At st' pe' (A.putObj (w.heap.size + 1) (.loop (rc st' pe'))) := fun st pe st' pe' A h =>
  ⟨World.putObj_heap_same (Array.getElem?_eq_some_iff.1 h.1).1, (World.putObj_heap_other (by omega)).trans h.2⟩
 have atKeep : ∀ st pe A B, At st pe A -> KeepsFrom w.heap.size A B -> At st pe B := fun st pe A B h hk => ⟨hk.same _ _ (by omega) h.1 rfl, hk.same _ _ (Nat.le_refl _) h.2 rfl⟩
 refine ⟨w.heap.size + 1, [{ target := .collected w.heap.size, args := #[] }], w1, { target := .fn (.func gf) lb, args := #[.func (.yield (w.heap.size + 1)) #[] #[]] }, w1, gf,
  #[.func (.yield (w.heap.size + 1)) #[] #[]] ++ lb, w1, run_enterLoop_outer _ _ _ _ _, ?_, fun _ _ => trivial, ?_, fun h => ?_, ?_⟩
 · simp only [resolve, hg];simp [go_sem]
 · simp [invoke, go_sem, eg]
 · cases h
 · refine (hseq (w.heap.size + 1) (fun xs W => I xs W /\ At .ready none W) (fun xs W => Ix xs W /\ At .done (some .ret) W) w1 q1 (fun xs A h => h.1)
    (fun xs A B h hq => ⟨gI xs A B h.1 hq, atGr _ _ A B h.2 hq⟩) ?_ ⟨gI [] w w1 h0 q1, hrec1, hdef1⟩).mono ?_
   · rintro xs x V ⟨hi, hat⟩ hgood;refine ⟨fn, _, assign, body, run_yield (P := P) (args := encs x) hat.1 (hps x), roundIn_of_wpIn trivial (wpIn_mono (hassign _ xs x V hi hgood) ?_)⟩;rintro e b V1 he;cases e with
     | normal =>
      obtain ⟨k1, b1, hm⟩ := he;have at1 := atKeep _ _ _ _ hat k1;have at2 := atPut _ _ .busy none _ at1;refine ⟨_, run_beginRound at1.1 rfl, wpIn_mono (hbody _ xs x b _ (tM xs x b _ _ _ _ hm (by omega) at1.1 rfl)) ?_⟩;rintro e b2 V2 hp;cases e with
      | normal =>
       obtain ⟨k2, b2', hi2⟩ := hp;have at3 := atKeep _ _ _ _ at2 k2;exact ⟨_, _, run_endRound (P := P) none at3.1, .inl ⟨rfl, ⟨tI _ _ _ _ _ hi2 (by omega) at3.1 rfl, atPut _ _ _ _ _ at3⟩,
        ((b1.trans (put_below _ (by omega) at1.1)).trans b2').trans (put_below _ (by omega) at3.1)⟩⟩
      | ret =>
       obtain ⟨k2, hi2⟩ := hp;have at3 := atKeep _ _ _ _ at2 k2;exact ⟨_, _, run_endRound (P := P) (some .ret) at3.1, .inr ⟨rfl, tX _ _ _ _ _ hi2 (by omega) at3.1 rfl, atPut _ _ _ _ _ at3⟩⟩
      | exit id => exact hp.elim
      | goto t => exact hp.elim
      | panic ch => exact hp.elim
      | outgrown => exact hp.elim
     | exit id => exact he.elim
     | goto t => exact he.elim
     | ret => exact he.elim
     | panic ch => exact he.elim
     | outgrown => exact he.elim
   · rintro e V ⟨⟨v, rfl⟩, (⟨xs, hS, hi, hat⟩ | ⟨xs, hi, hat⟩)⟩
     · exact ⟨none, _, run_endLoop (P := P) hat.1 (fun h => by cases h), hdone _ xs _ (Nat.le_refl _) hS (tI _ _ _ _ _ hi (by omega) hat.1 rfl) ((World.putObj_heap_other (by omega)).trans hat.2)⟩
     · exact ⟨some .ret, _, run_endLoop (P := P) hat.1 (fun h => by cases h), hstop _ xs _ (Nat.le_refl _) (tX _ _ _ _ _ hi (by omega) hat.1 rfl) ((World.putObj_heap_other (by omega)).trans hat.2)⟩
end
section
attribute [local go_sem] Oper.semAt_some
def encI (x : Nat × Tg) : Array Value := #[.int .i64 (x.1 : Int), .agg #[.int .i64 x.2.typ, x.2.val]]
theorem backward_any (a : Option Addr) (n c : Nat) (w : World) :
 Calls Tryz.prog 149 #[.slice a n c] w fun e w' => e = .returned (.func (.func 162) #[] #[.pointer (some ⟨w.heap.size, 0, none⟩)]) /\ w' = w.alloc (.cells #[.slice a n c] 26) := by
 go_enter Tryz.func149, Tryz.ntmps149
 go_wp2
 go_ret
 exact ⟨rfl, rfl⟩
def GoodI (ts : List Tg) (xs : List (Nat × Tg)) (x : Nat × Tg) : Prop := x.1 + xs.length + 1 = ts.length /\ ts[x.1]? = some x.2
set_option maxRecDepth 100000 in
set_option maxHeartbeats 4000000 in
theorem backward1_in (lp B0 bx : Nat) (w0 W : World) (a : Option Addr) (n c : Nat) (ts : List Tg) (hr : TR w0 (.slice a n c) n ts) (hn : n <= 65536) (hW : Below w0.heap.size w0 W) (hB0 : w0.heap.size <= B0)
 (J Jx : List (Nat × Tg) -> World -> Prop) (hJ : ∀ xs A B, J xs A -> Gr A B -> J xs B)
 (hY : ∀ xs x V, J xs V -> GoodI ts xs x -> YieldAt Fence.wide 0 Tryz.prog lp (encI x) V fun e V' => (e = .returned (.bool true) /\ J (xs ++ [x]) V' /\ Below B0 V V') \/ (e = .returned (.bool false) /\ Jx (xs ++ [x]) V'))
 (hbox : ∀ xs V, J xs V -> V.heap[bx]? = some (.cells #[.slice a n c] 26 (0, 0))) (h0 : J [] W) :
 CallsIn Fence.wide 0 Tryz.prog 162 #[.func (.yield lp) #[] #[], .pointer (some ⟨bx, 0, none⟩)] W fun e V => (∃ v, e = .returned v) /\ ((∃ xs, xs.length = n /\ J xs V) \/ (∃ xs, Jx xs V)) := by
 have HJ := hd_ hJ;have HY := hd_ hY;have H0 := hd_ h0;have HW := hd_ hW;have hcc : n <= c /\ c <= maxLen := by
  obtain ⟨_, _, es, h1, h2⟩ := hr.shape;simp only [Value.slice.injEq] at es;obtain ⟨_, _, rfl⟩ := es;exact ⟨h1, h2⟩
 obtain ⟨hc1, hc2⟩ := hcc;unfold maxLen at hc2;have HR := hd_ hr;have HLN := hd_ hr.len;have HBX := hd_ hbox;have kbx := cell1 (hbox _ _ h0);clear hJ hY h0 hW hbox hr;refine callsIn_of_wp Tryz.func162 rfl trivial ?_ rfl;simp only [Tryz.ntmps162, List.size_toArray, List.length_cons, List.length_nil, Nat.reduceAdd, Nat.reduceSub, Array.replicate_succ, Array.replicate_zero, List.push_toArray, List.append_toArray, List.nil_append, List.cons_append]
 gi_wp2
 clear kbx
 gi_loopw [3] (fun iv wr => ∃ (m : Nat) (z : Int) (xs : List (Nat × Tg)), iv = .int .i64 z /\ z + 1 = (m : Int) /\ m <= n /\ xs.length + m = n /\ Hid (J xs wr) /\ Hid (Below w0.heap.size w0 wr)) (fun iv _ => (intOf iv + 1).toNat)
 case atStart => exact ⟨n, (n : Int) - 1, [], by go_num, by omega, Nat.le_refl _, by simp, H0, HW⟩
 case round =>
  obtain ⟨m, z, xs, rfl, hz, hmn, hxs, HJX, HLOW⟩ := hrel
  by_cases hm : m = 0
  · obtain rfl : z = -1 := by omega
    have HX : Hid (xs.length = n) := by show _ = _; omega
    clear hz hxs
    gi_wp2
    go_end0
    exact ⟨⟨_, rfl⟩, .inl ⟨xs, HX.out, HJX.out⟩⟩
  · obtain ⟨k, rfl⟩ : ∃ k, m = k + 1 := ⟨m - 1, by omega⟩;obtain rfl : z = (k : Int) := by omega
    have hk : k < ts.length := by rw [HLN.out]; omega
    obtain ⟨b, o, ea, _, hcel⟩ := (HR.out.below HLOW.out).cells (by omega);subst ea;obtain ⟨c0, c1⟩ := hcel k hk;obtain ⟨x, hx⟩ : ∃ x, x = ts[k] := ⟨_, rfl⟩;rw [<- hx] at c0 c1;have HG : Hid (GoodI ts xs (k, x)) := ⟨by rw [HLN.out]; show k + xs.length + 1 = n; omega, by rw [hx]; exact List.getElem?_eq_getElem hk⟩;have HXS : Hid (xs.length + (k + 1) = n) := hxs;have kb := cell1 (HBX.out _ _ HJX.out);obtain ⟨fn, tmps, assign, body, hy, hR⟩ := HY.out xs (k, x) wr HJX.out HG.out
    dsimp only [encI] at hy
    have hkn : k < n := by omega
    have hkn2 : (k : Int) < (n : Int) := by omega
    clear hcel hx hk hz hxs hm
    gi_wp2
    refine ⟨rfl, hR.mono ?_⟩;rintro e w5 (⟨rfl, hj5, hb5⟩ | ⟨rfl, hx5⟩)
    · have HJ5 := hd_ hj5;have HLOW5 := hd_ (HLOW.out.trans (hb5.mono hB0));clear hj5 hb5 hy hR c0 c1 kb
      gi_wp2
      go_roundw
      case rel =>
       have e1 : (xs ++ [(k, x)]).length + k = n := by have := HXS.out; rw [List.length_append, List.length_singleton]; omega
       have hle : k <= n := by omega
       first | exact ⟨k, (k : Int) - 1, _, by go_num, by omega, hle, e1, HJ5, HLOW5⟩ | ((repeat apply Exists.intro); exact ⟨⟨k, (k : Int) - 1, _, by go_num, by omega, hle, e1, HJ5, HLOW5⟩, rfl⟩)
      case measure => first | (simp [intOf]; omega) | simp [intOf]
    · have HX5 := hd_ hx5;clear hx5 hy hR c0 c1 kb
      gi_wp2
      refine bodyPost_ret (results_none rfl _ _ _) rfl ?_;exact ⟨⟨_, rfl⟩, .inr ⟨_, HX5.out⟩⟩
end
end Go.Proofs.YtclplbapedmihaaGreat.Ng
namespace Go.Proofs.YtclplbapedmihaaGreat.Ng
set_option maxRecDepth 4000
open Go.RowKit Go.Shelf O
set_option linter.unusedVariables false
set_option linter.unusedSimpArgs false
def fIdx : List Tg -> Nat -> Int -> Option Nat
 | [], _ => fun _ => none
 | t :: l, i => upd (fIdx l (i + 1)) t.typ (some i)
theorem fIdx_drop (ts : List Tg) (i : Nat) (h : i < ts.length) : fIdx (ts.drop i) i = upd (fIdx (ts.drop (i + 1)) (i + 1)) ts[i].typ (some i) := by
 rw [List.drop_eq_getElem_cons h]; rfl
theorem fIdx_spec : ∀ (l : List Tg) (off : Nat) (k : Int), (fIdx l off k = none /\ (plain l).find? (fun x => decide (x.1 = k)) = none) \/
 ∃ (i : Nat) (h : i < l.length), fIdx l off k = some (off + i) /\ l[i].typ = k /\ (plain l).find? (fun x => decide (x.1 = k)) = some l[i].plain
 | [], _, _ => .inl ⟨rfl, rfl⟩
 | t :: l, off, k => by
  by_cases e : t.typ = k
  · refine .inr ⟨0, by simp, ?_, e, ?_⟩
    · show upd _ _ _ _ = _;unfold upd;rw [if_pos e.symm]; rfl
    · show (t.plain :: plain l).find? _ = _;rw [List.find?_cons, show decide (t.plain.1 = k) = true from decide_eq_true e]; rfl
  · have e1 : fIdx (t :: l) off k = fIdx l (off + 1) k := by
     show upd _ _ _ _ = _;unfold upd;rw [if_neg (fun h => e h.symm)]
    have e2 : (plain (t :: l)).find? (fun x => decide (x.1 = k)) = (plain l).find? (fun x => decide (x.1 = k)) := by
     show (t.plain :: plain l).find? _ = _;rw [List.find?_cons, show decide (t.plain.1 = k) = false from decide_eq_false e]
    rw [e1, e2]
    rcases fIdx_spec l (off + 1) k with h | ⟨i, h, h1, h2, h3⟩
    · exact .inl h
    · exact .inr ⟨i + 1, by simpa using h, by rw [h1]; congr 1; omega, h2, h3⟩
set_option maxRecDepth 20000 in
set_option maxHeartbeats 2000000 in
theorem taught1_any (gm gl mb cnt : Nat) (la : Option Addr) (ln lc : Nat) (ts : List Tg) (T : Int) (A : Option Addr) (L C : Nat) (l : List UInt8) (hl : l.length = L) (hL : L <= 1000) (w : World) (hb : Bs w (.slice A L C) l) (hT : I64 T)
 (hr : TR w (.slice la ln lc) ln ts) (hm : ∀ x ∈ ts, x.l.length <= 1000) (hgm : w.heap[gm]? = some (.cells #[.map (some mb)] 163)) (hgl : w.heap[gl]? = some (.cells #[.slice la ln lc] 26)) (hfm : FM w mb (fIdx ts 0) cnt) :
 Calls Tryz.prog 150 #[.agg #[.int .i64 T, .slice A L C], .pointer (some ⟨gm, 0, none⟩), .pointer (some ⟨gl, 0, none⟩)] w fun e w' => Tells (some (takeOver (plain ts) (T, l))) w' e /\ OB none w w' := by
 have hal : Gr w ((w.alloc (.cells #[.int .i64 T, .slice A L C] 69)).alloc (.cells #[.int .i64 0, .slice none 0 0] 69)) := ((Gr.refl w).alloc _).alloc _;have HAL := hd_ hal;have HG0 : Hid (((w.alloc (.cells #[.int .i64 T, .slice A L C] 69)).alloc (.cells #[.int .i64 0, .slice none 0 0] 69)).heap[w.heap.size]? = some (.cells #[.int .i64 T, .slice A L C] 69)) := heap2_0' _ _ _;have HG1 : Hid (((w.alloc (.cells #[.int .i64 T, .slice A L C] 69)).alloc (.cells #[.int .i64 0, .slice none 0 0] 69)).heap[w.heap.size + 1]? = some (.cells #[.int .i64 0, .slice none 0 0] 69)) := heap2_1' _ _ _;obtain ⟨k0, k1⟩ := copy_cells HG0.out;have km := cell1 (heap_gr hal hgm);have kl := cell1 (heap_gr hal hgl);have lk := (hfm.below hal).look hT;have HB := hd_ hb;have HR := hd_ (hr.below hal);have HM := hd_ hm;have hln := hr.len;have hlc : ln <= lc /\ lc <= maxLen := by
  obtain ⟨_, _, es, h1, h2⟩ := hr.shape;simp only [Value.slice.injEq] at es;obtain ⟨_, _, rfl⟩ := es;exact ⟨h1, h2⟩
 obtain ⟨hc1, hc2⟩ := hlc;unfold maxLen at hc2
 rcases fIdx_spec ts 0 T with ⟨e1, e2⟩ | ⟨i, hi, e1, e2, e3⟩
 · rw [e1] at lk;simp only [Option.getD_none, Option.isSome_none] at lk;have HOUT : Hid (takeOver (plain ts) (T, l) = (T, l)) := by
    show _ = _;unfold takeOver;rw [e2]
   clear hal hb hr hm hgm hgl hfm e1 e2 hT;go_enter Tryz.func150, Tryz.ntmps150
   go_wp2_with (refine wpList_store_whole rfl 69 (.tmp 4) (.tmp 20) rfl (w.heap.size + 1) [.int .i64 T, .slice A L C] rfl rfl 69 [.int .i64 0, .slice none 0 0] HG1.out O.sizeT rfl (O.one_tag _ rfl) ?_)
   intro w3 h3 ho3;have H3 := hd_ h3;have HB3 : Hid (Below w.heap.size w w3) := ho3.below _ _ (Nat.le_succ _) HAL.out;clear h3 ho3;go_wp2
   refine bodyPost_ret (v := .tuple #[.agg #[.int .i64 T, .slice A L C], .bool true]) (results_cell_tmp_row (P := Tryz.prog) (fn := Tryz.f150) rfl _ _ (w.heap.size + 1) 69 _ (0, 0) _ rfl H3.out Tryz.underlying69 rfl (by kernel_rfl)) rfl ?_;exact ⟨⟨T, A, L, C, true, l, rfl, by rw [HOUT.out]; rfl, fun _ => ⟨hl, hL, HB.out.below HB3.out⟩⟩, HB3.out⟩
 · rw [e1, Nat.zero_add] at lk;simp only [Option.getD_some, Option.isSome_some] at lk;have HOUT : Hid (takeOver (plain ts) (T, l) = (T, ts[i].l)) := by
    show _ = _;unfold takeOver;rw [e3];rfl
   obtain ⟨b, o, ea, _, hcel⟩ := HR.out.cells (by omega);subst ea;obtain ⟨c0, c1⟩ := hcel i hi;have HV := hd_ (hr.val i hi);have hi2 : i < ln := by omega
   have hi3 : (i : Int) < (ln : Int) := by omega
   rw [e2] at c0;obtain ⟨A2, L2, C2, hv, hL2, hLC, hCm⟩ := HV.out.sl;rw [hv] at c1;have HE := hd_ hv;have HL2 : Hid (ts[i].l.length = L2) := hL2;have HLM : Hid (ts[i].l.length <= 1000) := HM.out _ (List.getElem_mem hi);have HRA : Hid (((w.alloc (.cells #[.int .i64 T, .slice A L C] 69)).alloc (.cells #[.int .i64 0, .slice none 0 0] 69)).rangeAt b (o + i * 2) [.int .i64 T, .slice A2 L2 C2]) := by
    intro j u hj
    match j, hj with
    | 0, hj => obtain rfl := Option.some.inj hj; exact c0
    | 1, hj => obtain rfl := Option.some.inj hj; exact c1
   clear hal hb hr hm hgm hgl hfm e1 e2 e3 hT hcel hv hL2 hLC hCm;go_enter Tryz.func150, Tryz.ntmps150
   go_wp2_with (first | (with_reducible refine wpList_load_mid rfl 69 (.tmp 18) rfl b (o + i * 2) rfl [.int .i64 T, .slice A2 L2 C2] _ HRA.out Tryz.underlying69 rfl sizeT ?_) | (refine wpList_store_whole rfl 69 (.tmp 4) (.tmp 19) rfl (w.heap.size + 1) [.int .i64 T, .slice A2 L2 C2] rfl rfl 69 [.int .i64 0, .slice none 0 0] HG1.out O.sizeT rfl (O.one_tag _ rfl) ?_))
   intro w3 h3 ho3;have H3 := hd_ h3;have HB3 : Hid (Below w.heap.size w w3) := ho3.below _ _ (Nat.le_succ _) HAL.out;have HV3 : Hid (Bs w3 (.slice A2 L2 C2) ts[i].l) := by
    have h1 := HV.out.below HB3.out
    rwa [HE.out] at h1
   clear h3 ho3;go_wp2
   refine bodyPost_ret (v := .tuple #[.agg #[.int .i64 T, .slice A2 L2 C2], .bool true]) (results_cell_tmp_row (P := Tryz.prog) (fn := Tryz.f150) rfl _ _ (w.heap.size + 1) 69 _ (0, 0) _ rfl H3.out Tryz.underlying69 rfl (by kernel_rfl)) rfl ?_;exact ⟨⟨T, A2, L2, C2, true, ts[i].l, rfl, by rw [HOUT.out]; rfl, fun _ => ⟨HL2.out, by rw [<- HL2.out]; exact HLM.out, HV3.out⟩⟩, HB3.out⟩
structure TI (w : World) (la : Option Addr) (ln lc : Nat) (ts : List Tg) (xs : List (Nat × Tg)) (W : World) : Prop where
 few : xs.length <= ts.length
 low : Below w.heap.size w W
 c0 : W.heap[w.heap.size]? = some (.cells #[.slice la ln lc] 26)
 c3 : W.heap[w.heap.size + 3]? = some (.cells #[.slice la ln lc] 26)
 c2 : W.heap[w.heap.size + 2]? = some (.cells #[.map (some (w.heap.size + 1))] 163 (0, 0))
 fm : ∃ cnt, cnt <= xs.length /\ FM W (w.heap.size + 1) (fIdx (ts.drop (ts.length - xs.length)) (ts.length - xs.length)) cnt
theorem TI.turns (w : World) (la : Option Addr) (ln lc : Nat) (ts : List Tg) (B : Nat) (hB : w.heap.size + 3 <= B) (xs : List (Nat × Tg)) : Turns B (TI w la ln lc ts xs) := fun A l o o' h hl ho hc => by
 refine ⟨h.few, turns_below (by omega) A l o o' h.low hl ho hc, turns_block A l o o' h.c0 hl ho hc, turns_block A l o o' h.c3 hl ho hc, turns_block A l o o' h.c2 hl ho hc, ?_⟩;obtain ⟨cnt, h1, h2⟩ := h.fm;exact ⟨cnt, h1, h2.keep (World.putObj_heap_other (by omega))⟩
theorem TI.gr {w : World} {la : Option Addr} {ln lc : Nat} {ts : List Tg} {xs : List (Nat × Tg)} {A B : World} (h : TI w la ln lc ts xs A) (hq : Gr A B) : TI w la ln lc ts xs B := by
 refine ⟨h.few, h.low.trans (Below.mono hq h.low.size), heap_gr hq h.c0, heap_gr hq h.c3, heap_gr hq h.c2, ?_⟩;obtain ⟨cnt, h1, h2⟩ := h.fm;exact ⟨cnt, h1, h2.below hq⟩
def MidI (w : World) (la : Option Addr) (ln lc : Nat) (ts : List Tg) (q0 : Value) (xs : List (Nat × Tg)) (x : Nat × Tg) (b : Act) (W : World) : Prop :=
 TI w la ln lc ts xs W /\ GoodI ts xs x /\ ∃ g, w.heap.size + 3 <= g /\ W.heap[g]? = some (.cells #[.int .i64 x.2.typ, x.2.val] 69 (0, 0)) /\
  ∃ t0 t1 t2 t4 t8 t9 t10 t11 t12 t13 t14 t15 t16 t17 t18 t19, b = { tmps := #[t0, t1, t2, .pointer (some ⟨w.heap.size, 0, none⟩), t4, .pointer (some ⟨w.heap.size + 2, 0, none⟩), .int .i64 (x.1 : Int), .pointer (some ⟨g, 0, none⟩), t8, t9, t10, t11, t12, t13, t14, t15, t16, t17, t18, t19], defers := [] }
theorem MidI.turns (w : World) (la : Option Addr) (ln lc : Nat) (ts : List Tg) (q0 : Value) (B : Nat) (hB : w.heap.size + 3 <= B) (xs : List (Nat × Tg)) (x : Nat × Tg) (b : Act) : Turns B (MidI w la ln lc ts q0 xs x b) := fun A l o o' h hl ho hc => by
 obtain ⟨h1, h2, g, h3, h4, h5⟩ := h;exact ⟨TI.turns w la ln lc ts B hB xs A l o o' h1 hl ho hc, h2, g, h3, turns_block A l o o' h4 hl ho hc, h5⟩
section
attribute [local go_sem] Oper.semAt_some
set_option maxRecDepth 100000 in
set_option maxHeartbeats 4000000 in
theorem taught_any (ao : Option Addr) (n c : Nat) (qs : List Tg) (la : Option Addr) (ln lc : Nat) (ts : List Tg) (w : World) (hra : TR w (.slice ao n c) n qs) (hrt : TR w (.slice la ln lc) ln ts) (hn : n <= 1000) (hln : ln <= 1000)
 (hma : ∀ x ∈ qs, x.l.length <= 1000) (hmt : ∀ x ∈ ts, x.l.length <= 1000) (hia : ∀ x ∈ qs, I64 x.typ) (hit : ∀ x ∈ ts, I64 x.typ) :
 Calls Tryz.prog 112 #[.slice ao n c, .slice la ln lc] w fun e w' => ∃ v us, e = .returned v /\ plain us = (plain qs).map (takeOver (plain ts)) /\ TO w' w.heap.size v us /\ Below w.heap.size w w' := by
 have HRA := hd_ hra;have HRT := hd_ hrt;have HMA := hd_ hma;have HMT := hd_ hmt;have HIA := hd_ hia;have HIT := hd_ hit;have HLT := hd_ hrt.len;have HLA := hd_ hra.len;clear hra hrt hma hmt hia hit;refine (callsIn_wide (n := 0)).1 ?_;refine callsIn_of_wp_marks Tryz.func112 rfl trivial ?_ rfl;simp only [Tryz.ntmps112, List.size_toArray, List.length_cons, List.length_nil, Nat.reduceAdd, Nat.reduceSub, Array.replicate_succ, Array.replicate_zero, List.push_toArray, List.append_toArray, List.nil_append, List.cons_append];have hmm := @run_makeMap Tryz.prog
 gi_wp2_with (refine ⟨trivial, rfl, ?_⟩; refine (callsIn_wide.2 (backward_any _ _ _ _)).mono ?_; rintro e w1 ⟨rfl, rfl⟩)
 clear hmm;simp only [Nat.add_assoc, Nat.reduceAdd];have hsz4 : ((((w.alloc (.cells #[.slice la ln lc] 26)).alloc (.map #[] 0)).alloc (.cells #[.map (some (w.heap.size + 1))] 163)).alloc (.cells #[.slice la ln lc] 26)).heap.size = w.heap.size + 4 := by simp
 have hq4 : Below w.heap.size w ((((w.alloc (.cells #[.slice la ln lc] 26)).alloc (.map #[] 0)).alloc (.cells #[.map (some (w.heap.size + 1))] 163)).alloc (.cells #[.slice la ln lc] 26)) := ((((Gr.refl w).alloc _).alloc _).alloc _).alloc _;have b0 : ((((w.alloc (.cells #[.slice la ln lc] 26)).alloc (.map #[] 0)).alloc (.cells #[.map (some (w.heap.size + 1))] 163)).alloc (.cells #[.slice la ln lc] 26)).heap[w.heap.size]? = some (.cells #[.slice la ln lc] 26) := by
  refine heap_gr (((Gr.refl _).alloc _).alloc _ |> fun h => h.alloc _) (?_ : (w.alloc (.cells #[.slice la ln lc] 26)).heap[w.heap.size]? = some (.cells #[.slice la ln lc] 26));exact heap_alloc_last _ _
 have b1 : FM ((((w.alloc (.cells #[.slice la ln lc] 26)).alloc (.map #[] 0)).alloc (.cells #[.map (some (w.heap.size + 1))] 163)).alloc (.cells #[.slice la ln lc] 26)) (w.heap.size + 1) (fun _ => none) 0 := by
  have h := FM.made (w.alloc (.cells #[.slice la ln lc] 26));rw [World.size_alloc] at h;exact h.below (((Gr.refl _).alloc _).alloc _)
 have b2 : ((((w.alloc (.cells #[.slice la ln lc] 26)).alloc (.map #[] 0)).alloc (.cells #[.map (some (w.heap.size + 1))] 163)).alloc (.cells #[.slice la ln lc] 26)).heap[w.heap.size + 2]? = some (.cells #[.map (some (w.heap.size + 1))] 163) := by
  have h := heap_alloc_last ((w.alloc (.cells #[.slice la ln lc] 26)).alloc (.map #[] 0)) (.cells #[.map (some (w.heap.size + 1))] 163);rw [World.size_alloc, World.size_alloc] at h;exact heap_gr ((Gr.refl _).alloc _) h
 have b3 : ((((w.alloc (.cells #[.slice la ln lc] 26)).alloc (.map #[] 0)).alloc (.cells #[.map (some (w.heap.size + 1))] 163)).alloc (.cells #[.slice la ln lc] 26)).heap[w.heap.size + 3]? = some (.cells #[.slice la ln lc] 26) := by
  have h := heap_alloc_last (((w.alloc (.cells #[.slice la ln lc] 26)).alloc (.map #[] 0)).alloc (.cells #[.map (some (w.heap.size + 1))] 163)) (.cells #[.slice la ln lc] 26);rw [World.size_alloc, World.size_alloc, World.size_alloc] at h;exact h
 have H0 : Hid (TI w la ln lc ts [] ((((w.alloc (.cells #[.slice la ln lc] 26)).alloc (.map #[] 0)).alloc (.cells #[.map (some (w.heap.size + 1))] 163)).alloc (.cells #[.slice la ln lc] 26))) := ⟨Nat.zero_le _, hq4, b0, b3, b2, 0, Nat.le_refl _, by rw [List.length_nil, Nat.sub_zero, List.drop_of_length_le (Nat.le_refl _)]; exact b1⟩;have HQ4 := hd_ hq4;have HB3 := hd_ b3;generalize ((((w.alloc (.cells #[.slice la ln lc] 26)).alloc (.map #[] 0)).alloc (.cells #[.map (some (w.heap.size + 1))] 163)).alloc (.cells #[.slice la ln lc] 26)) = w4 at hsz4 H0 HQ4 HB3 ⊢;have hle4 : w.heap.size + 3 <= w4.heap.size := by omega
 have HSZ := hd_ hsz4;clear b0 b1 b2 b3 hq4 hsz4;refine rangedI (B := w.heap.size) (by omega) (gf := 162) (lb := #[.pointer (some ⟨w.heap.size + 3, 0, none⟩)]) rfl (enters_of Tryz.func162 (by kernel_rfl) rfl) encI (fun _ => rfl)
  (fun xs x _ => GoodI ts xs x) (TI w la ln lc ts) (fun _ _ => False) (MidI w la ln lc ts .nilFunc) (fun xs => xs.length = ln) (TI.turns w la ln lc ts _ hle4) (fun _ _ _ _ _ h _ _ _ => h) (MidI.turns w la ln lc ts _ _ hle4) (fun _ _ _ h hq => h.gr hq) H0.out ?assign ?body ?seq ?done ?stop
 case seq =>
  intro lp J Jx W hW hJI hJ hY h0;exact backward1_in lp w.heap.size (w.heap.size + 3) w W la ln lc ts HRT.out (by omega) (HQ4.out.trans (Below.mono hW (by omega))) (Nat.le_refl _) J Jx hJ hY (fun xs V h => (hJI xs V h).c3) h0
 case assign =>
  intro lp xs x W hI hG;obtain ⟨i, x⟩ := x;obtain ⟨T, v, lx⟩ := x;have hx : ts[i]? = some ⟨T, v, lx⟩ := hG.2;obtain ⟨hi, hxi⟩ := List.getElem?_eq_some_iff.1 hx;have hbv := HRT.out.val i hi;rw [hxi] at hbv;obtain ⟨A, L, C, rfl, _⟩ := hbv.sl;have HI := hd_ hI;have HG := hd_ hG;clear hI hG hx hxi hbv;simp only [encI]
  gi_wp2
  have hal : Gr W (W.alloc (.cells #[.int .i64 T, .slice A L C] 69)) := (Gr.refl W).alloc _;have hg : w.heap.size + 3 < W.heap.size := (Array.getElem?_eq_some_iff.1 HI.out.c3).1;exact ⟨(KeepsOthers.alloc _ _).from _, Below.alloc (Below.refl _ W) HI.out.low.size _, HI.out.gr hal, HG.out, W.heap.size, by omega, heap_alloc_last _ _, _, _, _, _, _, _, _, _, _, _, _, _, _, _, _, _, rfl⟩
 case body =>
  rintro lp xs x b W ⟨hI, hG, gx, hgl, hg, t0, t1, t2, t4, t8, t9, t10, t11, t12, t13, t14, t15, t16, t17, t18, t19, rfl⟩;obtain ⟨i, x⟩ := x;obtain ⟨T, v, lx⟩ := x;obtain ⟨hG1, hG2⟩ := hG;obtain ⟨hi, hxi⟩ := List.getElem?_eq_some_iff.1 hG2;have hTI : I64 T := by
   have h := HIT.out _ (List.getElem_mem hi);rw [hxi] at h;exact h
  obtain ⟨cnt, hcnt, hfm⟩ := hI.fm;have hlen : xs.length <= 1000 := by have := hI.few; rw [HLT.out] at this; omega
  have km := cell1 hI.c2;obtain ⟨k0, k1⟩ := copy_cells hg;simp only at hG1 k0 k1;have hi64 : (i : Int) <= 9223372036854775807 := by rw [HLT.out] at hi; omega
  have HFM := hd_ hfm;have HI := hd_ hI;have HGG : Hid (i + xs.length + 1 = ts.length) := hG1;have HXI : Hid (ts[i].typ = T) := by show _ = _; rw [hxi]
  have HHI := hd_ hi;have hmx : cnt < maxLen := by unfold maxLen; omega
  have hcl : cnt <= xs.length := hcnt;clear hI hg hfm hG1 hG2 hxi hcnt
  gi_wp2_with (refine wpListIn_mapUpdate_fm _ rfl (.tmp 13) (.tmp 15) (.tmp 16) rfl (w.heap.size + 1) cnt _ T i rfl rfl rfl HFM.out hTI hi64 hmx ?_; intro w3 hfm3 hg3)
  have e1 : ts.length - (xs ++ [((i, ⟨T, v, lx⟩) : Nat × Tg)]).length = i := by rw [List.length_append, List.length_singleton]; have := HGG.out; omega
  have e2 : ts.length - xs.length = i + 1 := by have := HGG.out; omega
  have hne : ∀ k, k ≠ w.heap.size + 1 -> ∀ o, W.heap[k]? = some o -> w3.heap[k]? = some o := fun k hk o ho => (hg3.block k (Array.getElem?_eq_some_iff.1 ho).1 (fun e => hk (Option.some.inj e))).trans ho
  refine ⟨KeepsFrom.of_grownBy hg3 (fun j e => by obtain rfl := Option.some.inj e; omega), (Below.refl _ _).grown hg3 HI.out.low.size (fun k e => by obtain rfl := Option.some.inj e; omega), ⟨?_, ?_, ?_, ?_, ?_, ?_⟩⟩
  · rw [List.length_append, List.length_singleton]; have := HGG.out; omega
  · exact HI.out.low.trans ((Below.refl _ _).grown hg3 HI.out.low.size (fun k e => by obtain rfl := Option.some.inj e; omega))
  · exact hne _ (by omega) _ HI.out.c0
  · exact hne _ (by omega) _ HI.out.c3
  · exact hne _ (by omega) _ HI.out.c2
  · rw [e1, fIdx_drop ts i HHI.out, HXI.out];rw [e2] at hfm3;refine ⟨_, ?_, hfm3⟩;rw [List.length_append, List.length_singleton];split <;> omega
 case done =>
  intro D xs W hD hS hI hK;obtain ⟨cnt, hcnt, hfm⟩ := hI.fm;rw [HLT.out, hS, Nat.sub_self, List.drop_zero] at hfm;have hgm := hI.c2;have hgl := hI.c0;have hmlt := hfm.lt;have hclt : w.heap.size + 3 < W.heap.size := (Array.getElem?_eq_some_iff.1 hI.c3).1;have WK := hd_ (walk_any w W none (fun _ h => by cases h) (fun _ h => by cases h) hI.low ao n c qs HRA.out hn 150 #[.pointer (some ⟨w.heap.size + 2, 0, none⟩), .pointer (some ⟨w.heap.size, 0, none⟩)] (fun _ _ => rfl)
   (fun _ V => V.heap[w.heap.size + 2]? = some (.cells #[.map (some (w.heap.size + 1))] 163) /\ V.heap[w.heap.size]? = some (.cells #[.slice la ln lc] 26) /\ FM V (w.heap.size + 1) (fIdx ts 0) cnt)
   (fun _ w1 w2 h hb => ⟨by rw [hb.block _ (by omega)]; exact h.1, by rw [hb.block _ (by omega)]; exact h.2.1, h.2.2.keep (hb.block _ (by omega))⟩) ⟨hgm, hgl, hfm⟩ (outAt (plain qs) fun _ o => some (takeOver (plain ts) o))
   (fun j hj T A L C wr hT hv hbs hbw hsz' hJ => by
    have hL : qs[j].l.length = L := by
     obtain ⟨_, _, es, _⟩ := hbs.shape;simp only [Value.slice.injEq] at es;exact es.2.1.symm
    have := HMA.out qs[j] (List.getElem_mem hj);have hTi := HIA.out qs[j] (List.getElem_mem hj);rw [<- hT] at hTi;refine (taught1_any (w.heap.size + 2) w.heap.size (w.heap.size + 1) cnt la ln lc ts T A L C qs[j].l hL (by omega) wr hbs hTi (HRT.out.below hbw) HMT.out hJ.1 hJ.2.1 hJ.2.2).mono ?_;rintro e w' ⟨h1, h2⟩;refine ⟨?_, h2, heap_below hJ.1 h2, heap_below hJ.2.1 h2, hJ.2.2.below h2⟩;rw [outAt_get _ j hj, <- hT];exact h1))
  have HE : Hid (outs (outAt (plain qs) fun _ o => some (takeOver (plain ts) o)) n = (plain qs).map (takeOver (plain ts))) := by
   show _ = _;rw [outs_all _ _ (by rw [plain_length]; exact HLA.out), scanL_plain];simp
  have HLOW := hd_ hI.low;have HKK := hd_ hK;have HDD := hd_ hD;clear hI hfm hgm hgl hS hK hD hcnt
  gi_wp2_with (refine ⟨trivial, rfl, ?_⟩; refine (callsIn_wide.2 WK.out).mono ?_; rintro e w5 ⟨v, us, rfl, h1, h2, h3, _⟩)
  have hK2 := heap_below HKK.out h3;have hto := h2.mono (base' := w.heap.size) HLOW.out.size;rw [HE.out] at h1;refine ⟨by simp, .inl ⟨_, _, rfl, run_takeDeferred hK2, ?_⟩⟩;refine ⟨_, results_tmp rfl _ _ _, v, us, rfl, h1, ⟨turns_row (B := w4.heap.size) _ D _ (.deferred none) hto.own HDD.out hK2 rfl, fun y hy => turns_row (B := w4.heap.size) _ D _ (.deferred none) (hto.vals y hy) HDD.out hK2 rfl⟩, ?_⟩;exact turns_below (B := w4.heap.size) (by omega) _ D _ (.deferred none) (HLOW.out.trans (Below.mono h3 HLOW.out.size)) HDD.out hK2 rfl
 case stop =>
  intro D xs W hD hX hK;exact hX.elim
end
end Go.Proofs.YtclplbapedmihaaGreat.Ng
namespace Go.Proofs.YtclplbapedmihaaGreat.Ng
set_option maxRecDepth 4000
open Go.RowKit O
set_option linter.unusedVariables false
set_option linter.unusedSimpArgs false
theorem bytes_ne {l m : List UInt8} (h : ¬ l = m) : (l == m) = false := beq_eq_false_iff_ne.2 h
theorem bytesEqual_any (a b : Option Addr) (n n' c c' : Nat) (l m : List UInt8) (w : World) (h : Bs w (.slice a n c) l) (h' : Bs w (.slice b n' c') m) :
 Calls Tryz.prog 88 #[.slice a n c, .slice b n' c'] w fun e w' => e = .returned (.bool (decide (l = m))) /\ w = w' := by
 have s1 := run_string_of (P := Tryz.prog) 30 9 5 Tryz.underlying30 Tryz.underlying5 Tryz.underlying9 h;have s2 := run_string_of (P := Tryz.prog) 30 9 5 Tryz.underlying30 Tryz.underlying5 Tryz.underlying9 h'
 by_cases hd : l = m
 · have e : decide (l = m) = true := decide_eq_true hd;rw [e];subst hd;clear h h' e;go_enter Tryz.func88, Tryz.ntmps88
   go_wp2
   go_ret
   exact ⟨rfl, rfl⟩
 · have e : decide (l = m) = false := decide_eq_false hd;rw [e];have hb := bytes_ne hd;clear h h' hd e;go_enter Tryz.func88, Tryz.ntmps88
   go_wp2
   go_ret
   exact ⟨rfl, rfl⟩
theorem equal_any (T U : Int) (a b : Option Addr) (n n' c c' : Nat) (l m : List UInt8) (w : World) (h : Bs w (.slice a n c) l) (h' : Bs w (.slice b n' c') m) :
 Calls Tryz.prog 152 #[.agg #[.int .i64 T, .slice a n c], .agg #[.int .i64 U, .slice b n' c']] w fun e w' => e = .returned (.bool (decide ((T, l) = (U, m)))) /\ Below w.heap.size w w' := by
 have hb : Below w.heap.size w ((w.alloc (.cells #[.int .i64 T, .slice a n c] 69)).alloc (.cells #[.int .i64 U, .slice b n' c'] 69)) := ((Below.refl _ _).alloc (Nat.le_refl _) _).alloc (by simp) _;have BE := hd_ (bytesEqual_any a b n n' c c' l m _ (h.below hb) (h'.below hb));have HB := hd_ hb;clear h h' hb
 by_cases hT : T = U
 · subst hT;have e : decide ((T, l) = (T, m)) = decide (l = m) := by rw [Bool.eq_iff_iff]; simp
   rw [e];generalize decide (l = m) = q at BE ⊢;go_enter Tryz.func152, Tryz.ntmps152
   go_wp2_with fail
   refine BE.out.mono ?_;rintro e w1 ⟨rfl, rfl⟩;go_wp2
   go_ret
   exact ⟨rfl, HB.out⟩
 · have e : decide ((T, l) = (U, m)) = false := decide_eq_false (fun e => hT (congrArg Prod.fst e));rw [e];have hb : (T == U) = false := beq_eq_false_iff_ne.2 hT;clear hT e BE;go_enter Tryz.func152, Tryz.ntmps152
   go_wp2
   go_ret
   exact ⟨rfl, HB.out⟩
theorem TR.tail {w : World} {a : Option Addr} {m c : Nat} {us : List Tg} (h : TR w (.slice a m c) m us) (hm : 1 <= m) :
 ∃ a', (∀ w', (Instr.slice 26 (.slice a m c) (some (.int .i64 1)) none none).run Tryz.prog w' = .ok (.slice a' (m - 1) (c - 1)) w') /\ TR w (.slice a' (m - 1) (c - 1)) (m - 1) (us.drop 1) := by
 obtain ⟨i0, hi, hz0, hz1, hz2⟩ := info_parts infoT;obtain ⟨a', h1, h2⟩ := slice_from (P := Tryz.prog) Tryz.underlying26 hi hz1 h.rd .i64 1 1 rfl hm;refine ⟨a', h1, ?_, fun t ht => h.vals t (List.mem_of_mem_drop ht)⟩;have e : (flat us).drop (1 * 2) = flat (us.drop 1) := by
  cases us with
  | nil => rfl
  | cons x r => rfl
 rw [e] at h2;exact h2
def strO (l : List PT) (o : PT) : Option PT := match l with
 | [] => some o
 | x :: _ => if x = o then none else some o
def strR (l : List PT) (o : PT) : List PT := match l with
 | [] => []
 | x :: r => if x = o then r else x :: r
theorem strike_snoc : ∀ (q l : List PT) (o : PT), strike (q ++ [o]) l = ((strike q l).1 ++ (strO (strike q l).2 o).toList, strR (strike q l).2 o)
 | [], [], o => rfl
 | [], x :: l, o => by
  by_cases e : x = o
  · simp [strike, strO, strR, e]
  · simp [strike, strO, strR, e]
 | p :: q, [], o => by
  have h := strike_snoc q [] o;rw [List.cons_append, strike, strike, h];rfl
 | p :: q, x :: l, o => by
  rw [List.cons_append, strike, strike];split
  · exact strike_snoc q l o
  · rw [strike_snoc q (x :: l) o]; rfl
theorem strike_scan (q l : List PT) : ∀ k, k <= q.length -> scanL (fun seen o => strO (strike seen l).2 o) [] (q.take k) = (strike (q.take k) l).1
 | 0, _ => by rw [List.take_zero]; rfl
 | k + 1, h => by
  rw [List.take_succ_eq_append_getElem h, scanL_snoc, strike_scan q l k (by omega), strike_snoc];rfl
theorem strike_scan_all (q l : List PT) : scanL (fun seen o => strO (strike seen l).2 o) [] q = (strike q l).1 := by
 have := strike_scan q l q.length (Nat.le_refl _)
 rwa [List.take_length] at this
set_option maxRecDepth 20000 in
set_option maxHeartbeats 4000000 in
theorem without1_any (gl : Nat) (w0 w : World) (a : Option Addr) (m c : Nat) (us : List Tg) (T : Int) (A : Option Addr) (L C : Nat) (l : List UInt8) (hl : l.length = L) (hL : L <= 1000) (hb : Bs w0 (.slice A L C) l) (hr : TR w0 (.slice a m c) m us)
 (h0 : w0.heap.size <= gl) (hb0 : Below w0.heap.size w0 w) (hg : w.heap[gl]? = some (.cells #[.slice a m c] 26)) :
 Calls Tryz.prog 151 #[.agg #[.int .i64 T, .slice A L C], .pointer (some ⟨gl, 0, none⟩)] w fun e w' => Tells (strO (plain us) (T, l)) w' e /\ Only gl w w' /\
  ∃ a' m' c' us', w'.heap[gl]? = some (.cells #[.slice a' m' c'] 26 (0, 0)) /\ TR w0 (.slice a' m' c') m' us' /\ plain us' = strR (plain us) (T, l) := by
 have hal : Gr w ((w.alloc (.cells #[.int .i64 T, .slice A L C] 69)).alloc (.cells #[.int .i64 0, .slice none 0 0] 69)) := ((Gr.refl w).alloc _).alloc _;have HAL := hd_ hal;have HG0 : Hid (((w.alloc (.cells #[.int .i64 T, .slice A L C] 69)).alloc (.cells #[.int .i64 0, .slice none 0 0] 69)).heap[w.heap.size]? = some (.cells #[.int .i64 T, .slice A L C] 69)) := heap2_0' _ _ _;have HG1 : Hid (((w.alloc (.cells #[.int .i64 T, .slice A L C] 69)).alloc (.cells #[.int .i64 0, .slice none 0 0] 69)).heap[w.heap.size + 1]? = some (.cells #[.int .i64 0, .slice none 0 0] 69)) := heap2_1' _ _ _;have HGL := hd_ (heap_gr hal hg);have hlt : gl < w.heap.size := (Array.getElem?_eq_some_iff.1 hg).1;have HB := hd_ hb;have HR := hd_ hr;have HB0 := hd_ hb0;have HB2 : Hid (Below w0.heap.size w0 ((w.alloc (.cells #[.int .i64 T, .slice A L C] 69)).alloc (.cells #[.int .i64 0, .slice none 0 0] 69))) := hb0.trans (Below.mono hal hb0.size);have hlen := hr.len;have HKEEP : Hid (∀ w', Only gl w w' -> Below w0.heap.size w0 w') := fun w' ho => ho.below _ _ h0 hb0
 by_cases hm0 : m = 0
 · subst hm0;obtain rfl : us = [] := List.eq_nil_of_length_eq_zero hlen;clear hal hg hb hr hb0;go_enter Tryz.func151, Tryz.ntmps151
   go_upto_region 1 with fail
   obtain ⟨wq, hwq⟩ : ∃ wq, wq = ((w.alloc (.cells #[.int .i64 T, .slice A L C] 69)).alloc (.cells #[.int .i64 0, .slice none 0 0] 69)) := ⟨_, rfl⟩;rw [<- hwq];rw [<- hwq] at HAL HG0 HG1 HGL HB2;clear hwq;refine wp_region_G 10 Gr (by kernel_rfl) ?_;refine wpG_u preGr 0 (some 5) ?_ (hy := fun w' hw' => by
    have g0 := cell1 (heap_gr ((Gr.drew wq).trans hw') HGL.out);go_simp;with_reducible rfl)
   refine wpG_u preGr 1 (some 6) ?_ (hy := fun w' hw' => by
    have g0 := cell1 (heap_gr ((Gr.drew wq).trans hw') HGL.out);go_simp;with_reducible rfl)
   refine wpG_u preGr 2 (some 7) ?_;refine wpG_u preGr 3 (some 8) ?_;refine wpG_p preGr 4 (some 9) ?_;refine wpG_p preGr 5 (some 10) ?_;refine wpG_p preGr 6 (some 11) ?_;refine wpG_p preGr 7 (some 12) ?_;refine wpG_p preGr 8 (some 13) ?_;refine wpG_u preGr 9 (some 14) ?_;refine wpG_done (by kernel_rfl) ?_ _;obtain ⟨k0, k1⟩ := copy_cells (show wq.drew.heap[w.heap.size]? = some (.cells #[.int .i64 T, .slice A L C] 69) from HG0.out);go_wp2_with (refine wpList_store_whole rfl 69 (.tmp 3) (.tmp 18) rfl (w.heap.size + 1) [.int .i64 T, .slice A L C] rfl rfl 69 [.int .i64 0, .slice none 0 0] (show wq.drew.heap[w.heap.size + 1]? = some (.cells #[.int .i64 0, .slice none 0 0] 69) from HG1.out) O.sizeT rfl (O.one_tag _ rfl) ?_)
   intro w4 h4 ho4;have H4 := hd_ h4;have HQ : Hid (Gr w w4) := ho4.below _ _ (Nat.le_succ _) (HAL.out.trans (Gr.drew wq));have HGL4 : Hid (w4.heap[gl]? = some (.cells #[.slice a 0 c] 26 (0, 0))) := (ho4.heap gl (by have := HAL.out.size; show gl < wq.heap.size; omega) (by omega)).trans HGL.out;clear h4 ho4 k0 k1;go_wp2
   refine bodyPost_ret (v := .tuple #[.agg #[.int .i64 T, .slice A L C], .bool true]) (results_cell_tmp_row (P := Tryz.prog) (fn := Tryz.f151) rfl _ _ (w.heap.size + 1) 69 _ (0, 0) _ rfl H4.out Tryz.underlying69 rfl (by kernel_rfl)) rfl ?_;have ho : Only gl w w4 := Only.grown HQ.out (by omega);exact ⟨⟨T, A, L, C, true, l, rfl, rfl, fun _ => ⟨hl, hL, HB.out.below (HKEEP.out _ ho)⟩⟩, ho, a, 0, c, [], HGL4.out, HR.out, rfl⟩
 · cases us with
   | nil => simp at hlen; omega
   | cons x r =>
    have HXV := hd_ (HR.out.vals x (by simp));obtain ⟨U, uv, ul⟩ := x;obtain ⟨A2, L2, C2, huv, hL2, _, _⟩ := HXV.out.sl;simp only at huv;subst huv;have HV0 : Hid (Bs w0 (.slice A2 L2 C2) ul) := HXV.out;obtain ⟨a', hsl, htl⟩ := TR.tail HR.out (by omega);have HTL := hd_ htl;obtain ⟨wq, hwq⟩ : ∃ wq, wq = ((w.alloc (.cells #[.int .i64 T, .slice A L C] 69)).alloc (.cells #[.int .i64 0, .slice none 0 0] 69)) := ⟨_, rfl⟩;have hrq := HR.out.below HB2.out;rw [<- hwq] at hrq;obtain ⟨b, o, ea, _, hcel⟩ := hrq.cells (by omega);subst ea;obtain ⟨c0, c1⟩ := hcel 0 (by simp);simp only [Nat.zero_mul, Nat.add_zero, List.getElem_cons_zero] at c0 c1;have HC0 := hd_ c0;have HC1 := hd_ c1;have hm1 : 0 < m := by omega
    have hm2 : (0 : Int) < (m : Int) := by omega
    have HS := hd_ hsl;have HBQ : Hid (Below w0.heap.size w0 wq) := by rw [hwq]; exact HB2.out
    have EQ : Hid (∀ w', Gr wq w' -> Calls Tryz.prog 152 #[.agg #[.int .i64 T, .slice A L C], .agg #[.int .i64 U, .slice A2 L2 C2]] w' fun e w2 => e = .returned (.bool (decide ((T, l) = (U, ul)))) /\ Below w'.heap.size w' w2) := fun w' hw' =>
     equal_any T U A A2 L L2 C C2 l ul w' (HB.out.below (HBQ.out.trans (Below.mono hw' HBQ.out.size))) (HV0.out.below (HBQ.out.trans (Below.mono hw' HBQ.out.size)))
    rw [<- hwq] at HAL HG0 HG1 HGL HB2;have HWQ := hd_ hwq;clear hal hg hb hr hb0 hwq hrq hcel c0 c1 hsl htl HXV hL2;obtain ⟨q, hq⟩ : ∃ q, q = decide ((T, l) = (U, ul)) := ⟨_, rfl⟩;rw [<- hq] at EQ;have HQD := hd_ hq;clear hq;cases q with
    | false =>
     have HO : Hid (strO (plain (⟨U, .slice A2 L2 C2, ul⟩ :: r)) (T, l) = some (T, l) /\ strR (plain (⟨U, .slice A2 L2 C2, ul⟩ :: r)) (T, l) = plain (⟨U, .slice A2 L2 C2, ul⟩ :: r)) := by
      have h := of_decide_eq_false HQD.out.symm;exact ⟨if_neg (fun e => h e.symm), if_neg (fun e => h e.symm)⟩
     go_enter Tryz.func151, Tryz.ntmps151
     go_upto_region 1 with fail
     rw [<- HWQ.out];refine wp_region_G 10 Gr (by kernel_rfl) ?_;refine wpG_u preGr 0 (some 5) ?_ (hy := fun w' hw' => by
      try have g0 := cell1 (heap_gr ((Gr.drew wq).trans hw') HGL.out)
      try have g1 := (copy_cells (heap_gr ((Gr.drew wq).trans hw') HG0.out)).1
      try have g2 := (copy_cells (heap_gr ((Gr.drew wq).trans hw') HG0.out)).2
      try have g3 := cell_gr ((Gr.drew wq).trans hw') HC0.out
      try have g4 := cell_gr ((Gr.drew wq).trans hw') HC1.out
      go_simp;with_reducible rfl)
     refine wpG_u preGr 1 (some 6) ?_ (hy := fun w' hw' => by
      try have g0 := cell1 (heap_gr ((Gr.drew wq).trans hw') HGL.out)
      try have g1 := (copy_cells (heap_gr ((Gr.drew wq).trans hw') HG0.out)).1
      try have g2 := (copy_cells (heap_gr ((Gr.drew wq).trans hw') HG0.out)).2
      try have g3 := cell_gr ((Gr.drew wq).trans hw') HC0.out
      try have g4 := cell_gr ((Gr.drew wq).trans hw') HC1.out
      go_simp;with_reducible rfl)
     refine wpG_u preGr 2 (some 7) ?_;refine wpG_u preGr 3 (some 8) ?_;refine wpG_u preGr 4 (some 9) ?_ (hy := fun w' hw' => by
      try have g0 := cell1 (heap_gr ((Gr.drew wq).trans hw') HGL.out)
      try have g1 := (copy_cells (heap_gr ((Gr.drew wq).trans hw') HG0.out)).1
      try have g2 := (copy_cells (heap_gr ((Gr.drew wq).trans hw') HG0.out)).2
      try have g3 := cell_gr ((Gr.drew wq).trans hw') HC0.out
      try have g4 := cell_gr ((Gr.drew wq).trans hw') HC1.out
      go_simp;with_reducible rfl)
     refine wpG_u preGr 5 (some 10) ?_ (hy := fun w' hw' => by
      try have g0 := cell1 (heap_gr ((Gr.drew wq).trans hw') HGL.out)
      try have g1 := (copy_cells (heap_gr ((Gr.drew wq).trans hw') HG0.out)).1
      try have g2 := (copy_cells (heap_gr ((Gr.drew wq).trans hw') HG0.out)).2
      try have g3 := cell_gr ((Gr.drew wq).trans hw') HC0.out
      try have g4 := cell_gr ((Gr.drew wq).trans hw') HC1.out
      go_simp;with_reducible rfl)
     refine wpG_u preGr 6 (some 11) ?_ (hy := fun w' hw' => by
      try have g0 := cell1 (heap_gr ((Gr.drew wq).trans hw') HGL.out)
      try have g1 := (copy_cells (heap_gr ((Gr.drew wq).trans hw') HG0.out)).1
      try have g2 := (copy_cells (heap_gr ((Gr.drew wq).trans hw') HG0.out)).2
      try have g3 := cell_gr ((Gr.drew wq).trans hw') HC0.out
      try have g4 := cell_gr ((Gr.drew wq).trans hw') HC1.out
      go_simp;with_reducible rfl)
     refine wpG_u preGr 7 (some 12) ?_ (hy := fun w' hw' => by
      try have g0 := cell1 (heap_gr ((Gr.drew wq).trans hw') HGL.out)
      try have g1 := (copy_cells (heap_gr ((Gr.drew wq).trans hw') HG0.out)).1
      try have g2 := (copy_cells (heap_gr ((Gr.drew wq).trans hw') HG0.out)).2
      try have g3 := cell_gr ((Gr.drew wq).trans hw') HC0.out
      try have g4 := cell_gr ((Gr.drew wq).trans hw') HC1.out
      go_simp;with_reducible rfl)
     refine wpG_one (i := 8) rfl (by kernel_rfl) (by rfl) ?_;go_simp;refine (EQ.out _ (Gr.drew _)).mono ?_;rintro e w3 ⟨rfl, hb3⟩;refine ⟨hb3, ?_⟩;have hq3 : Gr wq w3 := (Gr.drew wq).trans hb3;have HG3 := hd_ (heap_gr hq3 HG0.out);have HG4 := hd_ (heap_gr hq3 HG1.out);have HGL3 := hd_ (heap_gr hq3 HGL.out);have HB3 := hd_ (HAL.out.trans hq3);clear hb3 hq3;try simp only [Act.put, aq1, aq2, aq3]
     refine wpG_u preGr 9 (some 14) ?_ (hy := fun w' hw' => by
      go_simp;with_reducible rfl)
     refine wpG_done (by kernel_rfl) ?_ _;obtain ⟨k0, k1⟩ := copy_cells HG3.out;go_wp2_with (refine wpList_store_whole rfl 69 (.tmp 3) (.tmp 18) rfl (w.heap.size + 1) [.int .i64 T, .slice A L C] rfl rfl 69 [.int .i64 0, .slice none 0 0] HG4.out O.sizeT rfl (O.one_tag _ rfl) ?_)
     intro w4 h4 ho4;have H4 := hd_ h4;have HQ : Hid (Gr w w4) := ho4.below _ _ (Nat.le_succ _) HB3.out;have HGL4 := hd_ ((ho4.heap gl (by have := HB3.out.size; omega) (by omega)).trans HGL3.out);clear h4 ho4 k0 k1;go_wp2
     refine bodyPost_ret (v := .tuple #[.agg #[.int .i64 T, .slice A L C], .bool true]) (results_cell_tmp_row (P := Tryz.prog) (fn := Tryz.f151) rfl _ _ (w.heap.size + 1) 69 _ (0, 0) _ rfl H4.out Tryz.underlying69 rfl (by kernel_rfl)) rfl ?_;have ho : Only gl w w4 := Only.grown HQ.out (by omega);exact ⟨⟨T, A, L, C, true, l, rfl, by rw [HO.out.1]; rfl, fun _ => ⟨hl, hL, HB.out.below (HKEEP.out _ ho)⟩⟩, ho, _, m, c, _, HGL4.out, HR.out, HO.out.2.symm⟩
    | true =>
     have HO : Hid (strO (plain (⟨U, .slice A2 L2 C2, ul⟩ :: r)) (T, l) = none /\ strR (plain (⟨U, .slice A2 L2 C2, ul⟩ :: r)) (T, l) = plain r) := by
      have h := of_decide_eq_true HQD.out.symm;exact ⟨if_pos h.symm, if_pos h.symm⟩
     go_enter Tryz.func151, Tryz.ntmps151
     go_upto_region 1 with fail
     rw [<- HWQ.out];refine wp_region_G 10 Gr (by kernel_rfl) ?_;refine wpG_u preGr 0 (some 5) ?_ (hy := fun w' hw' => by
      try have g0 := cell1 (heap_gr ((Gr.drew wq).trans hw') HGL.out)
      try have g1 := (copy_cells (heap_gr ((Gr.drew wq).trans hw') HG0.out)).1
      try have g2 := (copy_cells (heap_gr ((Gr.drew wq).trans hw') HG0.out)).2
      try have g3 := cell_gr ((Gr.drew wq).trans hw') HC0.out
      try have g4 := cell_gr ((Gr.drew wq).trans hw') HC1.out
      go_simp;with_reducible rfl)
     refine wpG_u preGr 1 (some 6) ?_ (hy := fun w' hw' => by
      try have g0 := cell1 (heap_gr ((Gr.drew wq).trans hw') HGL.out)
      try have g1 := (copy_cells (heap_gr ((Gr.drew wq).trans hw') HG0.out)).1
      try have g2 := (copy_cells (heap_gr ((Gr.drew wq).trans hw') HG0.out)).2
      try have g3 := cell_gr ((Gr.drew wq).trans hw') HC0.out
      try have g4 := cell_gr ((Gr.drew wq).trans hw') HC1.out
      go_simp;with_reducible rfl)
     refine wpG_u preGr 2 (some 7) ?_;refine wpG_u preGr 3 (some 8) ?_;refine wpG_u preGr 4 (some 9) ?_ (hy := fun w' hw' => by
      try have g0 := cell1 (heap_gr ((Gr.drew wq).trans hw') HGL.out)
      try have g1 := (copy_cells (heap_gr ((Gr.drew wq).trans hw') HG0.out)).1
      try have g2 := (copy_cells (heap_gr ((Gr.drew wq).trans hw') HG0.out)).2
      try have g3 := cell_gr ((Gr.drew wq).trans hw') HC0.out
      try have g4 := cell_gr ((Gr.drew wq).trans hw') HC1.out
      go_simp;with_reducible rfl)
     refine wpG_u preGr 5 (some 10) ?_ (hy := fun w' hw' => by
      try have g0 := cell1 (heap_gr ((Gr.drew wq).trans hw') HGL.out)
      try have g1 := (copy_cells (heap_gr ((Gr.drew wq).trans hw') HG0.out)).1
      try have g2 := (copy_cells (heap_gr ((Gr.drew wq).trans hw') HG0.out)).2
      try have g3 := cell_gr ((Gr.drew wq).trans hw') HC0.out
      try have g4 := cell_gr ((Gr.drew wq).trans hw') HC1.out
      go_simp;with_reducible rfl)
     refine wpG_u preGr 6 (some 11) ?_ (hy := fun w' hw' => by
      try have g0 := cell1 (heap_gr ((Gr.drew wq).trans hw') HGL.out)
      try have g1 := (copy_cells (heap_gr ((Gr.drew wq).trans hw') HG0.out)).1
      try have g2 := (copy_cells (heap_gr ((Gr.drew wq).trans hw') HG0.out)).2
      try have g3 := cell_gr ((Gr.drew wq).trans hw') HC0.out
      try have g4 := cell_gr ((Gr.drew wq).trans hw') HC1.out
      go_simp;with_reducible rfl)
     refine wpG_u preGr 7 (some 12) ?_ (hy := fun w' hw' => by
      try have g0 := cell1 (heap_gr ((Gr.drew wq).trans hw') HGL.out)
      try have g1 := (copy_cells (heap_gr ((Gr.drew wq).trans hw') HG0.out)).1
      try have g2 := (copy_cells (heap_gr ((Gr.drew wq).trans hw') HG0.out)).2
      try have g3 := cell_gr ((Gr.drew wq).trans hw') HC0.out
      try have g4 := cell_gr ((Gr.drew wq).trans hw') HC1.out
      go_simp;with_reducible rfl)
     refine wpG_one (i := 8) rfl (by kernel_rfl) (by rfl) ?_;go_simp;refine (EQ.out _ (Gr.drew _)).mono ?_;rintro e w3 ⟨rfl, hb3⟩;refine ⟨hb3, ?_⟩;have hq3 : Gr wq w3 := (Gr.drew wq).trans hb3;have HG3 := hd_ (heap_gr hq3 HG0.out);have HG4 := hd_ (heap_gr hq3 HG1.out);have HGL3 := hd_ (heap_gr hq3 HGL.out);have HB3 := hd_ (HAL.out.trans hq3);clear hb3 hq3;try simp only [Act.put, aq1, aq2, aq3]
     refine wpG_u preGr 9 (some 14) ?_ (hy := fun w' hw' => by
      go_simp;with_reducible rfl)
     refine wpG_done (by kernel_rfl) ?_ _;have kg := cell1 HGL3.out;have hs1 := HS.out;go_wp2_with (refine wpList_store_cell rfl 26 (.tmp 1) (.tmp 16) rfl gl 0 (.slice a' (m - 1) (c - 1)) rfl rfl 26 [.slice (some ⟨b, o, none⟩) m c] HGL3.out (by kernel_rfl) (by simp) rfl ?_)
     intro w5 h5 ho5;have HGL5 : Hid (w5.heap[gl]? = some (.cells #[.slice a' (m - 1) (c - 1)] 26 (0, 0))) := h5;have hlt3 : w.heap.size + 1 < w3.heap.size := (Array.getElem?_eq_some_iff.1 HG4.out).1;have HG5 : Hid (w5.heap[w.heap.size]? = some (.cells #[.int .i64 T, .slice A L C] 69)) := (ho5.heap _ (by omega) (by omega)).trans HG3.out;have HG6 : Hid (w5.heap[w.heap.size + 1]? = some (.cells #[.int .i64 0, .slice none 0 0] 69)) := (ho5.heap _ hlt3 (by omega)).trans HG4.out;have HO5 : Hid (Only gl w w5) := (Only.grown HB3.out (by omega)).trans ho5;have hlt5 := ho5.size;clear h5 ho5 kg hs1;obtain ⟨k0, k1⟩ := copy_cells HG5.out;go_wp2_with (refine wpList_store_whole rfl 69 (.tmp 3) (.tmp 17) rfl (w.heap.size + 1) [.int .i64 T, .slice A L C] rfl rfl 69 [.int .i64 0, .slice none 0 0] HG6.out O.sizeT rfl (O.one_tag _ rfl) ?_)
     intro w4 h4 ho4;have H4 := hd_ h4;have HO4 : Hid (Only gl w w4) := ⟨Nat.le_trans HO5.out.size ho4.size, fun B v hB hb => ho4.below B v (by omega) (HO5.out.below B v hB hb), fun i hi hn => by rw [ho4.heap i (by have := HO5.out.size; omega) (by omega), HO5.out.heap i hi hn]⟩;have HGL4 := hd_ ((ho4.heap gl (by omega) (by omega)).trans HGL5.out);clear h4 ho4 k0 k1;go_wp2
     refine bodyPost_ret (v := .tuple #[.agg #[.int .i64 T, .slice A L C], .bool false]) (results_cell_tmp_row (P := Tryz.prog) (fn := Tryz.f151) rfl _ _ (w.heap.size + 1) 69 _ (0, 0) _ rfl H4.out Tryz.underlying69 rfl (by kernel_rfl)) rfl ?_;exact ⟨⟨T, A, L, C, false, l, rfl, by rw [HO.out.1]; rfl, fun h => by cases h⟩, HO4.out, _, _, _, _, HGL4.out, HTL.out, by rw [HO.out.2]; rfl⟩
theorem bs_len {w : World} {a : Option Addr} {L C : Nat} {l : List UInt8} (h : Bs w (.slice a L C) l) : l.length = L := by
 obtain ⟨_, _, es, _⟩ := h.shape;simp only [Value.slice.injEq] at es;exact es.2.1.symm
theorem plain_take_succ {ts : List Tg} (j : Nat) (hj : j < ts.length) : (plain ts).take (j + 1) = (plain ts).take j ++ [(ts[j].typ, ts[j].l)] := by
 rw [List.take_succ_eq_append_getElem (by rw [plain_length]; exact hj), plain_get _ _ hj]
set_option maxRecDepth 20000 in
set_option maxHeartbeats 2000000 in
theorem without_any (ao : Option Addr) (n c : Nat) (qs : List Tg) (la : Option Addr) (ln lc : Nat) (ts : List Tg) (w : World) (hra : TR w (.slice ao n c) n qs) (hrt : TR w (.slice la ln lc) ln ts) (hn : n <= 1000)
 (hma : ∀ x ∈ qs, x.l.length <= 1000) :
 Calls Tryz.prog 113 #[.slice ao n c, .slice la ln lc] w fun e w' => ∃ v us, e = .returned (.tuple #[v, .bool (decide ((strike (plain qs) (plain ts)).2 = []))]) /\ plain us = (strike (plain qs) (plain ts)).1 /\ TO w' w.heap.size v us /\ Below w.heap.size w w' := by
 have hl := hra.len;have hal : Below w.heap.size w (w.alloc (.cells #[.slice la ln lc] 26)) := (Below.refl _ _).alloc (Nat.le_refl _) _;have hsz : (w.alloc (.cells #[.slice la ln lc] 26)).heap.size = w.heap.size + 1 := World.size_alloc _ _;have hg : (w.alloc (.cells #[.slice la ln lc] 26)).heap[w.heap.size]? = some (.cells #[.slice la ln lc] 26) := heap_alloc_last _ _;have hs0 : strike [] (plain ts) = ([], plain ts) := by cases plain ts <;> rfl
 have WK := hd_ (walk_any w (w.alloc (.cells #[.slice la ln lc] 26)) (some w.heap.size) (fun g h => by obtain rfl := Option.some.inj h; omega) (fun g h => by obtain rfl := Option.some.inj h; omega) hal ao n c qs hra hn
  151 #[.pointer (some ⟨w.heap.size, 0, none⟩)] (fun _ _ => rfl)
  (fun j V => ∃ a' m' c' us', V.heap[w.heap.size]? = some (.cells #[.slice a' m' c'] 26 (0, 0)) /\ TR w (.slice a' m' c') m' us' /\ plain us' = (strike ((plain qs).take j) (plain ts)).2)
  (fun j w1 w2 h hb => by
   obtain ⟨a', m', c', us', h1, h2, h3⟩ := h;exact ⟨a', m', c', us', by rw [hb.block _ (by rw [hsz]; omega)]; exact h1, h2, h3⟩) ⟨la, ln, lc, ts, hg, hrt, by rw [List.take_zero, hs0]⟩ (outAt (plain qs) fun seen o => strO (strike seen (plain ts)).2 o)
  (fun j hj T A L C wr hT hv hbs hbw hsz' hI => by
   obtain ⟨a', m', c', us', h1, h2, h3⟩ := hI;have hL := bs_len hbs;have := hma qs[j] (List.getElem_mem hj);have hb0 : Bs w (.slice A L C) qs[j].l := by rw [<- hv]; exact hra.val j hj
   refine (without1_any w.heap.size w wr a' m' c' us' T A L C qs[j].l hL (by omega) hb0 h2 (Nat.le_refl _) hbw h1).mono ?_;rintro e w' ⟨g1, g2, a2, m2, c2, us2, g3, g4, g5⟩;refine ⟨?_, g2, a2, m2, c2, us2, g3, g4, ?_⟩
   · rw [outAt_get _ j hj, <- hT, <- h3];exact g1
   · rw [plain_take_succ j hj, strike_snoc, g5, h3, <- hT]))
 have HE : Hid (outs (outAt (plain qs) fun seen o => strO (strike seen (plain ts)).2 o) n = (strike (plain qs) (plain ts)).1) := by
  show _ = _;rw [outs_all _ _ (by rw [plain_length]; exact hl), strike_scan_all]
 have HTK : Hid ((plain qs).take n = plain qs) := by
  show _ = _;rw [List.take_of_length_le (by rw [plain_length]; omega)]
 have HAL := hd_ hal;have HSZ : Hid (w.heap.size <= (w.alloc (.cells #[.slice la ln lc] 26)).heap.size) := hal.size;clear hra hrt hal hg hsz hma hs0;go_enter Tryz.func113, Tryz.ntmps113
 go_wp2_with fail
 refine WK.out.mono ?_;rintro e w2 ⟨v, us, rfl, h1, h2, h3, a', m', c', us', g1, g2, g3⟩;rw [HE.out] at h1;rw [HTK.out] at g3;have H1 := hd_ h1;have H2 := hd_ (h2.mono HSZ.out);have H3 : Hid (Below w.heap.size w w2) := Only.below h3 _ _ (Nat.le_refl _) HAL.out;have HD : Hid (decide ((strike (plain qs) (plain ts)).2 = []) = ((m' : Int) == 0)) := by
  show _ = _;have hz : (strike (plain qs) (plain ts)).2 = [] ↔ m' = 0 := by rw [<- g3, <- List.length_eq_zero_iff, plain_length, g2.len]
  by_cases h : m' = 0
  · rw [decide_eq_true (hz.2 h), h]; rfl
  · rw [decide_eq_false (fun e => h (hz.1 e))];have : ((m' : Int) == 0) = false := by simpa using h
    exact this.symm
 have HG1 := hd_ g1;clear h1 h2 h3 g1 g2 g3;go_upto_region 2 with fail
 refine wp_region_G 6 Gr (by kernel_rfl) ?_;refine wpG_u preGr 0 (some 10) ?_;refine wpG_u preGr 1 (some 11) ?_ (hy := fun w' hw' => by
  have g0 := cell1 (heap_gr ((Gr.drew w2).trans hw') HG1.out);go_simp;with_reducible rfl)
 refine wpG_u preGr 2 (some 12) ?_ (hy := fun w' hw' => by
  have g0 := cell1 (heap_gr ((Gr.drew w2).trans hw') HG1.out);go_simp;with_reducible rfl)
 refine wpG_u preGr 3 (some 13) ?_;refine wpG_u preGr 4 (some 4) ?_;refine wpG_u preGr 5 (some 5) ?_;refine wpG_done (by kernel_rfl) ?_ _;go_wp2
 go_ret2
 exact ⟨v, us, by rw [HD.out]; rfl, H1.out, H2.out.below (Gr.drew w2), H3.out.drew⟩
def LRes (x : List PT × Bool) (w : World) (e : Ending) (w' : World) : Prop := ∃ v us, e = .returned (.tuple #[v, .bool x.2]) /\ plain us = x.1 /\ TO w' w.heap.size v us /\ Below w.heap.size w w'
theorem LRes.of {x : List PT × Bool} {w w' : World} (l : List PT) (b : Bool) (v : Value) (us : List Tg) (h : x = (l, b)) (h1 : plain us = l) (h2 : TO w' w.heap.size v us) (h3 : Below w.heap.size w w') : LRes x w (.returned (.tuple #[v, .bool b])) w' := by
 subst h;exact ⟨v, us, rfl, h1, h2, h3⟩
theorem lrn_none {q l : List PT} {k : Int} (h : l = [] \/ (k ≠ 3 /\ k ≠ 4)) : lrn q k l = (q, false) := by
 unfold lrn
 by_cases h0 : l = []
 · rw [if_pos h0]
 · rw [if_neg h0, if_neg (by rcases h with h | h; exact absurd h h0; exact h.1), if_neg (by rcases h with h | h; exact absurd h h0; exact h.2)]
theorem lrn_nak {q l : List PT} (h : l ≠ []) : lrn q 3 l = (q.map (takeOver l), true) := by
 unfold lrn; rw [if_neg h, if_pos rfl]
theorem lrn_rej {q l : List PT} (h : l ≠ []) : lrn q 4 l = if (strike q l).2 = [] then ((strike q l).1, true) else (q, false) := by
 unfold lrn; rw [if_neg h, if_neg (by decide), if_pos rfl]
set_option maxRecDepth 20000 in
set_option maxHeartbeats 4000000 in
theorem learn_any (ao : Option Addr) (n c : Nat) (qs : List Tg) (k : Int) (la : Option Addr) (ln lc : Nat) (ts : List Tg) (w : World) (hra : TR w (.slice ao n c) n qs) (hrt : TR w (.slice la ln lc) ln ts) (hn : n <= 1000) (hln : ln <= 1000)
 (hma : ∀ x ∈ qs, x.l.length <= 1000) (hmt : ∀ x ∈ ts, x.l.length <= 1000) (hia : ∀ x ∈ qs, I64 x.typ) (hit : ∀ x ∈ ts, I64 x.typ) :
 Calls Tryz.prog 89 #[.slice ao n c, .int .i64 k, .slice la ln lc] w (LRes (lrn (plain qs) k (plain ts)) w) := by
 have hlt := hrt.len;have CO := hd_ (fun (w' : World) (hw : Gr w w') => copies_any ao n c qs w' (hra.below hw) hn hma);have TA := hd_ (taught_any ao n c qs la ln lc ts w hra hrt hn hln hma hmt hia hit);have WI := hd_ (without_any ao n c qs la ln lc ts w hra hrt hn hma);clear hra hrt hma hmt hia hit;have hcop : ∀ (w1 : World) (hw : Gr w w1) (v : Value) (us : List Tg) (w2 : World), lrn (plain qs) k (plain ts) = (plain qs, false) -> plain us = plain qs -> TO w2 w1.heap.size v us -> Below w1.heap.size w1 w2 ->
  LRes (lrn (plain qs) k (plain ts)) w (.returned (.tuple #[v, .bool false])) w2 := fun w1 hw v us w2 h h1 h2 h3 =>
  LRes.of _ false v us h h1 (h2.mono hw.size) (Below.trans hw (Below.mono h3 hw.size))
 have HC := hd_ hcop;clear hcop
 by_cases h0 : ln = 0
 · subst h0;have HN : Hid (lrn (plain qs) k (plain ts) = (plain qs, false)) := lrn_none (.inl (plain_nil_iff.2 hlt));go_enter Tryz.func89, Tryz.ntmps89
   go_wp2_with fail
   refine (CO.out w (Gr.refl w)).mono ?_;rintro e w2 ⟨v, us, rfl, h1, h2, h3⟩;have HR := hd_ (HC.out w (Gr.refl w) v us w2 HN.out h1 h2 h3);clear h1 h2 h3;go_wp2
   go_ret2
   exact HR.out
 have hp : (0 : Int) < (ln : Int) := by omega
 have HNE : Hid (plain ts ≠ []) := fun e => h0 (by rw [<- hlt]; exact plain_nil_iff.1 e)
 clear h0
 by_cases h3 : k = 3
 · subst h3;go_enter Tryz.func89, Tryz.ntmps89
   go_wp2_with fail
   refine TA.out.mono ?_;rintro e w2 ⟨v, us, rfl, h1, h2, h3⟩;have HR := hd_ (LRes.of _ true v us (lrn_nak HNE.out) h1 h2 h3);clear h1 h2 h3;go_wp2
   go_ret2
   exact HR.out
 have e3 : (k == 3) = false := by simpa using h3
 by_cases h4 : k = 4
 · subst h4;clear h3 e3;obtain ⟨b, hb⟩ : ∃ b, b = decide ((strike (plain qs) (plain ts)).2 = []) := ⟨_, rfl⟩;rw [<- hb] at WI;have HB := hd_ hb;clear hb;go_enter Tryz.func89, Tryz.ntmps89
   go_wp2_with fail
   refine WI.out.mono ?_;rintro e w2 ⟨v, us, rfl, h1, h2, h3⟩;cases b with
   | true =>
    have HR := hd_ (LRes.of _ true v us ((lrn_rej HNE.out).trans (if_pos (of_decide_eq_true HB.out.symm))) h1 h2 h3);clear h1 h2 h3;go_wp2
    go_ret2
    exact HR.out
   | false =>
    have HN : Hid (lrn (plain qs) 4 (plain ts) = (plain qs, false)) := (lrn_rej HNE.out).trans (if_neg (of_decide_eq_false HB.out.symm));have CO2 := hd_ (CO.out w2 h3);have HQ : Hid (Gr w w2) := h3;clear h1 h2 h3;go_wp2_with fail
    refine CO2.out.mono ?_;rintro e w3 ⟨v3, us3, rfl, h1, h2, h3⟩;have HR := hd_ (HC.out w2 HQ.out v3 us3 w3 HN.out h1 h2 h3);clear h1 h2 h3;go_wp2
    go_ret2
    exact HR.out
 have e4 : (k == 4) = false := by simpa using h4
 have HN : Hid (lrn (plain qs) k (plain ts) = (plain qs, false)) := lrn_none (.inr ⟨h3, h4⟩);clear h3 h4;go_enter Tryz.func89, Tryz.ntmps89
 go_wp2_with fail
 refine (CO.out w (Gr.refl w)).mono ?_;rintro e w2 ⟨v, us, rfl, h1, h2, h3⟩;have HR := hd_ (HC.out w (Gr.refl w) v us w2 HN.out h1 h2 h3);clear h1 h2 h3;go_wp2
 go_ret2
 exact HR.out
end Go.Proofs.YtclplbapedmihaaGreat.Ng
