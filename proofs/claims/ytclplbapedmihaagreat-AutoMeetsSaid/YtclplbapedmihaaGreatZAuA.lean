/- AuP AuM AuR AuS AuB AuT AuU AuV AuW AuX AuY -/
import Derived.Test.YtclplbapedmihaaGreatZCp
import Derived.Test.YtclplbapedmihaaGreatZOp
import Derived.Test.YtclplbapedmihaaGreatZFs
import Derived.Test.YtclplbapedmihaaGreatZNgA
import Derived.Test.YtclplbapedmihaaGreatZBase
import Derived.Deep.DeepCutAuto
import Derived.Deep.CutBlock
namespace Go.Proofs.YtclplbapedmihaaGreat.Au
set_option maxRecDepth 4000
set_option linter.unusedVariables false
set_option linter.unusedSimpArgs false
abbrev PT := Int × List UInt8
structure Aut where
 st : Int
 id : Int
 req : Int
 ask : List PT
 count : Int
 timer : Int
 naks : Int
structure Cfg where
 rs : List Ng.Ru
 conf : Int
 term : Int
 fail : Int
 wait : Int
def topT : Int := 1099511627776
def topW : Int := 1048576
def isC (c : Cfg) : Prop := Ng.areR c.rs /\ (1 <= c.conf /\ c.conf <= 1000) /\ (1 <= c.term /\ c.term <= 1000) /\ (0 <= c.fail /\ c.fail <= 1000) /\ 1 <= c.wait /\ c.wait <= topW
instance (c : Cfg) : Decidable (isC c) := by unfold isC; infer_instance
def tmOk (s t : Int) : Prop := (Fs.timed s = true -> 1 <= t /\ t <= topT + topW) /\ (Fs.timed s = false -> t = 0)
instance (s t : Int) : Decidable (tmOk s t) := by unfold tmOk; infer_instance
def isA (a : Aut) : Prop := Fs.InS a.st /\ (0 <= a.id /\ a.id <= 255) /\ (0 <= a.req /\ a.req <= 255) /\ O.encE a.ask = 0 /\ (0 <= a.count /\ a.count <= 1000) /\ (0 <= a.naks /\ a.naks <= 1000) /\ tmOk a.st a.timer
instance (a : Aut) : Decidable (isA a) := by unfold isA; infer_instance
def fine (c : Cfg) (a : Aut) (t : Int) : Prop := isC c /\ isA a /\ 0 <= t /\ t <= topT
instance (c : Cfg) (a : Aut) (t : Int) : Decidable (fine c a t) := by unfold fine; infer_instance
def new (ask : List PT) : Aut × Int := if O.encE ask = 0 then (⟨0, 0, 0, ask, 0, 0, 0⟩, 0) else (⟨0, 0, 0, [], 0, 0, 0⟩, 160)
structure Rn where
 a : Aut
 out : List QC
def up (n : Int) : Int := (n + 1) % 256
def asked (c : Cfg) (code : Int) (l : List UInt8) (t : Int) (r : Rn) : Rn :=
 ⟨{ r.a with id := up r.a.id, count := if 0 < r.a.count then r.a.count - 1 else r.a.count, timer := t + c.wait }, r.out ++ [⟨code, up r.a.id, l⟩]⟩
def act (c : Cfg) (all : List Int) (q an : QC) (t : Int) (r : Rn) (x : Int) : Rn :=
 if x = 5 then ⟨{ r.a with count := if 10 ∈ all then c.term else c.conf }, r.out⟩
 else if x = 6 then ⟨{ r.a with count := 0, timer := t + c.wait }, r.out⟩
 else if x = 7 then ⟨{ (asked c 1 (O.encB r.a.ask) t r).a with req := up r.a.id }, (asked c 1 (O.encB r.a.ask) t r).out⟩
 else if x = 8 then ⟨{ r.a with naks := 0 }, r.out ++ [an]⟩
 else if x = 9 then ⟨{ r.a with naks := if an.c = 3 /\ r.a.naks < 1000 then r.a.naks + 1 else r.a.naks }, r.out ++ [an]⟩
 else if x = 10 then asked c 5 [] t r
 else if x = 11 then ⟨r.a, r.out ++ [⟨6, q.i, []⟩]⟩
 else if x = 12 then ⟨{ r.a with id := up r.a.id }, r.out ++ (if (rejP q (up r.a.id)).2 = 0 then [(rejP q (up r.a.id)).1] else [])⟩
 else if x = 13 then ⟨r.a, r.out ++ [an]⟩
 else r
def acts (c : Cfg) (all : List Int) (q an : QC) (t : Int) (r : Rn) (l : List Int) : Rn := l.foldl (act c all q an t) r
def rest (n : Int) (a : Aut) : Aut := if Fs.timed n = true then a else { a with timer := 0 }
def doE (c : Cfg) (a : Aut) (e : Int) (q an : QC) (t : Int) : Aut × List QC × List Int :=
 if fine c a t /\ (Fs.stp a.st e).2.2 = 0 then
  (rest (Fs.stp a.st e).1 (acts c (Fs.stp a.st e).2.1 q an t ⟨{ a with st := (Fs.stp a.st e).1 }, []⟩ (Fs.stp a.st e).2.1).a,
   (acts c (Fs.stp a.st e).2.1 q an t ⟨{ a with st := (Fs.stp a.st e).1 }, []⟩ (Fs.stp a.st e).2.1).out, (Fs.stp a.st e).2.1)
 else (a, [], [])
def which (c : Cfg) (a : Aut) (q : QC) : Option (Int × QC × Aut) :=
 if q.c = 1 then
  (if (O.dec q.l).2 = 0 /\ O.encE (Ng.ans c.rs (O.dec q.l).1 a.naks c.fail).2 = 0 then
   some (if (Ng.ans c.rs (O.dec q.l).1 a.naks c.fail).1 = 2 then 7 else 8, ⟨(Ng.ans c.rs (O.dec q.l).1 a.naks c.fail).1, q.i, O.encB (Ng.ans c.rs (O.dec q.l).1 a.naks c.fail).2⟩, a)
  else none)
 else if q.c = 2 then (if q.i = a.req /\ q.l = O.encB a.ask then some (9, QC.zero, a) else none)
 else if q.c = 3 \/ q.c = 4 then
  (if q.i = a.req /\ (O.dec q.l).2 = 0 /\ (Ng.lrn a.ask q.c (O.dec q.l).1).2 = true /\ O.encE (Ng.lrn a.ask q.c (O.dec q.l).1).1 = 0 then
   some (10, QC.zero, { a with ask := (Ng.lrn a.ask q.c (O.dec q.l).1).1 })
  else none)
 else if q.c = 5 then some (11, QC.zero, a)
 else if q.c = 6 then some (12, QC.zero, a)
 else if q.l = [] then none
 else if 1 <= bN q.l 0 /\ bN q.l 0 <= 7 then some (15, QC.zero, a) else some (14, QC.zero, a)
def packT (c : Cfg) (a : Aut) (q : QC) (t : Int) : Option (Int × QC × Aut) -> Aut × List QC × List Int
 | none => (a, [], [])
 | some (e, an, b) => if (Fs.stp a.st e).2.2 = 0 then doE c b e q an t else (a, [], [])
theorem packT_yes {c : Cfg} {a b : Aut} {q an : QC} {e t : Int} (h : (Fs.stp a.st e).2.2 = 0) : packT c a q t (some (e, an, b)) = doE c b e q an t := if_pos h
theorem packT_no {c : Cfg} {a b : Aut} {q an : QC} {e t : Int} (h : ¬ (Fs.stp a.st e).2.2 = 0) : packT c a q t (some (e, an, b)) = (a, [], []) := if_neg h
def pack (c : Cfg) (a : Aut) (q : QC) (t : Int) : (Aut × List QC × List Int) × Bool :=
 if ¬ (1 <= q.c /\ q.c <= 7) then ((a, [], []), false)
 else if ¬ (fine c a t /\ cencE q = 0) then ((a, [], []), true)
 else (packT c a q t (which c a q), true)
def tmo (c : Cfg) (a : Aut) (t : Int) : Aut × List QC × List Int :=
 if a.timer = 0 \/ t < a.timer then (a, [], []) else doE c a (if 0 < a.count then 5 else 6) QC.zero QC.zero t
theorem up_in (n : Int) : 0 <= up n /\ up n <= 255 := by unfold up; omega
structure Mid (c : Cfg) (n : Int) (ask : List PT) (r : Rn) : Prop where
 st : r.a.st = n
 id : 0 <= r.a.id /\ r.a.id <= 255
 req : 0 <= r.a.req /\ r.a.req <= 255
 ask : r.a.ask = ask
 count : 0 <= r.a.count /\ r.a.count <= 1000
 naks : 0 <= r.a.naks /\ r.a.naks <= 1000
 timer : 0 <= r.a.timer /\ r.a.timer <= topT + topW
theorem asked_mid {c : Cfg} {n t : Int} {ask : List PT} {r : Rn} (h : Mid c n ask r) (hc : isC c) (ht : 0 <= t /\ t <= topT) (code : Int) (l : List UInt8) : Mid c n ask (asked c code l t r) /\ 1 <= (asked c code l t r).a.timer := by
 obtain ⟨_, _, _, _, w1, w2⟩ := hc;have h1 := h.count;refine ⟨⟨h.st, up_in _, h.req, h.ask, ?_, h.naks, ?_⟩, ?_⟩
 · show 0 <= (if 0 < r.a.count then r.a.count - 1 else r.a.count) /\ (if 0 < r.a.count then r.a.count - 1 else r.a.count) <= 1000;split <;> omega
 · show 0 <= t + c.wait /\ t + c.wait <= topT + topW; omega
 · show 1 <= t + c.wait; omega
def sets (x : Int) : Prop := x = 6 \/ x = 7 \/ x = 10
instance (x : Int) : Decidable (sets x) := by unfold sets; infer_instance
theorem act_mid {c : Cfg} {n t : Int} {ask : List PT} {r : Rn} (h : Mid c n ask r) (hc : isC c) (ht : 0 <= t /\ t <= topT) (all : List Int) (q an : QC) (x : Int) :
 Mid c n ask (act c all q an t r x) /\ (sets x \/ 1 <= r.a.timer -> 1 <= (act c all q an t r x).a.timer) := by
 have hw := hc;obtain ⟨_, ⟨c1, c2⟩, ⟨c3, c4⟩, _, w1, w2⟩ := hw;have hk := h.naks;unfold act
 by_cases x5 : x = 5
 · rw [if_pos x5];refine ⟨⟨h.st, h.id, h.req, h.ask, ?_, h.naks, h.timer⟩, fun hs => ?_⟩
   · show 0 <= (if 10 ∈ all then c.term else c.conf) /\ (if 10 ∈ all then c.term else c.conf) <= 1000;split <;> omega
   · rcases hs with hs | hs
     · unfold sets at hs; omega
     · exact hs
 rw [if_neg x5]
 by_cases x6 : x = 6
 · rw [if_pos x6];exact ⟨⟨h.st, h.id, h.req, h.ask, ⟨Int.le_refl 0, (by decide : (0 : Int) <= 1000)⟩, h.naks, by show 0 <= t + c.wait /\ t + c.wait <= topT + topW; omega⟩, fun _ => by show 1 <= t + c.wait; omega⟩
 rw [if_neg x6]
 by_cases x7 : x = 7
 · rw [if_pos x7];obtain ⟨m, m2⟩ := asked_mid h hc ht 1 (O.encB r.a.ask);exact ⟨⟨m.st, m.id, up_in _, m.ask, m.count, m.naks, m.timer⟩, fun _ => m2⟩
 rw [if_neg x7]
 by_cases x8 : x = 8
 · rw [if_pos x8];exact ⟨⟨h.st, h.id, h.req, h.ask, h.count, ⟨Int.le_refl 0, (by decide : (0 : Int) <= 1000)⟩, h.timer⟩, fun hs => by rcases hs with hs | hs; (unfold sets at hs; omega); exact hs⟩
 rw [if_neg x8]
 by_cases x9 : x = 9
 · rw [if_pos x9];refine ⟨⟨h.st, h.id, h.req, h.ask, h.count, ?_, h.timer⟩, fun hs => by rcases hs with hs | hs; (unfold sets at hs; omega); exact hs⟩;show 0 <= (if an.c = 3 /\ r.a.naks < 1000 then r.a.naks + 1 else r.a.naks) /\ (if an.c = 3 /\ r.a.naks < 1000 then r.a.naks + 1 else r.a.naks) <= 1000;split <;> omega
 rw [if_neg x9]
 by_cases x10 : x = 10
 · rw [if_pos x10];obtain ⟨m, m2⟩ := asked_mid h hc ht 5 [];exact ⟨m, fun _ => m2⟩
 rw [if_neg x10];have hno : sets x \/ 1 <= r.a.timer -> 1 <= r.a.timer := fun hs => by rcases hs with hs | hs; (unfold sets at hs; omega); exact hs
 by_cases x11 : x = 11
 · rw [if_pos x11]; exact ⟨⟨h.st, h.id, h.req, h.ask, h.count, h.naks, h.timer⟩, hno⟩
 rw [if_neg x11]
 by_cases x12 : x = 12
 · rw [if_pos x12]; exact ⟨⟨h.st, up_in _, h.req, h.ask, h.count, h.naks, h.timer⟩, hno⟩
 rw [if_neg x12]
 by_cases x13 : x = 13
 · rw [if_pos x13]; exact ⟨⟨h.st, h.id, h.req, h.ask, h.count, h.naks, h.timer⟩, hno⟩
 rw [if_neg x13];exact ⟨h, hno⟩
theorem acts_mid {c : Cfg} {n t : Int} {ask : List PT} (hc : isC c) (ht : 0 <= t /\ t <= topT) (all : List Int) (q an : QC) :
 ∀ (l : List Int) (r : Rn), Mid c n ask r -> Mid c n ask (acts c all q an t r l) /\ ((∃ x ∈ l, sets x) \/ 1 <= r.a.timer -> 1 <= (acts c all q an t r l).a.timer)
 | [], r, h => ⟨h, fun hs => by rcases hs with ⟨x, hx, _⟩ | hs; cases hx; exact hs⟩
 | x :: l, r, h => by
  obtain ⟨m1, m2⟩ := act_mid h hc ht all q an x;obtain ⟨k1, k2⟩ := acts_mid hc ht all q an l _ m1;refine ⟨k1, fun hs => k2 ?_⟩
  rcases hs with ⟨y, hy, hs⟩ | hs
  · rcases List.mem_cons.1 hy with rfl | hy
    · exact .inr (m2 (.inl hs))
    · exact .inl ⟨y, hy, hs⟩
  · exact .inr (m2 (.inr hs))
theorem stp_timed {s e : Int} (h : (Fs.stp s e).2.2 = 0) (ht : Fs.timed (Fs.stp s e).1 = true) : (∃ x ∈ (Fs.stp s e).2.1, sets x) \/ Fs.timed s = true := by
 obtain ⟨h1, h2⟩ := Fs.stp_ok h;have := Fs.all_steps (fun s e => decide ((Fs.stp s e).2.2 = 0 -> Fs.timed (Fs.stp s e).1 = true -> (∃ x ∈ (Fs.stp s e).2.1, sets x) \/ Fs.timed s = true)) (by decide +kernel) s e h1 h2;exact of_decide_eq_true this h ht
theorem isA_mid {c : Cfg} {a : Aut} (h : isA a) (n : Int) : Mid c n a.ask ⟨{ a with st := n }, []⟩ := by
 obtain ⟨_, h1, h2, _, h3, h4, h5⟩ := h;refine ⟨rfl, h1, h2, rfl, h3, h4, ?_⟩;show 0 <= a.timer /\ a.timer <= topT + topW;cases ht : Fs.timed a.st with
 | true => have := h5.1 ht; omega
 | false => rw [h5.2 ht]; decide
theorem doE_no {c : Cfg} {a : Aut} {e t : Int} {q an : QC} (h : ¬ (fine c a t /\ (Fs.stp a.st e).2.2 = 0)) : doE c a e q an t = (a, [], []) := if_neg h
theorem doE_yes {c : Cfg} {a : Aut} {e t : Int} {q an : QC} (h : fine c a t) (h0 : (Fs.stp a.st e).2.2 = 0) :
 doE c a e q an t = (rest (Fs.stp a.st e).1 (acts c (Fs.stp a.st e).2.1 q an t ⟨{ a with st := (Fs.stp a.st e).1 }, []⟩ (Fs.stp a.st e).2.1).a,
  (acts c (Fs.stp a.st e).2.1 q an t ⟨{ a with st := (Fs.stp a.st e).1 }, []⟩ (Fs.stp a.st e).2.1).out, (Fs.stp a.st e).2.1) := if_pos ⟨h, h0⟩
theorem doE_is {c : Cfg} {a : Aut} {e t : Int} {q an : QC} (h : isA a) : isA (doE c a e q an t).1 := by
 by_cases hf : fine c a t /\ (Fs.stp a.st e).2.2 = 0
 · rw [doE_yes hf.1 hf.2];obtain ⟨⟨hc, _, ht⟩, h0⟩ := hf;obtain ⟨m, m2⟩ := acts_mid hc ht (Fs.stp a.st e).2.1 q an (Fs.stp a.st e).2.1 _ (isA_mid (c := c) h (Fs.stp a.st e).1);have hn := Fs.stp_in h0;have he : O.encE a.ask = 0 := h.2.2.2.1;show isA (rest _ _);unfold rest;cases hq : Fs.timed (Fs.stp a.st e).1 with
   | true =>
    rw [if_pos rfl];have h1 : 1 <= (acts c (Fs.stp a.st e).2.1 q an t ⟨{ a with st := (Fs.stp a.st e).1 }, []⟩ (Fs.stp a.st e).2.1).a.timer := m2 (by
     rcases stp_timed h0 hq with hx | hx
     · exact .inl hx
     · exact .inr (h.2.2.2.2.2.2.1 hx).1)
    refine ⟨by rw [m.st]; exact hn, m.id, m.req, by rw [m.ask]; exact he, m.count, m.naks, ?_, ?_⟩
    · intro _; exact ⟨h1, m.timer.2⟩
    · rw [m.st, hq]; intro x; cases x
   | false =>
    rw [if_neg (by decide)];refine ⟨by show Fs.InS _; rw [m.st]; exact hn, m.id, m.req, by show O.encE _ = 0; rw [m.ask]; exact he, m.count, m.naks, ?_, ?_⟩
    · show Fs.timed _ = true -> _;rw [m.st, hq]; intro x; cases x
    · intro _; rfl
 · rw [doE_no hf]; exact h
theorem which_is {c : Cfg} {a b : Aut} {q an : QC} {e : Int} (h : isA a) (hw : which c a q = some (e, an, b)) : isA b /\ b.st = a.st /\ { b with ask := a.ask } = a := by
 have hsame : ∀ {e' : Int} {an' : QC}, some (e', an', a) = some (e, an, b) -> isA b /\ b.st = a.st /\ { b with ask := a.ask } = a := by
  intro e' an' hx;cases hx;exact ⟨h, rfl, rfl⟩
 unfold which at hw;split at hw
 · split at hw
   · exact hsame hw
   · cases hw
 · split at hw
   · split at hw
     · exact hsame hw
     · cases hw
   · split at hw
     · split at hw
       · rename_i h3
         cases hw;obtain ⟨i1, i2, i3, i4, i5, i6, i7⟩ := h;exact ⟨⟨i1, i2, i3, h3.2.2.2, i5, i6, i7⟩, rfl, rfl⟩
       · cases hw
     · split at hw
       · exact hsame hw
       · split at hw
         · exact hsame hw
         · split at hw
           · cases hw
           · split at hw
             · exact hsame hw
             · exact hsame hw
theorem pack_is {c : Cfg} {a : Aut} {q : QC} {t : Int} (h : isA a) : isA (pack c a q t).1.1 := by
 unfold pack;split
 · exact h
 · split
   · exact h
   · cases hw : which c a q with
     | none => exact h
     | some x =>
      obtain ⟨e, an, b⟩ := x;show isA (packT c a q t (some (e, an, b))).1
      by_cases h0 : (Fs.stp a.st e).2.2 = 0
      · rw [packT_yes h0]; exact doE_is (which_is h hw).1
      · rw [packT_no h0]; exact h
theorem tmo_is {c : Cfg} {a : Aut} {t : Int} (h : isA a) : isA (tmo c a t).1 := by
 unfold tmo;split
 · exact h
 · exact doE_is h
theorem isA_zero {s : Int} {ask : List PT} (hs : Fs.InS s) (ht : Fs.timed s = false) (he : O.encE ask = 0) : isA ⟨s, 0, 0, ask, 0, 0, 0⟩ :=
 ⟨hs, ⟨Int.le_refl 0, (by decide : (0 : Int) <= 255)⟩, ⟨Int.le_refl 0, (by decide : (0 : Int) <= 255)⟩, he, ⟨Int.le_refl 0, (by decide : (0 : Int) <= 1000)⟩, ⟨Int.le_refl 0, (by decide : (0 : Int) <= 1000)⟩, (fun h => absurd h (by show ¬ Fs.timed s = true; rw [ht]; decide)), fun _ => rfl⟩
def first (c : Cfg) (ask : List PT) : Aut := ⟨6, 1, 1, ask, c.conf - 1, c.wait, 0⟩
def second (c : Cfg) (ask : List PT) : Aut := ⟨8, 1, 1, ask, c.conf - 1, c.wait, 0⟩
def third (c : Cfg) (ask : List PT) : Aut := ⟨9, 1, 1, ask, c.conf, 0, 0⟩
def sideA (c : Cfg) (ask : List PT) : Int -> Aut := fun i => if i = 0 then first c ask else if i = 1 then second c ask else third c ask
theorem side_1 {c : Cfg} {ask : List PT} {q an : QC} (hc : isC c) (he : O.encE ask = 0) : doE c ⟨0, 0, 0, ask, 0, 0, 0⟩ 1 q an 0 = (⟨2, 0, 0, ask, 0, 0, 0⟩, [], []) := by
 have hf : fine c ⟨0, 0, 0, ask, 0, 0, 0⟩ 0 := ⟨hc, isA_zero (by decide) (by decide) he, by decide, by decide⟩;rw [doE_yes hf (show (Fs.stp 0 1).2.2 = 0 from by decide)];rfl
theorem side_2 {c : Cfg} {ask : List PT} {q an : QC} (hc : isC c) (he : O.encE ask = 0) : doE c ⟨2, 0, 0, ask, 0, 0, 0⟩ 3 q an 0 = (first c ask, [⟨1, 1, O.encB ask⟩], [5, 7]) := by
 have hf : fine c ⟨2, 0, 0, ask, 0, 0, 0⟩ 0 := ⟨hc, isA_zero (by decide) (by decide) he, by decide, by decide⟩;have hs : Fs.stp 2 3 = (6, [5, 7], 0) := by decide
 have h1 : 0 < c.conf := by have := hc.2.1.1; omega
 rw [doE_yes hf (show (Fs.stp 2 3).2.2 = 0 from by decide)];simp only [hs];unfold rest;rw [if_pos (by decide)];simp [acts, act, asked, first, up, h1]
theorem first_fine {c : Cfg} {ask : List PT} (hc : isC c) (he : O.encE ask = 0) : fine c (first c ask) 1 := by
 have h := hc;obtain ⟨_, h1, _, _, h2, h3⟩ := h;refine ⟨hc, ⟨(by decide : Fs.InS 6), ⟨(by decide : (0 : Int) <= 1), (by decide : (1 : Int) <= 255)⟩, ⟨(by decide : (0 : Int) <= 1), (by decide : (1 : Int) <= 255)⟩, he, ?_, ⟨Int.le_refl 0, (by decide : (0 : Int) <= 1000)⟩, ?_, ?_⟩, by decide, by decide⟩
 · show 0 <= c.conf - 1 /\ c.conf - 1 <= 1000; omega
 · intro _; show 1 <= c.wait /\ c.wait <= topT + topW; unfold topT; omega
 · intro x; cases x
theorem second_fine {c : Cfg} {ask : List PT} (hc : isC c) (he : O.encE ask = 0) : fine c (second c ask) 1 := by
 have h := hc;obtain ⟨_, h1, _, _, h2, h3⟩ := h;refine ⟨hc, ⟨(by decide : Fs.InS 8), ⟨(by decide : (0 : Int) <= 1), (by decide : (1 : Int) <= 255)⟩, ⟨(by decide : (0 : Int) <= 1), (by decide : (1 : Int) <= 255)⟩, he, ?_, ⟨Int.le_refl 0, (by decide : (0 : Int) <= 1000)⟩, ?_, ?_⟩, by decide, by decide⟩
 · show 0 <= c.conf - 1 /\ c.conf - 1 <= 1000; omega
 · intro _; show 1 <= c.wait /\ c.wait <= topT + topW; unfold topT; omega
 · intro x; cases x
theorem cencE_of {code id : Int} {l : List PT} (h : byteB code = true) (h2 : byteB id = true) : cencE ⟨code, id, O.encB l⟩ = 0 := cencE_ok h h2 (by have := O.encB_le l; show ¬ 1488 < (O.encB l).length; omega)
theorem ans_fst {rs : List Ng.Ru} {l : List PT} {naks most : Int} (h : (Ng.ans rs l naks most).1 = 2) : Ng.ans rs l naks most = (2, l) := by
 have h1 : Ng.ans rs l naks most = (2, (Ng.ans rs l naks most).2) := Prod.ext h rfl;have h2 := (Ng.ans_ack h1).1;rw [h1, h2]
theorem meet_req {c : Cfg} {ask other : List PT} (hc : isC c) (he : O.encE ask = 0) (ho : O.encE other = 0) (hn : (Ng.ans c.rs other 0 c.fail).1 = 2) :
 pack c (first c ask) ⟨1, 1, O.encB other⟩ 1 = ((second c ask, [⟨2, 1, O.encB other⟩], [8]), true) := by
 have hf := first_fine hc he;have hd : O.dec (O.encB other) = (other, 0) := by rw [O.encB_yes ho]; exact O.dec_wire ho
 have ha := ans_fst hn;have hw : which c (first c ask) ⟨1, 1, O.encB other⟩ = some (7, ⟨2, 1, O.encB other⟩, first c ask) := by
  unfold which;have hk : (first c ask).naks = 0 := rfl;simp only [hd, hk, ha, ho];simp
 have hs : Fs.stp 6 7 = (8, [8], 0) := by decide
 unfold pack;have hs' : Fs.stp (first c ask).st 7 = (8, [8], 0) := hs;rw [if_neg (show ¬ ¬ ((1 : Int) <= 1 /\ (1 : Int) <= 7) by decide), if_neg (fun x => x ⟨hf, cencE_of (by decide) (by decide)⟩), hw, packT_yes (by rw [hs']), doE_yes hf (by rw [hs'])];simp only [hs'];rfl
theorem meet_ack {c : Cfg} {ask : List PT} (hc : isC c) (he : O.encE ask = 0) :
 pack c (second c ask) ⟨2, 1, O.encB ask⟩ 1 = ((third c ask, [], [5, 1]), true) := by
 have hf := second_fine hc he;have hw : which c (second c ask) ⟨2, 1, O.encB ask⟩ = some (9, QC.zero, second c ask) := by
  unfold which;rw [if_neg (show ¬ (2 : Int) = 1 by decide), if_pos (show (2 : Int) = 2 from rfl), if_pos ⟨rfl, rfl⟩]
 have hs : Fs.stp 8 9 = (9, [5, 1], 0) := by decide
 have hs' : Fs.stp (second c ask).st 9 = (9, [5, 1], 0) := hs;unfold pack;rw [if_neg (show ¬ ¬ ((1 : Int) <= 2 /\ (2 : Int) <= 7) by decide), if_neg (fun x => x ⟨hf, cencE_of (by decide) (by decide)⟩), hw, packT_yes (by rw [hs']), doE_yes hf (by rw [hs'])];simp only [hs'];rfl
def sent (ask other : List PT) (i : Int) : List QC := if i = 0 then [⟨1, 1, O.encB ask⟩] else [⟨1, 1, O.encB ask⟩, ⟨2, 1, O.encB other⟩]
theorem sent_len (ask other : List PT) (i : Int) : (sent ask other i).length = if i = 0 then 1 else 2 := by unfold sent; split <;> rfl
theorem meet_next {c : Cfg} {ask other : List PT} {i j : Int} (hc : isC c) (he : O.encE ask = 0) (ho : O.encE other = 0) (hn : (Ng.ans c.rs other 0 c.fail).1 = 2) (hi : 0 <= i) (hj : 0 <= j) (hl : i < ((sent other ask j).length : Nat)) :
 (pack c (sideA c ask i) ((sent other ask j).getD i.toNat QC.zero) 1).1.1 = sideA c ask (i + 1) /\
 sent ask other i ++ (pack c (sideA c ask i) ((sent other ask j).getD i.toNat QC.zero) 1).1.2.1 = sent ask other (i + 1) := by
 rw [sent_len] at hl
 by_cases c0 : i = 0
 · subst c0;have h1 : (sent other ask j).getD (0 : Int).toNat QC.zero = ⟨1, 1, O.encB other⟩ := by unfold sent; split <;> rfl
   rw [h1, show sideA c ask 0 = first c ask from rfl, meet_req hc he ho hn];exact ⟨rfl, rfl⟩
 · have hj0 : j ≠ 0 := by intro h; rw [if_pos h] at hl; omega
   rw [if_neg hj0] at hl;obtain rfl : i = 1 := by omega
   have h1 : (sent other ask j).getD (1 : Int).toNat QC.zero = ⟨2, 1, O.encB ask⟩ := by unfold sent; rw [if_neg hj0]; rfl
   rw [h1, show sideA c ask 1 = second c ask from rfl, meet_ack hc he];exact ⟨rfl, rfl⟩
end Go.Proofs.YtclplbapedmihaaGreat.Au
namespace Go.Proofs.YtclplbapedmihaaGreat.Au
set_option maxRecDepth 4000
open Go.RowKit
set_option linter.unusedVariables false
set_option linter.unusedSimpArgs false
structure Ct where
 c : Int
 i : Int
 val : Value
 l : List UInt8
def Ct.plain (t : Ct) : QC := ⟨t.c, t.i, t.l⟩
def Ct.cells (t : Ct) : List Value := [.int .i64 t.c, .int .i64 t.i, t.val]
def plainC (ts : List Ct) : List QC := ts.map Ct.plain
def flatC (ts : List Ct) : List Value := ts.flatMap Ct.cells
theorem flatC_cons (t : Ct) (ts : List Ct) : flatC (t :: ts) = .int .i64 t.c :: .int .i64 t.i :: t.val :: flatC ts := rfl
theorem flatC_append (a b : List Ct) : flatC (a ++ b) = flatC a ++ flatC b := by simp [flatC]
theorem flatC_length (ts : List Ct) : (flatC ts).length = ts.length * 3 := by
 induction ts with
 | nil => rfl
 | cons t ts ih => rw [flatC_cons, List.length_cons, List.length_cons, List.length_cons, List.length_cons, ih]; omega
theorem flatC_get (ts : List Ct) : ∀ (i : Nat) (h : i < ts.length), (flatC ts)[i * 3]? = some (.int .i64 ts[i].c) /\ (flatC ts)[i * 3 + 1]? = some (.int .i64 ts[i].i) /\ (flatC ts)[i * 3 + 2]? = some ts[i].val := by
 induction ts with
 | nil => intro i h; simp at h
 | cons t ts ih =>
  intro i h;cases i with
  | zero => exact ⟨rfl, rfl, rfl⟩
  | succ i =>
   have := ih i (by simpa using h);rw [flatC_cons, show (i + 1) * 3 = i * 3 + 1 + 1 + 1 by omega];simpa using this
theorem plainC_length (ts : List Ct) : (plainC ts).length = ts.length := by simp [plainC]
theorem plainC_append (a b : List Ct) : plainC (a ++ b) = plainC a ++ plainC b := by simp [plainC]
theorem plainC_get (ts : List Ct) (i : Nat) (h : i < ts.length) : (plainC ts)[i]'(by rw [plainC_length]; exact h) = ⟨ts[i].c, ts[i].i, ts[i].l⟩ := by simp [plainC, Ct.plain]
structure CR (w : World) (v : Value) (n : Nat) (ts : List Ct) : Prop where
 rd : Rd w 3 v n (flatC ts)
 vals : ∀ t ∈ ts, Bs w t.val t.l
theorem CR.len {w : World} {v : Value} {n : Nat} {ts : List Ct} (h : CR w v n ts) : ts.length = n := by
 have := h.rd.1;rw [flatC_length] at this;omega
theorem CR.below {w w' : World} {v : Value} {n : Nat} {ts : List Ct} (h : CR w v n ts) (hb : Below w.heap.size w w') : CR w' v n ts := ⟨h.rd.below hb, fun t ht => (h.vals t ht).below hb⟩
theorem CR.shape {w : World} {v : Value} {n : Nat} {ts : List Ct} (h : CR w v n ts) : ∃ ao cap, v = .slice ao n cap /\ n <= cap /\ cap <= maxLen := h.rd.shape
theorem CR.cells {w : World} {ao : Option Addr} {n c : Nat} {ts : List Ct} (h : CR w (.slice ao n c) n ts) (hn : 0 < n) :
 ∃ b o, ao = some ⟨b, o, none⟩ /\ b < w.heap.size /\ ∀ i (hi : i < ts.length), w.cell? ⟨b, o + i * 3, none⟩ = some (.int .i64 ts[i].c) /\ w.cell? ⟨b, o + i * 3 + 1, none⟩ = some (.int .i64 ts[i].i) /\ w.cell? ⟨b, o + i * 3 + 2, none⟩ = some ts[i].val := by
 obtain ⟨b, o, h1, h2, h3⟩ := Rd.cells h.rd hn (by omega);exact ⟨b, o, h1, h2, fun i hi => ⟨h3 _ _ (flatC_get ts i hi).1, h3 _ _ (flatC_get ts i hi).2.1, h3 _ _ (flatC_get ts i hi).2.2⟩⟩
theorem CR.val {w : World} {v : Value} {n : Nat} {ts : List Ct} (h : CR w v n ts) (i : Nat) (hi : i < ts.length) : Bs w ts[i].val ts[i].l := h.vals _ (List.getElem_mem hi)
def Got (w : World) (base : Nat) (v : Value) (l : List UInt8) : Prop := OwnB w base 5 v l \/ ∃ w0 : World, w0.heap.size <= base /\ Bs w0 v l /\ Below w0.heap.size w0 w
theorem Got.bs {w : World} {base : Nat} {v : Value} {l : List UInt8} (h : Got w base v l) : Bs w v l := by
 rcases h with h | ⟨w0, _, h, hb⟩
 · exact h.bs
 · exact h.below hb
theorem Got.below {w w' : World} {base : Nat} {v : Value} {l : List UInt8} (h : Got w base v l) (hl : base <= w.heap.size) (hb : Below w.heap.size w w') : Got w' base v l := by
 rcases h with h | ⟨w0, h0, h, hk⟩
 · exact .inl (h.below hb)
 · exact .inr ⟨w0, h0, h, hk.trans (hb.mono (Nat.le_trans h0 hl))⟩
structure CO (O : Bool) (w : World) (base : Nat) (v : Value) (ts : List Ct) : Prop where
 own : w.ownsRow base 32 3 v ts.length (flatC ts)
 vals : ∀ t ∈ ts, if O then OwnB w base 5 t.val t.l else Got w base t.val t.l
theorem CO.got {O : Bool} {w : World} {base : Nat} {v : Value} {ts : List Ct} (h : CO O w base v ts) : ∀ t ∈ ts, Got w base t.val t.l := by
 intro t ht;have := h.vals t ht;cases O with
 | true => exact .inl this
 | false => exact this
theorem CO.cr {O : Bool} {w : World} {base : Nat} {v : Value} {ts : List Ct} (h : CO O w base v ts) : CR w v ts.length ts := ⟨own_rd h.own, fun t ht => (h.got t ht).bs⟩
theorem CO.nil (O : Bool) (w : World) (base : Nat) : CO O w base (.slice none 0 0) [] := ⟨World.ownsRow_nil w base _ 3, fun t h => by cases h⟩
theorem CO.below {O : Bool} {w w' : World} {base : Nat} {v : Value} {ts : List Ct} (h : CO O w base v ts) (hl : base <= w.heap.size) (hb : Below w.heap.size w w') : CO O w' base v ts := by
 refine ⟨ownsRow_below h.own hb, fun t ht => ?_⟩;have := h.vals t ht;cases O with
 | true => exact OwnB.below this hb
 | false => exact Got.below this hl hb
theorem CO.mono {w : World} {base base' : Nat} {v : Value} {ts : List Ct} (h : CO true w base v ts) (hb : base' <= base) : CO true w base' v ts := ⟨ownsRow_mono h.own hb, fun t ht => OwnB.mono (h.vals t ht) hb⟩
theorem Got.grown {w w' : World} {base : Nat} {e : TypeId} {size n : Nat} {v u : Value} {l : List UInt8} {xs : List Value} (h : Got w base u l) (hr : w.ownsRow base e size v n xs) (he : 5 ≠ e) (hl : base <= w.heap.size) (hg : w.grownBy w' v.ownBlock) : Got w' base u l := by
 rcases h with h | ⟨w0, h0, h, hk⟩
 · exact .inl (h.kept hg (own_ne_block h hr he))
 · exact .inr ⟨w0, h0, h, hk.trans ((grown_below hr hl hg).mono h0)⟩
theorem CO.more {O : Bool} {w w' : World} {base : Nat} {v v' : Value} {ts : List Ct} {t : Ct} (h : CO O w base v ts) (ht : if O then OwnB w base 5 t.val t.l else Got w base t.val t.l) (hl : base <= w.heap.size)
 (ho : w'.ownsRow base 32 3 v' (ts.length + 1) (flatC ts ++ t.cells)) (hg : w.grownBy w' v.ownBlock) : CO O w' base v' (ts ++ [t]) := by
 have key : ∀ u : Ct, (if O then OwnB w base 5 u.val u.l else Got w base u.val u.l) -> (if O then OwnB w' base 5 u.val u.l else Got w' base u.val u.l) := by
  intro u hu;cases O with
  | true => exact OwnB.kept hu hg (own_ne_block hu h.own (by decide))
  | false => exact Got.grown hu h.own (by decide) hl hg
 refine ⟨?_, fun u hu => ?_⟩
 · rw [flatC_append, List.length_append, show flatC [t] = t.cells by simp [flatC]]; exact ho
 · rcases List.mem_append.1 hu with hu | hu
   · exact key u (h.vals u hu)
   · rw [List.mem_singleton.1 hu]; exact key t ht
theorem infoC : (Tryz.prog.info? 32).map (fun i => (i.zero, i.size, i.bytes)) = some (some (.agg #[.int .i64 0, .int .i64 0, .slice none 0 0]), 3, 40) := by kernel_rfl
theorem sizeC : (Tryz.prog.info? 32).map (·.size) = some 3 := by kernel_rfl
theorem one_ctl {v : Value} (c i : Int) (h : v.oneCell' = true) : ∀ u ∈ [Value.int .i64 c, .int .i64 i, v], u.oneCell' = true := by
 intro u hu;simp only [List.mem_cons, List.not_mem_nil, or_false] at hu
 rcases hu with rfl | rfl | rfl
 · rfl
 · rfl
 · exact h
end Go.Proofs.YtclplbapedmihaaGreat.Au
namespace Go.Proofs.YtclplbapedmihaaGreat.Au
set_option maxRecDepth 4000
open Go.RowKit O Ng
open Go.Proofs.YtclplbapedmihaaGreat.Fs (AO AO.ar AO.nil AR)
set_option linter.unusedVariables false
set_option linter.unusedSimpArgs false
structure Vw where
 c : Cfg
 a : Aut
 t : Int
 q : QC
 n : QC
 out : List QC
 done : List Int
 dv : Value
structure Mv where
 rv : Value
 av : Value
 qv : Value
 nv : Value
 ov : Value
 ts : List Tg
 os : List Ct
def rows (V : Vw) (m : Mv) : Array Value := #[m.rv, .int .i64 V.c.conf, .int .i64 V.c.term, .int .i64 V.c.fail, .int .i64 V.c.wait, .int .i64 V.a.st, .int .i64 V.a.id, .int .i64 V.a.req, m.av, .int .i64 V.a.count, .int .i64 V.a.timer, .int .i64 V.a.naks, .int .i64 V.t, .int .i64 V.q.c, .int .i64 V.q.i, m.qv, .int .i64 V.n.c, .int .i64 V.n.i, m.nv, m.ov, V.dv]
structure Hold (w0 w : World) (V : Vw) (m : Mv) : Prop where
 old : Below w0.heap.size w0 w
 rules : ∃ n, RR w0 m.rv n V.c.rs
 ask : TO w w0.heap.size m.av m.ts
 asks : plain m.ts = V.a.ask
 q : Bs w0 m.qv V.q.l
 n : Got w w0.heap.size m.nv V.n.l
 out : CO true w w0.heap.size m.ov m.os
 outs : plainC m.os = V.out
 done : AO w w0.heap.size V.dv V.done
 ql : V.q.l.length <= 1500
 nl : V.n.l.length <= 1500
 few : m.ts.length <= 1000 /\ ∀ x ∈ m.ts, x.l.length <= 1000
structure RAt (w0 w : World) (g : Nat) (V : Vw) (m : Mv) : Prop where
 row : w.heap[g]? = some (.cells #[m.rv, .int .i64 V.c.conf, .int .i64 V.c.term, .int .i64 V.c.fail, .int .i64 V.c.wait, .int .i64 V.a.st, .int .i64 V.a.id, .int .i64 V.a.req, m.av, .int .i64 V.a.count, .int .i64 V.a.timer, .int .i64 V.a.naks, .int .i64 V.t, .int .i64 V.q.c, .int .i64 V.q.i, m.qv, .int .i64 V.n.c, .int .i64 V.n.i, m.nv, m.ov, V.dv] 75 (0, 0))
 low : w0.heap.size <= g
 hold : Hold w0 w V m
def RV (w0 w : World) (g : Nat) (V : Vw) : Prop := ∃ m, RAt w0 w g V m
theorem RAt.lt {w0 w : World} {g : Nat} {V : Vw} {m : Mv} (h : RAt w0 w g V m) : g < w.heap.size := (Array.getElem?_eq_some_iff.1 h.row).1
theorem Hold.gr {w0 w w' : World} {V : Vw} {m : Mv} (h : Hold w0 w V m) (hb : Below w.heap.size w w') : Hold w0 w' V m :=
 ⟨h.old.trans (hb.mono h.old.size), h.rules, h.ask.below hb, h.asks, h.q, h.n.below h.old.size hb, h.out.below h.old.size hb, h.outs, ownsRow_below h.done hb, h.ql, h.nl, h.few⟩
theorem RAt.gr {w0 w w' : World} {g : Nat} {V : Vw} {m : Mv} (h : RAt w0 w g V m) (hb : Below w.heap.size w w') : RAt w0 w' g V m := ⟨heap_below h.row hb, h.low, h.hold.gr hb⟩
theorem RV.gr {w0 w w' : World} {g : Nat} {V : Vw} (h : RV w0 w g V) (hb : Below w.heap.size w w') : RV w0 w' g V := by
 obtain ⟨m, h⟩ := h;exact ⟨m, h.gr hb⟩
theorem own_off {g : Nat} {w w' : World} {base : Nat} {e e' : TypeId} {size n : Nat} {v : Value} {xs : List Value} {cs : Array Value} {fr : Nat × Nat} (h : w.ownsRow base e size v n xs) (hg : w.heap[g]? = some (.cells cs e' fr)) (he : e ≠ e') (ho : Only g w w') : w'.ownsRow base e size v n xs := by
 refine ⟨h.1, ?_⟩
 rcases h.2 with h' | ⟨k, cap, cur, h1, h2, h3, h4⟩
 · exact .inl h'
 · refine .inr ⟨k, cap, cur, h1, h2, ?_, h4⟩;rw [ho.heap k (Array.getElem?_eq_some_iff.1 h3).1 (fun e1 => own_ne_cell h hg he (by rw [h1, e1]; rfl))];exact h3
theorem Got.off {g : Nat} {w w' : World} {base : Nat} {e' : TypeId} {v : Value} {l : List UInt8} {cs : Array Value} {fr : Nat × Nat} (h : Got w base v l) (hg : w.heap[g]? = some (.cells cs e' fr)) (he : 5 ≠ e') (hl : base <= g) (ho : Only g w w') : Got w' base v l := by
 rcases h with h | ⟨w0, h0, h, hk⟩
 · exact .inl (own_off h hg he ho)
 · exact .inr ⟨w0, h0, h, ho.below _ _ (Nat.le_trans h0 hl) hk⟩
theorem TO.off {g : Nat} {w w' : World} {base : Nat} {e' : TypeId} {v : Value} {ts : List Tg} {cs : Array Value} {fr : Nat × Nat} (h : TO w base v ts) (hg : w.heap[g]? = some (.cells cs e' fr)) (he : 5 ≠ e') (he2 : 69 ≠ e') (ho : Only g w w') : TO w' base v ts :=
 ⟨own_off h.own hg he2 ho, fun t ht => own_off (h.vals t ht) hg he ho⟩
theorem CO.off {O : Bool} {g : Nat} {w w' : World} {base : Nat} {e' : TypeId} {v : Value} {ts : List Ct} {cs : Array Value} {fr : Nat × Nat} (h : CO O w base v ts) (hg : w.heap[g]? = some (.cells cs e' fr)) (he : 5 ≠ e') (he2 : 32 ≠ e') (hl : base <= g) (ho : Only g w w') : CO O w' base v ts :=
 ⟨own_off h.own hg he2 ho, fun t ht => by
  have := h.vals t ht;cases O with
  | true => exact own_off this hg he ho
  | false => exact Got.off this hg he hl ho⟩
theorem Hold.off {w0 w w' : World} {g : Nat} {V : Vw} {m : Mv} {cs : Array Value} {fr : Nat × Nat} (h : Hold w0 w V m) (hg : w.heap[g]? = some (.cells cs 75 fr)) (hl : w0.heap.size <= g) (ho : Only g w w') : Hold w0 w' V m :=
 ⟨ho.below _ _ hl h.old, h.rules, TO.off h.ask hg (by decide) (by decide) ho, h.asks, h.q, Got.off h.n hg (by decide) hl ho, CO.off h.out hg (by decide) (by decide) hl ho, h.outs, own_off h.done hg (by decide) ho, h.ql, h.nl, h.few⟩
theorem Hold.same {w0 w : World} {V V' : Vw} {m : Mv} (h : Hold w0 w V m) (h1 : V'.c = V.c) (h2 : V'.a.ask = V.a.ask) (h3 : V'.q = V.q) (h4 : V'.n = V.n) (h5 : V'.out = V.out) (h6 : V'.done = V.done) (h7 : V'.dv = V.dv := by rfl) : Hold w0 w V' m :=
 ⟨h.old, by rw [h1]; exact h.rules, h.ask, by rw [h2]; exact h.asks, by rw [h3]; exact h.q, by rw [h4]; exact h.n, h.out, by rw [h5]; exact h.outs, by rw [h6, h7]; exact h.done, by rw [h3]; exact h.ql, by rw [h4]; exact h.nl, h.few⟩
theorem RAt.turn {w0 w w' : World} {g : Nat} {V V' : Vw} {m m' : Mv} (h : RAt w0 w g V m) (ho : Only g w w') (hr : w'.heap[g]? = some (.cells (rows V' m') 75 (0, 0))) (hh : Hold w0 w' V m -> Hold w0 w' V' m') : RAt w0 w' g V' m' :=
 ⟨hr, h.low, hh (h.hold.off h.row h.low ho)⟩
theorem RAt.cells {w0 w : World} {g : Nat} {V : Vw} {m : Mv} (h : RAt w0 w g V m) :
 w.cell? ⟨g, 0, none⟩ = some m.rv /\ w.cell? ⟨g, 1, none⟩ = some (.int .i64 V.c.conf) /\ w.cell? ⟨g, 2, none⟩ = some (.int .i64 V.c.term) /\ w.cell? ⟨g, 3, none⟩ = some (.int .i64 V.c.fail) /\ w.cell? ⟨g, 4, none⟩ = some (.int .i64 V.c.wait) /\
 w.cell? ⟨g, 5, none⟩ = some (.int .i64 V.a.st) /\ w.cell? ⟨g, 6, none⟩ = some (.int .i64 V.a.id) /\ w.cell? ⟨g, 7, none⟩ = some (.int .i64 V.a.req) /\ w.cell? ⟨g, 8, none⟩ = some m.av /\ w.cell? ⟨g, 9, none⟩ = some (.int .i64 V.a.count) /\
 w.cell? ⟨g, 10, none⟩ = some (.int .i64 V.a.timer) /\ w.cell? ⟨g, 11, none⟩ = some (.int .i64 V.a.naks) /\ w.cell? ⟨g, 12, none⟩ = some (.int .i64 V.t) /\ w.cell? ⟨g, 13, none⟩ = some (.int .i64 V.q.c) /\ w.cell? ⟨g, 14, none⟩ = some (.int .i64 V.q.i) /\
 w.cell? ⟨g, 15, none⟩ = some m.qv /\ w.cell? ⟨g, 16, none⟩ = some (.int .i64 V.n.c) /\ w.cell? ⟨g, 17, none⟩ = some (.int .i64 V.n.i) /\ w.cell? ⟨g, 18, none⟩ = some m.nv /\ w.cell? ⟨g, 19, none⟩ = some m.ov /\ w.cell? ⟨g, 20, none⟩ = some V.dv := by
 have c := fun i => cell_of_row w g i _ _ _ h.row
 exact ⟨c 0, c 1, c 2, c 3, c 4, c 5, c 6, c 7, c 8, c 9, c 10, c 11, c 12, c 13, c 14, c 15, c 16, c 17, c 18, c 19, c 20⟩
theorem Hold.sends {w0 w w' : World} {V V' : Vw} {m m' : Mv} {t : Ct} (h : Hold w0 w V m) (ht : OwnB w w0.heap.size 5 t.val t.l) (ho : w'.ownsRow w0.heap.size 32 3 m'.ov (m.os.length + 1) (flatC m.os ++ t.cells)) (hg : w.grownBy w' m.ov.ownBlock)
 (hm : m' = { m with ov := m'.ov, os := m.os ++ [t] }) (hV : V' = { V with out := V.out ++ [t.plain] }) : Hold w0 w' V' m' := by
 have hb := grown_below h.out.own h.old.size hg;subst hV;rw [hm];refine ⟨h.old.trans hb, h.rules, ⟨World.ownsRow.kept h.ask.own hg (own_ne_block h.ask.own h.out.own (by decide)), fun u hu => OwnB.kept (h.ask.vals u hu) hg (own_ne_block (h.ask.vals u hu) h.out.own (by decide))⟩, h.asks, h.q, Got.grown h.n h.out.own (by decide) h.old.size hg, ?_, ?_,
  World.ownsRow.kept h.done hg (own_ne_block h.done h.out.own (by decide)), h.ql, h.nl, h.few⟩
 · exact CO.more h.out ht h.old.size ho hg
 · show plainC (m.os ++ [t]) = V.out ++ [t.plain];rw [plainC_append, h.outs]; rfl
theorem wrap_in {n : Int} (h0 : -9223372036854775808 <= n) (h1 : n <= 9223372036854775807) : wrap64 n = n := by unfold wrap64; omega
theorem sizeI : (Tryz.prog.info? 3).map (·.size) = some 1 := by kernel_rfl
theorem sizeCs : (Tryz.prog.info? 35).map (·.size) = some 1 := by kernel_rfl
theorem own_one {w : World} {base : Nat} {e : TypeId} {size n : Nat} {v : Value} {xs : List Value} (h : w.ownsRow base e size v n xs) : v.oneCell' = true := by
 obtain ⟨_, _, _, rfl, _⟩ := own_rd h;rfl
set_option maxRecDepth 20000 in
set_option maxHeartbeats 4000000 in
theorem send_any (g : Nat) {V : Vw} {m : Mv} (w0 w : World) (h : RAt w0 w g V m) (c i : Int) (A : Option Addr) (L C : Nat) (l : List UInt8) (ho : OwnB w w0.heap.size 5 (.slice A L C) l) (hn : m.os.length <= 1000) :
 Calls Tryz.prog 136 #[.pointer (some ⟨g, 0, none⟩), .agg #[.int .i64 c, .int .i64 i, .slice A L C]] w fun e w' => e = .returned (.tuple #[]) /\ RV w0 w' g { V with out := V.out ++ [⟨c, i, l⟩] } := by
 obtain ⟨i0, hi, hz0, hz1, hz2⟩ := info_parts infoC;obtain ⟨oa, oc, eo, _, _⟩ := h.hold.out.cr.shape;have BA : Gr w (w.alloc (.cells #[.int .i64 c, .int .i64 i, .slice A L C] 32)) := (Gr.refl w).alloc _;have HR := hd_ (h.gr BA);have HG : Hid ((w.alloc (.cells #[.int .i64 c, .int .i64 i, .slice A L C] 32)).heap[w.heap.size]? = some (.cells #[.int .i64 c, .int .i64 i, .slice A L C] 32)) := heap_alloc_last _ _;have HO := hd_ (OwnB.below ho BA);have HEO := hd_ eo;obtain ⟨N, hN⟩ : ∃ N, N = m.os.length := ⟨_, rfl⟩;have HN := hd_ hN;have HBY : Hid ((N + 1) * 40 <= 140737488355328) := by show _ <= _; omega
 clear h ho BA eo hN hn;go_enter Tryz.func136, Tryz.ntmps136
 go_upto_region 1 with fail
 have HC : Hid (Gr (w.alloc (.cells #[.int .i64 c, .int .i64 i, .slice A L C] 32)) (w.alloc (.cells #[.int .i64 c, .int .i64 i, .slice A L C] 32)).drew) := Gr.drew _;refine wp_region_H 7 Gr Any (by kernel_rfl) ?_;generalize (w.alloc (.cells #[.int .i64 c, .int .i64 i, .slice A L C] 32)).drew = wc at HC ⊢;refine wpH_uH preGr preAny 0 (some 4) ?_;refine wpH_u preGr preAny 1 (some 5) ?_;refine wpH_u preGr preAny 2 (some 6) ?_;refine wpH_u preGr preAny 3 (some 7) ?_;refine wpH_u preGr preAny 4 (some 8) ?_ (hy := fun w' hw' => by
  try (have hq2 := (HR.out.gr (Gr.trans HC.out hw')).cells; rw [HEO.out, <- HN.out] at hq2; obtain ⟨k0, k1, k2, k3, k4, k5, k6, k7, k8, k9, k10, k11, k12, k13, k14, k15, k16, k17, k18, k19, k20⟩ := hq2; clear k0 k1 k2 k3 k4 k5 k6 k7 k8 k9 k10 k11 k12 k13 k14 k15 k16 k17 k18 k20; have hq3 := cells3 (heap_below HG.out (Gr.trans HC.out hw')); obtain ⟨j0, j1, j2⟩ := hq3)
  go_simp;with_reducible rfl)
 refine wpH_u preGr preAny 5 (some 9) ?_ (hy := fun w' hw' => by
  try (have hq2 := (HR.out.gr (Gr.trans HC.out hw')).cells; rw [HEO.out, <- HN.out] at hq2; obtain ⟨k0, k1, k2, k3, k4, k5, k6, k7, k8, k9, k10, k11, k12, k13, k14, k15, k16, k17, k18, k19, k20⟩ := hq2; clear k0 k1 k2 k3 k4 k5 k6 k7 k8 k9 k10 k11 k12 k13 k14 k15 k16 k17 k18 k20; have hq3 := cells3 (heap_below HG.out (Gr.trans HC.out hw')); obtain ⟨j0, j1, j2⟩ := hq3)
  go_simp;with_reducible rfl)
 refine wpH_one (i := 6) rfl (by kernel_rfl) (by rfl) ?_;go_simp;have hb : Gr wc (wc.alloc (.cells #[.int .i64 c, .int .i64 i, .slice A L C] 32)) := (Gr.refl _).alloc _;refine ⟨hb, trivial, ?_⟩;have HRD : Hid (Rd (wc.alloc (.cells #[.int .i64 c, .int .i64 i, .slice A L C] 32)) 3 (.slice (some ⟨wc.heap.size, 0, none⟩) 1 1) 1 [.int .i64 c, .int .i64 i, .slice A L C]) := rd_new wc [.int .i64 c, .int .i64 i, .slice A L C] 32 1 3 rfl (by decide);have HC' : Hid (Gr (w.alloc (.cells #[.int .i64 c, .int .i64 i, .slice A L C] 32)) (wc.alloc (.cells #[.int .i64 c, .int .i64 i, .slice A L C] 32))) := Gr.trans HC.out hb;clear HC hb;have HC := HC';clear HC';generalize wc.alloc (.cells #[.int .i64 c, .int .i64 i, .slice A L C] 32) = w1 at HC HRD ⊢;have HOWN : Hid (w1.ownsRow w0.heap.size 32 3 (.slice oa N oc) N (flatC m.os)) := by
  have := (HR.out.gr HC.out).hold.out.own;rw [HEO.out, <- HN.out] at this;exact this
 have HSZ : Hid (w0.heap.size <= w1.heap.size) := (HR.out.gr HC.out).hold.old.size;try simp only [Act.put, aq1, aq2, aq3]
 refine wpH_tail (i := 7) (by decide) rfl (by kernel_rfl) (by rfl) ?_;refine wp_append_gr _ (some 11) (.tmp 8) (.tmp 10) 35 rfl w0.heap.size 32 i0 _ 3 40 Tryz.underlying35 hi hz0 hz1 hz2 rfl (by decide) _ N _ rfl HOWN.out _ 1 _ rfl HRD.out (one_ctl c i rfl) HBY.out (by decide) HSZ.out rfl ?_;intro v' w2 ho' hg';have HROW2 : Hid (w2.heap[g]? = some (.cells #[m.rv, .int .i64 V.c.conf, .int .i64 V.c.term, .int .i64 V.c.fail, .int .i64 V.c.wait, .int .i64 V.a.st, .int .i64 V.a.id, .int .i64 V.a.req, m.av, .int .i64 V.a.count, .int .i64 V.a.timer, .int .i64 V.a.naks, .int .i64 V.t, .int .i64 V.q.c, .int .i64 V.q.i, m.qv, .int .i64 V.n.c, .int .i64 V.n.i, m.nv, m.ov, V.dv] 75 (0, 0))) := grown_heap HOWN.out hg' (HR.out.gr HC.out).row (by decide);have HO2 := hd_ ho';have HG2 := hd_ hg';have h1 : v'.oneCell' = true := own_one ho';have H1 := hd_ h1;clear ho' hg' h1;refine ⟨trivial, ?_⟩;try simp only [Act.put, aq1, aq2, aq3]
 refine wpH_tail (i := 8) (by decide) rfl (by kernel_rfl) (by rfl) ?_;go_simp;refine ⟨(pre_refl preAny _), ?_⟩;try simp only [Act.put, aq1, aq2, aq3]
 refine wpH_tail (i := 9) (by decide) rfl (by kernel_rfl) (by rfl) ?_;go_simp;refine ⟨(pre_refl preAny _), ?_⟩;try simp only [Act.put, aq1, aq2, aq3]
 refine wpH_tail (i := 10) (by decide) rfl (by kernel_rfl) (by rfl) ?_;refine wp_store_cell (none) 35 (.tmp 13) (.tmp 11) rfl g 19 v' rfl rfl 75 _ HROW2.out sizeCs (by simp) H1.out rfl ?_;intro w3 h3 ho3;have HR3 := hd_ h3;have HO3 := hd_ ho3;clear h3 ho3;refine ⟨trivial, ?_⟩;try simp only [Act.put, aq1, aq2, aq3]
 refine wpH_done (by kernel_rfl) ?_ _;go_wp2
 go_end0
 have hr := HR.out.gr HC.out;have hh : Hold w0 w2 { V with out := V.out ++ [⟨c, i, l⟩] } { m with ov := v', os := m.os ++ [⟨c, i, .slice A L C, l⟩] } :=
  Hold.sends (t := ⟨c, i, .slice A L C, l⟩) hr.hold (OwnB.below HO.out HC.out) (by rw [<- HN.out]; exact HO2.out) (by rw [HEO.out, <- HN.out]; exact HG2.out) rfl rfl
 exact ⟨rfl, { m with ov := v', os := m.os ++ [⟨c, i, .slice A L C, l⟩] }, HR3.out, hr.low, Hold.off hh HROW2.out hr.low HO3.out⟩
set_option maxRecDepth 20000 in
set_option maxHeartbeats 4000000 in
theorem wait_any (g : Nat) {V : Vw} {m : Mv} (w0 w : World) (h : RAt w0 w g V m) (ht : 0 <= V.t /\ V.t <= topT) (hc : 1 <= V.c.wait /\ V.c.wait <= topW) :
 Calls Tryz.prog 133 #[.pointer (some ⟨g, 0, none⟩)] w fun e w' => e = .returned (.tuple #[]) /\ RAt w0 w' g { V with a := { V.a with timer := V.t + V.c.wait } } m := by
 have HR := hd_ h;unfold topT at ht;unfold topW at hc;have e1 : IntKind.i64.wrap (V.t + V.c.wait) = V.t + V.c.wait := IntWalk.i64_in _ (by omega);have e2 : wrap64 (V.t + V.c.wait) = V.t + V.c.wait := wrap_in (by omega) (by omega);clear h ht hc;go_enter Tryz.func133, Tryz.ntmps133
 have HC : Hid (Gr w w.drew) := Gr.drew _;refine wp_region_G 14 Gr (by kernel_rfl) ?_;generalize w.drew = wc at HC ⊢;refine wpG_u preGr 0 (some 2) ?_;refine wpG_u preGr 1 (some 3) ?_;refine wpG_u preGr 2 (some 4) ?_;refine wpG_u preGr 3 (some 5) ?_;refine wpG_u preGr 4 (some 6) ?_ (hy := fun w' hw' => by
  try (have hq2 := (HR.out.gr (Gr.trans HC.out hw')).cells; obtain ⟨k0, k1, k2, k3, k4, k5, k6, k7, k8, k9, k10, k11, k12, k13, k14, k15, k16, k17, k18, k19, k20⟩ := hq2; clear k0 k1 k2 k3 k5 k6 k7 k8 k9 k10 k11 k13 k14 k15 k16 k17 k18 k19 k20)
  go_simp;with_reducible rfl)
 refine wpG_u preGr 5 (some 7) ?_;refine wpG_u preGr 6 (some 8) ?_;refine wpG_u preGr 7 (some 9) ?_;refine wpG_u preGr 8 (some 10) ?_;refine wpG_u preGr 9 (some 11) ?_ (hy := fun w' hw' => by
  try (have hq2 := (HR.out.gr (Gr.trans HC.out hw')).cells; obtain ⟨k0, k1, k2, k3, k4, k5, k6, k7, k8, k9, k10, k11, k12, k13, k14, k15, k16, k17, k18, k19, k20⟩ := hq2; clear k0 k1 k2 k3 k5 k6 k7 k8 k9 k10 k11 k13 k14 k15 k16 k17 k18 k19 k20)
  go_simp;with_reducible rfl)
 refine wpG_u preGr 10 (some 12) ?_;refine wpG_u preGr 11 (some 13) ?_;refine wpG_u preGr 12 (some 14) ?_;refine wpG_u preGr 13 (some 15) ?_;refine wpG_tail (i := 14) (by decide) rfl (by kernel_rfl) (by rfl) ?_;refine wp_store_cell (none) 3 (.tmp 15) (.tmp 12) rfl g 10 (.int .i64 (V.t + V.c.wait)) rfl rfl 75 _ (HR.out.gr HC.out).row sizeI (by simp) rfl rfl ?_;intro w3 h3 ho3;have HR3 := hd_ h3;have HO3 := hd_ ho3;clear h3 ho3;try simp only [Act.put, aq1, aq2, aq3]
 refine wpG_done (by kernel_rfl) ?_ _;go_wp2
 go_end0
 exact ⟨rfl, (HR.out.gr HC.out).turn HO3.out HR3.out fun k => k.same rfl rfl rfl rfl rfl rfl⟩
set_option maxRecDepth 20000 in
set_option maxHeartbeats 4000000 in
theorem number_any (g : Nat) {V : Vw} {m : Mv} (w0 w : World) (h : RAt w0 w g V m) (hid : 0 <= V.a.id /\ V.a.id <= 255) :
 Calls Tryz.prog 134 #[.pointer (some ⟨g, 0, none⟩)] w fun e w' => e = .returned (.int .i64 (up V.a.id)) /\ RAt w0 w' g { V with a := { V.a with id := up V.a.id } } m /\ Only g w w' := by
 have HR := hd_ h;obtain ⟨k0, k1, k2, k3, k4, k5, k6, k7, k8, k9, k10, k11, k12, k13, k14, k15, k16, k17, k18, k19, k20⟩ := h.cells;have e2 : wrap64 (V.a.id + 1) = V.a.id + 1 := wrap_in (by omega) (by omega);have e3 : (V.a.id + 1).tmod 256 = up V.a.id := by rw [Int.tmod_eq_emod_of_nonneg (by omega)]; rfl
 clear h hid k0 k1 k2 k3 k4 k5 k7 k8 k9 k10 k11 k12 k13 k14 k15 k16 k17 k18 k19 k20;go_enter Tryz.func134, Tryz.ntmps134
 go_wp2_with (refine wpList_store_cell rfl 3 (.tmp 13) (.tmp 10) rfl g 6 (.int .i64 (up V.a.id)) rfl rfl 75 _ HR.out.row sizeI (by simp) rfl ?_)
 intro w3 h3 ho3;have HR3 : Hid (RAt w0 w3 g { V with a := { V.a with id := up V.a.id } } m) := HR.out.turn ho3 h3 fun k => k.same rfl rfl rfl rfl rfl rfl
 have HO3 := hd_ ho3;clear h3 ho3 k6 HR;obtain ⟨k0, k1, k2, k3, k4, k5, k6, k7, k8, k9, k10, k11, k12, k13, k14, k15, k16, k17, k18, k19, k20⟩ := HR3.out.cells;clear k0 k1 k2 k3 k4 k5 k7 k8 k9 k10 k11 k12 k13 k14 k15 k16 k17 k18 k19 k20;go_wp2
 go_ret
 exact ⟨rfl, HR3.out, HO3.out⟩
end Go.Proofs.YtclplbapedmihaaGreat.Au
namespace Go.Proofs.YtclplbapedmihaaGreat.Au
set_option maxRecDepth 4000
open Go.RowKit O Ng
set_option linter.unusedVariables false
set_option linter.unusedSimpArgs false
set_option maxRecDepth 20000 in
set_option maxHeartbeats 4000000 in
theorem copies_any (ao : Option Addr) (n c : Nat) (ts : List Tg) (w : World) (hr : TR w (.slice ao n c) n ts) (hn : n <= 1000) (hm : ∀ x ∈ ts, x.l.length <= 1000000) :
 Calls Tryz.prog 47 #[.slice ao n c] w fun e w' => ∃ v us, e = .returned v /\ plain us = plain ts /\ TO w' w.heap.size v us /\ Below w.heap.size w w' := by
 obtain ⟨i0, hi, hz0, hz1, hz2⟩ := info_parts infoT;have hl := hr.len;have HR := hd_ hr;have HM := hd_ hm;clear hr hm;go_enter Tryz.func47, Tryz.ntmps47
 go_wp2
 go_loopw [3, 8] (fun ov iv wr => ∃ (j : Nat) (us : List Tg) (lv : Value), j <= n /\ iv = .int .i64 j /\ lv = ov /\ plain us = (plain ts).take j /\ TO wr w.heap.size lv us /\ Below w.heap.size w wr) (fun _ iv _ => n - (intOf iv).toNat)
 case atStart => exact ⟨0, [], _, Nat.zero_le _, rfl, rfl, rfl, TO.nil _ _, Below.refl _ _⟩
 case round =>
  obtain ⟨j, us, lv, hj, rfl, rfl, hus, hto, hb⟩ := hrel;have HUS := hd_ hus;have HTO := hd_ hto;have HB := hd_ hb;have HBN := hd_ hb.size;clear hus hto hb
  by_cases hlt : j < n
  · obtain ⟨b, off, rfl, hbl, hc⟩ := (HR.out.below HB.out).cells (by omega);obtain ⟨hc0, hc1⟩ := hc j (by omega);have HV := hd_ ((HR.out.val j (by omega)).below HB.out);obtain ⟨A, L, C, hv, hL, hLC, hCm⟩ := HV.out.sl;rw [hv] at hc1;obtain ⟨T, hT⟩ : ∃ T, T = ts[j].typ := ⟨_, rfl⟩;rw [<- hT] at hc0;obtain ⟨l, hlq⟩ : ∃ l, l = ts[j].l := ⟨_, rfl⟩;have HNEXT : Hid ((plain ts).take (j + 1) = (plain ts).take j ++ [(T, l)]) := by
     show _ = _;rw [List.take_succ_eq_append_getElem (by rw [plain_length]; omega), plain_get _ _ (by omega), hT, hlq]
    have HBC : Hid (Gr wr (wr.alloc (.cells #[.int .i64 T, .slice A L C] 69))) := (Gr.refl wr).alloc _;have HGC : Hid ((wr.alloc (.cells #[.int .i64 T, .slice A L C] 69)).heap[wr.heap.size]? = some (.cells #[.int .i64 T, .slice A L C] 69)) := heap_alloc_last _ _;have hbs : Bs wr (.slice A L C) l := by rw [hlq, <- hv]; exact HV.out
    have hll : l.length = L := by rw [hlq]; exact hL
    have hL1 : L <= 1000000 := by rw [<- hll, hlq]; exact HM.out _ (List.getElem_mem _)
    have CL : Hid (∀ w', Gr (wr.alloc (.cells #[.int .i64 T, .slice A L C] 69)) w' -> Calls Tryz.prog 77 #[.slice A L C] w' fun e w3 => ∃ v, e = .returned v /\ OwnB w3 w'.heap.size 5 v l /\ Below w'.heap.size w' w3) := fun w' hw' =>
     clone_any w' A L C l hll (hbs.below (HBC.out.trans hw')) (by omega)
    have HB3 : Hid (Below w.heap.size w (wr.alloc (.cells #[.int .i64 T, .slice A L C] 69))) := HB.out.trans (Below.mono HBC.out HBN.out);have HTO3 : Hid (TO (wr.alloc (.cells #[.int .i64 T, .slice A L C] 69)) w.heap.size lv us) := HTO.out.below HBC.out;have hus : us.length <= 1000 := by
     have h1 := congrArg List.length HUS.out;rw [plain_length, List.length_take, plain_length] at h1;omega
    have hjn : j + 1 <= n := by omega
    clear hv hL hT hc hLC hCm hlq hbs hll;go_upto_region 5 with fail
    obtain ⟨wq, hwq⟩ : ∃ wq, wq = wr.alloc (.cells #[.int .i64 T, .slice A L C] 69) := ⟨_, rfl⟩;rw [<- hwq];rw [<- hwq] at HGC HB3 HTO3 CL;have HQN := hd_ HB3.out.size;clear hwq;refine wp_region_G 8 Gr (by kernel_rfl) ?_;refine wpG_u preGr 0 (some 12) ?_;refine wpG_u preGr 1 (some 13) ?_;refine wpG_u preGr 2 (some 14) ?_ (hy := fun w' hw' => by
     try have g0 := (copy_cells (heap_gr ((Gr.drew wq).trans hw') HGC.out)).1
     try have g1 := (copy_cells (heap_gr ((Gr.drew wq).trans hw') HGC.out)).2
     go_simp;with_reducible rfl)
    refine wpG_u preGr 3 (some 15) ?_;refine wpG_u preGr 4 (some 16) ?_ (hy := fun w' hw' => by
     try have g0 := (copy_cells (heap_gr ((Gr.drew wq).trans hw') HGC.out)).1
     try have g1 := (copy_cells (heap_gr ((Gr.drew wq).trans hw') HGC.out)).2
     go_simp;with_reducible rfl)
    refine wpG_one (i := 5) rfl (by kernel_rfl) (by rfl) ?_;go_simp;refine (CL.out _ (Gr.drew _)).mono ?_;rintro e w3 ⟨v3, rfl, hown3, hb3⟩;obtain ⟨A3, L3, C3, ev, hL3, _, _⟩ := hown3.bs.sl;subst ev;refine ⟨hb3, ?_⟩;have hq3 : Gr wq w3 := (Gr.drew wq).trans hb3;have HB4 : Hid (Below w.heap.size w w3) := HB3.out.trans (Below.mono hq3 HQN.out);have HTO4 : Hid (TO w3 w.heap.size lv us) := HTO3.out.below hq3;have HO4 := hd_ (hown3.mono (base' := w.heap.size) HQN.out);have HN4 := hd_ HB4.out.size;clear hown3 hb3 hq3 hL3;try simp only [Act.put, aq1, aq2, aq3]
    refine wpG_u preGr 6 (some 18) ?_ (hy := fun w' hw' => by
     refine Eq.trans (build_run (P := Tryz.prog) 69 [(0, .tmp 14), (1, .tmp 17)] ?_ #[.int .i64 T, .slice A3 L3 C3] ?_) ?_
     · rfl
     · exact builtT T A3 L3 C3
     · with_reducible rfl)
    refine wpG_one (i := 7) rfl (by kernel_rfl) (by rfl) ?_;go_simp;refine ⟨(Gr.refl _).alloc _, ?_⟩;have hal : Gr w3 (w3.alloc (.cells #[.int .i64 T, .slice A3 L3 C3] 69)) := (Gr.refl _).alloc _;have HB5 : Hid (Below w.heap.size w (w3.alloc (.cells #[.int .i64 T, .slice A3 L3 C3] 69))) := HB4.out.trans (Below.mono hal HN4.out);have HTO5 : Hid (TO (w3.alloc (.cells #[.int .i64 T, .slice A3 L3 C3] 69)) w.heap.size lv us) := HTO4.out.below hal;have HO5 := hd_ (HO4.out.below hal);have HN5 := hd_ HB5.out.size;have HRD := hd_ (rd_new w3 [.int .i64 T, .slice A3 L3 C3] 69 1 2 rfl (by decide));clear hal;try simp only [Act.put, aq1, aq2, aq3]
    refine wpG_tail (i := 8) (by decide) rfl (by kernel_rfl) (by rfl) ?_;refine wp_append_gr _ (some 20) (.tmp 12) (.tmp 19) 26 rfl w.heap.size 69 i0 _ 2 32 Tryz.underlying26 hi hz0 hz1 hz2 rfl (by decide) _ _ _ rfl HTO5.out.own _ 1 _ rfl HRD.out (one_tag T rfl) (by omega) (by decide) HN5.out rfl ?_;intro v' wo ho' hg';have HTO6 : Hid (TO wo w.heap.size v' (us ++ [⟨T, .slice A3 L3 C3, l⟩])) := HTO5.out.more HO5.out ho' hg';have HB6 : Hid (Below w.heap.size w wo) := HB5.out.trans (grown_below HTO5.out.own HN5.out hg');clear ho' hg';try simp only [Act.put, aq1, aq2, aq3]
    refine wpG_tail (i := 9) (by decide) rfl (by kernel_rfl) (by rfl) ?_;go_simp;try simp only [Act.put, aq1, aq2, aq3]
    refine wpG_done (by kernel_rfl) ?_ _;go_wp2
    go_roundw
    case rel =>
     have HU : plain (us ++ [(⟨T, .slice A3 L3 C3, l⟩ : Tg)]) = (plain ts).take (j + 1) := by rw [HNEXT.out, plain_append, HUS.out]; rfl
     first | exact ⟨j + 1, _, _, by omega, by go_num, rfl, HU, HTO6.out, HB6.out⟩ | ((repeat apply Exists.intro); exact ⟨⟨j + 1, _, _, by omega, by go_num, rfl, HU, HTO6.out, HB6.out⟩, rfl⟩)
    case measure => simp [intOf]; omega
  · obtain rfl : j = n := by omega
    have HU : Hid (plain us = plain ts) := by show _ = _; rw [HUS.out, List.take_of_length_le (by rw [plain_length]; omega)]
    obtain ⟨a', c', ev, _, _⟩ := HTO.out.tr.shape;subst ev;go_wp2
    go_ret
    exact ⟨_, us, rfl, HU.out, HTO.out, HB.out⟩
end Go.Proofs.YtclplbapedmihaaGreat.Au
namespace Go.Proofs.YtclplbapedmihaaGreat.Au
set_option maxRecDepth 4000
open Go.RowKit O Ng
open Go.Proofs.YtclplbapedmihaaGreat.Fs (AO AO.ar AO.nil AR)
set_option linter.unusedVariables false
set_option linter.unusedSimpArgs false
theorem RV.len {w0 w : World} {g : Nat} {V : Vw} {m : Mv} (h : RAt w0 w g V m) : m.os.length = V.out.length := by rw [<- h.hold.outs, plainC_length]
theorem send_rv (g : Nat) {V : Vw} (w0 w : World) (h : RV w0 w g V) (c i : Int) (A : Option Addr) (L C : Nat) (l : List UInt8) (ho : OwnB w w0.heap.size 5 (.slice A L C) l) (hn : V.out.length <= 1000) :
 Calls Tryz.prog 136 #[.pointer (some ⟨g, 0, none⟩), .agg #[.int .i64 c, .int .i64 i, .slice A L C]] w fun e w' => e = .returned (.tuple #[]) /\ RV w0 w' g { V with out := V.out ++ [⟨c, i, l⟩] } := by
 obtain ⟨m, h⟩ := h;exact send_any g w0 w h c i A L C l ho (by rw [RV.len h]; exact hn)
set_option maxRecDepth 20000 in
set_option maxHeartbeats 4000000 in
theorem question_any (g : Nat) {V : Vw} (w0 w : World) (h : RV w0 w g V) (c i : Int) (A : Option Addr) (L C : Nat) (l : List UInt8) (ho : OwnB w w0.heap.size 5 (.slice A L C) l) (hn : V.out.length <= 1000)
 (hk : 0 <= V.a.count /\ V.a.count <= 1000) (ht : 0 <= V.t /\ V.t <= topT) (hc : 1 <= V.c.wait /\ V.c.wait <= topW) :
 Calls Tryz.prog 135 #[.pointer (some ⟨g, 0, none⟩), .agg #[.int .i64 c, .int .i64 i, .slice A L C]] w fun e w' => e = .returned (.tuple #[]) /\
  RV w0 w' g { V with a := { V.a with count := if 0 < V.a.count then V.a.count - 1 else V.a.count, timer := V.t + V.c.wait }, out := V.out ++ [⟨c, i, l⟩] } := by
 have BA : Gr w (w.alloc (.cells #[.int .i64 c, .int .i64 i, .slice A L C] 32)) := (Gr.refl w).alloc _;have HG : Hid ((w.alloc (.cells #[.int .i64 c, .int .i64 i, .slice A L C] 32)).heap[w.heap.size]? = some (.cells #[.int .i64 c, .int .i64 i, .slice A L C] 32)) := heap_alloc_last _ _;obtain ⟨j0, j1, j2⟩ := cells3 HG.out;have S1 := hd_ (send_rv g w0 _ (h.gr BA) c i A L C l (OwnB.below ho BA) hn);have HT := hd_ (And.intro ht hc);have e1 : wrap64 (V.a.count - 1) = V.a.count - 1 := wrap_in (by omega) (by omega);have e2 : (if V.a.count - 1 < 0 then (0 : Int) else V.a.count - 1) = if 0 < V.a.count then V.a.count - 1 else V.a.count := by split <;> split <;> omega
 have e3 : max (V.a.count - 1) 0 = if 0 < V.a.count then V.a.count - 1 else V.a.count := by split <;> omega
 obtain ⟨K, hK⟩ : ∃ K, K = if 0 < V.a.count then V.a.count - 1 else V.a.count := ⟨_, rfl⟩;rw [<- hK] at e2 e3 ⊢;have HK := hd_ hK;clear h BA ho hn hk ht hc hK HG;go_enter Tryz.func135, Tryz.ntmps135
 go_wp2_with fail
 refine S1.out.mono ?_;rintro e w1 ⟨rfl, m, h1⟩;have HR1 := hd_ h1;obtain ⟨k0, k1, k2, k3, k4, k5, k6, k7, k8, k9, k10, k11, k12, k13, k14, k15, k16, k17, k18, k19, k20⟩ := h1.cells;clear h1 S1 j0 j1 j2 k0 k1 k2 k3 k4 k5 k6 k7 k8 k10 k11 k12 k13 k14 k15 k16 k17 k18 k19 k20;go_wp2_with (refine wpList_store_cell rfl 3 (.tmp 17) (.tmp 14) rfl g 9 (.int .i64 K) rfl rfl 75 _ HR1.out.row sizeI (by simp) rfl ?_)
 intro w2 h2 ho2;have hr2 : RAt w0 w2 g { V with a := { V.a with count := K }, out := V.out ++ [⟨c, i, l⟩] } m := HR1.out.turn ho2 h2 fun k => k.same rfl rfl rfl rfl rfl rfl
 have W := hd_ (wait_any g w0 w2 hr2 HT.out.1 HT.out.2);clear h2 ho2 hr2 k9;go_wp2_with fail
 refine W.out.mono ?_;rintro e w3 ⟨rfl, h3⟩;have HR3 := hd_ h3;clear h3;go_wp2
 go_end0
 exact ⟨rfl, _, HR3.out⟩
theorem Got.len {w : World} {base : Nat} {v : Value} {l : List UInt8} (h : Got w base v l) : ∃ A L C, v = .slice A L C /\ l.length = L /\ L <= C /\ C <= maxLen := h.bs.sl
set_option maxRecDepth 20000 in
set_option maxHeartbeats 4000000 in
theorem reply_any (g : Nat) {V : Vw} (w0 w : World) (h : RV w0 w g V) (hn : V.out.length <= 1000) :
 Calls Tryz.prog 105 #[.pointer (some ⟨g, 0, none⟩)] w fun e w' => e = .returned (.tuple #[]) /\ RV w0 w' g { V with out := V.out ++ [V.n] } := by
 obtain ⟨m, h⟩ := h;have HR := hd_ h;obtain ⟨A, L, C, ev, hL, _, _⟩ := h.hold.n.len;have HEV := hd_ ev;have hl := h.hold.nl;have CL : Hid (∀ w', Gr w w' -> Calls Tryz.prog 77 #[.slice A L C] w' fun e w2 => ∃ v, e = .returned v /\ OwnB w2 w'.heap.size 5 v V.n.l /\ Below w'.heap.size w' w2) := fun w' hw' =>
  clone_any w' A L C V.n.l hL (by rw [<- ev]; exact (h.gr hw').hold.n.bs) (by omega)
 have HN := hd_ hn;obtain ⟨c, hc⟩ : ∃ c, c = V.n.c := ⟨_, rfl⟩;obtain ⟨i, hi⟩ : ∃ i, i = V.n.i := ⟨_, rfl⟩;have HC1 := hd_ hc;have HI1 := hd_ hi;clear h ev hL hl hn hc hi;go_enter Tryz.func105, Tryz.ntmps105
 have HC : Hid (Gr w w.drew) := Gr.drew _;refine wp_region_G 18 Gr (by kernel_rfl) ?_;generalize w.drew = wc at HC ⊢;refine wpG_u preGr 0 (some 2) ?_;refine wpG_u preGr 1 (some 3) ?_;refine wpG_u preGr 2 (some 4) ?_;refine wpG_u preGr 3 (some 5) ?_;refine wpG_u preGr 4 (some 6) ?_;refine wpG_u preGr 5 (some 7) ?_ (hy := fun w' hw' => by
  try (have hq2 := (HR.out.gr (Gr.trans HC.out hw')).cells; rw [HEV.out, <- HC1.out, <- HI1.out] at hq2; obtain ⟨k0, k1, k2, k3, k4, k5, k6, k7, k8, k9, k10, k11, k12, k13, k14, k15, k16, k17, k18, k19, k20⟩ := hq2; clear k0 k1 k2 k3 k4 k5 k6 k7 k8 k9 k10 k11 k12 k13 k14 k15 k19 k20)
  go_simp;with_reducible rfl)
 refine wpG_u preGr 6 (some 8) ?_;refine wpG_u preGr 7 (some 9) ?_;refine wpG_u preGr 8 (some 10) ?_;refine wpG_u preGr 9 (some 11) ?_;refine wpG_u preGr 10 (some 12) ?_ (hy := fun w' hw' => by
  try (have hq2 := (HR.out.gr (Gr.trans HC.out hw')).cells; rw [HEV.out, <- HC1.out, <- HI1.out] at hq2; obtain ⟨k0, k1, k2, k3, k4, k5, k6, k7, k8, k9, k10, k11, k12, k13, k14, k15, k16, k17, k18, k19, k20⟩ := hq2; clear k0 k1 k2 k3 k4 k5 k6 k7 k8 k9 k10 k11 k12 k13 k14 k15 k19 k20)
  go_simp;with_reducible rfl)
 refine wpG_u preGr 11 (some 13) ?_;refine wpG_u preGr 12 (some 14) ?_;refine wpG_u preGr 13 (some 15) ?_;refine wpG_u preGr 14 (some 16) ?_;refine wpG_u preGr 15 (some 17) ?_ (hy := fun w' hw' => by
  try (have hq2 := (HR.out.gr (Gr.trans HC.out hw')).cells; rw [HEV.out, <- HC1.out, <- HI1.out] at hq2; obtain ⟨k0, k1, k2, k3, k4, k5, k6, k7, k8, k9, k10, k11, k12, k13, k14, k15, k16, k17, k18, k19, k20⟩ := hq2; clear k0 k1 k2 k3 k4 k5 k6 k7 k8 k9 k10 k11 k12 k13 k14 k15 k19 k20)
  go_simp;with_reducible rfl)
 refine wpG_one (i := 16) rfl (by kernel_rfl) (by rfl) ?_;go_simp;refine (CL.out wc HC.out).mono ?_;rintro e w3 ⟨v3, rfl, hown3, hb3⟩;obtain ⟨A3, L3, C3, ev, hL3, _, _⟩ := hown3.bs.sl;subst ev;refine ⟨hb3, ?_⟩;have HR3 := hd_ (HR.out.gr (Gr.trans HC.out hb3));have HO3 : Hid (OwnB w3 w0.heap.size 5 (.slice A3 L3 C3) V.n.l) := OwnB.mono hown3 (HR.out.gr HC.out).hold.old.size;clear hown3 hb3 hL3;try simp only [Act.put, aq1, aq2, aq3]
 refine wpG_u preGr 17 (some 19) ?_ (hy := fun w' hw' => by
  refine Eq.trans (build_run (P := Tryz.prog) 32 [(0, .tmp 7), (1, .tmp 12), (2, .tmp 18)] ?_ #[.int .i64 c, .int .i64 i, .slice A3 L3 C3] ?_) ?_
  · rfl
  · exact builtC c i A3 L3 C3
  · with_reducible rfl)
 refine wpG_tail (i := 18) (by decide) rfl (by kernel_rfl) (by rfl) ?_;go_simp;refine (send_rv g w0 w3 ⟨m, HR3.out⟩ c i A3 L3 C3 V.n.l HO3.out HN.out).mono ?_;rintro e w4 ⟨rfl, h4⟩;have HR4 := hd_ h4;clear h4;try simp only [Act.put, aq1, aq2, aq3]
 refine wpG_done (by kernel_rfl) ?_ _;go_wp2
 go_end0
 have h4 := HR4.out;rw [HC1.out, HI1.out] at h4;exact ⟨rfl, h4⟩
def Vw.by (V : Vw) (r : Rn) : Vw := { V with a := r.a, out := r.out }
def Vw.act (V : Vw) (x : Int) : Vw := V.by (Au.act V.c V.done V.q V.n V.t ⟨V.a, V.out⟩ x)
structure Fit (V : Vw) : Prop where
 mid : ∃ n ask, Mid V.c n ask ⟨V.a, V.out⟩
 conf : isC V.c
 t : 0 <= V.t /\ V.t <= topT
 few : V.out.length <= 900
def Deed (k : Nat) (x : Int) : Prop := ∀ (g : Nat) (V : Vw) (w0 w : World), RV w0 w g V -> Fit V -> Calls Tryz.prog k #[.pointer (some ⟨g, 0, none⟩)] w fun e w' => e = .returned (.tuple #[]) /\ RV w0 w' g (V.act x)
theorem tell_any (x : Int) (hx : x = 1 \/ x = 2 \/ x = 3 \/ x = 4) : Deed 96 x := by
 intro g V w0 w h hf;have e : V.act x = V := by rcases hx with rfl | rfl | rfl | rfl <;> rfl
 rw [e];have HR := hd_ h;clear h hf e hx;go_enter Tryz.func96, Tryz.ntmps96
 go_wp2
 go_end0
 exact ⟨rfl, HR.out⟩
theorem ser_any : Deed 105 13 := by
 intro g V w0 w h hf;exact reply_any g w0 w h (by have := hf.few; omega)
set_option maxRecDepth 20000 in
set_option maxHeartbeats 4000000 in
theorem zrc_any : Deed 98 6 := by
 intro g V w0 w h hf;obtain ⟨m, h⟩ := h;have HR := hd_ h;obtain ⟨k0, k1, k2, k3, k4, k5, k6, k7, k8, k9, k10, k11, k12, k13, k14, k15, k16, k17, k18, k19, k20⟩ := h.cells;have HT := hd_ hf.t;have HW : Hid (1 <= V.c.wait /\ V.c.wait <= topW) := hf.conf.2.2.2.2;clear h hf k0 k1 k2 k3 k4 k5 k6 k7 k8 k10 k11 k12 k13 k14 k15 k16 k17 k18 k19 k20;go_enter Tryz.func98, Tryz.ntmps98
 go_wp2_with (refine wpList_store_cell rfl 3 (.tmp 5) (.const (.int .i64 0)) rfl g 9 (.int .i64 0) rfl rfl 75 _ HR.out.row sizeI (by simp) rfl ?_)
 intro w2 h2 ho2;have hr2 : RAt w0 w2 g { V with a := { V.a with count := 0 } } m := HR.out.turn ho2 h2 fun k => k.same rfl rfl rfl rfl rfl rfl
 have W := hd_ (wait_any g w0 w2 hr2 HT.out HW.out);clear h2 ho2 hr2 k9;go_wp2_with fail
 refine W.out.mono ?_;rintro e w3 ⟨rfl, h3⟩;have HR3 := hd_ h3;clear h3;go_wp2
 go_end0
 exact ⟨rfl, _, HR3.out⟩
set_option maxRecDepth 20000 in
set_option maxHeartbeats 4000000 in
theorem sca_any : Deed 100 8 := by
 intro g V w0 w h hf;have RP := hd_ (reply_any g w0 w h (by have := hf.few; omega));clear h hf;go_enter Tryz.func100, Tryz.ntmps100
 go_wp2_with fail
 refine RP.out.mono ?_;rintro e w1 ⟨rfl, m, h1⟩;have HR1 := hd_ h1;obtain ⟨k0, k1, k2, k3, k4, k5, k6, k7, k8, k9, k10, k11, k12, k13, k14, k15, k16, k17, k18, k19, k20⟩ := h1.cells;clear h1 RP k0 k1 k2 k3 k4 k5 k6 k7 k8 k9 k10 k12 k13 k14 k15 k16 k17 k18 k19 k20;go_wp2_with (refine wpList_store_cell rfl 3 (.tmp 7) (.const (.int .i64 0)) rfl g 11 (.int .i64 0) rfl rfl 75 _ HR1.out.row sizeI (by simp) rfl ?_)
 intro w2 h2 ho2;have HR2 : Hid (RAt w0 w2 g { V with a := { V.a with naks := 0 }, out := V.out ++ [V.n] } m) := HR1.out.turn ho2 h2 fun k => k.same rfl rfl rfl rfl rfl rfl
 clear h2 ho2 k11;go_wp2
 go_end0
 exact ⟨rfl, _, HR2.out⟩
set_option maxRecDepth 20000 in
set_option maxHeartbeats 4000000 in
theorem scn_any : Deed 101 9 := by
 intro g V w0 w h hf;have RP := hd_ (reply_any g w0 w h (by have := hf.few; omega));obtain ⟨_, _, hm⟩ := hf.mid;have hk : 0 <= V.a.naks /\ V.a.naks <= 1000 := hm.naks;have e1 : wrap64 (V.a.naks + 1) = V.a.naks + 1 := wrap_in (by omega) (by omega);have e2 : (if (1000 : Int) < V.a.naks + 1 then (1000 : Int) else V.a.naks + 1) = if V.a.naks < 1000 then V.a.naks + 1 else V.a.naks := by split <;> split <;> omega
 have e3 : min (V.a.naks + 1) 1000 = if V.a.naks < 1000 then V.a.naks + 1 else V.a.naks := by split <;> omega
 obtain ⟨K, hK⟩ : ∃ K, K = if V.a.naks < 1000 then V.a.naks + 1 else V.a.naks := ⟨_, rfl⟩;rw [<- hK] at e2 e3;have HK := hd_ hK;clear h hf hm hk hK
 by_cases hc : V.n.c = 3
 · have HV : Hid (V.act 9 = { V with a := { V.a with naks := K }, out := V.out ++ [V.n] }) := by
    show V.act 9 = _;rw [HK.out];unfold Vw.act Vw.by Au.act
    simp [hc]
   rw [HV.out];go_enter Tryz.func101, Tryz.ntmps101
   go_wp2_with fail
   refine RP.out.mono ?_;rintro e w1 ⟨rfl, m, h1⟩;have HR1 := hd_ h1;obtain ⟨k0, k1, k2, k3, k4, k5, k6, k7, k8, k9, k10, k11, k12, k13, k14, k15, k16, k17, k18, k19, k20⟩ := h1.cells;rw [show ({ V with out := V.out ++ [V.n] } : Vw).n.c = 3 from hc] at k16;clear h1 RP hc k0 k1 k2 k3 k4 k5 k6 k7 k8 k9 k10 k12 k13 k14 k15 k17 k18 k19 k20;go_wp2_with (refine wpList_store_cell rfl 3 (.tmp 20) (.tmp 17) rfl g 11 (.int .i64 K) rfl rfl 75 _ HR1.out.row sizeI (by simp) rfl ?_)
   intro w2 h2 ho2;have HR2 : Hid (RAt w0 w2 g { V with a := { V.a with naks := K }, out := V.out ++ [V.n] } m) := HR1.out.turn ho2 h2 fun k => k.same rfl rfl rfl rfl rfl rfl
   clear h2 ho2 k11 k16;go_wp2
   go_end0
   exact ⟨rfl, _, HR2.out⟩
 · have HV : Hid (V.act 9 = { V with out := V.out ++ [V.n] }) := by
    show V.act 9 = _;unfold Vw.act Vw.by Au.act
    simp [hc]
   rw [HV.out];clear e1 e2 e3 HK;go_enter Tryz.func101, Tryz.ntmps101
   go_wp2_with fail
   refine RP.out.mono ?_;rintro e w1 ⟨rfl, m, h1⟩;have HR1 := hd_ h1;obtain ⟨k0, k1, k2, k3, k4, k5, k6, k7, k8, k9, k10, k11, k12, k13, k14, k15, k16, k17, k18, k19, k20⟩ := h1.cells;clear h1 RP k0 k1 k2 k3 k4 k5 k6 k7 k8 k9 k10 k11 k12 k13 k14 k15 k17 k18 k19 k20;go_wp2
   go_end0
   exact ⟨rfl, _, HR1.out⟩
set_option maxRecDepth 20000 in
set_option maxHeartbeats 4000000 in
theorem str_any : Deed 102 10 := by
 intro g V w0 w h hf;obtain ⟨m, h⟩ := h;obtain ⟨_, _, hm⟩ := hf.mid;have NB := hd_ (number_any g w0 w h hm.id);have HK : Hid (0 <= V.a.count /\ V.a.count <= 1000) := hm.count;have HT := hd_ hf.t;have HW : Hid (1 <= V.c.wait /\ V.c.wait <= topW) := hf.conf.2.2.2.2;have HN := hd_ hf.few;have hb := builtC 5 (up V.a.id) none 0 0;clear h hf hm;go_enter Tryz.func102, Tryz.ntmps102
 go_wp2_with fail
 refine NB.out.mono ?_;rintro e w1 ⟨rfl, h1, _⟩;have Q := hd_ (question_any g w0 w1 ⟨m, h1⟩ 5 (up V.a.id) none 0 0 [] (OwnB.nil _ _ _) (by have := HN.out; show V.out.length <= _; omega) HK.out HT.out HW.out);clear h1 NB;go_wp2_with fail
 refine Q.out.mono ?_;rintro e w2 ⟨rfl, h2⟩;have HR2 := hd_ h2;clear h2;go_wp2
 go_end0
 exact ⟨rfl, HR2.out⟩
set_option maxRecDepth 20000 in
set_option maxHeartbeats 4000000 in
theorem sta_any : Deed 103 11 := by
 intro g V w0 w h hf;have HS := hd_ (send_rv g w0 w h 6 V.q.i none 0 0 [] (OwnB.nil _ _ _) (by have := hf.few; omega));obtain ⟨m, h⟩ := h;obtain ⟨k0, k1, k2, k3, k4, k5, k6, k7, k8, k9, k10, k11, k12, k13, k14, k15, k16, k17, k18, k19, k20⟩ := h.cells;clear h hf k0 k1 k2 k3 k4 k5 k6 k7 k8 k9 k10 k11 k12 k13 k15 k16 k17 k18 k19 k20;go_enter Tryz.func103, Tryz.ntmps103
 go_wp2_with fail
 refine HS.out.mono ?_;rintro e w2 ⟨rfl, h2⟩;have HR2 := hd_ h2;clear h2;go_wp2
 go_end0
 exact ⟨rfl, HR2.out⟩
set_option maxRecDepth 20000 in
set_option maxHeartbeats 4000000 in
theorem scr_any : Deed 99 7 := by
 intro g V w0 w h hf;obtain ⟨m, h⟩ := h;obtain ⟨_, _, hm⟩ := hf.mid;have NB := hd_ (number_any g w0 w h hm.id);have HK : Hid (0 <= V.a.count /\ V.a.count <= 1000) := hm.count;have HT := hd_ hf.t;have HW : Hid (1 <= V.c.wait /\ V.c.wait <= topW) := hf.conf.2.2.2.2;have HN := hd_ hf.few;clear h hf hm;go_enter Tryz.func99, Tryz.ntmps99
 go_wp2_with fail
 refine NB.out.mono ?_;rintro e w1 ⟨rfl, h1, _⟩;have HR1 := hd_ h1;obtain ⟨k0, k1, k2, k3, k4, k5, k6, k7, k8, k9, k10, k11, k12, k13, k14, k15, k16, k17, k18, k19, k20⟩ := h1.cells;clear h1 NB k0 k1 k2 k3 k4 k5 k6 k8 k9 k10 k11 k12 k13 k14 k15 k16 k17 k18 k19 k20;go_wp2_with (refine wpList_store_cell rfl 3 (.tmp 9) (.tmp 6) rfl g 7 (.int .i64 (up V.a.id)) rfl rfl 75 _ HR1.out.row sizeI (by simp) rfl ?_)
 intro w2 h2 ho2;have hr2 : RAt w0 w2 g { V with a := { V.a with id := up V.a.id, req := up V.a.id } } m := HR1.out.turn ho2 h2 fun k => k.same rfl rfl rfl rfl rfl rfl
 have HR2 := hd_ hr2;obtain ⟨aa, ac, ea, _, _⟩ := hr2.hold.ask.tr.shape;have htr := hr2.hold.ask.tr;rw [ea] at htr;have EN := hd_ (encode_any aa m.ts.length ac m.ts w2 htr hr2.hold.few.1 (fun x hx => by have := hr2.hold.few.2 x hx; omega));rw [hr2.hold.asks] at EN;obtain ⟨N, hN⟩ : ∃ N, N = m.ts.length := ⟨_, rfl⟩;rw [<- hN] at EN ea;obtain ⟨k0, k1, k2, k3, k4, k5, k6, k7, k8, k9, k10, k11, k12, k13, k14, k15, k16, k17, k18, k19, k20⟩ := hr2.cells;rw [ea] at k8;clear h2 ho2 hr2 htr ea hN k7 k0 k1 k2 k3 k4 k5 k6 k9 k10 k11 k12 k13 k14 k15 k16 k17 k18 k19 k20;go_wp2_with fail
 refine EN.out.mono ?_;rintro e w3 ⟨v3, rfl, ho3, hb3⟩;obtain ⟨A3, L3, C3, ev, hL3, _, _⟩ := ho3.bs.sl;subst ev;have hr3 := HR2.out.gr hb3;have hb := builtC 1 (up V.a.id) A3 L3 C3;have Q := hd_ (question_any g w0 w3 ⟨m, hr3⟩ 1 (up V.a.id) A3 L3 C3 (encB V.a.ask) (OwnB.mono ho3 HR2.out.hold.old.size) (by have := HN.out; show V.out.length <= _; omega) HK.out HT.out HW.out);obtain ⟨k0, k1, k2, k3, k4, k5, k6, k7, k8, k9, k10, k11, k12, k13, k14, k15, k16, k17, k18, k19, k20⟩ := hr3.cells;clear hr3 ho3 hb3 hL3 EN k8 k0 k1 k2 k3 k4 k5 k6 k9 k10 k11 k12 k13 k14 k15 k16 k17 k18 k19 k20;go_wp2_with fail
 refine Q.out.mono ?_;rintro e w4 ⟨rfl, h4⟩;have HR4 := hd_ h4;clear h4;go_wp2
 go_end0
 exact ⟨rfl, HR4.out⟩
end Go.Proofs.YtclplbapedmihaaGreat.Au
namespace Go.Proofs.YtclplbapedmihaaGreat.Au
set_option maxRecDepth 4000
open Go.RowKit O Ng
open Go.Proofs.YtclplbapedmihaaGreat.Fs (AO AO.ar AO.nil AR AR.at)
set_option linter.unusedVariables false
set_option linter.unusedSimpArgs false
set_option maxHeartbeats 2000000 in
set_option maxRecDepth 20000 in
theorem index_any' (a : Option Addr) (n c : Nat) (l : List Int) (x : Int) (w : World) (h : AR w (.slice a n c) l) (hn : n = l.length) (hb : n <= 65534) :
 Calls Tryz.prog 157 #[.slice a n c, .int .i64 x] w fun e w' => (∃ r : Int, e = .returned (.int .i64 r) /\ (decide (0 <= r) = decide (x ∈ l))) /\ w' = w := by
 have HN := hd_ hn;have H := hd_ h;clear h hn;go_enter Tryz.func157, Tryz.ntmps157
 go_wp2_with fail
 go_loopw [8] (fun iv wr => ∃ i : Nat, i <= n /\ iv = .int .i64 (i : Int) /\ x ∉ l.take i /\ wr = w) (fun iv _ => n - (intOf iv).toNat)
 case atStart => exact ⟨0, Nat.zero_le _, rfl, by simp, rfl⟩
 case round =>
  obtain ⟨i, hin, rfl, hno, rfl⟩ := hrel;have HNO := hd_ hno;clear hno
  by_cases hlt : i < n
  · have hil : i < l.length := by rw [<- HN.out]; exact hlt
    obtain ⟨b, o, ea, hc⟩ := AR.at H.out HN.out (by omega);subst ea;obtain ⟨y, hy⟩ : ∃ y, y = l[i] := ⟨_, rfl⟩;have d0 := hc i hil;rw [<- hy] at d0;have HT : Hid (l.take (i + 1) = l.take i ++ [y]) := by show _ = _; rw [hy]; exact List.take_succ_eq_append_getElem hil
    have HM : Hid (y ∈ l) := by show _ ∈ _; rw [hy]; exact List.getElem_mem _
    have hle : i + 1 <= n := by omega
    clear hy hc hil
    by_cases hxy : x = y
    · have HD : Hid (decide (0 <= (i : Int)) = decide (x ∈ l)) := by
       have hxl : x ∈ l := by rw [hxy]; exact HM.out
       show _ = _;rw [decide_eq_true hxl, decide_eq_true (show (0 : Int) <= (i : Int) by omega)]
      go_wp2_with fail
      go_ret
      exact ⟨⟨_, rfl, HD.out⟩, rfl⟩
    · have HD : Hid (x ∉ l.take (i + 1)) := by
       show _ ∉ _;rw [HT.out, List.mem_append];rintro (h | h)
       · exact HNO.out h
       · exact hxy (List.mem_singleton.1 h)
      go_wp2_with fail
      go_roundw
      case rel =>
       first
        | exact ⟨i + 1, hle, by go_num, HD.out, by first | rfl | trivial⟩
        | ((repeat apply Exists.intro); exact ⟨⟨i + 1, hle, by go_num, HD.out, by first | rfl | trivial⟩, rfl⟩)
      case measure => simp [intOf]; omega
  · have HD : Hid (decide ((0 : Int) <= -1) = decide (x ∈ l)) := by
     show _ = _;rw [decide_eq_false (by decide), decide_eq_false (by have := HNO.out; rwa [List.take_of_length_le (by have := HN.out; omega)] at this)]
    go_wp2_with fail
    go_ret
    exact ⟨⟨_, rfl, HD.out⟩, rfl⟩
theorem contains_any {v : Value} {l : List Int} (x : Int) (w : World) (h : AR w v l) (hb : l.length <= 65534) :
 Calls Tryz.prog 132 #[v, .int .i64 x] w fun e w' => e = .returned (.bool (decide (x ∈ l))) /\ w' = w := by
 obtain ⟨a, c, rfl, _⟩ := h.shape;have I := hd_ (index_any' a l.length c l x w h rfl hb);obtain ⟨n, hn⟩ : ∃ n, n = l.length := ⟨_, rfl⟩;rw [<- hn] at I ⊢;clear h hb hn;go_enter Tryz.func132, Tryz.ntmps132
 go_wp2_with fail
 refine I.out.mono ?_;rintro e w' ⟨⟨r, rfl, hr⟩, rfl⟩;have HR := hd_ hr;clear hr;go_wp2
 go_ret
 rw [<- HR.out];exact ⟨rfl, rfl⟩
set_option maxRecDepth 20000 in
set_option maxHeartbeats 4000000 in
theorem irc_any' (g : Nat) (V : Vw) (w0 w : World) (h : RV w0 w g V) (hd : V.done.length <= 100) : Calls Tryz.prog 97 #[.pointer (some ⟨g, 0, none⟩)] w fun e w' => e = .returned (.tuple #[]) /\ RV w0 w' g (V.act 5) := by
 obtain ⟨m, h⟩ := h;have HR := hd_ h;obtain ⟨k0, k1, k2, k3, k4, k5, k6, k7, k8, k9, k10, k11, k12, k13, k14, k15, k16, k17, k18, k19, k20⟩ := h.cells;have HD := hd_ hd;have C0 : Hid (∀ w2, RAt w0 w2 g { V with a := { V.a with count := V.c.conf } } m -> Calls Tryz.prog 132 #[V.dv, .int .i64 10] w2 fun e w' => e = .returned (.bool (decide (10 ∈ V.done))) /\ w' = w2) := fun w2 hr2 =>
  contains_any 10 w2 hr2.hold.done.ar (by show V.done.length <= _; omega)
 clear h hd k0 k2 k3 k4 k5 k6 k7 k8 k10 k11 k12 k13 k14 k15 k16 k17 k18 k19 k20
 by_cases hc : 10 ∈ V.done
 · rw [decide_eq_true hc] at C0;have HV : V.act 5 = { V with a := { V.a with count := V.c.term } } := by
    unfold Vw.act Vw.by Au.act
    simp [hc]
   rw [HV];clear hc HV;go_enter Tryz.func97, Tryz.ntmps97
   go_wp2_with (refine wpList_store_cell rfl 3 (.tmp 10) (.tmp 7) rfl g 9 (.int .i64 V.c.conf) rfl rfl 75 _ HR.out.row sizeI (by simp) rfl ?_)
   intro w2 h2 ho2;have hr2 : RAt w0 w2 g { V with a := { V.a with count := V.c.conf } } m := HR.out.turn ho2 h2 fun k => k.same rfl rfl rfl rfl rfl rfl
   have HR2 := hd_ hr2;have C := hd_ (C0.out w2 hr2);obtain ⟨k0, k1, k2, k3, k4, k5, k6, k7, k8, k9, k10, k11, k12, k13, k14, k15, k16, k17, k18, k19, k20⟩ := hr2.cells;clear h2 ho2 hr2 C0 k0 k1 k3 k4 k5 k6 k7 k8 k9 k10 k11 k12 k13 k14 k15 k16 k17 k18 k19;go_wp2_with fail
   refine C.out.mono ?_;rintro e w3 ⟨rfl, rfl⟩;go_wp2_with (refine wpList_store_cell rfl 3 (.tmp 24) (.tmp 21) rfl g 9 (.int .i64 V.c.term) rfl rfl 75 _ HR2.out.row sizeI (by simp) rfl ?_)
   intro w3 h3 ho3;have HR3 : Hid (RAt w0 w3 g { V with a := { V.a with count := V.c.term } } m) := HR2.out.turn ho3 h3 fun k => k.same rfl rfl rfl rfl rfl rfl
   clear h3 ho3;go_wp2
   go_end0
   exact ⟨rfl, _, HR3.out⟩
 · rw [decide_eq_false hc] at C0;have HV : V.act 5 = { V with a := { V.a with count := V.c.conf } } := by
    unfold Vw.act Vw.by Au.act
    simp [hc]
   rw [HV];clear hc HV;go_enter Tryz.func97, Tryz.ntmps97
   go_wp2_with (refine wpList_store_cell rfl 3 (.tmp 10) (.tmp 7) rfl g 9 (.int .i64 V.c.conf) rfl rfl 75 _ HR.out.row sizeI (by simp) rfl ?_)
   intro w2 h2 ho2;have hr2 : RAt w0 w2 g { V with a := { V.a with count := V.c.conf } } m := HR.out.turn ho2 h2 fun k => k.same rfl rfl rfl rfl rfl rfl
   have HR2 := hd_ hr2;have C := hd_ (C0.out w2 hr2);obtain ⟨k0, k1, k2, k3, k4, k5, k6, k7, k8, k9, k10, k11, k12, k13, k14, k15, k16, k17, k18, k19, k20⟩ := hr2.cells;clear h2 ho2 hr2 C0 k0 k1 k3 k4 k5 k6 k7 k8 k9 k10 k11 k12 k13 k14 k15 k16 k17 k18 k19;go_wp2_with fail
   refine C.out.mono ?_;rintro e w3 ⟨rfl, rfl⟩;go_wp2
   go_end0
   exact ⟨rfl, _, HR2.out⟩
theorem deeds_any (w : World) : Calls Tryz.prog 82 #[] w fun e w' => e = .returned (.slice (some ⟨w.heap.size, 0, none⟩) 14 14) /\ w' = w.alloc (.cells #[.nilFunc, .func (.func 96) #[] #[], .func (.func 96) #[] #[], .func (.func 96) #[] #[], .func (.func 96) #[] #[], .func (.func 97) #[] #[], .func (.func 98) #[] #[], .func (.func 99) #[] #[], .func (.func 100) #[] #[], .func (.func 101) #[] #[], .func (.func 102) #[] #[], .func (.func 103) #[] #[], .func (.func 104) #[] #[], .func (.func 105) #[] #[]] 127) := by
 go_enter Tryz.func82, Tryz.ntmps82
 go_wp2
 go_ret
 exact ⟨rfl, rfl⟩
end Go.Proofs.YtclplbapedmihaaGreat.Au
namespace Go.Proofs.YtclplbapedmihaaGreat.Au
set_option maxRecDepth 4000
open Go.RowKit O Ng
open Go.Proofs.YtclplbapedmihaaGreat.Fs (AO AO.ar AO.nil AR)
set_option linter.unusedVariables false
set_option linter.unusedSimpArgs false
def Ks (g : Nat) (w w' : World) : Prop := w.heap.size <= w'.heap.size /\ ∀ o v, 13 <= o -> o <= 15 -> w.cell? ⟨g, o, none⟩ = some v -> w'.cell? ⟨g, o, none⟩ = some v
theorem preKs (g : Nat) : Pre (Ks g) := ⟨fun w => ⟨Nat.le_refl _, fun _ _ _ _ h => h⟩, fun h k => ⟨Nat.le_trans h.1 k.1, fun o v h1 h2 hc => k.2 o v h1 h2 (h.2 o v h1 h2 hc)⟩⟩
theorem Ks.gr {g : Nat} {w w' : World} (h : Gr w w') : Ks g w w' := ⟨h.size, fun o v _ _ hc => cell_gr h hc⟩
theorem Ks.rat {w0 w w' : World} {g : Nat} {V V' : Vw} {m : Mv} (h : RAt w0 w g V m) (h' : RAt w0 w' g V' m) (hq : V'.q = V.q) (hs : w.heap.size <= w'.heap.size) : Ks g w w' := by
 refine ⟨hs, fun o v h1 h2 hc => ?_⟩;obtain ⟨k0, k1, k2, k3, k4, k5, k6, k7, k8, k9, k10, k11, k12, k13, k14, k15, k16, k17, k18, k19, k20⟩ := h.cells;obtain ⟨_, _, _, _, _, _, _, _, _, _, _, _, _, j13, j14, j15, _⟩ := h'.cells;rw [hq] at j13 j14;obtain rfl | rfl | rfl : o = 13 \/ o = 14 \/ o = 15 := by omega
 · rw [k13] at hc; rw [j13]; exact hc
 · rw [k14] at hc; rw [j14]; exact hc
 · rw [k15] at hc; rw [j15]; exact hc
theorem Ks.range {w0 w w' : World} {g : Nat} {V : Vw} {m : Mv} (h : RAt w0 w g V m) (hk : Ks g w w') : w'.rangeAt g 13 [.int .i64 V.q.c, .int .i64 V.q.i, m.qv] := by
 obtain ⟨k0, k1, k2, k3, k4, k5, k6, k7, k8, k9, k10, k11, k12, k13, k14, k15, k16, k17, k18, k19, k20⟩ := h.cells;intro j v hj
 match j, hj with
 | 0, hj => obtain rfl := Option.some.inj hj; exact hk.2 13 _ (by decide) (by decide) k13
 | 1, hj => obtain rfl := Option.some.inj hj; exact hk.2 14 _ (by decide) (by decide) k14
 | 2, hj => obtain rfl := Option.some.inj hj; exact hk.2 15 _ (by decide) (by decide) k15
 | j + 3, hj => cases hj
theorem only_heap {g p : Nat} {w w' : World} {x : Obj} (h : w.heap[p]? = some x) (ho : Only g w w') (hp : p ≠ g) : w'.heap[p]? = some x := (ho.heap p (Array.getElem?_eq_some_iff.1 h).1 hp).trans h
theorem own_lt {w : World} {base : Nat} {e : TypeId} {size n k : Nat} {v : Value} {xs : List Value} (h : w.ownsRow base e size v n xs) (hk : v.ownBlock = some k) : k < w.heap.size := by
 rcases h.2 with ⟨rfl, _⟩ | ⟨b, cap, cur, rfl, h2, h3, h4⟩
 · cases hk
 · obtain rfl : b = k := Option.some.inj hk;exact (Array.getElem?_eq_some_iff.1 h3).1
theorem own_off2 {g : Nat} {w w' : World} {base : Nat} {e : TypeId} {size n : Nat} {v : Value} {xs : List Value} (h : w.ownsRow base e size v n xs) (ho : Only g w w') (hg : ∀ k, v.ownBlock = some k -> k ≠ g) : w'.ownsRow base e size v n xs := by
 refine ⟨h.1, ?_⟩
 rcases h.2 with h' | ⟨k, cap, cur, h1, h2, h3, h4⟩
 · exact .inl h'
 · refine .inr ⟨k, cap, cur, h1, h2, ?_, h4⟩;rw [ho.heap k (Array.getElem?_eq_some_iff.1 h3).1 (hg k (by rw [h1]; rfl))];exact h3
theorem Hold.only {w0 w w' : World} {p : Nat} {V : Vw} {m : Mv} {cs : Array Value} {fr : Nat × Nat} (h : Hold w0 w V m) (ho : Only p w w') (hp : w.heap[p]? = some (.cells cs 32 fr)) (hl : w0.heap.size <= p) (hq : ∀ k, m.ov.ownBlock = some k -> k ≠ p) : Hold w0 w' V m :=
 ⟨ho.below _ _ hl h.old, h.rules, ⟨own_off h.ask.own hp (by decide) ho, fun t ht => own_off (h.ask.vals t ht) hp (by decide) ho⟩, h.asks, h.q, Got.off h.n hp (by decide) hl ho, ⟨own_off2 h.out.own ho hq, fun t ht => own_off (h.out.vals t ht) hp (by decide) ho⟩, h.outs, own_off h.done hp (by decide) ho, h.ql, h.nl, h.few⟩
set_option maxRecDepth 20000 in
set_option maxHeartbeats 8000000 in
theorem scj_any : Deed 104 12 := by
 intro g V w0 w h hf;obtain ⟨m, h⟩ := h;obtain ⟨_, _, hm⟩ := hf.mid;have HID : Hid (0 <= V.a.id /\ V.a.id <= 255) := hm.id;have HN := hd_ hf.few;have hbq := h.hold.q.below h.hold.old;obtain ⟨A, L, C, ev, hL, _, _⟩ := hbq.sl;have HEV := hd_ ev;have HL : Hid (V.q.l.length = L /\ L <= 10000) := ⟨hL, by have := h.hold.ql; omega⟩;obtain ⟨r, hr⟩ : ∃ r, r = rejP V.q (up V.a.id) := ⟨_, rfl⟩;have HRJ := hd_ hr;have HR0 := hd_ h;have HV : V.act 12 = { V with a := { V.a with id := up V.a.id }, out := V.out ++ (if r.2 = 0 then [r.1] else []) } := by rw [hr]; rfl
 rw [HV];clear HV h hf hm hbq ev hL hr;go_enter Tryz.func104, Tryz.ntmps104
 go_upto_region 0 with fail
 have HC : Hid (Gr w w.drew) := Gr.drew _;refine wp_region_G 13 (Ks g) (by kernel_rfl) ?_;generalize w.drew = wc at HC ⊢;have HR := hd_ (HR0.out.gr HC.out);clear HC;refine wpG_u (preKs g) 0 (some 5) ?_;refine wpG_u (preKs g) 1 (some 6) ?_;refine wpG_u (preKs g) 2 (some 7) ?_;refine wpG_u (preKs g) 3 (some 8) ?_ (hy := fun w' hw' => by
  have hrg := Ks.range HR.out hw';rw [HEV.out] at hrg;refine Eq.trans (load_mid_run (P := Tryz.prog) 32 (.tmp 7) ?_ g 13 ?_ [.int .i64 V.q.c, .int .i64 V.q.i, .slice A L C] _ hrg Tryz.underlying32 rfl sizeC) ?_
  · rfl
  · simp [go_sem]
  · with_reducible rfl)
 refine wpG_u (preKs g) 4 (some 9) ?_;refine wpG_two (i := 5) (j := 10) rfl rfl (by kernel_rfl) (by rfl) (by rfl) ?_ ?_
 · go_simp;refine (number_any g w0 wc HR.out HID.out).mono ?_;rintro e w3 ⟨rfl, h3, ho3⟩;refine ⟨Ks.rat HR.out h3 rfl ho3.size, ?_⟩;try (have HP' := hd_ (And.intro (only_heap HP.out.1 ho3 HP.out.2) HP.out.2); clear HP; have HP := HP'; clear HP')
   clear HR ho3;have HR := hd_ h3;clear h3
   rename World => wc
   try simp only [Act.put, aq1, aq2, aq3]
   refine wpG_two (i := 6) (j := 10) rfl rfl (by kernel_rfl) (by rfl) (by rfl) ?_ ?_
   · go_simp;have hq3 : Bs wc (.slice A L C) V.q.l := by rw [<- HEV.out]; exact HR.out.hold.q.below HR.out.hold.old
     refine (reject1_any V.q.c V.q.i (up V.a.id) A L C V.q.l HL.out.1 wc hq3 HL.out.2).mono ?_;rintro e w3 ⟨A3, L3, C3, rfl, ho3, hb3⟩;refine ⟨Ks.gr hb3, ?_⟩;rw [show (⟨V.q.c, V.q.i, V.q.l⟩ : QC) = V.q from rfl, <- HRJ.out] at ho3 ⊢;try (have HP' := hd_ (And.intro (heap_below HP.out.1 hb3) HP.out.2); clear HP; have HP := HP'; clear HP')
     have HO := hd_ (OwnB.mono ho3 HR.out.hold.old.size);have HR' := hd_ (HR.out.gr hb3);clear HR ho3 hb3 hq3;have HR := HR';clear HR'
     rename World => wc
     try simp only [Act.put, aq1, aq2, aq3]
     refine wpG_u (preKs g) 7 (some 4) ?_;refine wpG_u (preKs g) 8 (some 12) ?_;refine wpG_u (preKs g) 9 (some 13) ?_;refine wpG_one (i := 10) rfl (by kernel_rfl) (by rfl) ?_;go_simp;have hb3 : Gr wc (wc.alloc (.cells #[.int .i64 0, .int .i64 0, .slice none 0 0] 32)) := (Gr.refl _).alloc _;refine ⟨Ks.gr hb3, ?_⟩;have HP : Hid ((wc.alloc (.cells #[.int .i64 0, .int .i64 0, .slice none 0 0] 32)).heap[wc.heap.size]? = some (.cells #[.int .i64 0, .int .i64 0, .slice none 0 0] 32 (0, 0)) /\ wc.heap.size ≠ g) := ⟨heap_alloc_last _ _, by have := HR.out.lt; omega⟩;have HPL : Hid (w0.heap.size <= wc.heap.size /\ ∀ k, m.ov.ownBlock = some k -> k ≠ wc.heap.size) := ⟨HR.out.hold.old.size, fun k hk he => Nat.lt_irrefl _ (he ▸ own_lt HR.out.hold.out.own hk)⟩;try (have HO' := hd_ (OwnB.below HO.out hb3); clear HO; have HO := HO'; clear HO')
     have HR' := hd_ (HR.out.gr hb3);clear HR hb3;have HR := HR';clear HR'
     first | generalize wc.alloc (.cells #[.int .i64 0, .int .i64 0, .slice none 0 0] 32) = w3 at HP HR HO ⊢ | generalize wc.alloc (.cells #[.int .i64 0, .int .i64 0, .slice none 0 0] 32) = w3 at HP HR ⊢
     generalize wc.heap.size = p at HP HPL ⊢
     rename World => wc
     try simp only [Act.put, aq1, aq2, aq3]
     refine wpG_one (i := 11) rfl (by kernel_rfl) (by rfl) ?_;refine wp_store_whole (none) 32 (.tmp 2) (.tmp 12) rfl p [.int .i64 r.1.c, .int .i64 r.1.i, .slice A3 L3 C3] rfl rfl 32 _ HP.out.1 sizeC rfl (one_ctl _ _ rfl) rfl ?_;intro w3 h3 ho3;have HP3 := hd_ h3;have HR3 := hd_ ho3;refine ⟨⟨ho3.size, fun o v _ _ hc => ho3.cell (fun e => HP.out.2 e.symm) hc⟩, ?_⟩;clear h3 ho3;try simp only [Act.put, aq1, aq2, aq3]
     refine wpG_u (preKs g) 12 (some 3) ?_;refine wpG_done (by kernel_rfl) ?_ _;have hr3 : RAt w0 w3 g { V with a := { V.a with id := up V.a.id } } m := by
      refine ⟨only_heap HR.out.row HR3.out (fun e => HP.out.2 e.symm), HR.out.low, ?_⟩;exact Hold.only HR.out.hold HR3.out HP.out.1 HPL.out.1 HPL.out.2
     have HQ := hd_ hr3;have ho3 : OwnB w3 w0.heap.size 5 (.slice A3 L3 C3) r.1.l := own_off HO.out HP.out.1 (show 5 ≠ 32 by decide) HR3.out;have HO3 := hd_ ho3;obtain ⟨j0, j1, j2⟩ := cells3 HP3.out;clear hr3 ho3 HR HR3 HO HP HR0 HP3 HPL
     by_cases hz : r.2 = 0
     · have HZ := hd_ hz;have S := hd_ (send_rv g w0 w3 ⟨m, HQ.out⟩ r.1.c r.1.i A3 L3 C3 r.1.l HO3.out (by have := HN.out; show V.out.length <= _; omega));go_wp2_with fail
       refine S.out.mono ?_;rintro e w4 ⟨rfl, h4⟩;have HR4 := hd_ h4;clear h4;go_wp2
       go_end0
       refine ⟨rfl, ?_⟩
       first | exact HR4.out | (rw [if_pos HZ.out]; exact HR4.out)
     · have HZ := hd_ hz;go_wp2_with fail
       go_end0
       refine ⟨rfl, ?_⟩
       first | exact ⟨m, HQ.out⟩ | (rw [if_neg HZ.out, List.append_nil]; exact ⟨m, HQ.out⟩)
   · go_simp;have hb3 : Gr wc (wc.alloc (.cells #[.int .i64 0, .int .i64 0, .slice none 0 0] 32)) := (Gr.refl _).alloc _;refine ⟨Ks.gr hb3, ?_⟩;have HP : Hid ((wc.alloc (.cells #[.int .i64 0, .int .i64 0, .slice none 0 0] 32)).heap[wc.heap.size]? = some (.cells #[.int .i64 0, .int .i64 0, .slice none 0 0] 32 (0, 0)) /\ wc.heap.size ≠ g) := ⟨heap_alloc_last _ _, by have := HR.out.lt; omega⟩;have HPL : Hid (w0.heap.size <= wc.heap.size /\ ∀ k, m.ov.ownBlock = some k -> k ≠ wc.heap.size) := ⟨HR.out.hold.old.size, fun k hk he => Nat.lt_irrefl _ (he ▸ own_lt HR.out.hold.out.own hk)⟩;try (have HO' := hd_ (OwnB.below HO.out hb3); clear HO; have HO := HO'; clear HO')
     have HR' := hd_ (HR.out.gr hb3);clear HR hb3;have HR := HR';clear HR'
     first | generalize wc.alloc (.cells #[.int .i64 0, .int .i64 0, .slice none 0 0] 32) = w3 at HP HR HO ⊢ | generalize wc.alloc (.cells #[.int .i64 0, .int .i64 0, .slice none 0 0] 32) = w3 at HP HR ⊢
     generalize wc.heap.size = p at HP HPL ⊢
     rename World => wc
     try simp only [Act.put, aq1, aq2, aq3]
     refine wpG_one (i := 6) rfl (by kernel_rfl) (by rfl) ?_;go_simp;have hq3 : Bs wc (.slice A L C) V.q.l := by rw [<- HEV.out]; exact HR.out.hold.q.below HR.out.hold.old
     refine (reject1_any V.q.c V.q.i (up V.a.id) A L C V.q.l HL.out.1 wc hq3 HL.out.2).mono ?_;rintro e w3 ⟨A3, L3, C3, rfl, ho3, hb3⟩;refine ⟨Ks.gr hb3, ?_⟩;rw [show (⟨V.q.c, V.q.i, V.q.l⟩ : QC) = V.q from rfl, <- HRJ.out] at ho3 ⊢;try (have HP' := hd_ (And.intro (heap_below HP.out.1 hb3) HP.out.2); clear HP; have HP := HP'; clear HP')
     have HO := hd_ (OwnB.mono ho3 HR.out.hold.old.size);have HR' := hd_ (HR.out.gr hb3);clear HR ho3 hb3 hq3;have HR := HR';clear HR'
     rename World => wc
     try simp only [Act.put, aq1, aq2, aq3]
     refine wpG_u (preKs g) 7 (some 4) ?_;refine wpG_u (preKs g) 8 (some 12) ?_;refine wpG_u (preKs g) 9 (some 13) ?_;refine wpG_one (i := 11) rfl (by kernel_rfl) (by rfl) ?_;refine wp_store_whole (none) 32 (.tmp 2) (.tmp 12) rfl p [.int .i64 r.1.c, .int .i64 r.1.i, .slice A3 L3 C3] rfl rfl 32 _ HP.out.1 sizeC rfl (one_ctl _ _ rfl) rfl ?_;intro w3 h3 ho3;have HP3 := hd_ h3;have HR3 := hd_ ho3;refine ⟨⟨ho3.size, fun o v _ _ hc => ho3.cell (fun e => HP.out.2 e.symm) hc⟩, ?_⟩;clear h3 ho3;try simp only [Act.put, aq1, aq2, aq3]
     refine wpG_u (preKs g) 12 (some 3) ?_;refine wpG_done (by kernel_rfl) ?_ _;have hr3 : RAt w0 w3 g { V with a := { V.a with id := up V.a.id } } m := by
      refine ⟨only_heap HR.out.row HR3.out (fun e => HP.out.2 e.symm), HR.out.low, ?_⟩;exact Hold.only HR.out.hold HR3.out HP.out.1 HPL.out.1 HPL.out.2
     have HQ := hd_ hr3;have ho3 : OwnB w3 w0.heap.size 5 (.slice A3 L3 C3) r.1.l := own_off HO.out HP.out.1 (show 5 ≠ 32 by decide) HR3.out;have HO3 := hd_ ho3;obtain ⟨j0, j1, j2⟩ := cells3 HP3.out;clear hr3 ho3 HR HR3 HO HP HR0 HP3 HPL
     by_cases hz : r.2 = 0
     · have HZ := hd_ hz;have S := hd_ (send_rv g w0 w3 ⟨m, HQ.out⟩ r.1.c r.1.i A3 L3 C3 r.1.l HO3.out (by have := HN.out; show V.out.length <= _; omega));go_wp2_with fail
       refine S.out.mono ?_;rintro e w4 ⟨rfl, h4⟩;have HR4 := hd_ h4;clear h4;go_wp2
       go_end0
       refine ⟨rfl, ?_⟩
       first | exact HR4.out | (rw [if_pos HZ.out]; exact HR4.out)
     · have HZ := hd_ hz;go_wp2_with fail
       go_end0
       refine ⟨rfl, ?_⟩
       first | exact ⟨m, HQ.out⟩ | (rw [if_neg HZ.out, List.append_nil]; exact ⟨m, HQ.out⟩)
 · go_simp;have hb3 : Gr wc (wc.alloc (.cells #[.int .i64 0, .int .i64 0, .slice none 0 0] 32)) := (Gr.refl _).alloc _;refine ⟨Ks.gr hb3, ?_⟩;have HP : Hid ((wc.alloc (.cells #[.int .i64 0, .int .i64 0, .slice none 0 0] 32)).heap[wc.heap.size]? = some (.cells #[.int .i64 0, .int .i64 0, .slice none 0 0] 32 (0, 0)) /\ wc.heap.size ≠ g) := ⟨heap_alloc_last _ _, by have := HR.out.lt; omega⟩;have HPL : Hid (w0.heap.size <= wc.heap.size /\ ∀ k, m.ov.ownBlock = some k -> k ≠ wc.heap.size) := ⟨HR.out.hold.old.size, fun k hk he => Nat.lt_irrefl _ (he ▸ own_lt HR.out.hold.out.own hk)⟩;try (have HO' := hd_ (OwnB.below HO.out hb3); clear HO; have HO := HO'; clear HO')
   have HR' := hd_ (HR.out.gr hb3);clear HR hb3;have HR := HR';clear HR'
   first | generalize wc.alloc (.cells #[.int .i64 0, .int .i64 0, .slice none 0 0] 32) = w3 at HP HR HO ⊢ | generalize wc.alloc (.cells #[.int .i64 0, .int .i64 0, .slice none 0 0] 32) = w3 at HP HR ⊢
   generalize wc.heap.size = p at HP HPL ⊢
   rename World => wc
   try simp only [Act.put, aq1, aq2, aq3]
   refine wpG_one (i := 5) rfl (by kernel_rfl) (by rfl) ?_;go_simp;refine (number_any g w0 wc HR.out HID.out).mono ?_;rintro e w3 ⟨rfl, h3, ho3⟩;refine ⟨Ks.rat HR.out h3 rfl ho3.size, ?_⟩;try (have HP' := hd_ (And.intro (only_heap HP.out.1 ho3 HP.out.2) HP.out.2); clear HP; have HP := HP'; clear HP')
   clear HR ho3;have HR := hd_ h3;clear h3
   rename World => wc
   try simp only [Act.put, aq1, aq2, aq3]
   refine wpG_one (i := 6) rfl (by kernel_rfl) (by rfl) ?_;go_simp;have hq3 : Bs wc (.slice A L C) V.q.l := by rw [<- HEV.out]; exact HR.out.hold.q.below HR.out.hold.old
   refine (reject1_any V.q.c V.q.i (up V.a.id) A L C V.q.l HL.out.1 wc hq3 HL.out.2).mono ?_;rintro e w3 ⟨A3, L3, C3, rfl, ho3, hb3⟩;refine ⟨Ks.gr hb3, ?_⟩;rw [show (⟨V.q.c, V.q.i, V.q.l⟩ : QC) = V.q from rfl, <- HRJ.out] at ho3 ⊢;try (have HP' := hd_ (And.intro (heap_below HP.out.1 hb3) HP.out.2); clear HP; have HP := HP'; clear HP')
   have HO := hd_ (OwnB.mono ho3 HR.out.hold.old.size);have HR' := hd_ (HR.out.gr hb3);clear HR ho3 hb3 hq3;have HR := HR';clear HR'
   rename World => wc
   try simp only [Act.put, aq1, aq2, aq3]
   refine wpG_u (preKs g) 7 (some 4) ?_;refine wpG_u (preKs g) 8 (some 12) ?_;refine wpG_u (preKs g) 9 (some 13) ?_;refine wpG_one (i := 11) rfl (by kernel_rfl) (by rfl) ?_;refine wp_store_whole (none) 32 (.tmp 2) (.tmp 12) rfl p [.int .i64 r.1.c, .int .i64 r.1.i, .slice A3 L3 C3] rfl rfl 32 _ HP.out.1 sizeC rfl (one_ctl _ _ rfl) rfl ?_;intro w3 h3 ho3;have HP3 := hd_ h3;have HR3 := hd_ ho3;refine ⟨⟨ho3.size, fun o v _ _ hc => ho3.cell (fun e => HP.out.2 e.symm) hc⟩, ?_⟩;clear h3 ho3;try simp only [Act.put, aq1, aq2, aq3]
   refine wpG_u (preKs g) 12 (some 3) ?_;refine wpG_done (by kernel_rfl) ?_ _;have hr3 : RAt w0 w3 g { V with a := { V.a with id := up V.a.id } } m := by
    refine ⟨only_heap HR.out.row HR3.out (fun e => HP.out.2 e.symm), HR.out.low, ?_⟩;exact Hold.only HR.out.hold HR3.out HP.out.1 HPL.out.1 HPL.out.2
   have HQ := hd_ hr3;have ho3 : OwnB w3 w0.heap.size 5 (.slice A3 L3 C3) r.1.l := own_off HO.out HP.out.1 (show 5 ≠ 32 by decide) HR3.out;have HO3 := hd_ ho3;obtain ⟨j0, j1, j2⟩ := cells3 HP3.out;clear hr3 ho3 HR HR3 HO HP HR0 HP3 HPL
   by_cases hz : r.2 = 0
   · have HZ := hd_ hz;have S := hd_ (send_rv g w0 w3 ⟨m, HQ.out⟩ r.1.c r.1.i A3 L3 C3 r.1.l HO3.out (by have := HN.out; show V.out.length <= _; omega));go_wp2_with fail
     refine S.out.mono ?_;rintro e w4 ⟨rfl, h4⟩;have HR4 := hd_ h4;clear h4;go_wp2
     go_end0
     refine ⟨rfl, ?_⟩
     first | exact HR4.out | (rw [if_pos HZ.out]; exact HR4.out)
   · have HZ := hd_ hz;go_wp2_with fail
     go_end0
     refine ⟨rfl, ?_⟩
     first | exact ⟨m, HQ.out⟩ | (rw [if_neg HZ.out, List.append_nil]; exact ⟨m, HQ.out⟩)
end Go.Proofs.YtclplbapedmihaaGreat.Au
namespace Go.Proofs.YtclplbapedmihaaGreat.Au
set_option maxRecDepth 4000
open Go.RowKit O Ng
open Go.Proofs.YtclplbapedmihaaGreat.Fs (AO AO.ar AO.nil AR AR.at Step_any Timed_any)
set_option linter.unusedVariables false
set_option linter.unusedSimpArgs false
def deedsA : Array Value := #[.nilFunc, .func (.func 96) #[] #[], .func (.func 96) #[] #[], .func (.func 96) #[] #[], .func (.func 96) #[] #[], .func (.func 97) #[] #[], .func (.func 98) #[] #[], .func (.func 99) #[] #[], .func (.func 100) #[] #[], .func (.func 101) #[] #[], .func (.func 102) #[] #[], .func (.func 103) #[] #[], .func (.func 104) #[] #[], .func (.func 105) #[] #[]]
def Deed' (k : Nat) (x : Int) : Prop := ∀ (g : Nat) (V : Vw) (w0 w : World), RV w0 w g V -> Fit V -> V.done.length <= 100 -> Calls Tryz.prog k #[.pointer (some ⟨g, 0, none⟩)] w fun e w' => e = .returned (.tuple #[]) /\ RV w0 w' g (V.act x)
theorem deed_any (n : Nat) (h : 1 <= n /\ n <= 13) : ∃ k, (∀ (args : Array Value) (w' : World), (callFunc k args).run Tryz.prog w' = .ok (.enter k args) w') /\ Deed' k (n : Int) /\ deedsA[n]? = some (.func (.func k) #[] #[]) := by
 obtain rfl | rfl | rfl | rfl | rfl | rfl | rfl | rfl | rfl | rfl | rfl | rfl | rfl : n = 1 \/ n = 2 \/ n = 3 \/ n = 4 \/ n = 5 \/ n = 6 \/ n = 7 \/ n = 8 \/ n = 9 \/ n = 10 \/ n = 11 \/ n = 12 \/ n = 13 := by omega
 · exact ⟨_, fun _ _ => rfl, fun g V w0 w hv hf _ => tell_any 1 (by omega) g V w0 w hv hf, rfl⟩
 · exact ⟨_, fun _ _ => rfl, fun g V w0 w hv hf _ => tell_any 2 (by omega) g V w0 w hv hf, rfl⟩
 · exact ⟨_, fun _ _ => rfl, fun g V w0 w hv hf _ => tell_any 3 (by omega) g V w0 w hv hf, rfl⟩
 · exact ⟨_, fun _ _ => rfl, fun g V w0 w hv hf _ => tell_any 4 (by omega) g V w0 w hv hf, rfl⟩
 · exact ⟨_, fun _ _ => rfl, fun g V w0 w hv hf hd => irc_any' g V w0 w hv hd, rfl⟩
 · exact ⟨_, fun _ _ => rfl, fun g V w0 w hv hf _ => zrc_any g V w0 w hv hf, rfl⟩
 · exact ⟨_, fun _ _ => rfl, fun g V w0 w hv hf _ => scr_any g V w0 w hv hf, rfl⟩
 · exact ⟨_, fun _ _ => rfl, fun g V w0 w hv hf _ => sca_any g V w0 w hv hf, rfl⟩
 · exact ⟨_, fun _ _ => rfl, fun g V w0 w hv hf _ => scn_any g V w0 w hv hf, rfl⟩
 · exact ⟨_, fun _ _ => rfl, fun g V w0 w hv hf _ => str_any g V w0 w hv hf, rfl⟩
 · exact ⟨_, fun _ _ => rfl, fun g V w0 w hv hf _ => sta_any g V w0 w hv hf, rfl⟩
 · exact ⟨_, fun _ _ => rfl, fun g V w0 w hv hf _ => scj_any g V w0 w hv hf, rfl⟩
 · exact ⟨_, fun _ _ => rfl, fun g V w0 w hv hf _ => ser_any g V w0 w hv hf, rfl⟩
set_option maxRecDepth 20000 in
set_option maxHeartbeats 4000000 in
theorem do_any (g n : Nat) (V : Vw) (w0 w : World) (h : RV w0 w g V) (hf : Fit V) (hd : V.done.length <= 100) (hn : 1 <= n /\ n <= 13) :
 Calls Tryz.prog 58 #[.pointer (some ⟨g, 0, none⟩), .int .i64 (n : Int)] w fun e w' => e = .returned (.tuple #[]) /\ RV w0 w' g (V.act (n : Int)) := by
 obtain ⟨k, hk, hx, hc⟩ := deed_any n hn;have D := hd_ (deeds_any w);have hw : Gr w (w.alloc (.cells deedsA 127)) := (Gr.refl w).alloc _;have X := hd_ (hx g V w0 _ (h.gr hw) hf hd);have e : (w.alloc (.cells deedsA 127)).heap[w.heap.size]? = some (.cells deedsA 127 (0, 0)) := heap_alloc_last _ _;have c0 : (w.alloc (.cells deedsA 127)).cell? ⟨w.heap.size, n, none⟩ = some (.func (.func k) #[] #[]) := by rw [cell_of_row _ _ _ _ _ _ e]; exact hc
 have n14 : (n : Int) < 14 := by omega
 have HDF : Hid ((.cells #[.nilFunc, .func (.func 96) #[] #[], .func (.func 96) #[] #[], .func (.func 96) #[] #[], .func (.func 96) #[] #[], .func (.func 97) #[] #[], .func (.func 98) #[] #[], .func (.func 99) #[] #[], .func (.func 100) #[] #[], .func (.func 101) #[] #[], .func (.func 102) #[] #[], .func (.func 103) #[] #[], .func (.func 104) #[] #[], .func (.func 105) #[] #[]] 127 : Obj) = .cells deedsA 127) := rfl;clear h hf hd hn hx hc hw e;go_enter Tryz.func58, Tryz.ntmps58
 go_wp2_with fail
 refine D.out.mono ?_;rintro e w1 ⟨rfl, hw1⟩;have hw2 : w1 = w.alloc (.cells deedsA 127) := hw1;subst hw2;clear hw1;go_wp2_with fail
 refine X.out.mono ?_;rintro e w2 ⟨rfl, h2⟩;have H2 := hd_ h2;clear h2;go_wp2
 go_end0
 exact ⟨rfl, H2.out⟩
theorem sizeSt : (Tryz.prog.info? 25).map (·.size) = some 1 := by kernel_rfl
theorem sizeAs : (Tryz.prog.info? 36).map (·.size) = some 1 := by kernel_rfl
theorem stp_acts {s e : Int} (h : (Fs.stp s e).2.2 = 0) : (Fs.stp s e).2.1.length <= 10 /\ ∀ x ∈ (Fs.stp s e).2.1, 1 <= x /\ x <= 13 := by
 obtain ⟨h1, h2⟩ := Fs.stp_ok h;have := Fs.all_steps (fun s e => decide ((Fs.stp s e).2.1.length <= 10 /\ ∀ x ∈ (Fs.stp s e).2.1, 1 <= x /\ x <= 13)) (by decide +kernel) s e h1 h2;exact of_decide_eq_true this
theorem act_len (c : Cfg) (all : List Int) (q an : QC) (t : Int) (r : Rn) (x : Int) : (act c all q an t r x).out.length <= r.out.length + 1 := by
 unfold act asked
 repeat' split
 all_goals simp
theorem acts_len (c : Cfg) (all : List Int) (q an : QC) (t : Int) : ∀ (l : List Int) (r : Rn), (acts c all q an t r l).out.length <= r.out.length + l.length
 | [], r => Nat.le_refl _
 | x :: l, r => by
  have h1 := act_len c all q an t r x;have h2 := acts_len c all q an t l (act c all q an t r x);show (acts c all q an t (act c all q an t r x) l).out.length <= _;rw [List.length_cons];omega
theorem acts_snoc (c : Cfg) (all : List Int) (q an : QC) (t : Int) (r : Rn) (l : List Int) (k : Nat) (h : k < l.length) : acts c all q an t r (l.take (k + 1)) = act c all q an t (acts c all q an t r (l.take k)) l[k] := by
 rw [List.take_succ_eq_append_getElem h];unfold acts;rw [List.foldl_append];rfl
def Vw.went (V : Vw) (r : Aut × List QC × List Int) (dv : Value) : Vw := { V with a := r.1, out := r.2.1, done := r.2.2, dv := dv }
theorem Vw.went_self {V : Vw} (h1 : V.out = []) (h2 : V.done = []) : V.went (V.a, [], []) V.dv = V := by
 cases V;simp only [Vw.went] at *;subst h1 h2;rfl
def Vw.mid (V : Vw) (N : Int) (L : List Int) (v : Value) (k : Nat) : Vw :=
 ({ V with a := { V.a with st := N }, done := L, dv := v } : Vw).by (acts V.c L V.q V.n V.t ⟨{ V.a with st := N }, []⟩ (L.take k))
theorem Vw.mid_zero {V : Vw} (h : V.out = []) (N : Int) (L : List Int) (v : Value) : V.mid N L v 0 = { V with a := { V.a with st := N }, done := L, dv := v } := by
 unfold Vw.mid Vw.by acts
 rw [h];rfl
theorem Vw.mid_next (V : Vw) (N : Int) (L : List Int) (v : Value) (k : Nat) (h : k < L.length) : V.mid N L v (k + 1) = (V.mid N L v k).act L[k] := by
 unfold Vw.mid;rw [acts_snoc _ _ _ _ _ _ _ _ h];rfl
theorem mid_fit {V : Vw} (hf : fine V.c V.a V.t) (N : Int) (L : List Int) (v : Value) (k : Nat) (hk : k <= L.length) (hL : L.length <= 10) : Fit (V.mid N L v k) := by
 refine ⟨⟨N, V.a.ask, ?_⟩, hf.1, hf.2.2, ?_⟩
 · exact (acts_mid hf.1 hf.2.2 L V.q V.n (L.take k) _ (isA_mid (c := V.c) hf.2.1 N)).1
 · have h1 := acts_len V.c L V.q V.n V.t (L.take k) ⟨{ V.a with st := N }, []⟩;have h2 : (L.take k).length <= k := by rw [List.length_take]; omega
   show (acts V.c L V.q V.n V.t ⟨{ V.a with st := N }, []⟩ (L.take k)).out.length <= 900;simp at h1 ⊢;omega
set_option maxRecDepth 20000 in
set_option maxHeartbeats 4000000 in
theorem event_any (g : Nat) (V : Vw) (ev : Int) (w0 w : World) (h : RV w0 w g V) (hf : fine V.c V.a V.t) (h1 : V.out = []) (h2 : V.done = []) :
 Calls Tryz.prog 31 #[.pointer (some ⟨g, 0, none⟩), .int .i64 ev] w fun e w' => e = .returned (.bool (decide ((Fs.stp V.a.st ev).2.2 = 0))) /\ ∃ dv, RV w0 w' g (V.went (doE V.c V.a ev V.q V.n V.t) dv) := by
 obtain ⟨m, h⟩ := h;have HR := hd_ h;obtain ⟨k0, k1, k2, k3, k4, k5, k6, k7, k8, k9, k10, k11, k12, k13, k14, k15, k16, k17, k18, k19, k20⟩ := h.cells;have ST := hd_ (Step_any V.a.st ev w);have HF := hd_ hf;have HO1 := hd_ h1;have HO2 := hd_ h2;clear h hf h1 h2 k0 k1 k2 k3 k4 k6 k7 k8 k9 k10 k11 k12 k13 k14 k15 k16 k17 k18 k19 k20
 by_cases hz : (Fs.stp V.a.st ev).2.2 = 0
 · rw [decide_eq_true hz];have HD : Hid (doE V.c V.a ev V.q V.n V.t = _) := doE_yes HF.out hz;obtain ⟨hl, hx⟩ := stp_acts hz;unfold Fs.TRes at ST;rw [hz] at ST;obtain ⟨N, hN⟩ : ∃ N, N = (Fs.stp V.a.st ev).1 := ⟨_, rfl⟩;obtain ⟨L, hL⟩ : ∃ L, L = (Fs.stp V.a.st ev).2.1 := ⟨_, rfl⟩;rw [<- hL] at hl hx;rw [<- hN, <- hL] at ST HD;have HX := hd_ hx;have HL := hd_ hl;clear hz hN hL hx hl;go_enter Tryz.func31, Tryz.ntmps31
   go_wp2_with fail
   refine ST.out.mono ?_;rintro e w1 ⟨v, rfl, ho, hb⟩;have hr1 := HR.out.gr hb;have HR1 := hd_ hr1;have HO := hd_ (ownsRow_mono ho HR.out.hold.old.size);have h1v : v.oneCell' = true := own_one ho;have H1V := hd_ h1v;clear ho hb hr1 h1v ST HR k5;go_wp2_with (refine wpList_store_cell rfl 25 (.tmp 30) (.tmp 26) rfl g 5 (.int .i64 N) rfl rfl 75 _ HR1.out.row sizeSt (by simp) rfl ?_)
   intro w2 g2 ho2;have hr2 : RAt w0 w2 g { V with a := { V.a with st := N } } m := HR1.out.turn ho2 g2 fun k => k.same rfl rfl rfl rfl rfl rfl
   have HR2 := hd_ hr2;have HO2' : Hid (AO w2 w0.heap.size v L) := own_off HO.out HR1.out.row (show 82 ≠ 75 by decide) ho2;clear g2 ho2 hr2 HO HR1;go_wp2_with (refine wpList_store_cell rfl 36 (.tmp 32) (.tmp 27) rfl g 20 v rfl rfl 75 _ HR2.out.row sizeAs (by simp) H1V.out ?_)
   intro w3 g3 ho3;have hr3 : RV w0 w3 g (V.mid N L v 0) := by
    rw [Vw.mid_zero HO1.out];refine ⟨m, HR2.out.turn ho3 g3 fun k => ?_⟩;exact ⟨k.old, k.rules, k.ask, k.asks, k.q, k.n, k.out, k.outs, own_off HO2'.out HR2.out.row (show 82 ≠ 75 by decide) ho3, k.ql, k.nl, k.few⟩
   have HR3 := hd_ hr3;obtain ⟨va, vc, evv, hvn, hvc⟩ := HO2'.out.ar.shape;have HEV := hd_ evv;obtain ⟨n, hn⟩ : ∃ n, n = L.length := ⟨_, rfl⟩;rw [<- hn] at evv;have HN := hd_ hn;have hn10 : n <= 10 := by rw [hn]; exact HL.out
   subst evv;clear g3 ho3 hr3 HO2' HR2 hn hvn hvc;go_wp2_with fail
   go_loopw [37] (fun iv wr => ∃ k : Nat, k <= n /\ iv = .int .i64 (k : Int) /\ RV w0 wr g (V.mid N L (.slice va n vc) k)) (fun iv _ => n - (intOf iv).toNat)
   case atStart => exact ⟨0, Nat.zero_le _, rfl, HR3.out⟩
   case round =>
    obtain ⟨k, hk, rfl, hv⟩ := hrel;have HV := hd_ hv;clear hv
    by_cases hlt : k < n
    · have hil : k < L.length := by rw [<- HN.out]; exact hlt
      obtain ⟨m', hm'⟩ := HV.out;have har : AR wr (.slice va n vc) L := hm'.hold.done.ar;obtain ⟨b, o, ea, hc⟩ := AR.at har HN.out (by omega);subst ea;obtain ⟨y, hy⟩ : ∃ y : Nat, (y : Int) = L[k] := ⟨L[k].toNat, by have := HX.out L[k] (List.getElem_mem hil); omega⟩;have d0 := hc k hil;rw [<- hy] at d0;have hy13 : 1 <= y /\ y <= 13 := by have := HX.out L[k] (List.getElem_mem hil); omega
      have DO := hd_ (do_any g y _ w0 wr HV.out (mid_fit HF.out N L _ k (Nat.le_of_lt hil) HL.out) (by show L.length <= _; have := HL.out; omega) hy13);rw [hy, <- Vw.mid_next V N L _ k hil, <- hy] at DO;have hle : k + 1 <= n := by omega
      clear hm' har hc hy hil hy13;go_wp2_with fail
      refine DO.out.mono ?_;rintro e w4 ⟨rfl, h4⟩;have HR4 := hd_ h4;clear h4 DO d0;go_wp2_with fail
      go_roundw
      case rel =>
       first
        | exact ⟨k + 1, hle, by go_num, HR4.out⟩
        | ((repeat apply Exists.intro); exact ⟨⟨k + 1, hle, by go_num, HR4.out⟩, rfl⟩)
      case measure => simp [intOf]; omega
    · obtain rfl : k = n := by omega
      have HT : Hid (L.take k = L) := List.take_of_length_le (by rw [HN.out]; exact Nat.le_refl _);have TM := hd_ (Timed_any N wr);obtain ⟨m', hm'⟩ := HV.out;have HM := hd_ hm';clear hm';cases ht : Fs.timed N with
      | true =>
       rw [ht] at TM;have HRT := hd_ ht;clear ht;go_wp2_with fail
       refine TM.out.mono ?_;rintro e w4 ⟨rfl, rfl⟩;go_wp2_with fail
       go_ret
       refine ⟨rfl, .slice va k vc, m', ?_⟩;rw [HD.out];have := HM.out;unfold Vw.mid at this;rw [HT.out] at this;unfold rest;rw [if_pos HRT.out];exact this
      | false =>
       rw [ht] at TM;have HRT := hd_ ht;clear ht;go_wp2_with fail
       refine TM.out.mono ?_;rintro e w4 ⟨rfl, rfl⟩;go_wp2_with (refine wpList_store_cell rfl 3 (.tmp 51) (.const (.int .i64 0)) rfl g 10 (.int .i64 0) rfl rfl 75 _ HM.out.row sizeI (by simp) rfl ?_)
       intro w5 g5 ho5;have h5 : RAt w0 w5 g { V.mid N L (.slice va k vc) k with a := { (V.mid N L (.slice va k vc) k).a with timer := 0 } } m' := HM.out.turn ho5 g5 fun k => k.same rfl rfl rfl rfl rfl rfl
       have H5 := hd_ h5;clear g5 ho5 h5;go_wp2_with fail
       go_ret
       refine ⟨rfl, .slice va k vc, m', ?_⟩;rw [HD.out];have := H5.out;unfold Vw.mid at this;rw [HT.out] at this;unfold rest;rw [if_neg (by rw [HRT.out]; decide)];exact this
 · rw [decide_eq_false hz];have HD : Hid (doE V.c V.a ev V.q V.n V.t = (V.a, [], [])) := doE_no fun c => hz c.2
   unfold Fs.TRes at ST;obtain ⟨N, hN⟩ : ∃ N, N = (Fs.stp V.a.st ev).1 := ⟨_, rfl⟩;obtain ⟨L, hL⟩ : ∃ L, L = (Fs.stp V.a.st ev).2.1 := ⟨_, rfl⟩;obtain ⟨F, hF⟩ : ∃ F, F = (Fs.stp V.a.st ev).2.2 := ⟨_, rfl⟩;rw [<- hF] at hz;rw [<- hN, <- hL, <- hF] at ST;clear hN hL hF;go_enter Tryz.func31, Tryz.ntmps31
   go_wp2_with fail
   refine ST.out.mono ?_;rintro e w1 ⟨v, rfl, ho, hb⟩;have HR1 := hd_ (HR.out.gr hb);clear ho hb;go_wp2_with fail
   go_ret
   refine ⟨rfl, V.dv, m, ?_⟩;rw [HD.out, Vw.went_self HO1.out HO2.out];exact HR1.out
end Go.Proofs.YtclplbapedmihaaGreat.Au
