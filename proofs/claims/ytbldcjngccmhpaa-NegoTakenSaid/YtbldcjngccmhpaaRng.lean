/-
  A range over a function whose iterator tells, beside each element, what it knows of it in the world of that round ('Good'): the caller's law.
  The iterator makes new memory for what it hands over; the caller gathers it.
-/
import Derived.RangeFuncFrom
import Derived.RangeFuncBox
import Derived.RangeFuncBound
import Derived.RangeFuncCalls
import Derived.RangeFuncLeaves
import Derived.Test.YtbldcjngccmhpaaGen
namespace Go.Proofs.Ytbldcjngccmhpaa
open Go.RowKit
set_option linter.unusedVariables false
set_option linter.unusedSimpArgs false

/-- How a round's body may be left: it goes on, or it returns. -/
def endsR {α : Type} (B B' : Nat) (I Ix : List α → World → Prop) (xs : List α) (W : World) : Exit → Act → World → Prop
  | .normal, _, W' => KeepsFrom B W W' ∧ Below B' W W' ∧ I xs W'
  | .ret, _, W' => KeepsFrom B W W' ∧ Ix xs W'
  | _, _, _ => False
/-- A fact that abides the turn of a block that holds no cells, from B on. -/
def Turns (B : Nat) (p : World → Prop) : Prop := ∀ A l o o', p A → B ≤ l → A.heap[l]? = some o → o.isCells = false → p (A.putObj l o')
theorem put_below {B l : Nat} {A : World} {o : Obj} (o' : Obj) (hl : B ≤ l) (h : A.heap[l]? = some o) : Below B A (A.putObj l o') :=
  (Below.refl B A).grown (grownBy_putObj' A l o') (by have := (Array.getElem?_eq_some_iff.1 h).1; omega) (fun k e => by cases e; exact hl)
theorem Turns.and {B : Nat} {p q : World → Prop} (h : Turns B p) (k : Turns B q) : Turns B fun A => p A ∧ q A := fun A l o o' hh a b c => ⟨h A l o o' hh.1 a b c, k A l o o' hh.2 a b c⟩
theorem turns_below {B n : Nat} {w : World} (hn : n ≤ B) : Turns B (Below n w) := fun A l o o' h hl ho _ => h.trans ((put_below o' hl ho).mono hn)
theorem turns_row {B base : Nat} {e : TypeId} {size n : Nat} {v : Value} {xs : List Value} : Turns B fun A => A.ownsRow base e size v n xs := fun A l o o' h hl ho hc => by
  refine World.ownsRow.kept h (grownBy_putObj' A l o') ?_
  rcases h.2 with ⟨rfl, _⟩ | ⟨g, cap, cur, rfl, _, hg, _⟩
  · exact .inl rfl
  · refine .inr fun e1 => ?_
    simp only [Value.ownBlock, Option.some.injEq] at e1
    subst e1
    rw [ho] at hg
    obtain rfl := Option.some.inj hg
    cases hc
theorem turns_block {B g : Nat} {cs : Array Value} {t : TypeId} {fr : Nat × Nat} : Turns B fun A => A.heap[g]? = some (.cells cs t fr) := fun A l o o' h hl ho hc => by
  refine (World.putObj_heap_other fun e => ?_).trans h
  subst e
  have h' : A.heap[g]? = some (.cells cs t fr) := h
  rw [ho] at h'
  obtain rfl := Option.some.inj h'
  cases hc

section
variable {P : Program} {α : Type} {g : Operand} {ps : Array Tmp} {assign body : Code} {Q : Exit → Act → World → Prop} {a : Act} {w : World}
theorem ranged {B : Nat} (hB : B ≤ w.heap.size) {gf : Nat} {lb : Array Value} (hg : a.eval g = .func (.func gf) #[] lb) (eg : ∀ args w, (callFunc gf args).run P w = .ok (.enter gf args) w)
    (encs : α → Array Value) (hps : ∀ x, (encs x).size = ps.size)
    (Good : List α → α → World → Prop) (I Ix : List α → World → Prop) (Mid : List α → α → Act → World → Prop) (S : List α → Prop)
    (tI : ∀ xs, Turns w.heap.size (I xs)) (tX : ∀ xs, Turns w.heap.size (Ix xs)) (tM : ∀ xs x b, Turns w.heap.size (Mid xs x b))
    (gI : ∀ xs A B, I xs A → Gr A B → I xs B) (h0 : I [] w)
    (hassign : ∀ l xs x W, I xs W → Good xs x W → assign.wpIn (Fence.wide.inRound l) 0 P
      (Exit.then (fun b W' => KeepsFrom w.heap.size W W' ∧ Below B W W' ∧ Mid xs x b W') (fun _ _ _ => False)) { tmps := (ps.zip (encs x)).foldl (fun t (p, v) => t.setIfInBounds p v) a.tmps, defers := [] } W)
    (hbody : ∀ l xs x b W, Mid xs x b W → body.wpIn (Fence.wide.inRound l) 0 P (endsR w.heap.size B I Ix (xs ++ [x]) W) b W)
    (hseq : ∀ (l : Nat) (J Jx : List α → World → Prop) (W : World), Gr w W → (∀ xs A B, J xs A → Gr A B → J xs B) →
      (∀ xs x V, J xs V → Good xs x V → YieldAt Fence.wide 0 P l (encs x) V fun e V' => (e = .returned (.bool true) ∧ J (xs ++ [x]) V' ∧ Below B V V') ∨ (e = .returned (.bool false) ∧ Jx (xs ++ [x]) V')) →
      J [] W → CallsIn Fence.wide 0 P gf (#[.func (.yield l) #[] #[]] ++ lb) W fun e V => (∃ v, e = .returned v) ∧ ((∃ xs, S xs ∧ J xs V) ∨ (∃ xs, Jx xs V)))
    (hdone : ∀ D xs W, w.heap.size ≤ D → S xs → I xs W → W.heap[D]? = some (.deferred (some [])) → Q .normal { a with defers := { target := .collected D, args := #[] } :: a.defers } W)
    (hstop : ∀ D xs W, w.heap.size ≤ D → Ix xs W → W.heap[D]? = some (.deferred (some [])) → Code.ret.wpIn Fence.wide 0 P Q { a with defers := { target := .collected D, args := #[] } :: a.defers } W) :
    (Code.rangeFunc g ps assign body).wpIn Fence.wide 0 P Q a w := by
  refine wpIn_rangeFunc fun fn _ => ?_
  let rc : LoopState → Option Code → Loop := fun st pe => { state := st, pending := pe, fn, tmps := a.tmps, params := ps, assign, body, defers := w.heap.size }
  let w1 : World := (w.alloc (.deferred (some []))).alloc (.loop (rc .ready none))
  have q1 : Gr w w1 := ((Gr.refl w).alloc _).alloc _
  have hrec1 : w1.heap[w.heap.size + 1]? = some (.loop (rc .ready none)) := heap2_1' w _ _
  have hdef1 : w1.heap[w.heap.size]? = some (.deferred (some [])) := heap2_0' w _ _
  -- the loop's two blocks as they lie between two rounds
  let At : LoopState → Option Code → World → Prop := fun st pe W => W.heap[w.heap.size + 1]? = some (.loop (rc st pe)) ∧ W.heap[w.heap.size]? = some (.deferred (some []))
  have atGr : ∀ st pe A B, At st pe A → Gr A B → At st pe B := fun st pe A B h hq => ⟨heap_gr hq h.1, heap_gr hq h.2⟩
  have atPut : ∀ st pe st' pe' A, At st pe A → At st' pe' (A.putObj (w.heap.size + 1) (.loop (rc st' pe'))) := fun st pe st' pe' A h =>
    ⟨World.putObj_heap_same (Array.getElem?_eq_some_iff.1 h.1).1, (World.putObj_heap_other (by omega)).trans h.2⟩
  have atKeep : ∀ st pe A B, At st pe A → KeepsFrom w.heap.size A B → At st pe B := fun st pe A B h hk => ⟨hk.same _ _ (by omega) h.1 rfl, hk.same _ _ (Nat.le_refl _) h.2 rfl⟩
  refine ⟨w.heap.size + 1, [{ target := .collected w.heap.size, args := #[] }], w1, { target := .fn (.func gf) lb, args := #[.func (.yield (w.heap.size + 1)) #[] #[]] }, w1, gf,
    #[.func (.yield (w.heap.size + 1)) #[] #[]] ++ lb, w1, run_enterLoop_outer _ _ _ _ _, ?_, fun _ _ => trivial, ?_, fun h => ?_, ?_⟩
  · simp only [resolve, hg]
    simp [go_sem]
  · simp [invoke, go_sem, eg]
  · cases h
  · refine (hseq (w.heap.size + 1) (fun xs W => I xs W ∧ At .ready none W) (fun xs W => Ix xs W ∧ At .done (some .ret) W) w1 q1
      (fun xs A B h hq => ⟨gI xs A B h.1 hq, atGr _ _ A B h.2 hq⟩) ?_ ⟨gI [] w w1 h0 q1, hrec1, hdef1⟩).mono ?_
    · rintro xs x V ⟨hi, hat⟩ hgood
      refine ⟨fn, _, assign, body, run_yield (P := P) (args := encs x) hat.1 (hps x), roundIn_of_wpIn trivial (wpIn_mono (hassign _ xs x V hi hgood) ?_)⟩
      rintro e b V1 he
      cases e with
      | normal =>
        obtain ⟨k1, b1, hm⟩ := he
        have at1 := atKeep _ _ _ _ hat k1
        have at2 := atPut _ _ .busy none _ at1
        refine ⟨_, run_beginRound at1.1 rfl, wpIn_mono (hbody _ xs x b _ (tM xs x b _ _ _ _ hm (by omega) at1.1 rfl)) ?_⟩
        rintro e b2 V2 hp
        cases e with
        | normal =>
          obtain ⟨k2, b2', hi2⟩ := hp
          have at3 := atKeep _ _ _ _ at2 k2
          exact ⟨_, _, run_endRound (P := P) none at3.1, .inl ⟨rfl, ⟨tI _ _ _ _ _ hi2 (by omega) at3.1 rfl, atPut _ _ _ _ _ at3⟩,
            ((b1.trans (put_below _ (by omega) at1.1)).trans b2').trans (put_below _ (by omega) at3.1)⟩⟩
        | ret =>
          obtain ⟨k2, hi2⟩ := hp
          have at3 := atKeep _ _ _ _ at2 k2
          exact ⟨_, _, run_endRound (P := P) (some .ret) at3.1, .inr ⟨rfl, tX _ _ _ _ _ hi2 (by omega) at3.1 rfl, atPut _ _ _ _ _ at3⟩⟩
        | exit id => exact hp.elim
        | goto t => exact hp.elim
        | panic ch => exact hp.elim
        | outgrown => exact hp.elim
      | exit id => exact he.elim
      | goto t => exact he.elim
      | ret => exact he.elim
      | panic ch => exact he.elim
      | outgrown => exact he.elim
    · rintro e V ⟨⟨v, rfl⟩, (⟨xs, hS, hi, hat⟩ | ⟨xs, hi, hat⟩)⟩
      · exact ⟨none, _, run_endLoop (P := P) hat.1 (fun h => by cases h), hdone _ xs _ (Nat.le_refl _) hS (tI _ _ _ _ _ hi (by omega) hat.1 rfl) ((World.putObj_heap_other (by omega)).trans hat.2)⟩
      · exact ⟨some .ret, _, run_endLoop (P := P) hat.1 (fun h => by cases h), hstop _ xs _ (Nat.le_refl _) (tX _ _ _ _ _ hi (by omega) hat.1 rfl) ((World.putObj_heap_other (by omega)).trans hat.2)⟩
end
end Go.Proofs.Ytbldcjngccmhpaa
