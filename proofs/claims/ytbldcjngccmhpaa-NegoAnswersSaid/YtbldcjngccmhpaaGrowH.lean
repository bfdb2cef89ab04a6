/-
  A region that draws its order, once more: the first n operations keep to G, all of them to H; what is taken first yields in each world that those operations which need not wait for it can lead to.
-/
import Derived.Test.YtbldcjngccmhpaaGrow
namespace Go.Proofs.Ytbldcjngccmhpaa
open Go.RowKit
set_option linter.unusedVariables false
theorem pre_refl {G : World → World → Prop} (h : Pre G) (w : World) : G w w := h.refl w
/-- These blocks stand. -/
def Kp (bs : List Nat) (w w' : World) : Prop := w.heap.size ≤ w'.heap.size ∧ ∀ b ∈ bs, w'.heap[b]? = w.heap[b]?
theorem preKp (bs : List Nat) : Pre (Kp bs) := ⟨fun w => ⟨Nat.le_refl _, fun _ _ => rfl⟩, fun h k => ⟨Nat.le_trans h.1 k.1, fun b hb => (k.2 b hb).trans (h.2 b hb)⟩⟩
section
variable {P : Program} {ops : Array Oper} {Q : Exit → Act → World → Prop} {md : Region.Mode} {G H : World → World → Prop} {n : Nat}
def wpH (P : Program) (md : Region.Mode) (ops : Array Oper) (n : Nat) (G H : World → World → Prop) (Q : Exit → Act → World → Prop) : Nat → Array Bool → Act → World → Prop
  | 0, listed, a, w => Region.ready md ops listed = [] ∧ Q .normal a w
  | fuel + 1, listed, a, w =>
    (Region.ready md ops listed = [] → Q .normal a w) ∧
    ∀ i ∈ Region.ready md ops listed, wpOp P ops Q i (fun a' w' => ((i < n → G w w') ∧ H w w') ∧ wpH P md ops n G H Q fuel (listed.setIfInBounds i true) a' w') a w
theorem wpAny_of_H : ∀ (fuel : Nat) (listed : Array Bool) (a : Act) (w : World), wpH P md ops n G H Q fuel listed a w → wpAny P md ops Q fuel listed a w
  | 0, _, _, _, h => h
  | fuel + 1, _, _, _, h => ⟨h.1, fun i hi => wpOp_mono (fun a' w' h' => wpAny_of_H fuel _ a' w' h'.2) (h.2 i hi)⟩
theorem wpH_first (hG : Pre G) (hH : Pre H) {K : World → World → Prop} (hK : Pre K) {i : Nat} {oi : Oper} {v : Value}
    (hin : ∀ (listed : Array Bool) (j : Nat) (w w' : World), Closed md ops listed → j ∈ Region.ready md ops listed → listed.getD i false = false → (j < n → G w w') → H w w' → K w w')
    (hi : ops[i]? = some oi) (hsel : ∀ (j : Nat) (o : Oper) cs b, ops[j]? = some o → o.op ≠ .select cs b)
    (hQ : ∀ c a w, Q (.panic c) (a.put oi.dst v) w → Q (.panic c) a w) :
    ∀ (fuel : Nat) (listed : Array Bool) (a : Act) (w : World),
      (∀ j oj, ops[j]? = some oj → j ≠ i → listed.getD j true = false → (∀ e ∈ oj.after, Region.binds md e = true → e.on ≠ i) → oi.apart ops oj = true) →
      Closed md ops listed → i ∈ Region.ready md ops listed → YieldsIf P ops (K w) oi v a →
      wpH P md ops n G H Q fuel (listed.setIfInBounds i true) (a.put oi.dst v) w → wpH P md ops n G H Q (fuel + 1) listed a w := by
  intro fuel
  induction fuel with
  | zero =>
    intro listed a w _ _ hr hy Hh
    refine ⟨fun h => (by rw [h] at hr; cases hr), fun j hj => ?_⟩
    by_cases hji : j = i
    · subst hji; exact hy.wpOp hi (hK.refl w) ⟨⟨fun _ => hG.refl w, hH.refl w⟩, Hh⟩
    · have := ready_mono hj hji
      rw [Hh.1] at this
      cases this
  | succ fuel ih =>
    intro listed a w hfree hcl hr hy Hh
    refine ⟨fun h => (by rw [h] at hr; cases hr), fun j hj => ?_⟩
    by_cases hji : j = i
    · subst hji; exact hy.wpOp hi (hK.refl w) ⟨⟨fun _ => hG.refl w, hH.refl w⟩, Hh⟩
    · have h1 := Hh.2 j (ready_mono hj hji)
      obtain ⟨hjun, oj, hoj, hall⟩ := mem_ready.1 hj
      have hnot : ∀ e ∈ oj.after, Region.binds md e = true → e.on ≠ i := fun e he hb heq => by
        have h1 := hall e he hb
        have h0 := (mem_ready.1 hr).1
        rw [heq] at h1
        rcases Nat.lt_or_ge i listed.size with h' | h'
        · simp [h'] at h0 h1; rw [h0] at h1; cases h1
        · simp [Array.getElem?_eq_none h'] at h1
      have h2 := wpOp_putIf hoj (hfree j oj hoj hji hjun hnot) (fun cs b => hsel i oi cs b hi) (fun cs b => hsel j oj cs b hoj) hQ hy h1
      have hfree' : ∀ k ok, ops[k]? = some ok → k ≠ i → (listed.setIfInBounds j true).getD k true = false →
          (∀ e ∈ ok.after, Region.binds md e = true → e.on ≠ i) → oi.apart ops ok = true := fun k ok hk hki hun hno => by
        refine hfree k ok hk hki ?_ hno
        by_cases hjk : j = k
        · subst hjk; exact hjun
        · rw [getD_set_ne true hjk] at hun; exact hun
      refine wpOp_mono (fun a' w' h3 => ?_) h2
      obtain ⟨hy', hg', hk⟩ := h3
      have hk' : K w w' := hin listed j w w' hcl hj (getD_both (mem_ready.1 hr).1) hg'.1 hg'.2
      refine ⟨hg', ih (listed.setIfInBounds j true) a' w' hfree' (hcl.set hj) (ready_mono hr (Ne.symm hji)) (yields_on hK hy' hk') ?_⟩
      rw [Array.setIfInBounds_comm _ _ hji]
      exact hk
/-- Take operation i first: whatever may come ahead of it keeps to G. -/
theorem wpH_take (hG : Pre G) (hH : Pre H) {i : Nat} (hin : tailOk md ops n i = true) (d : Option Tmp) {oi : Oper} {v : Value} {fuel : Nat} {listed : Array Bool} {a : Act} {w : World} (hcl : closedB md ops listed = true) (hi : ops[i]? = some oi)
    (hs : Region.noSelect ops = true) (hf : Region.free md ops listed i = true) (hr : (Region.ready md ops listed).contains i = true)
    (hQ : ∀ c a w, Q (.panic c) (a.put oi.dst v) w → Q (.panic c) a w) (hw : Region.wanted oi (yielded ops a.tmps) = true)
    (hy : ∀ w', G w w' → (execOp a.eval oi).run P w' = .ok (.value v) w')
    (hd : oi.dst = d) (h : wpH P md ops n G H Q fuel (listed.setIfInBounds i true) (a.put d v) w) : wpH P md ops n G H Q (fuel + 1) listed a w :=
  wpH_first hG hH hG (fun _ _ _ _ hc hj hl hg _ => hg (tailOk_lt hc hin hj hl)) hi (Region.noSelect_spec hs) hQ fuel listed a w (Region.free_spec hi hf) (closed_of hcl) (by simpa using hr) (.inl ⟨hw, hy⟩) (hd ▸ h)
/-- Take operation i first: it yields whatever comes ahead of it. -/
theorem wpH_takeH (hG : Pre G) (hH : Pre H) {i : Nat} (d : Option Tmp) {oi : Oper} {v : Value} {fuel : Nat} {listed : Array Bool} {a : Act} {w : World} (hcl : closedB md ops listed = true) (hi : ops[i]? = some oi)
    (hs : Region.noSelect ops = true) (hf : Region.free md ops listed i = true) (hr : (Region.ready md ops listed).contains i = true)
    (hQ : ∀ c a w, Q (.panic c) (a.put oi.dst v) w → Q (.panic c) a w) (hw : Region.wanted oi (yielded ops a.tmps) = true)
    (hy : ∀ w', H w w' → (execOp a.eval oi).run P w' = .ok (.value v) w')
    (hd : oi.dst = d) (h : wpH P md ops n G H Q fuel (listed.setIfInBounds i true) (a.put d v) w) : wpH P md ops n G H Q (fuel + 1) listed a w :=
  wpH_first hG hH hH (fun _ _ _ _ _ _ _ _ hh => hh) hi (Region.noSelect_spec hs) hQ fuel listed a w (Region.free_spec hi hf) (closed_of hcl) (by simpa using hr) (.inl ⟨hw, hy⟩) (hd ▸ h)
/-- Pass over operation i: its guard says no. -/
theorem wpH_pass (hG : Pre G) (hH : Pre H) {i : Nat} (d : Option Tmp) {oi : Oper} {fuel : Nat} {listed : Array Bool} {a : Act} {w : World} (hcl : closedB md ops listed = true) (hi : ops[i]? = some oi)
    (hs : Region.noSelect ops = true) (hf : Region.free md ops listed i = true) (hr : (Region.ready md ops listed).contains i = true)
    (hQ : ∀ c a w, Q (.panic c) (a.put oi.dst undef) w → Q (.panic c) a w) (hw : Region.wanted oi (yielded ops a.tmps) = false)
    (hd : oi.dst = d) (h : wpH P md ops n G H Q fuel (listed.setIfInBounds i true) (a.put d undef) w) : wpH P md ops n G H Q (fuel + 1) listed a w :=
  wpH_first hG hH hH (fun _ _ _ _ _ _ _ _ hh => hh) hi (Region.noSelect_spec hs) hQ fuel listed a w (Region.free_spec hi hf) (closed_of hcl) (by simpa using hr) (.inr ⟨hw, rfl⟩) (hd ▸ h)
/-- Operation i alone may come up: carry it out. -/
theorem wpH_one {i : Nat} {oi : Oper} {fuel : Nat} {listed : Array Bool} {a : Act} {w : World} (hi : ops[i]? = some oi)
    (hr : Region.ready md ops listed = [i]) (hw : Region.wanted oi (yielded ops a.tmps) = true)
    (h : oi.wp P a w (fun a' w' => G w w' ∧ H w w' ∧ wpH P md ops n G H Q fuel (listed.setIfInBounds i true) a' w') Q) : wpH P md ops n G H Q (fuel + 1) listed a w := by
  refine ⟨(fun h0 => by rw [hr] at h0; cases h0), fun j hj => ?_⟩
  rw [hr, List.mem_singleton] at hj
  subst hj
  unfold wpOp
  simp only [hi]
  rw [if_pos hw]
  exact .inl (Oper.wp_mono (fun a' w' h' => ⟨⟨fun _ => h'.1, h'.2.1⟩, h'.2.2⟩) h)
/-- Operation i alone may come up, behind the first n: carry it out. -/
theorem wpH_tail {i : Nat} {oi : Oper} {fuel : Nat} {listed : Array Bool} {a : Act} {w : World} (hin : n ≤ i) (hi : ops[i]? = some oi)
    (hr : Region.ready md ops listed = [i]) (hw : Region.wanted oi (yielded ops a.tmps) = true)
    (h : oi.wp P a w (fun a' w' => H w w' ∧ wpH P md ops n G H Q fuel (listed.setIfInBounds i true) a' w') Q) : wpH P md ops n G H Q (fuel + 1) listed a w := by
  refine ⟨(fun h0 => by rw [hr] at h0; cases h0), fun j hj => ?_⟩
  rw [hr, List.mem_singleton] at hj
  subst hj
  unfold wpOp
  simp only [hi]
  rw [if_pos hw]
  exact .inl (Oper.wp_mono (fun a' w' h' => ⟨⟨fun h0 => absurd h0 (Nat.not_lt.2 hin), h'.1⟩, h'.2⟩) h)
theorem wpH_done {listed : Array Bool} {a : Act} {w : World} (hr : Region.ready md ops listed = []) (h : Q .normal a w) : ∀ fuel, wpH P md ops n G H Q fuel listed a w
  | 0 => ⟨hr, h⟩
  | _ + 1 => ⟨fun _ => h, by rw [hr]; simp⟩
theorem wp_region_H (n : Nat) (G H : World → World → Prop) {id : Nat} {a : Act} {w : World} (hm : P.follows .mixedOrders = true)
    (h : wpH P .any ops n G H Q ops.size (Array.replicate ops.size false) a w.drew) : (Code.region id ops true).wp P Q a w :=
  wp_region_any hm (wpAny_of_H _ _ _ _ h)
end
end Go.Proofs.Ytbldcjngccmhpaa
