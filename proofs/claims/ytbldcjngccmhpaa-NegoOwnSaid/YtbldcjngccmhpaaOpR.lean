/-
  Options of the call's own whose data a loop overwrites: what stays.
-/
import Derived.Test.YtbldcjngccmhpaaOpM
import Derived.Test.YtbldcjngccmhpaaOnly
import Derived.Test.YtbldcjngccmhpaaFlip
namespace Go.Proofs.Ytbldcjngccmhpaa.O
open Go.RowKit
set_option linter.unusedVariables false
set_option linter.unusedSimpArgs false

theorem grown_set (w : World) (b o : Nat) (v : Value) : w.grownBy (w.setCell ⟨b, o, none⟩ v) (some b) :=
  ⟨rfl, rfl, rfl, by simp, fun k _ hk => Below.heap_setCell _ _ _ k (fun e => hk (by rw [e]))⟩
theorem ownsRow_same {w w' : World} {base : Nat} {e : TypeId} {size n : Nat} {v : Value} {xs : List Value} (h : w.ownsRow base e size v n xs) (hs : ∀ k, base ≤ k → k < w.heap.size → w'.heap[k]? = w.heap[k]?) : w'.ownsRow base e size v n xs := by
  refine ⟨h.1, ?_⟩
  rcases h.2 with h | ⟨k, cap, cur, h1, h2, h3, h4⟩
  · exact .inl h
  · refine .inr ⟨k, cap, cur, h1, h2, ?_, h4⟩
    rw [hs k h2 (Array.getElem?_eq_some_iff.1 h3).1]
    exact h3
theorem TO.same {w w' : World} {base : Nat} {v : Value} {ts : List Tg} (h : TO w base v ts) (hs : ∀ k, base ≤ k → k < w.heap.size → w'.heap[k]? = w.heap[k]?) : TO w' base v ts :=
  ⟨ownsRow_same h.own hs, fun t ht => ownsRow_same (h.vals t ht) hs⟩
/-- Where the data lie. -/
theorem own_at {w : World} {base : Nat} {A : Option Addr} {L C : Nat} {l : List UInt8} (h : OwnB w base 5 (.slice A L C) l) (hL : 0 < L) : ∃ g, A = some ⟨g, 0, none⟩ ∧ base ≤ g ∧ l.length = L := by
  have hl := own_len h
  obtain ⟨_, ⟨h2, h3⟩ | ⟨g, cap, cur, h2, h3, _⟩⟩ := h
  · simp only [Value.slice.injEq] at h2
    omega
  · simp only [Value.slice.injEq] at h2
    exact ⟨g, h2.1, h3, hl⟩

/-- The data between base and top may have been overwritten; nothing else has turned. -/
structure MM (ws wr : World) (base top : Nat) (lv : Value) (us : List Tg) : Prop where
  low : Below base ws wr
  high : ∀ k, top ≤ k → k < ws.heap.size → wr.heap[k]? = ws.heap[k]?
  row : wr.ownsRow base 42 2 lv us.length (flat us)
  vals : ∀ t ∈ us, ∃ l' : List UInt8, OwnB wr base 5 t.val l'
  lim : ∀ t ∈ us, ∀ g, t.val.ownBlock = some g → g < top
theorem MM.start {ws : World} {base top : Nat} {lv : Value} {us : List Tg} (h : TO ws base lv us) (hl : ∀ t ∈ us, ∀ g, t.val.ownBlock = some g → g < top) : MM ws ws base top lv us :=
  ⟨Below.refl _ _, fun _ _ _ => rfl, h.own, fun t ht => ⟨t.l, h.vals t ht⟩, hl⟩
theorem MM.step {ws wr : World} {base top : Nat} {lv : Value} {us : List Tg} (h : MM ws wr base top lv us) {t : Tg} (ht : t ∈ us) {g n c k : Nat} (hv : t.val = .slice (some ⟨g, 0, none⟩) n c) (x : UInt8) :
    MM ws (wr.setCell ⟨g, k, none⟩ (.int .u8 (x.toNat : Int))) base top lv us := by
  have hg : g < top := h.lim t ht g (by rw [hv]; rfl)
  obtain ⟨lt, hlt⟩ := h.vals t ht
  have hgb : base ≤ g := by
    have := (World.ownsRow.lt hlt g (by rw [hv]; rfl)).1
    exact this
  refine ⟨h.low.setCell hgb _, fun q hq hs => ?_, ?_, fun u hu => ?_, h.lim⟩
  · rw [← h.high q hq hs]
    exact Below.heap_setCell _ _ _ _ (by show q ≠ g; omega)
  · refine World.ownsRow.kept h.row (grown_set wr g k _) ?_
    have := own_ne_block h.row hlt (by decide)
    rw [hv] at this
    exact this
  · obtain ⟨lu, hlu⟩ := h.vals u hu
    by_cases e : u.val.ownBlock = some g
    · obtain ⟨A, L, C, ev, hL, _, _⟩ := hlu.bs.sl
      rw [ev] at e hlu ⊢
      obtain ⟨A0, rfl⟩ : ∃ A0, A = some A0 := by
        cases A with
        | none => cases e
        | some A0 => exact ⟨A0, rfl⟩
      obtain ⟨_, ⟨h2, _⟩ | ⟨g', cap, cur, h2, _⟩⟩ := id hlu
      · cases h2
      · simp only [Value.slice.injEq, Option.some.injEq] at h2
        obtain ⟨rfl, _, _⟩ := h2
        simp only [Value.ownBlock, Option.some.injEq] at e
        subst e
        refine ⟨lu.set k x, ?_⟩
        have hs := (World.ownsRow.stored (by have h3 := hlu; unfold OwnB at h3; rw [hL] at h3; exact h3) k (.int .u8 (x.toNat : Int))).1
        unfold OwnB
        rw [List.length_set, List.map_set, hL]
        exact hs
    · exact ⟨lu, World.ownsRow.kept hlu (grown_set wr g k _) (.inr e)⟩
theorem MM.cells {ws wr : World} {base top : Nat} {ao : Option Addr} {n c : Nat} {us : List Tg} (h : MM ws wr base top (.slice ao n c) us) (hn : 0 < us.length) :
    ∃ b o, ao = some ⟨b, o, none⟩ ∧ ∀ i (hi : i < us.length), wr.cell? ⟨b, o + i * 2 + 1, none⟩ = some us[i].val := by
  have hr := own_rd h.row
  obtain ⟨_, _, _, ev, _⟩ := id hr
  simp only [Value.slice.injEq] at ev
  obtain ⟨_, rfl, _⟩ := ev
  obtain ⟨b, o, h1, h2, h3⟩ := Rd.cells hr hn (by omega)
  exact ⟨b, o, h1, fun i hi => h3 _ _ (flat_get us i hi).2⟩
theorem MM.byte {ws wr : World} {base top : Nat} {lv : Value} {us : List Tg} (h : MM ws wr base top lv us) {t : Tg} (ht : t ∈ us) {g n c k : Nat} (hv : t.val = .slice (some ⟨g, 0, none⟩) n c) (hk : k < n) :
    (∃ u, wr.cell? ⟨g, k, none⟩ = some u) ∧ wr.frozen? ⟨g, k, none⟩ = false := by
  obtain ⟨lt, hlt⟩ := h.vals t ht
  rw [hv] at hlt
  have hl := own_len hlt
  unfold OwnB at hlt
  rw [hl] at hlt
  refine ⟨?_, World.ownsRow.frozenAt hlt _⟩
  rw [World.ownsRow.cellAt hlt _ (by simp; omega)]
  exact ⟨_, List.getElem?_eq_getElem (by simp; omega)⟩
end Go.Proofs.Ytbldcjngccmhpaa.O
