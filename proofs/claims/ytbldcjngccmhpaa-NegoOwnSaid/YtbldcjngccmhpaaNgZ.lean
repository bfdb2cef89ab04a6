/-
  Options of the call's own whose data and types a loop overwrites: what stays.
-/
import Derived.Test.YtbldcjngccmhpaaOpR
import Derived.Test.YtbldcjngccmhpaaNgM
namespace Go.Proofs.Ytbldcjngccmhpaa.Ng
open Go.RowKit O
set_option linter.unusedVariables false
set_option linter.unusedSimpArgs false
/-- What lies between base and top may have been overwritten; nothing else has turned. -/
structure MX (ws wr : World) (base top : Nat) (lv : Value) (us : List Tg) : Prop where
  low : Below base ws wr
  high : ∀ k, top ≤ k → k < ws.heap.size → wr.heap[k]? = ws.heap[k]?
  row : ∃ cs : List Value, wr.ownsRow base 42 2 lv us.length cs ∧ ∀ i (hi : i < us.length), cs[i * 2 + 1]? = some us[i].val
  vals : ∀ t ∈ us, ∃ l' : List UInt8, OwnB wr base 5 t.val l'
  lim : ∀ t ∈ us, ∀ g, t.val.ownBlock = some g → g < top
  limR : ∀ g, lv.ownBlock = some g → g < top
theorem MX.start {ws : World} {base top : Nat} {lv : Value} {us : List Tg} (h : TO ws base lv us) (hl : ∀ t ∈ us, ∀ g, t.val.ownBlock = some g → g < top) (hr : ∀ g, lv.ownBlock = some g → g < top) : MX ws ws base top lv us :=
  ⟨Below.refl _ _, fun _ _ _ => rfl, ⟨flat us, h.own, fun i hi => (flat_get us i hi).2⟩, fun t ht => ⟨t.l, h.vals t ht⟩, hl, hr⟩
theorem MX.step {ws wr : World} {base top : Nat} {lv : Value} {us : List Tg} (h : MX ws wr base top lv us) {t : Tg} (ht : t ∈ us) {g n c k : Nat} (hv : t.val = .slice (some ⟨g, 0, none⟩) n c) (x : UInt8) :
    MX ws (wr.setCell ⟨g, k, none⟩ (.int .u8 (x.toNat : Int))) base top lv us := by
  have hg : g < top := h.lim t ht g (by rw [hv]; rfl)
  obtain ⟨lt, hlt⟩ := h.vals t ht
  have hgb : base ≤ g := (World.ownsRow.lt hlt g (by rw [hv]; rfl)).1
  refine ⟨h.low.setCell hgb _, fun q hq hs => ?_, ?_, fun u hu => ?_, h.lim, h.limR⟩
  · rw [← h.high q hq hs]
    exact Below.heap_setCell _ _ _ _ (by show q ≠ g; omega)
  · obtain ⟨cs, hc1, hc2⟩ := h.row
    refine ⟨cs, World.ownsRow.kept hc1 (grown_set wr g k _) ?_, hc2⟩
    have := own_ne_block hc1 hlt (by decide)
    rw [hv] at this
    exact this
  · obtain ⟨lu, hlu⟩ := h.vals u hu
    by_cases e : u.val.ownBlock = some g
    · obtain ⟨A, L, C, ev, hL, _, _⟩ := hlu.bs.sl
      rw [ev] at e hlu ⊢
      obtain ⟨A0, rfl⟩ : ∃ A0, A = some A0 := by
        cases A with
        | none => cases e
        | some A0 => exact ⟨A0, rfl⟩
      obtain ⟨_, ⟨h2, _⟩ | ⟨g', cap, cur, h2, _⟩⟩ := id hlu
      · cases h2
      · simp only [Value.slice.injEq, Option.some.injEq] at h2
        obtain ⟨rfl, _, _⟩ := h2
        simp only [Value.ownBlock, Option.some.injEq] at e
        subst e
        refine ⟨lu.set k x, ?_⟩
        have hs := (World.ownsRow.stored (by have h3 := hlu; unfold OwnB at h3; rw [hL] at h3; exact h3) k (.int .u8 (x.toNat : Int))).1
        unfold OwnB
        rw [List.length_set, List.map_set, hL]
        exact hs
    · exact ⟨lu, World.ownsRow.kept hlu (grown_set wr g k _) (.inr e)⟩
theorem MX.cells {ws wr : World} {base top : Nat} {ao : Option Addr} {n c : Nat} {us : List Tg} (h : MX ws wr base top (.slice ao n c) us) (hn : 0 < us.length) :
    ∃ b o, ao = some ⟨b, o, none⟩ ∧ o = 0 ∧ ∀ i (hi : i < us.length), wr.cell? ⟨b, o + i * 2 + 1, none⟩ = some us[i].val ∧ (∃ u, wr.cell? ⟨b, o + i * 2, none⟩ = some u) ∧ wr.frozen? ⟨b, o + i * 2, none⟩ = false := by
  obtain ⟨cs, hc1, hc2⟩ := h.row
  obtain ⟨hl, ⟨h2, _⟩ | ⟨g, cap, cur, h2, h3⟩⟩ := id hc1
  · simp only [Value.slice.injEq] at h2
    obtain ⟨_, h4⟩ := hc1
    have hr := own_rd (⟨hl, h4⟩ : World.ownsRow wr base _ 2 _ us.length cs)
    obtain ⟨_, _, _, ev, _⟩ := hr
    simp only [Value.slice.injEq] at ev
    omega
  · simp only [Value.slice.injEq] at h2
    obtain ⟨rfl, rfl, rfl⟩ := h2
    refine ⟨g, 0, rfl, rfl, fun i hi => ⟨?_, ?_, World.ownsRow.frozenAt hc1 _⟩⟩
    · rw [World.ownsRow.cellAt hc1 _ (by omega), show 0 + i * 2 + 1 = i * 2 + 1 by omega]
      exact hc2 i hi
    · rw [World.ownsRow.cellAt hc1 _ (by omega)]
      exact ⟨_, List.getElem?_eq_getElem (by rw [hl]; omega)⟩
theorem MX.typ {ws wr : World} {base top b o n c i : Nat} {us : List Tg} (h : MX ws wr base top (.slice (some ⟨b, o, none⟩) n c) us) (ho : o = 0) (v : Value) :
    MX ws (wr.setCell ⟨b, o + i * 2, none⟩ v) base top (.slice (some ⟨b, o, none⟩) n c) us := by
  subst ho
  obtain ⟨cs, hc1, hc2⟩ := h.row
  have hb : b < top := h.limR b rfl
  have hbb : base ≤ b := (World.ownsRow.lt hc1 b rfl).1
  have hn : us.length = n := by
    obtain ⟨_, _, _, ev, _⟩ := own_rd hc1
    simp only [Value.slice.injEq] at ev
    exact ev.2.1.symm
  refine ⟨h.low.setCell hbb _, fun q hq hs => ?_, ⟨cs.set (0 + i * 2) v, ?_, fun j hj => ?_⟩, fun u hu => ?_, h.lim, h.limR⟩
  · rw [← h.high q hq hs]
    exact Below.heap_setCell _ _ _ _ (by show q ≠ b; omega)
  · have h1 := hc1
    rw [hn] at h1 ⊢
    exact (World.ownsRow.stored h1 (0 + i * 2) v).1
  · rw [List.getElem?_set_ne (by omega)]
    exact hc2 j hj
  · obtain ⟨lu, hlu⟩ := h.vals u hu
    exact ⟨lu, World.ownsRow.kept hlu (grown_set wr b _ _) (own_ne_block hlu hc1 (by decide))⟩
theorem MX.byte {ws wr : World} {base top : Nat} {lv : Value} {us : List Tg} (h : MX ws wr base top lv us) {t : Tg} (ht : t ∈ us) {g n c k : Nat} (hv : t.val = .slice (some ⟨g, 0, none⟩) n c) (hk : k < n) :
    (∃ z y : UInt8, wr.cell? ⟨g, k, none⟩ = some (.int .u8 (z.toNat : Int)) ∧ bits .xor .u8 (z.toNat : Int) 255 = (y.toNat : Int)) ∧ wr.frozen? ⟨g, k, none⟩ = false := by
  obtain ⟨lt, hlt⟩ := h.vals t ht
  rw [hv] at hlt
  have hl := own_len hlt
  unfold OwnB at hlt
  rw [hl] at hlt
  refine ⟨⟨lt[k]'(by omega), lt[k]'(by omega) ^^^ 255, ?_, ?_⟩, World.ownsRow.frozenAt hlt _⟩
  · rw [World.ownsRow.cellAt hlt _ (by simp; omega), List.getElem?_map, List.getElem?_eq_getElem (by omega)]
    rfl
  · have := u8_xor_nat (lt[k]'(by omega)).toNat 255 (UInt8.toNat_lt _) (by decide)
    rw [show ((255 : Nat) : Int) = 255 from rfl] at this
    rw [this, UInt8.toNat_xor]
    rfl
/-- The blocks of what was made ahead lie lower. -/
theorem TO.lim {w : World} {base : Nat} {v : Value} {us : List Tg} (h : TO w base v us) : (∀ t ∈ us, ∀ g, t.val.ownBlock = some g → g < w.heap.size) ∧ ∀ g, v.ownBlock = some g → g < w.heap.size :=
  ⟨fun t ht g hg => (World.ownsRow.lt (h.vals t ht) g hg).2, fun g hg => (World.ownsRow.lt h.own g hg).2⟩
end Go.Proofs.Ytbldcjngccmhpaa.Ng
