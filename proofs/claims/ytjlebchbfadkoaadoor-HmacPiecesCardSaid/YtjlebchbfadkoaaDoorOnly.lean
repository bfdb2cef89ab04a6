/-
  'Only g': nothing that was there has turned but block g. Whole arrays out of and into the middle of a block.
-/
import Derived.Test.YtjlebchbfadkoaaDoorMake
import Derived.Test.YtjlebchbfadkoaaDoorGrow
namespace Go.Proofs.YtjlebchbfadkoaaDoor
open Go.RowKit
set_option linter.unusedVariables false
set_option linter.unusedSimpArgs false

/-- Nothing that was there has turned but block g. -/
structure Only (g : Nat) (w w' : World) : Prop where
  size : w.heap.size ≤ w'.heap.size
  below : ∀ B w0, B ≤ g → Below B w0 w → Below B w0 w'
  heap : ∀ k, k < w.heap.size → k ≠ g → w'.heap[k]? = w.heap[k]?
theorem Only.refl (g : Nat) (w : World) : Only g w w := ⟨Nat.le_refl _, fun _ _ _ h => h, fun _ _ _ => rfl⟩
theorem Only.trans {g : Nat} {a b c : World} (h : Only g a b) (k : Only g b c) : Only g a c :=
  ⟨Nat.le_trans h.size k.size, fun B w0 hB hb => k.below B w0 hB (h.below B w0 hB hb), fun i hi hn => by rw [k.heap i (Nat.lt_of_lt_of_le hi h.size) hn, h.heap i hi hn]⟩
theorem Only.grown {g : Nat} {w w' : World} (h : Below w.heap.size w w') (hg : g ≤ w.heap.size) : Only g w w' :=
  ⟨h.size, fun B w0 hB hb => hb.trans (h.mono (by omega)), fun k hk _ => h.block k hk⟩
theorem Only.cell {g : Nat} {w w' : World} (h : Only g w w') {p : Addr} {v : Value} (hp : p.block ≠ g) (hc : w.cell? p = some v) : w'.cell? p = some v := by
  rw [World.cell?_of_block (w := w) (h.heap p.block (World.block_lt_of_cell? w _ hc) hp)]; exact hc
theorem Only.setCell {g : Nat} (w : World) (o : Nat) (v : Value) : Only g w (w.setCell ⟨g, o, none⟩ v) :=
  ⟨by simp, fun B w0 hB hb => hb.setCell hB v, fun k _ hk => heap_setCell_other _ _ _ _ hk⟩
/-- A slice stays readable, if its cells lie elsewhere. -/
def Off (g : Nat) (ao : Option Addr) : Prop := ∀ ad, ao = some ad → ad.block ≠ g
theorem Rd.only {w w' : World} {g size n m c : Nat} {ao : Option Addr} {xs : List Value} (h : Rd w size (.slice ao m c) n xs) (ho : Only g w w') (hf : Off g ao) : Rd w' size (.slice ao m c) n xs := by
  obtain ⟨h0, ao', cap, e, h1, h2, h3, h4⟩ := h
  refine ⟨h0, ao', cap, e, h1, h2, h3, fun ad had j u hu => ?_⟩
  simp only [Value.slice.injEq] at e
  refine ho.cell ?_ (h4 ad had j u hu)
  rw [add_block]
  exact hf ad (e.1.trans had)
theorem heap_setCells {g : Nat} {t : TypeId} : ∀ (vs : List Value) (o : Nat) (w : World) (cur : List Value), w.heap[g]? = some (.cells cur.toArray t (0, 0)) → o + vs.length ≤ cur.length →
    (w.setCells g o vs).heap[g]? = some (.cells (splice cur o vs).toArray t (0, 0))
  | [], o, w, cur, h, _ => by simpa [World.setCells, splice] using h
  | v :: r, o, w, cur, h, hl => by
    have h2 : (w.setCell ⟨g, o, none⟩ v).heap[g]? = some (.cells (cur.set o v).toArray t (0, 0)) := by
      rw [heap_setCell_same _ _ _ _ _ _ h]; simp
    have hl' : o + (r.length + 1) ≤ cur.length := by simpa using hl
    rw [World.setCells, heap_setCells r (o + 1) _ _ h2 (by rw [List.length_set]; omega)]
    congr 3
    unfold splice
    apply List.ext_getElem?
    intro i
    simp only [List.getElem?_append, List.getElem?_take, List.getElem?_drop, List.getElem?_set, List.length_take, List.length_set, List.length_cons, List.getElem?_cons]
    by_cases h1 : i < o
    · simp only [h1, if_true, show i < o + 1 by omega, show i < min (o + 1) cur.length by omega, show i < min o cur.length by omega, show ¬ o = i by omega, if_false]
    · by_cases h2 : i = o
      · subst h2
        simp [show i < min (i + 1) cur.length by omega, show ¬ i < min i cur.length by omega, show i < cur.length by omega, show i - min i cur.length = 0 by omega]
      · have m1 : min (o + 1) cur.length = o + 1 := by omega
        have m2 : min o cur.length = o := by omega
        simp only [m1, m2, show ¬ i < o + 1 by omega, h1, if_false, show ¬ i - o = 0 by omega]
        by_cases h3 : i - (o + 1) < r.length
        · simp only [h3, if_true, show i - o < r.length + 1 by omega, show i - o - 1 = i - (o + 1) by omega]
        · simp only [h3, if_false, show ¬ i - o < r.length + 1 by omega]
          rw [if_neg (by omega)]
          congr 1
          omega
theorem only_setCells {g : Nat} : ∀ (vs : List Value) (o : Nat) (w : World), Only g w (w.setCells g o vs)
  | [], o, w => Only.refl g w
  | v :: r, o, w => (Only.setCell w o v).trans (only_setCells r (o + 1) _)
section
variable {P : Program}
/-- A whole array into the middle of a block, as an operation. -/
theorem wp_store_splice {op : Oper} {a : Act} {w : World} {K : Act → World → Prop} {Q : Exit → Act → World → Prop} (d : Option Tmp) (ty : TypeId) (x y : Operand) (ho : op.op = .store ty x y)
    (g o : Nat) (cs : List Value) (hx : a.eval x = .pointer (some ⟨g, o, none⟩)) (hy : a.eval y = .agg cs.toArray) (t : TypeId) (cur : List Value) (hg : w.heap[g]? = some (.cells cur.toArray t (0, 0)))
    (hi : (P.info? ty).map (·.size) = some cs.length) (hfit : o + cs.length ≤ cur.length) (h1 : ∀ v ∈ cs, v.oneCell' = true) (hd : op.dst = d)
    (h : ∀ w', w'.heap[g]? = some (.cells (splice cur o cs).toArray t (0, 0)) → Only g w w' → K (a.put d undef) w') : op.wp P a w K Q := by
  refine wp_store_mid ty x y ho g o cs.toArray hx hy ?_ (by simpa using hi) (all_oneCell_toArray h1) ?_
  · intro j hj
    have hj' : j < cs.length := by simpa using hj
    rw [cell_of_row _ _ _ _ _ _ hg, frozen_of_row _ _ _ _ _ hg]
    exact ⟨by simp; omega, rfl⟩
  · subst hd
    exact h _ (heap_setCells _ _ _ _ hg hfit) (only_setCells _ _ _)
/-- A whole array out of the middle of a block. -/
theorem load_mid_run {o : Oper} {a : Act} {w : World} (ty : TypeId) (x : Operand) (ho : o.op = .load ty x)
    (g off : Nat) (hx : a.eval x = .pointer (some ⟨g, off, none⟩)) (cs : List Value) (d : TypeDesc) (hc : w.rangeAt g off cs)
    (hu : P.underlying ty = some d) (hd : d.isRow = true) (hi : (P.info? ty).map (·.size) = some cs.length) :
    (execOp a.eval o).run P w = .ok (.value (.agg cs.toArray)) w := by
  unfold execOp
  simp only [ho, hx, Instr.loadAt, Instr.sureAddr, Sem.run_bind, Sem.run_pure, Result.andThen_ok, run_loadVar_mid w g off ty cs d hc hu hd hi]
/-- 'copy' into the middle of a block, as an operation. -/
theorem wp_copy_only {o : Oper} {a : Act} {w : World} {K : Act → World → Prop} {Q : Exit → Act → World → Prop} (ds : Option Tmp) (d s : Operand) (dT sT : TypeId)
    (ho : o.op = .call { callee := .builtin .copy, args := #[d, s], argTypes := #[dT, sT] }) (elem : TypeId) (hu : P.underlying dT = some (.slice elem)) (hsz : (P.info? elem).map (·.size) = some 1)
    (g off dLen dCap : Nat) (sp : Option Addr) (sLen sCap : Nat) (hd : a.eval d = .slice (some ⟨g, off, none⟩) dLen dCap) (hs : a.eval s = .slice sp sLen sCap)
    (cur : List Value) (t : TypeId) (hg : w.heap[g]? = some (.cells cur.toArray t (0, 0))) (cs : List Value) (hn : cs.length = Nat.min sLen dLen)
    (hpos : 0 < cs.length → ∃ ad, sp = some ad ∧ ∀ j v, cs[j]? = some v → w.cell? (ad.add j) = some v)
    (hfit : off + cs.length ≤ cur.length) (h1 : ∀ v ∈ cs, v.oneCell' = true) (hds : o.dst = ds)
    (h : ∀ w', w'.heap[g]? = some (.cells (splice cur off cs).toArray t (0, 0)) → Only g w w' → K (a.put ds (goInt cs.length)) w') : o.wp P a w K Q :=
  wp_copy_row d s dT sT ho elem hu hsz g off dLen dCap sp sLen sCap hd hs cur t hg cs hn hpos hfit h1 fun w' k1 k2 k3 => by
    subst hds
    refine h w' k1 ⟨?_, k2, fun k _ hk => k3 k hk⟩
    exact (k2 g w (Nat.le_refl _) (Below.refl _ _)).size
end
end Go.Proofs.YtjlebchbfadkoaaDoor
