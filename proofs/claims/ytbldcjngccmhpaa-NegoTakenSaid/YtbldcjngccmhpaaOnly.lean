/-
  'Only g': nothing that was there has turned but block g. Whole arrays out of and into the middle of a block.
-/
import Derived.Test.YtbldcjngccmhpaaMake
import Derived.Test.YtbldcjngccmhpaaGrow
namespace Go.Proofs.Ytbldcjngccmhpaa
open Go.RowKit
set_option linter.unusedVariables false
set_option linter.unusedSimpArgs false

/-- Nothing that was there has turned but block g. -/
structure Only (g : Nat) (w w' : World) : Prop where
  size : w.heap.size ≤ w'.heap.size
  below : ∀ B w0, B ≤ g → Below B w0 w → Below B w0 w'
  heap : ∀ k, k < w.heap.size → k ≠ g → w'.heap[k]? = w.heap[k]?
theorem Only.refl (g : Nat) (w : World) : Only g w w := ⟨Nat.le_refl _, fun _ _ _ h => h, fun _ _ _ => rfl⟩
theorem Only.trans {g : Nat} {a b c : World} (h : Only g a b) (k : Only g b c) : Only g a c :=
  ⟨Nat.le_trans h.size k.size, fun B w0 hB hb => k.below B w0 hB (h.below B w0 hB hb), fun i hi hn => by rw [k.heap i (Nat.lt_of_lt_of_le hi h.size) hn, h.heap i hi hn]⟩
theorem Only.grown {g : Nat} {w w' : World} (h : Below w.heap.size w w') (hg : g ≤ w.heap.size) : Only g w w' :=
  ⟨h.size, fun B w0 hB hb => hb.trans (h.mono (by omega)), fun k hk _ => h.block k hk⟩
theorem Only.cell {g : Nat} {w w' : World} (h : Only g w w') {p : Addr} {v : Value} (hp : p.block ≠ g) (hc : w.cell? p = some v) : w'.cell? p = some v := by
  rw [World.cell?_of_block (w := w) (h.heap p.block (World.block_lt_of_cell? w _ hc) hp)]; exact hc
theorem Only.setCell {g : Nat} (w : World) (o : Nat) (v : Value) : Only g w (w.setCell ⟨g, o, none⟩ v) :=
  ⟨by simp, fun B w0 hB hb => hb.setCell hB v, fun k _ hk => heap_setCell_other _ _ _ _ hk⟩
/-- What is owned stays owned, if the block that turns lies lower. -/
theorem ownsRow_only {g : Nat} {w w' : World} {base : Nat} {e : TypeId} {size n : Nat} {v : Value} {xs : List Value} (h : w.ownsRow base e size v n xs) (ho : Only g w w') (hg : g < base) : w'.ownsRow base e size v n xs := by
  refine ⟨h.1, ?_⟩
  rcases h.2 with h | ⟨k, cap, cur, h1, h2, h3, h4⟩
  · exact .inl h
  · refine .inr ⟨k, cap, cur, h1, h2, ?_, h4⟩
    rw [ho.heap k (Array.getElem?_eq_some_iff.1 h3).1 (by omega)]
    exact h3
theorem OwnB.only {g : Nat} {w w' : World} {base : Nat} {e : TypeId} {v : Value} {l : List UInt8} (h : OwnB w base e v l) (ho : Only g w w') (hg : g < base) : OwnB w' base e v l := ownsRow_only h ho hg
/-- What is owned stays owned, if another block turns. -/
theorem OwnB.off {g : Nat} {w w' : World} {base : Nat} {e : TypeId} {v : Value} {l : List UInt8} (h : OwnB w base e v l) (ho : Only g w w') (hg : ∀ k, v.ownBlock = some k → k ≠ g) : OwnB w' base e v l := by
  refine ⟨h.1, ?_⟩
  rcases h.2 with h | ⟨k, cap, cur, h1, h2, h3, h4⟩
  · exact .inl h
  · refine .inr ⟨k, cap, cur, h1, h2, ?_, h4⟩
    rw [ho.heap k (Array.getElem?_eq_some_iff.1 h3).1 (hg k (by rw [h1]; rfl))]
    exact h3
/-- A slice stays readable, if its cells lie elsewhere. -/
def Off (g : Nat) (ao : Option Addr) : Prop := ∀ ad, ao = some ad → ad.block ≠ g
theorem Rd.only {w w' : World} {g size n m c : Nat} {ao : Option Addr} {xs : List Value} (h : Rd w size (.slice ao m c) n xs) (ho : Only g w w') (hf : Off g ao) : Rd w' size (.slice ao m c) n xs := by
  obtain ⟨h0, ao', cap, e, h1, h2, h3, h4⟩ := h
  refine ⟨h0, ao', cap, e, h1, h2, h3, fun ad had j u hu => ?_⟩
  simp only [Value.slice.injEq] at e
  refine ho.cell ?_ (h4 ad had j u hu)
  rw [add_block]
  exact hf ad (e.1.trans had)
theorem heap_setCells {g : Nat} {t : TypeId} : ∀ (vs : List Value) (o : Nat) (w : World) (cur : List Value), w.heap[g]? = some (.cells cur.toArray t (0, 0)) → o + vs.length ≤ cur.length →
    (w.setCells g o vs).heap[g]? = some (.cells (splice cur o vs).toArray t (0, 0))
  | [], o, w, cur, h, _ => by simpa [World.setCells, splice] using h
  | v :: r, o, w, cur, h, hl => by
    have h2 : (w.setCell ⟨g, o, none⟩ v).heap[g]? = some (.cells (cur.set o v).toArray t (0, 0)) := by
      rw [heap_setCell_same _ _ _ _ _ _ h]; simp
    have hl' : o + (r.length + 1) ≤ cur.length := by simpa using hl
    rw [World.setCells, heap_setCells r (o + 1) _ _ h2 (by rw [List.length_set]; omega)]
    congr 3
    unfold splice
    apply List.ext_getElem?
    intro i
    simp only [List.getElem?_append, List.getElem?_take, List.getElem?_drop, List.getElem?_set, List.length_take, List.length_set, List.length_cons, List.getElem?_cons]
    by_cases h1 : i < o
    · simp only [h1, if_true, show i < o + 1 by omega, show i < min (o + 1) cur.length by omega, show i < min o cur.length by omega, show ¬ o = i by omega, if_false]
    · by_cases h2 : i = o
      · subst h2
        simp [show i < min (i + 1) cur.length by omega, show ¬ i < min i cur.length by omega, show i < cur.length by omega, show i - min i cur.length = 0 by omega]
      · have m1 : min (o + 1) cur.length = o + 1 := by omega
        have m2 : min o cur.length = o := by omega
        simp only [m1, m2, show ¬ i < o + 1 by omega, h1, if_false, show ¬ i - o = 0 by omega]
        by_cases h3 : i - (o + 1) < r.length
        · simp only [h3, if_true, show i - o < r.length + 1 by omega, show i - o - 1 = i - (o + 1) by omega]
        · simp only [h3, if_false, show ¬ i - o < r.length + 1 by omega]
          rw [if_neg (by omega)]
          congr 1
          omega
theorem only_setCells {g : Nat} : ∀ (vs : List Value) (o : Nat) (w : World), Only g w (w.setCells g o vs)
  | [], o, w => Only.refl g w
  | v :: r, o, w => (Only.setCell w o v).trans (only_setCells r (o + 1) _)
section
variable {P : Program}
/-- A whole array into the middle of a block, as an operation. -/
theorem wp_store_splice {op : Oper} {a : Act} {w : World} {K : Act → World → Prop} {Q : Exit → Act → World → Prop} (d : Option Tmp) (ty : TypeId) (x y : Operand) (ho : op.op = .store ty x y)
    (g o : Nat) (cs : List Value) (hx : a.eval x = .pointer (some ⟨g, o, none⟩)) (hy : a.eval y = .agg cs.toArray) (t : TypeId) (cur : List Value) (hg : w.heap[g]? = some (.cells cur.toArray t (0, 0)))
    (hi : (P.info? ty).map (·.size) = some cs.length) (hfit : o + cs.length ≤ cur.length) (h1 : ∀ v ∈ cs, v.oneCell' = true) (hd : op.dst = d)
    (h : ∀ w', w'.heap[g]? = some (.cells (splice cur o cs).toArray t (0, 0)) → Only g w w' → K (a.put d undef) w') : op.wp P a w K Q := by
  refine wp_store_mid ty x y ho g o cs.toArray hx hy ?_ (by simpa using hi) (all_oneCell_toArray h1) ?_
  · intro j hj
    have hj' : j < cs.length := by simpa using hj
    rw [cell_of_row _ _ _ _ _ _ hg, frozen_of_row _ _ _ _ _ hg]
    exact ⟨by simp; omega, rfl⟩
  · subst hd
    exact h _ (heap_setCells _ _ _ _ hg hfit) (only_setCells _ _ _)
/-- A whole array out of the middle of a block. -/
theorem load_mid_run {o : Oper} {a : Act} {w : World} (ty : TypeId) (x : Operand) (ho : o.op = .load ty x)
    (g off : Nat) (hx : a.eval x = .pointer (some ⟨g, off, none⟩)) (cs : List Value) (d : TypeDesc) (hc : w.rangeAt g off cs)
    (hu : P.underlying ty = some d) (hd : d.isRow = true) (hi : (P.info? ty).map (·.size) = some cs.length) :
    (execOp a.eval o).run P w = .ok (.value (.agg cs.toArray)) w := by
  unfold execOp
  simp only [ho, hx, Instr.loadAt, Instr.sureAddr, Sem.run_bind, Sem.run_pure, Result.andThen_ok, run_loadVar_mid w g off ty cs d hc hu hd hi]
/-- 'copy' into the middle of a block, as an operation. -/
theorem wp_copy_only {o : Oper} {a : Act} {w : World} {K : Act → World → Prop} {Q : Exit → Act → World → Prop} (ds : Option Tmp) (d s : Operand) (dT sT : TypeId)
    (ho : o.op = .call { callee := .builtin .copy, args := #[d, s], argTypes := #[dT, sT] }) (elem : TypeId) (hu : P.underlying dT = some (.slice elem)) (hsz : (P.info? elem).map (·.size) = some 1)
    (g off dLen dCap : Nat) (sp : Option Addr) (sLen sCap : Nat) (hd : a.eval d = .slice (some ⟨g, off, none⟩) dLen dCap) (hs : a.eval s = .slice sp sLen sCap)
    (cur : List Value) (t : TypeId) (hg : w.heap[g]? = some (.cells cur.toArray t (0, 0))) (cs : List Value) (hn : cs.length = Nat.min sLen dLen)
    (hpos : 0 < cs.length → ∃ ad, sp = some ad ∧ ∀ j v, cs[j]? = some v → w.cell? (ad.add j) = some v)
    (hfit : off + cs.length ≤ cur.length) (h1 : ∀ v ∈ cs, v.oneCell' = true) (hds : o.dst = ds)
    (h : ∀ w', w'.heap[g]? = some (.cells (splice cur off cs).toArray t (0, 0)) → Only g w w' → K (a.put ds (goInt cs.length)) w') : o.wp P a w K Q :=
  wp_copy_row d s dT sT ho elem hu hsz g off dLen dCap sp sLen sCap hd hs cur t hg cs hn hpos hfit h1 fun w' k1 k2 k3 => by
    subst hds
    refine h w' k1 ⟨?_, k2, fun k _ hk => k3 k hk⟩
    exact (k2 g w (Nat.le_refl _) (Below.refl _ _)).size
end
/-- 'copy' into the middle of a block, in a list of operations. -/
theorem wpList_copy_only {P : Program} {ops : Array Oper} {rest : List Oper} {o : Oper} {a : Act} {w : World} {Q : Exit → Act → World → Prop} (hgd : o.guard = none) (d s : Operand) (dT sT : TypeId)
    (ho : o.op = .call { callee := .builtin .copy, args := #[d, s], argTypes := #[dT, sT] }) (elem : TypeId) (hu : P.underlying dT = some (.slice elem)) (hsz : (P.info? elem).map (·.size) = some 1)
    (g off dLen dCap : Nat) (sp : Option Addr) (sLen sCap : Nat) (hd : a.eval d = .slice (some ⟨g, off, none⟩) dLen dCap) (hs : a.eval s = .slice sp sLen sCap)
    (cur : List Value) (t : TypeId) (hg : w.heap[g]? = some (.cells cur.toArray t (0, 0))) (cs : List Value) (hn : cs.length = Nat.min sLen dLen)
    (hpos : 0 < cs.length → ∃ ad, sp = some ad ∧ ∀ j v, cs[j]? = some v → w.cell? (ad.add j) = some v)
    (hfit : off + cs.length ≤ cur.length) (h1 : ∀ v ∈ cs, v.oneCell' = true)
    (h : ∀ w', w'.heap[g]? = some (.cells (splice cur off cs).toArray t (0, 0)) → Only g w w' → wpList P ops Q rest (a.put o.dst (goInt cs.length)) w') : wpList P ops Q (o :: rest) a w :=
  wpList_plain hgd fun K hK => wp_copy_only o.dst d s dT sT ho elem hu hsz g off dLen dCap sp sLen sCap hd hs cur t hg cs hn hpos hfit h1 rfl fun w' k1 k2 => hK _ _ (h w' k1 k2)
section
variable {P : Program}
theorem run_storeVar_cell (w : World) (g o : Nat) (ty : TypeId) (v : Value) (ht : w.there g o 1) (hi : (P.info? ty).map (·.size) = some 1) (h1 : v.oneCell' = true) : (storeVar ty ⟨g, o, none⟩ v).run P w = .ok () (w.setCells g o [v]) := by
  have hc : v.cells = #[v] := by cases v <;> first | rfl | cases h1
  have := run_storeVar_mid (P := P) w g o ty #[v] ht hi (by simpa using h1)
  unfold storeVar at this ⊢
  rw [hc]
  exact this
/-- A struct or an array out of parts. -/
theorem build_run {o : Oper} {a : Act} {w : World} (t : TypeId) (parts : List (Nat × Operand)) (ho : o.op = .build t parts.toArray) (cells : Array Value) (hf : P.built t (parts.map fun (i, x) => (i, a.eval x)) = some cells) :
    (execOp a.eval o).run P w = .ok (.value (.agg cells)) w := by
  have hf' : P.built t (parts.toArray.map fun (i, x) => (i, a.eval x)).toList = some cells := by rw [List.map_toArray]; exact hf
  unfold execOp
  simp only [ho, Sem.run_bind, run_build w t _ cells hf', Result.andThen_ok, Sem.run_pure]
/-- 'append(s, x...)': s the call's own, x whatever, as an operation. -/
theorem wp_append_rd (w : World) {o : Oper} {a : Act} {K : Act → World → Prop} {Q : Exit → Act → World → Prop} (d : Option Tmp) (s x : Operand) (t : TypeId)
    (ho : o.op = .call { callee := .builtin .append, args := #[s, x], argTypes := #[t, t] })
    (base : Nat) (e : TypeId) (i : TypeInfo) (z : Value) (size bytes : Nat) (ht : P.underlying t = some (.slice e)) (hi : P.info? e = some i) (hz : i.zero = some z)
    (hsize : i.size = size) (hby : i.bytes = bytes) (hzs : z.cells.size = size) (hsz : 0 < size)
    (v : Value) (n : Nat) (xs : List Value) (hs : a.eval s = v) (hown : w.ownsRow base e size v n xs)
    (y : Value) (m : Nat) (ys : List Value) (hx : a.eval x = y) (hy : Rd w size y m ys) (h1 : ∀ u ∈ ys, u.oneCell' = true)
    (hbytes : (n + m) * bytes ≤ 140737488355328) (hb1 : 0 < bytes) (hbase : base ≤ w.heap.size) (hd : o.dst = d)
    (h : ∀ v' w', w'.ownsRow base e size v' (n + m) (xs ++ ys) → Below base w w' → K (a.put d v') w') : o.wp P a w K Q := by
  have h63 : n + m ≤ maxLen := by
    have : n + m ≤ (n + m) * bytes := Nat.le_mul_of_pos_right _ hb1
    unfold maxLen; omega
  subst hd
  obtain ⟨h0, ao, cap, rfl, g1, g2, g3, g4⟩ := hy
  cases ao with
  | none =>
    have := g3 rfl
    subst this
    have hm : m = 0 := by omega
    subst hm
    have hl : ys = [] := List.eq_nil_of_length_eq_zero (by simpa using h0)
    subst hl
    have hrun := run_append_owned_none (P := P) (w := w) base t o.type e i size ht hi v n xs hown
    unfold Oper.wp
    simp [execOp, ho, resolve, invoke, builtin, hs, hx, hrun, Result.andThen]
    exact h v w (by simpa using hown) (Below.refl _ _)
  | some ad =>
    refine wp_append_own w s x t ho base e i z size bytes ht hi hz hsize hby hzs hsz v n xs hs hown ad m cap ys hx h0 (g4 ad rfl) h1 h63 hbytes hbase fun v' w' k1 k2 k3 => ?_
    exact h v' w' k1 ((Below.refl _ _).grown k2 hbase fun k hk => (hown.lt k hk).1)
theorem drew_size (w : World) : w.drew.heap.size = w.heap.size := rfl
/-- A whole array into the middle of a block, in a list of operations. -/
theorem wpList_store_splice {ops : Array Oper} {rest : List Oper} {op : Oper} {a : Act} {w : World} {Q : Exit → Act → World → Prop} (hgd : op.guard = none) (ty : TypeId) (x y : Operand) (ho : op.op = .store ty x y)
    (g o : Nat) (cs : List Value) (hx : a.eval x = .pointer (some ⟨g, o, none⟩)) (hy : a.eval y = .agg cs.toArray) (t : TypeId) (cur : List Value) (hg : w.heap[g]? = some (.cells cur.toArray t (0, 0)))
    (hi : (P.info? ty).map (·.size) = some cs.length) (hfit : o + cs.length ≤ cur.length) (h1 : ∀ v ∈ cs, v.oneCell' = true)
    (h : ∀ w', w'.heap[g]? = some (.cells (splice cur o cs).toArray t (0, 0)) → Only g w w' → wpList P ops Q rest (a.put op.dst undef) w') : wpList P ops Q (op :: rest) a w :=
  wpList_plain hgd fun K hK => wp_store_splice op.dst ty x y ho g o cs hx hy t cur hg hi hfit h1 rfl fun w' k1 k2 => hK _ _ (h w' k1 k2)
/-- One cell into the middle of a block, as an operation. -/
theorem wp_store_cell {op : Oper} {a : Act} {w : World} {K : Act → World → Prop} {Q : Exit → Act → World → Prop} (d : Option Tmp) (ty : TypeId) (x y : Operand) (ho : op.op = .store ty x y)
    (g o : Nat) (v : Value) (hx : a.eval x = .pointer (some ⟨g, o, none⟩)) (hy : a.eval y = v) (t : TypeId) (cur : List Value) (hg : w.heap[g]? = some (.cells cur.toArray t (0, 0)))
    (hi : (P.info? ty).map (·.size) = some 1) (hfit : o < cur.length) (h1 : v.oneCell' = true) (hd : op.dst = d)
    (h : ∀ w', w'.heap[g]? = some (.cells (cur.set o v).toArray t (0, 0)) → Only g w w' → K (a.put d undef) w') : op.wp P a w K Q := by
  have ht : w.there g o 1 := by
    intro j hj
    rw [cell_of_row _ _ _ _ _ _ hg, frozen_of_row _ _ _ _ _ hg]
    exact ⟨by simp; omega, rfl⟩
  unfold Oper.wp execOp
  simp only [ho, hx, hy, Instr.storeAt, Instr.sureAddr, Sem.run_bind, Sem.run_pure, Result.andThen_ok, run_storeVar_cell w g o ty v ht hi h1]
  subst hd
  exact h _ (by simpa [World.setCells] using heap_setCell_same w g o cur.toArray t v hg) (Only.setCell w o v)
/-- One cell into the middle of a block, in a list of operations. -/
theorem wpList_store_cell {ops : Array Oper} {rest : List Oper} {op : Oper} {a : Act} {w : World} {Q : Exit → Act → World → Prop} (hgd : op.guard = none) (ty : TypeId) (x y : Operand) (ho : op.op = .store ty x y)
    (g o : Nat) (v : Value) (hx : a.eval x = .pointer (some ⟨g, o, none⟩)) (hy : a.eval y = v) (t : TypeId) (cur : List Value) (hg : w.heap[g]? = some (.cells cur.toArray t (0, 0)))
    (hi : (P.info? ty).map (·.size) = some 1) (hfit : o < cur.length) (h1 : v.oneCell' = true)
    (h : ∀ w', w'.heap[g]? = some (.cells (cur.set o v).toArray t (0, 0)) → Only g w w' → wpList P ops Q rest (a.put op.dst undef) w') : wpList P ops Q (op :: rest) a w :=
  wpList_plain hgd fun K hK => wp_store_cell op.dst ty x y ho g o v hx hy t cur hg hi hfit h1 rfl fun w' k1 k2 => hK _ _ (h w' k1 k2)
/-- A whole row into a block of its own, as an operation. -/
theorem wp_store_whole {op : Oper} {a : Act} {w : World} {K : Act → World → Prop} {Q : Exit → Act → World → Prop} (d : Option Tmp) (ty : TypeId) (x y : Operand) (ho : op.op = .store ty x y)
    (g : Nat) (cs : List Value) (hx : a.eval x = .pointer (some ⟨g, 0, none⟩)) (hy : a.eval y = .agg cs.toArray) (t : TypeId) (cur : List Value) (hg : w.heap[g]? = some (.cells cur.toArray t (0, 0)))
    (hi : (P.info? ty).map (·.size) = some cs.length) (hn : cs.length = cur.length) (h1 : ∀ v ∈ cs, v.oneCell' = true) (hd : op.dst = d)
    (h : ∀ w', w'.heap[g]? = some (.cells cs.toArray t (0, 0)) → Only g w w' → K (a.put d undef) w') : op.wp P a w K Q :=
  wp_store_splice d ty x y ho g 0 cs hx hy t cur hg hi (by omega) h1 hd fun w' k1 k2 => h w' (by
    have e : splice cur 0 cs = cs := by unfold splice; rw [List.take_zero, List.nil_append, Nat.zero_add, List.drop_of_length_le (by omega), List.append_nil]
    rwa [e] at k1) k2
theorem wpList_store_whole {ops : Array Oper} {rest : List Oper} {op : Oper} {a : Act} {w : World} {Q : Exit → Act → World → Prop} (hgd : op.guard = none) (ty : TypeId) (x y : Operand) (ho : op.op = .store ty x y)
    (g : Nat) (cs : List Value) (hx : a.eval x = .pointer (some ⟨g, 0, none⟩)) (hy : a.eval y = .agg cs.toArray) (t : TypeId) (cur : List Value) (hg : w.heap[g]? = some (.cells cur.toArray t (0, 0)))
    (hi : (P.info? ty).map (·.size) = some cs.length) (hn : cs.length = cur.length) (h1 : ∀ v ∈ cs, v.oneCell' = true)
    (h : ∀ w', w'.heap[g]? = some (.cells cs.toArray t (0, 0)) → Only g w w' → wpList P ops Q rest (a.put op.dst undef) w') : wpList P ops Q (op :: rest) a w :=
  wpList_plain hgd fun K hK => wp_store_whole op.dst ty x y ho g cs hx hy t cur hg hi hn h1 rfl fun w' k1 k2 => hK _ _ (h w' k1 k2)
end
end Go.Proofs.Ytbldcjngccmhpaa
