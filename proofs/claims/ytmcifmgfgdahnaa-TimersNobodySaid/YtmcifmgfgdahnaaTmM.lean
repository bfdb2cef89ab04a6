/-
  A map of ints to ints in memory, as a function; rows of pairs; a queue's block, its row, its places.
-/
import Derived.Test.YtmcifmgfgdahnaaTmP
import Derived.Test.YtmcifmgfgdahnaaIdM
import Derived.Maps.OwnSet
namespace Go.Proofs.Ytmcifmgfgdahnaa.Tm
open Go.RowKit
open Go.Maps (Keyed)
open Go.Proofs.Ytmcifmgfgdahnaa.Id (Tr Tr.refl Tr.gr Tr.only blk own_blk flatR flatR_len flatR_get flatR_cons flatR_append flatR_cell RR)
set_option linter.unusedVariables false
set_option linter.unusedSimpArgs false

theorem wrap64_in {n : Int} (h0 : -9223372036854775808 ≤ n) (h1 : n ≤ 9223372036854775807) : wrap64 n = n := by unfold wrap64; omega
/-! A map of ints. -/
def I64 (k : Int) : Prop := -9223372036854775808 ≤ k ∧ k ≤ 9223372036854775807
theorem I64.wf {k : Int} (h : I64 k) : (Lit.int .i64 k).wf = true := by
  show (decide (-9223372036854775808 ≤ k) && decide (k ≤ 9223372036854775807)) = true
  simp [h.1, h.2]
theorem law : Keyed Try.prog 3 := Maps.int_keyed Try.underlying3
theorem keyI {k : Int} (h : I64 k) : keyOf Try.prog 3 (.int .i64 k) = some (.int .i64 k) := Maps.keyOf_int_mk Try.underlying3 h.wf
theorem zeroI (w : World) : (zeroValue 3).run Try.prog w = .ok (.int .i64 0) w := by kernel_rfl
/-- Block b is a map of n entries that reads as f. -/
def FM (w : World) (b : Nat) (f : Int → Option Nat) (n : Nat) : Prop :=
  ∃ D, w.ownsMap Try.prog 3 (plainElem (H := Unit) Try.prog 3) b n D ∧ Maps.size D = n ∧ ∀ k, I64 k → Maps.has D (.int .i64 k) = (f k).isSome ∧ D.atKey (.int .i64 k) (.lit (.int .i64 0)) = .lit (.int .i64 (((f k).getD 0 : Nat) : Int))
theorem own_tight {w : World} {b n : Nat} {D : DataW Unit} (h : w.ownsMap Try.prog 3 (plainElem Try.prog 3) b n D) : w.ownsMap Try.prog 3 (plainElem Try.prog 3) b (Maps.size D) D := by
  obtain ⟨es, clock, h1, h2, h3, h4⟩ := h
  refine ⟨es, clock, h1, h2, ?_, h4⟩
  rw [h4, Maps.size_eq, length_sorted]
  simp
theorem isKey (k : Int) : WideAt.IsKeyLit (.int .i64 k) := by unfold WideAt.IsKeyLit; trivial
theorem FM.lt {w : World} {b n : Nat} {f : Int → Option Nat} (h : FM w b f n) : b < w.heap.size := by
  obtain ⟨D, h1, _⟩ := h
  exact h1.lt
theorem FM.keep {w w' : World} {b n : Nat} {f : Int → Option Nat} (h : FM w b f n) (hb : w'.heap[b]? = w.heap[b]?) : FM w' b f n := by
  obtain ⟨D, ⟨a, c, h1, h2⟩, h3⟩ := h
  exact ⟨D, ⟨a, c, hb.trans h1, h2⟩, h3⟩
theorem FM.made (w : World) : FM (w.alloc (.map #[] 0)) w.heap.size (fun _ => none) 0 :=
  ⟨.map [], World.ownsMap_made _ _ _ _, rfl, fun k hk => ⟨rfl, rfl⟩⟩
theorem FM.copy {w : World} {b n : Nat} {f : Int → Option Nat} (h : FM w b f n) : ∃ a c, w.heap[b]? = some (.map a c) ∧ ∀ w' b', w'.heap[b']? = some (.map a c) → FM w' b' f n := by
  obtain ⟨D, ⟨a, c, h1, h2, h4, h5⟩, h3⟩ := h
  exact ⟨a, c, h1, fun w' b' hb => ⟨D, ⟨a, c, hb, h2, h4, h5⟩, h3⟩⟩
/-- 'i, ok := m[k]'. -/
theorem FM.look {w : World} {b n : Nat} {f : Int → Option Nat} (h : FM w b f n) {k : Int} (hk : I64 k) :
    (Instr.lookup 60 (.map (some b)) (.int .i64 k) true).run Try.prog w = .ok (.tuple #[.int .i64 (((f k).getD 0 : Nat) : Int), .bool (f k).isSome]) w := by
  obtain ⟨D, ho, hs, hf⟩ := h
  obtain ⟨v, ps, h1, h2⟩ := ho.look_ok law Try.underlying60 (zeroI w) (plainElem_int Try.underlying3 (a := 0) (by decide)) (keyI hk)
  obtain ⟨c, rfl, h3, h4⟩ := plainElem_int_inv Try.underlying3 h2
  obtain ⟨g1, g2⟩ := hf k hk
  have h5 := congrArg Prod.fst h3
  simp only at h5
  rw [g2] at h5
  have h6 : (((f k).getD 0 : Nat) : Int) = c := by simpa using h5
  rw [← h6, g1] at h1
  exact h1
/-- 'm[k] = i'. -/
theorem FM.set {w : World} {b n : Nat} {f : Int → Option Nat} (h : FM w b f n) {k : Int} (hk : I64 k) {i : Nat} (hi : (i : Int) ≤ 9223372036854775807) (hn : n < maxLen) :
    ∃ w', (Instr.mapUpdate 60 (.map (some b)) (.int .i64 k) (.int .i64 (i : Int))).run Try.prog w = .ok () w' ∧ FM w' b (upd f k (some i)) (if (f k).isSome then n else n + 1) ∧ w.mapTurned w' b := by
  obtain ⟨D, ho, hs, hf⟩ := h
  have hw : (Lit.int .i64 (i : Int)).wf = true := I64.wf ⟨by omega, hi⟩
  obtain ⟨w', hr, ho', ht⟩ := ho.store law Try.underlying60 hn (keyI hk) (plainElem_int Try.underlying3 hw)
  have hT := ho.tidy law
  have hsz := Maps.size_put (k := .int .i64 k) hT (DataW.lit (.int .i64 (i : Int)))
  rw [(hf k hk).1, hs] at hsz
  refine ⟨w', hr, ⟨_, ?_, hsz, fun x hx => ?_⟩, ht⟩
  · rw [← hsz]; exact own_tight ho'
  · unfold upd
    by_cases e : x = k
    · subst e
      rw [if_pos rfl, Maps.has_put_same hT.isMap (isKey _), Maps.atKey_put_same hT.isMap (isKey _)]
      exact ⟨rfl, rfl⟩
    · have hne : Lit.int .i64 x ≠ Lit.int .i64 k := fun h => e (by simpa using h)
      rw [if_neg e, Maps.has_put_other hne, Maps.atKey_put_other hne]
      exact hf x hx
/-- 'delete(m, k)'. -/
theorem FM.del {w : World} {b n : Nat} {f : Int → Option Nat} (h : FM w b f (n + 1)) {k : Int} (hk : I64 k) (hs : (f k).isSome = true) (ty : TypeId) :
    ∃ w', (Builtin.delete_ #[60, 3] ty #[.map (some b), .int .i64 k]).run Try.prog w = .ok (.tuple #[]) w' ∧ FM w' b (upd f k none) n ∧ w.mapTurned w' b := by
  obtain ⟨D, ho, hsz, hf⟩ := h
  obtain ⟨w', hr, ho', ht⟩ := ho.drop law Try.underlying60 (keyI hk) ty
  have hT := ho.tidy law
  have hsz2 := Maps.size_del (k := .int .i64 k) hT
  rw [(hf k hk).1, hs, if_pos rfl, hsz] at hsz2
  have e1 : Maps.size (D.del (.int .i64 k)) = n := by omega
  refine ⟨w', hr, ⟨_, ?_, e1, fun x hx => ?_⟩, ht⟩
  · rw [← e1]; exact own_tight ho'
  · unfold upd
    by_cases e : x = k
    · subst e
      rw [if_pos rfl, Maps.has_del_same, Maps.atKey_del_same]
      exact ⟨rfl, rfl⟩
    · have hne : Lit.int .i64 x ≠ Lit.int .i64 k := fun h => e (by simpa using h)
      rw [if_neg e, Maps.has_del_other hne, Maps.atKey_del_other hne]
      exact hf x hx
theorem turned_tr {w w' : World} {b : Nat} (h : w.mapTurned w' b) : Tr [b] w w' := by
  have g := h.grown
  exact ⟨g.os, g.tape, g.output, g.size, fun k hk hn => g.block k hk fun e => hn (by rw [Option.some.inj e]; simp)⟩
section
variable {o : Oper} {a : Act} {w : World} {K : Act → World → Prop} {Q : Exit → Act → World → Prop}
theorem wp_mapUpdate_fm (d : Option Tmp) (m x v : Operand) (ho : o.op = .mapUpdate 60 m x v) (b n : Nat) (f : Int → Option Nat) (k : Int) (i : Nat) (hm : a.eval m = .map (some b)) (hx : a.eval x = .int .i64 k) (hv : a.eval v = .int .i64 (i : Int))
    (h : FM w b f n) (hk : I64 k) (hi : (i : Int) ≤ 9223372036854775807) (hn : n < maxLen) (hd : o.dst = d)
    (hK : ∀ w', FM w' b (upd f k (some i)) (if (f k).isSome then n else n + 1) → Tr [b] w w' → K (a.put d undef) w') : o.wp Try.prog a w K Q := by
  obtain ⟨w', hr, h1, h2⟩ := h.set hk hi hn
  unfold Oper.wp
  simp [execOp, ho, hm, hx, hv, hr, Result.andThen]
  subst hd
  exact hK _ h1 (turned_tr h2)
theorem wp_delete_fm (d : Option Tmp) (m x : Operand) (ho : o.op = Op.call { callee := Callee.builtin Builtin.delete, args := #[m, x], argTypes := #[60, 3] }) (b n : Nat) (f : Int → Option Nat) (k : Int) (hm : a.eval m = .map (some b)) (hx : a.eval x = .int .i64 k)
    (h : FM w b f (n + 1)) (hk : I64 k) (hs : (f k).isSome = true) (hd : o.dst = d)
    (hK : ∀ w', FM w' b (upd f k none) n → Tr [b] w w' → K (a.put d (.tuple #[])) w') : o.wp Try.prog a w K Q := by
  obtain ⟨w', hr, h1, h2⟩ := h.del hk hs o.type
  unfold Oper.wp
  simp [execOp, ho, resolve, invoke, builtin, hm, hx, hr, Result.andThen]
  rw [Oper.upon_value]
  subst hd
  exact hK _ h1 (turned_tr h2)
end
/-! Rows of pairs. -/
def Rw (w : World) (e : TypeId) (v : Value) (q : List D) : Prop := w.ownsRow 0 e 2 v q.length (flatR q)
theorem Rw.rr {w : World} {e : TypeId} {v : Value} {q : List D} (h : Rw w e v q) : RR w v q := own_rd h
theorem own_blk_lt {w : World} {base n size : Nat} {e : TypeId} {v : Value} {xs : List Value} (h : w.ownsRow base e size v n xs) {k : Nat} (hk : k ∈ blk v) : k < w.heap.size := (own_blk h k hk).2
theorem own_keep {w w' : World} {base n size : Nat} {e : TypeId} {v : Value} {xs : List Value} (h : w.ownsRow base e size v n xs) (hb : ∀ k ∈ blk v, w'.heap[k]? = w.heap[k]?) : w'.ownsRow base e size v n xs := by
  refine ⟨h.1, ?_⟩
  rcases h.2 with h | ⟨g, cap, cur, rfl, h2, h3, h4⟩
  · exact .inl h
  · exact .inr ⟨g, cap, cur, rfl, h2, (hb g (List.mem_singleton.2 rfl)).trans h3, h4⟩
theorem blk_ne_g {w : World} {base n size g : Nat} {e e' : TypeId} {v : Value} {xs : List Value} {cs : Array Value} {fr : Nat × Nat} (h : w.ownsRow base e size v n xs) (hg : w.heap[g]? = some (.cells cs e' fr)) (he : e ≠ e') : ∀ k ∈ blk v, k ≠ g := by
  intro k hk e1
  subst e1
  rcases h.2 with ⟨rfl, _⟩ | ⟨g', cap, cur, rfl, hb, hg', _⟩
  · cases hk
  · obtain rfl := List.mem_singleton.1 hk
    rw [hg] at hg'
    simp only [Option.some.injEq, Obj.cells.injEq] at hg'
    exact he hg'.2.1.symm
theorem blk_ne_map {w : World} {base n size b m : Nat} {e : TypeId} {v : Value} {xs : List Value} {f : Int → Option Nat} (h : w.ownsRow base e size v n xs) (hm : FM w b f m) : ∀ k ∈ blk v, k ≠ b := by
  intro k hk e1
  subst e1
  rcases h.2 with ⟨rfl, _⟩ | ⟨g', cap, cur, rfl, hb, hg', _⟩
  · cases hk
  · obtain rfl := List.mem_singleton.1 hk
    obtain ⟨D, ⟨a, c, h1, _⟩, _⟩ := hm
    exact absurd (h1.symm.trans hg') (by simp)
theorem blk_ne_blk {w : World} {base base' n n' size size' : Nat} {e e' : TypeId} {v v' : Value} {xs xs' : List Value} (h : w.ownsRow base e size v n xs) (h' : w.ownsRow base' e' size' v' n' xs') (he : e ≠ e') : ∀ k ∈ blk v, k ∉ blk v' := by
  intro k hk hk'
  rcases h'.2 with ⟨rfl, _⟩ | ⟨g', cap, cur, rfl, hb, hg', _⟩
  · cases hk'
  · obtain rfl := List.mem_singleton.1 hk'
    exact blk_ne_g h hg' he k hk rfl
theorem own_shut {w : World} {n size b cap : Nat} {e : TypeId} {cur xs : List Value} (hg : w.heap[b]? = some (.cells cur.toArray e (0, 0))) (h1 : n ≤ cap) (h2 : cap ≤ maxLen) (h3 : cur.length = cap * size) (h4 : cur.take (n * size) = xs) :
    w.ownsRow 0 e size (.slice (some ⟨b, 0, none⟩) n cap) n xs := by
  refine ⟨?_, .inr ⟨b, cap, cur.toArray, rfl, Nat.zero_le _, hg, h1, h2, by simpa using h3, by simpa using h4⟩⟩
  rw [← h4, List.length_take, h3, Nat.min_eq_left (Nat.mul_le_mul_right _ h1)]
theorem own_cell {w : World} {n size b : Nat} {e : TypeId} {cur xs : List Value} (hg : w.heap[b]? = some (.cells cur.toArray e (0, 0))) (h4 : cur.take (n * size) = xs) {j : Nat} {u : Value} (hj : xs[j]? = some u) : w.cell? ⟨b, j, none⟩ = some u := by
  rw [cell_of_row _ _ _ _ _ _ hg]
  rw [← h4, List.getElem?_take] at hj
  split at hj
  · simpa using hj
  · cases hj
theorem splice_two (c : List Value) (a b : Value) : ∀ (j : Nat), j + 2 ≤ c.length → splice c j [a, b] = (c.set j a).set (j + 1) b := by
  intro j hj
  unfold splice
  apply List.ext_getElem?
  intro i
  simp only [List.getElem?_append, List.getElem?_take, List.getElem?_drop, List.getElem?_set, List.length_take, List.length_set, List.length_cons, List.length_nil]
  have hm : min j c.length = j := by omega
  rw [hm]
  by_cases h1 : i < j
  · simp only [h1, if_true, show ¬ j + 1 = i by omega, show ¬ j = i by omega, if_false]
  · by_cases h2 : i = j
    · subst h2
      simp [show i < c.length by omega]
    · by_cases h3 : i = j + 1
      · subst h3
        simp [show j + 1 < c.length by omega]
        try (intro h; omega)
      · simp only [h1, if_false, show ¬ j + 1 = i by omega, show ¬ j = i by omega, show ¬ i - j < 0 + 1 + 1 by omega]
        congr 1
        omega
theorem flatR_set : ∀ (l : List (Int × Int)) (j : Nat) (p : Int × Int), j < l.length → flatR (l.set j p) = ((flatR l).set (j * 2) (.int .i64 p.1)).set (j * 2 + 1) (.int .i64 p.2)
  | q :: l, 0, p, _ => rfl
  | q :: l, j + 1, p, h => by
    have := flatR_set l j p (by simpa using h)
    rw [List.set_cons_succ, flatR_cons, flatR_cons, this, show (j + 1) * 2 = j * 2 + 1 + 1 by omega]
    rfl
theorem flatR_take : ∀ (l : List (Int × Int)) (k : Nat), (flatR l).take (k * 2) = flatR (l.take k)
  | [], k => by simp [flatR]
  | p :: l, 0 => rfl
  | p :: l, k + 1 => by
    rw [List.take_succ_cons, flatR_cons, flatR_cons, show (k + 1) * 2 = k * 2 + 1 + 1 by omega, List.take_succ_cons, List.take_succ_cons, flatR_take l k]
/-- A timer's two cells. -/
def two (d : D) : List Value := [.int .i64 d.1, .int .i64 d.2]
theorem two_cell (d : D) : ∀ v ∈ two d, v.oneCell' = true := by
  intro v hv
  simp only [two, List.mem_cons, List.not_mem_nil, or_false] at hv
  rcases hv with rfl | rfl <;> rfl
/-- A row, opened. -/
theorem Rw.open {w : World} {e : TypeId} {v : Value} {q : List D} (h : Rw w e v q) (hn : 0 < q.length) :
    ∃ r cap, ∃ cur : List Value, v = .slice (some ⟨r, 0, none⟩) q.length cap ∧ r < w.heap.size ∧ w.heap[r]? = some (.cells cur.toArray e (0, 0)) ∧ q.length ≤ cap ∧ cap ≤ maxLen ∧ cur.length = cap * 2 ∧ cur.take (q.length * 2) = flatR q := by
  rcases h.2 with ⟨rfl, h0⟩ | ⟨g, cap, cur, rfl, hb, hg, h1, h2, h3, h4⟩
  · omega
  · exact ⟨g, cap, cur.toList, rfl, (Array.getElem?_eq_some_iff.1 hg).1, by simpa using hg, h1, h2, by simpa using h3, h4⟩
theorem range_two {w : World} {r : Nat} {e : TypeId} {cur : List Value} {q : List D} {i : Nat} (hg : w.heap[r]? = some (.cells cur.toArray e (0, 0))) (h4 : cur.take (q.length * 2) = flatR q) (hi : i < q.length) : w.rangeAt r (i * 2) (two (at_ q i)) := by
  have g := flatR_get q i hi
  rw [at_get hi]
  have a := own_cell hg h4 g.1
  have b := own_cell hg h4 g.2
  intro j v hj
  match j, hj with
  | 0, hj => obtain rfl : _ = v := by simpa [two] using hj
             exact a
  | 1, hj => obtain rfl : _ = v := by simpa [two] using hj
             exact b
  | j + 2, hj => simp [two] at hj
theorem Rw.put {w : World} {e : TypeId} {r cap : Nat} {cur : List Value} {q : List D} {i : Nat} {d : D} (hi : i < q.length) (hg : w.heap[r]? = some (.cells (splice cur (i * 2) (two d)).toArray e (0, 0))) (h1 : q.length ≤ cap) (h2 : cap ≤ maxLen) (h3 : cur.length = cap * 2) (h4 : cur.take (q.length * 2) = flatR q) :
    Rw w e (.slice (some ⟨r, 0, none⟩) q.length cap) (q.set i d) := by
  unfold Rw
  rw [List.length_set]
  unfold two at hg
  rw [splice_two _ _ _ _ (by omega)] at hg
  refine own_shut hg h1 h2 (by simpa using h3) ?_
  rw [List.take_set, List.take_set, h4, flatR_set q i d hi]
/-! A queue. -/
structure QAt (w : World) (g : Nat) (v : Value) (b : Nat) (q : List D) (f : Int → Option Nat) (n : Nat) : Prop where
  row : w.heap[g]? = some (.cells #[v, .func (.func 27) #[] #[], .map (some b)] 62 (0, 0))
  own : Rw w 56 v q
  map : FM w b f n
  few : q.length ≤ 65536 ∧ n ≤ 65537
  keys : ∀ d ∈ q, I64 d.1
/-- The blocks that it lies in. -/
def Fq (g : Nat) (v : Value) (b : Nat) : List Nat := g :: b :: blk v
theorem Fq.g {g b : Nat} {v : Value} : g ∈ Fq g v b := by simp [Fq]
theorem Fq.b {g b : Nat} {v : Value} : b ∈ Fq g v b := by simp [Fq]
theorem Fq.v {g b k : Nat} {v : Value} (h : k ∈ blk v) : k ∈ Fq g v b := by simp [Fq, h]
theorem QAt.lt {w : World} {g b n : Nat} {v : Value} {q : List D} {f : Int → Option Nat} (h : QAt w g v b q f n) : ∀ k ∈ Fq g v b, k < w.heap.size := by
  intro k hk
  simp only [Fq, List.mem_cons] at hk
  rcases hk with rfl | rfl | hk
  · exact (Array.getElem?_eq_some_iff.1 h.row).1
  · exact h.map.lt
  · exact own_blk_lt h.own hk
theorem QAt.ne {w : World} {g b n : Nat} {v : Value} {q : List D} {f : Int → Option Nat} (h : QAt w g v b q f n) : b ≠ g ∧ (∀ k ∈ blk v, k ≠ g ∧ k ≠ b) := by
  refine ⟨fun e => ?_, fun k hk => ⟨blk_ne_g h.own h.row (by decide) k hk, blk_ne_map h.own h.map k hk⟩⟩
  obtain ⟨D, ⟨a, c, h1, _⟩, _⟩ := h.map
  have h2 := h.row
  rw [← e, h1] at h2
  cases h2
theorem QAt.keep {w w' : World} {g b n : Nat} {v : Value} {q : List D} {f : Int → Option Nat} (h : QAt w g v b q f n) (hb : ∀ k ∈ Fq g v b, w'.heap[k]? = w.heap[k]?) : QAt w' g v b q f n :=
  ⟨(hb g Fq.g).trans h.row, own_keep h.own fun k hk => hb k (Fq.v hk), h.map.keep (hb b Fq.b), h.few, h.keys⟩
theorem QAt.tr {K : List Nat} {w w' : World} {g b n : Nat} {v : Value} {q : List D} {f : Int → Option Nat} (h : QAt w g v b q f n) (ht : Tr K w w') (hd : ∀ k ∈ Fq g v b, k ∉ K) : QAt w' g v b q f n := h.keep fun k hk => ht.block k (h.lt k hk) (hd k hk)
theorem QAt.gr {w w' : World} {g b n : Nat} {v : Value} {q : List D} {f : Int → Option Nat} (h : QAt w g v b q f n) (hb : Below w.heap.size w w') : QAt w' g v b q f n := h.keep fun k hk => hb.block k (h.lt k hk)
/-- A call: it has turned its own blocks, and lies in them, or in new ones. -/
structure Stp (g b : Nat) (v v' : Value) (w w' : World) : Prop where
  tr : Tr (Fq g v b) w w'
  blk : ∀ k ∈ Fq g v' b, k ∈ Fq g v b ∨ w.heap.size ≤ k
theorem Stp.refl (g b : Nat) (v : Value) (w : World) : Stp g b v v w w := ⟨Tr.refl _ _, fun _ h => .inl h⟩
theorem Stp.of {g b : Nat} {v : Value} {w w' : World} (h : Tr (Fq g v b) w w') : Stp g b v v w w' := ⟨h, fun _ h => .inl h⟩
theorem Stp.gr {g b : Nat} {v : Value} {w w' : World} (h : Below w.heap.size w w') : Stp g b v v w w' := ⟨Tr.gr h, fun _ h => .inl h⟩
theorem Stp.trans {g b : Nat} {v v' v'' : Value} {u w x : World} (h : Stp g b v v' u w) (k : Stp g b v' v'' w x) : Stp g b v v'' u x :=
  ⟨h.tr.trans k.tr h.blk, fun i hi => by
    rcases k.blk i hi with h1 | h1
    · exact h.blk i h1
    · exact .inr (Nat.le_trans h.tr.size h1)⟩
theorem cellsQ {w : World} {g b : Nat} {v : Value} {t : TypeId} {fr : Nat × Nat} (h : w.heap[g]? = some (.cells #[v, .func (.func 27) #[] #[], .map (some b)] t fr)) : w.cell? ⟨g, 0, none⟩ = some v ∧ w.cell? ⟨g, 1, none⟩ = some (.func (.func 27) #[] #[]) ∧ w.cell? ⟨g, 2, none⟩ = some (.map (some b)) := cells3 h
end Go.Proofs.Ytmcifmgfgdahnaa.Tm
