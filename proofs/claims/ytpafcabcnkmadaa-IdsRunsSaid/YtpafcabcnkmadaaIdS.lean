/-
  An Alloc in memory: its eleven cells, two rings, the numbers that are taken.
-/
import Derived.Test.YtpafcabcnkmadaaIdR
namespace Go.Proofs.Ytpafcabcnkmadaa.Id
open Go.RowKit
set_option linter.unusedVariables false
set_option linter.unusedSimpArgs false

/-- What an Alloc holds: the free ones fl in cells fc, from cell ff on; those that rest rl in cells rc, from cell rf on; which are taken tl. -/
structure Am where
  lo : Int
  hi : Int
  q : Int
  fv : Value
  fc : List Int
  ff : Nat
  fl : List Int
  rv : Value
  rc : List (Int × Int)
  rf : Nat
  rl : List (Int × Int)
  tv : Value
  tl : List Bool
  fell : Bool
theorem wrap64_in {n : Int} (h0 : -9223372036854775808 ≤ n) (h1 : n ≤ 9223372036854775807) : wrap64 n = n := by unfold wrap64; omega
def ints (l : List Int) : List Value := l.map (Value.int .i64)
def bools (l : List Bool) : List Value := l.map Value.bool
structure AmAt (w : World) (g : Nat) (m : Am) : Prop where
  row : w.heap[g]? = some (.cells #[.int .i64 m.lo, .int .i64 m.hi, .int .i64 m.q, m.fv, .int .i64 (m.ff : Int), .int .i64 (m.fl.length : Int), m.rv, .int .i64 (m.rf : Int), .int .i64 (m.rl.length : Int), m.tv, .bool m.fell] 63 (0, 0))
  fo : w.ownsRow 0 3 1 m.fv m.fc.length (ints m.fc)
  fr : R m.fc m.ff m.fl
  ro : w.ownsRow 0 54 2 m.rv m.rc.length (flatR m.rc)
  rr : R m.rc m.rf m.rl
  to : w.ownsRow 0 4 1 m.tv m.tl.length (bools m.tl)
  made : m.tv ≠ .slice none 0 0
  few : m.fc.length ≤ 131071 ∧ m.rc.length ≤ 131071
/-- The blocks that it lies in. -/
def Fm (g : Nat) (m : Am) : List Nat := g :: (blk m.fv ++ (blk m.rv ++ blk m.tv))
theorem Fm.fv {g k : Nat} {m : Am} (h : k ∈ blk m.fv) : k ∈ Fm g m := by simp [Fm, h]
theorem Fm.rv {g k : Nat} {m : Am} (h : k ∈ blk m.rv) : k ∈ Fm g m := by simp [Fm, h]
theorem Fm.tv {g k : Nat} {m : Am} (h : k ∈ blk m.tv) : k ∈ Fm g m := by simp [Fm, h]
theorem Fm.g {g : Nat} {m : Am} : g ∈ Fm g m := by simp [Fm]
theorem own_blk_lt {w : World} {base n size : Nat} {e : TypeId} {v : Value} {xs : List Value} (h : w.ownsRow base e size v n xs) {k : Nat} (hk : k ∈ blk v) : k < w.heap.size := (own_blk h k hk).2
theorem own_keep {w w' : World} {base n size : Nat} {e : TypeId} {v : Value} {xs : List Value} (h : w.ownsRow base e size v n xs) (hb : ∀ k ∈ blk v, w'.heap[k]? = w.heap[k]?) : w'.ownsRow base e size v n xs := by
  refine ⟨h.1, ?_⟩
  rcases h.2 with h | ⟨g, cap, cur, rfl, h2, h3, h4⟩
  · exact .inl h
  · exact .inr ⟨g, cap, cur, rfl, h2, (hb g (List.mem_singleton.2 rfl)).trans h3, h4⟩
theorem AmAt.lt {w : World} {g : Nat} {m : Am} (h : AmAt w g m) : ∀ k ∈ Fm g m, k < w.heap.size := by
  intro k hk
  simp only [Fm, List.mem_cons, List.mem_append] at hk
  rcases hk with rfl | hk | hk | hk
  · exact (Array.getElem?_eq_some_iff.1 h.row).1
  · exact own_blk_lt h.fo hk
  · exact own_blk_lt h.ro hk
  · exact own_blk_lt h.to hk
theorem AmAt.keep {w w' : World} {g : Nat} {m : Am} (h : AmAt w g m) (hb : ∀ k ∈ Fm g m, w'.heap[k]? = w.heap[k]?) : AmAt w' g m :=
  ⟨(hb g Fm.g).trans h.row, own_keep h.fo fun k hk => hb k (Fm.fv hk), h.fr, own_keep h.ro fun k hk => hb k (Fm.rv hk), h.rr, own_keep h.to fun k hk => hb k (Fm.tv hk), h.made, h.few⟩
theorem AmAt.tr {K : List Nat} {w w' : World} {g : Nat} {m : Am} (h : AmAt w g m) (ht : Tr K w w') (hd : ∀ k ∈ Fm g m, k ∉ K) : AmAt w' g m := h.keep fun k hk => ht.block k (h.lt k hk) (hd k hk)
theorem AmAt.gr {w w' : World} {g : Nat} {m : Am} (h : AmAt w g m) (hb : Below w.heap.size w w') : AmAt w' g m := h.keep fun k hk => hb.block k (h.lt k hk)
/-- A call: it has turned its own blocks, and lies in them, or in new ones. -/
structure Stp (g : Nat) (m m' : Am) (w w' : World) : Prop where
  tr : Tr (Fm g m) w w'
  blk : ∀ k ∈ Fm g m', k ∈ Fm g m ∨ w.heap.size ≤ k
theorem Stp.refl (g : Nat) (m : Am) (w : World) : Stp g m m w w := ⟨Tr.refl _ _, fun _ h => .inl h⟩
theorem Stp.trans {g : Nat} {a b c : Am} {u v w : World} (h : Stp g a b u v) (k : Stp g b c v w) : Stp g a c u w :=
  ⟨h.tr.trans k.tr h.blk, fun i hi => by
    rcases k.blk i hi with h1 | h1
    · exact h.blk i h1
    · exact .inr (Nat.le_trans h.tr.size h1)⟩
theorem Stp.gr {g : Nat} {m : Am} {w w' : World} (h : Below w.heap.size w w') : Stp g m m w w' := ⟨Tr.gr h, fun _ h => .inl h⟩
theorem Stp.same {g : Nat} {m m' : Am} {w w' : World} (h : Tr (Fm g m) w w') (hf : m'.fv = m.fv) (hr : m'.rv = m.rv) (ht : m'.tv = m.tv) : Stp g m m' w w' := ⟨h, fun k hk => .inl (by unfold Fm at hk ⊢; rw [hf, hr, ht] at hk; exact hk)⟩
/-- The blocks of an Alloc are four. -/
theorem blk_ne_g {w : World} {base n size g : Nat} {e e' : TypeId} {v : Value} {xs : List Value} {cs : Array Value} {fr : Nat × Nat} (h : w.ownsRow base e size v n xs) (hg : w.heap[g]? = some (.cells cs e' fr)) (he : e ≠ e') : ∀ k ∈ blk v, k ≠ g := by
  intro k hk e1
  subst e1
  rcases h.2 with ⟨rfl, _⟩ | ⟨g', cap, cur, rfl, hb, hg', _⟩
  · cases hk
  · obtain rfl := List.mem_singleton.1 hk
    rw [hg] at hg'
    simp only [Option.some.injEq, Obj.cells.injEq] at hg'
    exact he hg'.2.1.symm
theorem blk_ne_blk {w : World} {base base' n n' size size' : Nat} {e e' : TypeId} {v v' : Value} {xs xs' : List Value} (h : w.ownsRow base e size v n xs) (h' : w.ownsRow base' e' size' v' n' xs') (he : e ≠ e') : ∀ k ∈ blk v, k ∉ blk v' := by
  intro k hk hk'
  rcases h'.2 with ⟨rfl, _⟩ | ⟨g', cap, cur, rfl, hb, hg', _⟩
  · cases hk'
  · obtain rfl := List.mem_singleton.1 hk'
    exact blk_ne_g h hg' he k hk rfl
/-- A row of one's own, opened. -/
theorem own_open {w : World} {base n size : Nat} {e : TypeId} {v : Value} {xs : List Value} (h : w.ownsRow base e size v n xs) (hn : 0 < n ∨ v ≠ .slice none 0 0) :
    ∃ b cap, ∃ cur : List Value, v = .slice (some ⟨b, 0, none⟩) n cap ∧ b < w.heap.size ∧ w.heap[b]? = some (.cells cur.toArray e (0, 0)) ∧ n ≤ cap ∧ cap ≤ maxLen ∧ cur.length = cap * size ∧ cur.take (n * size) = xs := by
  rcases h.2 with ⟨rfl, rfl⟩ | ⟨g, cap, cur, rfl, hb, hg, h1, h2, h3, h4⟩
  · rcases hn with hn | hn
    · omega
    · exact absurd rfl hn
  · exact ⟨g, cap, cur.toList, rfl, (Array.getElem?_eq_some_iff.1 hg).1, by simpa using hg, h1, h2, by simpa using h3, h4⟩
theorem own_shut {w : World} {n size b cap : Nat} {e : TypeId} {cur xs : List Value} (hg : w.heap[b]? = some (.cells cur.toArray e (0, 0))) (h1 : n ≤ cap) (h2 : cap ≤ maxLen) (h3 : cur.length = cap * size) (h4 : cur.take (n * size) = xs) :
    w.ownsRow 0 e size (.slice (some ⟨b, 0, none⟩) n cap) n xs := by
  refine ⟨?_, .inr ⟨b, cap, cur.toArray, rfl, Nat.zero_le _, hg, h1, h2, by simpa using h3, by simpa using h4⟩⟩
  rw [← h4, List.length_take, h3, Nat.min_eq_left (Nat.mul_le_mul_right _ h1)]
theorem ints_length (l : List Int) : (ints l).length = l.length := by simp [ints]
theorem bools_length (l : List Bool) : (bools l).length = l.length := by simp [bools]
theorem own_cell {w : World} {n size b : Nat} {e : TypeId} {cur xs : List Value} (hg : w.heap[b]? = some (.cells cur.toArray e (0, 0))) (h4 : cur.take (n * size) = xs) {j : Nat} {u : Value} (hj : xs[j]? = some u) : w.cell? ⟨b, j, none⟩ = some u := by
  rw [cell_of_row _ _ _ _ _ _ hg]
  rw [← h4, List.getElem?_take] at hj
  split at hj
  · simpa using hj
  · cases hj
theorem cells11 {w : World} {g : Nat} {c0 c1 c2 c3 c4 c5 c6 c7 c8 c9 c10 : Value} {t : TypeId} {fr : Nat × Nat} (h : w.heap[g]? = some (.cells #[c0, c1, c2, c3, c4, c5, c6, c7, c8, c9, c10] t fr)) :
    w.cell? ⟨g, 0, none⟩ = some c0 ∧ w.cell? ⟨g, 1, none⟩ = some c1 ∧ w.cell? ⟨g, 2, none⟩ = some c2 ∧ w.cell? ⟨g, 3, none⟩ = some c3 ∧ w.cell? ⟨g, 4, none⟩ = some c4 ∧ w.cell? ⟨g, 5, none⟩ = some c5 ∧ w.cell? ⟨g, 6, none⟩ = some c6 ∧ w.cell? ⟨g, 7, none⟩ = some c7 ∧ w.cell? ⟨g, 8, none⟩ = some c8 ∧ w.cell? ⟨g, 9, none⟩ = some c9 ∧ w.cell? ⟨g, 10, none⟩ = some c10 :=
  ⟨by rw [cell_of_row w g _ _ _ _ h]; rfl, by rw [cell_of_row w g _ _ _ _ h]; rfl, by rw [cell_of_row w g _ _ _ _ h]; rfl, by rw [cell_of_row w g _ _ _ _ h]; rfl, by rw [cell_of_row w g _ _ _ _ h]; rfl, by rw [cell_of_row w g _ _ _ _ h]; rfl, by rw [cell_of_row w g _ _ _ _ h]; rfl, by rw [cell_of_row w g _ _ _ _ h]; rfl, by rw [cell_of_row w g _ _ _ _ h]; rfl, by rw [cell_of_row w g _ _ _ _ h]; rfl, by rw [cell_of_row w g _ _ _ _ h]; rfl⟩
/-- What a row of one's own reads, element by element. -/
theorem own_int_at {w : World} {n b : Nat} {cur : List Value} {l : List Int} (hg : w.heap[b]? = some (.cells cur.toArray 3 (0, 0))) (h4 : cur.take (n * 1) = ints l) (j : Nat) (hj : j < l.length) : w.cell? ⟨b, j, none⟩ = some (.int .i64 l[j]) :=
  own_cell hg h4 (by simp [ints, hj])
theorem own_bool_at {w : World} {n b : Nat} {cur : List Value} {l : List Bool} (hg : w.heap[b]? = some (.cells cur.toArray 4 (0, 0))) (h4 : cur.take (n * 1) = bools l) (j : Nat) (hj : j < l.length) : w.cell? ⟨b, j, none⟩ = some (.bool l[j]) :=
  own_cell hg h4 (by simp [bools, hj])
theorem own_rest_at {w : World} {n b : Nat} {cur : List Value} {l : List (Int × Int)} (hg : w.heap[b]? = some (.cells cur.toArray 54 (0, 0))) (h4 : cur.take (n * 2) = flatR l) (j : Nat) (hj : j < l.length) :
    w.cell? ⟨b, j * 2, none⟩ = some (.int .i64 l[j].1) ∧ w.cell? ⟨b, j * 2 + 1, none⟩ = some (.int .i64 l[j].2) :=
  ⟨own_cell hg h4 (flatR_get l j hj).1, own_cell hg h4 (flatR_get l j hj).2⟩
/-- One element is overwritten. -/
theorem own_set_int {w : World} {b cap : Nat} {cur : List Value} {l : List Int} {j : Nat} {x : Int} (hj : j < l.length) (hg : w.heap[b]? = some (.cells (cur.set j (.int .i64 x)).toArray 3 (0, 0))) (h1 : l.length ≤ cap) (h2 : cap ≤ maxLen) (h3 : cur.length = cap * 1) (h4 : cur.take (l.length * 1) = ints l) :
    w.ownsRow 0 3 1 (.slice (some ⟨b, 0, none⟩) l.length cap) (l.set j x).length (ints (l.set j x)) := by
  rw [List.length_set]
  refine own_shut hg h1 h2 (by simpa using h3) ?_
  rw [List.take_set, h4]
  simp [ints, List.map_set]
theorem own_set_bool {w : World} {b cap : Nat} {cur : List Value} {l : List Bool} {j : Nat} {x : Bool} (hj : j < l.length) (hg : w.heap[b]? = some (.cells (cur.set j (.bool x)).toArray 4 (0, 0))) (h1 : l.length ≤ cap) (h2 : cap ≤ maxLen) (h3 : cur.length = cap * 1) (h4 : cur.take (l.length * 1) = bools l) :
    w.ownsRow 0 4 1 (.slice (some ⟨b, 0, none⟩) l.length cap) (l.set j x).length (bools (l.set j x)) := by
  rw [List.length_set]
  refine own_shut hg h1 h2 (by simpa using h3) ?_
  rw [List.take_set, h4]
  simp [bools, List.map_set]
theorem splice_two (c : List Value) (a b : Value) : ∀ (j : Nat), j + 2 ≤ c.length → splice c j [a, b] = (c.set j a).set (j + 1) b := by
  intro j hj
  unfold splice
  apply List.ext_getElem?
  intro i
  simp only [List.getElem?_append, List.getElem?_take, List.getElem?_drop, List.getElem?_set, List.length_take, List.length_set, List.length_cons, List.length_nil]
  have hm : min j c.length = j := by omega
  rw [hm]
  by_cases h1 : i < j
  · simp only [h1, if_true, show ¬ j + 1 = i by omega, show ¬ j = i by omega, if_false]
  · by_cases h2 : i = j
    · subst h2
      simp [show i < c.length by omega]
    · by_cases h3 : i = j + 1
      · subst h3
        simp [show j + 1 < c.length by omega]
        try (intro h; omega)
      · simp only [h1, if_false, show ¬ j + 1 = i by omega, show ¬ j = i by omega, show ¬ i - j < 0 + 1 + 1 by omega]
        congr 1
        omega
theorem flatR_set : ∀ (l : List (Int × Int)) (j : Nat) (p : Int × Int), j < l.length → flatR (l.set j p) = ((flatR l).set (j * 2) (.int .i64 p.1)).set (j * 2 + 1) (.int .i64 p.2)
  | q :: l, 0, p, _ => rfl
  | q :: l, j + 1, p, h => by
    have := flatR_set l j p (by simpa using h)
    rw [List.set_cons_succ, flatR_cons, flatR_cons, this, show (j + 1) * 2 = j * 2 + 1 + 1 by omega]
    rfl
theorem own_set_rest {w : World} {b cap : Nat} {cur : List Value} {l : List (Int × Int)} {j : Nat} {p : Int × Int} (hj : j < l.length) (hg : w.heap[b]? = some (.cells (splice cur (j * 2) [.int .i64 p.1, .int .i64 p.2]).toArray 54 (0, 0))) (h1 : l.length ≤ cap) (h2 : cap ≤ maxLen) (h3 : cur.length = cap * 2) (h4 : cur.take (l.length * 2) = flatR l) :
    w.ownsRow 0 54 2 (.slice (some ⟨b, 0, none⟩) l.length cap) (l.set j p).length (flatR (l.set j p)) := by
  rw [List.length_set]
  rw [splice_two _ _ _ _ (by omega)] at hg
  refine own_shut hg h1 h2 (by simpa using h3) ?_
  rw [List.take_set, List.take_set, h4, flatR_set l j p hj]
theorem AmAt.ne {w : World} {g : Nat} {m : Am} (h : AmAt w g m) : (∀ k ∈ blk m.fv, k ≠ g ∧ k ∉ blk m.rv ∧ k ∉ blk m.tv) ∧ (∀ k ∈ blk m.rv, k ≠ g ∧ k ∉ blk m.fv ∧ k ∉ blk m.tv) ∧ (∀ k ∈ blk m.tv, k ≠ g ∧ k ∉ blk m.fv ∧ k ∉ blk m.rv) :=
  ⟨fun k hk => ⟨blk_ne_g h.fo h.row (by decide) k hk, blk_ne_blk h.fo h.ro (by decide) k hk, blk_ne_blk h.fo h.to (by decide) k hk⟩,
   fun k hk => ⟨blk_ne_g h.ro h.row (by decide) k hk, blk_ne_blk h.ro h.fo (by decide) k hk, blk_ne_blk h.ro h.to (by decide) k hk⟩,
   fun k hk => ⟨blk_ne_g h.to h.row (by decide) k hk, blk_ne_blk h.to h.fo (by decide) k hk, blk_ne_blk h.to h.ro (by decide) k hk⟩⟩
/-- Its cells have turned, its rows stand. -/
theorem AmAt.turned {w w' : World} {g : Nat} {m m' : Am} (h : AmAt w g m) (hr : w'.heap[g]? = some (.cells #[.int .i64 m'.lo, .int .i64 m'.hi, .int .i64 m'.q, m'.fv, .int .i64 (m'.ff : Int), .int .i64 (m'.fl.length : Int), m'.rv, .int .i64 (m'.rf : Int), .int .i64 (m'.rl.length : Int), m'.tv, .bool m'.fell] 63 (0, 0))) (ho : Only g w w')
    (e1 : m'.fv = m.fv) (e2 : m'.fc = m.fc) (e3 : R m'.fc m'.ff m'.fl) (e4 : m'.rv = m.rv) (e5 : m'.rc = m.rc) (e6 : R m'.rc m'.rf m'.rl) (e7 : m'.tv = m.tv) (e8 : m'.tl = m.tl) : AmAt w' g m' := by
  have hn := h.ne
  refine ⟨hr, ?_, e3, ?_, e6, ?_, by rw [e7]; exact h.made, by rw [e2, e5]; exact h.few⟩
  · rw [e1, e2]; exact own_keep h.fo fun k hk => ho.heap k (own_blk_lt h.fo hk) (hn.1 k hk).1
  · rw [e4, e5]; exact own_keep h.ro fun k hk => ho.heap k (own_blk_lt h.ro hk) (hn.2.1 k hk).1
  · rw [e7, e8]; exact own_keep h.to fun k hk => ho.heap k (own_blk_lt h.to hk) (hn.2.2 k hk).1
end Go.Proofs.Ytpafcabcnkmadaa.Id
