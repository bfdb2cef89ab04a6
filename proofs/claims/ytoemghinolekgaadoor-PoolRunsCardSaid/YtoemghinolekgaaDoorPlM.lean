/-
  Places and a pool in memory.
-/
import Derived.Test.YtoemghinolekgaaDoorIdM
import Derived.Test.YtoemghinolekgaaDoorPlB
import Derived.Test.YtoemghinolekgaaDoorOnly
namespace Go.Proofs.YtoemghinolekgaaDoor.Pl
open Go.RowKit
open Go.Proofs.YtoemghinolekgaaDoor.Id (Tr Tr.refl Tr.gr Tr.only blk own_blk IR)
set_option linter.unusedVariables false
set_option linter.unusedSimpArgs false

def words (ws : List Nat) : List Value := ws.map fun (x : Nat) => Value.int .u64 (x : Int)
theorem words_length (ws : List Nat) : (words ws).length = ws.length := by simp [words]
def ints (l : List Int) : List Value := l.map (Value.int .i64)
theorem ints_length (l : List Int) : (ints l).length = l.length := by simp [ints]
theorem own_keep {w w' : World} {base n size : Nat} {e : TypeId} {v : Value} {xs : List Value} (h : w.ownsRow base e size v n xs) (hb : ∀ k ∈ blk v, w'.heap[k]? = w.heap[k]?) : w'.ownsRow base e size v n xs := by
  refine ⟨h.1, ?_⟩
  rcases h.2 with h | ⟨g, cap, cur, rfl, h2, h3, h4⟩
  · exact .inl h
  · exact .inr ⟨g, cap, cur, rfl, h2, (hb g (List.mem_singleton.2 rfl)).trans h3, h4⟩
/-- Blocks of two element types are two blocks. -/
theorem blk_ne_g {w : World} {base n size g : Nat} {e e' : TypeId} {v : Value} {xs : List Value} {cs : Array Value} {fr : Nat × Nat} (h : w.ownsRow base e size v n xs) (hg : w.heap[g]? = some (.cells cs e' fr)) (he : e ≠ e') : ∀ k ∈ blk v, k ≠ g := by
  intro k hk e1
  subst e1
  rcases h.2 with ⟨rfl, _⟩ | ⟨g', cap, cur, rfl, hb, hg', _⟩
  · cases hk
  · obtain rfl := List.mem_singleton.1 hk
    rw [hg] at hg'
    simp only [Option.some.injEq, Obj.cells.injEq] at hg'
    exact he hg'.2.1.symm
theorem blk_ne_blk {w : World} {base base' n n' size size' : Nat} {e e' : TypeId} {v v' : Value} {xs xs' : List Value} (h : w.ownsRow base e size v n xs) (h' : w.ownsRow base' e' size' v' n' xs') (he : e ≠ e') : ∀ k ∈ blk v, k ∉ blk v' := by
  intro k hk hk'
  rcases h'.2 with ⟨rfl, _⟩ | ⟨g', cap, cur, rfl, hb, hg', _⟩
  · cases hk'
  · obtain rfl := List.mem_singleton.1 hk'
    exact blk_ne_g h hg' he k hk rfl
theorem own_open {w : World} {base n size : Nat} {e : TypeId} {v : Value} {xs : List Value} (h : w.ownsRow base e size v n xs) (hn : 0 < n ∨ v ≠ .slice none 0 0) :
    ∃ b cap, ∃ cur : List Value, v = .slice (some ⟨b, 0, none⟩) n cap ∧ base ≤ b ∧ b < w.heap.size ∧ w.heap[b]? = some (.cells cur.toArray e (0, 0)) ∧ n ≤ cap ∧ cap ≤ maxLen ∧ cur.length = cap * size ∧ cur.take (n * size) = xs := by
  rcases h.2 with ⟨rfl, rfl⟩ | ⟨g, cap, cur, rfl, hb, hg, h1, h2, h3, h4⟩
  · rcases hn with hn | hn
    · omega
    · exact absurd rfl hn
  · exact ⟨g, cap, cur.toList, rfl, hb, (Array.getElem?_eq_some_iff.1 hg).1, by simpa using hg, h1, h2, by simpa using h3, h4⟩
theorem own_shut {w : World} {base n size b cap : Nat} {e : TypeId} {cur xs : List Value} (hb : base ≤ b) (hg : w.heap[b]? = some (.cells cur.toArray e (0, 0))) (h1 : n ≤ cap) (h2 : cap ≤ maxLen) (h3 : cur.length = cap * size) (h4 : cur.take (n * size) = xs) :
    w.ownsRow base e size (.slice (some ⟨b, 0, none⟩) n cap) n xs := by
  refine ⟨?_, .inr ⟨b, cap, cur.toArray, rfl, hb, hg, h1, h2, by simpa using h3, by simpa using h4⟩⟩
  rw [← h4, List.length_take, h3, Nat.min_eq_left (Nat.mul_le_mul_right _ h1)]
theorem own_cell {w : World} {n size b : Nat} {e : TypeId} {cur xs : List Value} (hg : w.heap[b]? = some (.cells cur.toArray e (0, 0))) (h4 : cur.take (n * size) = xs) {j : Nat} {u : Value} (hj : xs[j]? = some u) : w.cell? ⟨b, j, none⟩ = some u := by
  rw [cell_of_row _ _ _ _ _ _ hg]
  rw [← h4, List.getElem?_take] at hj
  split at hj
  · simpa using hj
  · cases hj
/-- A row of words of one's own: a slice that is not nil. -/
structure WAt (w : World) (v : Value) (ws : List Nat) : Prop where
  own : w.ownsRow 1 70 1 v ws.length (words ws)
  there : v ≠ .slice none 0 0
  few : ws.length ≤ 1024
  ok : okW ws
theorem WAt.at {w : World} {v : Value} {ws : List Nat} (h : WAt w v ws) : ∃ b cap, ∃ cur : List Value, v = .slice (some ⟨b, 0, none⟩) ws.length cap ∧ 1 ≤ b ∧ b < w.heap.size ∧ w.heap[b]? = some (.cells cur.toArray 70 (0, 0)) ∧
    ws.length ≤ cap ∧ cap ≤ maxLen ∧ cur.length = cap ∧ cur.take ws.length = words ws ∧ ∀ k, k < ws.length → w.cell? ⟨b, k, none⟩ = some (.int .u64 (ws.getD k 0 : Nat)) := by
  obtain ⟨b, cap, cur, ev, h1, h2, h3, h4, h5, h6, h7⟩ := own_open h.own (.inr h.there)
  refine ⟨b, cap, cur, ev, h1, h2, h3, h4, h5, by simpa using h6, by simpa using h7, fun k hk => own_cell h3 h7 ?_⟩
  rw [words, List.getElem?_map, List.getElem?_eq_getElem hk]
  simp [List.getD_eq_getElem?_getD, hk]
theorem WAt.keep {w w' : World} {v : Value} {ws : List Nat} (h : WAt w v ws) (hb : ∀ k ∈ blk v, w'.heap[k]? = w.heap[k]?) : WAt w' v ws := ⟨own_keep h.own hb, h.there, h.few, h.ok⟩
theorem WAt.lt {w : World} {v : Value} {ws : List Nat} (h : WAt w v ws) : ∀ k ∈ blk v, 1 ≤ k ∧ k < w.heap.size := own_blk h.own
theorem WAt.gr {w w' : World} {v : Value} {ws : List Nat} (h : WAt w v ws) (hb : Below w.heap.size w w') : WAt w' v ws := h.keep fun k hk => hb.block k (h.lt k hk).2
/-- A word is overwritten. -/
theorem WAt.put {w w' : World} {ws : List Nat} {b cap k x : Nat} {cur : List Value} (h : WAt w (.slice (some ⟨b, 0, none⟩) ws.length cap) ws) (h1 : 1 ≤ b) (h4 : ws.length ≤ cap) (h5 : cap ≤ maxLen) (h6 : cur.length = cap) (h7 : cur.take ws.length = words ws)
    (hx : x < 18446744073709551616) (hw : w'.heap[b]? = some (.cells (cur.set k (.int .u64 (x : Int))).toArray 70 (0, 0))) : WAt w' (.slice (some ⟨b, 0, none⟩) ws.length cap) (ws.set k x) := by
  refine ⟨?_, (fun h => by cases h), by rw [List.length_set]; exact h.few, h.ok.set _ _ hx⟩
  rw [List.length_set]
  refine own_shut h1 hw h4 h5 (by simpa using h6) ?_
  rw [Nat.mul_one, List.take_set, h7]
  simp [words, List.map_set]
/-- What a pool holds: the slices of the free ones and of the leased ones, and what they read. -/
structure Pm where
  fv : Value
  fr : List Nat
  lv : Value
  le : List Nat
structure PmAt (w : World) (g : Nat) (B : Int) (m : Pm) : Prop where
  laid : Laid w
  row : w.heap[g]? = some (.cells #[.int .i64 B, m.fv, m.lv] 60 (0, 0))
  fo : WAt w m.fv m.fr
  lo : WAt w m.lv m.le
  apart : ∀ k ∈ blk m.fv, k ∉ blk m.lv
  pos : 1 ≤ g
/-- The blocks that it lies in. -/
def Fm (g : Nat) (m : Pm) : List Nat := g :: (blk m.fv ++ blk m.lv)
theorem Fm.fv {g k : Nat} {m : Pm} (h : k ∈ blk m.fv) : k ∈ Fm g m := by simp [Fm, h]
theorem Fm.lv {g k : Nat} {m : Pm} (h : k ∈ blk m.lv) : k ∈ Fm g m := by simp [Fm, h]
theorem Fm.g {g : Nat} {m : Pm} : g ∈ Fm g m := by simp [Fm]
theorem Laid.keep {w w' : World} (h : Laid w) (hs : w.heap.size ≤ w'.heap.size) (hb : w'.heap[0]? = w.heap[0]?) : Laid w' :=
  ⟨Nat.lt_of_lt_of_le h.1 hs, fun j hj => by rw [World.cell?_of_block (w := w) hb]; exact h.2 j hj⟩
theorem PmAt.lt {w : World} {g : Nat} {B : Int} {m : Pm} (h : PmAt w g B m) : ∀ k ∈ Fm g m, 1 ≤ k ∧ k < w.heap.size := by
  intro k hk
  simp only [Fm, List.mem_cons, List.mem_append] at hk
  rcases hk with rfl | hk | hk
  · exact ⟨h.pos, (Array.getElem?_eq_some_iff.1 h.row).1⟩
  · exact h.fo.lt k hk
  · exact h.lo.lt k hk
theorem Laid.tr {K : List Nat} {w w' : World} (h : Laid w) (ht : Tr K w w') (hK : ∀ k ∈ K, 1 ≤ k) : Laid w' :=
  h.keep ht.size (ht.block 0 h.1 fun hk => by have := hK 0 hk; omega)
theorem PmAt.keep {w w' : World} {g : Nat} {B : Int} {m : Pm} (h : PmAt w g B m) (hl : Laid w') (hb : ∀ k ∈ Fm g m, w'.heap[k]? = w.heap[k]?) : PmAt w' g B m :=
  ⟨hl, (hb g Fm.g).trans h.row, h.fo.keep fun k hk => hb k (Fm.fv hk), h.lo.keep fun k hk => hb k (Fm.lv hk), h.apart, h.pos⟩
theorem PmAt.tr {K : List Nat} {w w' : World} {g : Nat} {B : Int} {m : Pm} (h : PmAt w g B m) (ht : Tr K w w') (hK : ∀ k ∈ K, 1 ≤ k) (hd : ∀ k ∈ Fm g m, k ∉ K) : PmAt w' g B m :=
  h.keep (h.laid.tr ht hK) fun k hk => ht.block k (h.lt k hk).2 (hd k hk)
theorem PmAt.gr {w w' : World} {g : Nat} {B : Int} {m : Pm} (h : PmAt w g B m) (hb : Below w.heap.size w w') : PmAt w' g B m := h.keep (h.laid.gr hb) fun k hk => hb.block k (h.lt k hk).2
theorem PmAt.ne {w : World} {g : Nat} {B : Int} {m : Pm} (h : PmAt w g B m) : (∀ k ∈ blk m.fv, k ≠ g) ∧ (∀ k ∈ blk m.lv, k ≠ g) :=
  ⟨blk_ne_g h.fo.own h.row (by decide), blk_ne_g h.lo.own h.row (by decide)⟩
/-- The row of the free ones has turned. -/
theorem PmAt.setF {w w' : World} {g : Nat} {B : Int} {m : Pm} {ws : List Nat} (h : PmAt w g B m) (hw : WAt w' m.fv ws) (ht : Tr (blk m.fv) w w') : PmAt w' g B { m with fr := ws } :=
  ⟨h.laid.tr ht fun k hk => (h.fo.lt k hk).1, ht.heap h.row fun hk => h.ne.1 g hk rfl, hw, h.lo.keep fun k hk => ht.block k (h.lo.lt k hk).2 fun hf => h.apart k hf hk, h.apart, h.pos⟩
theorem PmAt.setL {w w' : World} {g : Nat} {B : Int} {m : Pm} {ws : List Nat} (h : PmAt w g B m) (hw : WAt w' m.lv ws) (ht : Tr (blk m.lv) w w') : PmAt w' g B { m with le := ws } :=
  ⟨h.laid.tr ht fun k hk => (h.lo.lt k hk).1, ht.heap h.row fun hk => h.ne.2 g hk rfl, h.fo.keep fun k hk => ht.block k (h.fo.lt k hk).2 fun hf => h.apart k hk hf, hw, h.apart, h.pos⟩
theorem cells3' {w : World} {g : Nat} {c0 c1 c2 : Value} {t : TypeId} {fr : Nat × Nat} (h : w.heap[g]? = some (.cells #[c0, c1, c2] t fr)) :
    w.cell? ⟨g, 0, none⟩ = some c0 ∧ w.cell? ⟨g, 1, none⟩ = some c1 ∧ w.cell? ⟨g, 2, none⟩ = some c2 :=
  ⟨by rw [cell_of_row w g _ _ _ _ h]; rfl, by rw [cell_of_row w g _ _ _ _ h]; rfl, by rw [cell_of_row w g _ _ _ _ h]; rfl⟩
theorem wrap64_in {n : Int} (h0 : -9223372036854775808 ≤ n) (h1 : n ≤ 9223372036854775807) : wrap64 n = n := by unfold wrap64; omega
end Go.Proofs.YtoemghinolekgaaDoor.Pl
