/-
  A slice of the call's own whose block may bear a conversion's mark: '[]byte(s)', and 'append' onto it.
-/
import Derived.Test.YtbldcjngccmhpaaOnly
import Derived.ArgAppend
namespace Go.Proofs.Ytbldcjngccmhpaa
open Go.RowKit
set_option linter.unusedVariables false
set_option linter.unusedSimpArgs false

/-- v is a slice of one-cell elements that reads xs; its block lies from base on, and none of its cells is frozen. -/
def OwnC (w : World) (base : Nat) (v : Value) (n : Nat) (xs : List Value) : Prop :=
  xs.length = n ∧ ∃ g cap, v = .slice (some ⟨g, 0, none⟩) n cap ∧ base ≤ g ∧ g < w.heap.size ∧ n ≤ cap ∧ cap ≤ maxLen ∧ (∀ j u, xs[j]? = some u → w.cell? ⟨g, j, none⟩ = some u) ∧
    (∀ j, j < cap → (w.cell? ⟨g, j, none⟩).isSome = true) ∧ ∀ j, j < cap → w.frozen? ⟨g, j, none⟩ = false
theorem OwnC.rd {w : World} {base n : Nat} {v : Value} {xs : List Value} (h : OwnC w base v n xs) : Rd w 1 v n xs := by
  obtain ⟨h0, g, cap, rfl, h1, h2, h3, h4, h5, h6, h7⟩ := h
  refine ⟨by omega, _, cap, rfl, h3, h4, (fun h => by cases h), fun ad had j u hu => ?_⟩
  obtain rfl := Option.some.inj had
  rw [Addr.add_lit, Nat.zero_add]
  exact h5 j u hu
theorem OwnC.below {w w' : World} {base n : Nat} {v : Value} {xs : List Value} (h : OwnC w base v n xs) (hb : Below w.heap.size w w') : OwnC w' base v n xs := by
  obtain ⟨h0, g, cap, rfl, h1, h2, h3, h4, h5, h6, h7⟩ := h
  have hg : w'.heap[g]? = w.heap[g]? := hb.block g h2
  have hc : ∀ j, w'.cell? ⟨g, j, none⟩ = w.cell? ⟨g, j, none⟩ := fun j => World.cell?_of_block (w := w) hg
  have hf : ∀ j, w'.frozen? ⟨g, j, none⟩ = w.frozen? ⟨g, j, none⟩ := fun j => World.frozen?_of_block (w := w) hg
  exact ⟨h0, g, cap, rfl, h1, Nat.lt_of_lt_of_le h2 hb.size, h3, h4, fun j u hu => by rw [hc]; exact h5 j u hu, fun j hj => by rw [hc]; exact h6 j hj, fun j hj => by rw [hf]; exact h7 j hj⟩
theorem ownC_of {w : World} {base n : Nat} {e : TypeId} {v : Value} {xs : List Value} (h : w.ownsRow base e 1 v n xs) (hn : 0 < n) : OwnC w base v n xs := by
  obtain ⟨h0, ⟨_, h2⟩ | ⟨g, cap, cur, h1, h2, h3, h4, h5, h6, h7⟩⟩ := h
  · omega
  · have hs : cur.size = cap := by omega
    refine ⟨by omega, g, cap, h1, h2, (Array.getElem?_eq_some_iff.1 h3).1, h4, h5, fun j u hu => ?_, fun j hj => ?_, fun j _ => frozen_of_row _ _ _ _ _ h3⟩
    · rw [cell_of_row _ _ _ _ _ _ h3]
      rw [← h7, List.getElem?_take] at hu
      split at hu
      · simpa using hu
      · cases hu
    · rw [cell_of_row _ _ _ _ _ _ h3, Array.getElem?_eq_getElem (by omega)]
      rfl
/-- '[]byte(s)'. -/
theorem ownC_string (w : World) (e : TypeId) (s : ByteArray) (hs : s.size ≤ maxLen) :
    OwnC (w.drew.alloc (.cells (bytesRow s (grownCap w s.size 0 e)) e ((bytesRow s (grownCap w s.size 0 e)).size, (bytesRow s (grownCap w s.size 0 e)).size + 1))) w.heap.size (.slice (some ⟨w.heap.size, 0, none⟩) s.size (grownCap w s.size 0 e)) s.size (s.data.toList.map u8v) := by
  have h1 := grownCap_ge w s.size 0 e
  have h2 := grownCap_le_maxLen w s.size 0 e hs
  have hd : s.data.size = s.size := rfl
  obtain ⟨c, hc⟩ : ∃ c, c = grownCap w s.size 0 e := ⟨_, rfl⟩
  rw [← hc] at h1 h2 ⊢
  have hsz : (bytesRow s c).size = c := by simp [bytesRow]; omega
  have hdr : w.drew.heap.size = w.heap.size := rfl
  have hg := heap_alloc_last w.drew (.cells (bytesRow s c) e ((bytesRow s c).size, (bytesRow s c).size + 1))
  rw [hdr] at hg
  refine ⟨by simp, w.heap.size, c, rfl, Nat.le_refl _, by simp, h1, h2, fun j u hu => ?_, fun j hj => ?_, fun j hj => ?_⟩
  · rw [cell_of_row _ _ _ _ _ _ hg]
    have hj := (List.getElem?_eq_some_iff.1 hu).1
    rw [List.length_map] at hj
    have hj2 : j < s.data.size := by simpa using hj
    unfold bytesRow
    rw [Array.getElem?_append_left (by simpa using hj2)]
    simp only [List.getElem?_map, Option.map_eq_some_iff] at hu
    obtain ⟨b, hb, rfl⟩ := hu
    have hb2 : s.data[j]? = some b := by simpa using hb
    simp [hb2, u8v]
  · rw [cell_of_row _ _ _ _ _ _ hg, Array.getElem?_eq_getElem (by omega)]; rfl
  · unfold World.frozen?
    rw [show (⟨w.heap.size, j, none⟩ : Addr).block = w.heap.size from rfl, hg]
    have : ¬ (bytesRow s c).size ≤ j := by omega
    simp [this]
/-- '[]byte(s)', as a walk meets it. -/
theorem string_bytes {P : Program} {src dst e : TypeId} (hs : P.underlying src = some .string) (hd : P.underlying dst = some (.slice e)) (he : P.underlying e = some (.int .u8)) (s : ByteArray) (hm : s.size ≤ maxLen) (w : World) :
    ∃ c W1, (convert src dst (.string s)).run P w = .ok (.slice (some ⟨w.heap.size, 0, none⟩) s.size c) W1 ∧ OwnC W1 w.heap.size (.slice (some ⟨w.heap.size, 0, none⟩) s.size c) s.size (s.data.toList.map u8v) ∧ Below w.heap.size w W1 :=
  ⟨_, _, run_bytes_of_string w src dst e s hs hd he, ownC_string w e s hm, (Gr.drew w).trans ((Below.refl _ _).alloc (Nat.le_refl _) _)⟩
/-- 'append(s, x...)': s such a slice, x whatever that is not empty. -/
theorem wpList_append_c {P : Program} (w : World) {ops : Array Oper} {rest : List Oper} {o : Oper} {a : Act} {Q : Exit → Act → World → Prop} (hgd : o.guard = none) (s x : Operand) (t : TypeId)
    (ho : o.op = Op.call { callee := Callee.builtin Builtin.append, args := #[s, x], argTypes := #[t, t] })
    (base : Nat) (e : TypeId) (i : TypeInfo) (z : Value) (bytes : Nat) (ht : P.underlying t = some (.slice e)) (hi : P.info? e = some i) (hz : i.zero = some z)
    (hsize : i.size = 1) (hby : i.bytes = bytes) (hzs : z.cells.size = 1)
    (v : Value) (n : Nat) (xs : List Value) (hs : a.eval s = v) (hown : OwnC w base v n xs)
    (y : Value) (m : Nat) (ys : List Value) (hx : a.eval x = y) (hy : Rd w 1 y m ys) (hm : 0 < m) (h1 : ∀ u ∈ ys, u.oneCell' = true)
    (hbytes : (n + m) * bytes ≤ 140737488355328) (hb1 : 0 < bytes) (hbase : base ≤ w.heap.size)
    (h : ∀ v' w', OwnC w' base v' (n + m) (xs ++ ys) → Below base w w' → wpList P ops Q rest (a.put o.dst v') w') : wpList P ops Q (o :: rest) a w := by
  have h63 : n + m ≤ maxLen := by
    have : n + m ≤ (n + m) * bytes := Nat.le_mul_of_pos_right _ hb1
    unfold maxLen; omega
  obtain ⟨h0, g, cap, rfl, k1, k2, k3, k4, k5, k6, k7⟩ := hown
  obtain ⟨hl, ao, c, rfl, g1, g2, g3, g4⟩ := hy
  cases ao with
  | none => have := g3 rfl; omega
  | some ad =>
    refine wpList_append_arg w hgd s x t ho e i z 1 bytes ht hi hz hsize hby hzs (by decide) g 0 n cap xs hs (by omega) (fun j u hu => by rw [Nat.zero_add]; exact k5 j u hu) ad m c ys hx hl (g4 ad rfl) h1 (fun hr j hj => by
      rw [show 0 + n * 1 + j = n + j by omega]
      exact ⟨k6 _ (by omega), k7 _ (by omega)⟩) h63 hbytes (fun hr => ?_) (fun hr v' w' r1 r2 => ?_)
    · refine h _ _ ⟨by rw [List.length_append]; omega, g, cap, rfl, k1, ?_, hr, k4, fun j u hu => ?_, fun j hj => ?_, fun j hj => ?_⟩ ((only_setCells ys (0 + n * 1) w).below base w k1 (Below.refl _ _))
      · exact Nat.lt_of_lt_of_le k2 (only_setCells (g := g) ys (0 + n * 1) w).size
      · by_cases hj : j < xs.length
        · rw [List.getElem?_append_left hj] at hu
          rw [World.cell?_setCells_out g ys (0 + n * 1) w ⟨g, j, none⟩ (fun _ _ => .inl (by show j < _; omega))]
          exact k5 j u hu
        · rw [List.getElem?_append_right (by omega)] at hu
          have hj2 := (List.getElem?_eq_some_iff.1 hu).1
          have := World.cell?_setCells_in g ys (0 + n * 1) w (fun i hi => k6 _ (by omega)) (j - xs.length) hj2
          rw [show 0 + n * 1 + (j - xs.length) = j by omega] at this
          rw [this, ← hu, List.getElem?_eq_getElem hj2]
      · by_cases hj2 : j < n ∨ n + m ≤ j
        · rw [World.cell?_setCells_out g ys (0 + n * 1) w ⟨g, j, none⟩ (fun _ _ => by show j < _ ∨ _ ≤ j; omega)]
          exact k6 j hj
        · have := World.cell?_setCells_in g ys (0 + n * 1) w (fun i hi => k6 _ (by omega)) (j - n) (by omega)
          rw [show 0 + n * 1 + (j - n) = j by omega] at this
          rw [this]; rfl
      · rw [World.frozen?_setCells]
        exact k7 j hj
    · refine h v' w' (ownC_of (e := e) (ownsRow_mono r1 hbase) (by omega)) ((Below.refl _ _).grown r2 hbase (fun _ h => by cases h))
/-- 'append(s, x...)' under a guard that is met: s the call's own, x whatever that is not empty. -/
theorem wpList_append_g {P : Program} (w : World) {ops : Array Oper} {rest : List Oper} {o : Oper} {a : Act} {Q : Exit → Act → World → Prop} (hw : Region.wanted o (yielded ops a.tmps) = true) (s x : Operand) (t : TypeId)
    (ho : o.op = .call { callee := .builtin .append, args := #[s, x], argTypes := #[t, t] })
    (base : Nat) (e : TypeId) (i : TypeInfo) (z : Value) (size bytes : Nat) (ht : P.underlying t = some (.slice e)) (hi : P.info? e = some i) (hz : i.zero = some z)
    (hsize : i.size = size) (hby : i.bytes = bytes) (hzs : z.cells.size = size) (hsz : 0 < size)
    (v : Value) (n : Nat) (xs : List Value) (hs : a.eval s = v) (hown : w.ownsRow base e size v n xs)
    (y : Value) (m : Nat) (ys : List Value) (hx : a.eval x = y) (hy : Rd w size y m ys) (hm : 0 < m) (h1 : ∀ u ∈ ys, u.oneCell' = true)
    (hbytes : (n + m) * bytes ≤ 140737488355328) (hb1 : 0 < bytes) (hbase : base ≤ w.heap.size)
    (h : ∀ v' w', w'.ownsRow base e size v' (n + m) (xs ++ ys) → Below base w w' → wpList P ops Q rest (a.put o.dst v') w') : wpList P ops Q (o :: rest) a w := by
  have h63 : n + m ≤ maxLen := by
    have : n + m ≤ (n + m) * bytes := Nat.le_mul_of_pos_right _ hb1
    unfold maxLen; omega
  obtain ⟨h0, ao, cap, rfl, g1, g2, g3, g4⟩ := hy
  cases ao with
  | none => have := g3 rfl; omega
  | some ad =>
    refine wpList_step fun K hK => ?_
    rw [if_pos hw]
    exact wp_append_own w s x t ho base e i z size bytes ht hi hz hsize hby hzs hsz v n xs hs hown ad m cap ys hx h0 (g4 ad rfl) h1 h63 hbytes hbase fun v' w' k1 k2 k3 => hK _ _ (h v' w' k1 ((Below.refl _ _).grown k2 hbase fun k hk => (hown.lt k hk).1))
end Go.Proofs.Ytbldcjngccmhpaa
