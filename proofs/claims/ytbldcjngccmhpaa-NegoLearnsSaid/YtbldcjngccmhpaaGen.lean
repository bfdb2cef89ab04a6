/-
  What serves every layer: bytes as numbers, cells of small structs, rows of the call's own that grow, results in cells.
-/
import Derived.Test.YtbldcjngccmhpaaOnly
import Derived.Test.YtbldcjngccmhpaaPut
import Derived.Test.YtbldcjngccmhpaaOwnC
namespace Go.Proofs.Ytbldcjngccmhpaa
open Go.RowKit
set_option linter.unusedVariables false
set_option linter.unusedSimpArgs false

theorem take2_eq (l : List UInt8) (h : 2 ≤ l.length) : takeN l 2 = 256 * l[0].toNat + l[1].toNat := by
  rw [takeN_succ _ 1 (by omega), takeN_succ _ 0 (by omega), takeN_zero]
  omega
theorem infoS : (Try.prog.info? 40).map (fun i => (i.zero, i.size, i.bytes)) = some (some (.slice none 0 0), 1, 24) := by kernel_rfl
theorem i64_and1 (n : Int) : bits .and .i64 n 1 = n % 2 := by
  have h1 : (BitVec.ofInt 64 1).toNat = 2 ^ 1 - 1 := by decide
  have key : (BitVec.ofInt 64 n &&& BitVec.ofInt 64 1).toNat = (n % ((2 ^ 64 : Nat) : Int)).toNat % 2 ^ 1 := by
    rw [BitVec.toNat_and, BitVec.toNat_ofInt, h1, Nat.and_two_pow_sub_one_eq_mod]
  show IntKind.i64.wrap ((BitVec.ofInt 64 n &&& BitVec.ofInt 64 1).toNat : Nat) = n % 2
  rw [key, IntKind.wrap_i64]
  omega
/-- Byte i of a row, as a number. -/
def bN (l : List UInt8) (i : Nat) : Nat := (l.getD i 0).toNat
theorem bN_lt (l : List UInt8) (i : Nat) : bN l i < 256 := UInt8.toNat_lt _
theorem bN_get (l : List UInt8) (i : Nat) (h : i < l.length) : bN l i = l[i].toNat := by simp [bN, List.getD, h]
theorem ofNat_toNat8 (n : Nat) (h : n < 256) : (UInt8.ofNat n).toNat = n := by rw [UInt8.toNat_ofNat']; omega
/-- The bytes of a text. -/
def bl (s : ByteArray) : List UInt8 := s.data.toList
theorem bl_length (s : ByteArray) : (bl s).length = s.size := by unfold bl; rw [Array.length_toList]; rfl
theorem takeN_eq1 (l : List UInt8) (h : 1 ≤ l.length) : takeN l 1 = bN l 0 := by
  rw [takeN_succ _ 0 (by omega), takeN_zero, bN_get _ _ (by omega)]
  omega
theorem takeN_eq2 (l : List UInt8) (h : 2 ≤ l.length) : takeN l 2 = 256 * bN l 0 + bN l 1 := by
  rw [take2_eq _ h, bN_get _ _ (by omega), bN_get _ _ (by omega)]
theorem bN_drop (l : List UInt8) (k i : Nat) : bN (l.drop k) i = bN l (k + i) := by simp [bN, List.getD, List.getElem?_drop]
theorem bN_take (l : List UInt8) (k i : Nat) (h : i < k) : bN (l.take k) i = bN l i := by simp [bN, List.getD, List.getElem?_take, h]

/-- A block of one element type is none of another's. -/
theorem own_ne_block {w : World} {base base' : Nat} {e e' : TypeId} {size size' n n' : Nat} {v v' : Value} {xs xs' : List Value} (h : w.ownsRow base e size v n xs) (h' : w.ownsRow base' e' size' v' n' xs') (he : e ≠ e') :
    v.ownBlock = none ∨ v.ownBlock ≠ v'.ownBlock := by
  rcases h.2 with ⟨rfl, _⟩ | ⟨g, cap, cur, rfl, hb, hg, _⟩
  · exact .inl rfl
  · rcases h'.2 with ⟨rfl, _⟩ | ⟨g', cap', cur', rfl, hb', hg', _⟩
    · exact .inr (by simp [Value.ownBlock])
    · refine .inr fun e1 => he ?_
      simp only [Value.ownBlock, Option.some.injEq] at e1
      subst e1
      rw [hg] at hg'
      simp only [Option.some.injEq, Obj.cells.injEq] at hg'
      exact hg'.2.1
theorem OwnB.kept {w w' : World} {base : Nat} {e : TypeId} {v : Value} {l : List UInt8} {row : Option Nat} (h : OwnB w base e v l) (hg : w.grownBy w' row) (hne : v.ownBlock = none ∨ v.ownBlock ≠ row) : OwnB w' base e v l := World.ownsRow.kept h hg hne

theorem grown_below {w w' : World} {base : Nat} {e : TypeId} {size n : Nat} {v : Value} {xs : List Value} (h : w.ownsRow base e size v n xs) (hb : base ≤ w.heap.size) (hg : w.grownBy w' v.ownBlock) : Below base w w' :=
  (Below.refl _ _).grown hg hb fun k hk => (h.lt k hk).1
theorem Bs.oneCell {w : World} {v : Value} {l : List UInt8} (h : Bs w v l) : v.oneCell' = true := by
  obtain ⟨_, _, ev, _⟩ := h.shape
  rw [ev]; rfl
theorem Bs.sl {w : World} {v : Value} {l : List UInt8} (h : Bs w v l) : ∃ A L C, v = .slice A L C ∧ l.length = L ∧ L ≤ C ∧ C ≤ maxLen := by
  obtain ⟨A, C, ev, h1, h2⟩ := h.shape
  exact ⟨A, _, C, ev, rfl, h1, h2⟩
/-- A block of another element type stands where a row of the call's own grows. -/
theorem grown_heap {w w' : World} {base : Nat} {e e' : TypeId} {size n g : Nat} {v : Value} {xs : List Value} {cs : Array Value} {fr : Nat × Nat} (h : w.ownsRow base e size v n xs) (hg : w.grownBy w' v.ownBlock) (hc : w.heap[g]? = some (.cells cs e' fr)) (he : e ≠ e') : w'.heap[g]? = some (.cells cs e' fr) := by
  rw [hg.block g (Array.getElem?_eq_some_iff.1 hc).1 ?_]
  · exact hc
  · intro e1
    rcases h.2 with ⟨rfl, _⟩ | ⟨g', cap, cur, rfl, hb, hg', _⟩
    · cases e1
    · simp only [Value.ownBlock, Option.some.injEq] at e1
      subst e1
      rw [hg'] at hc
      simp only [Option.some.injEq, Obj.cells.injEq] at hc
      exact he hc.2.1
/-- The cells of a copy of a tag. -/
theorem copy_cells {w : World} {g : Nat} {x y : Value} {t : TypeId} {fr : Nat × Nat} (h : w.heap[g]? = some (.cells #[x, y] t fr)) : w.cell? ⟨g, 0, none⟩ = some x ∧ w.cell? ⟨g, 1, none⟩ = some y :=
  ⟨by rw [cell_of_row w g _ _ _ _ h]; rfl, by rw [cell_of_row w g _ _ _ _ h]; rfl⟩
section
variable {P : Program}
/-- 'append(s, x...)': s the call's own, x whatever; all other blocks stand. -/
theorem wp_append_gr (w : World) {o : Oper} {a : Act} {K : Act → World → Prop} {Q : Exit → Act → World → Prop} (d : Option Tmp) (s x : Operand) (t : TypeId)
    (ho : o.op = .call { callee := .builtin .append, args := #[s, x], argTypes := #[t, t] })
    (base : Nat) (e : TypeId) (i : TypeInfo) (z : Value) (size bytes : Nat) (ht : P.underlying t = some (.slice e)) (hi : P.info? e = some i) (hz : i.zero = some z)
    (hsize : i.size = size) (hby : i.bytes = bytes) (hzs : z.cells.size = size) (hsz : 0 < size)
    (v : Value) (n : Nat) (xs : List Value) (hs : a.eval s = v) (hown : w.ownsRow base e size v n xs)
    (y : Value) (m : Nat) (ys : List Value) (hx : a.eval x = y) (hy : Rd w size y m ys) (h1 : ∀ u ∈ ys, u.oneCell' = true)
    (hbytes : (n + m) * bytes ≤ 140737488355328) (hb1 : 0 < bytes) (hbase : base ≤ w.heap.size) (hd : o.dst = d)
    (h : ∀ v' w', w'.ownsRow base e size v' (n + m) (xs ++ ys) → w.grownBy w' v.ownBlock → K (a.put d v') w') : o.wp P a w K Q := by
  have h63 : n + m ≤ maxLen := by
    have : n + m ≤ (n + m) * bytes := Nat.le_mul_of_pos_right _ hb1
    unfold maxLen; omega
  subst hd
  obtain ⟨h0, ao, cap, rfl, g1, g2, g3, g4⟩ := hy
  cases ao with
  | none =>
    have := g3 rfl
    subst this
    have hm : m = 0 := by omega
    subst hm
    have hl : ys = [] := List.eq_nil_of_length_eq_zero (by simpa using h0)
    subst hl
    have hrun := run_append_owned_none (P := P) (w := w) base t o.type e i size ht hi v n xs hown
    unfold Oper.wp
    simp [execOp, ho, resolve, invoke, builtin, hs, hx, hrun, Result.andThen]
    exact h v w (by simpa using hown) ⟨rfl, rfl, rfl, Nat.le_refl _, fun _ _ _ => rfl⟩
  | some ad =>
    exact wp_append_own w s x t ho base e i z size bytes ht hi hz hsize hby hzs hsz v n xs hs hown ad m cap ys hx h0 (g4 ad rfl) h1 h63 hbytes hbase fun v' w' k1 k2 k3 => h v' w' k1 k2
theorem wpList_append_gr (w : World) {ops : Array Oper} {rest : List Oper} {o : Oper} {a : Act} {Q : Exit → Act → World → Prop} (hgd : o.guard = none) (s x : Operand) (t : TypeId)
    (ho : o.op = .call { callee := .builtin .append, args := #[s, x], argTypes := #[t, t] })
    (base : Nat) (e : TypeId) (i : TypeInfo) (z : Value) (size bytes : Nat) (ht : P.underlying t = some (.slice e)) (hi : P.info? e = some i) (hz : i.zero = some z)
    (hsize : i.size = size) (hby : i.bytes = bytes) (hzs : z.cells.size = size) (hsz : 0 < size)
    (v : Value) (n : Nat) (xs : List Value) (hs : a.eval s = v) (hown : w.ownsRow base e size v n xs)
    (y : Value) (m : Nat) (ys : List Value) (hx : a.eval x = y) (hy : Rd w size y m ys) (h1 : ∀ u ∈ ys, u.oneCell' = true)
    (hbytes : (n + m) * bytes ≤ 140737488355328) (hb1 : 0 < bytes) (hbase : base ≤ w.heap.size)
    (h : ∀ v' w', w'.ownsRow base e size v' (n + m) (xs ++ ys) → w.grownBy w' v.ownBlock → wpList P ops Q rest (a.put o.dst v') w') : wpList P ops Q (o :: rest) a w :=
  wpList_plain hgd fun K hK => wp_append_gr w o.dst s x t ho base e i z size bytes ht hi hz hsize hby hzs hsz v n xs hs hown y m ys hx hy h1 hbytes hb1 hbase rfl fun v' w' k1 k2 => hK _ _ (h v' w' k1 k2)
end
theorem cells3 {w : World} {g : Nat} {x y z : Value} {t : TypeId} {fr : Nat × Nat} (h : w.heap[g]? = some (.cells #[x, y, z] t fr)) : w.cell? ⟨g, 0, none⟩ = some x ∧ w.cell? ⟨g, 1, none⟩ = some y ∧ w.cell? ⟨g, 2, none⟩ = some z :=
  ⟨by rw [cell_of_row w g _ _ _ _ h]; rfl, by rw [cell_of_row w g _ _ _ _ h]; rfl, by rw [cell_of_row w g _ _ _ _ h]; rfl⟩
theorem cells8 {w : World} {g : Nat} {a b c d e f k l : Value} {t : TypeId} {fr : Nat × Nat} (h : w.heap[g]? = some (.cells #[a, b, c, d, e, f, k, l] t fr)) :
    w.cell? ⟨g, 0, none⟩ = some a ∧ w.cell? ⟨g, 1, none⟩ = some b ∧ w.cell? ⟨g, 2, none⟩ = some c ∧ w.cell? ⟨g, 3, none⟩ = some d ∧ w.cell? ⟨g, 4, none⟩ = some e ∧ w.cell? ⟨g, 5, none⟩ = some f ∧ w.cell? ⟨g, 6, none⟩ = some k ∧ w.cell? ⟨g, 7, none⟩ = some l :=
  ⟨by rw [cell_of_row w g _ _ _ _ h]; rfl, by rw [cell_of_row w g _ _ _ _ h]; rfl, by rw [cell_of_row w g _ _ _ _ h]; rfl, by rw [cell_of_row w g _ _ _ _ h]; rfl, by rw [cell_of_row w g _ _ _ _ h]; rfl, by rw [cell_of_row w g _ _ _ _ h]; rfl, by rw [cell_of_row w g _ _ _ _ h]; rfl, by rw [cell_of_row w g _ _ _ _ h]; rfl⟩
theorem cell1 {w : World} {g : Nat} {x : Value} {t : TypeId} {fr : Nat × Nat} (h : w.heap[g]? = some (.cells #[x] t fr)) : w.cell? ⟨g, 0, none⟩ = some x := by rw [cell_of_row w g _ _ _ _ h]; rfl
theorem OwnB.of_app {w : World} {base : Nat} {e : TypeId} {v : Value} {l m : List UInt8} {n k : Nat} (h : w.ownsRow base e 1 v (n + k) (l.map u8v ++ m.map u8v)) (h1 : l.length = n) (h2 : m.length = k) : OwnB w base e v (l ++ m) := by
  unfold OwnB
  rw [List.length_append, h1, h2, List.map_append]
  exact h
theorem heap2_0' (w : World) (o p : Obj) : ((w.alloc o).alloc p).heap[w.heap.size]? = some o := by
  rw [Below.heap_alloc _ _ _ (by simp), heap_alloc_last]
theorem heap2_1' (w : World) (o p : Obj) : ((w.alloc o).alloc p).heap[w.heap.size + 1]? = some p := by
  have := heap_alloc_last (w.alloc o) p
  rwa [World.size_alloc] at this
theorem set3 {w : World} {g : Nat} {t : TypeId} {z0 z1 z2 : Value} (h : w.heap[g]? = some (.cells #[z0, z1, z2] t (0, 0))) (a b c : Value) :
    (((w.setCell ⟨g, 0, none⟩ a).setCell ⟨g, 1, none⟩ b).setCell ⟨g, 2, none⟩ c).heap[g]? = some (.cells #[a, b, c] t (0, 0)) :=
  heap_setCell_same _ g 2 _ t c (heap_setCell_same _ g 1 _ t b (heap_setCell_same _ g 0 _ t a h))
theorem own_set3 {w : World} {base g : Nat} {e : TypeId} {v : Value} {l : List UInt8} (h : OwnB w base e v l) (hg : g < base) (a b c : Value) : OwnB (((w.setCell ⟨g, 0, none⟩ a).setCell ⟨g, 1, none⟩ b).setCell ⟨g, 2, none⟩ c) base e v l :=
  ownsRow_setCell_below (ownsRow_setCell_below (ownsRow_setCell_below h hg a) hg b) hg c
/-- A slice just made is the call's own. -/
theorem own_new (w : World) (l : List Value) (e : TypeId) (n size : Nat) (hn : l.length = n * size) (hm : n ≤ maxLen) : (w.alloc (.cells l.toArray e)).ownsRow w.heap.size e size (.slice (some ⟨w.heap.size, 0, none⟩) n n) n l := by
  refine ⟨hn, .inr ⟨w.heap.size, n, l.toArray, rfl, Nat.le_refl _, heap_alloc_last _ _, Nat.le_refl _, hm, ?_, ?_⟩⟩
  · simpa using hn
  · simp [← hn]
theorem Bs.same_block {w w' : World} {b o n c : Nat} {l : List UInt8} (h : Bs w (.slice (some ⟨b, o, none⟩) n c) l) (hg : w'.heap[b]? = w.heap[b]?) : Bs w' (.slice (some ⟨b, o, none⟩) n c) l := by
  obtain ⟨h0, ao, cap, e, h1, h2, h3, h4⟩ := h
  refine ⟨h0, ao, cap, e, h1, h2, h3, fun ad had j u hu => ?_⟩
  simp only [Value.slice.injEq] at e
  have e1 := e.1
  rw [had] at e1
  obtain rfl := Option.some.inj e1
  have := h4 _ had j u hu
  rw [Addr.add_lit] at this ⊢
  rw [World.cell?_of_block (w := w) hg]
  exact this
theorem results_cell_tmp_tmp_row {P : Program} {fn : Func} {p u u2 : Tmp} {ty : TypeId} (h : fn.results = #[.cell p ty, .tmp u, .tmp u2]) (tmps : Array Value) (w : World) (g : Nat) (t : TypeId) (cs : Array Value) (fr : Nat × Nat) (d : TypeDesc)
    (hp : tmps.getD p undef = .pointer (some ⟨g, 0, none⟩)) (hg : w.heap[g]? = some (.cells cs t fr))
    (hu : P.underlying ty = some d) (hd : (match d with | .struct _ | .array _ _ => true | _ => false) = true) (hi : (P.info? ty).map (·.size) = some cs.size) :
    (results fn tmps).run P w = .ok (.tuple #[.agg cs, tmps.getD u undef, tmps.getD u2 undef]) w := by
  have hp' : tmps[p]?.getD undef = .pointer (some ⟨g, 0, none⟩) := by simpa using hp
  have hr := run_loadVar_row w g t ty cs fr d hg hu hd hi
  simp only [results, h]
  simp [Sem.run_bind, Result.andThen, hp', asAddr, hr]

theorem set2 {w : World} {g : Nat} {t : TypeId} {z0 z1 : Value} (h : w.heap[g]? = some (.cells #[z0, z1] t (0, 0))) (a b : Value) :
    ((w.setCell ⟨g, 0, none⟩ a).setCell ⟨g, 1, none⟩ b).heap[g]? = some (.cells #[a, b] t (0, 0)) :=
  heap_setCell_same _ g 1 _ t b (heap_setCell_same _ g 0 _ t a h)
theorem take_u8' (l : List UInt8) (k : Nat) : (l.map u8v).take (k * 1) = (l.take k).map u8v := by simp

theorem own_ne_cell {w : World} {base g : Nat} {e e' : TypeId} {size n : Nat} {v : Value} {xs : List Value} {cs : Array Value} {fr : Nat × Nat} (h : w.ownsRow base e size v n xs) (hc : w.heap[g]? = some (.cells cs e' fr)) (he : e ≠ e') : v.ownBlock ≠ some g := by
  intro e1
  rcases h.2 with ⟨rfl, _⟩ | ⟨g', cap, cur, rfl, hb, hg', _⟩
  · cases e1
  · simp only [Value.ownBlock, Option.some.injEq] at e1
    subst e1
    rw [hg'] at hc
    simp only [Option.some.injEq, Obj.cells.injEq] at hc
    exact he hc.2.1
theorem text_ne {s t : ByteArray} (h : ¬ s = t) : (s.toList == t.toList) = false := by
  rw [beq_eq_false_iff_ne]
  intro e
  apply h
  rw [ByteArray.toList_eq, ByteArray.toList_eq] at e
  have := Array.toList_inj.1 e
  cases s; cases t
  exact congrArg ByteArray.mk this
/-- 'append(s, x...)': s the call's own, x not empty: what is told is read, and so is s. -/
theorem wpList_append_keep {P : Program} (w : World) {ops : Array Oper} {rest : List Oper} {o : Oper} {a : Act} {Q : Exit → Act → World → Prop} (hgd : o.guard = none) (s x : Operand) (t : TypeId)
    (ho : o.op = Op.call { callee := Callee.builtin Builtin.append, args := #[s, x], argTypes := #[t, t] })
    (base : Nat) (e : TypeId) (i : TypeInfo) (z : Value) (bytes : Nat) (ht : P.underlying t = some (.slice e)) (hi : P.info? e = some i) (hz : i.zero = some z)
    (hsize : i.size = 1) (hby : i.bytes = bytes) (hzs : z.cells.size = 1)
    (v : Value) (n : Nat) (xs : List Value) (hs : a.eval s = v) (hown : OwnC w base v n xs)
    (y : Value) (m : Nat) (ys : List Value) (hx : a.eval x = y) (hy : Rd w 1 y m ys) (hm : 0 < m) (h1 : ∀ u ∈ ys, u.oneCell' = true)
    (hbytes : (n + m) * bytes ≤ 140737488355328) (hb1 : 0 < bytes) (hbase : base ≤ w.heap.size)
    (h : ∀ v' w', Rd w' 1 v' (n + m) (xs ++ ys) → Rd w' 1 v n xs → Below base w w' → wpList P ops Q rest (a.put o.dst v') w') : wpList P ops Q (o :: rest) a w := by
  have h63 : n + m ≤ maxLen := by
    have : n + m ≤ (n + m) * bytes := Nat.le_mul_of_pos_right _ hb1
    unfold maxLen; omega
  have hrd := hown.rd
  obtain ⟨h0, g, cap, rfl, k1, k2, k3, k4, k5, k6, k7⟩ := hown
  obtain ⟨hl, ao, c, rfl, g1, g2, g3, g4⟩ := hy
  cases ao with
  | none => have := g3 rfl; omega
  | some ad =>
    refine wpList_append_arg w hgd s x t ho e i z 1 bytes ht hi hz hsize hby hzs (by decide) g 0 n cap xs hs (by omega) (fun j u hu => by rw [Nat.zero_add]; exact k5 j u hu) ad m c ys hx hl (g4 ad rfl) h1 (fun hr j hj => by
      rw [show 0 + n * 1 + j = n + j by omega]
      exact ⟨k6 _ (by omega), k7 _ (by omega)⟩) h63 hbytes (fun hr => ?_) (fun hr v' w' r1 r2 => ?_)
    · have hk : ∀ j u, xs[j]? = some u → (w.setCells g (0 + n * 1) ys).cell? ⟨g, j, none⟩ = some u := fun j u hu => by
        have hj := (List.getElem?_eq_some_iff.1 hu).1
        rw [World.cell?_setCells_out g ys (0 + n * 1) w ⟨g, j, none⟩ (fun _ _ => .inl (by show j < _; omega))]
        exact k5 j u hu
      refine h _ _ (OwnC.rd (base := base) ⟨by rw [List.length_append]; omega, g, cap, rfl, k1, ?_, hr, k4, fun j u hu => ?_, fun j hj => ?_, fun j hj => ?_⟩) (OwnC.rd (base := base) ⟨h0, g, cap, rfl, k1, ?_, k3, k4, hk, fun j hj => ?_, fun j hj => ?_⟩) ((only_setCells ys (0 + n * 1) w).below base w k1 (Below.refl _ _))
      · exact Nat.lt_of_lt_of_le k2 (only_setCells (g := g) ys (0 + n * 1) w).size
      · by_cases hj : j < xs.length
        · rw [List.getElem?_append_left hj] at hu
          exact hk j u hu
        · rw [List.getElem?_append_right (by omega)] at hu
          have hj2 := (List.getElem?_eq_some_iff.1 hu).1
          have := World.cell?_setCells_in g ys (0 + n * 1) w (fun i hi => k6 _ (by omega)) (j - xs.length) hj2
          rw [show 0 + n * 1 + (j - xs.length) = j by omega] at this
          rw [this, ← hu, List.getElem?_eq_getElem hj2]
      · by_cases hj2 : j < n ∨ n + m ≤ j
        · rw [World.cell?_setCells_out g ys (0 + n * 1) w ⟨g, j, none⟩ (fun _ _ => by show j < _ ∨ _ ≤ j; omega)]
          exact k6 j hj
        · have := World.cell?_setCells_in g ys (0 + n * 1) w (fun i hi => k6 _ (by omega)) (j - n) (by omega)
          rw [show 0 + n * 1 + (j - n) = j by omega] at this
          rw [this]; rfl
      · rw [World.frozen?_setCells]
        exact k7 j hj
      · exact Nat.lt_of_lt_of_le k2 (only_setCells (g := g) ys (0 + n * 1) w).size
      · by_cases hj2 : j < n ∨ n + m ≤ j
        · rw [World.cell?_setCells_out g ys (0 + n * 1) w ⟨g, j, none⟩ (fun _ _ => by show j < _ ∨ _ ≤ j; omega)]
          exact k6 j hj
        · have := World.cell?_setCells_in g ys (0 + n * 1) w (fun i hi => k6 _ (by omega)) (j - n) (by omega)
          rw [show 0 + n * 1 + (j - n) = j by omega] at this
          rw [this]; rfl
      · rw [World.frozen?_setCells]
        exact k7 j hj
    · have hbl : Below w.heap.size w w' := (Below.refl _ _).grown r2 (Nat.le_refl _) (fun _ h => by cases h)
      exact h v' w' (OwnC.rd (base := base) (ownC_of (e := e) (ownsRow_mono r1 hbase) (by omega))) (hrd.below hbl) (hbl.mono hbase)
end Go.Proofs.Ytbldcjngccmhpaa
