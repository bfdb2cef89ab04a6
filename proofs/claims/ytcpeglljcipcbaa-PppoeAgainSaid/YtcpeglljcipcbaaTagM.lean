/-
  Rows of tags in memory: each tag is two cells (its type, its value, a slice of bytes).
-/
import Derived.Test.YtcpeglljcipcbaaTagP
import Derived.Test.YtcpeglljcipcbaaOnly
import Derived.Test.YtcpeglljcipcbaaTake
namespace Go.Proofs.Ytcpeglljcipcbaa
open Go.RowKit
set_option linter.unusedVariables false
set_option linter.unusedSimpArgs false

/-- A tag as it lies in memory: its type, its value's slice, the value's bytes. -/
structure Tg where
  typ : Int
  val : Value
  l : List UInt8
def Tg.plain (t : Tg) : PT := (t.typ, t.l)
def plain (ts : List Tg) : List PT := ts.map Tg.plain
def flat (ts : List Tg) : List Value := ts.flatMap fun t => [.int .i64 t.typ, t.val]
theorem flat_nil : flat [] = [] := rfl
theorem flat_cons (t : Tg) (ts : List Tg) : flat (t :: ts) = .int .i64 t.typ :: t.val :: flat ts := rfl
theorem flat_append (a b : List Tg) : flat (a ++ b) = flat a ++ flat b := by simp [flat]
theorem flat_length (ts : List Tg) : (flat ts).length = ts.length * 2 := by
  induction ts with
  | nil => rfl
  | cons t ts ih => rw [flat_cons, List.length_cons, List.length_cons, List.length_cons, ih]; omega
theorem flat_get (ts : List Tg) : ∀ (i : Nat) (h : i < ts.length), (flat ts)[i * 2]? = some (.int .i64 ts[i].typ) ∧ (flat ts)[i * 2 + 1]? = some ts[i].val := by
  induction ts with
  | nil => intro i h; simp at h
  | cons t ts ih =>
    intro i h
    cases i with
    | zero => exact ⟨rfl, rfl⟩
    | succ i =>
      have := ih i (by simpa using h)
      rw [flat_cons, show (i + 1) * 2 = i * 2 + 1 + 1 by omega]
      simpa using this
theorem plain_length (ts : List Tg) : (plain ts).length = ts.length := by simp [plain]
theorem plain_append (a b : List Tg) : plain (a ++ b) = plain a ++ plain b := by simp [plain]
theorem plain_nil : plain [] = [] := rfl
theorem plain_get (ts : List Tg) (i : Nat) (h : i < ts.length) : (plain ts)[i]'(by rw [plain_length]; exact h) = (ts[i].typ, ts[i].l) := by simp [plain, Tg.plain]

/-- v is a row of n tags that reads ts in w. -/
structure TR (w : World) (v : Value) (n : Nat) (ts : List Tg) : Prop where
  rd : Rd w 2 v n (flat ts)
  vals : ∀ t ∈ ts, Bs w t.val t.l
theorem TR.len {w : World} {v : Value} {n : Nat} {ts : List Tg} (h : TR w v n ts) : ts.length = n := by
  have := h.rd.1
  rw [flat_length] at this
  omega
theorem TR.below {w w' : World} {v : Value} {n : Nat} {ts : List Tg} (h : TR w v n ts) (hb : Below w.heap.size w w') : TR w' v n ts := ⟨h.rd.below hb, fun t ht => (h.vals t ht).below hb⟩
theorem TR.nil (w : World) : TR w (.slice none 0 0) 0 [] := ⟨Rd.nil w 2, fun t h => by cases h⟩
theorem TR.shape {w : World} {v : Value} {n : Nat} {ts : List Tg} (h : TR w v n ts) : ∃ ao cap, v = .slice ao n cap ∧ n ≤ cap ∧ cap ≤ maxLen := h.rd.shape
/-- Tag i's cells. -/
theorem TR.cells {w : World} {ao : Option Addr} {n c : Nat} {ts : List Tg} (h : TR w (.slice ao n c) n ts) (hn : 0 < n) :
    ∃ b o, ao = some ⟨b, o, none⟩ ∧ b < w.heap.size ∧ ∀ i (hi : i < ts.length), w.cell? ⟨b, o + i * 2, none⟩ = some (.int .i64 ts[i].typ) ∧ w.cell? ⟨b, o + i * 2 + 1, none⟩ = some ts[i].val := by
  obtain ⟨b, o, h1, h2, h3⟩ := Rd.cells h.rd hn (by omega)
  exact ⟨b, o, h1, h2, fun i hi => ⟨h3 _ _ (flat_get ts i hi).1, h3 _ _ (flat_get ts i hi).2⟩⟩
theorem TR.val {w : World} {v : Value} {n : Nat} {ts : List Tg} (h : TR w v n ts) (i : Nat) (hi : i < ts.length) : Bs w ts[i].val ts[i].l := h.vals _ (List.getElem_mem hi)

/-- A row of tags of the call's own, each value of the call's own. -/
structure TO (w : World) (base : Nat) (v : Value) (ts : List Tg) : Prop where
  own : w.ownsRow base 61 2 v ts.length (flat ts)
  vals : ∀ t ∈ ts, OwnB w base 5 t.val t.l
theorem TO.tr {w : World} {base : Nat} {v : Value} {ts : List Tg} (h : TO w base v ts) : TR w v ts.length ts := ⟨own_rd h.own, fun t ht => (h.vals t ht).bs⟩
theorem TO.nil (w : World) (base : Nat) : TO w base (.slice none 0 0) [] := ⟨World.ownsRow_nil w base _ 2, fun t h => by cases h⟩
theorem TO.below {w w' : World} {base : Nat} {v : Value} {ts : List Tg} (h : TO w base v ts) (hb : Below w.heap.size w w') : TO w' base v ts := ⟨ownsRow_below h.own hb, fun t ht => (h.vals t ht).below hb⟩
theorem TO.mono {w : World} {base base' : Nat} {v : Value} {ts : List Tg} (h : TO w base v ts) (hb : base' ≤ base) : TO w base' v ts := ⟨ownsRow_mono h.own hb, fun t ht => (h.vals t ht).mono hb⟩

/-- A block of one element type is none of another's. -/
theorem own_ne_block {w : World} {base base' : Nat} {e e' : TypeId} {size size' n n' : Nat} {v v' : Value} {xs xs' : List Value} (h : w.ownsRow base e size v n xs) (h' : w.ownsRow base' e' size' v' n' xs') (he : e ≠ e') :
    v.ownBlock = none ∨ v.ownBlock ≠ v'.ownBlock := by
  rcases h.2 with ⟨rfl, _⟩ | ⟨g, cap, cur, rfl, hb, hg, _⟩
  · exact .inl rfl
  · rcases h'.2 with ⟨rfl, _⟩ | ⟨g', cap', cur', rfl, hb', hg', _⟩
    · exact .inr (by simp [Value.ownBlock])
    · refine .inr fun e1 => he ?_
      simp only [Value.ownBlock, Option.some.injEq] at e1
      subst e1
      rw [hg] at hg'
      simp only [Option.some.injEq, Obj.cells.injEq] at hg'
      exact hg'.2.1
theorem OwnB.kept {w w' : World} {base : Nat} {e : TypeId} {v : Value} {l : List UInt8} {row : Option Nat} (h : OwnB w base e v l) (hg : w.grownBy w' row) (hne : v.ownBlock = none ∨ v.ownBlock ≠ row) : OwnB w' base e v l := World.ownsRow.kept h hg hne

section
variable {P : Program}
/-- 'append(s, x...)': s the call's own, x whatever; all other blocks stand. -/
theorem wp_append_gr (w : World) {o : Oper} {a : Act} {K : Act → World → Prop} {Q : Exit → Act → World → Prop} (d : Option Tmp) (s x : Operand) (t : TypeId)
    (ho : o.op = .call { callee := .builtin .append, args := #[s, x], argTypes := #[t, t] })
    (base : Nat) (e : TypeId) (i : TypeInfo) (z : Value) (size bytes : Nat) (ht : P.underlying t = some (.slice e)) (hi : P.info? e = some i) (hz : i.zero = some z)
    (hsize : i.size = size) (hby : i.bytes = bytes) (hzs : z.cells.size = size) (hsz : 0 < size)
    (v : Value) (n : Nat) (xs : List Value) (hs : a.eval s = v) (hown : w.ownsRow base e size v n xs)
    (y : Value) (m : Nat) (ys : List Value) (hx : a.eval x = y) (hy : Rd w size y m ys) (h1 : ∀ u ∈ ys, u.oneCell' = true)
    (hbytes : (n + m) * bytes ≤ 140737488355328) (hb1 : 0 < bytes) (hbase : base ≤ w.heap.size) (hd : o.dst = d)
    (h : ∀ v' w', w'.ownsRow base e size v' (n + m) (xs ++ ys) → w.grownBy w' v.ownBlock → K (a.put d v') w') : o.wp P a w K Q := by
  have h63 : n + m ≤ maxLen := by
    have : n + m ≤ (n + m) * bytes := Nat.le_mul_of_pos_right _ hb1
    unfold maxLen; omega
  subst hd
  obtain ⟨h0, ao, cap, rfl, g1, g2, g3, g4⟩ := hy
  cases ao with
  | none =>
    have := g3 rfl
    subst this
    have hm : m = 0 := by omega
    subst hm
    have hl : ys = [] := List.eq_nil_of_length_eq_zero (by simpa using h0)
    subst hl
    have hrun := run_append_owned_none (P := P) (w := w) base t o.type e i size ht hi v n xs hown
    unfold Oper.wp
    simp [execOp, ho, resolve, invoke, builtin, hs, hx, hrun, Result.andThen]
    exact h v w (by simpa using hown) ⟨rfl, rfl, rfl, Nat.le_refl _, fun _ _ _ => rfl⟩
  | some ad =>
    exact wp_append_own w s x t ho base e i z size bytes ht hi hz hsize hby hzs hsz v n xs hs hown ad m cap ys hx h0 (g4 ad rfl) h1 h63 hbytes hbase fun v' w' k1 k2 k3 => h v' w' k1 k2
theorem wpList_append_gr (w : World) {ops : Array Oper} {rest : List Oper} {o : Oper} {a : Act} {Q : Exit → Act → World → Prop} (hgd : o.guard = none) (s x : Operand) (t : TypeId)
    (ho : o.op = .call { callee := .builtin .append, args := #[s, x], argTypes := #[t, t] })
    (base : Nat) (e : TypeId) (i : TypeInfo) (z : Value) (size bytes : Nat) (ht : P.underlying t = some (.slice e)) (hi : P.info? e = some i) (hz : i.zero = some z)
    (hsize : i.size = size) (hby : i.bytes = bytes) (hzs : z.cells.size = size) (hsz : 0 < size)
    (v : Value) (n : Nat) (xs : List Value) (hs : a.eval s = v) (hown : w.ownsRow base e size v n xs)
    (y : Value) (m : Nat) (ys : List Value) (hx : a.eval x = y) (hy : Rd w size y m ys) (h1 : ∀ u ∈ ys, u.oneCell' = true)
    (hbytes : (n + m) * bytes ≤ 140737488355328) (hb1 : 0 < bytes) (hbase : base ≤ w.heap.size)
    (h : ∀ v' w', w'.ownsRow base e size v' (n + m) (xs ++ ys) → w.grownBy w' v.ownBlock → wpList P ops Q rest (a.put o.dst v') w') : wpList P ops Q (o :: rest) a w :=
  wpList_plain hgd fun K hK => wp_append_gr w o.dst s x t ho base e i z size bytes ht hi hz hsize hby hzs hsz v n xs hs hown y m ys hx hy h1 hbytes hb1 hbase rfl fun v' w' k1 k2 => hK _ _ (h v' w' k1 k2)
end
theorem grown_below {w w' : World} {base : Nat} {e : TypeId} {size n : Nat} {v : Value} {xs : List Value} (h : w.ownsRow base e size v n xs) (hb : base ≤ w.heap.size) (hg : w.grownBy w' v.ownBlock) : Below base w w' :=
  (Below.refl _ _).grown hg hb fun k hk => (h.lt k hk).1
/-- One tag more. -/
theorem TO.more {w w' : World} {base : Nat} {v v' : Value} {ts : List Tg} {t : Tg} (h : TO w base v ts) (ht : OwnB w base 5 t.val t.l) (ho : w'.ownsRow base 61 2 v' (ts.length + 1) (flat ts ++ [.int .i64 t.typ, t.val])) (hg : w.grownBy w' v.ownBlock) :
    TO w' base v' (ts ++ [t]) := by
  refine ⟨?_, fun u hu => ?_⟩
  · rw [flat_append, List.length_append]; exact ho
  · rcases List.mem_append.1 hu with hu | hu
    · exact (h.vals u hu).kept hg (own_ne_block (h.vals u hu) h.own (by decide))
    · rw [List.mem_singleton.1 hu]
      exact ht.kept hg (own_ne_block ht h.own (by decide))
theorem infoT : (Try.prog.info? 61).map (fun i => (i.zero, i.size, i.bytes)) = some (some (.agg #[.int .i64 0, .slice none 0 0]), 2, 32) := by kernel_rfl
theorem infoS : (Try.prog.info? 22).map (fun i => (i.zero, i.size, i.bytes)) = some (some (.slice none 0 0), 1, 24) := by kernel_rfl
theorem sizeT : (Try.prog.info? 61).map (·.size) = some 2 := by kernel_rfl
theorem underT : ∃ fs, Try.prog.underlying 61 = some (.struct fs) := ⟨_, Try.underlying61⟩
theorem Bs.oneCell {w : World} {v : Value} {l : List UInt8} (h : Bs w v l) : v.oneCell' = true := by
  obtain ⟨_, _, ev, _⟩ := h.shape
  rw [ev]; rfl
theorem Bs.sl {w : World} {v : Value} {l : List UInt8} (h : Bs w v l) : ∃ A L C, v = .slice A L C ∧ l.length = L ∧ L ≤ C ∧ C ≤ maxLen := by
  obtain ⟨A, C, ev, h1, h2⟩ := h.shape
  exact ⟨A, _, C, ev, rfl, h1, h2⟩
theorem one_tag {v : Value} (t : Int) (h : v.oneCell' = true) : ∀ u ∈ [Value.int .i64 t, v], u.oneCell' = true := by
  intro u hu
  simp only [List.mem_cons, List.not_mem_nil, or_false] at hu
  rcases hu with rfl | rfl
  · rfl
  · exact h
/-- A block of another element type stands where a row of the call's own grows. -/
theorem grown_heap {w w' : World} {base : Nat} {e e' : TypeId} {size n g : Nat} {v : Value} {xs : List Value} {cs : Array Value} {fr : Nat × Nat} (h : w.ownsRow base e size v n xs) (hg : w.grownBy w' v.ownBlock) (hc : w.heap[g]? = some (.cells cs e' fr)) (he : e ≠ e') : w'.heap[g]? = some (.cells cs e' fr) := by
  rw [hg.block g (Array.getElem?_eq_some_iff.1 hc).1 ?_]
  · exact hc
  · intro e1
    rcases h.2 with ⟨rfl, _⟩ | ⟨g', cap, cur, rfl, hb, hg', _⟩
    · cases e1
    · simp only [Value.ownBlock, Option.some.injEq] at e1
      subst e1
      rw [hg'] at hc
      simp only [Option.some.injEq, Obj.cells.injEq] at hc
      exact he hc.2.1
/-- The cells of a copy of a tag. -/
theorem copy_cells {w : World} {g : Nat} {x y : Value} {t : TypeId} {fr : Nat × Nat} (h : w.heap[g]? = some (.cells #[x, y] t fr)) : w.cell? ⟨g, 0, none⟩ = some x ∧ w.cell? ⟨g, 1, none⟩ = some y :=
  ⟨by rw [cell_of_row w g _ _ _ _ h]; rfl, by rw [cell_of_row w g _ _ _ _ h]; rfl⟩
theorem builtT (t : Int) (A : Option Addr) (L C : Nat) : Try.prog.built 61 [(0, .int .i64 t), (1, .slice A L C)] = some #[.int .i64 t, .slice A L C] := by kernel_rfl
end Go.Proofs.Ytcpeglljcipcbaa
