/-
  Rows of options in memory: each option is two cells (its type, its data, a slice of bytes).
-/
import Derived.Test.YtbldcjngccmhpaaOpP
import Derived.Test.YtbldcjngccmhpaaGen
namespace Go.Proofs.Ytbldcjngccmhpaa.O
open Go.RowKit
set_option linter.unusedVariables false
set_option linter.unusedSimpArgs false

/-- An option as it lies in memory: its type, its value's slice, the value's bytes. -/
structure Tg where
  typ : Int
  val : Value
  l : List UInt8
def Tg.plain (t : Tg) : PT := (t.typ, t.l)
def plain (ts : List Tg) : List PT := ts.map Tg.plain
def flat (ts : List Tg) : List Value := ts.flatMap fun t => [.int .i64 t.typ, t.val]
theorem flat_nil : flat [] = [] := rfl
theorem flat_cons (t : Tg) (ts : List Tg) : flat (t :: ts) = .int .i64 t.typ :: t.val :: flat ts := rfl
theorem flat_append (a b : List Tg) : flat (a ++ b) = flat a ++ flat b := by simp [flat]
theorem flat_length (ts : List Tg) : (flat ts).length = ts.length * 2 := by
  induction ts with
  | nil => rfl
  | cons t ts ih => rw [flat_cons, List.length_cons, List.length_cons, List.length_cons, ih]; omega
theorem flat_get (ts : List Tg) : ∀ (i : Nat) (h : i < ts.length), (flat ts)[i * 2]? = some (.int .i64 ts[i].typ) ∧ (flat ts)[i * 2 + 1]? = some ts[i].val := by
  induction ts with
  | nil => intro i h; simp at h
  | cons t ts ih =>
    intro i h
    cases i with
    | zero => exact ⟨rfl, rfl⟩
    | succ i =>
      have := ih i (by simpa using h)
      rw [flat_cons, show (i + 1) * 2 = i * 2 + 1 + 1 by omega]
      simpa using this
theorem plain_length (ts : List Tg) : (plain ts).length = ts.length := by simp [plain]
theorem plain_append (a b : List Tg) : plain (a ++ b) = plain a ++ plain b := by simp [plain]
theorem plain_nil : plain [] = [] := rfl
theorem plain_get (ts : List Tg) (i : Nat) (h : i < ts.length) : (plain ts)[i]'(by rw [plain_length]; exact h) = (ts[i].typ, ts[i].l) := by simp [plain, Tg.plain]

/-- v is a row of n options that reads ts in w. -/
structure TR (w : World) (v : Value) (n : Nat) (ts : List Tg) : Prop where
  rd : Rd w 2 v n (flat ts)
  vals : ∀ t ∈ ts, Bs w t.val t.l
theorem TR.len {w : World} {v : Value} {n : Nat} {ts : List Tg} (h : TR w v n ts) : ts.length = n := by
  have := h.rd.1
  rw [flat_length] at this
  omega
theorem TR.below {w w' : World} {v : Value} {n : Nat} {ts : List Tg} (h : TR w v n ts) (hb : Below w.heap.size w w') : TR w' v n ts := ⟨h.rd.below hb, fun t ht => (h.vals t ht).below hb⟩
theorem TR.nil (w : World) : TR w (.slice none 0 0) 0 [] := ⟨Rd.nil w 2, fun t h => by cases h⟩
theorem TR.shape {w : World} {v : Value} {n : Nat} {ts : List Tg} (h : TR w v n ts) : ∃ ao cap, v = .slice ao n cap ∧ n ≤ cap ∧ cap ≤ maxLen := h.rd.shape
/-- Tag i's cells. -/
theorem TR.cells {w : World} {ao : Option Addr} {n c : Nat} {ts : List Tg} (h : TR w (.slice ao n c) n ts) (hn : 0 < n) :
    ∃ b o, ao = some ⟨b, o, none⟩ ∧ b < w.heap.size ∧ ∀ i (hi : i < ts.length), w.cell? ⟨b, o + i * 2, none⟩ = some (.int .i64 ts[i].typ) ∧ w.cell? ⟨b, o + i * 2 + 1, none⟩ = some ts[i].val := by
  obtain ⟨b, o, h1, h2, h3⟩ := Rd.cells h.rd hn (by omega)
  exact ⟨b, o, h1, h2, fun i hi => ⟨h3 _ _ (flat_get ts i hi).1, h3 _ _ (flat_get ts i hi).2⟩⟩
theorem TR.val {w : World} {v : Value} {n : Nat} {ts : List Tg} (h : TR w v n ts) (i : Nat) (hi : i < ts.length) : Bs w ts[i].val ts[i].l := h.vals _ (List.getElem_mem hi)

/-- A row of options of the call's own, each value of the call's own. -/
structure TO (w : World) (base : Nat) (v : Value) (ts : List Tg) : Prop where
  own : w.ownsRow base 42 2 v ts.length (flat ts)
  vals : ∀ t ∈ ts, OwnB w base 5 t.val t.l
theorem TO.tr {w : World} {base : Nat} {v : Value} {ts : List Tg} (h : TO w base v ts) : TR w v ts.length ts := ⟨own_rd h.own, fun t ht => (h.vals t ht).bs⟩
theorem TO.nil (w : World) (base : Nat) : TO w base (.slice none 0 0) [] := ⟨World.ownsRow_nil w base _ 2, fun t h => by cases h⟩
theorem TO.below {w w' : World} {base : Nat} {v : Value} {ts : List Tg} (h : TO w base v ts) (hb : Below w.heap.size w w') : TO w' base v ts := ⟨ownsRow_below h.own hb, fun t ht => (h.vals t ht).below hb⟩
theorem TO.mono {w : World} {base base' : Nat} {v : Value} {ts : List Tg} (h : TO w base v ts) (hb : base' ≤ base) : TO w base' v ts := ⟨ownsRow_mono h.own hb, fun t ht => (h.vals t ht).mono hb⟩

/-- One option more. -/
theorem TO.more {w w' : World} {base : Nat} {v v' : Value} {ts : List Tg} {t : Tg} (h : TO w base v ts) (ht : OwnB w base 5 t.val t.l) (ho : w'.ownsRow base 42 2 v' (ts.length + 1) (flat ts ++ [.int .i64 t.typ, t.val])) (hg : w.grownBy w' v.ownBlock) :
    TO w' base v' (ts ++ [t]) := by
  refine ⟨?_, fun u hu => ?_⟩
  · rw [flat_append, List.length_append]; exact ho
  · rcases List.mem_append.1 hu with hu | hu
    · exact (h.vals u hu).kept hg (own_ne_block (h.vals u hu) h.own (by decide))
    · rw [List.mem_singleton.1 hu]
      exact ht.kept hg (own_ne_block ht h.own (by decide))
theorem infoT : (Try.prog.info? 42).map (fun i => (i.zero, i.size, i.bytes)) = some (some (.agg #[.int .i64 0, .slice none 0 0]), 2, 32) := by kernel_rfl
theorem sizeT : (Try.prog.info? 42).map (·.size) = some 2 := by kernel_rfl
theorem underT : ∃ fs, Try.prog.underlying 42 = some (.struct fs) := ⟨_, Try.underlying42⟩
theorem one_tag {v : Value} (t : Int) (h : v.oneCell' = true) : ∀ u ∈ [Value.int .i64 t, v], u.oneCell' = true := by
  intro u hu
  simp only [List.mem_cons, List.not_mem_nil, or_false] at hu
  rcases hu with rfl | rfl
  · rfl
  · exact h
theorem builtT (t : Int) (A : Option Addr) (L C : Nat) : Try.prog.built 42 [(0, .int .i64 t), (1, .slice A L C)] = some #[.int .i64 t, .slice A L C] := by kernel_rfl
theorem range_gr {w w' : World} {g off : Nat} {cs : List Value} (hw : Below w.heap.size w w') (h : w.rangeAt g off cs) : w'.rangeAt g off cs := fun j v hj => cell_gr hw (h j v hj)
end Go.Proofs.Ytbldcjngccmhpaa.O
