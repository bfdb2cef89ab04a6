/-
  The document's Answer.
-/
import Derived.Test.YtbldcjngccmhpaaNgR
import Derived.Test.YtbldcjngccmhpaaNgU
import Derived.Test.YtbldcjngccmhpaaNgH
import Derived.Test.YtbldcjngccmhpaaFar
namespace Go.Proofs.Ytbldcjngccmhpaa.Ng
open Go.RowKit O
set_option linter.unusedVariables false
set_option linter.unusedSimpArgs false
/-- A row of options of the call's own, whose data lie elsewhere. -/
def RO (w0 w : World) (base : Nat) (v : Value) (l : List PT) : Prop := ∃ R : List Tg, plain R = l ∧ w.ownsRow base 42 2 v R.length (flat R) ∧ ∀ t ∈ R, Bs w0 t.val t.l
/-- Three rows of the call's own: what is refused; what is not taken; what would be. -/
structure D3 (w : World) (rl bl nl : List PT) (rv bv nv : Value) (wr : World) : Prop where
  low : Below w.heap.size w wr
  r : RO w wr w.heap.size rv rl
  b : RO w wr w.heap.size bv bl
  n : ∃ N, plain N = nl ∧ TO wr w.heap.size nv N
  rb : ∀ k ∈ blk rv, k ∉ blk bv
  rn : ∀ k ∈ blk rv, k ∉ blk nv
  bn : ∀ k ∈ blk bv, k ∉ blk nv
theorem RO.gr {w0 w w' : World} {base : Nat} {v : Value} {l : List PT} (h : RO w0 w base v l) (hb : Below w.heap.size w w') : RO w0 w' base v l := by
  obtain ⟨R, h1, h2, h3⟩ := h
  exact ⟨R, h1, ownsRow_below h2 hb, h3⟩
theorem D3.gr {w wr w' : World} {rl bl nl : List PT} {rv bv nv : Value} (h : D3 w rl bl nl rv bv nv wr) (hb : Below wr.heap.size wr w') : D3 w rl bl nl rv bv nv w' := by
  obtain ⟨N, h1, h2⟩ := h.n
  exact ⟨h.low.trans (hb.mono h.low.size), h.r.gr hb, h.b.gr hb, ⟨N, h1, h2.below hb⟩, h.rb, h.rn, h.bn⟩
theorem RO.far {w0 w w' : World} {base : Nat} {u v v' : Value} {l : List PT} (h : RO w0 w base u l) (hd : ∀ k ∈ blk u, k ∉ blk v) (hg : w.grownBy w' v.ownBlock) (hw : ∀ k ∈ blk v', k ∈ blk v ∨ w.heap.size ≤ k) : RO w0 w' base u l ∧ ∀ k ∈ blk u, k ∉ blk v' := by
  obtain ⟨R, h1, h2, h3⟩ := h
  have := far_grow h2 hd hg hw
  exact ⟨⟨R, h1, this.1, h3⟩, this.2⟩
theorem TO.far {w w' : World} {base : Nat} {u v v' : Value} {N xs : List Tg} {m : Nat} (h : TO w base u N) (hd : ∀ k ∈ blk u, k ∉ blk v) (hown : w.ownsRow base 42 2 v m (flat xs)) (hg : w.grownBy w' v.ownBlock) (hw : ∀ k ∈ blk v', k ∈ blk v ∨ w.heap.size ≤ k) : TO w' base u N ∧ ∀ k ∈ blk u, k ∉ blk v' := by
  have := far_grow h.own hd hg hw
  exact ⟨⟨this.1, fun t ht => (h.vals t ht).kept hg (own_ne_block (h.vals t ht) hown (by decide))⟩, this.2⟩
theorem RO.own {w0 w : World} {base : Nat} {v : Value} {l : List PT} (h : RO w0 w base v l) : ∃ R : List Tg, plain R = l ∧ R.length = l.length ∧ w.ownsRow base 42 2 v l.length (flat R) ∧ ∀ t ∈ R, Bs w0 t.val t.l := by
  obtain ⟨R, h1, h2, h3⟩ := h
  have e : R.length = l.length := by rw [← h1, plain_length]
  exact ⟨R, h1, e, by rw [← e]; exact h2, h3⟩
/-- One option more that is refused. -/
theorem D3.addR {w w1 w2 : World} {rl bl nl : List PT} {rv bv nv v' : Value} {R : List Tg} {t : Tg} (h : D3 w rl bl nl rv bv nv w1) (hR : plain R = rl) (hv : ∀ t ∈ R, Bs w t.val t.l) (ho0 : w1.ownsRow w.heap.size 42 2 rv rl.length (flat R)) (ht : Bs w t.val t.l) (ho : w2.ownsRow w.heap.size 42 2 v' (rl.length + 1) (flat R ++ [.int .i64 t.typ, t.val])) (hg : w1.grownBy w2 rv.ownBlock) (hw : ∀ k ∈ blk v', k ∈ blk rv ∨ w1.heap.size ≤ k) :
    D3 w (rl ++ [t.plain]) bl nl v' bv nv w2 := by
  obtain ⟨N, hN, hNo⟩ := h.n
  have hb := h.b.far (far_sym h.rb) hg hw
  have hn := TO.far hNo (far_sym h.rn) ho0 hg hw
  refine ⟨h.low.trans (grown_below ho0 h.low.size hg), ⟨R ++ [t], by rw [plain_append, hR]; rfl, ?_, fun x hx => ?_⟩, hb.1, ⟨N, hN, hn.1⟩, far_sym hb.2, far_sym hn.2, h.bn⟩
  · have e : (R ++ [t]).length = rl.length + 1 := by rw [List.length_append, ← hR, plain_length]; rfl
    rw [e, flat_append]
    exact ho
  · rcases List.mem_append.1 hx with hx | hx
    · exact hv x hx
    · rw [List.mem_singleton.1 hx]; exact ht
/-- One option more that is not taken. -/
theorem D3.addB {w w1 w2 : World} {rl bl nl : List PT} {rv bv nv v' : Value} {R : List Tg} {t : Tg} (h : D3 w rl bl nl rv bv nv w1) (hR : plain R = bl) (hv : ∀ t ∈ R, Bs w t.val t.l) (ho0 : w1.ownsRow w.heap.size 42 2 bv bl.length (flat R)) (ht : Bs w t.val t.l) (ho : w2.ownsRow w.heap.size 42 2 v' (bl.length + 1) (flat R ++ [.int .i64 t.typ, t.val])) (hg : w1.grownBy w2 bv.ownBlock) (hw : ∀ k ∈ blk v', k ∈ blk bv ∨ w1.heap.size ≤ k) :
    D3 w rl (bl ++ [t.plain]) nl rv v' nv w2 := by
  obtain ⟨N, hN, hNo⟩ := h.n
  have hb := h.r.far h.rb hg hw
  have hn := TO.far hNo (far_sym h.bn) ho0 hg hw
  refine ⟨h.low.trans (grown_below ho0 h.low.size hg), hb.1, ⟨R ++ [t], by rw [plain_append, hR]; rfl, ?_, fun x hx => ?_⟩, ⟨N, hN, hn.1⟩, hb.2, h.rn, far_sym hn.2⟩
  · have e : (R ++ [t]).length = bl.length + 1 := by rw [List.length_append, ← hR, plain_length]; rfl
    rw [e, flat_append]
    exact ho
  · rcases List.mem_append.1 hx with hx | hx
    · exact hv x hx
    · rw [List.mem_singleton.1 hx]; exact ht
/-- One option more that would be taken. -/
theorem D3.addN {w w1 w2 : World} {rl bl nl : List PT} {rv bv nv v' : Value} {N : List Tg} {t : Tg} (h : D3 w rl bl nl rv bv nv w1) (hN : plain N = nl) (hNo : TO w1 w.heap.size nv N) (ht : OwnB w1 w.heap.size 5 t.val t.l) (ho : w2.ownsRow w.heap.size 42 2 v' (N.length + 1) (flat N ++ [.int .i64 t.typ, t.val])) (hg : w1.grownBy w2 nv.ownBlock) (hw : ∀ k ∈ blk v', k ∈ blk nv ∨ w1.heap.size ≤ k) :
    D3 w rl bl (nl ++ [t.plain]) rv bv v' w2 := by
  have hr := h.r.far h.rn hg hw
  have hb := h.b.far h.bn hg hw
  exact ⟨h.low.trans (grown_below hNo.own h.low.size hg), hr.1, hb.1, ⟨N ++ [t], by rw [plain_append, hN]; rfl, hNo.more ht ho hg⟩, h.rb, hr.2, hb.2⟩
theorem D3.zero (w : World) : D3 w [] [] [] (.slice none 0 0) (.slice none 0 0) (.slice none 0 0) w :=
  ⟨Below.refl _ _, ⟨[], rfl, World.ownsRow_nil _ _ _ _, fun t h => by cases h⟩, ⟨[], rfl, World.ownsRow_nil _ _ _ _, fun t h => by cases h⟩, ⟨[], rfl, TO.nil _ _⟩, (fun k h => by cases h), (fun k h => by cases h), (fun k h => by cases h)⟩
/-- Of the first k options. -/
theorem rejs_snoc (rs : List Ru) : ∀ (l seen : List PT) (o : PT), rejs rs seen (l ++ [o]) = rejs rs seen l ++ (if (ruleOf rs o).isNone || hasT (seen ++ l) o.1 then [o] else [])
  | [], seen, o => by simp [rejs]
  | x :: l, seen, o => by
    rw [List.cons_append, rejs, rejs, rejs_snoc rs l, List.append_assoc, List.append_assoc]
    rfl
def badO (rs : List Ru) (o : PT) (came : Bool) : List (PT × PT) := match ruleOf rs o with
  | none => []
  | some r => if came then [] else if takes r (num o) then [] else [(o, goodO r)]
theorem bads_snoc (rs : List Ru) : ∀ (l seen : List PT) (o : PT), bads rs seen (l ++ [o]) = bads rs seen l ++ badO rs o (hasT (seen ++ l) o.1)
  | [], seen, o => by
    rw [List.nil_append, List.append_nil]
    unfold badO
    cases h : ruleOf rs o <;> simp [bads, h]
  | x :: l, seen, o => by
    rw [List.cons_append, bads, bads, bads_snoc rs l, List.append_assoc, List.append_assoc]
    rfl
theorem rejs_len (rs : List Ru) : ∀ (l seen : List PT), (rejs rs seen l).length ≤ l.length
  | [], _ => Nat.le_refl _
  | o :: l, seen => by
    have := rejs_len rs l (seen ++ [o])
    unfold rejs
    rw [List.length_append, List.length_cons]
    split <;> simp <;> omega
theorem bads_len (rs : List Ru) : ∀ (l seen : List PT), (bads rs seen l).length ≤ l.length
  | [], _ => Nat.le_refl _
  | o :: l, seen => by
    have := bads_len rs l (seen ++ [o])
    unfold bads
    rw [List.length_append, List.length_cons]
    cases ruleOf rs o with
    | none => simp; omega
    | some r =>
      simp only
      split
      · simp; omega
      · split <;> simp <;> omega
theorem TR.upto {w : World} {a : Option Addr} {m c : Nat} {us : List Tg} (h : TR w (.slice a m c) m us) (i : Nat) (hi : i ≤ m) :
    ∃ a', (∀ w', (Instr.slice 23 (.slice a m c) none (some (.int .i64 (i : Int))) none).run Try.prog w' = .ok (.slice a' i c) w') ∧ TR w (.slice a' i c) i (us.take i) := by
  obtain ⟨i0, hi0, hz0, hz1, hz2⟩ := info_parts infoT
  obtain ⟨a', h1, h2⟩ := slice_upto (P := Try.prog) Try.underlying23 hi0 hz1 h.rd .i64 i i rfl hi
  refine ⟨a', h1, ?_, fun t ht => h.vals t (List.mem_of_mem_take ht)⟩
  have e : ∀ (l : List Tg) (k : Nat), (flat l).take (k * 2) = flat (l.take k) := by
    intro l
    induction l with
    | nil => intro k; simp [flat]
    | cons x r ih =>
      intro k
      cases k with
      | zero => simp [flat]
      | succ k =>
        rw [show (k + 1) * 2 = k * 2 + 1 + 1 by omega, flat_cons, List.take_succ_cons, List.take_succ_cons, List.take_succ_cons, flat_cons, ih]
  rw [e] at h2
  exact h2
theorem plain_take (ts : List Tg) (k : Nat) : plain (ts.take k) = (plain ts).take k := by unfold plain; rw [List.map_take]
end Go.Proofs.Ytbldcjngccmhpaa.Ng
