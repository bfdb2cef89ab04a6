/-
  The document's limit, below, Takes, Is.
  The document's Are, rule, has, number, good.
  The document's Same, Copy; the laws' Rules, Opts.
  The document's Answer.
  The laws' follow: a question that takes over what was answered.
  Who takes over what is told, question behind question, in plain words.
  The document's Learn.
  The document's Answer, whatever comes.
  The laws' Opts; the document's Copy.
-/
import Derived.Test.YtclplbapedmihaaGreatZNgA
import Derived.Test.YtclplbapedmihaaGreatZBase
namespace Go.Proofs.YtclplbapedmihaaGreat.Ng
set_option maxRecDepth 4000
open Go.RowKit
set_option linter.unusedVariables false
set_option linter.unusedSimpArgs false
end Go.Proofs.YtclplbapedmihaaGreat.Ng
namespace Go.Proofs.YtclplbapedmihaaGreat.Ng
set_option maxRecDepth 4000
open Go.RowKit O
set_option linter.unusedVariables false
set_option linter.unusedSimpArgs false
theorem takeN_pow (l : List UInt8) : ∀ k, k ≤ l.length → takeN l k < 256 ^ k
  | 0, _ => by rw [takeN_zero]; decide
  | k + 1, h => by
    have ih := takeN_pow l k (by omega)
    have hb := UInt8.toNat_lt l[k]
    rw [takeN_succ l k (by omega), Nat.pow_succ]
    omega
set_option maxRecDepth 20000 in
theorem number_any (T : Int) (A : Option Addr) (L C : Nat) (l : List UInt8) (hL : l.length = L) (h4 : L ≤ 4) (w : World) (hb : Bs w (.slice A L C) l) :
    Calls Tryz.prog 55 #[.agg #[.int .i64 T, .slice A L C]] w fun e w' => e = .returned (.int .i64 (num (T, l))) ∧ Below w.heap.size w w' := by
  have HAL : Hid (Gr w (w.alloc (.cells #[.int .i64 T, .slice A L C] 69))) := (Gr.refl w).alloc _
  have HG0 : Hid ((w.alloc (.cells #[.int .i64 T, .slice A L C] 69)).heap[w.heap.size]? = some (.cells #[.int .i64 T, .slice A L C] 69)) := heap_alloc_last _ _
  have HLL := Lib.hid hL
  have HB := Lib.hid hb
  clear hb hL
  go_enter Tryz.func55, Tryz.ntmps55
  go_wp2
  go_loopw [3, 4] (fun nv iv wr => ∃ k m : Nat, k ≤ L ∧ m = takeN l k ∧ iv = .int .i64 k ∧ nv = .int .i64 (m : Nat) ∧ wr.heap[w.heap.size]? = some (.cells #[.int .i64 T, .slice A L C] 69) ∧ Gr w wr) (fun _ iv _ => L - (intOf iv).toNat)
  case atStart => exact ⟨0, 0, Nat.zero_le _, (takeN_zero l).symm, rfl, rfl, HG0.out, HAL.out⟩
  case round =>
    obtain ⟨k, m, hk, hm, rfl, rfl, hg, hgr⟩ := hrel
    have HG := Lib.hid hg
    have HGR := Lib.hid hgr
    obtain ⟨k0, k1⟩ := copy_cells hg
    clear hg hgr
    by_cases hlt : k < L
    · obtain ⟨b, o, rfl, hbl, hc⟩ := (HB.out.below HGR.out).cells (by rw [HLL.out]; omega)
      have hck := hc k (by rw [HLL.out]; exact hlt)
      have hm' : m < 4294967296 := by rw [hm]; exact Nat.lt_of_lt_of_le (takeN_pow l k (by rw [HLL.out]; omega)) (Nat.pow_le_pow_right (by decide) (show k ≤ 4 by omega))
      have hb8 := UInt8.toNat_lt (l[k]'(by rw [HLL.out]; exact hlt))
      have HST : Hid (takeN l (k + 1) = 256 * m + (l[k]'(by rw [HLL.out]; exact hlt)).toNat) := by
        show _ = _
        rw [takeN_succ l k (by rw [HLL.out]; exact hlt), hm, Nat.mul_comm]
      obtain ⟨B, hB⟩ : ∃ B, B = (l[k]'(by rw [HLL.out]; exact hlt)).toNat := ⟨_, rfl⟩
      rw [← hB] at hck hb8 HST
      have hkl : (k : Int) < (L : Int) := by omega
      clear hm hc hB
      go_wp2
      go_roundw
      case rel =>
        have hst := HST.out
        first | exact ⟨k + 1, 256 * m + B, by omega, hst.symm, by go_num, by go_num, HG.out, HGR.out⟩ | ((repeat apply Exists.intro); exact ⟨⟨k + 1, 256 * m + B, by omega, hst.symm, by go_num, by go_num, HG.out, HGR.out⟩, rfl⟩)
      case measure => simp [intOf]; omega
    · obtain rfl : k = L := by omega
      have HM : Hid (num (T, l) = (m : Int)) := by
        show _ = _
        unfold num
        rw [hm]
        show ((takeN l l.length : Nat) : Int) = _
        rw [HLL.out]
      clear hm
      go_wp2
      go_ret
      exact ⟨by rw [HM.out]; rfl, HGR.out⟩
end Go.Proofs.YtclplbapedmihaaGreat.Ng
namespace Go.Proofs.YtclplbapedmihaaGreat.Ng
set_option maxRecDepth 4000
open Go.RowKit O
set_option linter.unusedVariables false
set_option linter.unusedSimpArgs false
def Alike (ts us : List Tg) (k : Nat) : Prop := (plain ts).take k = (plain us).take k
theorem Alike.zero (ts us : List Tg) : Alike ts us 0 := rfl
theorem Alike.next {ts us : List Tg} {k : Nat} (h : Alike ts us k) (h1 : k < ts.length) (h2 : k < us.length) (e : (ts[k].typ, ts[k].l) = (us[k].typ, us[k].l)) : Alike ts us (k + 1) := by
  unfold Alike at *
  rw [List.take_succ_eq_append_getElem (by rw [plain_length]; exact h1), List.take_succ_eq_append_getElem (by rw [plain_length]; exact h2), h, plain_get ts k h1, plain_get us k h2, e]
theorem Alike.all {ts us : List Tg} {n : Nat} (h : Alike ts us n) (h1 : ts.length = n) (h2 : us.length = n) : plain ts = plain us := by
  unfold Alike at h
  rwa [List.take_of_length_le (by rw [plain_length]; omega), List.take_of_length_le (by rw [plain_length]; omega)] at h
theorem plain_at {ts us : List Tg} (h : plain ts = plain us) (i : Nat) (h1 : i < ts.length) (h2 : i < us.length) : (ts[i].typ, ts[i].l) = (us[i].typ, us[i].l) := by
  have e1 := plain_get ts i h1
  have e2 := plain_get us i h2
  have h3 : (plain ts)[i]'(by rw [plain_length]; exact h1) = (plain us)[i]'(by rw [plain_length]; exact h2) := by simp only [h]
  rw [e1, e2] at h3
  exact h3
theorem plain_len {ts us : List Tg} (h : plain ts = plain us) : ts.length = us.length := by
  have := congrArg List.length h; rwa [plain_length, plain_length] at this
end Go.Proofs.YtclplbapedmihaaGreat.Ng
namespace Go.Proofs.YtclplbapedmihaaGreat.Ng
set_option maxRecDepth 4000
open Go.RowKit O
set_option linter.unusedVariables false
set_option linter.unusedSimpArgs false
/-- A row of options of the call's own, whose data lie elsewhere. -/
def RO (w0 w : World) (base : Nat) (v : Value) (l : List PT) : Prop := ∃ R : List Tg, plain R = l ∧ w.ownsRow base 69 2 v R.length (flat R) ∧ ∀ t ∈ R, Bs w0 t.val t.l
/-- Three rows of the call's own: what is refused; what is not taken; what would be. -/
structure D3 (w : World) (rl bl nl : List PT) (rv bv nv : Value) (wr : World) : Prop where
  low : Below w.heap.size w wr
  r : RO w wr w.heap.size rv rl
  b : RO w wr w.heap.size bv bl
  n : ∃ N, plain N = nl ∧ TO wr w.heap.size nv N
  rb : ∀ k ∈ blk rv, k ∉ blk bv
  rn : ∀ k ∈ blk rv, k ∉ blk nv
  bn : ∀ k ∈ blk bv, k ∉ blk nv
theorem RO.gr {w0 w w' : World} {base : Nat} {v : Value} {l : List PT} (h : RO w0 w base v l) (hb : Below w.heap.size w w') : RO w0 w' base v l := by
  obtain ⟨R, h1, h2, h3⟩ := h
  exact ⟨R, h1, ownsRow_below h2 hb, h3⟩
theorem D3.gr {w wr w' : World} {rl bl nl : List PT} {rv bv nv : Value} (h : D3 w rl bl nl rv bv nv wr) (hb : Below wr.heap.size wr w') : D3 w rl bl nl rv bv nv w' := by
  obtain ⟨N, h1, h2⟩ := h.n
  exact ⟨h.low.trans (hb.mono h.low.size), h.r.gr hb, h.b.gr hb, ⟨N, h1, h2.below hb⟩, h.rb, h.rn, h.bn⟩
theorem RO.far {w0 w w' : World} {base : Nat} {u v v' : Value} {l : List PT} (h : RO w0 w base u l) (hd : ∀ k ∈ blk u, k ∉ blk v) (hg : w.grownBy w' v.ownBlock) (hw : ∀ k ∈ blk v', k ∈ blk v ∨ w.heap.size ≤ k) : RO w0 w' base u l ∧ ∀ k ∈ blk u, k ∉ blk v' := by
  obtain ⟨R, h1, h2, h3⟩ := h
  have := far_grow h2 hd hg hw
  exact ⟨⟨R, h1, this.1, h3⟩, this.2⟩
theorem TO.far {w w' : World} {base : Nat} {u v v' : Value} {N xs : List Tg} {m : Nat} (h : TO w base u N) (hd : ∀ k ∈ blk u, k ∉ blk v) (hown : w.ownsRow base 69 2 v m (flat xs)) (hg : w.grownBy w' v.ownBlock) (hw : ∀ k ∈ blk v', k ∈ blk v ∨ w.heap.size ≤ k) : TO w' base u N ∧ ∀ k ∈ blk u, k ∉ blk v' := by
  have := far_grow h.own hd hg hw
  exact ⟨⟨this.1, fun t ht => (h.vals t ht).kept hg (own_ne_block (h.vals t ht) hown (by decide))⟩, this.2⟩
theorem RO.own {w0 w : World} {base : Nat} {v : Value} {l : List PT} (h : RO w0 w base v l) : ∃ R : List Tg, plain R = l ∧ R.length = l.length ∧ w.ownsRow base 69 2 v l.length (flat R) ∧ ∀ t ∈ R, Bs w0 t.val t.l := by
  obtain ⟨R, h1, h2, h3⟩ := h
  have e : R.length = l.length := by rw [← h1, plain_length]
  exact ⟨R, h1, e, by rw [← e]; exact h2, h3⟩
theorem D3.zero (w : World) : D3 w [] [] [] (.slice none 0 0) (.slice none 0 0) (.slice none 0 0) w :=
  ⟨Below.refl _ _, ⟨[], rfl, World.ownsRow_nil _ _ _ _, fun t h => by cases h⟩, ⟨[], rfl, World.ownsRow_nil _ _ _ _, fun t h => by cases h⟩, ⟨[], rfl, TO.nil _ _⟩, (fun k h => by cases h), (fun k h => by cases h), (fun k h => by cases h)⟩
theorem rejs_len (rs : List Ru) : ∀ (l seen : List PT), (rejs rs seen l).length ≤ l.length
  | [], _ => Nat.le_refl _
  | o :: l, seen => by
    have := rejs_len rs l (seen ++ [o])
    unfold rejs
    rw [List.length_append, List.length_cons]
    split <;> simp <;> omega
theorem bads_len (rs : List Ru) : ∀ (l seen : List PT), (bads rs seen l).length ≤ l.length
  | [], _ => Nat.le_refl _
  | o :: l, seen => by
    have := bads_len rs l (seen ++ [o])
    unfold bads
    rw [List.length_append, List.length_cons]
    cases ruleOf rs o with
    | none => simp; omega
    | some r =>
      simp only
      split
      · simp; omega
      · split <;> simp <;> omega
end Go.Proofs.YtclplbapedmihaaGreat.Ng
namespace Go.Proofs.YtclplbapedmihaaGreat.Ng
set_option maxRecDepth 4000
open Go.RowKit O
set_option linter.unusedVariables false
set_option linter.unusedSimpArgs false
/-- What follow tells. -/
def FRes (x : List PT × Bool) (w : World) (e : Ending) (w' : World) : Prop := ∃ a m c us, e = .returned (.tuple #[.slice a m c, .bool x.2]) ∧ plain us = x.1 ∧ TR w' (.slice a m c) m us ∧ Below w.heap.size w w'
theorem FRes.of {x : List PT × Bool} {w w' : World} (l : List PT) (b : Bool) (a : Option Addr) (m c : Nat) (us : List Tg) (h : x = (l, b)) (h1 : plain us = l) (h2 : TR w' (.slice a m c) m us) (h3 : Below w.heap.size w w') : FRes x w (.returned (.tuple #[.slice a m c, .bool b])) w' := by
  subst h
  exact ⟨a, m, c, us, rfl, h1, h2, h3⟩
end Go.Proofs.YtclplbapedmihaaGreat.Ng
namespace Go.Proofs.YtclplbapedmihaaGreat.Ng
set_option maxRecDepth 4000
open Go.RowKit O
set_option linter.unusedVariables false
set_option linter.unusedSimpArgs false
/-- Types in range, data that are not long. -/
def Small (l : List PT) : Prop := ∀ o ∈ l, I64 o.1 ∧ o.2.length ≤ 1000
theorem small_row {us : List Tg} (h : Small (plain us)) : (∀ x ∈ us, x.l.length ≤ 1000) ∧ ∀ x ∈ us, I64 x.typ :=
  ⟨fun x hx => (h x.plain (List.mem_map.2 ⟨x, hx, rfl⟩)).2, fun x hx => (h x.plain (List.mem_map.2 ⟨x, hx, rfl⟩)).1⟩
theorem small_good {r : Ru} (h : isR r) : I64 (goodO r).1 ∧ (goodO r).2.length ≤ 1000 := by
  refine ⟨⟨?_, ?_⟩, ?_⟩
  · show _ ≤ r.typ; have := h.1; omega
  · show r.typ ≤ _; have := h.2.1; omega
  · show (putL _ _).length ≤ 1000
    rw [putL_length]
    have := h.2.2.2.1
    omega
theorem rejs_sub (rs : List Ru) : ∀ (l seen : List PT), ∀ o ∈ rejs rs seen l, o ∈ l
  | [], _, o, h => by cases h
  | x :: l, seen, o, h => by
    unfold rejs at h
    rcases List.mem_append.1 h with h | h
    · split at h
      · rw [List.mem_singleton.1 h]; simp
      · cases h
    · exact List.mem_cons_of_mem _ (rejs_sub rs l _ o h)
theorem small_ans {rs : List Ru} {l : List PT} {n m : Int} (ha : areR rs) (hs : Small l) : Small (ans rs l n m).2 ∧ (ans rs l n m).2.length ≤ l.length + 16 := by
  have hr := rejs_len rs l []
  have hb := bads_len rs l []
  have hk : (lacks rs l).length ≤ 16 := by
    have := lackTo_length rs l rs.length
    unfold lackTo at this
    rw [List.take_length] at this
    exact Nat.le_trans this ha.1
  unfold ans
  rw [if_neg (by simpa using ha)]
  split
  · exact ⟨fun o ho => hs o (rejs_sub rs l [] o ho), by show (rejs rs [] l).length ≤ _; omega⟩
  · split
    · exact ⟨hs, by show l.length ≤ _; omega⟩
    · split
      · refine ⟨fun o ho => ?_, by show ((bads rs [] l).map (·.1)).length ≤ _; rw [List.length_map]; omega⟩
        obtain ⟨x, hx, rfl⟩ := List.mem_map.1 ho
        exact hs _ (bads_mem hx).1
      · refine ⟨fun o ho => ?_, by show ((bads rs [] l).map (·.2) ++ lacks rs l).length ≤ _; rw [List.length_append, List.length_map]; omega⟩
        rcases List.mem_append.1 ho with ho | ho
        · obtain ⟨x, hx, rfl⟩ := List.mem_map.1 ho
          obtain ⟨_, r, hr2, _, e⟩ := bads_mem hx
          rw [e]
          exact small_good (ha.2.1 r (ruleOf_some hr2).1)
        · obtain ⟨r, hr2, rfl, _⟩ := lacks_mem ho
          exact small_good (ha.2.1 r hr2)
theorem strike_sub : ∀ (q l : List PT), ∀ o ∈ (strike q l).1, o ∈ q
  | [], l, o, h => by cases l <;> cases h
  | p :: q, [], o, h => by
    unfold strike at h
    rcases List.mem_cons.1 h with rfl | h
    · simp
    · exact List.mem_cons_of_mem _ (strike_sub q [] o h)
  | p :: q, x :: l, o, h => by
    unfold strike at h
    split at h
    · exact List.mem_cons_of_mem _ (strike_sub q l o h)
    · rcases List.mem_cons.1 h with rfl | h
      · simp
      · exact List.mem_cons_of_mem _ (strike_sub q (x :: l) o h)
theorem small_take {l : List PT} {o : PT} (hs : Small l) (ho : I64 o.1 ∧ o.2.length ≤ 1000) : I64 (takeOver l o).1 ∧ (takeOver l o).2.length ≤ 1000 := by
  unfold takeOver
  split
  · exact ho
  · rename_i x hx
    exact ⟨ho.1, (hs x (List.mem_of_find?_eq_some hx)).2⟩
theorem small_lrn {q l : List PT} {k : Int} (hq : Small q) (hl : Small l) : Small (lrn q k l).1 ∧ (lrn q k l).1.length ≤ q.length := by
  unfold lrn
  split
  · exact ⟨hq, Nat.le_refl _⟩
  · split
    · refine ⟨fun o ho => ?_, by show (q.map _).length ≤ _; rw [List.length_map]; omega⟩
      obtain ⟨x, hx, rfl⟩ := List.mem_map.1 ho
      exact small_take hl (hq x hx)
    · split
      · split
        · rename_i h
          refine ⟨fun o ho => hq o (strike_sub q l o ho), ?_⟩
          have := strike_len q l
          rw [h] at this
          show (strike q l).1.length ≤ _
          simp at this
          omega
        · exact ⟨hq, Nat.le_refl _⟩
      · exact ⟨hq, Nat.le_refl _⟩
end Go.Proofs.YtclplbapedmihaaGreat.Ng
namespace Go.Proofs.YtclplbapedmihaaGreat.Ng
set_option maxRecDepth 4000
open Go.RowKit O
set_option linter.unusedVariables false
set_option linter.unusedSimpArgs false
/-- The row that was handed in, or one that the call made, of bytes that could be read ahead of it. -/
def Kept (v0 : Value) (n0 : Nat) (qs : List Tg) (w w' : World) (v : Value) (m : Nat) (us : List Tg) : Prop := (v = v0 ∧ m = n0 ∧ us = qs) ∨ (w'.ownsRow w.heap.size 69 2 v m (flat us) ∧ ∀ x ∈ us, Bs w x.val x.l)
theorem Kept.tr {v0 : Value} {n0 : Nat} {qs : List Tg} {w w' : World} {v : Value} {m : Nat} {us : List Tg} (h : Kept v0 n0 qs w w' v m us) (h0 : TR w v0 n0 qs) (hb : Below w.heap.size w w') : TR w' v m us := by
  rcases h with ⟨rfl, rfl, rfl⟩ | ⟨h1, h2⟩
  · exact h0.below hb
  · exact ⟨own_rd h1, fun x hx => (h2 x hx).below hb⟩
/-- What the document's Learn tells. -/
def RLRes (v0 : Value) (n0 : Nat) (qs : List Tg) (x : List PT × Bool) (w : World) (e : Ending) (w' : World) : Prop := ∃ a m c us, e = .returned (.tuple #[.slice a m c, .bool x.2]) ∧ plain us = x.1 ∧ Kept v0 n0 qs w w' (.slice a m c) m us ∧ Below w.heap.size w w'
theorem RLRes.of {v0 : Value} {n0 : Nat} {qs : List Tg} {x : List PT × Bool} {w w' : World} (l : List PT) (b : Bool) (a : Option Addr) (m c : Nat) (us : List Tg) (h : x = (l, b)) (h1 : plain us = l) (h2 : Kept v0 n0 qs w w' (.slice a m c) m us) (h3 : Below w.heap.size w w') : RLRes v0 n0 qs x w (.returned (.tuple #[.slice a m c, .bool b])) w' := by
  subst h
  exact ⟨a, m, c, us, rfl, h1, h2, h3⟩
theorem RO.only {w0 w w' : World} {base g : Nat} {v : Value} {l : List PT} (h : RO w0 w base v l) (ho : Only g w w') (hg : ∀ k ∈ blk v, k ≠ g) : RO w0 w' base v l := by
  obtain ⟨R, h1, h2, h3⟩ := h
  exact ⟨R, h1, own_keepW h2 fun k hk => ho.heap k (own_blk h2 k hk).2 (hg k hk), h3⟩
theorem RO.tr {v0 : Value} {n0 : Nat} {qs : List Tg} {w w' : World} {v : Value} {l : List PT} (h : RO w w' w.heap.size v l) (hb : Below w.heap.size w w') : ∃ a m c us, v = .slice a m c ∧ plain us = l ∧ Kept v0 n0 qs w w' (.slice a m c) m us := by
  obtain ⟨R, h1, h2, h3⟩ := h
  obtain ⟨a, c, rfl, _, _⟩ := (own_rd h2).shape
  exact ⟨a, R.length, c, R, rfl, h1, .inr ⟨h2, h3⟩⟩
/-- One option more. -/
theorem RO.more {w0 w2 : World} {base : Nat} {v' : Value} {l : List PT} {R : List Tg} {t : Tg} (hR : plain R = l) (hv : ∀ t ∈ R, Bs w0 t.val t.l) (ht : Bs w0 t.val t.l) (ho : w2.ownsRow base 69 2 v' (l.length + 1) (flat R ++ [.int .i64 t.typ, t.val])) : RO w0 w2 base v' (l ++ [t.plain]) := by
  refine ⟨R ++ [t], by rw [plain_append, hR]; rfl, ?_, fun x hx => ?_⟩
  · have e : (R ++ [t]).length = l.length + 1 := by rw [List.length_append, ← hR, plain_length]; rfl
    rw [e, flat_append]
    exact ho
  · rcases List.mem_append.1 hx with hx | hx
    · exact hv x hx
    · rw [List.mem_singleton.1 hx]; exact ht
end Go.Proofs.YtclplbapedmihaaGreat.Ng
namespace Go.Proofs.YtclplbapedmihaaGreat.Ng
set_option maxRecDepth 4000
open Go.RowKit O
set_option linter.unusedVariables false
set_option linter.unusedSimpArgs false
/-- What the document's Answer tells: a code, and options that are read. -/
def RRes (x : Int × List PT) (w : World) (e : Ending) (w' : World) : Prop := ∃ a m c us, e = .returned (.tuple #[.int .i64 x.1, .slice a m c]) ∧ plain us = x.2 ∧ TR w' (.slice a m c) m us ∧ Below w.heap.size w w'
theorem RRes.of {x : Int × List PT} {w w' : World} (k : Int) (l : List PT) (a : Option Addr) (m c : Nat) (us : List Tg) (h : x = (k, l)) (h1 : plain us = l) (h2 : TR w' (.slice a m c) m us) (h3 : Below w.heap.size w w') : RRes x w (.returned (.tuple #[.int .i64 k, .slice a m c])) w' := by
  subst h
  exact ⟨a, m, c, us, rfl, h1, h2, h3⟩
end Go.Proofs.YtclplbapedmihaaGreat.Ng
namespace Go.Proofs.YtclplbapedmihaaGreat.Ng
set_option maxRecDepth 4000
open Go.RowKit O
set_option linter.unusedVariables false
set_option linter.unusedSimpArgs false
end Go.Proofs.YtclplbapedmihaaGreat.Ng
