/-
  The document's rouse.
-/
import Derived.Test.YtpafcabcnkmadaaIdDd
namespace Go.Proofs.Ytpafcabcnkmadaa.Id
open Go.RowKit
set_option linter.unusedVariables false
set_option linter.unusedSimpArgs false

section
variable {ops : Array Oper} {rest : List Oper} {op : Oper} {a : Act} {w : World} {Q : Exit → Act → World → Prop} {K : Act → World → Prop}
theorem sizeSR : (Try.prog.info? 51).map (·.size) = some 1 := by kernel_rfl
/-- A slice into one of the document's six cells. -/
theorem wpList_store_dI (hgd : op.guard = none) (x y : Operand) (ho : op.op = .store 41 x y) (g o : Nat) (A : Option Addr) (L C : Nat) (hx : a.eval x = .pointer (some ⟨g, o, none⟩)) (hy : a.eval y = .slice A L C)
    (c0 c1 c2 c3 c4 c5 : Value) (hg : w.heap[g]? = some (.cells #[c0, c1, c2, c3, c4, c5] 75 (0, 0))) (hfit : o < 6)
    (h : ∀ w', w'.heap[g]? = some (.cells ([c0, c1, c2, c3, c4, c5].set o (.slice A L C)).toArray 75 (0, 0)) → Only g w w' → wpList Try.prog ops Q rest (a.put op.dst undef) w') : wpList Try.prog ops Q (op :: rest) a w :=
  wpList_store_cell hgd 41 x y ho g o (.slice A L C) hx hy 75 [c0, c1, c2, c3, c4, c5] hg sizeSI hfit rfl h
theorem wpList_store_dR (hgd : op.guard = none) (x y : Operand) (ho : op.op = .store 51 x y) (g o : Nat) (A : Option Addr) (L C : Nat) (hx : a.eval x = .pointer (some ⟨g, o, none⟩)) (hy : a.eval y = .slice A L C)
    (c0 c1 c2 c3 c4 c5 : Value) (hg : w.heap[g]? = some (.cells #[c0, c1, c2, c3, c4, c5] 75 (0, 0))) (hfit : o < 6)
    (h : ∀ w', w'.heap[g]? = some (.cells ([c0, c1, c2, c3, c4, c5].set o (.slice A L C)).toArray 75 (0, 0)) → Only g w w' → wpList Try.prog ops Q rest (a.put op.dst undef) w') : wpList Try.prog ops Q (op :: rest) a w :=
  wpList_store_cell hgd 51 x y ho g o (.slice A L C) hx hy 75 [c0, c1, c2, c3, c4, c5] hg sizeSR hfit rfl h
theorem wp_store_dI (d : Option Tmp) (x y : Operand) (ho : op.op = .store 41 x y) (g o : Nat) (A : Option Addr) (L C : Nat) (hx : a.eval x = .pointer (some ⟨g, o, none⟩)) (hy : a.eval y = .slice A L C)
    (c0 c1 c2 c3 c4 c5 : Value) (hg : w.heap[g]? = some (.cells #[c0, c1, c2, c3, c4, c5] 75 (0, 0))) (hfit : o < 6) (hd : op.dst = d)
    (h : ∀ w', w'.heap[g]? = some (.cells ([c0, c1, c2, c3, c4, c5].set o (.slice A L C)).toArray 75 (0, 0)) → Only g w w' → K (a.put d undef) w') : op.wp Try.prog a w K Q :=
  wp_store_cell d 41 x y ho g o (.slice A L C) hx hy 75 [c0, c1, c2, c3, c4, c5] hg sizeSI hfit rfl hd h
end
/-- Where the document's rouse stands behind i of those that rested. -/
structure DR (w0 : World) (g : Nat) (rv uv ev : Value) (S : Al) (t : Int) (i : Nat) (lv rvi : Value) (w : World) : Prop where
  row : w.heap[g]? = some (.cells #[.int .i64 S.low, .int .i64 S.high, .int .i64 S.quiet, rvi, uv, ev] 75 (0, 0))
  r : IR w rvi (S.row ++ ((S.rest.take i).filter (ready t)).map (·.1))
  own : w.ownsRow w0.heap.size 54 2 lv ((S.rest.take i).filter (nready t)).length (flatR ((S.rest.take i).filter (nready t)))
  tr : Tr [g] w0 w
  bk : ∀ k ∈ blk rvi, (k ∈ blk rv ∨ w0.heap.size ≤ k) ∧ k < w.heap.size
  ty : ∀ k ∈ blk rvi, k < w0.heap.size ∨ ∃ cs fr, w.heap[k]? = some (.cells cs 3 fr)
theorem DR.gr {w0 w w' : World} {g : Nat} {rv uv ev : Value} {S : Al} {t : Int} {i : Nat} {lv rvi : Value} (h : DR w0 g rv uv ev S t i lv rvi w) (hb : Below w.heap.size w w') : DR w0 g rv uv ev S t i lv rvi w' :=
  ⟨heap_below h.row hb, Rd.below h.r hb, ownsRow_below h.own hb, h.tr.trans (Tr.gr (K := []) hb) (fun _ hk => by cases hk), fun k hk => ⟨(h.bk k hk).1, Nat.lt_of_lt_of_le (h.bk k hk).2 hb.size⟩, fun k hk => (h.ty k hk).imp id fun ⟨cs, fr, h1⟩ => ⟨cs, fr, heap_below h1 hb⟩⟩
theorem DR.same {w0 w : World} {g : Nat} {rv uv ev : Value} {S : Al} {t : Int} {i : Nat} {lv rvi : Value} (h : DQ w0 g rv uv ev S) (hr : DR w0 g rv uv ev S t i lv rvi w) : RR w ev S.rest ∧ IR w uv S.used := by
  have h1 := h.ne
  have ht := hr.tr
  refine ⟨RR.tr h.doc.e ht fun k hk h2 => ?_, IR.tr h.doc.u ht fun k hk h2 => ?_⟩
  · exact (h1 k (by simp [Bd, hk])).1 (List.mem_singleton.1 h2)
  · exact (h1 k (by simp [Bd, hk])).1 (List.mem_singleton.1 h2)
/-- A row's slice is one block: another block grown leaves it. -/
theorem Tr.grown {w w' : World} {b : Nat} (h : w.grownBy w' (some b)) : Tr [b] w w' := ⟨h.os, h.tape, h.output, h.size, fun k hk hn => h.block k hk fun e => hn (by rw [Option.some.inj e]; simp)⟩
theorem DR.yes {w0 w wc wn : World} {g n c : Nat} {A : Option Addr} {rv uv ev : Value} {S : Al} {t : Int} {i : Nat} {lv rvi : Value} {x : Int × Int} {L : List Int} (hg0 : g < w0.heap.size) (h : DR w0 g rv uv ev S t i lv rvi w) (hc : Gr w wc)
    (ho : wc.ownsRow w.heap.size 3 1 (.slice A n c) n (ints L)) (hL : L = S.row ++ ((S.rest.take (i + 1)).filter (ready t)).map (·.1)) (hn : n = L.length)
    (hfn : (S.rest.take (i + 1)).filter (nready t) = (S.rest.take i).filter (nready t))
    (hr : wn.heap[g]? = some (.cells #[.int .i64 S.low, .int .i64 S.high, .int .i64 S.quiet, .slice A n c, uv, ev] 75 (0, 0))) (hy : Only g wc wn) : DR w0 g rv uv ev S t (i + 1) lv (.slice A n c) wn := by
  have h2 := h.gr hc
  have hgs : w0.heap.size ≤ w.heap.size := h.tr.size
  have ht : Tr [g] wc wn := Tr.only hy (by simp)
  have hb := own_blk ho
  refine ⟨hr, ?_, ?_, h2.tr.trans ht (fun k hk => .inl hk), fun k hk => ⟨.inr (Nat.le_trans hgs (hb k hk).1), Nat.lt_of_lt_of_le (hb k hk).2 hy.size⟩, fun k hk => .inr ?_⟩
  · rw [← hL]
    have h3 : IR wc (.slice A n c) L := by rw [hn] at ho ⊢; exact own_rd ho
    exact IR.tr h3 ht fun k hk h4 => by have := (hb k hk).1; have := List.mem_singleton.1 h4; omega
  · rw [hfn]
    refine own_keep h2.own fun k hk => hy.heap k (own_blk_lt h2.own hk) ?_
    have := (own_blk h2.own k hk).1
    omega
  · rcases ho.2 with ⟨h5, _⟩ | ⟨b, cap, cur, h5, hb5, hg5, _⟩
    · rw [h5] at hk; cases hk
    · rw [h5] at hk
      obtain rfl : k = b := List.mem_singleton.1 hk
      exact ⟨_, _, (hy.heap k (hb k (by rw [h5]; exact hk)).2 (by omega)).trans hg5⟩
theorem own_not {w : World} {base : Nat} {e : TypeId} {size n : Nat} {v : Value} {xs : List Value} (h : w.ownsRow base e size v n xs) {k : Nat} {e' : TypeId} (he : e' ≠ e) (hk : k < base ∨ ∃ cs fr, w.heap[k]? = some (.cells cs e' fr)) : some k ≠ v.ownBlock := by
  rcases h.2 with ⟨rfl, _⟩ | ⟨b, cap, cur, rfl, hb, hg, _⟩
  · intro e1; cases e1
  · intro e1
    obtain rfl : k = b := Option.some.inj e1
    rcases hk with hk | ⟨cs, fr, hc⟩
    · omega
    · rw [hg] at hc
      injection hc with hc
      injection hc with _ hc _
      exact he hc.symm
theorem DR.no {w0 w wn : World} {g : Nat} {rv uv ev : Value} {S : Al} {t : Int} {i : Nat} {lv rvi v' : Value} {x : Int × Int} (hg0 : g < w0.heap.size) (h : DR w0 g rv uv ev S t i lv rvi w)
    (hfy : (S.rest.take (i + 1)).filter (ready t) = (S.rest.take i).filter (ready t)) (hfn : (S.rest.take (i + 1)).filter (nready t) = (S.rest.take i).filter (nready t) ++ [x])
    {M : Nat} (hM : M = ((S.rest.take i).filter (nready t)).length)
    (obj : Obj) (ho : wn.ownsRow w0.heap.size 54 2 v' (M + 1) (flatR ((S.rest.take i).filter (nready t)) ++ [.int .i64 x.1, .int .i64 x.2])) (hg : (w.alloc obj).grownBy wn lv.ownBlock) : DR w0 g rv uv ev S t (i + 1) v' rvi wn := by
  have hb : Gr w (w.alloc obj) := (Below.refl _ _).alloc (Nat.le_refl _) _
  have h2 := h.gr hb
  have hgs : w0.heap.size ≤ (w.alloc obj).heap.size := h2.tr.size
  have hr : ∀ k ∈ blk rvi, wn.heap[k]? = (w.alloc obj).heap[k]? := fun k hk => hg.block k (h2.bk k hk).2 (own_not h2.own (by decide) (h2.ty k hk))
  refine ⟨(hg.block g (by omega) (own_not h2.own (e' := 3) (by decide) (.inl hg0))).trans h2.row, ?_, ?_, h2.tr.trans (K := [g]) (L := (match lv.ownBlock with | some b => [b] | none => [])) ⟨hg.os, hg.tape, hg.output, hg.size, fun k hk hn => hg.block k hk fun e => hn (by rw [← e]; simp)⟩ ?_, fun k hk => ⟨(h2.bk k hk).1, Nat.lt_of_lt_of_le (h2.bk k hk).2 hg.size⟩, fun k hk => (h2.ty k hk).imp id fun ⟨cs, fr, h1⟩ => ⟨cs, fr, (hr k hk).trans h1⟩⟩
  · rw [hfy]
    have h5 : Tr ((List.range (w.alloc obj).heap.size).filter fun k => !(blk rvi).contains k) (w.alloc obj) wn := ⟨hg.os, hg.tape, hg.output, hg.size, fun k hk hn => hr k (by
      have : ¬ (k ∈ List.range (w.alloc obj).heap.size ∧ (!(blk rvi).contains k) = true) := fun h => hn (List.mem_filter.2 h)
      simp only [List.mem_range, Bool.not_eq_true', not_and, Bool.not_eq_false] at this
      exact List.contains_iff_mem.1 (this hk))⟩
    exact IR.tr h2.r h5 fun k hk h6 => by
      have := (List.mem_filter.1 h6).2
      simp only [Bool.not_eq_true'] at this
      rw [List.contains_iff_mem.2 hk] at this
      cases this
  · rw [hfn, flatR_append, flatR_one, List.length_append, List.length_singleton, ← hM]
    exact ho
  · intro k hk
    refine .inr ?_
    rcases h2.own.2 with ⟨h5, _⟩ | ⟨b, cap, cur, h5, hb5, hg5, _⟩
    · rw [h5] at hk; cases hk
    · rw [h5] at hk
      obtain rfl : k = b := List.mem_singleton.1 hk
      exact hb5
theorem DR.fin {w0 w wn : World} {g n c : Nat} {A : Option Addr} {rv uv ev : Value} {S : Al} {t : Int} {i : Nat} {rvi : Value} (hq : DQ w0 g rv uv ev S) (h : DR w0 g rv uv ev S t i (.slice A n c) rvi w) (hi : S.rest.length ≤ i)
    (hr : wn.heap[g]? = some (.cells #[.int .i64 S.low, .int .i64 S.high, .int .i64 S.quiet, rvi, uv, .slice A n c] 75 (0, 0))) (hy : Only g w wn) : DGoes g rv uv ev w0 (rouse S t) wn := by
  have hS : S.rest.take i = S.rest := List.take_of_length_le hi
  have hg0 := hq.lt
  have ht : Tr [g] w wn := Tr.only hy (by simp)
  have hgs : w0.heap.size ≤ w.heap.size := h.tr.size
  have h1 := (DR.same hq h).2
  have hR := h.r
  have hO := h.own
  rw [hS] at hR hO
  have hbk : ∀ k ∈ blk rvi, k ≠ g ∧ k < w.heap.size := fun k hk => ⟨fun e => by
    subst e
    rcases (h.bk k hk).1 with h3 | h3
    · exact (hq.ne k (by simp [Bd, h3])).1 rfl
    · omega, (h.bk k hk).2⟩
  have hbu : ∀ k ∈ blk uv, k ≠ g ∧ k < w.heap.size := fun k hk => ⟨(hq.ne k (by simp [Bd, hk])).1, Nat.lt_of_lt_of_le (hq.ne k (by simp [Bd, hk])).2 hgs⟩
  have hbe : ∀ k ∈ blk (.slice A n c), w0.heap.size ≤ k ∧ k < w.heap.size := own_blk hO
  refine ⟨rvi, uv, .slice A n c, ⟨⟨hr, ?_, ?_, ?_⟩, fun k hk => ?_⟩, h.tr.trans ht (fun k hk => .inl hk), fun k hk => ?_⟩
  · exact IR.tr hR ht fun k hk h4 => (hbk k hk).1 (List.mem_singleton.1 h4)
  · exact IR.tr h1 ht fun k hk h4 => (hbu k hk).1 (List.mem_singleton.1 h4)
  · have h5 : RR w (.slice A n c) (S.rest.filter (nready t)) := by
      obtain ⟨_, _, e5, _, _⟩ := (own_rd hO).shape
      have := own_rd hO
      exact this
    exact RR.tr h5 ht fun k hk h4 => by have := (hbe k hk).1; have := List.mem_singleton.1 h4; omega
  · simp only [Bd, List.mem_append] at hk
    rcases hk with hk | hk | hk
    · exact ⟨(hbk k hk).1, Nat.lt_of_lt_of_le (hbk k hk).2 hy.size⟩
    · exact ⟨(hbu k hk).1, Nat.lt_of_lt_of_le (hbu k hk).2 hy.size⟩
    · have := hbe k hk; exact ⟨by omega, Nat.lt_of_lt_of_le this.2 hy.size⟩
  · simp only [Bd, List.mem_append] at hk ⊢
    rcases hk with hk | hk | hk
    · rcases (h.bk k hk).1 with h3 | h3
      · exact .inl (.inl h3)
      · exact .inr h3
    · exact .inl (.inr (.inl hk))
    · exact .inr (hbe k hk).1
set_option maxRecDepth 20000 in
set_option maxHeartbeats 8000000 in
theorem drouse_any (g : Nat) (t : Int) {rv uv ev : Value} {S : Al} (w : World) (h : DQ w g rv uv ev S) (hlen : S.row.length + S.rest.length ≤ 65534) :
    Calls Try.prog 46 #[.pointer (some ⟨g, 0, none⟩), .int .i64 t] w fun e w' => e = .returned (.tuple #[]) ∧ DGoes g rv uv ev w (rouse S t) w' := by
  obtain ⟨i0, hi0, hz0, hz1, hz2⟩ := info_parts infoI
  obtain ⟨i1, hi1, hy0, hy1, hy2⟩ := info_parts infoR
  have HD := Lib.hid h
  obtain ⟨ea, ec, eev, hec1, hec2⟩ := h.doc.e.shape
  obtain ⟨n, hn⟩ : ∃ n, n = S.rest.length := ⟨_, rfl⟩
  rw [← hn] at eev hec1
  have HEV := Lib.hid eev
  have HN := Lib.hid hn
  have HS : Hid (DR w g rv uv ev S t 0 (.slice none 0 0) rv w) := ⟨h.doc.row, by simpa using h.doc.r, by have h5 := World.ownsRow_nil w w.heap.size 54 2; simpa [flatR] using h5, Tr.refl _ _, fun k hk => ⟨.inl hk, (h.ne k (by simp [Bd, hk])).2⟩, fun k hk => .inl (h.ne k (by simp [Bd, hk])).2⟩
  have HLEN : Hid (S.row.length + n ≤ 65534) := by show _ ≤ _; rw [hn]; exact hlen
  have hgl := h.lt
  clear h hlen eev hec1 hec2 hn
  go_enter Try.func46, Try.ntmps46
  go_wp2_with fail
  go_loopw [4, 5] (fun lv iv wr => ∃ (i : Nat) (rvi : Value), i ≤ n ∧ iv = .int .i64 (i : Int) ∧ DR w g rv uv ev S t i lv rvi wr) (fun _ iv _ => n - (intOf iv).toNat)
  case atStart => exact ⟨0, rv, Nat.zero_le _, rfl, HS.out⟩
  case round =>
    clear HS
    obtain ⟨i, rvi, hin, rfl, hdr⟩ := hrel
    have HR := Lib.hid hdr
    clear hdr
    have hn65 : n ≤ 65534 := by have := HLEN.out; omega
    obtain ⟨k0, k1, k2, k3, k4, k5⟩ := cells6 HR.out.row
    rw [HEV.out] at k5
    by_cases hlt : i < n
    · have hil : i < S.rest.length := by rw [← HN.out]; exact hlt
      have hrr := (DR.same HD.out HR.out).1
      rw [HEV.out] at hrr
      obtain ⟨b, o, eab, hcel⟩ := RR.at hrr HN.out (by omega)
      subst eab
      obtain ⟨x, hx⟩ : ∃ x, x = S.rest[i] := ⟨_, rfl⟩
      obtain ⟨c0, c1⟩ := hcel i hil
      rw [← hx] at c0 c1
      have HX := Lib.hid hx
      have HRG := Lib.hid (range_pair c0 c1)
      have hfy := filter_take_succ (ready t) S.rest i hil
      have hfn := filter_take_succ (nready t) S.rest i hil
      rw [← hx] at hfy hfn
      have hle : i + 1 ≤ n := by omega
      clear hrr hcel hx
      by_cases hr : x.2 ≤ t
      · have hrd : ready t x = true := decide_eq_true hr
        have hnr : nready t x = false := by simp [nready, hrd]
        rw [hrd, if_pos rfl] at hfy
        rw [hnr, if_neg (by simp), List.append_nil] at hfn
        have HFY := Lib.hid hfy
        have HFN := Lib.hid hfn
        obtain ⟨ra, rc, erv, hrc1, hrc2⟩ := HR.out.r.shape
        obtain ⟨L, hL⟩ : ∃ L, L = S.row ++ ((S.rest.take i).filter (ready t)).map (·.1) := ⟨_, rfl⟩
        obtain ⟨M, hM⟩ : ∃ M, M = L.length := ⟨_, rfl⟩
        rw [← hL, ← hM] at erv
        have hM65 : M ≤ 65534 := by
          have h3 := List.length_filter_le (ready t) (S.rest.take i)
          have h4 := HLEN.out
          rw [List.length_take] at h3
          rw [hM, hL, List.length_append, List.length_map]
          omega
        have HRV : Hid (∀ w', Gr wr w' → Rd w' 1 (.slice ra M rc) M (ints L)) := fun w' hw => by
          have h5 := Rd.below HR.out.r hw
          rw [erv, ← hL, ← hM] at h5
          exact h5
        have HERV := Lib.hid erv
        have HL := Lib.hid hL
        have HM := Lib.hid hM
        have HONE : Hid (∀ u ∈ ints L, u.oneCell' = true) := ints_cell _
        have HBY : Hid ((0 + M) * 8 ≤ 140737488355328) := by show _ ≤ _; omega
        have HBY2 : Hid ((0 + M + 1) * 8 ≤ 140737488355328) := by show _ ≤ _; omega
        have HMX2 : Hid (M + 1 ≤ maxLen) := by show _ ≤ _; unfold maxLen; omega
        clear hrd hnr hfy hfn erv hrc1 hrc2 hL hM hM65 k0 k1 k2 k3 k4 k5 c0 c1
        have HCX : Hid (∀ w', Gr wr w' → w'.cell? ⟨b, o + i * 2, none⟩ = some (.int .i64 x.1) ∧ w'.cell? ⟨b, o + i * 2 + 1, none⟩ = some (.int .i64 x.2)) := fun w' hw => by
          have := range_gr hw HRG.out
          exact ⟨by simpa using this 0 _ rfl, by simpa [Nat.add_assoc] using this 1 _ rfl⟩
        obtain ⟨c0, c1⟩ := HCX.out wr (Gr.refl _)
        obtain ⟨k0, k1, k2, k3, k4, k5⟩ := cells6 HR.out.row
        rw [HEV.out] at k5
        go_upto_region 5 with fail
        clear k0 k1 k2 k3 k4 k5 c0 c1
        have HC : Hid (Gr wr wr.drew) := Gr.drew wr
        refine wp_region_G 19 (Below (wr.heap.size)) (by kernel_rfl) ?_
        generalize wr.drew = wc at HC ⊢
        -- 0: slot 25
        refine wpG_take (preBelow (wr.heap.size)) (i := 0) (v := ?_) (by kernel_rfl) (some 25) (by kernel_rfl) rfl (by kernel_rfl) (by kernel_rfl) (by kernel_rfl) (fun _ _ _ h => h) (by rfl) (fun w' hw' => ?_) rfl ?_
        rotate_left
        · try (have hxx := HR.out.gr (Below.trans HC.out hw'); have hyy := cells6 hxx.row; rw [HERV.out, HEV.out] at hyy; obtain ⟨k0, k1, k2, k3, k4, k5⟩ := hyy; have hzz := HCX.out _ (Below.trans HC.out hw'); obtain ⟨c0, c1⟩ := hzz; clear hxx)
          go_simp
          with_reducible rfl
        simp only [Act.put, List.setIfInBounds_toArray, List.set_cons_zero, List.set_cons_succ]
        -- 2: slot 27
        refine wpG_take (preBelow (wr.heap.size)) (i := 2) (v := ?_) (by kernel_rfl) (some 27) (by kernel_rfl) rfl (by kernel_rfl) (by kernel_rfl) (by kernel_rfl) (fun _ _ _ h => h) (by rfl) (fun w' hw' => ?_) rfl ?_
        rotate_left
        · try (have hxx := HR.out.gr (Below.trans HC.out hw'); have hyy := cells6 hxx.row; rw [HERV.out, HEV.out] at hyy; obtain ⟨k0, k1, k2, k3, k4, k5⟩ := hyy; have hzz := HCX.out _ (Below.trans HC.out hw'); obtain ⟨c0, c1⟩ := hzz; clear hxx)
          go_simp
          with_reducible rfl
        simp only [Act.put, List.setIfInBounds_toArray, List.set_cons_zero, List.set_cons_succ]
        -- 3: slot 28
        refine wpG_take (preBelow (wr.heap.size)) (i := 3) (v := ?_) (by kernel_rfl) (some 28) (by kernel_rfl) rfl (by kernel_rfl) (by kernel_rfl) (by kernel_rfl) (fun _ _ _ h => h) (by rfl) (fun w' hw' => ?_) rfl ?_
        rotate_left
        · try (have hxx := HR.out.gr (Below.trans HC.out hw'); have hyy := cells6 hxx.row; rw [HERV.out, HEV.out] at hyy; obtain ⟨k0, k1, k2, k3, k4, k5⟩ := hyy; have hzz := HCX.out _ (Below.trans HC.out hw'); obtain ⟨c0, c1⟩ := hzz; clear hxx)
          go_simp
          with_reducible rfl
        simp only [Act.put, List.setIfInBounds_toArray, List.set_cons_zero, List.set_cons_succ]
        -- 4: slot 29
        refine wpG_take (preBelow (wr.heap.size)) (i := 4) (v := ?_) (by kernel_rfl) (some 29) (by kernel_rfl) rfl (by kernel_rfl) (by kernel_rfl) (by kernel_rfl) (fun _ _ _ h => h) (by rfl) (fun w' hw' => ?_) rfl ?_
        rotate_left
        · try (have hxx := HR.out.gr (Below.trans HC.out hw'); have hyy := cells6 hxx.row; rw [HERV.out, HEV.out] at hyy; obtain ⟨k0, k1, k2, k3, k4, k5⟩ := hyy; have hzz := HCX.out _ (Below.trans HC.out hw'); obtain ⟨c0, c1⟩ := hzz; clear hxx)
          go_simp
          with_reducible rfl
        simp only [Act.put, List.setIfInBounds_toArray, List.set_cons_zero, List.set_cons_succ]
        -- 5: slot 30
        refine wpG_take (preBelow (wr.heap.size)) (i := 5) (v := ?_) (by kernel_rfl) (some 30) (by kernel_rfl) rfl (by kernel_rfl) (by kernel_rfl) (by kernel_rfl) (fun _ _ _ h => h) (by rfl) (fun w' hw' => ?_) rfl ?_
        rotate_left
        · try (have hxx := HR.out.gr (Below.trans HC.out hw'); have hyy := cells6 hxx.row; rw [HERV.out, HEV.out] at hyy; obtain ⟨k0, k1, k2, k3, k4, k5⟩ := hyy; have hzz := HCX.out _ (Below.trans HC.out hw'); obtain ⟨c0, c1⟩ := hzz; clear hxx)
          go_simp
          with_reducible rfl
        simp only [Act.put, List.setIfInBounds_toArray, List.set_cons_zero, List.set_cons_succ]
        -- 7: slot 32
        refine wpG_take (preBelow (wr.heap.size)) (i := 7) (v := ?_) (by kernel_rfl) (some 32) (by kernel_rfl) rfl (by kernel_rfl) (by kernel_rfl) (by kernel_rfl) (fun _ _ _ h => h) (by rfl) (fun w' hw' => ?_) rfl ?_
        rotate_left
        · try (have hxx := HR.out.gr (Below.trans HC.out hw'); have hyy := cells6 hxx.row; rw [HERV.out, HEV.out] at hyy; obtain ⟨k0, k1, k2, k3, k4, k5⟩ := hyy; have hzz := HCX.out _ (Below.trans HC.out hw'); obtain ⟨c0, c1⟩ := hzz; clear hxx)
          go_simp
          with_reducible rfl
        simp only [Act.put, List.setIfInBounds_toArray, List.set_cons_zero, List.set_cons_succ]
        -- 8: slot 33
        refine wpG_take (preBelow (wr.heap.size)) (i := 8) (v := ?_) (by kernel_rfl) (some 33) (by kernel_rfl) rfl (by kernel_rfl) (by kernel_rfl) (by kernel_rfl) (fun _ _ _ h => h) (by rfl) (fun w' hw' => ?_) rfl ?_
        rotate_left
        · try (have hxx := HR.out.gr (Below.trans HC.out hw'); have hyy := cells6 hxx.row; rw [HERV.out, HEV.out] at hyy; obtain ⟨k0, k1, k2, k3, k4, k5⟩ := hyy; have hzz := HCX.out _ (Below.trans HC.out hw'); obtain ⟨c0, c1⟩ := hzz; clear hxx)
          go_simp
          with_reducible rfl
        simp only [Act.put, List.setIfInBounds_toArray, List.set_cons_zero, List.set_cons_succ]
        -- 9: slot 34
        refine wpG_take (preBelow (wr.heap.size)) (i := 9) (v := ?_) (by kernel_rfl) (some 34) (by kernel_rfl) rfl (by kernel_rfl) (by kernel_rfl) (by kernel_rfl) (fun _ _ _ h => h) (by rfl) (fun w' hw' => ?_) rfl ?_
        rotate_left
        · try (have hxx := HR.out.gr (Below.trans HC.out hw'); have hyy := cells6 hxx.row; rw [HERV.out, HEV.out] at hyy; obtain ⟨k0, k1, k2, k3, k4, k5⟩ := hyy; have hzz := HCX.out _ (Below.trans HC.out hw'); obtain ⟨c0, c1⟩ := hzz; clear hxx)
          go_simp
          with_reducible rfl
        simp only [Act.put, List.setIfInBounds_toArray, List.set_cons_zero, List.set_cons_succ]
        -- 10: slot 35
        refine wpG_take (preBelow (wr.heap.size)) (i := 10) (v := ?_) (by kernel_rfl) (some 35) (by kernel_rfl) rfl (by kernel_rfl) (by kernel_rfl) (by kernel_rfl) (fun _ _ _ h => h) (by rfl) (fun w' hw' => ?_) rfl ?_
        rotate_left
        · try (have hxx := HR.out.gr (Below.trans HC.out hw'); have hyy := cells6 hxx.row; rw [HERV.out, HEV.out] at hyy; obtain ⟨k0, k1, k2, k3, k4, k5⟩ := hyy; have hzz := HCX.out _ (Below.trans HC.out hw'); obtain ⟨c0, c1⟩ := hzz; clear hxx)
          go_simp
          with_reducible rfl
        simp only [Act.put, List.setIfInBounds_toArray, List.set_cons_zero, List.set_cons_succ]
        -- 11: slot 36
        refine wpG_take (preBelow (wr.heap.size)) (i := 11) (v := ?_) (by kernel_rfl) (some 36) (by kernel_rfl) rfl (by kernel_rfl) (by kernel_rfl) (by kernel_rfl) (fun _ _ _ h => h) (by rfl) (fun w' hw' => ?_) rfl ?_
        rotate_left
        · try (have hxx := HR.out.gr (Below.trans HC.out hw'); have hyy := cells6 hxx.row; rw [HERV.out, HEV.out] at hyy; obtain ⟨k0, k1, k2, k3, k4, k5⟩ := hyy; have hzz := HCX.out _ (Below.trans HC.out hw'); obtain ⟨c0, c1⟩ := hzz; clear hxx)
          go_simp
          with_reducible rfl
        simp only [Act.put, List.setIfInBounds_toArray, List.set_cons_zero, List.set_cons_succ]
        -- 12: slot 37
        refine wpG_take (preBelow (wr.heap.size)) (i := 12) (v := ?_) (by kernel_rfl) (some 37) (by kernel_rfl) rfl (by kernel_rfl) (by kernel_rfl) (by kernel_rfl) (fun _ _ _ h => h) (by rfl) (fun w' hw' => ?_) rfl ?_
        rotate_left
        · try (have hxx := HR.out.gr (Below.trans HC.out hw'); have hyy := cells6 hxx.row; rw [HERV.out, HEV.out] at hyy; obtain ⟨k0, k1, k2, k3, k4, k5⟩ := hyy; have hzz := HCX.out _ (Below.trans HC.out hw'); obtain ⟨c0, c1⟩ := hzz; clear hxx)
          go_simp
          with_reducible rfl
        simp only [Act.put, List.setIfInBounds_toArray, List.set_cons_zero, List.set_cons_succ]
        -- 13: slot 38
        refine wpG_take (preBelow (wr.heap.size)) (i := 13) (v := ?_) (by kernel_rfl) (some 38) (by kernel_rfl) rfl (by kernel_rfl) (by kernel_rfl) (by kernel_rfl) (fun _ _ _ h => h) (by rfl) (fun w' hw' => ?_) rfl ?_
        rotate_left
        · try (have hxx := HR.out.gr (Below.trans HC.out hw'); have hyy := cells6 hxx.row; rw [HERV.out, HEV.out] at hyy; obtain ⟨k0, k1, k2, k3, k4, k5⟩ := hyy; have hzz := HCX.out _ (Below.trans HC.out hw'); obtain ⟨c0, c1⟩ := hzz; clear hxx)
          go_simp
          with_reducible rfl
        simp only [Act.put, List.setIfInBounds_toArray, List.set_cons_zero, List.set_cons_succ]
        -- 14: slot 39
        refine wpG_take (preBelow (wr.heap.size)) (i := 14) (v := ?_) (by kernel_rfl) (some 39) (by kernel_rfl) rfl (by kernel_rfl) (by kernel_rfl) (by kernel_rfl) (fun _ _ _ h => h) (by rfl) (fun w' hw' => ?_) rfl ?_
        rotate_left
        · try (have hxx := HR.out.gr (Below.trans HC.out hw'); have hyy := cells6 hxx.row; rw [HERV.out, HEV.out] at hyy; obtain ⟨k0, k1, k2, k3, k4, k5⟩ := hyy; have hzz := HCX.out _ (Below.trans HC.out hw'); obtain ⟨c0, c1⟩ := hzz; clear hxx)
          go_simp
          with_reducible rfl
        simp only [Act.put, List.setIfInBounds_toArray, List.set_cons_zero, List.set_cons_succ]
        refine wpG_two (i := 1) (j := 15) rfl rfl (by kernel_rfl) (by rfl) (by rfl) ?_ ?_
        · go_simp
          have hb : Gr wc (wc.alloc (.cells #[] 3)) := (Below.refl _ _).alloc (Nat.le_refl _) _
          have hsz : (wc.alloc (.cells #[] 3)).heap.size = wc.heap.size + 1 := World.size_alloc _ _
          refine ⟨hb.mono (Below.size HC.out), ?_⟩
          have ho : (wc.alloc (.cells #[] 3)).ownsRow wc.heap.size 3 1 (.slice (some ⟨wc.heap.size, 0, none⟩) 0 0) 0 [] := own_new wc [] 3 0 1 rfl (Nat.zero_le _)
          try have HON' := Lib.hid (Rd.below HON.out hb)
          have ho2 := ownsRow_mono ho (Below.size HC.out)
          have hc2 : Gr wr (wc.alloc (.cells #[] 3)) := Gr.trans HC.out hb
          generalize wc.alloc (.cells #[] 3) = wn at *
          obtain ⟨b1, hb1⟩ : ∃ b, b = wc.heap.size := ⟨_, rfl⟩
          rw [← hb1] at ho2 hsz ⊢
          try have HNE : Hid (b15 ≠ b1) := by have := HL15.out; show _ ≠ _; omega
          have HL1 : Hid (b1 < wn.heap.size) := by show _ < _; omega
          have HOW := Lib.hid ho2
          clear HC ho ho2 hb hsz hb1
          have HC := Lib.hid hc2
          clear hc2
          try (clear HON; have HON := HON'; clear HON')
          obtain ⟨wc, hwc⟩ : ∃ x, x = wn := ⟨_, rfl⟩
          subst hwc
          try simp only [Act.put, List.setIfInBounds_toArray, List.set_cons_zero, List.set_cons_succ]
          refine wpG_two (i := 6) (j := 15) rfl rfl (by kernel_rfl) (by rfl) (by rfl) ?_ ?_
          · refine wp_append_gr _ (some 31) (.tmp 26) (.tmp 30) 41 rfl wr.heap.size 3 i0 _ 1 8 Try.underlying41 hi0 hz0 hz1 hz2 rfl (by decide) _ _ _ rfl HOW.out _ M _ rfl (HRV.out _ HC.out) HONE.out HBY.out (by decide) (Below.size HC.out) rfl ?_
            intro v' wn ho hg
            have hb := grown_below HOW.out (Below.size HC.out) hg
            refine ⟨hb, ?_⟩
            try have HON' : Hid (Rd wn 1 (.slice (some ⟨b15, 0, none⟩) 1 1) 1 [.int .i64 x.1]) := Rd.tr HON.out (Tr.grown hg) fun k hk h6 => HNE.out ((List.mem_singleton.1 hk).symm.trans (List.mem_singleton.1 h6))
            have hc2 : Gr wr wn := Below.trans HC.out hb
            clear HC HOW hg hb
            have HC := Lib.hid hc2
            have HOW := Lib.hid ho
            clear hc2 ho
            try (clear HON; have HON := HON'; clear HON')
            try clear HL1
            obtain ⟨wc, hwc⟩ : ∃ x, x = wn := ⟨_, rfl⟩
            subst hwc
            try simp only [Act.put, List.setIfInBounds_toArray, List.set_cons_zero, List.set_cons_succ]
            refine wpG_one (i := 15) rfl (by kernel_rfl) (by rfl) ?_
            go_simp
            have hb : Gr wc (wc.alloc (.cells #[.int .i64 x.1] 3)) := (Below.refl _ _).alloc (Nat.le_refl _) _
            have hsz : (wc.alloc (.cells #[.int .i64 x.1] 3)).heap.size = wc.heap.size + 1 := World.size_alloc _ _
            refine ⟨hb.mono (Below.size HC.out), ?_⟩
            have hn1 : Rd (wc.alloc (.cells #[.int .i64 x.1] 3)) 1 (.slice (some ⟨wc.heap.size, 0, none⟩) 1 1) 1 [.int .i64 x.1] := rd_new wc [.int .i64 x.1] 3 1 1 rfl (by decide)
            try have HOW' := Lib.hid (ownsRow_below HOW.out hb)
            have hc2 : Gr wr (wc.alloc (.cells #[.int .i64 x.1] 3)) := Gr.trans HC.out hb
            generalize wc.alloc (.cells #[.int .i64 x.1] 3) = wn at *
            obtain ⟨b15, hb15⟩ : ∃ b, b = wc.heap.size := ⟨_, rfl⟩
            rw [← hb15] at hn1 hsz ⊢
            try have HNE : Hid (b15 ≠ b1) := by have := HL1.out; show _ ≠ _; omega
            have HL15 : Hid (b15 < wn.heap.size) := by show _ < _; omega
            have HON := Lib.hid hn1
            clear HC hn1 hb hsz hb15
            have HC := Lib.hid hc2
            clear hc2
            try (clear HOW; have HOW := HOW'; clear HOW')
            obtain ⟨wc, hwc⟩ : ∃ x, x = wn := ⟨_, rfl⟩
            subst hwc
            try simp only [Act.put, List.setIfInBounds_toArray, List.set_cons_zero, List.set_cons_succ]
            refine wpG_one (i := 16) rfl (by kernel_rfl) (by rfl) ?_
            refine wp_append_gr _ (some 41) (.tmp 31) (.tmp 40) 41 rfl wr.heap.size 3 i0 _ 1 8 Try.underlying41 hi0 hz0 hz1 hz2 rfl (by decide) _ _ _ rfl HOW.out _ 1 _ rfl HON.out (one_int _) HBY2.out (by decide) (Below.size HC.out) rfl ?_
            intro v' wn ho hg
            have hb := grown_below HOW.out (Below.size HC.out) hg
            refine ⟨hb, ?_⟩
            have hc2 : Gr wr wn := Below.trans HC.out hb
            clear HC HOW HON hg hb
            have HC := Lib.hid hc2
            obtain ⟨A5, C5, rfl, _, _⟩ := (own_rd ho).shape
            have HOW := Lib.hid ho
            clear hc2 ho
            obtain ⟨wc, hwc⟩ : ∃ x, x = wn := ⟨_, rfl⟩
            subst hwc
            try simp only [Act.put, List.setIfInBounds_toArray, List.set_cons_zero, List.set_cons_succ]
            -- 17: slot 42
            refine wpG_take (preBelow (wr.heap.size)) (i := 17) (v := ?_) (by kernel_rfl) (some 42) (by kernel_rfl) rfl (by kernel_rfl) (by kernel_rfl) (by kernel_rfl) (fun _ _ _ h => h) (by rfl) (fun w' hw' => ?_) rfl ?_
            rotate_left
            · try (have hxx := HR.out.gr (Below.trans HC.out hw'); have hyy := cells6 hxx.row; rw [HERV.out, HEV.out] at hyy; obtain ⟨k0, k1, k2, k3, k4, k5⟩ := hyy; have hzz := HCX.out _ (Below.trans HC.out hw'); obtain ⟨c0, c1⟩ := hzz; clear hxx)
              go_simp
              with_reducible rfl
            simp only [Act.put, List.setIfInBounds_toArray, List.set_cons_zero, List.set_cons_succ]
            -- 18: slot 43
            refine wpG_take (preBelow (wr.heap.size)) (i := 18) (v := ?_) (by kernel_rfl) (some 43) (by kernel_rfl) rfl (by kernel_rfl) (by kernel_rfl) (by kernel_rfl) (fun _ _ _ h => h) (by rfl) (fun w' hw' => ?_) rfl ?_
            rotate_left
            · try (have hxx := HR.out.gr (Below.trans HC.out hw'); have hyy := cells6 hxx.row; rw [HERV.out, HEV.out] at hyy; obtain ⟨k0, k1, k2, k3, k4, k5⟩ := hyy; have hzz := HCX.out _ (Below.trans HC.out hw'); obtain ⟨c0, c1⟩ := hzz; clear hxx)
              go_simp
              with_reducible rfl
            simp only [Act.put, List.setIfInBounds_toArray, List.set_cons_zero, List.set_cons_succ]
            refine wpG_tail (i := 19) (by decide) rfl (by kernel_rfl) (by rfl) ?_
            refine wp_store_dI (none) (.tmp 43) (.tmp 41) rfl g 3 _ _ _ rfl rfl _ _ _ _ _ _ (HR.out.gr HC.out).row (by decide) rfl ?_
            intro wn h5 ho5
            have HFIN : Hid (DR w g rv uv ev S t (i + 1) u4 (.slice A5 (0 + M + 1) C5) wn) := DR.yes (L := L ++ [x.1]) (x := x) hgl HR.out HC.out (by have h6 := HOW.out; simpa [ints_append, ints] using h6) (by rw [HL.out, HFY.out]; simp) (by rw [List.length_append, ← HM.out]; simp) HFN.out h5 ho5
            clear h5 ho5
            try simp only [Act.put, List.setIfInBounds_toArray, List.set_cons_zero, List.set_cons_succ]
            refine wpG_done (by kernel_rfl) ?_ _
            clear HC HOW
            go_wp2_with fail
            go_roundw
            case rel =>
              first
                | exact ⟨i + 1, _, hle, by go_num, HFIN.out⟩
                | ((repeat apply Exists.intro); exact ⟨⟨i + 1, _, hle, by go_num, HFIN.out⟩, rfl⟩)
            case measure => simp [intOf]; omega
          · go_simp
            have hb : Gr wc (wc.alloc (.cells #[.int .i64 x.1] 3)) := (Below.refl _ _).alloc (Nat.le_refl _) _
            have hsz : (wc.alloc (.cells #[.int .i64 x.1] 3)).heap.size = wc.heap.size + 1 := World.size_alloc _ _
            refine ⟨hb.mono (Below.size HC.out), ?_⟩
            have hn1 : Rd (wc.alloc (.cells #[.int .i64 x.1] 3)) 1 (.slice (some ⟨wc.heap.size, 0, none⟩) 1 1) 1 [.int .i64 x.1] := rd_new wc [.int .i64 x.1] 3 1 1 rfl (by decide)
            try have HOW' := Lib.hid (ownsRow_below HOW.out hb)
            have hc2 : Gr wr (wc.alloc (.cells #[.int .i64 x.1] 3)) := Gr.trans HC.out hb
            generalize wc.alloc (.cells #[.int .i64 x.1] 3) = wn at *
            obtain ⟨b15, hb15⟩ : ∃ b, b = wc.heap.size := ⟨_, rfl⟩
            rw [← hb15] at hn1 hsz ⊢
            try have HNE : Hid (b15 ≠ b1) := by have := HL1.out; show _ ≠ _; omega
            have HL15 : Hid (b15 < wn.heap.size) := by show _ < _; omega
            have HON := Lib.hid hn1
            clear HC hn1 hb hsz hb15
            have HC := Lib.hid hc2
            clear hc2
            try (clear HOW; have HOW := HOW'; clear HOW')
            obtain ⟨wc, hwc⟩ : ∃ x, x = wn := ⟨_, rfl⟩
            subst hwc
            try simp only [Act.put, List.setIfInBounds_toArray, List.set_cons_zero, List.set_cons_succ]
            refine wpG_one (i := 6) rfl (by kernel_rfl) (by rfl) ?_
            refine wp_append_gr _ (some 31) (.tmp 26) (.tmp 30) 41 rfl wr.heap.size 3 i0 _ 1 8 Try.underlying41 hi0 hz0 hz1 hz2 rfl (by decide) _ _ _ rfl HOW.out _ M _ rfl (HRV.out _ HC.out) HONE.out HBY.out (by decide) (Below.size HC.out) rfl ?_
            intro v' wn ho hg
            have hb := grown_below HOW.out (Below.size HC.out) hg
            refine ⟨hb, ?_⟩
            try have HON' : Hid (Rd wn 1 (.slice (some ⟨b15, 0, none⟩) 1 1) 1 [.int .i64 x.1]) := Rd.tr HON.out (Tr.grown hg) fun k hk h6 => HNE.out ((List.mem_singleton.1 hk).symm.trans (List.mem_singleton.1 h6))
            have hc2 : Gr wr wn := Below.trans HC.out hb
            clear HC HOW hg hb
            have HC := Lib.hid hc2
            have HOW := Lib.hid ho
            clear hc2 ho
            try (clear HON; have HON := HON'; clear HON')
            try clear HL1
            obtain ⟨wc, hwc⟩ : ∃ x, x = wn := ⟨_, rfl⟩
            subst hwc
            try simp only [Act.put, List.setIfInBounds_toArray, List.set_cons_zero, List.set_cons_succ]
            refine wpG_one (i := 16) rfl (by kernel_rfl) (by rfl) ?_
            refine wp_append_gr _ (some 41) (.tmp 31) (.tmp 40) 41 rfl wr.heap.size 3 i0 _ 1 8 Try.underlying41 hi0 hz0 hz1 hz2 rfl (by decide) _ _ _ rfl HOW.out _ 1 _ rfl HON.out (one_int _) HBY2.out (by decide) (Below.size HC.out) rfl ?_
            intro v' wn ho hg
            have hb := grown_below HOW.out (Below.size HC.out) hg
            refine ⟨hb, ?_⟩
            have hc2 : Gr wr wn := Below.trans HC.out hb
            clear HC HOW HON hg hb
            have HC := Lib.hid hc2
            obtain ⟨A5, C5, rfl, _, _⟩ := (own_rd ho).shape
            have HOW := Lib.hid ho
            clear hc2 ho
            obtain ⟨wc, hwc⟩ : ∃ x, x = wn := ⟨_, rfl⟩
            subst hwc
            try simp only [Act.put, List.setIfInBounds_toArray, List.set_cons_zero, List.set_cons_succ]
            -- 17: slot 42
            refine wpG_take (preBelow (wr.heap.size)) (i := 17) (v := ?_) (by kernel_rfl) (some 42) (by kernel_rfl) rfl (by kernel_rfl) (by kernel_rfl) (by kernel_rfl) (fun _ _ _ h => h) (by rfl) (fun w' hw' => ?_) rfl ?_
            rotate_left
            · try (have hxx := HR.out.gr (Below.trans HC.out hw'); have hyy := cells6 hxx.row; rw [HERV.out, HEV.out] at hyy; obtain ⟨k0, k1, k2, k3, k4, k5⟩ := hyy; have hzz := HCX.out _ (Below.trans HC.out hw'); obtain ⟨c0, c1⟩ := hzz; clear hxx)
              go_simp
              with_reducible rfl
            simp only [Act.put, List.setIfInBounds_toArray, List.set_cons_zero, List.set_cons_succ]
            -- 18: slot 43
            refine wpG_take (preBelow (wr.heap.size)) (i := 18) (v := ?_) (by kernel_rfl) (some 43) (by kernel_rfl) rfl (by kernel_rfl) (by kernel_rfl) (by kernel_rfl) (fun _ _ _ h => h) (by rfl) (fun w' hw' => ?_) rfl ?_
            rotate_left
            · try (have hxx := HR.out.gr (Below.trans HC.out hw'); have hyy := cells6 hxx.row; rw [HERV.out, HEV.out] at hyy; obtain ⟨k0, k1, k2, k3, k4, k5⟩ := hyy; have hzz := HCX.out _ (Below.trans HC.out hw'); obtain ⟨c0, c1⟩ := hzz; clear hxx)
              go_simp
              with_reducible rfl
            simp only [Act.put, List.setIfInBounds_toArray, List.set_cons_zero, List.set_cons_succ]
            refine wpG_tail (i := 19) (by decide) rfl (by kernel_rfl) (by rfl) ?_
            refine wp_store_dI (none) (.tmp 43) (.tmp 41) rfl g 3 _ _ _ rfl rfl _ _ _ _ _ _ (HR.out.gr HC.out).row (by decide) rfl ?_
            intro wn h5 ho5
            have HFIN : Hid (DR w g rv uv ev S t (i + 1) u4 (.slice A5 (0 + M + 1) C5) wn) := DR.yes (L := L ++ [x.1]) (x := x) hgl HR.out HC.out (by have h6 := HOW.out; simpa [ints_append, ints] using h6) (by rw [HL.out, HFY.out]; simp) (by rw [List.length_append, ← HM.out]; simp) HFN.out h5 ho5
            clear h5 ho5
            try simp only [Act.put, List.setIfInBounds_toArray, List.set_cons_zero, List.set_cons_succ]
            refine wpG_done (by kernel_rfl) ?_ _
            clear HC HOW
            go_wp2_with fail
            go_roundw
            case rel =>
              first
                | exact ⟨i + 1, _, hle, by go_num, HFIN.out⟩
                | ((repeat apply Exists.intro); exact ⟨⟨i + 1, _, hle, by go_num, HFIN.out⟩, rfl⟩)
            case measure => simp [intOf]; omega
        · go_simp
          have hb : Gr wc (wc.alloc (.cells #[.int .i64 x.1] 3)) := (Below.refl _ _).alloc (Nat.le_refl _) _
          have hsz : (wc.alloc (.cells #[.int .i64 x.1] 3)).heap.size = wc.heap.size + 1 := World.size_alloc _ _
          refine ⟨hb.mono (Below.size HC.out), ?_⟩
          have hn1 : Rd (wc.alloc (.cells #[.int .i64 x.1] 3)) 1 (.slice (some ⟨wc.heap.size, 0, none⟩) 1 1) 1 [.int .i64 x.1] := rd_new wc [.int .i64 x.1] 3 1 1 rfl (by decide)
          try have HOW' := Lib.hid (ownsRow_below HOW.out hb)
          have hc2 : Gr wr (wc.alloc (.cells #[.int .i64 x.1] 3)) := Gr.trans HC.out hb
          generalize wc.alloc (.cells #[.int .i64 x.1] 3) = wn at *
          obtain ⟨b15, hb15⟩ : ∃ b, b = wc.heap.size := ⟨_, rfl⟩
          rw [← hb15] at hn1 hsz ⊢
          try have HNE : Hid (b15 ≠ b1) := by have := HL1.out; show _ ≠ _; omega
          have HL15 : Hid (b15 < wn.heap.size) := by show _ < _; omega
          have HON := Lib.hid hn1
          clear HC hn1 hb hsz hb15
          have HC := Lib.hid hc2
          clear hc2
          try (clear HOW; have HOW := HOW'; clear HOW')
          obtain ⟨wc, hwc⟩ : ∃ x, x = wn := ⟨_, rfl⟩
          subst hwc
          try simp only [Act.put, List.setIfInBounds_toArray, List.set_cons_zero, List.set_cons_succ]
          refine wpG_one (i := 1) rfl (by kernel_rfl) (by rfl) ?_
          go_simp
          have hb : Gr wc (wc.alloc (.cells #[] 3)) := (Below.refl _ _).alloc (Nat.le_refl _) _
          have hsz : (wc.alloc (.cells #[] 3)).heap.size = wc.heap.size + 1 := World.size_alloc _ _
          refine ⟨hb.mono (Below.size HC.out), ?_⟩
          have ho : (wc.alloc (.cells #[] 3)).ownsRow wc.heap.size 3 1 (.slice (some ⟨wc.heap.size, 0, none⟩) 0 0) 0 [] := own_new wc [] 3 0 1 rfl (Nat.zero_le _)
          try have HON' := Lib.hid (Rd.below HON.out hb)
          have ho2 := ownsRow_mono ho (Below.size HC.out)
          have hc2 : Gr wr (wc.alloc (.cells #[] 3)) := Gr.trans HC.out hb
          generalize wc.alloc (.cells #[] 3) = wn at *
          obtain ⟨b1, hb1⟩ : ∃ b, b = wc.heap.size := ⟨_, rfl⟩
          rw [← hb1] at ho2 hsz ⊢
          try have HNE : Hid (b15 ≠ b1) := by have := HL15.out; show _ ≠ _; omega
          have HL1 : Hid (b1 < wn.heap.size) := by show _ < _; omega
          have HOW := Lib.hid ho2
          clear HC ho ho2 hb hsz hb1
          have HC := Lib.hid hc2
          clear hc2
          try (clear HON; have HON := HON'; clear HON')
          obtain ⟨wc, hwc⟩ : ∃ x, x = wn := ⟨_, rfl⟩
          subst hwc
          try simp only [Act.put, List.setIfInBounds_toArray, List.set_cons_zero, List.set_cons_succ]
          refine wpG_one (i := 6) rfl (by kernel_rfl) (by rfl) ?_
          refine wp_append_gr _ (some 31) (.tmp 26) (.tmp 30) 41 rfl wr.heap.size 3 i0 _ 1 8 Try.underlying41 hi0 hz0 hz1 hz2 rfl (by decide) _ _ _ rfl HOW.out _ M _ rfl (HRV.out _ HC.out) HONE.out HBY.out (by decide) (Below.size HC.out) rfl ?_
          intro v' wn ho hg
          have hb := grown_below HOW.out (Below.size HC.out) hg
          refine ⟨hb, ?_⟩
          try have HON' : Hid (Rd wn 1 (.slice (some ⟨b15, 0, none⟩) 1 1) 1 [.int .i64 x.1]) := Rd.tr HON.out (Tr.grown hg) fun k hk h6 => HNE.out ((List.mem_singleton.1 hk).symm.trans (List.mem_singleton.1 h6))
          have hc2 : Gr wr wn := Below.trans HC.out hb
          clear HC HOW hg hb
          have HC := Lib.hid hc2
          have HOW := Lib.hid ho
          clear hc2 ho
          try (clear HON; have HON := HON'; clear HON')
          try clear HL1
          obtain ⟨wc, hwc⟩ : ∃ x, x = wn := ⟨_, rfl⟩
          subst hwc
          try simp only [Act.put, List.setIfInBounds_toArray, List.set_cons_zero, List.set_cons_succ]
          refine wpG_one (i := 16) rfl (by kernel_rfl) (by rfl) ?_
          refine wp_append_gr _ (some 41) (.tmp 31) (.tmp 40) 41 rfl wr.heap.size 3 i0 _ 1 8 Try.underlying41 hi0 hz0 hz1 hz2 rfl (by decide) _ _ _ rfl HOW.out _ 1 _ rfl HON.out (one_int _) HBY2.out (by decide) (Below.size HC.out) rfl ?_
          intro v' wn ho hg
          have hb := grown_below HOW.out (Below.size HC.out) hg
          refine ⟨hb, ?_⟩
          have hc2 : Gr wr wn := Below.trans HC.out hb
          clear HC HOW HON hg hb
          have HC := Lib.hid hc2
          obtain ⟨A5, C5, rfl, _, _⟩ := (own_rd ho).shape
          have HOW := Lib.hid ho
          clear hc2 ho
          obtain ⟨wc, hwc⟩ : ∃ x, x = wn := ⟨_, rfl⟩
          subst hwc
          try simp only [Act.put, List.setIfInBounds_toArray, List.set_cons_zero, List.set_cons_succ]
          -- 17: slot 42
          refine wpG_take (preBelow (wr.heap.size)) (i := 17) (v := ?_) (by kernel_rfl) (some 42) (by kernel_rfl) rfl (by kernel_rfl) (by kernel_rfl) (by kernel_rfl) (fun _ _ _ h => h) (by rfl) (fun w' hw' => ?_) rfl ?_
          rotate_left
          · try (have hxx := HR.out.gr (Below.trans HC.out hw'); have hyy := cells6 hxx.row; rw [HERV.out, HEV.out] at hyy; obtain ⟨k0, k1, k2, k3, k4, k5⟩ := hyy; have hzz := HCX.out _ (Below.trans HC.out hw'); obtain ⟨c0, c1⟩ := hzz; clear hxx)
            go_simp
            with_reducible rfl
          simp only [Act.put, List.setIfInBounds_toArray, List.set_cons_zero, List.set_cons_succ]
          -- 18: slot 43
          refine wpG_take (preBelow (wr.heap.size)) (i := 18) (v := ?_) (by kernel_rfl) (some 43) (by kernel_rfl) rfl (by kernel_rfl) (by kernel_rfl) (by kernel_rfl) (fun _ _ _ h => h) (by rfl) (fun w' hw' => ?_) rfl ?_
          rotate_left
          · try (have hxx := HR.out.gr (Below.trans HC.out hw'); have hyy := cells6 hxx.row; rw [HERV.out, HEV.out] at hyy; obtain ⟨k0, k1, k2, k3, k4, k5⟩ := hyy; have hzz := HCX.out _ (Below.trans HC.out hw'); obtain ⟨c0, c1⟩ := hzz; clear hxx)
            go_simp
            with_reducible rfl
          simp only [Act.put, List.setIfInBounds_toArray, List.set_cons_zero, List.set_cons_succ]
          refine wpG_tail (i := 19) (by decide) rfl (by kernel_rfl) (by rfl) ?_
          refine wp_store_dI (none) (.tmp 43) (.tmp 41) rfl g 3 _ _ _ rfl rfl _ _ _ _ _ _ (HR.out.gr HC.out).row (by decide) rfl ?_
          intro wn h5 ho5
          have HFIN : Hid (DR w g rv uv ev S t (i + 1) u4 (.slice A5 (0 + M + 1) C5) wn) := DR.yes (L := L ++ [x.1]) (x := x) hgl HR.out HC.out (by have h6 := HOW.out; simpa [ints_append, ints] using h6) (by rw [HL.out, HFY.out]; simp) (by rw [List.length_append, ← HM.out]; simp) HFN.out h5 ho5
          clear h5 ho5
          try simp only [Act.put, List.setIfInBounds_toArray, List.set_cons_zero, List.set_cons_succ]
          refine wpG_done (by kernel_rfl) ?_ _
          clear HC HOW
          go_wp2_with fail
          go_roundw
          case rel =>
            first
              | exact ⟨i + 1, _, hle, by go_num, HFIN.out⟩
              | ((repeat apply Exists.intro); exact ⟨⟨i + 1, _, hle, by go_num, HFIN.out⟩, rfl⟩)
          case measure => simp [intOf]; omega
      · have hrd : ready t x = false := decide_eq_false hr
        have hnr : nready t x = true := by simp [nready, hrd]
        rw [hrd, if_neg (by simp), List.append_nil] at hfy
        rw [hnr, if_pos rfl] at hfn
        have HFY := Lib.hid hfy
        have HFN := Lib.hid hfn
        obtain ⟨M, hM⟩ : ∃ M, M = ((S.rest.take i).filter (nready t)).length := ⟨_, rfl⟩
        have hM65 : M ≤ 65534 := by
          have h3 := List.length_filter_le (nready t) (S.rest.take i)
          rw [List.length_take] at h3
          rw [hM]
          omega
        have HM := Lib.hid hM
        have HOW : Hid (wr.ownsRow w.heap.size 54 2 u4 M (flatR ((S.rest.take i).filter (nready t)))) := by have := HR.out.own; rw [← hM] at this; exact this
        have HMX : Hid (M + 1 ≤ maxLen) := by show _ ≤ _; unfold maxLen; omega
        have HBY : Hid ((M + 1) * 16 ≤ 140737488355328) := by show _ ≤ _; omega
        have HLO : Hid (w.heap.size ≤ (wr.alloc (.cells #[.int .i64 x.1, .int .i64 x.2] 54)).heap.size) := by have := HR.out.tr.size; show _ ≤ _; rw [World.size_alloc]; omega
        have HONE : Hid (∀ u ∈ [Value.int .i64 x.1, Value.int .i64 x.2], u.oneCell' = true) := by
          intro u hu
          simp only [List.mem_cons, List.not_mem_nil, or_false] at hu
          rcases hu with rfl | rfl <;> rfl
        clear hrd hnr hfy hfn hM hM65
        go_wp2_with (refine wpList_append_own _ rfl (.tmp 44) (.tmp 52) 51 rfl w.heap.size 54 i1 _ 2 16 Try.underlying51 hi1 hy0 hy1 hy2 rfl (by decide) _ _ _ rfl (World.ownsRow.alloc HOW.out _) ⟨wr.heap.size, 0, none⟩ 1 1 [.int .i64 x.1, .int .i64 x.2] rfl rfl (cells_new wr [.int .i64 x.1, .int .i64 x.2] 54) HONE.out HMX.out HBY.out HLO.out ?_)
        intro v' w5 ho5 hg5 _
        have HFIN : Hid (DR w g rv uv ev S t (i + 1) v' rvi w5) := DR.no hgl HR.out HFY.out HFN.out HM.out _ ho5 hg5
        clear ho5 hg5 HOW
        go_wp2_with fail
        go_roundw
        case rel =>
          first
            | exact ⟨i + 1, _, hle, by go_num, HFIN.out⟩
            | ((repeat apply Exists.intro); exact ⟨⟨i + 1, _, hle, by go_num, HFIN.out⟩, rfl⟩)
        case measure => simp [intOf]; omega
    · have hfi : S.rest.length ≤ i := by rw [← HN.out]; omega
      obtain ⟨A5, C5, e5, _, _⟩ := (own_rd HR.out.own).shape
      subst e5
      go_wp2_with (refine wpList_store_dR rfl (.tmp 57) (.tmp 55) rfl g 5 _ _ _ rfl rfl _ _ _ _ _ _ HR.out.row (by decide) ?_)
      intro w5 h5 ho5
      have HFIN := Lib.hid (DR.fin HD.out HR.out hfi h5 ho5)
      clear h5 ho5
      go_wp2
      go_end0
      exact ⟨rfl, HFIN.out⟩
end Go.Proofs.Ytpafcabcnkmadaa.Id
