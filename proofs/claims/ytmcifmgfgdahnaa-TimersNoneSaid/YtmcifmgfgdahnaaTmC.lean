/-
  Push, Pop: what the heap calls.
-/
import Derived.Test.YtmcifmgfgdahnaaTmB
import Derived.Test.YtmcifmgfgdahnaaWhere
namespace Go.Proofs.Ytmcifmgfgdahnaa.Tm
open Go.RowKit
open Go.Proofs.Ytmcifmgfgdahnaa.Id (Tr Tr.refl Tr.gr Tr.only blk own_blk flatR flatR_len flatR_get flatR_cons flatR_append flatR_one flatR_cell RR)
set_option linter.unusedVariables false
set_option linter.unusedSimpArgs false

theorem infoT : (Try.prog.info? 56).map (fun i => (i.zero, i.size, i.bytes)) = some (some (.agg #[.int .i64 0, .int .i64 0]), 2, 16) := by kernel_rfl
theorem sizeS : (Try.prog.info? 58).map (·.size) = some 1 := by kernel_rfl
theorem assertT (v : Value) (w : World) : (Instr.typeAssert (.iface 56 v) 20 56 false).run Try.prog w = .ok v w := by
  simp [Instr.typeAssert, run_underlying Try.underlying56, go_sem, Result.andThen]
theorem tr_grown {w w' : World} {v : Value} (h : w.grownBy w' v.ownBlock) : Tr (blk v) w w' :=
  ⟨h.os, h.tape, h.output, h.size, fun k hk hn => h.block k hk fun e => hn (by
    cases v with
    | slice a n c =>
      cases a with
      | none => cases e
      | some ad => obtain rfl : k = ad.block := by simpa [Value.ownBlock] using e
                   simp [blk]
    | _ => cases e)⟩
set_option maxRecDepth 20000 in
set_option maxHeartbeats 4000000 in
theorem push_any (g : Nat) {v : Value} {b n : Nat} {q : List D} {f : Int → Option Nat} (d : D) (w : World) (h : QAt w g v b q f n) (hn : q.length < 65536) (hk : I64 d.1) :
    Calls Try.prog 79 #[.pointer (some ⟨g, 0, none⟩), .iface 56 (.agg #[.int .i64 d.1, .int .i64 d.2])] w fun e w' => e = .returned (.tuple #[]) ∧ ∃ v', QAt w' g v' b (q ++ [d]) f n ∧ Stp g b v v' w w' := by
  obtain ⟨i0, hi, hz0, hz1, hz2⟩ := info_parts infoT
  have HH := Lib.hid h
  obtain ⟨A, C, ev, hc1, hc2⟩ := h.own.rr.shape
  obtain ⟨L, hL⟩ : ∃ L, L = q.length := ⟨_, rfl⟩
  rw [← hL] at ev hc1 hn
  have HEV := Lib.hid ev
  have HL := Lib.hid hL
  have HROW := Lib.hid h.row
  rw [ev] at HROW
  have HBY : Hid ((L + 1) * 16 ≤ 140737488355328) := by show _ ≤ _; omega
  have HK := Lib.hid hk
  have HN := Lib.hid hn
  clear h ev hc1 hc2 hL hk hn
  go_enter Try.func79, Try.ntmps79
  go_upto_region 0 with fail
  have HC : Hid (Gr w w.drew) := Gr.drew w
  refine wp_region_H 8 Gr Any (by kernel_rfl) ?_
  generalize w.drew = wc at HC ⊢
  -- 0: slot 4
  refine wpH_takeH preGr preAny (i := 0) (v := ?_) (some 4) (by kernel_rfl) rfl (by kernel_rfl) (by kernel_rfl) (by kernel_rfl) (fun _ _ _ h => h) (by rfl) (fun w' hw' => ?_) rfl ?_
  rotate_left
  · go_simp
    with_reducible rfl
  simp only [Act.put, List.setIfInBounds_toArray, List.set_cons_zero, List.set_cons_succ]
  -- 1: slot 5
  refine wpH_take preGr preAny (i := 1) (v := ?_) (by kernel_rfl) (some 5) (by kernel_rfl) rfl (by kernel_rfl) (by kernel_rfl) (by kernel_rfl) (fun _ _ _ h => h) (by rfl) (fun w' hw' => ?_) rfl ?_
  rotate_left
  · try (have hq2 := cellsQ (heap_gr (Gr.trans HC.out hw') HROW.out); obtain ⟨k0, k1, k2⟩ := hq2)
    go_simp
    with_reducible rfl
  simp only [Act.put, List.setIfInBounds_toArray, List.set_cons_zero, List.set_cons_succ]
  -- 2: slot 6
  refine wpH_take preGr preAny (i := 2) (v := ?_) (by kernel_rfl) (some 6) (by kernel_rfl) rfl (by kernel_rfl) (by kernel_rfl) (by kernel_rfl) (fun _ _ _ h => h) (by rfl) (fun w' hw' => ?_) rfl ?_
  rotate_left
  · try (have hq2 := cellsQ (heap_gr (Gr.trans HC.out hw') HROW.out); obtain ⟨k0, k1, k2⟩ := hq2)
    go_simp
    with_reducible rfl
  simp only [Act.put, List.setIfInBounds_toArray, List.set_cons_zero, List.set_cons_succ]
  -- 3: slot 7
  refine wpH_take preGr preAny (i := 3) (v := ?_) (by kernel_rfl) (some 7) (by kernel_rfl) rfl (by kernel_rfl) (by kernel_rfl) (by kernel_rfl) (fun _ _ _ h => h) (by rfl) (fun w' hw' => ?_) rfl ?_
  rotate_left
  · try (have hq2 := cellsQ (heap_gr (Gr.trans HC.out hw') HROW.out); obtain ⟨k0, k1, k2⟩ := hq2)
    go_simp
    with_reducible rfl
  simp only [Act.put, List.setIfInBounds_toArray, List.set_cons_zero, List.set_cons_succ]
  -- 4: slot 8
  refine wpH_take preGr preAny (i := 4) (v := ?_) (by kernel_rfl) (some 8) (by kernel_rfl) rfl (by kernel_rfl) (by kernel_rfl) (by kernel_rfl) (fun _ _ _ h => h) (by rfl) (fun w' hw' => ?_) rfl ?_
  rotate_left
  · try (have hq2 := cellsQ (heap_gr (Gr.trans HC.out hw') HROW.out); obtain ⟨k0, k1, k2⟩ := hq2)
    go_simp
    with_reducible rfl
  simp only [Act.put, List.setIfInBounds_toArray, List.set_cons_zero, List.set_cons_succ]
  -- 5: slot 9
  refine wpH_take preGr preAny (i := 5) (v := ?_) (by kernel_rfl) (some 9) (by kernel_rfl) rfl (by kernel_rfl) (by kernel_rfl) (by kernel_rfl) (fun _ _ _ h => h) (by rfl) (fun w' hw' => ?_) rfl ?_
  rotate_left
  · try (have hq2 := cellsQ (heap_gr (Gr.trans HC.out hw') HROW.out); obtain ⟨k0, k1, k2⟩ := hq2)
    go_simp
    with_reducible rfl
  simp only [Act.put, List.setIfInBounds_toArray, List.set_cons_zero, List.set_cons_succ]
  -- 6: slot 10
  refine wpH_take preGr preAny (i := 6) (v := ?_) (by kernel_rfl) (some 10) (by kernel_rfl) rfl (by kernel_rfl) (by kernel_rfl) (by kernel_rfl) (fun _ _ _ h => h) (by rfl) (fun w' hw' => ?_) rfl ?_
  rotate_left
  · go_simp
    rw [assertT]
    rfl
  simp only [Act.put, List.setIfInBounds_toArray, List.set_cons_zero, List.set_cons_succ]
  refine wpH_one (i := 7) rfl (by kernel_rfl) (by rfl) ?_
  go_simp
  have hb : Gr wc (wc.alloc (.cells #[.int .i64 d.1, .int .i64 d.2] 56)) := (Below.refl _ _).alloc (Nat.le_refl _) _
  refine ⟨hb, trivial, ?_⟩
  have HRD : Hid (Rd (wc.alloc (.cells #[.int .i64 d.1, .int .i64 d.2] 56)) 2 (.slice (some ⟨wc.heap.size, 0, none⟩) 1 1) 1 (two d)) := rd_new wc (two d) 56 1 2 rfl (by decide)
  have HC' : Hid (Gr w (wc.alloc (.cells #[.int .i64 d.1, .int .i64 d.2] 56))) := Gr.trans HC.out hb
  clear HC hb
  have HC := HC'
  clear HC'
  generalize wc.alloc (.cells #[.int .i64 d.1, .int .i64 d.2] 56) = w1 at HC HRD ⊢
  have HOWN : Hid (w1.ownsRow 0 56 2 (.slice A L C) L (flatR q)) := by
    have := (HH.out.gr HC.out).own
    unfold Rw at this
    rw [HEV.out, ← HL.out] at this
    exact this
  try simp only [Act.put, List.setIfInBounds_toArray, List.set_cons_zero, List.set_cons_succ]
  refine wpH_tail (i := 8) (by decide) rfl (by kernel_rfl) (by rfl) ?_
  refine wp_append_where _ (some 12) (.tmp 8) (.tmp 11) 58 rfl 0 56 i0 _ 2 16 Try.underlying58 hi hz0 hz1 hz2 rfl (by decide) _ L _ rfl HOWN.out _ 1 (two d) rfl HRD.out (two_cell d) HBY.out (by decide) (Nat.zero_le _) rfl ?_
  intro v' w2 ho hg hw
  have HO2 := Lib.hid ho
  have HG2 := Lib.hid hg
  have HW2 := Lib.hid hw
  have HROW2 : Hid (w2.heap[g]? = some (.cells #[.slice A L C, .func (.func 27) #[] #[], .map (some b)] 62 (0, 0))) := grown_heap HOWN.out hg (heap_gr HC.out HROW.out) (by decide)
  obtain ⟨a2, c2, rfl, _, _⟩ : ∃ a2 c2, v' = .slice a2 (L + 1) c2 ∧ (L + 1) ≤ c2 ∧ c2 ≤ maxLen := by
    obtain ⟨_, a2, c2, e, h1, h2, _⟩ := own_rd ho
    exact ⟨a2, c2, e, h1, h2⟩
  clear ho hg hw
  refine ⟨trivial, ?_⟩
  try simp only [Act.put, List.setIfInBounds_toArray, List.set_cons_zero, List.set_cons_succ]
  refine wpH_tail (i := 9) (by decide) rfl (by kernel_rfl) (by rfl) ?_
  go_simp
  refine ⟨(pre_refl preAny _), ?_⟩
  try simp only [Act.put, List.setIfInBounds_toArray, List.set_cons_zero, List.set_cons_succ]
  refine wpH_tail (i := 10) (by decide) rfl (by kernel_rfl) (by rfl) ?_
  go_simp
  refine ⟨(pre_refl preAny _), ?_⟩
  try simp only [Act.put, List.setIfInBounds_toArray, List.set_cons_zero, List.set_cons_succ]
  refine wpH_tail (i := 11) (by decide) rfl (by kernel_rfl) (by rfl) ?_
  refine wp_store_cell (none) 58 (.tmp 14) (.tmp 12) rfl g 0 (.slice a2 (L + 1) c2) rfl rfl 62 [.slice A L C, .func (.func 27) #[] #[], .map (some b)] HROW2.out sizeS (by simp) rfl rfl ?_
  intro w3 h3 ho3
  have HR3 := Lib.hid h3
  have HO3 := Lib.hid ho3
  clear h3 ho3
  refine ⟨trivial, ?_⟩
  try simp only [Act.put, List.setIfInBounds_toArray, List.set_cons_zero, List.set_cons_succ]
  refine wpH_done (by kernel_rfl) ?_ _
  go_wp2
  go_end0
  have hq1 := HH.out.gr HC.out
  have hne := hq1.ne
  have hEV := HEV.out
  have t2 : Tr (blk (.slice A L C)) w1 w2 := tr_grown HG2.out
  rw [← hEV] at t2
  have t3 : Tr [g] w2 w3 := Tr.only HO3.out (by simp)
  have hnew : ∀ k ∈ blk (.slice a2 (L + 1) c2), k ∈ blk v ∨ w1.heap.size ≤ k := by rw [hEV]; exact HW2.out
  have hlt2 : ∀ k ∈ blk (.slice a2 (L + 1) c2), k < w2.heap.size := fun k hk => own_blk_lt HO2.out hk
  have hng : ∀ k ∈ blk (.slice a2 (L + 1) c2), k ≠ g := fun k hk => by
    rcases hnew k hk with h | h
    · exact (hne.2 k h).1
    · have := hq1.lt g Fq.g; omega
  refine ⟨rfl, .slice a2 (L + 1) c2, ⟨HR3.out, ?_, ?_, ?_, ?_⟩, ⟨?_, ?_⟩⟩
  · have := own_keep HO2.out fun k hk => t3.block k (hlt2 k hk) fun h => hng k hk (List.mem_singleton.1 h)
    unfold Rw
    rw [List.length_append, ← HL.out, flatR_append]
    exact this
  · refine (hq1.map.keep (t2.block b hq1.map.lt fun h => (hne.2 b h).2 rfl)).keep (t3.block b ?_ fun h => hne.1 (List.mem_singleton.1 h))
    exact Nat.lt_of_lt_of_le hq1.map.lt t2.size
  · rw [List.length_append, ← HL.out]
    exact ⟨HN.out, HH.out.few.2⟩
  · intro x hx
    rcases List.mem_append.1 hx with hx | hx
    · exact HH.out.keys x hx
    · obtain rfl := List.mem_singleton.1 hx; exact HK.out
  · refine ((Tr.gr (K := Fq g v b) HC.out).trans t2 fun k hk => .inl (Fq.v hk)).trans t3 fun k hk => .inl (by obtain rfl := List.mem_singleton.1 hk; exact Fq.g)
  · intro k hk
    simp only [Fq, List.mem_cons] at hk ⊢
    rcases hk with hk | hk | hk
    · exact .inl (.inl hk)
    · exact .inl (.inr (.inl hk))
    · rcases hnew k hk with h | h
      · exact .inl (.inr (.inr h))
      · exact .inr (Nat.le_trans HC.out.size h)
theorem wpList_store_qrow {ops : Array Oper} {rest : List Oper} {op : Oper} {a : Act} {w : World} {Q : Exit → Act → World → Prop} (hgd : op.guard = none) (x y : Operand) (ho : op.op = .store 58 x y) (g : Nat) (c0 c1 c2 c : Value) (hx : a.eval x = .pointer (some ⟨g, 0, none⟩)) (hy : a.eval y = c) (h1 : c.oneCell' = true)
    (hg : w.heap[g]? = some (.cells #[c0, c1, c2] 62 (0, 0))) (h : ∀ w', w'.heap[g]? = some (.cells #[c, c1, c2] 62 (0, 0)) → Only g w w' → wpList Try.prog ops Q rest (a.put op.dst undef) w') : wpList Try.prog ops Q (op :: rest) a w :=
  wpList_store_cell hgd 58 x y ho g 0 c hx hy 62 [c0, c1, c2] hg sizeS (by simp) h1 h
set_option maxRecDepth 20000 in
set_option maxHeartbeats 4000000 in
theorem pop_any (g : Nat) {v : Value} {b n : Nat} {q : List D} {f : Int → Option Nat} (d : D) (w : World) (h : QAt w g v b (q ++ [d]) f n) :
    Calls Try.prog 78 #[.pointer (some ⟨g, 0, none⟩)] w fun e w' => e = .returned (.iface 56 (.agg #[.int .i64 d.1, .int .i64 d.2])) ∧ ∃ v', QAt w' g v' b q f n ∧ Stp g b v v' w w' := by
  obtain ⟨i0, hi, hz0, hz1, hz2⟩ := info_parts infoT
  have HH := Lib.hid h
  obtain ⟨r, cap, cur, ev, h1, h2, h3, h4, h5, h6⟩ := h.own.open (by simp)
  have hrng := range_two (i := q.length) h2 h6 (by simp)
  rw [at_append_last] at hrng
  have hl : (q ++ [d]).length = q.length + 1 := by simp
  rw [hl] at ev h3 h6
  obtain ⟨M, hM⟩ : ∃ M, M = q.length := ⟨_, rfl⟩
  rw [← hM] at ev h3 h6 hrng
  have hfew := h.few.1
  rw [hl, ← hM] at hfew
  obtain ⟨L, hL⟩ : ∃ L, L = M + 1 := ⟨_, rfl⟩
  rw [← hL] at ev h3 h6
  subst ev
  obtain ⟨k0, k1, k2⟩ := cellsQ h.row
  have hrd := h.own.rr
  unfold RR at hrd
  rw [hl, ← hM, ← hL] at hrd
  obtain ⟨ao', hsl, _⟩ := slice_upto (P := Try.prog) Try.underlying58 hi hz1 hrd .i64 (M : Int) M rfl (by omega)
  have hsl0 : ∀ w', (Instr.slice 58 (.slice (some ⟨r, 0, none⟩) L cap) none (some (.int .i64 (M : Int))) none).run Try.prog w' = .ok (.slice (some ⟨r, 0, none⟩) M cap) w' := fun w' => by
    rw [run_slice_h w' 58 (some ⟨r, 0, none⟩) L cap (by rw [elem_of Try.underlying58]; exact Try.underlying58) .i64 M (by omega) (by omega), elem_of Try.underlying58, run_sizeOf hi hz1]
    simp only [Result.andThen, sliced, Int.toNat_natCast, Nat.sub_zero, Nat.zero_mul]
    simp [Addr.add]
  have x1 : wrap64 ((L : Int) - 1) = (M : Int) := by rw [hL, wrap64_in (by omega) (by omega)]; omega
  have c0 : w.cell? ⟨r, M * 2, none⟩ = some (.int .i64 d.1) := by simpa using hrng 0 _ rfl
  have c1 : w.cell? ⟨r, M * 2 + 1, none⟩ = some (.int .i64 d.2) := by simpa using hrng 1 _ rfl
  have hML : M < L := by omega
  have HR : Hid (w.heap[r]? = some (.cells cur.toArray 56 (0, 0)) ∧ M ≤ cap ∧ cap ≤ maxLen ∧ cur.length = cap * 2 ∧ cur.take (L * 2) = flatR (q ++ [d])) := ⟨h2, by omega, h4, h5, h6⟩
  have HROW := Lib.hid h.row
  have HL := Lib.hid hL
  have HM := Lib.hid hM
  have HFW := Lib.hid hfew
  clear h h1 h2 h3 h4 h5 h6 hrd hsl hrng hL hM hl hfew
  go_enter Try.func78, Try.ntmps78
  go_upto_region 3 with fail
  have HB : Hid (Gr w (w.alloc (.cells #[.int .i64 d.1, .int .i64 d.2] 56))) := (Below.refl _ _).alloc (Nat.le_refl _) _
  have HD : Hid ((w.alloc (.cells #[.int .i64 d.1, .int .i64 d.2] 56)).heap[w.heap.size]? = some (.cells #[.int .i64 d.1, .int .i64 d.2] 56 (0, 0))) := heap_alloc_last _ _
  clear k0 k1 k2 c0 c1
  rw [x1]
  generalize w.alloc (.cells #[.int .i64 d.1, .int .i64 d.2] 56) = w1 at HB HD ⊢
  have HROW1 := Lib.hid (heap_gr HB.out HROW.out)
  obtain ⟨k0, k1, k2⟩ := cellsQ HROW1.out
  go_wp2_with (with_reducible refine wpList_store_qrow rfl (.tmp 26) (.tmp 24) rfl g _ _ _ _ rfl rfl rfl HROW1.out ?_)
  intro w2 h2 ho2
  have HR2 := Lib.hid h2
  have HO2 := Lib.hid ho2
  have hgl : g < w.heap.size := (Array.getElem?_eq_some_iff.1 HROW.out).1
  obtain ⟨e0, e1⟩ := copy_cells (ho2.heap w.heap.size (Array.getElem?_eq_some_iff.1 HD.out).1 (by omega) ▸ HD.out : w2.heap[w.heap.size]? = some (.cells #[.int .i64 d.1, .int .i64 d.2] 56 (0, 0)))
  clear h2 ho2 k0 k1 k2
  go_wp2
  go_ret
  have hr := HR.out
  have hq1 := HH.out.gr HB.out
  have hne := hq1.ne
  have ht : Tr [g] w1 w2 := Tr.only HO2.out (by simp)
  have hrg : r ≠ g := (hne.2 r (by simp [blk])).1
  refine ⟨rfl, .slice (some ⟨r, 0, none⟩) M cap, ⟨HR2.out, ?_, ?_, ?_, ?_⟩, ⟨?_, ?_⟩⟩
  · unfold Rw
    rw [← HM.out]
    refine own_shut ((HO2.out.heap r (Array.getElem?_eq_some_iff.1 (heap_gr HB.out hr.1)).1 hrg).trans (heap_gr HB.out hr.1)) hr.2.1 hr.2.2.1 hr.2.2.2.1 ?_
    have h6 := congrArg (List.take (M * 2)) hr.2.2.2.2
    rw [List.take_take, flatR_take, Nat.min_eq_left (by have := HL.out; omega), HM.out, List.take_left'] at h6
    · rw [HM.out]; exact h6
    · rfl
  · exact hq1.map.keep (ht.block b hq1.map.lt fun h => hne.1 (List.mem_singleton.1 h))
  · have := HH.out.few
    have := HFW.out
    rw [← HM.out]
    exact ⟨by omega, HH.out.few.2⟩
  · exact fun x hx => HH.out.keys x (List.mem_append_left _ hx)
  · exact (Tr.gr HB.out).trans ht fun k hk => .inl (by obtain rfl := List.mem_singleton.1 hk; exact Fq.g)
  · exact fun k hk => .inl hk
end Go.Proofs.Ytmcifmgfgdahnaa.Tm
