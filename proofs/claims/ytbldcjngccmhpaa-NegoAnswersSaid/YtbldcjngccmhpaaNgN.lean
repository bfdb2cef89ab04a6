/-
  nego's without, Learn.
-/
import Derived.Test.YtbldcjngccmhpaaNgK
import Derived.Test.YtbldcjngccmhpaaNgL
namespace Go.Proofs.Ytbldcjngccmhpaa.Ng
open Go.RowKit O
set_option linter.unusedVariables false
set_option linter.unusedSimpArgs false
theorem bs_len {w : World} {a : Option Addr} {L C : Nat} {l : List UInt8} (h : Bs w (.slice a L C) l) : l.length = L := by
  obtain ⟨_, _, es, _⟩ := h.shape
  simp only [Value.slice.injEq] at es
  exact es.2.1.symm
theorem plain_take_succ {ts : List Tg} (j : Nat) (hj : j < ts.length) : (plain ts).take (j + 1) = (plain ts).take j ++ [(ts[j].typ, ts[j].l)] := by
  rw [List.take_succ_eq_append_getElem (by rw [plain_length]; exact hj), plain_get _ _ hj]

set_option maxRecDepth 20000 in
set_option maxHeartbeats 2000000 in
theorem without_any (ao : Option Addr) (n c : Nat) (qs : List Tg) (la : Option Addr) (ln lc : Nat) (ts : List Tg) (w : World) (hra : TR w (.slice ao n c) n qs) (hrt : TR w (.slice la ln lc) ln ts) (hn : n ≤ 1000)
    (hma : ∀ x ∈ qs, x.l.length ≤ 1000) :
    Calls Try.prog 36 #[.slice ao n c, .slice la ln lc] w fun e w' => ∃ v us, e = .returned (.tuple #[v, .bool (decide ((strike (plain qs) (plain ts)).2 = []))]) ∧ plain us = (strike (plain qs) (plain ts)).1 ∧ TO w' w.heap.size v us ∧ Below w.heap.size w w' := by
  have hl := hra.len
  have hal : Below w.heap.size w (w.alloc (.cells #[.slice la ln lc] 23)) := (Below.refl _ _).alloc (Nat.le_refl _) _
  have hsz : (w.alloc (.cells #[.slice la ln lc] 23)).heap.size = w.heap.size + 1 := World.size_alloc _ _
  have hg : (w.alloc (.cells #[.slice la ln lc] 23)).heap[w.heap.size]? = some (.cells #[.slice la ln lc] 23) := heap_alloc_last _ _
  have hs0 : strike [] (plain ts) = ([], plain ts) := by cases plain ts <;> rfl
  have WK := Lib.hid (walk_any w (w.alloc (.cells #[.slice la ln lc] 23)) (some w.heap.size) (fun g h => by obtain rfl := Option.some.inj h; omega) (fun g h => by obtain rfl := Option.some.inj h; omega) hal ao n c qs hra hn
    53 #[.pointer (some ⟨w.heap.size, 0, none⟩)] (fun _ _ => rfl)
    (fun j V => ∃ a' m' c' us', V.heap[w.heap.size]? = some (.cells #[.slice a' m' c'] 23 (0, 0)) ∧ TR w (.slice a' m' c') m' us' ∧ plain us' = (strike ((plain qs).take j) (plain ts)).2)
    (fun j w1 w2 h hb => by
      obtain ⟨a', m', c', us', h1, h2, h3⟩ := h
      exact ⟨a', m', c', us', by rw [hb.block _ (by rw [hsz]; omega)]; exact h1, h2, h3⟩) ⟨la, ln, lc, ts, hg, hrt, by rw [List.take_zero, hs0]⟩ (outAt (plain qs) fun seen o => strO (strike seen (plain ts)).2 o)
    (fun j hj T A L C wr hT hv hbs hbw hsz' hI => by
      obtain ⟨a', m', c', us', h1, h2, h3⟩ := hI
      have hL := bs_len hbs
      have := hma qs[j] (List.getElem_mem hj)
      have hb0 : Bs w (.slice A L C) qs[j].l := by rw [← hv]; exact hra.val j hj
      refine (without1_any w.heap.size w wr a' m' c' us' T A L C qs[j].l hL (by omega) hb0 h2 (Nat.le_refl _) hbw h1).mono ?_
      rintro e w' ⟨g1, g2, a2, m2, c2, us2, g3, g4, g5⟩
      refine ⟨?_, g2, a2, m2, c2, us2, g3, g4, ?_⟩
      · rw [outAt_get _ j hj, ← hT, ← h3]
        exact g1
      · rw [plain_take_succ j hj, strike_snoc, g5, h3, ← hT]))
  have HE : Hid (outs (outAt (plain qs) fun seen o => strO (strike seen (plain ts)).2 o) n = (strike (plain qs) (plain ts)).1) := by
    show _ = _
    rw [outs_all _ _ (by rw [plain_length]; exact hl), strike_scan_all]
  have HTK : Hid ((plain qs).take n = plain qs) := by
    show _ = _
    rw [List.take_of_length_le (by rw [plain_length]; omega)]
  have HAL := Lib.hid hal
  have HSZ : Hid (w.heap.size ≤ (w.alloc (.cells #[.slice la ln lc] 23)).heap.size) := hal.size
  clear hra hrt hal hg hsz hma hs0
  go_enter Try.func36, Try.ntmps36
  go_wp2_with fail
  refine WK.out.mono ?_
  rintro e w2 ⟨v, us, rfl, h1, h2, h3, a', m', c', us', g1, g2, g3⟩
  rw [HE.out] at h1
  rw [HTK.out] at g3
  have H1 := Lib.hid h1
  have H2 := Lib.hid (h2.mono HSZ.out)
  have H3 : Hid (Below w.heap.size w w2) := Only.below h3 _ _ (Nat.le_refl _) HAL.out
  have HD : Hid (decide ((strike (plain qs) (plain ts)).2 = []) = ((m' : Int) == 0)) := by
    show _ = _
    have hz : (strike (plain qs) (plain ts)).2 = [] ↔ m' = 0 := by rw [← g3, ← List.length_eq_zero_iff, plain_length, g2.len]
    by_cases h : m' = 0
    · rw [decide_eq_true (hz.2 h), h]; rfl
    · rw [decide_eq_false (fun e => h (hz.1 e))]
      have : ((m' : Int) == 0) = false := by simpa using h
      exact this.symm
  have HG1 := Lib.hid g1
  clear h1 h2 h3 g1 g2 g3
  go_upto_region 2 with fail
  refine wp_region_G 6 Gr (by kernel_rfl) ?_
  -- 0: slot 10
  refine wpG_take preGr (i := 0) (v := ?_) (by kernel_rfl) (some 10) (by kernel_rfl) rfl (by kernel_rfl) (by kernel_rfl) (by kernel_rfl) (fun _ _ _ h => h) (by rfl) (fun w' hw' => ?_) rfl ?_
  rotate_left
  · have g0 := cell1 (heap_gr ((Gr.drew w2).trans hw') HG1.out)
    go_simp
    with_reducible rfl
  simp only [Act.put, List.setIfInBounds_toArray, List.set_cons_zero, List.set_cons_succ]
  -- 1: slot 11
  refine wpG_take preGr (i := 1) (v := ?_) (by kernel_rfl) (some 11) (by kernel_rfl) rfl (by kernel_rfl) (by kernel_rfl) (by kernel_rfl) (fun _ _ _ h => h) (by rfl) (fun w' hw' => ?_) rfl ?_
  rotate_left
  · have g0 := cell1 (heap_gr ((Gr.drew w2).trans hw') HG1.out)
    go_simp
    with_reducible rfl
  simp only [Act.put, List.setIfInBounds_toArray, List.set_cons_zero, List.set_cons_succ]
  -- 2: slot 12
  refine wpG_take preGr (i := 2) (v := ?_) (by kernel_rfl) (some 12) (by kernel_rfl) rfl (by kernel_rfl) (by kernel_rfl) (by kernel_rfl) (fun _ _ _ h => h) (by rfl) (fun w' hw' => ?_) rfl ?_
  rotate_left
  · have g0 := cell1 (heap_gr ((Gr.drew w2).trans hw') HG1.out)
    go_simp
    with_reducible rfl
  simp only [Act.put, List.setIfInBounds_toArray, List.set_cons_zero, List.set_cons_succ]
  -- 3: slot 13
  refine wpG_take preGr (i := 3) (v := ?_) (by kernel_rfl) (some 13) (by kernel_rfl) rfl (by kernel_rfl) (by kernel_rfl) (by kernel_rfl) (fun _ _ _ h => h) (by rfl) (fun w' hw' => ?_) rfl ?_
  rotate_left
  · have g0 := cell1 (heap_gr ((Gr.drew w2).trans hw') HG1.out)
    go_simp
    with_reducible rfl
  simp only [Act.put, List.setIfInBounds_toArray, List.set_cons_zero, List.set_cons_succ]
  -- 4: slot 4
  refine wpG_take preGr (i := 4) (v := ?_) (by kernel_rfl) (some 4) (by kernel_rfl) rfl (by kernel_rfl) (by kernel_rfl) (by kernel_rfl) (fun _ _ _ h => h) (by rfl) (fun w' hw' => ?_) rfl ?_
  rotate_left
  · have g0 := cell1 (heap_gr ((Gr.drew w2).trans hw') HG1.out)
    go_simp
    with_reducible rfl
  simp only [Act.put, List.setIfInBounds_toArray, List.set_cons_zero, List.set_cons_succ]
  -- 5: slot 5
  refine wpG_take preGr (i := 5) (v := ?_) (by kernel_rfl) (some 5) (by kernel_rfl) rfl (by kernel_rfl) (by kernel_rfl) (by kernel_rfl) (fun _ _ _ h => h) (by rfl) (fun w' hw' => ?_) rfl ?_
  rotate_left
  · have g0 := cell1 (heap_gr ((Gr.drew w2).trans hw') HG1.out)
    go_simp
    with_reducible rfl
  simp only [Act.put, List.setIfInBounds_toArray, List.set_cons_zero, List.set_cons_succ]
  refine wpG_done (by kernel_rfl) ?_ _
  go_wp2
  go_ret2
  exact ⟨v, us, by rw [HD.out]; rfl, H1.out, H2.out.below (Gr.drew w2), H3.out.drew⟩
/-- What Learn tells. -/
def LRes (x : List PT × Bool) (w : World) (e : Ending) (w' : World) : Prop := ∃ v us, e = .returned (.tuple #[v, .bool x.2]) ∧ plain us = x.1 ∧ TO w' w.heap.size v us ∧ Below w.heap.size w w'
theorem LRes.of {x : List PT × Bool} {w w' : World} (l : List PT) (b : Bool) (v : Value) (us : List Tg) (h : x = (l, b)) (h1 : plain us = l) (h2 : TO w' w.heap.size v us) (h3 : Below w.heap.size w w') : LRes x w (.returned (.tuple #[v, .bool b])) w' := by
  subst h
  exact ⟨v, us, rfl, h1, h2, h3⟩
theorem lrn_none {q l : List PT} {k : Int} (h : l = [] ∨ (k ≠ 3 ∧ k ≠ 4)) : lrn q k l = (q, false) := by
  unfold lrn
  by_cases h0 : l = []
  · rw [if_pos h0]
  · rw [if_neg h0, if_neg (by rcases h with h | h; exact absurd h h0; exact h.1), if_neg (by rcases h with h | h; exact absurd h h0; exact h.2)]
theorem lrn_nak {q l : List PT} (h : l ≠ []) : lrn q 3 l = (q.map (takeOver l), true) := by
  unfold lrn; rw [if_neg h, if_pos rfl]
theorem lrn_rej {q l : List PT} (h : l ≠ []) : lrn q 4 l = if (strike q l).2 = [] then ((strike q l).1, true) else (q, false) := by
  unfold lrn; rw [if_neg h, if_neg (by decide), if_pos rfl]

set_option maxRecDepth 20000 in
set_option maxHeartbeats 4000000 in
theorem learn_any (ao : Option Addr) (n c : Nat) (qs : List Tg) (k : Int) (la : Option Addr) (ln lc : Nat) (ts : List Tg) (w : World) (hra : TR w (.slice ao n c) n qs) (hrt : TR w (.slice la ln lc) ln ts) (hn : n ≤ 1000) (hln : ln ≤ 1000)
    (hma : ∀ x ∈ qs, x.l.length ≤ 1000) (hmt : ∀ x ∈ ts, x.l.length ≤ 1000) (hia : ∀ x ∈ qs, I64 x.typ) (hit : ∀ x ∈ ts, I64 x.typ) :
    Calls Try.prog 17 #[.slice ao n c, .int .i64 k, .slice la ln lc] w (LRes (lrn (plain qs) k (plain ts)) w) := by
  have hlt := hrt.len
  have CO := Lib.hid (fun (w' : World) (hw : Gr w w') => copies_any ao n c qs w' (hra.below hw) hn hma)
  have TA := Lib.hid (taught_any ao n c qs la ln lc ts w hra hrt hn hln hma hmt hia hit)
  have WI := Lib.hid (without_any ao n c qs la ln lc ts w hra hrt hn hma)
  clear hra hrt hma hmt hia hit
  have hcop : ∀ (w1 : World) (hw : Gr w w1) (v : Value) (us : List Tg) (w2 : World), lrn (plain qs) k (plain ts) = (plain qs, false) → plain us = plain qs → TO w2 w1.heap.size v us → Below w1.heap.size w1 w2 →
      LRes (lrn (plain qs) k (plain ts)) w (.returned (.tuple #[v, .bool false])) w2 := fun w1 hw v us w2 h h1 h2 h3 =>
    LRes.of _ false v us h h1 (h2.mono hw.size) (Below.trans hw (Below.mono h3 hw.size))
  have HC := Lib.hid hcop
  clear hcop
  by_cases h0 : ln = 0
  · subst h0
    have HN : Hid (lrn (plain qs) k (plain ts) = (plain qs, false)) := lrn_none (.inl (plain_nil_iff.2 hlt))
    go_enter Try.func17, Try.ntmps17
    go_wp2_with fail
    refine (CO.out w (Gr.refl w)).mono ?_
    rintro e w2 ⟨v, us, rfl, h1, h2, h3⟩
    have HR := Lib.hid (HC.out w (Gr.refl w) v us w2 HN.out h1 h2 h3)
    clear h1 h2 h3
    go_wp2
    go_ret2
    exact HR.out
  have hp : (0 : Int) < (ln : Int) := by omega
  have HNE : Hid (plain ts ≠ []) := fun e => h0 (by rw [← hlt]; exact plain_nil_iff.1 e)
  clear h0
  by_cases h3 : k = 3
  · subst h3
    go_enter Try.func17, Try.ntmps17
    go_wp2_with fail
    refine TA.out.mono ?_
    rintro e w2 ⟨v, us, rfl, h1, h2, h3⟩
    have HR := Lib.hid (LRes.of _ true v us (lrn_nak HNE.out) h1 h2 h3)
    clear h1 h2 h3
    go_wp2
    go_ret2
    exact HR.out
  have e3 : (k == 3) = false := by simpa using h3
  by_cases h4 : k = 4
  · subst h4
    clear h3 e3
    obtain ⟨b, hb⟩ : ∃ b, b = decide ((strike (plain qs) (plain ts)).2 = []) := ⟨_, rfl⟩
    rw [← hb] at WI
    have HB := Lib.hid hb
    clear hb
    go_enter Try.func17, Try.ntmps17
    go_wp2_with fail
    refine WI.out.mono ?_
    rintro e w2 ⟨v, us, rfl, h1, h2, h3⟩
    cases b with
    | true =>
      have HR := Lib.hid (LRes.of _ true v us ((lrn_rej HNE.out).trans (if_pos (of_decide_eq_true HB.out.symm))) h1 h2 h3)
      clear h1 h2 h3
      go_wp2
      go_ret2
      exact HR.out
    | false =>
      have HN : Hid (lrn (plain qs) 4 (plain ts) = (plain qs, false)) := (lrn_rej HNE.out).trans (if_neg (of_decide_eq_false HB.out.symm))
      have CO2 := Lib.hid (CO.out w2 h3)
      have HQ : Hid (Gr w w2) := h3
      clear h1 h2 h3
      go_wp2_with fail
      refine CO2.out.mono ?_
      rintro e w3 ⟨v3, us3, rfl, h1, h2, h3⟩
      have HR := Lib.hid (HC.out w2 HQ.out v3 us3 w3 HN.out h1 h2 h3)
      clear h1 h2 h3
      go_wp2
      go_ret2
      exact HR.out
  have e4 : (k == 4) = false := by simpa using h4
  have HN : Hid (lrn (plain qs) k (plain ts) = (plain qs, false)) := lrn_none (.inr ⟨h3, h4⟩)
  clear h3 h4
  go_enter Try.func17, Try.ntmps17
  go_wp2_with fail
  refine (CO.out w (Gr.refl w)).mono ?_
  rintro e w2 ⟨v, us, rfl, h1, h2, h3⟩
  have HR := Lib.hid (HC.out w (Gr.refl w) v us w2 HN.out h1 h2 h3)
  clear h1 h2 h3
  go_wp2
  go_ret2
  exact HR.out
end Go.Proofs.Ytbldcjngccmhpaa.Ng
