/-
  nego's copies, refused, mended.
-/
import Derived.Test.YtbldcjngccmhpaaNgE
import Derived.Test.YtbldcjngccmhpaaGrowH
namespace Go.Proofs.Ytbldcjngccmhpaa.Ng
open Go.RowKit O
set_option linter.unusedVariables false
set_option linter.unusedSimpArgs false
theorem plain_nil_iff {ts : List Tg} : plain ts = [] ↔ ts.length = 0 := by
  rw [← List.length_eq_zero_iff, plain_length]
/-- What stays of a row, each looked at with those ahead of it. -/
def scanL (f : List PT → PT → Option PT) : List PT → List PT → List PT
  | _, [] => []
  | seen, o :: l => (f seen o).toList ++ scanL f (seen ++ [o]) l
theorem scanL_snoc (f : List PT → PT → Option PT) : ∀ (l seen : List PT) (o : PT), scanL f seen (l ++ [o]) = scanL f seen l ++ (f (seen ++ l) o).toList
  | [], seen, o => by simp [scanL]
  | x :: l, seen, o => by
    rw [List.cons_append, scanL, scanL, scanL_snoc f l, List.append_assoc, List.append_assoc]
    rfl
def outAt (l : List PT) (f : List PT → PT → Option PT) (j : Nat) : Option PT := l[j]?.bind (f (l.take j))
theorem outAt_get {ts : List Tg} (f : List PT → PT → Option PT) (j : Nat) (h : j < ts.length) : outAt (plain ts) f j = f ((plain ts).take j) (ts[j].typ, ts[j].l) := by
  unfold outAt
  rw [List.getElem?_eq_getElem (by rw [plain_length]; exact h), plain_get _ _ h]
  rfl
theorem outs_scan (l : List PT) (f : List PT → PT → Option PT) : ∀ k, k ≤ l.length → outs (outAt l f) k = scanL f [] (l.take k)
  | 0, _ => by rw [outs_zero]; rfl
  | k + 1, h => by
    rw [outs_succ, outs_scan l f k (by omega), List.take_succ_eq_append_getElem h, scanL_snoc]
    unfold outAt
    rw [List.getElem?_eq_getElem h]
    rfl
theorem outs_all (l : List PT) (f : List PT → PT → Option PT) {n : Nat} (h : l.length = n) : outs (outAt l f) n = scanL f [] l := by
  rw [outs_scan l f n (by omega), List.take_of_length_le (by omega)]
theorem scanL_plain (f : PT → Option PT) : ∀ (l seen : List PT), scanL (fun _ => f) seen l = l.filterMap f
  | [], _ => rfl
  | o :: l, seen => by
    rw [scanL, scanL_plain f l, List.filterMap_cons]
    cases f o <;> rfl
/-- The options that are not taken. -/
def refd (rs : List Ru) (o : PT) : Option PT := match ruleOf rs o with
  | none => none
  | some r => if takes r (num o) then none else some o
def mendd (rs : List Ru) (o : PT) : Option PT := (ruleOf rs o).map goodO
theorem bads_eq {rs : List Ru} : ∀ {l seen : List PT}, rejs rs seen l = [] → (bads rs seen l).map (·.1) = l.filterMap (refd rs) ∧ (bads rs seen l).map (·.2) = (l.filterMap (refd rs)).filterMap (mendd rs)
  | [], _, _ => ⟨rfl, rfl⟩
  | o :: l, seen, h => by
    have h0 := (rejs_nil h).1 o (by simp)
    unfold rejs at h
    obtain ⟨_, h2⟩ := List.append_eq_nil_iff.1 h
    have ih := bads_eq h2
    obtain ⟨r, hr⟩ := Option.isSome_iff_exists.1 h0.1
    have e1 : refd rs o = if takes r (num o) then none else some o := by unfold refd; rw [hr]
    have e2 : mendd rs o = some (goodO r) := by unfold mendd; rw [hr]; rfl
    unfold bads
    rw [List.filterMap_cons]
    cases ht : takes r (num o) with
    | true => simp [hr, h0.2, ht, e1, ih.1, ih.2]
    | false => simp [hr, h0.2, ht, e1, e2, ih.1, ih.2]
/-- Of rules that may be, the first of a type with the option's size is the rule of the option. -/
theorem ruleOf_hit {rs : List Ru} {o : PT} {r : Ru} (ha : areR rs) (k : Nat) (hk : k < rs.length) (hr : r = rs[k]) (ht : r.typ = o.1) : ruleOf rs o = if r.size = (o.2.length : Int) then some r else none := by
  have hm : r ∈ rs := by rw [hr]; exact List.getElem_mem hk
  split
  · rename_i hs
    cases hf : ruleOf rs o with
    | none =>
      have := List.find?_eq_none.1 hf r hm
      simp [fits, ht, hs] at this
    | some q =>
      have hq := ruleOf_some hf
      exact congrArg some (rule_only ha.2.2 hq.1 hm (hq.2.1.trans ht.symm))
  · rename_i hs
    cases hf : ruleOf rs o with
    | none => rfl
    | some q =>
      have hq := ruleOf_some hf
      have e := rule_only ha.2.2 hq.1 hm (hq.2.1.trans ht.symm)
      rw [← e] at hs
      exact (hs hq.2.2).elim
theorem ruleOf_miss {rs : List Ru} {o : PT} (h : ∀ j (hj : j < rs.length), rs[j].typ ≠ o.1) : ruleOf rs o = none := by
  refine List.find?_eq_none.2 fun r hr => ?_
  obtain ⟨i, hi, rfl⟩ := List.mem_iff_getElem.1 hr
  simp [fits, h i hi]
theorem isR_kind {r : Ru} (h : isR r) : 1 ≤ r.kind ∧ r.kind ≤ 4 := Classical.byContradiction fun hk => isR_no1 hk h
theorem isR_small {r : Ru} (h : isR r) : 0 ≤ r.size ∧ r.size ≤ 4 := ⟨h.2.2.1, h.2.2.2.1⟩
theorem areR_at {rs : List Ru} (ha : areR rs) (k : Nat) (hk : k < rs.length) : isR rs[k] := ha.2.1 _ (List.getElem_mem hk)

set_option maxRecDepth 20000 in
set_option maxHeartbeats 2000000 in
theorem copies1_any (T : Int) (A : Option Addr) (L C : Nat) (l : List UInt8) (hl : l.length = L) (hL : L ≤ 1000) (w : World) (hb : Bs w (.slice A L C) l) :
    Calls Try.prog 46 #[.agg #[.int .i64 T, .slice A L C]] w fun e w' => Tells (some (T, l)) w' e ∧ OB none w w' := by
  have hal : Gr w ((w.alloc (.cells #[.int .i64 T, .slice A L C] 42)).alloc (.cells #[.int .i64 0, .slice none 0 0] 42)) := ((Gr.refl w).alloc _).alloc _
  have HAL := Lib.hid hal
  have hg0 : ((w.alloc (.cells #[.int .i64 T, .slice A L C] 42)).alloc (.cells #[.int .i64 0, .slice none 0 0] 42)).heap[w.heap.size]? = some (.cells #[.int .i64 T, .slice A L C] 42) := heap2_0' _ _ _
  have HG1 : Hid (((w.alloc (.cells #[.int .i64 T, .slice A L C] 42)).alloc (.cells #[.int .i64 0, .slice none 0 0] 42)).heap[w.heap.size + 1]? = some (.cells #[.int .i64 0, .slice none 0 0] 42)) := heap2_1' _ _ _
  obtain ⟨k0, k1⟩ := copy_cells hg0
  have HB := Lib.hid hb
  clear hal hg0 hb
  go_enter Try.func46, Try.ntmps46
  go_wp2_with (refine wpList_store_whole rfl 42 (.tmp 2) (.tmp 4) rfl (w.heap.size + 1) [.int .i64 T, .slice A L C] rfl rfl 42 [.int .i64 0, .slice none 0 0] HG1.out O.sizeT rfl (O.one_tag _ rfl) ?_)
  intro w3 h3 ho3
  have H3 := Lib.hid h3
  have HB3 : Hid (Below w.heap.size w w3) := ho3.below _ _ (Nat.le_succ _) HAL.out
  clear h3 ho3
  go_wp2
  refine bodyPost_ret (v := .tuple #[.agg #[.int .i64 T, .slice A L C], .bool true]) (results_cell_tmp_row (P := Try.prog) (fn := Try.f46) rfl _ _ (w.heap.size + 1) 42 _ (0, 0) _ rfl H3.out Try.underlying42 rfl (by kernel_rfl)) rfl ?_
  exact ⟨⟨T, A, L, C, true, l, rfl, rfl, fun _ => ⟨hl, hL, HB.out.below HB3.out⟩⟩, HB3.out⟩
theorem copies_any (ao : Option Addr) (n c : Nat) (ts : List Tg) (w : World) (hr : TR w (.slice ao n c) n ts) (hn : n ≤ 1000) (hm : ∀ x ∈ ts, x.l.length ≤ 1000) :
    Calls Try.prog 27 #[.slice ao n c] w fun e w' => ∃ v us, e = .returned v ∧ plain us = plain ts ∧ TO w' w.heap.size v us ∧ Below w.heap.size w w' := by
  have hl := hr.len
  have WK := Lib.hid (walk_any w w none (fun _ h => by cases h) (fun _ h => by cases h) (Below.refl _ _) ao n c ts hr hn 46 #[] (fun _ _ => rfl) (fun _ _ => True) (fun _ _ _ _ _ => trivial) trivial (outAt (plain ts) fun _ => some)
    (fun j hj T A L C wr hT hv hbs hbw hsz _ => by
      have hL : ts[j].l.length = L := by
        obtain ⟨_, _, es, _⟩ := hbs.shape
        simp only [Value.slice.injEq] at es
        exact es.2.1.symm
      have := hm ts[j] (List.getElem_mem hj)
      refine (copies1_any T A L C ts[j].l hL (by omega) wr hbs).mono ?_
      rintro e w' ⟨h1, h2⟩
      refine ⟨?_, h2, trivial⟩
      rw [outAt_get _ j hj, ← hT]
      exact h1))
  have HE : Hid (outs (outAt (plain ts) fun _ => some) n = plain ts) := by
    show _ = _
    rw [outs_all _ _ (by rw [plain_length]; exact hl), scanL_plain]
    simp
  clear hr
  go_enter Try.func27, Try.ntmps27
  go_wp2_with fail
  refine WK.out.mono ?_
  rintro e w2 ⟨v, us, rfl, h1, h2, h3, _⟩
  rw [HE.out] at h1
  have H1 := Lib.hid h1
  have H2 := Lib.hid h2
  have H3 := Lib.hid h3
  clear h1 h2 h3
  go_wp2
  go_ret
  exact ⟨v, us, rfl, H1.out, H2.out, H3.out⟩

set_option maxRecDepth 20000 in
set_option maxHeartbeats 2000000 in
theorem refused1_any (ra : Option Addr) (rn rc : Nat) (rs : List Ru) (ha : areR rs) (gr : Nat) (T : Int) (A : Option Addr) (L C : Nat) (l : List UInt8) (hl : l.length = L) (hL : L ≤ 1000) (w : World) (hb : Bs w (.slice A L C) l)
    (hr : RR w (.slice ra rn rc) rn rs) (hg : w.heap[gr]? = some (.cells #[.slice ra rn rc] 48)) (hf : (ruleOf rs (T, l)).isSome = true) :
    Calls Try.prog 41 #[.agg #[.int .i64 T, .slice A L C], .pointer (some ⟨gr, 0, none⟩)] w fun e w' => Tells (refd rs (T, l)) w' e ∧ OB none w w' := by
  have hal : Gr w ((w.alloc (.cells #[.int .i64 T, .slice A L C] 42)).alloc (.cells #[.int .i64 0, .slice none 0 0] 42)) := ((Gr.refl w).alloc _).alloc _
  have HAL := Lib.hid hal
  have HG0 : Hid (((w.alloc (.cells #[.int .i64 T, .slice A L C] 42)).alloc (.cells #[.int .i64 0, .slice none 0 0] 42)).heap[w.heap.size]? = some (.cells #[.int .i64 T, .slice A L C] 42)) := heap2_0' _ _ _
  have HG1 : Hid (((w.alloc (.cells #[.int .i64 T, .slice A L C] 42)).alloc (.cells #[.int .i64 0, .slice none 0 0] 42)).heap[w.heap.size + 1]? = some (.cells #[.int .i64 0, .slice none 0 0] 42)) := heap2_1' _ _ _
  obtain ⟨k0, k1⟩ := copy_cells HG0.out
  have kr := cell1 (heap_gr hal hg)
  have HB := Lib.hid hb
  have HF := Lib.hid hf
  have HA := Lib.hid ha
  have OF := Lib.hid (of_any ra rn rc rs T ((w.alloc (.cells #[.int .i64 T, .slice A L C] 42)).alloc (.cells #[.int .i64 0, .slice none 0 0] 42)) (hr.below hal))
  clear hal hb hr hg hf ha
  go_enter Try.func41, Try.ntmps41
  go_wp2_with fail
  refine OF.out.mono ?_
  rintro e w2 ⟨(⟨k, hk, r, rfl, hrk, hrt, _⟩ | ⟨rfl, hno⟩), hb2⟩
  · have HRU := Lib.hid (ruleOf_hit (o := (T, l)) HA.out k hk hrk hrt)
    have HIS : Hid (isR r) := by show isR r; rw [hrk]; exact areR_at HA.out k hk
    have HSZ : Hid (r.size = (L : Int)) := by
      show _ = _
      have h1 := HF.out
      rw [HRU.out] at h1
      split at h1
      · rename_i h; rw [h]; exact congrArg Int.ofNat hl
      · cases h1
    have hL4 : L ≤ 4 := by have := (isR_small HIS.out).2; rw [HSZ.out] at this; omega
    have HG2 := Lib.hid (heap_below HG0.out hb2)
    have HG3 := Lib.hid (heap_below HG1.out hb2)
    have HB2 : Hid (Gr w w2) := HAL.out.trans hb2
    have HGX : Hid ((w2.alloc (.cells #[.int .i64 r.typ, .int .i64 r.size, .int .i64 r.kind, .int .i64 r.low, .int .i64 r.high, .int .i64 r.good, .bool r.must] 56)).heap[w2.heap.size]? = some (.cells #[.int .i64 r.typ, .int .i64 r.size, .int .i64 r.kind, .int .i64 r.low, .int .i64 r.high, .int .i64 r.good, .bool r.must] 56)) := heap_alloc_last _ _
    have hal2 : Gr w2 (w2.alloc (.cells #[.int .i64 r.typ, .int .i64 r.size, .int .i64 r.kind, .int .i64 r.low, .int .i64 r.high, .int .i64 r.good, .bool r.must] 56)) := (Gr.refl _).alloc _
    have HG4 := Lib.hid (heap_gr hal2 HG2.out)
    have HG5 := Lib.hid (heap_gr hal2 HG3.out)
    have HB4 : Hid (Gr w (w2.alloc (.cells #[.int .i64 r.typ, .int .i64 r.size, .int .i64 r.kind, .int .i64 r.low, .int .i64 r.high, .int .i64 r.good, .bool r.must] 56))) := HB2.out.trans hal2
    clear hb2 OF hrk k0 k1 kr HG2 HG3 HB2 HG0 HG1 HAL hal2 hrt
    go_upto_region 2 with fail
    obtain ⟨wq, hwq⟩ : ∃ wq, wq = w2.alloc (.cells #[.int .i64 r.typ, .int .i64 r.size, .int .i64 r.kind, .int .i64 r.low, .int .i64 r.high, .int .i64 r.good, .bool r.must] 56) := ⟨_, rfl⟩
    rw [← hwq]
    rw [← hwq] at HGX HG4 HG5 HB4
    clear hwq
    have TK := Lib.hid (takes_any r T A L C l hl wq.drew ((HB.out.below HB4.out).below (Gr.drew wq)) (isR_kind HIS.out) HSZ.out hL4)
    obtain ⟨b, hbb⟩ : ∃ b, b = takes r (num (T, l)) := ⟨_, rfl⟩
    rw [← hbb] at TK
    have HOUT : Hid (refd rs (T, l) = if !b then some (T, l) else none) := by
      show _ = _
      unfold refd
      rw [HRU.out, if_pos (by rw [HSZ.out]; exact (congrArg Int.ofNat hl).symm), hbb]
      show (if takes r (num (T, l)) = true then none else some (T, l)) = _
      cases takes r (num (T, l)) <;> rfl
    clear hbb
    refine wp_region_H 5 Gr Any (by kernel_rfl) ?_
    -- 0: slot 14
    refine wpH_take preGr preAny (i := 0) (v := ?_) (by kernel_rfl) (some 14) (by kernel_rfl) rfl (by kernel_rfl) (by kernel_rfl) (by kernel_rfl) (fun _ _ _ h => h) (by rfl) (fun w' hw' => ?_) rfl ?_
    rotate_left
    · try have g0 := (copy_cells (heap_gr ((Gr.drew wq).trans hw') HG4.out)).1
      try have g1 := (copy_cells (heap_gr ((Gr.drew wq).trans hw') HG4.out)).2
      try (have gx := cells7 (heap_gr ((Gr.drew wq).trans hw') HGX.out); obtain ⟨x0, x1, x2, x3, x4, x5, x6⟩ := gx)
      go_simp
      with_reducible rfl
    simp only [Act.put, List.setIfInBounds_toArray, List.set_cons_zero, List.set_cons_succ]
    -- 1: slot 15
    refine wpH_take preGr preAny (i := 1) (v := ?_) (by kernel_rfl) (some 15) (by kernel_rfl) rfl (by kernel_rfl) (by kernel_rfl) (by kernel_rfl) (fun _ _ _ h => h) (by rfl) (fun w' hw' => ?_) rfl ?_
    rotate_left
    · try have g0 := (copy_cells (heap_gr ((Gr.drew wq).trans hw') HG4.out)).1
      try have g1 := (copy_cells (heap_gr ((Gr.drew wq).trans hw') HG4.out)).2
      try (have gx := cells7 (heap_gr ((Gr.drew wq).trans hw') HGX.out); obtain ⟨x0, x1, x2, x3, x4, x5, x6⟩ := gx)
      go_simp
      with_reducible rfl
    simp only [Act.put, List.setIfInBounds_toArray, List.set_cons_zero, List.set_cons_succ]
    -- 2: slot 16
    refine wpH_take preGr preAny (i := 2) (v := ?_) (by kernel_rfl) (some 16) (by kernel_rfl) rfl (by kernel_rfl) (by kernel_rfl) (by kernel_rfl) (fun _ _ _ h => h) (by rfl) (fun w' hw' => ?_) rfl ?_
    rotate_left
    · try have g0 := (copy_cells (heap_gr ((Gr.drew wq).trans hw') HG4.out)).1
      try have g1 := (copy_cells (heap_gr ((Gr.drew wq).trans hw') HG4.out)).2
      try (have gx := cells7 (heap_gr ((Gr.drew wq).trans hw') HGX.out); obtain ⟨x0, x1, x2, x3, x4, x5, x6⟩ := gx)
      go_simp
      with_reducible rfl
    simp only [Act.put, List.setIfInBounds_toArray, List.set_cons_zero, List.set_cons_succ]
    refine wpH_one (i := 3) rfl (by kernel_rfl) (by rfl) ?_
    go_simp
    refine TK.out.mono ?_
    rintro e w3 ⟨rfl, hb3⟩
    refine ⟨hb3, trivial, ?_⟩
    have hq3 : Gr wq w3 := (Gr.drew wq).trans hb3
    have HG6 := Lib.hid (heap_gr hq3 HG5.out)
    have HB6 := Lib.hid (HB4.out.trans hq3)
    clear hb3 hq3
    try simp only [Act.put, List.setIfInBounds_toArray, List.set_cons_zero, List.set_cons_succ]
    -- 4: slot 18
    refine wpH_takeH preGr preAny (i := 4) (v := ?_) (some 18) (by kernel_rfl) rfl (by kernel_rfl) (by kernel_rfl) (by kernel_rfl) (fun _ _ _ h => h) (by rfl) (fun w' hw' => ?_) rfl ?_
    rotate_left
    · go_simp
      with_reducible rfl
    simp only [Act.put, List.setIfInBounds_toArray, List.set_cons_zero, List.set_cons_succ]
    refine wpH_tail (i := 5) (by decide) rfl (by kernel_rfl) (by rfl) ?_
    refine wp_store_whole (none) 42 (.tmp 3) (.tmp 14) rfl (w.heap.size + 1) [.int .i64 T, .slice A L C] rfl rfl 42 [.int .i64 0, .slice none 0 0] HG6.out O.sizeT rfl (O.one_tag _ rfl) rfl ?_
    intro w4 h4 ho4
    have H4 := Lib.hid h4
    have HB5 : Hid (Below w.heap.size w w4) := ho4.below _ _ (Nat.le_succ _) HB6.out
    clear h4 ho4
    refine ⟨trivial, ?_⟩
    try simp only [Act.put, List.setIfInBounds_toArray, List.set_cons_zero, List.set_cons_succ]
    refine wpH_tail (i := 6) (by decide) rfl (by kernel_rfl) (by rfl) ?_
    go_simp
    refine ⟨(pre_refl preAny _), ?_⟩
    try simp only [Act.put, List.setIfInBounds_toArray, List.set_cons_zero, List.set_cons_succ]
    refine wpH_done (by kernel_rfl) ?_ _
    go_wp2
    refine bodyPost_ret (v := .tuple #[.agg #[.int .i64 T, .slice A L C], .bool (!b)]) (results_cell_tmp_row (P := Try.prog) (fn := Try.f41) rfl _ _ (w.heap.size + 1) 42 _ (0, 0) _ rfl H4.out Try.underlying42 rfl (by kernel_rfl)) rfl ?_
    exact ⟨⟨T, A, L, C, !b, l, rfl, HOUT.out, fun _ => ⟨hl, hL, HB.out.below HB5.out⟩⟩, HB5.out⟩
  · have := HF.out
    rw [ruleOf_miss hno] at this
    cases this

theorem refused_any (ra : Option Addr) (rn rc : Nat) (rs : List Ru) (ha : areR rs) (ao : Option Addr) (n c : Nat) (ts : List Tg) (w : World) (hrr : RR w (.slice ra rn rc) rn rs) (hr : TR w (.slice ao n c) n ts) (hn : n ≤ 1000) (hm : ∀ x ∈ ts, x.l.length ≤ 1000)
    (hf : ∀ x ∈ ts, (ruleOf rs (x.typ, x.l)).isSome = true) :
    Calls Try.prog 25 #[.slice ra rn rc, .slice ao n c] w fun e w' => ∃ v us, e = .returned v ∧ plain us = (plain ts).filterMap (refd rs) ∧ TO w' w.heap.size v us ∧ Below w.heap.size w w' := by
  have hl := hr.len
  have hal : Below w.heap.size w (w.alloc (.cells #[.slice ra rn rc] 48)) := (Below.refl _ _).alloc (Nat.le_refl _) _
  have hg : (w.alloc (.cells #[.slice ra rn rc] 48)).heap[w.heap.size]? = some (.cells #[.slice ra rn rc] 48) := heap_alloc_last _ _
  have hsz : (w.alloc (.cells #[.slice ra rn rc] 48)).heap.size = w.heap.size + 1 := World.size_alloc _ _
  have WK := Lib.hid (walk_any w (w.alloc (.cells #[.slice ra rn rc] 48)) none (fun _ h => by cases h) (fun _ h => by cases h) hal ao n c ts hr hn 41 #[.pointer (some ⟨w.heap.size, 0, none⟩)] (fun _ _ => rfl)
    (fun _ w1 => w1.heap[w.heap.size]? = some (.cells #[.slice ra rn rc] 48)) (fun _ w1 w2 h hb => by rw [hb.block _ (by rw [hsz]; omega)]; exact h) hg (outAt (plain ts) fun _ => refd rs)
    (fun j hj T A L C wr hT hv hbs hbw hsz' hI => by
      have hL : ts[j].l.length = L := by
        obtain ⟨_, _, es, _⟩ := hbs.shape
        simp only [Value.slice.injEq] at es
        exact es.2.1.symm
      have := hm ts[j] (List.getElem_mem hj)
      have hfj := hf ts[j] (List.getElem_mem hj)
      rw [← hT] at hfj
      refine (refused1_any ra rn rc rs ha w.heap.size T A L C ts[j].l hL (by omega) wr hbs (hrr.below hbw) hI hfj).mono ?_
      rintro e w' ⟨h1, h2⟩
      refine ⟨?_, h2, ?_⟩
      · rw [outAt_get _ j hj, ← hT]
        exact h1
      · exact heap_below hI h2))
  have HE : Hid (outs (outAt (plain ts) fun _ => refd rs) n = (plain ts).filterMap (refd rs)) := by
    show _ = _
    rw [outs_all _ _ (by rw [plain_length]; exact hl), scanL_plain]
  have HAL := Lib.hid hal
  have HSZ : Hid (w.heap.size ≤ (w.alloc (.cells #[.slice ra rn rc] 48)).heap.size) := hal.size
  clear hr hal hg hsz hrr hf hm
  go_enter Try.func25, Try.ntmps25
  go_wp2_with fail
  refine WK.out.mono ?_
  rintro e w2 ⟨v, us, rfl, h1, h2, h3, _⟩
  rw [HE.out] at h1
  have H1 := Lib.hid h1
  have H2 := Lib.hid (h2.mono HSZ.out)
  have H3 : Hid (Below w.heap.size w w2) := HAL.out.trans (Below.mono h3 HSZ.out)
  clear h1 h2 h3
  go_wp2
  go_ret
  exact ⟨v, us, rfl, H1.out, H2.out, H3.out⟩

set_option maxRecDepth 20000 in
set_option maxHeartbeats 2000000 in
theorem mended1_any (ra : Option Addr) (rn rc : Nat) (rs : List Ru) (ha : areR rs) (gr : Nat) (T : Int) (A : Option Addr) (L C : Nat) (l : List UInt8) (hl : l.length = L) (hL : L ≤ 1000) (w : World) (hb : Bs w (.slice A L C) l)
    (hr : RR w (.slice ra rn rc) rn rs) (hg : w.heap[gr]? = some (.cells #[.slice ra rn rc] 48)) (hf : (ruleOf rs (T, l)).isSome = true) :
    Calls Try.prog 47 #[.agg #[.int .i64 T, .slice A L C], .pointer (some ⟨gr, 0, none⟩)] w fun e w' => Tells (mendd rs (T, l)) w' e ∧ OB none w w' := by
  have hal : Gr w ((w.alloc (.cells #[.int .i64 T, .slice A L C] 42)).alloc (.cells #[.int .i64 0, .slice none 0 0] 42)) := ((Gr.refl w).alloc _).alloc _
  have HAL := Lib.hid hal
  have HG0 : Hid (((w.alloc (.cells #[.int .i64 T, .slice A L C] 42)).alloc (.cells #[.int .i64 0, .slice none 0 0] 42)).heap[w.heap.size]? = some (.cells #[.int .i64 T, .slice A L C] 42)) := heap2_0' _ _ _
  have HG1 : Hid (((w.alloc (.cells #[.int .i64 T, .slice A L C] 42)).alloc (.cells #[.int .i64 0, .slice none 0 0] 42)).heap[w.heap.size + 1]? = some (.cells #[.int .i64 0, .slice none 0 0] 42)) := heap2_1' _ _ _
  obtain ⟨k0, k1⟩ := copy_cells HG0.out
  have kr := cell1 (heap_gr hal hg)
  have HF := Lib.hid hf
  have HA := Lib.hid ha
  have OF := Lib.hid (of_any ra rn rc rs T ((w.alloc (.cells #[.int .i64 T, .slice A L C] 42)).alloc (.cells #[.int .i64 0, .slice none 0 0] 42)) (hr.below hal))
  clear hal hb hr hg hf ha
  go_enter Try.func47, Try.ntmps47
  go_wp2_with fail
  refine OF.out.mono ?_
  rintro e w2 ⟨(⟨k, hk, r, rfl, hrk, hrt, _⟩ | ⟨rfl, hno⟩), hb2⟩
  · have HRU := Lib.hid (ruleOf_hit (o := (T, l)) HA.out k hk hrk hrt)
    have HIS : Hid (isR r) := by show isR r; rw [hrk]; exact areR_at HA.out k hk
    have HOUT : Hid (mendd rs (T, l) = some (goodO r)) := by
      show _ = _
      unfold mendd
      have h1 := HF.out
      rw [HRU.out] at h1 ⊢
      split at h1
      · rename_i h; rw [if_pos h]; rfl
      · cases h1
    have HG3 := Lib.hid (heap_below HG1.out hb2)
    have HB2 : Hid (Gr w w2) := HAL.out.trans hb2
    have hal2 : Gr w2 (w2.alloc (.cells #[.int .i64 r.typ, .int .i64 r.size, .int .i64 r.kind, .int .i64 r.low, .int .i64 r.high, .int .i64 r.good, .bool r.must] 56)) := (Gr.refl _).alloc _
    have HG5 := Lib.hid (heap_gr hal2 HG3.out)
    have HB4 : Hid (Gr w (w2.alloc (.cells #[.int .i64 r.typ, .int .i64 r.size, .int .i64 r.kind, .int .i64 r.low, .int .i64 r.high, .int .i64 r.good, .bool r.must] 56))) := HB2.out.trans hal2
    have GO := Lib.hid (good_any r (w2.alloc (.cells #[.int .i64 r.typ, .int .i64 r.size, .int .i64 r.kind, .int .i64 r.low, .int .i64 r.high, .int .i64 r.good, .bool r.must] 56)) HIS.out)
    have hx := heap_alloc_last w2 (.cells #[.int .i64 r.typ, .int .i64 r.size, .int .i64 r.kind, .int .i64 r.low, .int .i64 r.high, .int .i64 r.good, .bool r.must] 56)
    obtain ⟨x0, x1, x2, x3, x4, x5, x6⟩ := cells7 hx
    clear hb2 OF hrk k0 k1 kr HG3 HB2 HG0 HG1 HAL hal2 hrt hx
    go_wp2_with fail
    refine GO.out.mono ?_
    rintro e w3 ⟨v, rfl, hown, hb3⟩
    obtain ⟨A3, L3, C3, ev, hL3, _, _⟩ := hown.bs.sl
    subst ev
    have HO3 := Lib.hid (hown.mono (base' := w.heap.size) (Nat.le_trans HB4.out.size (Nat.le_refl _)))
    have HB5 : Hid (Gr w w3) := HB4.out.trans hb3
    have HG6 := Lib.hid (heap_below HG5.out hb3)
    have HL3 := Lib.hid hL3
    have hs4 : (goodO r).2.length ≤ 4 := by
      show (putL _ _).length ≤ 4
      rw [putL_length]
      have := isR_small HIS.out
      omega
    clear hown hb3 x0 x1 x2 x3 x4 x5 x6 hL3
    go_wp2_with (refine wpList_store_whole rfl 42 (.tmp 3) (.tmp 15) rfl (w.heap.size + 1) [.int .i64 r.typ, .slice A3 L3 C3] rfl rfl 42 [.int .i64 0, .slice none 0 0] HG6.out O.sizeT rfl (O.one_tag _ rfl) ?_)
    intro w4 h4 ho4
    have H4 := Lib.hid h4
    have HB6 : Hid (Below w.heap.size w w4) := ho4.below _ _ (Nat.le_succ _) HB5.out
    have HO4 := Lib.hid (HO3.out.off ho4 (fun q hq e => own_ne_cell HO3.out HG6.out (by decide) (by rw [hq, e])))
    clear h4 ho4
    go_wp2
    refine bodyPost_ret (v := .tuple #[.agg #[.int .i64 r.typ, .slice A3 L3 C3], .bool true]) (results_cell_tmp_row (P := Try.prog) (fn := Try.f47) rfl _ _ (w.heap.size + 1) 42 _ (0, 0) _ rfl H4.out Try.underlying42 rfl (by kernel_rfl)) rfl ?_
    exact ⟨⟨r.typ, A3, L3, C3, true, (goodO r).2, rfl, HOUT.out, fun _ => ⟨HL3.out, by rw [← HL3.out]; omega, HO4.out.bs⟩⟩, HB6.out⟩
  · have := HF.out
    rw [ruleOf_miss hno] at this
    cases this

theorem mended_any (ra : Option Addr) (rn rc : Nat) (rs : List Ru) (ha : areR rs) (ao : Option Addr) (n c : Nat) (ts : List Tg) (w : World) (hrr : RR w (.slice ra rn rc) rn rs) (hr : TR w (.slice ao n c) n ts) (hn : n ≤ 1000) (hm : ∀ x ∈ ts, x.l.length ≤ 1000)
    (hf : ∀ x ∈ ts, (ruleOf rs (x.typ, x.l)).isSome = true) :
    Calls Try.prog 28 #[.slice ra rn rc, .slice ao n c] w fun e w' => ∃ v us, e = .returned v ∧ plain us = (plain ts).filterMap (mendd rs) ∧ TO w' w.heap.size v us ∧ Below w.heap.size w w' := by
  have hl := hr.len
  have hal : Below w.heap.size w (w.alloc (.cells #[.slice ra rn rc] 48)) := (Below.refl _ _).alloc (Nat.le_refl _) _
  have hg : (w.alloc (.cells #[.slice ra rn rc] 48)).heap[w.heap.size]? = some (.cells #[.slice ra rn rc] 48) := heap_alloc_last _ _
  have hsz : (w.alloc (.cells #[.slice ra rn rc] 48)).heap.size = w.heap.size + 1 := World.size_alloc _ _
  have WK := Lib.hid (walk_any w (w.alloc (.cells #[.slice ra rn rc] 48)) none (fun _ h => by cases h) (fun _ h => by cases h) hal ao n c ts hr hn 47 #[.pointer (some ⟨w.heap.size, 0, none⟩)] (fun _ _ => rfl)
    (fun _ w1 => w1.heap[w.heap.size]? = some (.cells #[.slice ra rn rc] 48)) (fun _ w1 w2 h hb => by rw [hb.block _ (by rw [hsz]; omega)]; exact h) hg (outAt (plain ts) fun _ => mendd rs)
    (fun j hj T A L C wr hT hv hbs hbw hsz' hI => by
      have hL : ts[j].l.length = L := by
        obtain ⟨_, _, es, _⟩ := hbs.shape
        simp only [Value.slice.injEq] at es
        exact es.2.1.symm
      have := hm ts[j] (List.getElem_mem hj)
      have hfj := hf ts[j] (List.getElem_mem hj)
      rw [← hT] at hfj
      refine (mended1_any ra rn rc rs ha w.heap.size T A L C ts[j].l hL (by omega) wr hbs (hrr.below hbw) hI hfj).mono ?_
      rintro e w' ⟨h1, h2⟩
      refine ⟨?_, h2, ?_⟩
      · rw [outAt_get _ j hj, ← hT]
        exact h1
      · exact heap_below hI h2))
  have HE : Hid (outs (outAt (plain ts) fun _ => mendd rs) n = (plain ts).filterMap (mendd rs)) := by
    show _ = _
    rw [outs_all _ _ (by rw [plain_length]; exact hl), scanL_plain]
  have HAL := Lib.hid hal
  have HSZ : Hid (w.heap.size ≤ (w.alloc (.cells #[.slice ra rn rc] 48)).heap.size) := hal.size
  clear hr hal hg hsz hrr hf hm
  go_enter Try.func28, Try.ntmps28
  go_wp2_with fail
  refine WK.out.mono ?_
  rintro e w2 ⟨v, us, rfl, h1, h2, h3, _⟩
  rw [HE.out] at h1
  have H1 := Lib.hid h1
  have H2 := Lib.hid (h2.mono HSZ.out)
  have H3 : Hid (Below w.heap.size w w2) := HAL.out.trans (Below.mono h3 HSZ.out)
  clear h1 h2 h3
  go_wp2
  go_ret
  exact ⟨v, us, rfl, H1.out, H2.out, H3.out⟩
end Go.Proofs.Ytbldcjngccmhpaa.Ng
