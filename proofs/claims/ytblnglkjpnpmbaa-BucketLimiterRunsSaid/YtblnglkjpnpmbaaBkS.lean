/-
  The document's limiter: rows of addresses with buckets; New.
-/
import Derived.Test.YtblnglkjpnpmbaaBkB
import Derived.Test.YtblnglkjpnpmbaaBkM
import Derived.Test.YtblnglkjpnpmbaaGrowH
namespace Go.Proofs.Ytblnglkjpnpmbaa.Bk
open Go.RowKit
set_option linter.unusedVariables false
set_option linter.unusedSimpArgs false

/-! Rows of entries. -/
def entC (p : List UInt8 × Bu) : List Value := p.1.map u8v ++ [.int .i64 p.2.k, .int .i64 p.2.t]
def flatE (es : List (List UInt8 × Bu)) : List Value := es.flatMap entC
theorem entC_length {p : List UInt8 × Bu} (h : p.1.length = 6) : (entC p).length = 8 := by simp [entC, h]
theorem flatE_length : ∀ {es : List (List UInt8 × Bu)}, (∀ p ∈ es, p.1.length = 6) → (flatE es).length = es.length * 8
  | [], _ => rfl
  | p :: es, h => by
    show (entC p ++ flatE es).length = _
    rw [List.length_append, entC_length (h p (by simp)), flatE_length (fun q hq => h q (by simp [hq])), List.length_cons]
    omega
theorem flatE_get : ∀ {es : List (List UInt8 × Bu)}, (∀ p ∈ es, p.1.length = 6) → ∀ (i : Nat) (hi : i < es.length) (j : Nat), j < 8 → (flatE es)[i * 8 + j]? = (entC es[i])[j]?
  | p :: es, h, 0, _, j, hj => by
    show (entC p ++ flatE es)[0 * 8 + j]? = _
    rw [List.getElem?_append_left (by rw [entC_length (h p (by simp))]; omega)]
    simp
  | p :: es, h, i + 1, hi, j, hj => by
    show (entC p ++ flatE es)[(i + 1) * 8 + j]? = _
    rw [List.getElem?_append_right (by rw [entC_length (h p (by simp))]; omega), entC_length (h p (by simp)), show (i + 1) * 8 + j - 8 = i * 8 + j by omega]
    rw [flatE_get (fun q hq => h q (by simp [hq])) i (by simpa using hi) j hj]
    rfl
theorem flatE_append (es fs : List (List UInt8 × Bu)) : flatE (es ++ fs) = flatE es ++ flatE fs := List.flatMap_append
theorem flatE_one (p : List UInt8 × Bu) : flatE [p] = entC p := by simp [flatE]
theorem flatE_cell (es : List (List UInt8 × Bu)) : ∀ u ∈ flatE es, u.oneCell' = true := by
  intro u hu
  obtain ⟨p, _, hu⟩ := List.mem_flatMap.1 hu
  rcases List.mem_append.1 hu with hu | hu
  · exact oneCell_u8 _ u hu
  · simp only [List.mem_cons, List.not_mem_nil, or_false] at hu
    rcases hu with rfl | rfl <;> rfl
/-- A row of entries that can be read. -/
structure ER (w : World) (v : Value) (es : List (List UInt8 × Bu)) : Prop where
  rd : Rd w 8 v es.length (flatE es)
  six : ∀ p ∈ es, p.1.length = 6
theorem ER.below {w w' : World} {v : Value} {es : List (List UInt8 × Bu)} (h : ER w v es) (hb : Below w.heap.size w w') : ER w' v es := ⟨h.rd.below hb, h.six⟩
theorem ER.cells {w : World} {ao : Option Addr} {n c : Nat} {es : List (List UInt8 × Bu)} (h : ER w (.slice ao n c) es) {i : Nat} (hi : i < es.length) :
    ∃ b o, ao = some ⟨b, o, none⟩ ∧ b < w.heap.size ∧ ∀ j u, (entC es[i])[j]? = some u → w.cell? ⟨b, o + i * 8 + j, none⟩ = some u := by
  obtain ⟨b, o, h1, h2, h3⟩ := Rd.cells (size := 8) (n := es.length) (cap := c) (ao := ao) (by
    have := h.rd
    obtain ⟨_, _, e, _⟩ := this.shape
    simp only [Value.slice.injEq] at e
    obtain ⟨_, rfl, _⟩ := e
    exact this) (by omega) (by omega)
  refine ⟨b, o, h1, h2, fun j u hu => ?_⟩
  have hj : j < 8 := by
    have := (List.getElem?_eq_some_iff.1 hu).1
    rwa [entC_length (h.six _ (List.getElem_mem hi))] at this
  have := h3 (i * 8 + j) u (by rw [flatE_get h.six i hi j hj]; exact hu)
  rwa [← Nat.add_assoc] at this
theorem ER.len {w : World} {ao : Option Addr} {n c : Nat} {es : List (List UInt8 × Bu)} (h : ER w (.slice ao n c) es) : es.length = n ∧ n ≤ c ∧ c ≤ maxLen := by
  obtain ⟨_, _, e, h1, h2⟩ := h.rd.shape
  simp only [Value.slice.injEq] at e
  obtain ⟨_, rfl, rfl⟩ := e
  exact ⟨rfl, h1, h2⟩
theorem eql_mac {m m' : List UInt8} (h : m.length = 6) (h' : m'.length = 6) (w : World) : (binOp .eql 49 (macV m) (macV m')).run Try.prog w = .ok (.bool (decide (m = m'))) w := by
  obtain ⟨i, hi, _, hz, _⟩ := info_parts (show (Try.prog.info? 5).map (fun i => (i.zero, i.size, i.bytes)) = some (some (.int .u8 0), 1, 1) by kernel_rfl)
  have := run_eql_array (P := Try.prog) (t := 49) Try.underlying49 Try.underlying5 hi hz (m.map fun b => (b.toNat : Int)) (m'.map fun b => (b.toNat : Int)) (by simpa using h) (by simpa using h') w
  rw [List.map_map, List.map_map] at this
  have e : ((m.map fun b => (b.toNat : Int)) = (m'.map fun b => (b.toNat : Int))) ↔ m = m' := by
    constructor
    · intro he
      refine macV_inj ?_
      unfold macV
      have h1 := congrArg (List.map (Value.int .u8)) he
      rw [List.map_map, List.map_map] at h1
      exact congrArg (fun l => Value.agg (List.toArray l)) h1
    · rintro rfl; rfl
  simp only [e] at this
  exact this
theorem neq_mac {m m' : List UInt8} (h : m.length = 6) (h' : m'.length = 6) (w : World) : (binOp .neq 49 (macV m) (macV m')).run Try.prog w = .ok (.bool (!decide (m = m'))) w := by
  obtain ⟨i, hi, _, hz, _⟩ := info_parts (show (Try.prog.info? 5).map (fun i => (i.zero, i.size, i.bytes)) = some (some (.int .u8 0), 1, 1) by kernel_rfl)
  have := run_neq_array (P := Try.prog) (t := 49) Try.underlying49 Try.underlying5 hi hz (m.map fun b => (b.toNat : Int)) (m'.map fun b => (b.toNat : Int)) (by simpa using h) (by simpa using h') w
  rw [List.map_map, List.map_map] at this
  have e : ((m.map fun b => (b.toNat : Int)) = (m'.map fun b => (b.toNat : Int))) ↔ m = m' := by
    constructor
    · intro he
      refine macV_inj ?_
      unfold macV
      have h1 := congrArg (List.map (Value.int .u8)) he
      rw [List.map_map, List.map_map] at h1
      exact congrArg (fun l => Value.agg (List.toArray l)) h1
    · rintro rfl; rfl
  simp only [e] at this
  exact this
/-- What New tells. -/
theorem rnew_no (ae am oe om : Int) (h : ¬ (okR ⟨ae, am⟩ ∧ okR ⟨oe, om⟩)) (w : World) :
    Calls Try.prog 21 #[.agg #[.int .i64 ae, .int .i64 am], .agg #[.int .i64 oe, .int .i64 om]] w fun e w' => e = .returned (.tuple #[.agg #[.int .i64 0, .int .i64 0, .int .i64 0, .int .i64 0, .int .i64 0, .int .i64 0, .slice none 0 0, .int .i64 0], .int .i64 100]) ∧ Below w.heap.size w w' := by
  have HB : Hid (Below w.heap.size w (((w.alloc (.cells #[.int .i64 ae, .int .i64 am] 23)).alloc (.cells #[.int .i64 oe, .int .i64 om] 23)).alloc (.cells #[.int .i64 0, .int .i64 0, .int .i64 0, .int .i64 0, .int .i64 0, .int .i64 0, .slice none 0 0, .int .i64 0] 42))) := boxed_three _ _ _ _
  have HG1 : Hid ((((w.alloc (.cells #[.int .i64 ae, .int .i64 am] 23)).alloc (.cells #[.int .i64 oe, .int .i64 om] 23)).alloc (.cells #[.int .i64 0, .int .i64 0, .int .i64 0, .int .i64 0, .int .i64 0, .int .i64 0, .slice none 0 0, .int .i64 0] 42)).heap[w.heap.size + 1]? = some (.cells #[.int .i64 oe, .int .i64 om] 23 (0, 0))) := boxed3_1 _ _ _ _
  have HG2 : Hid ((((w.alloc (.cells #[.int .i64 ae, .int .i64 am] 23)).alloc (.cells #[.int .i64 oe, .int .i64 om] 23)).alloc (.cells #[.int .i64 0, .int .i64 0, .int .i64 0, .int .i64 0, .int .i64 0, .int .i64 0, .slice none 0 0, .int .i64 0] 42)).heap[w.heap.size + 2]? = some (.cells #[.int .i64 0, .int .i64 0, .int .i64 0, .int .i64 0, .int .i64 0, .int .i64 0, .slice none 0 0, .int .i64 0] 42 (0, 0))) := boxed3_2 _ _ _ _
  have HC1 := Lib.hid (fun w => rated_any ae am w)
  have HC2 := Lib.hid (fun w => rated_any oe om w)
  have hc : decide (okR ⟨ae, am⟩) = false ∨ (decide (okR ⟨ae, am⟩) = true ∧ decide (okR ⟨oe, om⟩) = false) := by
    by_cases h1 : okR ⟨ae, am⟩
    · exact .inr ⟨decide_eq_true h1, decide_eq_false fun h2 => h ⟨h1, h2⟩⟩
    · exact .inl (decide_eq_false h1)
  clear h
  rcases hc with h1 | ⟨h1, h2⟩
  · rw [h1] at HC1
    clear h1 HC2
    go_enter Try.func21, Try.ntmps21
    go_wp2_with fail
    generalize (((w.alloc (.cells #[.int .i64 ae, .int .i64 am] 23)).alloc (.cells #[.int .i64 oe, .int .i64 om] 23)).alloc (.cells #[.int .i64 0, .int .i64 0, .int .i64 0, .int .i64 0, .int .i64 0, .int .i64 0, .slice none 0 0, .int .i64 0] 42)) = w1 at HB HG1 HG2 ⊢
    refine (HC1.out _).mono ?_
    rintro e w2 ⟨rfl, hb⟩
    have HB2 := Lib.hid (HB.out.trans (hb.mono HB.out.size))
    have HG22 : Hid (w2.heap[w.heap.size + 2]? = some (.cells ([.int .i64 0, .int .i64 0, .int .i64 0, .int .i64 0, .int .i64 0, .int .i64 0, .slice none 0 0, .int .i64 0] : List Value).toArray 42 (0, 0))) := heap_below HG2.out hb
    clear hb
    go_wp2_with (with_reducible refine wpList_store_whole rfl 42 (.tmp 4) (.tmp 14) rfl (w.heap.size + 2) [.int .i64 0, .int .i64 0, .int .i64 0, .int .i64 0, .int .i64 0, .int .i64 0, .slice none 0 0, .int .i64 0] rfl rfl 42 _ HG22.out ?s1 ?s2 ?s3 ?_)
    case s1 => kernel_rfl
    case s2 => rfl
    case s3 => intro u hu; simp only [List.mem_cons, List.not_mem_nil, or_false] at hu; rcases hu with rfl | rfl | rfl | rfl | rfl | rfl | rfl | rfl <;> rfl
    intro w3 h3 ho3
    have H3 := Lib.hid h3
    have HB3 := Lib.hid (ho3.below _ _ (Nat.le_add_right _ 2) HB2.out)
    clear h3 ho3
    go_wp2
    refine bodyPost_ret (v := .tuple #[.agg #[.int .i64 0, .int .i64 0, .int .i64 0, .int .i64 0, .int .i64 0, .int .i64 0, .slice none 0 0, .int .i64 0], .int .i64 100]) (results_cell_tmp_row (P := Try.prog) (fn := Try.f21) rfl _ _ (w.heap.size + 2) 42 _ (0, 0) _ rfl H3.out Try.underlying42 rfl (by kernel_rfl)) rfl ?_
    exact ⟨rfl, HB3.out⟩
  · rw [h1] at HC1
    rw [h2] at HC2
    clear h1 h2
    go_enter Try.func21, Try.ntmps21
    go_wp2_with fail
    generalize (((w.alloc (.cells #[.int .i64 ae, .int .i64 am] 23)).alloc (.cells #[.int .i64 oe, .int .i64 om] 23)).alloc (.cells #[.int .i64 0, .int .i64 0, .int .i64 0, .int .i64 0, .int .i64 0, .int .i64 0, .slice none 0 0, .int .i64 0] 42)) = w1 at HB HG1 HG2 ⊢
    refine (HC1.out _).mono ?_
    rintro e w2 ⟨rfl, hb⟩
    have HB2 := Lib.hid (HB.out.trans (hb.mono HB.out.size))
    have HG22 := Lib.hid (heap_below HG2.out hb)
    obtain ⟨k0, k1⟩ := cells2 (heap_below HG1.out hb)
    clear hb
    go_wp2_with fail
    refine (HC2.out _).mono ?_
    rintro e w3 ⟨rfl, hb⟩
    have HB3 := Lib.hid (HB2.out.trans (hb.mono HB2.out.size))
    have HG23 : Hid (w3.heap[w.heap.size + 2]? = some (.cells ([.int .i64 0, .int .i64 0, .int .i64 0, .int .i64 0, .int .i64 0, .int .i64 0, .slice none 0 0, .int .i64 0] : List Value).toArray 42 (0, 0))) := heap_below HG22.out hb
    clear hb k0 k1
    go_wp2_with (with_reducible refine wpList_store_whole rfl 42 (.tmp 4) (.tmp 14) rfl (w.heap.size + 2) [.int .i64 0, .int .i64 0, .int .i64 0, .int .i64 0, .int .i64 0, .int .i64 0, .slice none 0 0, .int .i64 0] rfl rfl 42 _ HG23.out ?s1 ?s2 ?s3 ?_)
    case s1 => kernel_rfl
    case s2 => rfl
    case s3 => intro u hu; simp only [List.mem_cons, List.not_mem_nil, or_false] at hu; rcases hu with rfl | rfl | rfl | rfl | rfl | rfl | rfl | rfl <;> rfl
    intro w4 h3 ho3
    have H3 := Lib.hid h3
    have HB4 := Lib.hid (ho3.below _ _ (Nat.le_add_right _ 2) HB3.out)
    clear h3 ho3
    go_wp2
    refine bodyPost_ret (v := .tuple #[.agg #[.int .i64 0, .int .i64 0, .int .i64 0, .int .i64 0, .int .i64 0, .int .i64 0, .slice none 0 0, .int .i64 0], .int .i64 100]) (results_cell_tmp_row (P := Try.prog) (fn := Try.f21) rfl _ _ (w.heap.size + 2) 42 _ (0, 0) _ rfl H3.out Try.underlying42 rfl (by kernel_rfl)) rfl ?_
    exact ⟨rfl, HB4.out⟩
set_option maxHeartbeats 1000000 in
theorem rnew_yes (ae am oe om : Int) (ha : okR ⟨ae, am⟩) (ho : okR ⟨oe, om⟩) (w : World) :
    Calls Try.prog 21 #[.agg #[.int .i64 ae, .int .i64 am], .agg #[.int .i64 oe, .int .i64 om]] w fun e w' => e = .returned (.tuple #[.agg ([.int .i64 ae, .int .i64 am, .int .i64 oe, .int .i64 om, .int .i64 am, .int .i64 0, .slice none 0 0, .int .i64 0] : List Value).toArray, .int .i64 0]) ∧ Below w.heap.size w w' := by
  have HB : Hid (Below w.heap.size w (((w.alloc (.cells #[.int .i64 ae, .int .i64 am] 23)).alloc (.cells #[.int .i64 oe, .int .i64 om] 23)).alloc (.cells #[.int .i64 0, .int .i64 0, .int .i64 0, .int .i64 0, .int .i64 0, .int .i64 0, .slice none 0 0, .int .i64 0] 42))) := boxed_three _ _ _ _
  have HG0 : Hid ((((w.alloc (.cells #[.int .i64 ae, .int .i64 am] 23)).alloc (.cells #[.int .i64 oe, .int .i64 om] 23)).alloc (.cells #[.int .i64 0, .int .i64 0, .int .i64 0, .int .i64 0, .int .i64 0, .int .i64 0, .slice none 0 0, .int .i64 0] 42)).heap[w.heap.size]? = some (.cells #[.int .i64 ae, .int .i64 am] 23 (0, 0))) := boxed3_0 _ _ _ _
  have HG1 : Hid ((((w.alloc (.cells #[.int .i64 ae, .int .i64 am] 23)).alloc (.cells #[.int .i64 oe, .int .i64 om] 23)).alloc (.cells #[.int .i64 0, .int .i64 0, .int .i64 0, .int .i64 0, .int .i64 0, .int .i64 0, .slice none 0 0, .int .i64 0] 42)).heap[w.heap.size + 1]? = some (.cells #[.int .i64 oe, .int .i64 om] 23 (0, 0))) := boxed3_1 _ _ _ _
  have HG2 : Hid ((((w.alloc (.cells #[.int .i64 ae, .int .i64 am] 23)).alloc (.cells #[.int .i64 oe, .int .i64 om] 23)).alloc (.cells #[.int .i64 0, .int .i64 0, .int .i64 0, .int .i64 0, .int .i64 0, .int .i64 0, .slice none 0 0, .int .i64 0] 42)).heap[w.heap.size + 2]? = some (.cells #[.int .i64 0, .int .i64 0, .int .i64 0, .int .i64 0, .int .i64 0, .int .i64 0, .slice none 0 0, .int .i64 0] 42 (0, 0))) := boxed3_2 _ _ _ _
  have HC1 := Lib.hid (fun w => rated_any ae am w)
  have HC2 := Lib.hid (fun w => rated_any oe om w)
  have HF := Lib.hid (fun w => rfull_any ae am w)
  rw [decide_eq_true ha] at HC1
  rw [decide_eq_true ho] at HC2
  rw [show full ⟨ae, am⟩ = ⟨am, 0⟩ from if_pos ha] at HF
  clear ha ho
  go_enter Try.func21, Try.ntmps21
  go_wp2_with fail
  generalize (((w.alloc (.cells #[.int .i64 ae, .int .i64 am] 23)).alloc (.cells #[.int .i64 oe, .int .i64 om] 23)).alloc (.cells #[.int .i64 0, .int .i64 0, .int .i64 0, .int .i64 0, .int .i64 0, .int .i64 0, .slice none 0 0, .int .i64 0] 42)) = w1 at HB HG0 HG1 HG2 ⊢
  refine (HC1.out _).mono ?_
  rintro e w2 ⟨rfl, hb⟩
  have HB2 := Lib.hid (HB.out.trans (hb.mono HB.out.size))
  have HG02 := Lib.hid (heap_below HG0.out hb)
  have HG12 := Lib.hid (heap_below HG1.out hb)
  have HG22 := Lib.hid (heap_below HG2.out hb)
  obtain ⟨k0, k1⟩ := cells2 HG12.out
  clear hb HB HG0 HG1 HG2
  go_wp2_with fail
  refine (HC2.out _).mono ?_
  rintro e w3 ⟨rfl, hb⟩
  have HB3 := Lib.hid (HB2.out.trans (hb.mono HB2.out.size))
  have HG03 := Lib.hid (heap_below HG02.out hb)
  have HG13 := Lib.hid (heap_below HG12.out hb)
  have HG23 := Lib.hid (heap_below HG22.out hb)
  clear hb HB2 HG02 HG12 HG22 k0 k1
  go_upto_region 3 with fail
  have HC : Hid (Gr w3 w3.drew) := Gr.drew w3
  refine wp_region_G 5 Gr (by kernel_rfl) ?_
  generalize w3.drew = wc at HC ⊢
  -- 0: slot 15
  refine wpG_take preGr (i := 0) (v := ?_) (by kernel_rfl) (some 15) (by kernel_rfl) rfl (by kernel_rfl) (by kernel_rfl) (by kernel_rfl) (fun _ _ _ h => h) (by rfl) (fun w' hw' => ?_) rfl ?_
  rotate_left
  · try (have hq2 := cells2 (heap_below HG03.out (Gr.trans HC.out hw')); obtain ⟨m0, m1⟩ := hq2)
    try (have hq2 := cells2 (heap_below HG13.out (Gr.trans HC.out hw')); obtain ⟨n0, n1⟩ := hq2)
    go_simp
    with_reducible rfl
  simp only [Act.put, List.setIfInBounds_toArray, List.set_cons_zero, List.set_cons_succ]
  -- 1: slot 16
  refine wpG_take preGr (i := 1) (v := ?_) (by kernel_rfl) (some 16) (by kernel_rfl) rfl (by kernel_rfl) (by kernel_rfl) (by kernel_rfl) (fun _ _ _ h => h) (by rfl) (fun w' hw' => ?_) rfl ?_
  rotate_left
  · try (have hq2 := cells2 (heap_below HG03.out (Gr.trans HC.out hw')); obtain ⟨m0, m1⟩ := hq2)
    try (have hq2 := cells2 (heap_below HG13.out (Gr.trans HC.out hw')); obtain ⟨n0, n1⟩ := hq2)
    go_simp
    with_reducible rfl
  simp only [Act.put, List.setIfInBounds_toArray, List.set_cons_zero, List.set_cons_succ]
  -- 2: slot 17
  refine wpG_take preGr (i := 2) (v := ?_) (by kernel_rfl) (some 17) (by kernel_rfl) rfl (by kernel_rfl) (by kernel_rfl) (by kernel_rfl) (fun _ _ _ h => h) (by rfl) (fun w' hw' => ?_) rfl ?_
  rotate_left
  · try (have hq2 := cells2 (heap_below HG03.out (Gr.trans HC.out hw')); obtain ⟨m0, m1⟩ := hq2)
    try (have hq2 := cells2 (heap_below HG13.out (Gr.trans HC.out hw')); obtain ⟨n0, n1⟩ := hq2)
    go_simp
    with_reducible rfl
  simp only [Act.put, List.setIfInBounds_toArray, List.set_cons_zero, List.set_cons_succ]
  refine wpG_one (i := 3) rfl (by kernel_rfl) (by rfl) ?_
  go_simp
  refine (HF.out wc).mono ?_
  rintro e wn ⟨rfl, hb⟩
  refine ⟨hb, ?_⟩
  have HC' : Hid (Gr w3 wn) := Gr.trans HC.out hb
  clear HC hb
  have HC := HC'
  clear HC'
  obtain ⟨wc, hwc⟩ : ∃ x, x = wn := ⟨_, rfl⟩
  subst hwc
  try simp only [Act.put, List.setIfInBounds_toArray, List.set_cons_zero, List.set_cons_succ]
  -- 4: slot 19
  refine wpG_take preGr (i := 4) (v := ?_) (by kernel_rfl) (some 19) (by kernel_rfl) rfl (by kernel_rfl) (by kernel_rfl) (by kernel_rfl) (fun _ _ _ h => h) (by rfl) (fun w' hw' => ?_) rfl ?_
  rotate_left
  · try (have hq2 := cells2 (heap_below HG03.out (Gr.trans HC.out hw')); obtain ⟨m0, m1⟩ := hq2)
    try (have hq2 := cells2 (heap_below HG13.out (Gr.trans HC.out hw')); obtain ⟨n0, n1⟩ := hq2)
    go_simp
    with_reducible rfl
  simp only [Act.put, List.setIfInBounds_toArray, List.set_cons_zero, List.set_cons_succ]
  refine wpG_tail (i := 5) (by decide) rfl (by kernel_rfl) (by rfl) ?_
  refine wp_store_whole (none) 42 (.tmp 4) (.tmp 19) rfl (w.heap.size + 2) [.int .i64 ae, .int .i64 am, .int .i64 oe, .int .i64 om, .int .i64 am, .int .i64 0, .slice none 0 0, .int .i64 0] rfl rfl 42 [.int .i64 0, .int .i64 0, .int .i64 0, .int .i64 0, .int .i64 0, .int .i64 0, .slice none 0 0, .int .i64 0] (heap_below HG23.out HC.out) (by kernel_rfl) rfl ?o1 rfl ?_
  case o1 => intro u hu; simp only [List.mem_cons, List.not_mem_nil, or_false] at hu; rcases hu with rfl | rfl | rfl | rfl | rfl | rfl | rfl | rfl <;> rfl
  intro wn h5 ho
  have H5 := Lib.hid h5
  have HB5 := Lib.hid (ho.below w.heap.size w (Nat.le_add_right _ 2) (HB3.out.trans (Below.mono HC.out HB3.out.size)))
  clear h5 ho
  try simp only [Act.put, List.setIfInBounds_toArray, List.set_cons_zero, List.set_cons_succ]
  refine wpG_tail (i := 6) (by decide) rfl (by kernel_rfl) (by rfl) ?_
  go_simp
  try simp only [Act.put, List.setIfInBounds_toArray, List.set_cons_zero, List.set_cons_succ]
  refine wpG_done (by kernel_rfl) ?_ _
  go_wp2
  refine bodyPost_ret (v := .tuple #[.agg ([.int .i64 ae, .int .i64 am, .int .i64 oe, .int .i64 om, .int .i64 am, .int .i64 0, .slice none 0 0, .int .i64 0] : List Value).toArray, .int .i64 0]) (results_cell_tmp_row (P := Try.prog) (fn := Try.f21) rfl _ _ (w.heap.size + 2) 42 _ (0, 0) _ rfl H5.out Try.underlying42 rfl (by kernel_rfl)) rfl ?_
  exact ⟨rfl, HB5.out⟩
end Go.Proofs.Ytblnglkjpnpmbaa.Bk
