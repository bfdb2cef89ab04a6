/-
  nego's without: what is asked for without the options of an answer, taken away one behind the other.
-/
import Derived.Test.YtbldcjngccmhpaaNgF
namespace Go.Proofs.Ytbldcjngccmhpaa.Ng
open Go.RowKit O
set_option linter.unusedVariables false
set_option linter.unusedSimpArgs false
theorem bytes_ne {l m : List UInt8} (h : ¬ l = m) : (l == m) = false := beq_eq_false_iff_ne.2 h
theorem bytesEqual_any (a b : Option Addr) (n n' c c' : Nat) (l m : List UInt8) (w : World) (h : Bs w (.slice a n c) l) (h' : Bs w (.slice b n' c') m) :
    Calls Try.prog 62 #[.slice a n c, .slice b n' c'] w fun e w' => e = .returned (.bool (decide (l = m))) ∧ w = w' := by
  have s1 := run_string_of (P := Try.prog) 40 9 5 Try.underlying40 Try.underlying5 Try.underlying9 h
  have s2 := run_string_of (P := Try.prog) 40 9 5 Try.underlying40 Try.underlying5 Try.underlying9 h'
  by_cases hd : l = m
  · have e : decide (l = m) = true := decide_eq_true hd
    rw [e]
    subst hd
    clear h h' e
    go_enter Try.func62, Try.ntmps62
    go_wp2
    go_ret
    exact ⟨rfl, rfl⟩
  · have e : decide (l = m) = false := decide_eq_false hd
    rw [e]
    have hb := bytes_ne hd
    clear h h' hd e
    go_enter Try.func62, Try.ntmps62
    go_wp2
    go_ret
    exact ⟨rfl, rfl⟩
theorem equal_any (T U : Int) (a b : Option Addr) (n n' c c' : Nat) (l m : List UInt8) (w : World) (h : Bs w (.slice a n c) l) (h' : Bs w (.slice b n' c') m) :
    Calls Try.prog 54 #[.agg #[.int .i64 T, .slice a n c], .agg #[.int .i64 U, .slice b n' c']] w fun e w' => e = .returned (.bool (decide ((T, l) = (U, m)))) ∧ Below w.heap.size w w' := by
  have hb : Below w.heap.size w ((w.alloc (.cells #[.int .i64 T, .slice a n c] 42)).alloc (.cells #[.int .i64 U, .slice b n' c'] 42)) := ((Below.refl _ _).alloc (Nat.le_refl _) _).alloc (by simp) _
  have BE := Lib.hid (bytesEqual_any a b n n' c c' l m _ (h.below hb) (h'.below hb))
  have HB := Lib.hid hb
  clear h h' hb
  by_cases hT : T = U
  · subst hT
    have e : decide ((T, l) = (T, m)) = decide (l = m) := by rw [Bool.eq_iff_iff]; simp
    rw [e]
    generalize decide (l = m) = q at BE ⊢
    go_enter Try.func54, Try.ntmps54
    go_wp2_with fail
    refine BE.out.mono ?_
    rintro e w1 ⟨rfl, rfl⟩
    go_wp2
    go_ret
    exact ⟨rfl, HB.out⟩
  · have e : decide ((T, l) = (U, m)) = false := decide_eq_false (fun e => hT (congrArg Prod.fst e))
    rw [e]
    have hb : (T == U) = false := beq_eq_false_iff_ne.2 hT
    clear hT e BE
    go_enter Try.func54, Try.ntmps54
    go_wp2
    go_ret
    exact ⟨rfl, HB.out⟩
theorem TR.tail {w : World} {a : Option Addr} {m c : Nat} {us : List Tg} (h : TR w (.slice a m c) m us) (hm : 1 ≤ m) :
    ∃ a', (∀ w', (Instr.slice 23 (.slice a m c) (some (.int .i64 1)) none none).run Try.prog w' = .ok (.slice a' (m - 1) (c - 1)) w') ∧ TR w (.slice a' (m - 1) (c - 1)) (m - 1) (us.drop 1) := by
  obtain ⟨i0, hi, hz0, hz1, hz2⟩ := info_parts infoT
  obtain ⟨a', h1, h2⟩ := slice_from (P := Try.prog) Try.underlying23 hi hz1 h.rd .i64 1 1 rfl hm
  refine ⟨a', h1, ?_, fun t ht => h.vals t (List.mem_of_mem_drop ht)⟩
  have e : (flat us).drop (1 * 2) = flat (us.drop 1) := by
    cases us with
    | nil => rfl
    | cons x r => rfl
  rw [e] at h2
  exact h2
/-- What the closure tells of an option, where these are still to be taken away; what is then still to be taken away. -/
def strO (l : List PT) (o : PT) : Option PT := match l with
  | [] => some o
  | x :: _ => if x = o then none else some o
def strR (l : List PT) (o : PT) : List PT := match l with
  | [] => []
  | x :: r => if x = o then r else x :: r
theorem strike_snoc : ∀ (q l : List PT) (o : PT), strike (q ++ [o]) l = ((strike q l).1 ++ (strO (strike q l).2 o).toList, strR (strike q l).2 o)
  | [], [], o => rfl
  | [], x :: l, o => by
    by_cases e : x = o
    · simp [strike, strO, strR, e]
    · simp [strike, strO, strR, e]
  | p :: q, [], o => by
    have h := strike_snoc q [] o
    rw [List.cons_append, strike, strike, h]
    rfl
  | p :: q, x :: l, o => by
    rw [List.cons_append, strike, strike]
    split
    · exact strike_snoc q l o
    · rw [strike_snoc q (x :: l) o]; rfl
theorem strike_scan (q l : List PT) : ∀ k, k ≤ q.length → scanL (fun seen o => strO (strike seen l).2 o) [] (q.take k) = (strike (q.take k) l).1
  | 0, _ => by rw [List.take_zero]; rfl
  | k + 1, h => by
    rw [List.take_succ_eq_append_getElem h, scanL_snoc, strike_scan q l k (by omega), strike_snoc]
    rfl
theorem strike_scan_all (q l : List PT) : scanL (fun seen o => strO (strike seen l).2 o) [] q = (strike q l).1 := by
  have := strike_scan q l q.length (Nat.le_refl _)
  rwa [List.take_length] at this

set_option maxRecDepth 20000 in
set_option maxHeartbeats 4000000 in
theorem without1_any (gl : Nat) (w0 w : World) (a : Option Addr) (m c : Nat) (us : List Tg) (T : Int) (A : Option Addr) (L C : Nat) (l : List UInt8) (hl : l.length = L) (hL : L ≤ 1000) (hb : Bs w0 (.slice A L C) l) (hr : TR w0 (.slice a m c) m us)
    (h0 : w0.heap.size ≤ gl) (hb0 : Below w0.heap.size w0 w) (hg : w.heap[gl]? = some (.cells #[.slice a m c] 23)) :
    Calls Try.prog 53 #[.agg #[.int .i64 T, .slice A L C], .pointer (some ⟨gl, 0, none⟩)] w fun e w' => Tells (strO (plain us) (T, l)) w' e ∧ Only gl w w' ∧
      ∃ a' m' c' us', w'.heap[gl]? = some (.cells #[.slice a' m' c'] 23 (0, 0)) ∧ TR w0 (.slice a' m' c') m' us' ∧ plain us' = strR (plain us) (T, l) := by
  have hal : Gr w ((w.alloc (.cells #[.int .i64 T, .slice A L C] 42)).alloc (.cells #[.int .i64 0, .slice none 0 0] 42)) := ((Gr.refl w).alloc _).alloc _
  have HAL := Lib.hid hal
  have HG0 : Hid (((w.alloc (.cells #[.int .i64 T, .slice A L C] 42)).alloc (.cells #[.int .i64 0, .slice none 0 0] 42)).heap[w.heap.size]? = some (.cells #[.int .i64 T, .slice A L C] 42)) := heap2_0' _ _ _
  have HG1 : Hid (((w.alloc (.cells #[.int .i64 T, .slice A L C] 42)).alloc (.cells #[.int .i64 0, .slice none 0 0] 42)).heap[w.heap.size + 1]? = some (.cells #[.int .i64 0, .slice none 0 0] 42)) := heap2_1' _ _ _
  have HGL := Lib.hid (heap_gr hal hg)
  have hlt : gl < w.heap.size := (Array.getElem?_eq_some_iff.1 hg).1
  have HB := Lib.hid hb
  have HR := Lib.hid hr
  have HB0 := Lib.hid hb0
  have HB2 : Hid (Below w0.heap.size w0 ((w.alloc (.cells #[.int .i64 T, .slice A L C] 42)).alloc (.cells #[.int .i64 0, .slice none 0 0] 42))) := hb0.trans (Below.mono hal hb0.size)
  have hlen := hr.len
  have HKEEP : Hid (∀ w', Only gl w w' → Below w0.heap.size w0 w') := fun w' ho => ho.below _ _ h0 hb0
  by_cases hm0 : m = 0
  · subst hm0
    obtain rfl : us = [] := List.eq_nil_of_length_eq_zero hlen
    clear hal hg hb hr hb0
    go_enter Try.func53, Try.ntmps53
    go_upto_region 1 with fail
    obtain ⟨wq, hwq⟩ : ∃ wq, wq = ((w.alloc (.cells #[.int .i64 T, .slice A L C] 42)).alloc (.cells #[.int .i64 0, .slice none 0 0] 42)) := ⟨_, rfl⟩
    rw [← hwq]
    rw [← hwq] at HAL HG0 HG1 HGL HB2
    clear hwq
    refine wp_region_G 10 Gr (by kernel_rfl) ?_
    -- 0: slot 5
    refine wpG_take preGr (i := 0) (v := ?_) (by kernel_rfl) (some 5) (by kernel_rfl) rfl (by kernel_rfl) (by kernel_rfl) (by kernel_rfl) (fun _ _ _ h => h) (by rfl) (fun w' hw' => ?_) rfl ?_
    rotate_left
    · have g0 := cell1 (heap_gr ((Gr.drew wq).trans hw') HGL.out)
      go_simp
      with_reducible rfl
    simp only [Act.put, List.setIfInBounds_toArray, List.set_cons_zero, List.set_cons_succ]
    -- 1: slot 6
    refine wpG_take preGr (i := 1) (v := ?_) (by kernel_rfl) (some 6) (by kernel_rfl) rfl (by kernel_rfl) (by kernel_rfl) (by kernel_rfl) (fun _ _ _ h => h) (by rfl) (fun w' hw' => ?_) rfl ?_
    rotate_left
    · have g0 := cell1 (heap_gr ((Gr.drew wq).trans hw') HGL.out)
      go_simp
      with_reducible rfl
    simp only [Act.put, List.setIfInBounds_toArray, List.set_cons_zero, List.set_cons_succ]
    -- 2: slot 7
    refine wpG_take preGr (i := 2) (v := ?_) (by kernel_rfl) (some 7) (by kernel_rfl) rfl (by kernel_rfl) (by kernel_rfl) (by kernel_rfl) (fun _ _ _ h => h) (by rfl) (fun w' hw' => ?_) rfl ?_
    rotate_left
    · have g0 := cell1 (heap_gr ((Gr.drew wq).trans hw') HGL.out)
      go_simp
      with_reducible rfl
    simp only [Act.put, List.setIfInBounds_toArray, List.set_cons_zero, List.set_cons_succ]
    -- 3: slot 8
    refine wpG_take preGr (i := 3) (v := ?_) (by kernel_rfl) (some 8) (by kernel_rfl) rfl (by kernel_rfl) (by kernel_rfl) (by kernel_rfl) (fun _ _ _ h => h) (by rfl) (fun w' hw' => ?_) rfl ?_
    rotate_left
    · have g0 := cell1 (heap_gr ((Gr.drew wq).trans hw') HGL.out)
      go_simp
      with_reducible rfl
    simp only [Act.put, List.setIfInBounds_toArray, List.set_cons_zero, List.set_cons_succ]
    refine wpG_pass preGr (i := 4) (by kernel_rfl) (some 9) (by kernel_rfl) rfl (by kernel_rfl) (by kernel_rfl) (by kernel_rfl) (fun _ _ _ h => h) (by rfl) rfl ?_
    simp only [Act.put, List.setIfInBounds_toArray, List.set_cons_zero, List.set_cons_succ]
    refine wpG_pass preGr (i := 5) (by kernel_rfl) (some 10) (by kernel_rfl) rfl (by kernel_rfl) (by kernel_rfl) (by kernel_rfl) (fun _ _ _ h => h) (by rfl) rfl ?_
    simp only [Act.put, List.setIfInBounds_toArray, List.set_cons_zero, List.set_cons_succ]
    refine wpG_pass preGr (i := 6) (by kernel_rfl) (some 11) (by kernel_rfl) rfl (by kernel_rfl) (by kernel_rfl) (by kernel_rfl) (fun _ _ _ h => h) (by rfl) rfl ?_
    simp only [Act.put, List.setIfInBounds_toArray, List.set_cons_zero, List.set_cons_succ]
    refine wpG_pass preGr (i := 7) (by kernel_rfl) (some 12) (by kernel_rfl) rfl (by kernel_rfl) (by kernel_rfl) (by kernel_rfl) (fun _ _ _ h => h) (by rfl) rfl ?_
    simp only [Act.put, List.setIfInBounds_toArray, List.set_cons_zero, List.set_cons_succ]
    refine wpG_pass preGr (i := 8) (by kernel_rfl) (some 13) (by kernel_rfl) rfl (by kernel_rfl) (by kernel_rfl) (by kernel_rfl) (fun _ _ _ h => h) (by rfl) rfl ?_
    simp only [Act.put, List.setIfInBounds_toArray, List.set_cons_zero, List.set_cons_succ]
    -- 9: slot 14
    refine wpG_take preGr (i := 9) (v := ?_) (by kernel_rfl) (some 14) (by kernel_rfl) rfl (by kernel_rfl) (by kernel_rfl) (by kernel_rfl) (fun _ _ _ h => h) (by rfl) (fun w' hw' => ?_) rfl ?_
    rotate_left
    · have g0 := cell1 (heap_gr ((Gr.drew wq).trans hw') HGL.out)
      go_simp
      with_reducible rfl
    simp only [Act.put, List.setIfInBounds_toArray, List.set_cons_zero, List.set_cons_succ]
    refine wpG_done (by kernel_rfl) ?_ _
    obtain ⟨k0, k1⟩ := copy_cells (show wq.drew.heap[w.heap.size]? = some (.cells #[.int .i64 T, .slice A L C] 42) from HG0.out)
    go_wp2_with (refine wpList_store_whole rfl 42 (.tmp 3) (.tmp 18) rfl (w.heap.size + 1) [.int .i64 T, .slice A L C] rfl rfl 42 [.int .i64 0, .slice none 0 0] (show wq.drew.heap[w.heap.size + 1]? = some (.cells #[.int .i64 0, .slice none 0 0] 42) from HG1.out) O.sizeT rfl (O.one_tag _ rfl) ?_)
    intro w4 h4 ho4
    have H4 := Lib.hid h4
    have HQ : Hid (Gr w w4) := ho4.below _ _ (Nat.le_succ _) (HAL.out.trans (Gr.drew wq))
    have HGL4 : Hid (w4.heap[gl]? = some (.cells #[.slice a 0 c] 23 (0, 0))) := (ho4.heap gl (by have := HAL.out.size; show gl < wq.heap.size; omega) (by omega)).trans HGL.out
    clear h4 ho4 k0 k1
    go_wp2
    refine bodyPost_ret (v := .tuple #[.agg #[.int .i64 T, .slice A L C], .bool true]) (results_cell_tmp_row (P := Try.prog) (fn := Try.f53) rfl _ _ (w.heap.size + 1) 42 _ (0, 0) _ rfl H4.out Try.underlying42 rfl (by kernel_rfl)) rfl ?_
    have ho : Only gl w w4 := Only.grown HQ.out (by omega)
    exact ⟨⟨T, A, L, C, true, l, rfl, rfl, fun _ => ⟨hl, hL, HB.out.below (HKEEP.out _ ho)⟩⟩, ho, a, 0, c, [], HGL4.out, HR.out, rfl⟩
  · cases us with
    | nil => simp at hlen; omega
    | cons x r =>
      have HXV := Lib.hid (HR.out.vals x (by simp))
      obtain ⟨U, uv, ul⟩ := x
      obtain ⟨A2, L2, C2, huv, hL2, _, _⟩ := HXV.out.sl
      simp only at huv
      subst huv
      have HV0 : Hid (Bs w0 (.slice A2 L2 C2) ul) := HXV.out
      obtain ⟨a', hsl, htl⟩ := TR.tail HR.out (by omega)
      have HTL := Lib.hid htl
      obtain ⟨wq, hwq⟩ : ∃ wq, wq = ((w.alloc (.cells #[.int .i64 T, .slice A L C] 42)).alloc (.cells #[.int .i64 0, .slice none 0 0] 42)) := ⟨_, rfl⟩
      have hrq := HR.out.below HB2.out
      rw [← hwq] at hrq
      obtain ⟨b, o, ea, _, hcel⟩ := hrq.cells (by omega)
      subst ea
      obtain ⟨c0, c1⟩ := hcel 0 (by simp)
      simp only [Nat.zero_mul, Nat.add_zero, List.getElem_cons_zero] at c0 c1
      have HC0 := Lib.hid c0
      have HC1 := Lib.hid c1
      have hm1 : 0 < m := by omega
      have hm2 : (0 : Int) < (m : Int) := by omega
      have HS := Lib.hid hsl
      have HBQ : Hid (Below w0.heap.size w0 wq) := by rw [hwq]; exact HB2.out
      have EQ : Hid (∀ w', Gr wq w' → Calls Try.prog 54 #[.agg #[.int .i64 T, .slice A L C], .agg #[.int .i64 U, .slice A2 L2 C2]] w' fun e w2 => e = .returned (.bool (decide ((T, l) = (U, ul)))) ∧ Below w'.heap.size w' w2) := fun w' hw' =>
        equal_any T U A A2 L L2 C C2 l ul w' (HB.out.below (HBQ.out.trans (Below.mono hw' HBQ.out.size))) (HV0.out.below (HBQ.out.trans (Below.mono hw' HBQ.out.size)))
      rw [← hwq] at HAL HG0 HG1 HGL HB2
      have HWQ := Lib.hid hwq
      clear hal hg hb hr hb0 hwq hrq hcel c0 c1 hsl htl HXV hL2
      obtain ⟨q, hq⟩ : ∃ q, q = decide ((T, l) = (U, ul)) := ⟨_, rfl⟩
      rw [← hq] at EQ
      have HQD := Lib.hid hq
      clear hq
      cases q with
      | false =>
        have HO : Hid (strO (plain (⟨U, .slice A2 L2 C2, ul⟩ :: r)) (T, l) = some (T, l) ∧ strR (plain (⟨U, .slice A2 L2 C2, ul⟩ :: r)) (T, l) = plain (⟨U, .slice A2 L2 C2, ul⟩ :: r)) := by
          have h := of_decide_eq_false HQD.out.symm
          exact ⟨if_neg (fun e => h e.symm), if_neg (fun e => h e.symm)⟩
        go_enter Try.func53, Try.ntmps53
        go_upto_region 1 with fail
        rw [← HWQ.out]
        refine wp_region_G 10 Gr (by kernel_rfl) ?_
        -- 0: slot 5
        refine wpG_take preGr (i := 0) (v := ?_) (by kernel_rfl) (some 5) (by kernel_rfl) rfl (by kernel_rfl) (by kernel_rfl) (by kernel_rfl) (fun _ _ _ h => h) (by rfl) (fun w' hw' => ?_) rfl ?_
        rotate_left
        · try have g0 := cell1 (heap_gr ((Gr.drew wq).trans hw') HGL.out)
          try have g1 := (copy_cells (heap_gr ((Gr.drew wq).trans hw') HG0.out)).1
          try have g2 := (copy_cells (heap_gr ((Gr.drew wq).trans hw') HG0.out)).2
          try have g3 := cell_gr ((Gr.drew wq).trans hw') HC0.out
          try have g4 := cell_gr ((Gr.drew wq).trans hw') HC1.out
          go_simp
          with_reducible rfl
        simp only [Act.put, List.setIfInBounds_toArray, List.set_cons_zero, List.set_cons_succ]
        -- 1: slot 6
        refine wpG_take preGr (i := 1) (v := ?_) (by kernel_rfl) (some 6) (by kernel_rfl) rfl (by kernel_rfl) (by kernel_rfl) (by kernel_rfl) (fun _ _ _ h => h) (by rfl) (fun w' hw' => ?_) rfl ?_
        rotate_left
        · try have g0 := cell1 (heap_gr ((Gr.drew wq).trans hw') HGL.out)
          try have g1 := (copy_cells (heap_gr ((Gr.drew wq).trans hw') HG0.out)).1
          try have g2 := (copy_cells (heap_gr ((Gr.drew wq).trans hw') HG0.out)).2
          try have g3 := cell_gr ((Gr.drew wq).trans hw') HC0.out
          try have g4 := cell_gr ((Gr.drew wq).trans hw') HC1.out
          go_simp
          with_reducible rfl
        simp only [Act.put, List.setIfInBounds_toArray, List.set_cons_zero, List.set_cons_succ]
        -- 2: slot 7
        refine wpG_take preGr (i := 2) (v := ?_) (by kernel_rfl) (some 7) (by kernel_rfl) rfl (by kernel_rfl) (by kernel_rfl) (by kernel_rfl) (fun _ _ _ h => h) (by rfl) (fun w' hw' => ?_) rfl ?_
        rotate_left
        · try have g0 := cell1 (heap_gr ((Gr.drew wq).trans hw') HGL.out)
          try have g1 := (copy_cells (heap_gr ((Gr.drew wq).trans hw') HG0.out)).1
          try have g2 := (copy_cells (heap_gr ((Gr.drew wq).trans hw') HG0.out)).2
          try have g3 := cell_gr ((Gr.drew wq).trans hw') HC0.out
          try have g4 := cell_gr ((Gr.drew wq).trans hw') HC1.out
          go_simp
          with_reducible rfl
        simp only [Act.put, List.setIfInBounds_toArray, List.set_cons_zero, List.set_cons_succ]
        -- 3: slot 8
        refine wpG_take preGr (i := 3) (v := ?_) (by kernel_rfl) (some 8) (by kernel_rfl) rfl (by kernel_rfl) (by kernel_rfl) (by kernel_rfl) (fun _ _ _ h => h) (by rfl) (fun w' hw' => ?_) rfl ?_
        rotate_left
        · try have g0 := cell1 (heap_gr ((Gr.drew wq).trans hw') HGL.out)
          try have g1 := (copy_cells (heap_gr ((Gr.drew wq).trans hw') HG0.out)).1
          try have g2 := (copy_cells (heap_gr ((Gr.drew wq).trans hw') HG0.out)).2
          try have g3 := cell_gr ((Gr.drew wq).trans hw') HC0.out
          try have g4 := cell_gr ((Gr.drew wq).trans hw') HC1.out
          go_simp
          with_reducible rfl
        simp only [Act.put, List.setIfInBounds_toArray, List.set_cons_zero, List.set_cons_succ]
        -- 4: slot 9
        refine wpG_take preGr (i := 4) (v := ?_) (by kernel_rfl) (some 9) (by kernel_rfl) rfl (by kernel_rfl) (by kernel_rfl) (by kernel_rfl) (fun _ _ _ h => h) (by rfl) (fun w' hw' => ?_) rfl ?_
        rotate_left
        · try have g0 := cell1 (heap_gr ((Gr.drew wq).trans hw') HGL.out)
          try have g1 := (copy_cells (heap_gr ((Gr.drew wq).trans hw') HG0.out)).1
          try have g2 := (copy_cells (heap_gr ((Gr.drew wq).trans hw') HG0.out)).2
          try have g3 := cell_gr ((Gr.drew wq).trans hw') HC0.out
          try have g4 := cell_gr ((Gr.drew wq).trans hw') HC1.out
          go_simp
          with_reducible rfl
        simp only [Act.put, List.setIfInBounds_toArray, List.set_cons_zero, List.set_cons_succ]
        -- 5: slot 10
        refine wpG_take preGr (i := 5) (v := ?_) (by kernel_rfl) (some 10) (by kernel_rfl) rfl (by kernel_rfl) (by kernel_rfl) (by kernel_rfl) (fun _ _ _ h => h) (by rfl) (fun w' hw' => ?_) rfl ?_
        rotate_left
        · try have g0 := cell1 (heap_gr ((Gr.drew wq).trans hw') HGL.out)
          try have g1 := (copy_cells (heap_gr ((Gr.drew wq).trans hw') HG0.out)).1
          try have g2 := (copy_cells (heap_gr ((Gr.drew wq).trans hw') HG0.out)).2
          try have g3 := cell_gr ((Gr.drew wq).trans hw') HC0.out
          try have g4 := cell_gr ((Gr.drew wq).trans hw') HC1.out
          go_simp
          with_reducible rfl
        simp only [Act.put, List.setIfInBounds_toArray, List.set_cons_zero, List.set_cons_succ]
        -- 6: slot 11
        refine wpG_take preGr (i := 6) (v := ?_) (by kernel_rfl) (some 11) (by kernel_rfl) rfl (by kernel_rfl) (by kernel_rfl) (by kernel_rfl) (fun _ _ _ h => h) (by rfl) (fun w' hw' => ?_) rfl ?_
        rotate_left
        · try have g0 := cell1 (heap_gr ((Gr.drew wq).trans hw') HGL.out)
          try have g1 := (copy_cells (heap_gr ((Gr.drew wq).trans hw') HG0.out)).1
          try have g2 := (copy_cells (heap_gr ((Gr.drew wq).trans hw') HG0.out)).2
          try have g3 := cell_gr ((Gr.drew wq).trans hw') HC0.out
          try have g4 := cell_gr ((Gr.drew wq).trans hw') HC1.out
          go_simp
          with_reducible rfl
        simp only [Act.put, List.setIfInBounds_toArray, List.set_cons_zero, List.set_cons_succ]
        -- 7: slot 12
        refine wpG_take preGr (i := 7) (v := ?_) (by kernel_rfl) (some 12) (by kernel_rfl) rfl (by kernel_rfl) (by kernel_rfl) (by kernel_rfl) (fun _ _ _ h => h) (by rfl) (fun w' hw' => ?_) rfl ?_
        rotate_left
        · try have g0 := cell1 (heap_gr ((Gr.drew wq).trans hw') HGL.out)
          try have g1 := (copy_cells (heap_gr ((Gr.drew wq).trans hw') HG0.out)).1
          try have g2 := (copy_cells (heap_gr ((Gr.drew wq).trans hw') HG0.out)).2
          try have g3 := cell_gr ((Gr.drew wq).trans hw') HC0.out
          try have g4 := cell_gr ((Gr.drew wq).trans hw') HC1.out
          go_simp
          with_reducible rfl
        simp only [Act.put, List.setIfInBounds_toArray, List.set_cons_zero, List.set_cons_succ]
        refine wpG_one (i := 8) rfl (by kernel_rfl) (by rfl) ?_
        go_simp
        refine (EQ.out _ (Gr.drew _)).mono ?_
        rintro e w3 ⟨rfl, hb3⟩
        refine ⟨hb3, ?_⟩
        have hq3 : Gr wq w3 := (Gr.drew wq).trans hb3
        have HG3 := Lib.hid (heap_gr hq3 HG0.out)
        have HG4 := Lib.hid (heap_gr hq3 HG1.out)
        have HGL3 := Lib.hid (heap_gr hq3 HGL.out)
        have HB3 := Lib.hid (HAL.out.trans hq3)
        clear hb3 hq3
        try simp only [Act.put, List.setIfInBounds_toArray, List.set_cons_zero, List.set_cons_succ]
        -- 9: slot 14
        refine wpG_take preGr (i := 9) (v := ?_) (by kernel_rfl) (some 14) (by kernel_rfl) rfl (by kernel_rfl) (by kernel_rfl) (by kernel_rfl) (fun _ _ _ h => h) (by rfl) (fun w' hw' => ?_) rfl ?_
        rotate_left
        · go_simp
          with_reducible rfl
        simp only [Act.put, List.setIfInBounds_toArray, List.set_cons_zero, List.set_cons_succ]
        refine wpG_done (by kernel_rfl) ?_ _
        obtain ⟨k0, k1⟩ := copy_cells HG3.out
        go_wp2_with (refine wpList_store_whole rfl 42 (.tmp 3) (.tmp 18) rfl (w.heap.size + 1) [.int .i64 T, .slice A L C] rfl rfl 42 [.int .i64 0, .slice none 0 0] HG4.out O.sizeT rfl (O.one_tag _ rfl) ?_)
        intro w4 h4 ho4
        have H4 := Lib.hid h4
        have HQ : Hid (Gr w w4) := ho4.below _ _ (Nat.le_succ _) HB3.out
        have HGL4 := Lib.hid ((ho4.heap gl (by have := HB3.out.size; omega) (by omega)).trans HGL3.out)
        clear h4 ho4 k0 k1
        go_wp2
        refine bodyPost_ret (v := .tuple #[.agg #[.int .i64 T, .slice A L C], .bool true]) (results_cell_tmp_row (P := Try.prog) (fn := Try.f53) rfl _ _ (w.heap.size + 1) 42 _ (0, 0) _ rfl H4.out Try.underlying42 rfl (by kernel_rfl)) rfl ?_
        have ho : Only gl w w4 := Only.grown HQ.out (by omega)
        exact ⟨⟨T, A, L, C, true, l, rfl, by rw [HO.out.1]; rfl, fun _ => ⟨hl, hL, HB.out.below (HKEEP.out _ ho)⟩⟩, ho, _, m, c, _, HGL4.out, HR.out, HO.out.2.symm⟩
      | true =>
        have HO : Hid (strO (plain (⟨U, .slice A2 L2 C2, ul⟩ :: r)) (T, l) = none ∧ strR (plain (⟨U, .slice A2 L2 C2, ul⟩ :: r)) (T, l) = plain r) := by
          have h := of_decide_eq_true HQD.out.symm
          exact ⟨if_pos h.symm, if_pos h.symm⟩
        go_enter Try.func53, Try.ntmps53
        go_upto_region 1 with fail
        rw [← HWQ.out]
        refine wp_region_G 10 Gr (by kernel_rfl) ?_
        -- 0: slot 5
        refine wpG_take preGr (i := 0) (v := ?_) (by kernel_rfl) (some 5) (by kernel_rfl) rfl (by kernel_rfl) (by kernel_rfl) (by kernel_rfl) (fun _ _ _ h => h) (by rfl) (fun w' hw' => ?_) rfl ?_
        rotate_left
        · try have g0 := cell1 (heap_gr ((Gr.drew wq).trans hw') HGL.out)
          try have g1 := (copy_cells (heap_gr ((Gr.drew wq).trans hw') HG0.out)).1
          try have g2 := (copy_cells (heap_gr ((Gr.drew wq).trans hw') HG0.out)).2
          try have g3 := cell_gr ((Gr.drew wq).trans hw') HC0.out
          try have g4 := cell_gr ((Gr.drew wq).trans hw') HC1.out
          go_simp
          with_reducible rfl
        simp only [Act.put, List.setIfInBounds_toArray, List.set_cons_zero, List.set_cons_succ]
        -- 1: slot 6
        refine wpG_take preGr (i := 1) (v := ?_) (by kernel_rfl) (some 6) (by kernel_rfl) rfl (by kernel_rfl) (by kernel_rfl) (by kernel_rfl) (fun _ _ _ h => h) (by rfl) (fun w' hw' => ?_) rfl ?_
        rotate_left
        · try have g0 := cell1 (heap_gr ((Gr.drew wq).trans hw') HGL.out)
          try have g1 := (copy_cells (heap_gr ((Gr.drew wq).trans hw') HG0.out)).1
          try have g2 := (copy_cells (heap_gr ((Gr.drew wq).trans hw') HG0.out)).2
          try have g3 := cell_gr ((Gr.drew wq).trans hw') HC0.out
          try have g4 := cell_gr ((Gr.drew wq).trans hw') HC1.out
          go_simp
          with_reducible rfl
        simp only [Act.put, List.setIfInBounds_toArray, List.set_cons_zero, List.set_cons_succ]
        -- 2: slot 7
        refine wpG_take preGr (i := 2) (v := ?_) (by kernel_rfl) (some 7) (by kernel_rfl) rfl (by kernel_rfl) (by kernel_rfl) (by kernel_rfl) (fun _ _ _ h => h) (by rfl) (fun w' hw' => ?_) rfl ?_
        rotate_left
        · try have g0 := cell1 (heap_gr ((Gr.drew wq).trans hw') HGL.out)
          try have g1 := (copy_cells (heap_gr ((Gr.drew wq).trans hw') HG0.out)).1
          try have g2 := (copy_cells (heap_gr ((Gr.drew wq).trans hw') HG0.out)).2
          try have g3 := cell_gr ((Gr.drew wq).trans hw') HC0.out
          try have g4 := cell_gr ((Gr.drew wq).trans hw') HC1.out
          go_simp
          with_reducible rfl
        simp only [Act.put, List.setIfInBounds_toArray, List.set_cons_zero, List.set_cons_succ]
        -- 3: slot 8
        refine wpG_take preGr (i := 3) (v := ?_) (by kernel_rfl) (some 8) (by kernel_rfl) rfl (by kernel_rfl) (by kernel_rfl) (by kernel_rfl) (fun _ _ _ h => h) (by rfl) (fun w' hw' => ?_) rfl ?_
        rotate_left
        · try have g0 := cell1 (heap_gr ((Gr.drew wq).trans hw') HGL.out)
          try have g1 := (copy_cells (heap_gr ((Gr.drew wq).trans hw') HG0.out)).1
          try have g2 := (copy_cells (heap_gr ((Gr.drew wq).trans hw') HG0.out)).2
          try have g3 := cell_gr ((Gr.drew wq).trans hw') HC0.out
          try have g4 := cell_gr ((Gr.drew wq).trans hw') HC1.out
          go_simp
          with_reducible rfl
        simp only [Act.put, List.setIfInBounds_toArray, List.set_cons_zero, List.set_cons_succ]
        -- 4: slot 9
        refine wpG_take preGr (i := 4) (v := ?_) (by kernel_rfl) (some 9) (by kernel_rfl) rfl (by kernel_rfl) (by kernel_rfl) (by kernel_rfl) (fun _ _ _ h => h) (by rfl) (fun w' hw' => ?_) rfl ?_
        rotate_left
        · try have g0 := cell1 (heap_gr ((Gr.drew wq).trans hw') HGL.out)
          try have g1 := (copy_cells (heap_gr ((Gr.drew wq).trans hw') HG0.out)).1
          try have g2 := (copy_cells (heap_gr ((Gr.drew wq).trans hw') HG0.out)).2
          try have g3 := cell_gr ((Gr.drew wq).trans hw') HC0.out
          try have g4 := cell_gr ((Gr.drew wq).trans hw') HC1.out
          go_simp
          with_reducible rfl
        simp only [Act.put, List.setIfInBounds_toArray, List.set_cons_zero, List.set_cons_succ]
        -- 5: slot 10
        refine wpG_take preGr (i := 5) (v := ?_) (by kernel_rfl) (some 10) (by kernel_rfl) rfl (by kernel_rfl) (by kernel_rfl) (by kernel_rfl) (fun _ _ _ h => h) (by rfl) (fun w' hw' => ?_) rfl ?_
        rotate_left
        · try have g0 := cell1 (heap_gr ((Gr.drew wq).trans hw') HGL.out)
          try have g1 := (copy_cells (heap_gr ((Gr.drew wq).trans hw') HG0.out)).1
          try have g2 := (copy_cells (heap_gr ((Gr.drew wq).trans hw') HG0.out)).2
          try have g3 := cell_gr ((Gr.drew wq).trans hw') HC0.out
          try have g4 := cell_gr ((Gr.drew wq).trans hw') HC1.out
          go_simp
          with_reducible rfl
        simp only [Act.put, List.setIfInBounds_toArray, List.set_cons_zero, List.set_cons_succ]
        -- 6: slot 11
        refine wpG_take preGr (i := 6) (v := ?_) (by kernel_rfl) (some 11) (by kernel_rfl) rfl (by kernel_rfl) (by kernel_rfl) (by kernel_rfl) (fun _ _ _ h => h) (by rfl) (fun w' hw' => ?_) rfl ?_
        rotate_left
        · try have g0 := cell1 (heap_gr ((Gr.drew wq).trans hw') HGL.out)
          try have g1 := (copy_cells (heap_gr ((Gr.drew wq).trans hw') HG0.out)).1
          try have g2 := (copy_cells (heap_gr ((Gr.drew wq).trans hw') HG0.out)).2
          try have g3 := cell_gr ((Gr.drew wq).trans hw') HC0.out
          try have g4 := cell_gr ((Gr.drew wq).trans hw') HC1.out
          go_simp
          with_reducible rfl
        simp only [Act.put, List.setIfInBounds_toArray, List.set_cons_zero, List.set_cons_succ]
        -- 7: slot 12
        refine wpG_take preGr (i := 7) (v := ?_) (by kernel_rfl) (some 12) (by kernel_rfl) rfl (by kernel_rfl) (by kernel_rfl) (by kernel_rfl) (fun _ _ _ h => h) (by rfl) (fun w' hw' => ?_) rfl ?_
        rotate_left
        · try have g0 := cell1 (heap_gr ((Gr.drew wq).trans hw') HGL.out)
          try have g1 := (copy_cells (heap_gr ((Gr.drew wq).trans hw') HG0.out)).1
          try have g2 := (copy_cells (heap_gr ((Gr.drew wq).trans hw') HG0.out)).2
          try have g3 := cell_gr ((Gr.drew wq).trans hw') HC0.out
          try have g4 := cell_gr ((Gr.drew wq).trans hw') HC1.out
          go_simp
          with_reducible rfl
        simp only [Act.put, List.setIfInBounds_toArray, List.set_cons_zero, List.set_cons_succ]
        refine wpG_one (i := 8) rfl (by kernel_rfl) (by rfl) ?_
        go_simp
        refine (EQ.out _ (Gr.drew _)).mono ?_
        rintro e w3 ⟨rfl, hb3⟩
        refine ⟨hb3, ?_⟩
        have hq3 : Gr wq w3 := (Gr.drew wq).trans hb3
        have HG3 := Lib.hid (heap_gr hq3 HG0.out)
        have HG4 := Lib.hid (heap_gr hq3 HG1.out)
        have HGL3 := Lib.hid (heap_gr hq3 HGL.out)
        have HB3 := Lib.hid (HAL.out.trans hq3)
        clear hb3 hq3
        try simp only [Act.put, List.setIfInBounds_toArray, List.set_cons_zero, List.set_cons_succ]
        -- 9: slot 14
        refine wpG_take preGr (i := 9) (v := ?_) (by kernel_rfl) (some 14) (by kernel_rfl) rfl (by kernel_rfl) (by kernel_rfl) (by kernel_rfl) (fun _ _ _ h => h) (by rfl) (fun w' hw' => ?_) rfl ?_
        rotate_left
        · go_simp
          with_reducible rfl
        simp only [Act.put, List.setIfInBounds_toArray, List.set_cons_zero, List.set_cons_succ]
        refine wpG_done (by kernel_rfl) ?_ _
        have kg := cell1 HGL3.out
        have hs1 := HS.out
        go_wp2_with (refine wpList_store_cell rfl 23 (.tmp 1) (.tmp 16) rfl gl 0 (.slice a' (m - 1) (c - 1)) rfl rfl 23 [.slice (some ⟨b, o, none⟩) m c] HGL3.out (by kernel_rfl) (by simp) rfl ?_)
        intro w5 h5 ho5
        have HGL5 : Hid (w5.heap[gl]? = some (.cells #[.slice a' (m - 1) (c - 1)] 23 (0, 0))) := h5
        have hlt3 : w.heap.size + 1 < w3.heap.size := (Array.getElem?_eq_some_iff.1 HG4.out).1
        have HG5 : Hid (w5.heap[w.heap.size]? = some (.cells #[.int .i64 T, .slice A L C] 42)) := (ho5.heap _ (by omega) (by omega)).trans HG3.out
        have HG6 : Hid (w5.heap[w.heap.size + 1]? = some (.cells #[.int .i64 0, .slice none 0 0] 42)) := (ho5.heap _ hlt3 (by omega)).trans HG4.out
        have HO5 : Hid (Only gl w w5) := (Only.grown HB3.out (by omega)).trans ho5
        have hlt5 := ho5.size
        clear h5 ho5 kg hs1
        obtain ⟨k0, k1⟩ := copy_cells HG5.out
        go_wp2_with (refine wpList_store_whole rfl 42 (.tmp 3) (.tmp 17) rfl (w.heap.size + 1) [.int .i64 T, .slice A L C] rfl rfl 42 [.int .i64 0, .slice none 0 0] HG6.out O.sizeT rfl (O.one_tag _ rfl) ?_)
        intro w4 h4 ho4
        have H4 := Lib.hid h4
        have HO4 : Hid (Only gl w w4) := ⟨Nat.le_trans HO5.out.size ho4.size, fun B v hB hb => ho4.below B v (by omega) (HO5.out.below B v hB hb), fun i hi hn => by rw [ho4.heap i (by have := HO5.out.size; omega) (by omega), HO5.out.heap i hi hn]⟩
        have HGL4 := Lib.hid ((ho4.heap gl (by omega) (by omega)).trans HGL5.out)
        clear h4 ho4 k0 k1
        go_wp2
        refine bodyPost_ret (v := .tuple #[.agg #[.int .i64 T, .slice A L C], .bool false]) (results_cell_tmp_row (P := Try.prog) (fn := Try.f53) rfl _ _ (w.heap.size + 1) 42 _ (0, 0) _ rfl H4.out Try.underlying42 rfl (by kernel_rfl)) rfl ?_
        exact ⟨⟨T, A, L, C, false, l, rfl, by rw [HO.out.1]; rfl, fun h => by cases h⟩, HO4.out, _, _, _, _, HGL4.out, HTL.out, by rw [HO.out.2]; rfl⟩
end Go.Proofs.Ytbldcjngccmhpaa.Ng
