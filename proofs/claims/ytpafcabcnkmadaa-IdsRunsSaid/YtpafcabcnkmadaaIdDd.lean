/-
  The document's SameInts, SameRest of what is the same; its rouse.
-/
import Derived.Test.YtpafcabcnkmadaaIdDc
namespace Go.Proofs.Ytpafcabcnkmadaa.Id
open Go.RowKit
set_option linter.unusedVariables false
set_option linter.unusedSimpArgs false

theorem IR.at {w : World} {a : Option Addr} {n c : Nat} {l : List Int} (h : IR w (.slice a n c) l) (hn : n = l.length) (h0 : 0 < n) : ∃ b o, a = some ⟨b, o, none⟩ ∧ ∀ (i : Nat) (hi : i < l.length), w.cell? ⟨b, o + i, none⟩ = some (.int .i64 l[i]) := by
  subst hn
  obtain ⟨b, o, h1, _, h3⟩ := IR.cells h h0
  exact ⟨b, o, h1, h3⟩
theorem RR.at {w : World} {a : Option Addr} {n c : Nat} {l : List (Int × Int)} (h : RR w (.slice a n c) l) (hn : n = l.length) (h0 : 0 < n) : ∃ b o, a = some ⟨b, o, none⟩ ∧ ∀ (i : Nat) (hi : i < l.length), w.cell? ⟨b, o + i * 2, none⟩ = some (.int .i64 l[i].1) ∧ w.cell? ⟨b, o + i * 2 + 1, none⟩ = some (.int .i64 l[i].2) := by
  subst hn
  obtain ⟨b, o, h1, _, h3⟩ := RR.cells h h0
  exact ⟨b, o, h1, h3⟩
set_option maxRecDepth 20000 in
theorem sameInts_same (a a' : Option Addr) (n c c' : Nat) (l : List Int) (w : World) (h : IR w (.slice a n c) l) (h' : IR w (.slice a' n c') l) (hn : n = l.length) (hb : n ≤ 65534) :
    Calls Try.prog 29 #[.slice a n c, .slice a' n c'] w fun e w' => e = .returned (.bool true) ∧ Below w.heap.size w w' := by
  have HN := Lib.hid hn
  have H := Lib.hid h
  have H' := Lib.hid h'
  clear h h' hn
  go_enter Try.func29, Try.ntmps29
  go_wp2_with fail
  go_loopw [5] (fun iv wr => ∃ i : Nat, i ≤ n ∧ iv = .int .i64 (i : Int) ∧ Below w.heap.size w wr) (fun iv _ => n - (intOf iv).toNat)
  case atStart => exact ⟨0, Nat.zero_le _, rfl, Below.refl _ _⟩
  case round =>
    obtain ⟨i, hin, rfl, hbw⟩ := hrel
    have HB := Lib.hid hbw
    clear hbw
    by_cases hlt : i < n
    · have hil : i < l.length := by rw [← HN.out]; exact hlt
      obtain ⟨b, o, ea, hc⟩ := IR.at H.out HN.out (by omega)
      obtain ⟨b', o', ea', hc'⟩ := IR.at H'.out HN.out (by omega)
      subst ea ea'
      obtain ⟨x, hx⟩ : ∃ x, x = l[i] := ⟨_, rfl⟩
      have d0 := hc i hil
      have d1 := hc' i hil
      rw [← hx] at d0 d1
      have D0 := Lib.hid (cell_gr HB.out d0)
      have D1 := Lib.hid (cell_gr HB.out d1)
      have hxx : (x != x) = false := by simp
      have hle : i + 1 ≤ n := by omega
      clear hx d0 d1 hc hc' hil
      go_upto_region 6 with fail
      have HC : Hid (Gr wr wr.drew) := Gr.drew wr
      refine wp_region_G 9 Gr (by kernel_rfl) ?_
      generalize wr.drew = wc at HC ⊢
      -- 0: slot 17
      refine wpG_take preGr (i := 0) (v := ?_) (by kernel_rfl) (some 17) (by kernel_rfl) rfl (by kernel_rfl) (by kernel_rfl) (by kernel_rfl) (fun _ _ _ h => h) (by rfl) (fun w' hw' => ?_) rfl ?_
      rotate_left
      · try (have d0 := cell_gr (Gr.trans HC.out hw') D0.out; have d1 := cell_gr (Gr.trans HC.out hw') D1.out)
        go_simp
        with_reducible rfl
      simp only [Act.put, List.setIfInBounds_toArray, List.set_cons_zero, List.set_cons_succ]
      -- 1: slot 18
      refine wpG_take preGr (i := 1) (v := ?_) (by kernel_rfl) (some 18) (by kernel_rfl) rfl (by kernel_rfl) (by kernel_rfl) (by kernel_rfl) (fun _ _ _ h => h) (by rfl) (fun w' hw' => ?_) rfl ?_
      rotate_left
      · try (have d0 := cell_gr (Gr.trans HC.out hw') D0.out; have d1 := cell_gr (Gr.trans HC.out hw') D1.out)
        go_simp
        with_reducible rfl
      simp only [Act.put, List.setIfInBounds_toArray, List.set_cons_zero, List.set_cons_succ]
      -- 2: slot 19
      refine wpG_take preGr (i := 2) (v := ?_) (by kernel_rfl) (some 19) (by kernel_rfl) rfl (by kernel_rfl) (by kernel_rfl) (by kernel_rfl) (fun _ _ _ h => h) (by rfl) (fun w' hw' => ?_) rfl ?_
      rotate_left
      · try (have d0 := cell_gr (Gr.trans HC.out hw') D0.out; have d1 := cell_gr (Gr.trans HC.out hw') D1.out)
        go_simp
        with_reducible rfl
      simp only [Act.put, List.setIfInBounds_toArray, List.set_cons_zero, List.set_cons_succ]
      -- 3: slot 20
      refine wpG_take preGr (i := 3) (v := ?_) (by kernel_rfl) (some 20) (by kernel_rfl) rfl (by kernel_rfl) (by kernel_rfl) (by kernel_rfl) (fun _ _ _ h => h) (by rfl) (fun w' hw' => ?_) rfl ?_
      rotate_left
      · try (have d0 := cell_gr (Gr.trans HC.out hw') D0.out; have d1 := cell_gr (Gr.trans HC.out hw') D1.out)
        go_simp
        with_reducible rfl
      simp only [Act.put, List.setIfInBounds_toArray, List.set_cons_zero, List.set_cons_succ]
      -- 4: slot 21
      refine wpG_take preGr (i := 4) (v := ?_) (by kernel_rfl) (some 21) (by kernel_rfl) rfl (by kernel_rfl) (by kernel_rfl) (by kernel_rfl) (fun _ _ _ h => h) (by rfl) (fun w' hw' => ?_) rfl ?_
      rotate_left
      · try (have d0 := cell_gr (Gr.trans HC.out hw') D0.out; have d1 := cell_gr (Gr.trans HC.out hw') D1.out)
        go_simp
        with_reducible rfl
      simp only [Act.put, List.setIfInBounds_toArray, List.set_cons_zero, List.set_cons_succ]
      -- 5: slot 22
      refine wpG_take preGr (i := 5) (v := ?_) (by kernel_rfl) (some 22) (by kernel_rfl) rfl (by kernel_rfl) (by kernel_rfl) (by kernel_rfl) (fun _ _ _ h => h) (by rfl) (fun w' hw' => ?_) rfl ?_
      rotate_left
      · try (have d0 := cell_gr (Gr.trans HC.out hw') D0.out; have d1 := cell_gr (Gr.trans HC.out hw') D1.out)
        go_simp
        with_reducible rfl
      simp only [Act.put, List.setIfInBounds_toArray, List.set_cons_zero, List.set_cons_succ]
      -- 6: slot 23
      refine wpG_take preGr (i := 6) (v := ?_) (by kernel_rfl) (some 23) (by kernel_rfl) rfl (by kernel_rfl) (by kernel_rfl) (by kernel_rfl) (fun _ _ _ h => h) (by rfl) (fun w' hw' => ?_) rfl ?_
      rotate_left
      · try (have d0 := cell_gr (Gr.trans HC.out hw') D0.out; have d1 := cell_gr (Gr.trans HC.out hw') D1.out)
        go_simp
        with_reducible rfl
      simp only [Act.put, List.setIfInBounds_toArray, List.set_cons_zero, List.set_cons_succ]
      -- 7: slot 24
      refine wpG_take preGr (i := 7) (v := ?_) (by kernel_rfl) (some 24) (by kernel_rfl) rfl (by kernel_rfl) (by kernel_rfl) (by kernel_rfl) (fun _ _ _ h => h) (by rfl) (fun w' hw' => ?_) rfl ?_
      rotate_left
      · try (have d0 := cell_gr (Gr.trans HC.out hw') D0.out; have d1 := cell_gr (Gr.trans HC.out hw') D1.out)
        go_simp
        with_reducible rfl
      simp only [Act.put, List.setIfInBounds_toArray, List.set_cons_zero, List.set_cons_succ]
      -- 8: slot 25
      refine wpG_take preGr (i := 8) (v := ?_) (by kernel_rfl) (some 25) (by kernel_rfl) rfl (by kernel_rfl) (by kernel_rfl) (by kernel_rfl) (fun _ _ _ h => h) (by rfl) (fun w' hw' => ?_) rfl ?_
      rotate_left
      · try (have d0 := cell_gr (Gr.trans HC.out hw') D0.out; have d1 := cell_gr (Gr.trans HC.out hw') D1.out)
        go_simp
        with_reducible rfl
      simp only [Act.put, List.setIfInBounds_toArray, List.set_cons_zero, List.set_cons_succ]
      refine wpG_done (by kernel_rfl) ?_ _
      have HB2 : Hid (Below w.heap.size w wc) := HB.out.trans (Below.mono HC.out HB.out.size)
      clear HC D0 D1
      go_wp2_with fail
      go_roundw
      case rel =>
        first
          | exact ⟨i + 1, hle, by go_num, HB2.out⟩
          | ((repeat apply Exists.intro); exact ⟨⟨i + 1, hle, by go_num, HB2.out⟩, rfl⟩)
      case measure => simp [intOf]; omega
    · go_wp2_with fail
      go_ret
      exact ⟨rfl, HB.out⟩
set_option maxRecDepth 20000 in
theorem sameRest_same (a a' : Option Addr) (n c c' : Nat) (l : List (Int × Int)) (w : World) (h : RR w (.slice a n c) l) (h' : RR w (.slice a' n c') l) (hn : n = l.length) (hb : n ≤ 65534) :
    Calls Try.prog 31 #[.slice a n c, .slice a' n c'] w fun e w' => e = .returned (.bool true) ∧ Below w.heap.size w w' := by
  have HN := Lib.hid hn
  have H := Lib.hid h
  have H' := Lib.hid h'
  clear h h' hn
  go_enter Try.func31, Try.ntmps31
  go_wp2_with fail
  go_loopw [5] (fun iv wr => ∃ i : Nat, i ≤ n ∧ iv = .int .i64 (i : Int) ∧ Below w.heap.size w wr) (fun iv _ => n - (intOf iv).toNat)
  case atStart => exact ⟨0, Nat.zero_le _, rfl, Below.refl _ _⟩
  case round =>
    obtain ⟨i, hin, rfl, hbw⟩ := hrel
    have HB := Lib.hid hbw
    clear hbw
    by_cases hlt : i < n
    · have hil : i < l.length := by rw [← HN.out]; exact hlt
      obtain ⟨b, o, ea, hc⟩ := RR.at H.out HN.out (by omega)
      obtain ⟨b', o', ea', hc'⟩ := RR.at H'.out HN.out (by omega)
      subst ea ea'
      obtain ⟨x, hx⟩ : ∃ x, x = l[i] := ⟨_, rfl⟩
      have d0 := hc i hil
      have d1 := hc' i hil
      rw [← hx] at d0 d1
      have D0 := Lib.hid (range_gr HB.out (range_pair d0.1 d0.2))
      have D1 := Lib.hid (range_gr HB.out (range_pair d1.1 d1.2))
      have hxx : ∀ w, (binOp .neq 54 (.agg #[.int .i64 x.1, .int .i64 x.2]) (.agg #[.int .i64 x.1, .int .i64 x.2])).run Try.prog w = .ok (.bool false) w := fun w => by go_simp
      have hle : i + 1 ≤ n := by omega
      clear hx d0 d1 hc hc' hil
      go_upto_region 6 with fail
      have HC : Hid (Gr wr wr.drew) := Gr.drew wr
      refine wp_region_G 9 Gr (by kernel_rfl) ?_
      generalize wr.drew = wc at HC ⊢
      -- 0: slot 17
      refine wpG_take preGr (i := 0) (v := ?_) (by kernel_rfl) (some 17) (by kernel_rfl) rfl (by kernel_rfl) (by kernel_rfl) (by kernel_rfl) (fun _ _ _ h => h) (by rfl) (fun w' hw' => ?_) rfl ?_
      rotate_left
      · go_simp
        with_reducible rfl
      simp only [Act.put, List.setIfInBounds_toArray, List.set_cons_zero, List.set_cons_succ]
      -- 1: slot 18
      refine wpG_take preGr (i := 1) (v := ?_) (by kernel_rfl) (some 18) (by kernel_rfl) rfl (by kernel_rfl) (by kernel_rfl) (by kernel_rfl) (fun _ _ _ h => h) (by rfl) (fun w' hw' => ?_) rfl ?_
      rotate_left
      · go_simp
        with_reducible rfl
      simp only [Act.put, List.setIfInBounds_toArray, List.set_cons_zero, List.set_cons_succ]
      -- 2: slot 19
      refine wpG_take preGr (i := 2) (v := ?_) (by kernel_rfl) (some 19) (by kernel_rfl) rfl (by kernel_rfl) (by kernel_rfl) (by kernel_rfl) (fun _ _ _ h => h) (by rfl) (fun w' hw' => ?_) rfl ?_
      rotate_left
      · go_simp
        with_reducible rfl
      simp only [Act.put, List.setIfInBounds_toArray, List.set_cons_zero, List.set_cons_succ]
      -- 3: slot 20
      refine wpG_take preGr (i := 3) (v := ?_) (by kernel_rfl) (some 20) (by kernel_rfl) rfl (by kernel_rfl) (by kernel_rfl) (by kernel_rfl) (fun _ _ _ h => h) (by rfl) (fun w' hw' => ?_) rfl ?_
      rotate_left
      · refine Eq.trans (load_mid_run (P := Try.prog) 54 (.tmp 19) ?_ b (o + i * 2) ?_ [.int .i64 x.1, .int .i64 x.2] _ (range_gr (Gr.trans HC.out hw') D0.out) Try.underlying54 rfl sizeR) ?_
        · rfl
        · simp [go_sem]
        · with_reducible rfl
      simp only [Act.put, List.setIfInBounds_toArray, List.set_cons_zero, List.set_cons_succ]
      -- 4: slot 21
      refine wpG_take preGr (i := 4) (v := ?_) (by kernel_rfl) (some 21) (by kernel_rfl) rfl (by kernel_rfl) (by kernel_rfl) (by kernel_rfl) (fun _ _ _ h => h) (by rfl) (fun w' hw' => ?_) rfl ?_
      rotate_left
      · go_simp
        with_reducible rfl
      simp only [Act.put, List.setIfInBounds_toArray, List.set_cons_zero, List.set_cons_succ]
      -- 5: slot 22
      refine wpG_take preGr (i := 5) (v := ?_) (by kernel_rfl) (some 22) (by kernel_rfl) rfl (by kernel_rfl) (by kernel_rfl) (by kernel_rfl) (fun _ _ _ h => h) (by rfl) (fun w' hw' => ?_) rfl ?_
      rotate_left
      · go_simp
        with_reducible rfl
      simp only [Act.put, List.setIfInBounds_toArray, List.set_cons_zero, List.set_cons_succ]
      -- 6: slot 23
      refine wpG_take preGr (i := 6) (v := ?_) (by kernel_rfl) (some 23) (by kernel_rfl) rfl (by kernel_rfl) (by kernel_rfl) (by kernel_rfl) (fun _ _ _ h => h) (by rfl) (fun w' hw' => ?_) rfl ?_
      rotate_left
      · go_simp
        with_reducible rfl
      simp only [Act.put, List.setIfInBounds_toArray, List.set_cons_zero, List.set_cons_succ]
      -- 7: slot 24
      refine wpG_take preGr (i := 7) (v := ?_) (by kernel_rfl) (some 24) (by kernel_rfl) rfl (by kernel_rfl) (by kernel_rfl) (by kernel_rfl) (fun _ _ _ h => h) (by rfl) (fun w' hw' => ?_) rfl ?_
      rotate_left
      · refine Eq.trans (load_mid_run (P := Try.prog) 54 (.tmp 23) ?_ b' (o' + i * 2) ?_ [.int .i64 x.1, .int .i64 x.2] _ (range_gr (Gr.trans HC.out hw') D1.out) Try.underlying54 rfl sizeR) ?_
        · rfl
        · simp [go_sem]
        · with_reducible rfl
      simp only [Act.put, List.setIfInBounds_toArray, List.set_cons_zero, List.set_cons_succ]
      -- 8: slot 25
      refine wpG_take preGr (i := 8) (v := ?_) (by kernel_rfl) (some 25) (by kernel_rfl) rfl (by kernel_rfl) (by kernel_rfl) (by kernel_rfl) (fun _ _ _ h => h) (by rfl) (fun w' hw' => ?_) rfl ?_
      rotate_left
      · go_simp
        with_reducible rfl
      simp only [Act.put, List.setIfInBounds_toArray, List.set_cons_zero, List.set_cons_succ]
      refine wpG_done (by kernel_rfl) ?_ _
      have HB2 : Hid (Below w.heap.size w wc) := HB.out.trans (Below.mono HC.out HB.out.size)
      clear HC D0 D1
      go_wp2_with fail
      go_roundw
      case rel =>
        first
          | exact ⟨i + 1, hle, by go_num, HB2.out⟩
          | ((repeat apply Exists.intro); exact ⟨⟨i + 1, hle, by go_num, HB2.out⟩, rfl⟩)
      case measure => simp [intOf]; omega
    · go_wp2_with fail
      go_ret
      exact ⟨rfl, HB.out⟩
end Go.Proofs.Ytpafcabcnkmadaa.Id
