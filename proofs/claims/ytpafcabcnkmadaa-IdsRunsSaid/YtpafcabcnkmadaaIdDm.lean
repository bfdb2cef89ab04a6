/-
  same: both stand alike.
-/
import Derived.Test.YtpafcabcnkmadaaIdDj
namespace Go.Proofs.Ytpafcabcnkmadaa.Id
open Go.RowKit
set_option linter.unusedVariables false
set_option linter.unusedSimpArgs false

set_option maxRecDepth 20000 in
set_option maxHeartbeats 8000000 in
theorem same_any {W : World} {gb : Nat} {lo hi : Int} (w : World) (hx : BX W w gb lo hi) (hl : hi - lo ≤ 12) :
    Calls Try.prog 12 #[.pointer (some ⟨gb, 0, none⟩)] w fun e w' => e = .returned (.bool true) ∧ BX W w' gb lo hi := by
  have HX := Lib.hid hx
  obtain ⟨g, gd, m, rv, uv, ev, S, rfl, rfl, h⟩ := hx
  have hsm := h.la.al.ok.small hl
  have hset := h.la.al.ok.set
  unfold okSet at hset
  obtain ⟨L, hL⟩ : ∃ L, L = risen S := ⟨_, rfl⟩
  obtain ⟨M, hM⟩ : ∃ M, M = S.used.length := ⟨_, rfl⟩
  obtain ⟨K, hK⟩ : ∃ K, K = S.rest.length := ⟨_, rfl⟩
  have hls := risen_length h.la.al.ok
  have hls2 : sorted S.used = L := by rw [hL, risen_sorted h.la.al.ok]
  have hM13 : M ≤ 13 := by have := hsm.1; omega
  have hK13 : K ≤ 13 := by have := hsm.1; omega
  have hLM : M = L.length := by rw [hL, hM, hls]
  have HK1 : Hid (∀ w', Gr w w' → Calls Try.prog 19 #[.pointer (some ⟨g, 0, none⟩)] w' fun e wn => ∃ A C, e = .returned (.slice A M C) ∧ IR wn (.slice A M C) L ∧ Below w'.heap.size w' wn) := fun w' hw' => by
    refine (taken_la (h.gr hw').la).mono fun e wn ⟨A, C, he, _, h2, _, h3⟩ => ⟨A, C, ?_, ?_, h3⟩
    · rw [hM]; exact he
    · rw [hM, hL]; exact h2
  have HK2 : Hid (∀ w', Gr w w' → Calls Try.prog 30 #[.pointer (some ⟨gd, 0, none⟩)] w' fun e wn => ∃ A C, e = .returned (.slice A M C) ∧ IR wn (.slice A M C) L ∧ Below w'.heap.size w' wn) := fun w' hw' => by
    refine (dtaken_any gd w' (h.gr hw').dq (by omega)).mono fun e wn ⟨v, he, h2, h3, _⟩ => ?_
    rw [hls2] at h2
    obtain ⟨A, C, ev2, _, _⟩ := h2.shape
    rw [← hLM] at ev2
    subst ev2
    exact ⟨A, C, he, h2, h3⟩
  have HK3 : Hid (∀ (w' : World) (A : Option Addr) (C : Nat) (A' : Option Addr) (C' : Nat), IR w' (.slice A M C) L → IR w' (.slice A' M C') L → Calls Try.prog 29 #[.slice A M C, .slice A' M C'] w' fun e wn => e = .returned (.bool true) ∧ Below w'.heap.size w' wn) := fun w' A C A' C' h1 h2 => sameInts_same A A' M C C' L w' h1 h2 hLM (by omega)
  have HK4 : Hid (∀ w', Gr w w' → Calls Try.prog 20 #[.pointer (some ⟨g, 0, none⟩)] w' fun e wn => ∃ A C, e = .returned (.slice A K C) ∧ RR wn (.slice A K C) S.rest ∧ Below w'.heap.size w' wn) := fun w' hw' => by
    refine (resting_la (h.gr hw').la).mono fun e wn ⟨A, C, he, _, h2, _, h3⟩ => ⟨A, C, ?_, ?_, h3⟩
    · rw [hK]; exact he
    · rw [hK]; exact h2
  have HK5 : Hid (∀ (w' : World) (A : Option Addr) (C : Nat) (A' : Option Addr) (C' : Nat), RR w' (.slice A K C) S.rest → RR w' (.slice A' K C') S.rest → Calls Try.prog 31 #[.slice A K C, .slice A' K C'] w' fun e wn => e = .returned (.bool true) ∧ Below w'.heap.size w' wn) := fun w' A C A' C' h1 h2 => sameRest_same A A' K C C' S.rest w' h1 h2 hK (by omega)
  obtain ⟨N, hN⟩ : ∃ N, N = S.high - S.low + 1 := ⟨_, rfl⟩
  have HK6 : Hid (∀ w', Gr w w' → Calls Try.prog 21 #[.pointer (some ⟨g, 0, none⟩)] w' fun e wn => e = .returned (.int .i64 N) ∧ w' = wn) := fun w' hw' => by rw [hN]; exact len_la (h.gr hw').la
  obtain ⟨eA, eC, ee, _, _⟩ := h.dq.doc.e.shape
  rw [← hK] at ee
  subst ee
  have HE := Lib.hid h.dq.doc.e
  have HBOTH := Lib.hid h.both
  have HROW := Lib.hid h.dq.doc.row
  have X1 : Hid (IntKind.i64.wrap (S.high - S.low) = S.high - S.low) := IntWalk.i64_in _ (by omega)
  have X2 : Hid (IntKind.i64.wrap (S.high - S.low + 1) = N) := by show _ = _; rw [hN]; exact IntWalk.i64_in _ (by omega)
  clear h hsm hset hL hM hK hls hls2 hM13 hK13 hLM hN hl
  go_enter Try.func12, Try.ntmps12
  go_upto_region 1 with fail
  have HC : Hid (Gr w w.drew) := Gr.drew w
  have x1 := X1.out
  have x2 := X2.out
  refine wp_region_G 51 Gr (by kernel_rfl) ?_
  generalize w.drew = wc at HC ⊢
  -- 0: slot 3
  refine wpG_take preGr (i := 0) (v := ?_) (by kernel_rfl) (some 3) (by kernel_rfl) rfl (by kernel_rfl) (by kernel_rfl) (by kernel_rfl) (fun _ _ _ h => h) (by rfl) (fun w' hw' => ?_) rfl ?_
  rotate_left
  · try (have hq2 := cells2 (heap_gr (Gr.trans HC.out hw') HBOTH.out); obtain ⟨k0, k1⟩ := hq2; have hq6 := cells6 (heap_gr (Gr.trans HC.out hw') HROW.out); obtain ⟨d0, d1, d2, d3, d4, d5⟩ := hq6)
    go_simp
    with_reducible rfl
  simp only [Act.put, List.setIfInBounds_toArray, List.set_cons_zero, List.set_cons_succ]
  -- 1: slot 4
  refine wpG_take preGr (i := 1) (v := ?_) (by kernel_rfl) (some 4) (by kernel_rfl) rfl (by kernel_rfl) (by kernel_rfl) (by kernel_rfl) (fun _ _ _ h => h) (by rfl) (fun w' hw' => ?_) rfl ?_
  rotate_left
  · try (have hq2 := cells2 (heap_gr (Gr.trans HC.out hw') HBOTH.out); obtain ⟨k0, k1⟩ := hq2; have hq6 := cells6 (heap_gr (Gr.trans HC.out hw') HROW.out); obtain ⟨d0, d1, d2, d3, d4, d5⟩ := hq6)
    go_simp
    with_reducible rfl
  simp only [Act.put, List.setIfInBounds_toArray, List.set_cons_zero, List.set_cons_succ]
  -- 2: slot 5
  refine wpG_take preGr (i := 2) (v := ?_) (by kernel_rfl) (some 5) (by kernel_rfl) rfl (by kernel_rfl) (by kernel_rfl) (by kernel_rfl) (fun _ _ _ h => h) (by rfl) (fun w' hw' => ?_) rfl ?_
  rotate_left
  · try (have hq2 := cells2 (heap_gr (Gr.trans HC.out hw') HBOTH.out); obtain ⟨k0, k1⟩ := hq2; have hq6 := cells6 (heap_gr (Gr.trans HC.out hw') HROW.out); obtain ⟨d0, d1, d2, d3, d4, d5⟩ := hq6)
    go_simp
    with_reducible rfl
  simp only [Act.put, List.setIfInBounds_toArray, List.set_cons_zero, List.set_cons_succ]
  -- 3: slot 6
  refine wpG_take preGr (i := 3) (v := ?_) (by kernel_rfl) (some 6) (by kernel_rfl) rfl (by kernel_rfl) (by kernel_rfl) (by kernel_rfl) (fun _ _ _ h => h) (by rfl) (fun w' hw' => ?_) rfl ?_
  rotate_left
  · try (have hq2 := cells2 (heap_gr (Gr.trans HC.out hw') HBOTH.out); obtain ⟨k0, k1⟩ := hq2; have hq6 := cells6 (heap_gr (Gr.trans HC.out hw') HROW.out); obtain ⟨d0, d1, d2, d3, d4, d5⟩ := hq6)
    go_simp
    with_reducible rfl
  simp only [Act.put, List.setIfInBounds_toArray, List.set_cons_zero, List.set_cons_succ]
  -- 5: slot 8
  refine wpG_take preGr (i := 5) (v := ?_) (by kernel_rfl) (some 8) (by kernel_rfl) rfl (by kernel_rfl) (by kernel_rfl) (by kernel_rfl) (fun _ _ _ h => h) (by rfl) (fun w' hw' => ?_) rfl ?_
  rotate_left
  · try (have hq2 := cells2 (heap_gr (Gr.trans HC.out hw') HBOTH.out); obtain ⟨k0, k1⟩ := hq2; have hq6 := cells6 (heap_gr (Gr.trans HC.out hw') HROW.out); obtain ⟨d0, d1, d2, d3, d4, d5⟩ := hq6)
    go_simp
    with_reducible rfl
  simp only [Act.put, List.setIfInBounds_toArray, List.set_cons_zero, List.set_cons_succ]
  -- 6: slot 9
  refine wpG_take preGr (i := 6) (v := ?_) (by kernel_rfl) (some 9) (by kernel_rfl) rfl (by kernel_rfl) (by kernel_rfl) (by kernel_rfl) (fun _ _ _ h => h) (by rfl) (fun w' hw' => ?_) rfl ?_
  rotate_left
  · try (have hq2 := cells2 (heap_gr (Gr.trans HC.out hw') HBOTH.out); obtain ⟨k0, k1⟩ := hq2; have hq6 := cells6 (heap_gr (Gr.trans HC.out hw') HROW.out); obtain ⟨d0, d1, d2, d3, d4, d5⟩ := hq6)
    go_simp
    with_reducible rfl
  simp only [Act.put, List.setIfInBounds_toArray, List.set_cons_zero, List.set_cons_succ]
  -- 7: slot 10
  refine wpG_take preGr (i := 7) (v := ?_) (by kernel_rfl) (some 10) (by kernel_rfl) rfl (by kernel_rfl) (by kernel_rfl) (by kernel_rfl) (fun _ _ _ h => h) (by rfl) (fun w' hw' => ?_) rfl ?_
  rotate_left
  · try (have hq2 := cells2 (heap_gr (Gr.trans HC.out hw') HBOTH.out); obtain ⟨k0, k1⟩ := hq2; have hq6 := cells6 (heap_gr (Gr.trans HC.out hw') HROW.out); obtain ⟨d0, d1, d2, d3, d4, d5⟩ := hq6)
    go_simp
    with_reducible rfl
  simp only [Act.put, List.setIfInBounds_toArray, List.set_cons_zero, List.set_cons_succ]
  -- 8: slot 11
  refine wpG_take preGr (i := 8) (v := ?_) (by kernel_rfl) (some 11) (by kernel_rfl) rfl (by kernel_rfl) (by kernel_rfl) (by kernel_rfl) (fun _ _ _ h => h) (by rfl) (fun w' hw' => ?_) rfl ?_
  rotate_left
  · try (have hq2 := cells2 (heap_gr (Gr.trans HC.out hw') HBOTH.out); obtain ⟨k0, k1⟩ := hq2; have hq6 := cells6 (heap_gr (Gr.trans HC.out hw') HROW.out); obtain ⟨d0, d1, d2, d3, d4, d5⟩ := hq6)
    go_simp
    with_reducible rfl
  simp only [Act.put, List.setIfInBounds_toArray, List.set_cons_zero, List.set_cons_succ]
  refine wpG_one (i := 4) rfl (by kernel_rfl) (by rfl) ?_
  go_simp
  refine (HK1.out wc HC.out).mono ?_
  rintro e wn ⟨A1, C1, rfl, hr, hb⟩
  refine ⟨hb, ?_⟩
  have HR1 := Lib.hid hr
  have HC' : Hid (Gr w wn) := Gr.trans HC.out hb
  clear HC hb hr
  have HC := HC'
  clear HC'
  obtain ⟨wc, hwc⟩ : ∃ x, x = wn := ⟨_, rfl⟩
  subst hwc
  try simp only [Act.put, List.setIfInBounds_toArray, List.set_cons_zero, List.set_cons_succ]
  refine wpG_one (i := 9) rfl (by kernel_rfl) (by rfl) ?_
  go_simp
  refine (HK2.out wc HC.out).mono ?_
  rintro e wn ⟨A2, C2, rfl, hr, hb⟩
  refine ⟨hb, ?_⟩
  have HR2 := Lib.hid hr
  have HR1' := Lib.hid (Rd.below HR1.out hb)
  have HC' : Hid (Gr w wn) := Gr.trans HC.out hb
  clear HC hb hr HR1
  have HC := HC'
  clear HC'
  obtain ⟨wc, hwc⟩ : ∃ x, x = wn := ⟨_, rfl⟩
  subst hwc
  try simp only [Act.put, List.setIfInBounds_toArray, List.set_cons_zero, List.set_cons_succ]
  refine wpG_one (i := 10) rfl (by kernel_rfl) (by rfl) ?_
  go_simp
  refine (HK3.out wc A1 C1 A2 C2 HR1'.out HR2.out).mono ?_
  rintro e wn ⟨rfl, hb⟩
  refine ⟨hb, ?_⟩
  have HC' : Hid (Gr w wn) := Gr.trans HC.out hb
  clear HC hb HR1' HR2
  have HC := HC'
  clear HC'
  obtain ⟨wc, hwc⟩ : ∃ x, x = wn := ⟨_, rfl⟩
  subst hwc
  try simp only [Act.put, List.setIfInBounds_toArray, List.set_cons_zero, List.set_cons_succ]
  -- 11: slot 14
  refine wpG_take preGr (i := 11) (v := ?_) (by kernel_rfl) (some 14) (by kernel_rfl) rfl (by kernel_rfl) (by kernel_rfl) (by kernel_rfl) (fun _ _ _ h => h) (by rfl) (fun w' hw' => ?_) rfl ?_
  rotate_left
  · try (have hq2 := cells2 (heap_gr (Gr.trans HC.out hw') HBOTH.out); obtain ⟨k0, k1⟩ := hq2; have hq6 := cells6 (heap_gr (Gr.trans HC.out hw') HROW.out); obtain ⟨d0, d1, d2, d3, d4, d5⟩ := hq6)
    go_simp
    with_reducible rfl
  simp only [Act.put, List.setIfInBounds_toArray, List.set_cons_zero, List.set_cons_succ]
  -- 12: slot 15
  refine wpG_take preGr (i := 12) (v := ?_) (by kernel_rfl) (some 15) (by kernel_rfl) rfl (by kernel_rfl) (by kernel_rfl) (by kernel_rfl) (fun _ _ _ h => h) (by rfl) (fun w' hw' => ?_) rfl ?_
  rotate_left
  · try (have hq2 := cells2 (heap_gr (Gr.trans HC.out hw') HBOTH.out); obtain ⟨k0, k1⟩ := hq2; have hq6 := cells6 (heap_gr (Gr.trans HC.out hw') HROW.out); obtain ⟨d0, d1, d2, d3, d4, d5⟩ := hq6)
    go_simp
    with_reducible rfl
  simp only [Act.put, List.setIfInBounds_toArray, List.set_cons_zero, List.set_cons_succ]
  -- 13: slot 16
  refine wpG_take preGr (i := 13) (v := ?_) (by kernel_rfl) (some 16) (by kernel_rfl) rfl (by kernel_rfl) (by kernel_rfl) (by kernel_rfl) (fun _ _ _ h => h) (by rfl) (fun w' hw' => ?_) rfl ?_
  rotate_left
  · try (have hq2 := cells2 (heap_gr (Gr.trans HC.out hw') HBOTH.out); obtain ⟨k0, k1⟩ := hq2; have hq6 := cells6 (heap_gr (Gr.trans HC.out hw') HROW.out); obtain ⟨d0, d1, d2, d3, d4, d5⟩ := hq6)
    go_simp
    with_reducible rfl
  simp only [Act.put, List.setIfInBounds_toArray, List.set_cons_zero, List.set_cons_succ]
  -- 14: slot 17
  refine wpG_take preGr (i := 14) (v := ?_) (by kernel_rfl) (some 17) (by kernel_rfl) rfl (by kernel_rfl) (by kernel_rfl) (by kernel_rfl) (fun _ _ _ h => h) (by rfl) (fun w' hw' => ?_) rfl ?_
  rotate_left
  · try (have hq2 := cells2 (heap_gr (Gr.trans HC.out hw') HBOTH.out); obtain ⟨k0, k1⟩ := hq2; have hq6 := cells6 (heap_gr (Gr.trans HC.out hw') HROW.out); obtain ⟨d0, d1, d2, d3, d4, d5⟩ := hq6)
    go_simp
    with_reducible rfl
  simp only [Act.put, List.setIfInBounds_toArray, List.set_cons_zero, List.set_cons_succ]
  -- 15: slot 18
  refine wpG_take preGr (i := 15) (v := ?_) (by kernel_rfl) (some 18) (by kernel_rfl) rfl (by kernel_rfl) (by kernel_rfl) (by kernel_rfl) (fun _ _ _ h => h) (by rfl) (fun w' hw' => ?_) rfl ?_
  rotate_left
  · try (have hq2 := cells2 (heap_gr (Gr.trans HC.out hw') HBOTH.out); obtain ⟨k0, k1⟩ := hq2; have hq6 := cells6 (heap_gr (Gr.trans HC.out hw') HROW.out); obtain ⟨d0, d1, d2, d3, d4, d5⟩ := hq6)
    go_simp
    with_reducible rfl
  simp only [Act.put, List.setIfInBounds_toArray, List.set_cons_zero, List.set_cons_succ]
  -- 17: slot 20
  refine wpG_take preGr (i := 17) (v := ?_) (by kernel_rfl) (some 20) (by kernel_rfl) rfl (by kernel_rfl) (by kernel_rfl) (by kernel_rfl) (fun _ _ _ h => h) (by rfl) (fun w' hw' => ?_) rfl ?_
  rotate_left
  · try (have hq2 := cells2 (heap_gr (Gr.trans HC.out hw') HBOTH.out); obtain ⟨k0, k1⟩ := hq2; have hq6 := cells6 (heap_gr (Gr.trans HC.out hw') HROW.out); obtain ⟨d0, d1, d2, d3, d4, d5⟩ := hq6)
    go_simp
    with_reducible rfl
  simp only [Act.put, List.setIfInBounds_toArray, List.set_cons_zero, List.set_cons_succ]
  -- 18: slot 21
  refine wpG_take preGr (i := 18) (v := ?_) (by kernel_rfl) (some 21) (by kernel_rfl) rfl (by kernel_rfl) (by kernel_rfl) (by kernel_rfl) (fun _ _ _ h => h) (by rfl) (fun w' hw' => ?_) rfl ?_
  rotate_left
  · try (have hq2 := cells2 (heap_gr (Gr.trans HC.out hw') HBOTH.out); obtain ⟨k0, k1⟩ := hq2; have hq6 := cells6 (heap_gr (Gr.trans HC.out hw') HROW.out); obtain ⟨d0, d1, d2, d3, d4, d5⟩ := hq6)
    go_simp
    with_reducible rfl
  simp only [Act.put, List.setIfInBounds_toArray, List.set_cons_zero, List.set_cons_succ]
  -- 19: slot 22
  refine wpG_take preGr (i := 19) (v := ?_) (by kernel_rfl) (some 22) (by kernel_rfl) rfl (by kernel_rfl) (by kernel_rfl) (by kernel_rfl) (fun _ _ _ h => h) (by rfl) (fun w' hw' => ?_) rfl ?_
  rotate_left
  · try (have hq2 := cells2 (heap_gr (Gr.trans HC.out hw') HBOTH.out); obtain ⟨k0, k1⟩ := hq2; have hq6 := cells6 (heap_gr (Gr.trans HC.out hw') HROW.out); obtain ⟨d0, d1, d2, d3, d4, d5⟩ := hq6)
    go_simp
    with_reducible rfl
  simp only [Act.put, List.setIfInBounds_toArray, List.set_cons_zero, List.set_cons_succ]
  -- 20: slot 23
  refine wpG_take preGr (i := 20) (v := ?_) (by kernel_rfl) (some 23) (by kernel_rfl) rfl (by kernel_rfl) (by kernel_rfl) (by kernel_rfl) (fun _ _ _ h => h) (by rfl) (fun w' hw' => ?_) rfl ?_
  rotate_left
  · try (have hq2 := cells2 (heap_gr (Gr.trans HC.out hw') HBOTH.out); obtain ⟨k0, k1⟩ := hq2; have hq6 := cells6 (heap_gr (Gr.trans HC.out hw') HROW.out); obtain ⟨d0, d1, d2, d3, d4, d5⟩ := hq6)
    go_simp
    with_reducible rfl
  simp only [Act.put, List.setIfInBounds_toArray, List.set_cons_zero, List.set_cons_succ]
  -- 21: slot 24
  refine wpG_take preGr (i := 21) (v := ?_) (by kernel_rfl) (some 24) (by kernel_rfl) rfl (by kernel_rfl) (by kernel_rfl) (by kernel_rfl) (fun _ _ _ h => h) (by rfl) (fun w' hw' => ?_) rfl ?_
  rotate_left
  · try (have hq2 := cells2 (heap_gr (Gr.trans HC.out hw') HBOTH.out); obtain ⟨k0, k1⟩ := hq2; have hq6 := cells6 (heap_gr (Gr.trans HC.out hw') HROW.out); obtain ⟨d0, d1, d2, d3, d4, d5⟩ := hq6)
    go_simp
    with_reducible rfl
  simp only [Act.put, List.setIfInBounds_toArray, List.set_cons_zero, List.set_cons_succ]
  -- 22: slot 25
  refine wpG_take preGr (i := 22) (v := ?_) (by kernel_rfl) (some 25) (by kernel_rfl) rfl (by kernel_rfl) (by kernel_rfl) (by kernel_rfl) (fun _ _ _ h => h) (by rfl) (fun w' hw' => ?_) rfl ?_
  rotate_left
  · try (have hq2 := cells2 (heap_gr (Gr.trans HC.out hw') HBOTH.out); obtain ⟨k0, k1⟩ := hq2; have hq6 := cells6 (heap_gr (Gr.trans HC.out hw') HROW.out); obtain ⟨d0, d1, d2, d3, d4, d5⟩ := hq6)
    go_simp
    with_reducible rfl
  simp only [Act.put, List.setIfInBounds_toArray, List.set_cons_zero, List.set_cons_succ]
  -- 23: slot 26
  refine wpG_take preGr (i := 23) (v := ?_) (by kernel_rfl) (some 26) (by kernel_rfl) rfl (by kernel_rfl) (by kernel_rfl) (by kernel_rfl) (fun _ _ _ h => h) (by rfl) (fun w' hw' => ?_) rfl ?_
  rotate_left
  · try (have hq2 := cells2 (heap_gr (Gr.trans HC.out hw') HBOTH.out); obtain ⟨k0, k1⟩ := hq2; have hq6 := cells6 (heap_gr (Gr.trans HC.out hw') HROW.out); obtain ⟨d0, d1, d2, d3, d4, d5⟩ := hq6)
    go_simp
    with_reducible rfl
  simp only [Act.put, List.setIfInBounds_toArray, List.set_cons_zero, List.set_cons_succ]
  refine wpG_one (i := 16) rfl (by kernel_rfl) (by rfl) ?_
  go_simp
  refine (HK4.out wc HC.out).mono ?_
  rintro e wn ⟨A3, C3, rfl, hr, hb⟩
  refine ⟨hb, ?_⟩
  have HR3 := Lib.hid hr
  have HC' : Hid (Gr w wn) := Gr.trans HC.out hb
  clear HC hb hr
  have HC := HC'
  clear HC'
  obtain ⟨wc, hwc⟩ : ∃ x, x = wn := ⟨_, rfl⟩
  subst hwc
  try simp only [Act.put, List.setIfInBounds_toArray, List.set_cons_zero, List.set_cons_succ]
  refine wpG_one (i := 24) rfl (by kernel_rfl) (by rfl) ?_
  go_simp
  refine (HK5.out wc A3 C3 eA eC HR3.out (Rd.below HE.out HC.out)).mono ?_
  rintro e wn ⟨rfl, hb⟩
  refine ⟨hb, ?_⟩
  have HC' : Hid (Gr w wn) := Gr.trans HC.out hb
  clear HC hb HR3
  have HC := HC'
  clear HC'
  obtain ⟨wc, hwc⟩ : ∃ x, x = wn := ⟨_, rfl⟩
  subst hwc
  try simp only [Act.put, List.setIfInBounds_toArray, List.set_cons_zero, List.set_cons_succ]
  -- 25: slot 28
  refine wpG_take preGr (i := 25) (v := ?_) (by kernel_rfl) (some 28) (by kernel_rfl) rfl (by kernel_rfl) (by kernel_rfl) (by kernel_rfl) (fun _ _ _ h => h) (by rfl) (fun w' hw' => ?_) rfl ?_
  rotate_left
  · try (have hq2 := cells2 (heap_gr (Gr.trans HC.out hw') HBOTH.out); obtain ⟨k0, k1⟩ := hq2; have hq6 := cells6 (heap_gr (Gr.trans HC.out hw') HROW.out); obtain ⟨d0, d1, d2, d3, d4, d5⟩ := hq6)
    go_simp
    with_reducible rfl
  simp only [Act.put, List.setIfInBounds_toArray, List.set_cons_zero, List.set_cons_succ]
  -- 26: slot 29
  refine wpG_take preGr (i := 26) (v := ?_) (by kernel_rfl) (some 29) (by kernel_rfl) rfl (by kernel_rfl) (by kernel_rfl) (by kernel_rfl) (fun _ _ _ h => h) (by rfl) (fun w' hw' => ?_) rfl ?_
  rotate_left
  · try (have hq2 := cells2 (heap_gr (Gr.trans HC.out hw') HBOTH.out); obtain ⟨k0, k1⟩ := hq2; have hq6 := cells6 (heap_gr (Gr.trans HC.out hw') HROW.out); obtain ⟨d0, d1, d2, d3, d4, d5⟩ := hq6)
    go_simp
    with_reducible rfl
  simp only [Act.put, List.setIfInBounds_toArray, List.set_cons_zero, List.set_cons_succ]
  -- 27: slot 30
  refine wpG_take preGr (i := 27) (v := ?_) (by kernel_rfl) (some 30) (by kernel_rfl) rfl (by kernel_rfl) (by kernel_rfl) (by kernel_rfl) (fun _ _ _ h => h) (by rfl) (fun w' hw' => ?_) rfl ?_
  rotate_left
  · try (have hq2 := cells2 (heap_gr (Gr.trans HC.out hw') HBOTH.out); obtain ⟨k0, k1⟩ := hq2; have hq6 := cells6 (heap_gr (Gr.trans HC.out hw') HROW.out); obtain ⟨d0, d1, d2, d3, d4, d5⟩ := hq6)
    go_simp
    with_reducible rfl
  simp only [Act.put, List.setIfInBounds_toArray, List.set_cons_zero, List.set_cons_succ]
  -- 28: slot 31
  refine wpG_take preGr (i := 28) (v := ?_) (by kernel_rfl) (some 31) (by kernel_rfl) rfl (by kernel_rfl) (by kernel_rfl) (by kernel_rfl) (fun _ _ _ h => h) (by rfl) (fun w' hw' => ?_) rfl ?_
  rotate_left
  · try (have hq2 := cells2 (heap_gr (Gr.trans HC.out hw') HBOTH.out); obtain ⟨k0, k1⟩ := hq2; have hq6 := cells6 (heap_gr (Gr.trans HC.out hw') HROW.out); obtain ⟨d0, d1, d2, d3, d4, d5⟩ := hq6)
    go_simp
    with_reducible rfl
  simp only [Act.put, List.setIfInBounds_toArray, List.set_cons_zero, List.set_cons_succ]
  -- 29: slot 32
  refine wpG_take preGr (i := 29) (v := ?_) (by kernel_rfl) (some 32) (by kernel_rfl) rfl (by kernel_rfl) (by kernel_rfl) (by kernel_rfl) (fun _ _ _ h => h) (by rfl) (fun w' hw' => ?_) rfl ?_
  rotate_left
  · try (have hq2 := cells2 (heap_gr (Gr.trans HC.out hw') HBOTH.out); obtain ⟨k0, k1⟩ := hq2; have hq6 := cells6 (heap_gr (Gr.trans HC.out hw') HROW.out); obtain ⟨d0, d1, d2, d3, d4, d5⟩ := hq6)
    go_simp
    with_reducible rfl
  simp only [Act.put, List.setIfInBounds_toArray, List.set_cons_zero, List.set_cons_succ]
  -- 30: slot 33
  refine wpG_take preGr (i := 30) (v := ?_) (by kernel_rfl) (some 33) (by kernel_rfl) rfl (by kernel_rfl) (by kernel_rfl) (by kernel_rfl) (fun _ _ _ h => h) (by rfl) (fun w' hw' => ?_) rfl ?_
  rotate_left
  · try (have hq2 := cells2 (heap_gr (Gr.trans HC.out hw') HBOTH.out); obtain ⟨k0, k1⟩ := hq2; have hq6 := cells6 (heap_gr (Gr.trans HC.out hw') HROW.out); obtain ⟨d0, d1, d2, d3, d4, d5⟩ := hq6)
    go_simp
    with_reducible rfl
  simp only [Act.put, List.setIfInBounds_toArray, List.set_cons_zero, List.set_cons_succ]
  -- 32: slot 35
  refine wpG_take preGr (i := 32) (v := ?_) (by kernel_rfl) (some 35) (by kernel_rfl) rfl (by kernel_rfl) (by kernel_rfl) (by kernel_rfl) (fun _ _ _ h => h) (by rfl) (fun w' hw' => ?_) rfl ?_
  rotate_left
  · try (have hq2 := cells2 (heap_gr (Gr.trans HC.out hw') HBOTH.out); obtain ⟨k0, k1⟩ := hq2; have hq6 := cells6 (heap_gr (Gr.trans HC.out hw') HROW.out); obtain ⟨d0, d1, d2, d3, d4, d5⟩ := hq6)
    go_simp
    with_reducible rfl
  simp only [Act.put, List.setIfInBounds_toArray, List.set_cons_zero, List.set_cons_succ]
  -- 33: slot 36
  refine wpG_take preGr (i := 33) (v := ?_) (by kernel_rfl) (some 36) (by kernel_rfl) rfl (by kernel_rfl) (by kernel_rfl) (by kernel_rfl) (fun _ _ _ h => h) (by rfl) (fun w' hw' => ?_) rfl ?_
  rotate_left
  · try (have hq2 := cells2 (heap_gr (Gr.trans HC.out hw') HBOTH.out); obtain ⟨k0, k1⟩ := hq2; have hq6 := cells6 (heap_gr (Gr.trans HC.out hw') HROW.out); obtain ⟨d0, d1, d2, d3, d4, d5⟩ := hq6)
    go_simp
    with_reducible rfl
  simp only [Act.put, List.setIfInBounds_toArray, List.set_cons_zero, List.set_cons_succ]
  -- 34: slot 37
  refine wpG_take preGr (i := 34) (v := ?_) (by kernel_rfl) (some 37) (by kernel_rfl) rfl (by kernel_rfl) (by kernel_rfl) (by kernel_rfl) (fun _ _ _ h => h) (by rfl) (fun w' hw' => ?_) rfl ?_
  rotate_left
  · try (have hq2 := cells2 (heap_gr (Gr.trans HC.out hw') HBOTH.out); obtain ⟨k0, k1⟩ := hq2; have hq6 := cells6 (heap_gr (Gr.trans HC.out hw') HROW.out); obtain ⟨d0, d1, d2, d3, d4, d5⟩ := hq6)
    go_simp
    with_reducible rfl
  simp only [Act.put, List.setIfInBounds_toArray, List.set_cons_zero, List.set_cons_succ]
  -- 35: slot 38
  refine wpG_take preGr (i := 35) (v := ?_) (by kernel_rfl) (some 38) (by kernel_rfl) rfl (by kernel_rfl) (by kernel_rfl) (by kernel_rfl) (fun _ _ _ h => h) (by rfl) (fun w' hw' => ?_) rfl ?_
  rotate_left
  · try (have hq2 := cells2 (heap_gr (Gr.trans HC.out hw') HBOTH.out); obtain ⟨k0, k1⟩ := hq2; have hq6 := cells6 (heap_gr (Gr.trans HC.out hw') HROW.out); obtain ⟨d0, d1, d2, d3, d4, d5⟩ := hq6)
    go_simp
    with_reducible rfl
  simp only [Act.put, List.setIfInBounds_toArray, List.set_cons_zero, List.set_cons_succ]
  -- 36: slot 39
  refine wpG_take preGr (i := 36) (v := ?_) (by kernel_rfl) (some 39) (by kernel_rfl) rfl (by kernel_rfl) (by kernel_rfl) (by kernel_rfl) (fun _ _ _ h => h) (by rfl) (fun w' hw' => ?_) rfl ?_
  rotate_left
  · try (have hq2 := cells2 (heap_gr (Gr.trans HC.out hw') HBOTH.out); obtain ⟨k0, k1⟩ := hq2; have hq6 := cells6 (heap_gr (Gr.trans HC.out hw') HROW.out); obtain ⟨d0, d1, d2, d3, d4, d5⟩ := hq6)
    go_simp
    with_reducible rfl
  simp only [Act.put, List.setIfInBounds_toArray, List.set_cons_zero, List.set_cons_succ]
  -- 37: slot 40
  refine wpG_take preGr (i := 37) (v := ?_) (by kernel_rfl) (some 40) (by kernel_rfl) rfl (by kernel_rfl) (by kernel_rfl) (by kernel_rfl) (fun _ _ _ h => h) (by rfl) (fun w' hw' => ?_) rfl ?_
  rotate_left
  · try (have hq2 := cells2 (heap_gr (Gr.trans HC.out hw') HBOTH.out); obtain ⟨k0, k1⟩ := hq2; have hq6 := cells6 (heap_gr (Gr.trans HC.out hw') HROW.out); obtain ⟨d0, d1, d2, d3, d4, d5⟩ := hq6)
    go_simp
    with_reducible rfl
  simp only [Act.put, List.setIfInBounds_toArray, List.set_cons_zero, List.set_cons_succ]
  -- 38: slot 41
  refine wpG_take preGr (i := 38) (v := ?_) (by kernel_rfl) (some 41) (by kernel_rfl) rfl (by kernel_rfl) (by kernel_rfl) (by kernel_rfl) (fun _ _ _ h => h) (by rfl) (fun w' hw' => ?_) rfl ?_
  rotate_left
  · try (have hq2 := cells2 (heap_gr (Gr.trans HC.out hw') HBOTH.out); obtain ⟨k0, k1⟩ := hq2; have hq6 := cells6 (heap_gr (Gr.trans HC.out hw') HROW.out); obtain ⟨d0, d1, d2, d3, d4, d5⟩ := hq6)
    go_simp
    with_reducible rfl
  simp only [Act.put, List.setIfInBounds_toArray, List.set_cons_zero, List.set_cons_succ]
  -- 39: slot 42
  refine wpG_take preGr (i := 39) (v := ?_) (by kernel_rfl) (some 42) (by kernel_rfl) rfl (by kernel_rfl) (by kernel_rfl) (by kernel_rfl) (fun _ _ _ h => h) (by rfl) (fun w' hw' => ?_) rfl ?_
  rotate_left
  · try (have hq2 := cells2 (heap_gr (Gr.trans HC.out hw') HBOTH.out); obtain ⟨k0, k1⟩ := hq2; have hq6 := cells6 (heap_gr (Gr.trans HC.out hw') HROW.out); obtain ⟨d0, d1, d2, d3, d4, d5⟩ := hq6)
    go_simp
    with_reducible rfl
  simp only [Act.put, List.setIfInBounds_toArray, List.set_cons_zero, List.set_cons_succ]
  -- 40: slot 43
  refine wpG_take preGr (i := 40) (v := ?_) (by kernel_rfl) (some 43) (by kernel_rfl) rfl (by kernel_rfl) (by kernel_rfl) (by kernel_rfl) (fun _ _ _ h => h) (by rfl) (fun w' hw' => ?_) rfl ?_
  rotate_left
  · try (have hq2 := cells2 (heap_gr (Gr.trans HC.out hw') HBOTH.out); obtain ⟨k0, k1⟩ := hq2; have hq6 := cells6 (heap_gr (Gr.trans HC.out hw') HROW.out); obtain ⟨d0, d1, d2, d3, d4, d5⟩ := hq6)
    go_simp
    with_reducible rfl
  simp only [Act.put, List.setIfInBounds_toArray, List.set_cons_zero, List.set_cons_succ]
  -- 41: slot 44
  refine wpG_take preGr (i := 41) (v := ?_) (by kernel_rfl) (some 44) (by kernel_rfl) rfl (by kernel_rfl) (by kernel_rfl) (by kernel_rfl) (fun _ _ _ h => h) (by rfl) (fun w' hw' => ?_) rfl ?_
  rotate_left
  · try (have hq2 := cells2 (heap_gr (Gr.trans HC.out hw') HBOTH.out); obtain ⟨k0, k1⟩ := hq2; have hq6 := cells6 (heap_gr (Gr.trans HC.out hw') HROW.out); obtain ⟨d0, d1, d2, d3, d4, d5⟩ := hq6)
    go_simp
    with_reducible rfl
  simp only [Act.put, List.setIfInBounds_toArray, List.set_cons_zero, List.set_cons_succ]
  -- 42: slot 45
  refine wpG_take preGr (i := 42) (v := ?_) (by kernel_rfl) (some 45) (by kernel_rfl) rfl (by kernel_rfl) (by kernel_rfl) (by kernel_rfl) (fun _ _ _ h => h) (by rfl) (fun w' hw' => ?_) rfl ?_
  rotate_left
  · try (have hq2 := cells2 (heap_gr (Gr.trans HC.out hw') HBOTH.out); obtain ⟨k0, k1⟩ := hq2; have hq6 := cells6 (heap_gr (Gr.trans HC.out hw') HROW.out); obtain ⟨d0, d1, d2, d3, d4, d5⟩ := hq6)
    go_simp
    with_reducible rfl
  simp only [Act.put, List.setIfInBounds_toArray, List.set_cons_zero, List.set_cons_succ]
  -- 43: slot 46
  refine wpG_take preGr (i := 43) (v := ?_) (by kernel_rfl) (some 46) (by kernel_rfl) rfl (by kernel_rfl) (by kernel_rfl) (by kernel_rfl) (fun _ _ _ h => h) (by rfl) (fun w' hw' => ?_) rfl ?_
  rotate_left
  · try (have hq2 := cells2 (heap_gr (Gr.trans HC.out hw') HBOTH.out); obtain ⟨k0, k1⟩ := hq2; have hq6 := cells6 (heap_gr (Gr.trans HC.out hw') HROW.out); obtain ⟨d0, d1, d2, d3, d4, d5⟩ := hq6)
    go_simp
    with_reducible rfl
  simp only [Act.put, List.setIfInBounds_toArray, List.set_cons_zero, List.set_cons_succ]
  -- 44: slot 47
  refine wpG_take preGr (i := 44) (v := ?_) (by kernel_rfl) (some 47) (by kernel_rfl) rfl (by kernel_rfl) (by kernel_rfl) (by kernel_rfl) (fun _ _ _ h => h) (by rfl) (fun w' hw' => ?_) rfl ?_
  rotate_left
  · try (have hq2 := cells2 (heap_gr (Gr.trans HC.out hw') HBOTH.out); obtain ⟨k0, k1⟩ := hq2; have hq6 := cells6 (heap_gr (Gr.trans HC.out hw') HROW.out); obtain ⟨d0, d1, d2, d3, d4, d5⟩ := hq6)
    go_simp
    with_reducible rfl
  simp only [Act.put, List.setIfInBounds_toArray, List.set_cons_zero, List.set_cons_succ]
  -- 45: slot 48
  refine wpG_take preGr (i := 45) (v := ?_) (by kernel_rfl) (some 48) (by kernel_rfl) rfl (by kernel_rfl) (by kernel_rfl) (by kernel_rfl) (fun _ _ _ h => h) (by rfl) (fun w' hw' => ?_) rfl ?_
  rotate_left
  · try (have hq2 := cells2 (heap_gr (Gr.trans HC.out hw') HBOTH.out); obtain ⟨k0, k1⟩ := hq2; have hq6 := cells6 (heap_gr (Gr.trans HC.out hw') HROW.out); obtain ⟨d0, d1, d2, d3, d4, d5⟩ := hq6)
    go_simp
    with_reducible rfl
  simp only [Act.put, List.setIfInBounds_toArray, List.set_cons_zero, List.set_cons_succ]
  -- 46: slot 49
  refine wpG_take preGr (i := 46) (v := ?_) (by kernel_rfl) (some 49) (by kernel_rfl) rfl (by kernel_rfl) (by kernel_rfl) (by kernel_rfl) (fun _ _ _ h => h) (by rfl) (fun w' hw' => ?_) rfl ?_
  rotate_left
  · try (have hq2 := cells2 (heap_gr (Gr.trans HC.out hw') HBOTH.out); obtain ⟨k0, k1⟩ := hq2; have hq6 := cells6 (heap_gr (Gr.trans HC.out hw') HROW.out); obtain ⟨d0, d1, d2, d3, d4, d5⟩ := hq6)
    go_simp
    with_reducible rfl
  simp only [Act.put, List.setIfInBounds_toArray, List.set_cons_zero, List.set_cons_succ]
  -- 47: slot 50
  refine wpG_take preGr (i := 47) (v := ?_) (by kernel_rfl) (some 50) (by kernel_rfl) rfl (by kernel_rfl) (by kernel_rfl) (by kernel_rfl) (fun _ _ _ h => h) (by rfl) (fun w' hw' => ?_) rfl ?_
  rotate_left
  · try (have hq2 := cells2 (heap_gr (Gr.trans HC.out hw') HBOTH.out); obtain ⟨k0, k1⟩ := hq2; have hq6 := cells6 (heap_gr (Gr.trans HC.out hw') HROW.out); obtain ⟨d0, d1, d2, d3, d4, d5⟩ := hq6)
    go_simp
    with_reducible rfl
  simp only [Act.put, List.setIfInBounds_toArray, List.set_cons_zero, List.set_cons_succ]
  refine wpG_one (i := 31) rfl (by kernel_rfl) (by rfl) ?_
  go_simp
  refine (HK6.out wc HC.out).mono ?_
  rintro e wn ⟨rfl, rfl⟩
  refine ⟨Gr.refl _, ?_⟩
  try simp only [Act.put, List.setIfInBounds_toArray, List.set_cons_zero, List.set_cons_succ]
  -- 48: slot 51
  refine wpG_take preGr (i := 48) (v := ?_) (by kernel_rfl) (some 51) (by kernel_rfl) rfl (by kernel_rfl) (by kernel_rfl) (by kernel_rfl) (fun _ _ _ h => h) (by rfl) (fun w' hw' => ?_) rfl ?_
  rotate_left
  · try (have hq2 := cells2 (heap_gr (Gr.trans HC.out hw') HBOTH.out); obtain ⟨k0, k1⟩ := hq2; have hq6 := cells6 (heap_gr (Gr.trans HC.out hw') HROW.out); obtain ⟨d0, d1, d2, d3, d4, d5⟩ := hq6)
    go_simp
    with_reducible rfl
  simp only [Act.put, List.setIfInBounds_toArray, List.set_cons_zero, List.set_cons_succ]
  -- 49: slot 52
  refine wpG_take preGr (i := 49) (v := ?_) (by kernel_rfl) (some 52) (by kernel_rfl) rfl (by kernel_rfl) (by kernel_rfl) (by kernel_rfl) (fun _ _ _ h => h) (by rfl) (fun w' hw' => ?_) rfl ?_
  rotate_left
  · try (have hq2 := cells2 (heap_gr (Gr.trans HC.out hw') HBOTH.out); obtain ⟨k0, k1⟩ := hq2; have hq6 := cells6 (heap_gr (Gr.trans HC.out hw') HROW.out); obtain ⟨d0, d1, d2, d3, d4, d5⟩ := hq6)
    go_simp
    with_reducible rfl
  simp only [Act.put, List.setIfInBounds_toArray, List.set_cons_zero, List.set_cons_succ]
  -- 50: slot 2
  refine wpG_take preGr (i := 50) (v := ?_) (by kernel_rfl) (some 2) (by kernel_rfl) rfl (by kernel_rfl) (by kernel_rfl) (by kernel_rfl) (fun _ _ _ h => h) (by rfl) (fun w' hw' => ?_) rfl ?_
  rotate_left
  · try (have hq2 := cells2 (heap_gr (Gr.trans HC.out hw') HBOTH.out); obtain ⟨k0, k1⟩ := hq2; have hq6 := cells6 (heap_gr (Gr.trans HC.out hw') HROW.out); obtain ⟨d0, d1, d2, d3, d4, d5⟩ := hq6)
    go_simp
    with_reducible rfl
  simp only [Act.put, List.setIfInBounds_toArray, List.set_cons_zero, List.set_cons_succ]
  refine wpG_done (by kernel_rfl) ?_ _
  go_wp2_with fail
  go_ret
  exact ⟨rfl, HX.out.gr HC.out⟩
end Go.Proofs.Ytpafcabcnkmadaa.Id
