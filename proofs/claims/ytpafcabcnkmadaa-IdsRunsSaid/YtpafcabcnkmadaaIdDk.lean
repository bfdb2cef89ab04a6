/-
  step: a call of both (Take, Free, none).
-/
import Derived.Test.YtpafcabcnkmadaaIdDj
namespace Go.Proofs.Ytpafcabcnkmadaa.Id
open Go.RowKit
set_option linter.unusedVariables false
set_option linter.unusedSimpArgs false

set_option maxRecDepth 20000 in
set_option maxHeartbeats 4000000 in
theorem step_1 {W : World} {gb g gd : Nat} {m : Am} {rv uv ev : Value} {S : Al} (id x : Int) (w : World) (h : BR W w gb g gd m rv uv ev S S) (hl : S.high - S.low ≤ 12) :
    Calls Try.prog 11 #[.pointer (some ⟨gb, 0, none⟩), .agg #[.int .i64 1, .int .i64 id, .int .i64 x]] w fun e w' => e = .returned (.bool true) ∧ BX W w' gb S.low S.high := by
  have HSM := Lib.hid (h.la.al.ok.small hl)
  have HTK := Lib.hid (take_ok h.la.al.ok x)
  obtain ⟨bo, hbo⟩ : ∃ bo, bo = w.heap.size := ⟨_, rfl⟩
  have hq := BQ.begin #[.int .i64 1, .int .i64 id, .int .i64 x] h
  rw [← hbo] at hq
  obtain ⟨w1, hw1⟩ : ∃ w1, w1 = w.alloc (.cells #[.int .i64 1, .int .i64 id, .int .i64 x] 29) := ⟨_, rfl⟩
  have HW1 := Lib.hid hw1
  have HBO := Lib.hid hbo
  rw [← hw1] at hq
  have HQ := Lib.hid hq
  obtain ⟨T, hT⟩ : ∃ T, T = (take S x).1 := ⟨_, rfl⟩
  obtain ⟨r1, hr1⟩ : ∃ r1, r1 = (take S x).2.1 := ⟨_, rfl⟩
  obtain ⟨r2, hr2⟩ : ∃ r2, r2 = (take S x).2.2 := ⟨_, rfl⟩
  have HT1 : Hid (∀ w', Gr w1 w' → Calls Try.prog 14 #[.pointer (some ⟨g, 0, none⟩), .int .i64 x] w' fun e w' => e = .returned (.tuple #[.int .i64 r1, .int .i64 r2]) ∧ ∃ m', BQ W w' gb g gd m' rv uv ev T S bo #[.int .i64 1, .int .i64 id, .int .i64 x]) := fun w' hw' => by
    rw [hr1, hr2, hT]; exact (hq.gr hw').otake x
  have HT2 : Hid (∀ w' m', BQ W w' gb g gd m' rv uv ev T S bo #[.int .i64 1, .int .i64 id, .int .i64 x] → Calls Try.prog 24 #[.pointer (some ⟨gd, 0, none⟩), .int .i64 x] w' fun e w' => e = .returned (.tuple #[.int .i64 r1, .int .i64 r2]) ∧ ∃ rv' uv' ev', BQ W w' gb g gd m' rv' uv' ev' T T bo #[.int .i64 1, .int .i64 id, .int .i64 x]) := fun w' m' hw' => by
    have h1 := hw'.dtake HSM.out x
    rw [hr1, hr2]
    rw [← hT] at h1
    exact h1
  have HLH : Hid (T.low = S.low ∧ T.high = S.high) := by show _ ∧ _; rw [hT]; exact ⟨HTK.out.2.1, HTK.out.2.2.1⟩
  clear h hl hq hT hr1 hr2 hbo hw1 HTK HSM
  go_enter Try.func11, Try.ntmps11
  go_upto_region 1 with fail
  rw [← HW1.out, ← HBO.out]
  obtain ⟨c0, c1, c2⟩ := cells3 HQ.out.box
  go_upto_region 4 with fail
  have HC : Hid (Gr w1 w1.drew) := Gr.drew w1
  refine wp_region_H 6 Gr Any (by kernel_rfl) ?_
  generalize w1.drew = wc at HC ⊢
  -- 0: slot 16
  refine wpH_take preGr preAny (i := 0) (v := ?_) (by kernel_rfl) (some 16) (by kernel_rfl) rfl (by kernel_rfl) (by kernel_rfl) (by kernel_rfl) (fun _ _ _ h => h) (by rfl) (fun w' hw' => ?_) rfl ?_
  rotate_left
  · try (have hxx := HQ.out.gr (Gr.trans HC.out hw'); have hq2 := cells2 hxx.br.both; obtain ⟨k0, k1⟩ := hq2; have hq3 := cells3 hxx.box; obtain ⟨c0, c1, c2⟩ := hq3; clear hxx)
    go_simp
    with_reducible rfl
  simp only [Act.put, List.setIfInBounds_toArray, List.set_cons_zero, List.set_cons_succ]
  -- 1: slot 17
  refine wpH_take preGr preAny (i := 1) (v := ?_) (by kernel_rfl) (some 17) (by kernel_rfl) rfl (by kernel_rfl) (by kernel_rfl) (by kernel_rfl) (fun _ _ _ h => h) (by rfl) (fun w' hw' => ?_) rfl ?_
  rotate_left
  · try (have hxx := HQ.out.gr (Gr.trans HC.out hw'); have hq2 := cells2 hxx.br.both; obtain ⟨k0, k1⟩ := hq2; have hq3 := cells3 hxx.box; obtain ⟨c0, c1, c2⟩ := hq3; clear hxx)
    go_simp
    with_reducible rfl
  simp only [Act.put, List.setIfInBounds_toArray, List.set_cons_zero, List.set_cons_succ]
  -- 2: slot 18
  refine wpH_take preGr preAny (i := 2) (v := ?_) (by kernel_rfl) (some 18) (by kernel_rfl) rfl (by kernel_rfl) (by kernel_rfl) (by kernel_rfl) (fun _ _ _ h => h) (by rfl) (fun w' hw' => ?_) rfl ?_
  rotate_left
  · try (have hxx := HQ.out.gr (Gr.trans HC.out hw'); have hq2 := cells2 hxx.br.both; obtain ⟨k0, k1⟩ := hq2; have hq3 := cells3 hxx.box; obtain ⟨c0, c1, c2⟩ := hq3; clear hxx)
    go_simp
    with_reducible rfl
  simp only [Act.put, List.setIfInBounds_toArray, List.set_cons_zero, List.set_cons_succ]
  -- 3: slot 19
  refine wpH_take preGr preAny (i := 3) (v := ?_) (by kernel_rfl) (some 19) (by kernel_rfl) rfl (by kernel_rfl) (by kernel_rfl) (by kernel_rfl) (fun _ _ _ h => h) (by rfl) (fun w' hw' => ?_) rfl ?_
  rotate_left
  · try (have hxx := HQ.out.gr (Gr.trans HC.out hw'); have hq2 := cells2 hxx.br.both; obtain ⟨k0, k1⟩ := hq2; have hq3 := cells3 hxx.box; obtain ⟨c0, c1, c2⟩ := hq3; clear hxx)
    go_simp
    with_reducible rfl
  simp only [Act.put, List.setIfInBounds_toArray, List.set_cons_zero, List.set_cons_succ]
  -- 4: slot 20
  refine wpH_take preGr preAny (i := 4) (v := ?_) (by kernel_rfl) (some 20) (by kernel_rfl) rfl (by kernel_rfl) (by kernel_rfl) (by kernel_rfl) (fun _ _ _ h => h) (by rfl) (fun w' hw' => ?_) rfl ?_
  rotate_left
  · try (have hxx := HQ.out.gr (Gr.trans HC.out hw'); have hq2 := cells2 hxx.br.both; obtain ⟨k0, k1⟩ := hq2; have hq3 := cells3 hxx.box; obtain ⟨c0, c1, c2⟩ := hq3; clear hxx)
    go_simp
    with_reducible rfl
  simp only [Act.put, List.setIfInBounds_toArray, List.set_cons_zero, List.set_cons_succ]
  -- 5: slot 21
  refine wpH_take preGr preAny (i := 5) (v := ?_) (by kernel_rfl) (some 21) (by kernel_rfl) rfl (by kernel_rfl) (by kernel_rfl) (by kernel_rfl) (fun _ _ _ h => h) (by rfl) (fun w' hw' => ?_) rfl ?_
  rotate_left
  · try (have hxx := HQ.out.gr (Gr.trans HC.out hw'); have hq2 := cells2 hxx.br.both; obtain ⟨k0, k1⟩ := hq2; have hq3 := cells3 hxx.box; obtain ⟨c0, c1, c2⟩ := hq3; clear hxx)
    go_simp
    with_reducible rfl
  simp only [Act.put, List.setIfInBounds_toArray, List.set_cons_zero, List.set_cons_succ]
  refine wpH_tail (i := 6) (by decide) rfl (by kernel_rfl) (by rfl) ?_
  go_simp
  refine (HT1.out wc HC.out).mono ?_
  rintro e w5 ⟨rfl, m5, hq5⟩
  refine ⟨trivial, ?_⟩
  have HQ5 := Lib.hid hq5
  clear hq5
  try simp only [Act.put, List.setIfInBounds_toArray, List.set_cons_zero, List.set_cons_succ]
  refine wpH_tail (i := 7) (by decide) rfl (by kernel_rfl) (by rfl) ?_
  go_simp
  refine ⟨(pre_refl preAny _), ?_⟩
  try simp only [Act.put, List.setIfInBounds_toArray, List.set_cons_zero, List.set_cons_succ]
  -- 8: slot 23
  refine wpH_takeH preGr preAny (i := 8) (v := ?_) (some 23) (by kernel_rfl) rfl (by kernel_rfl) (by kernel_rfl) (by kernel_rfl) (fun _ _ _ h => h) (by rfl) (fun w' hw' => ?_) rfl ?_
  rotate_left
  · go_simp
    with_reducible rfl
  simp only [Act.put, List.setIfInBounds_toArray, List.set_cons_zero, List.set_cons_succ]
  -- 9: slot 24
  refine wpH_takeH preGr preAny (i := 9) (v := ?_) (some 24) (by kernel_rfl) rfl (by kernel_rfl) (by kernel_rfl) (by kernel_rfl) (fun _ _ _ h => h) (by rfl) (fun w' hw' => ?_) rfl ?_
  rotate_left
  · go_simp
    with_reducible rfl
  simp only [Act.put, List.setIfInBounds_toArray, List.set_cons_zero, List.set_cons_succ]
  refine wpH_tail (i := 10) (by decide) rfl (by kernel_rfl) (by rfl) ?_
  go_simp
  refine ⟨(pre_refl preAny _), ?_⟩
  try simp only [Act.put, List.setIfInBounds_toArray, List.set_cons_zero, List.set_cons_succ]
  refine wpH_tail (i := 11) (by decide) rfl (by kernel_rfl) (by rfl) ?_
  go_simp
  refine ⟨(pre_refl preAny _), ?_⟩
  try simp only [Act.put, List.setIfInBounds_toArray, List.set_cons_zero, List.set_cons_succ]
  refine wpH_done (by kernel_rfl) ?_ _
  clear HC c0 c1 c2
  go_upto_region 5 with fail
  have HC : Hid (Gr w5 w5.drew) := Gr.drew w5
  refine wp_region_H 6 Gr Any (by kernel_rfl) ?_
  generalize w5.drew = wc at HC ⊢
  -- 0: slot 26
  refine wpH_take preGr preAny (i := 0) (v := ?_) (by kernel_rfl) (some 26) (by kernel_rfl) rfl (by kernel_rfl) (by kernel_rfl) (by kernel_rfl) (fun _ _ _ h => h) (by rfl) (fun w' hw' => ?_) rfl ?_
  rotate_left
  · try (have hxx := HQ5.out.gr (Gr.trans HC.out hw'); have hq2 := cells2 hxx.br.both; obtain ⟨k0, k1⟩ := hq2; have hq3 := cells3 hxx.box; obtain ⟨c0, c1, c2⟩ := hq3; clear hxx)
    go_simp
    with_reducible rfl
  simp only [Act.put, List.setIfInBounds_toArray, List.set_cons_zero, List.set_cons_succ]
  -- 1: slot 27
  refine wpH_take preGr preAny (i := 1) (v := ?_) (by kernel_rfl) (some 27) (by kernel_rfl) rfl (by kernel_rfl) (by kernel_rfl) (by kernel_rfl) (fun _ _ _ h => h) (by rfl) (fun w' hw' => ?_) rfl ?_
  rotate_left
  · try (have hxx := HQ5.out.gr (Gr.trans HC.out hw'); have hq2 := cells2 hxx.br.both; obtain ⟨k0, k1⟩ := hq2; have hq3 := cells3 hxx.box; obtain ⟨c0, c1, c2⟩ := hq3; clear hxx)
    go_simp
    with_reducible rfl
  simp only [Act.put, List.setIfInBounds_toArray, List.set_cons_zero, List.set_cons_succ]
  -- 2: slot 28
  refine wpH_take preGr preAny (i := 2) (v := ?_) (by kernel_rfl) (some 28) (by kernel_rfl) rfl (by kernel_rfl) (by kernel_rfl) (by kernel_rfl) (fun _ _ _ h => h) (by rfl) (fun w' hw' => ?_) rfl ?_
  rotate_left
  · try (have hxx := HQ5.out.gr (Gr.trans HC.out hw'); have hq2 := cells2 hxx.br.both; obtain ⟨k0, k1⟩ := hq2; have hq3 := cells3 hxx.box; obtain ⟨c0, c1, c2⟩ := hq3; clear hxx)
    go_simp
    with_reducible rfl
  simp only [Act.put, List.setIfInBounds_toArray, List.set_cons_zero, List.set_cons_succ]
  -- 3: slot 29
  refine wpH_take preGr preAny (i := 3) (v := ?_) (by kernel_rfl) (some 29) (by kernel_rfl) rfl (by kernel_rfl) (by kernel_rfl) (by kernel_rfl) (fun _ _ _ h => h) (by rfl) (fun w' hw' => ?_) rfl ?_
  rotate_left
  · try (have hxx := HQ5.out.gr (Gr.trans HC.out hw'); have hq2 := cells2 hxx.br.both; obtain ⟨k0, k1⟩ := hq2; have hq3 := cells3 hxx.box; obtain ⟨c0, c1, c2⟩ := hq3; clear hxx)
    go_simp
    with_reducible rfl
  simp only [Act.put, List.setIfInBounds_toArray, List.set_cons_zero, List.set_cons_succ]
  -- 4: slot 30
  refine wpH_take preGr preAny (i := 4) (v := ?_) (by kernel_rfl) (some 30) (by kernel_rfl) rfl (by kernel_rfl) (by kernel_rfl) (by kernel_rfl) (fun _ _ _ h => h) (by rfl) (fun w' hw' => ?_) rfl ?_
  rotate_left
  · try (have hxx := HQ5.out.gr (Gr.trans HC.out hw'); have hq2 := cells2 hxx.br.both; obtain ⟨k0, k1⟩ := hq2; have hq3 := cells3 hxx.box; obtain ⟨c0, c1, c2⟩ := hq3; clear hxx)
    go_simp
    with_reducible rfl
  simp only [Act.put, List.setIfInBounds_toArray, List.set_cons_zero, List.set_cons_succ]
  -- 5: slot 31
  refine wpH_take preGr preAny (i := 5) (v := ?_) (by kernel_rfl) (some 31) (by kernel_rfl) rfl (by kernel_rfl) (by kernel_rfl) (by kernel_rfl) (fun _ _ _ h => h) (by rfl) (fun w' hw' => ?_) rfl ?_
  rotate_left
  · try (have hxx := HQ5.out.gr (Gr.trans HC.out hw'); have hq2 := cells2 hxx.br.both; obtain ⟨k0, k1⟩ := hq2; have hq3 := cells3 hxx.box; obtain ⟨c0, c1, c2⟩ := hq3; clear hxx)
    go_simp
    with_reducible rfl
  simp only [Act.put, List.setIfInBounds_toArray, List.set_cons_zero, List.set_cons_succ]
  refine wpH_tail (i := 6) (by decide) rfl (by kernel_rfl) (by rfl) ?_
  go_simp
  refine (HT2.out wc m5 (HQ5.out.gr HC.out)).mono ?_
  rintro e w6 ⟨rfl, r, u, e, hq6⟩
  refine ⟨trivial, ?_⟩
  have HQ6 := Lib.hid hq6
  clear hq6
  try simp only [Act.put, List.setIfInBounds_toArray, List.set_cons_zero, List.set_cons_succ]
  refine wpH_tail (i := 7) (by decide) rfl (by kernel_rfl) (by rfl) ?_
  go_simp
  refine ⟨(pre_refl preAny _), ?_⟩
  try simp only [Act.put, List.setIfInBounds_toArray, List.set_cons_zero, List.set_cons_succ]
  -- 8: slot 33
  refine wpH_takeH preGr preAny (i := 8) (v := ?_) (some 33) (by kernel_rfl) rfl (by kernel_rfl) (by kernel_rfl) (by kernel_rfl) (fun _ _ _ h => h) (by rfl) (fun w' hw' => ?_) rfl ?_
  rotate_left
  · go_simp
    with_reducible rfl
  simp only [Act.put, List.setIfInBounds_toArray, List.set_cons_zero, List.set_cons_succ]
  -- 9: slot 34
  refine wpH_takeH preGr preAny (i := 9) (v := ?_) (some 34) (by kernel_rfl) rfl (by kernel_rfl) (by kernel_rfl) (by kernel_rfl) (fun _ _ _ h => h) (by rfl) (fun w' hw' => ?_) rfl ?_
  rotate_left
  · go_simp
    with_reducible rfl
  simp only [Act.put, List.setIfInBounds_toArray, List.set_cons_zero, List.set_cons_succ]
  refine wpH_tail (i := 10) (by decide) rfl (by kernel_rfl) (by rfl) ?_
  go_simp
  refine ⟨(pre_refl preAny _), ?_⟩
  try simp only [Act.put, List.setIfInBounds_toArray, List.set_cons_zero, List.set_cons_succ]
  refine wpH_tail (i := 11) (by decide) rfl (by kernel_rfl) (by rfl) ?_
  go_simp
  refine ⟨(pre_refl preAny _), ?_⟩
  try simp only [Act.put, List.setIfInBounds_toArray, List.set_cons_zero, List.set_cons_succ]
  refine wpH_done (by kernel_rfl) ?_ _
  go_wp2_with fail
  go_ret
  exact ⟨rfl, g, gd, m5, r, u, e, T, HLH.out.1, HLH.out.2, HQ6.out.br⟩
set_option maxRecDepth 20000 in
set_option maxHeartbeats 4000000 in
theorem step_3 {W : World} {gb g gd : Nat} {m : Am} {rv uv ev : Value} {S : Al} (id x : Int) (w : World) (h : BR W w gb g gd m rv uv ev S S) (hl : S.high - S.low ≤ 12) :
    Calls Try.prog 11 #[.pointer (some ⟨gb, 0, none⟩), .agg #[.int .i64 3, .int .i64 id, .int .i64 x]] w fun e w' => e = .returned (.bool true) ∧ BX W w' gb S.low S.high := by
  have hsm := h.la.al.ok.small hl
  obtain ⟨bo, hbo⟩ : ∃ bo, bo = w.heap.size := ⟨_, rfl⟩
  have hq := BQ.begin #[.int .i64 3, .int .i64 id, .int .i64 x] h
  rw [← hbo] at hq
  obtain ⟨w1, hw1⟩ : ∃ w1, w1 = w.alloc (.cells #[.int .i64 3, .int .i64 id, .int .i64 x] 29) := ⟨_, rfl⟩
  have HW1 := Lib.hid hw1
  have HBO := Lib.hid hbo
  rw [← hw1] at hq
  have HQ := Lib.hid hq
  obtain ⟨r1, hr1⟩ : ∃ r1, r1 = free S x := ⟨_, rfl⟩
  have HT1 : Hid (∀ w', Gr w1 w' → Calls Try.prog 16 #[.pointer (some ⟨g, 0, none⟩), .int .i64 x] w' fun e wn => e = .returned (.int .i64 r1) ∧ Below w'.heap.size w' wn) := fun w' hw' => by
    rw [hr1]; exact free_any g x w' (hq.gr hw').br.la.al
  have HT2 : Hid (∀ w', Gr w1 w' → Calls Try.prog 27 #[.pointer (some ⟨gd, 0, none⟩), .int .i64 x] w' fun e wn => e = .returned (.int .i64 r1) ∧ w' = wn) := fun w' hw' => by
    rw [hr1]; exact dfree_any gd x w' (hq.gr hw').br.dq (by have := hsm.1; omega)
  clear h hl hq hr1 hbo hw1 hsm
  go_enter Try.func11, Try.ntmps11
  go_upto_region 1 with fail
  rw [← HW1.out, ← HBO.out]
  obtain ⟨c0, c1, c2⟩ := cells3 HQ.out.box
  go_upto_region 10 with fail
  have HC : Hid (Gr w1 w1.drew) := Gr.drew w1
  refine wp_region_G 16 Gr (by kernel_rfl) ?_
  generalize w1.drew = wc at HC ⊢
  -- 0: slot 83
  refine wpG_take preGr (i := 0) (v := ?_) (by kernel_rfl) (some 83) (by kernel_rfl) rfl (by kernel_rfl) (by kernel_rfl) (by kernel_rfl) (fun _ _ _ h => h) (by rfl) (fun w' hw' => ?_) rfl ?_
  rotate_left
  · try (have hxx := HQ.out.gr (Gr.trans HC.out hw'); have hq2 := cells2 hxx.br.both; obtain ⟨k0, k1⟩ := hq2; have hq3 := cells3 hxx.box; obtain ⟨c0, c1, c2⟩ := hq3; clear hxx)
    go_simp
    with_reducible rfl
  simp only [Act.put, List.setIfInBounds_toArray, List.set_cons_zero, List.set_cons_succ]
  -- 1: slot 84
  refine wpG_take preGr (i := 1) (v := ?_) (by kernel_rfl) (some 84) (by kernel_rfl) rfl (by kernel_rfl) (by kernel_rfl) (by kernel_rfl) (fun _ _ _ h => h) (by rfl) (fun w' hw' => ?_) rfl ?_
  rotate_left
  · try (have hxx := HQ.out.gr (Gr.trans HC.out hw'); have hq2 := cells2 hxx.br.both; obtain ⟨k0, k1⟩ := hq2; have hq3 := cells3 hxx.box; obtain ⟨c0, c1, c2⟩ := hq3; clear hxx)
    go_simp
    with_reducible rfl
  simp only [Act.put, List.setIfInBounds_toArray, List.set_cons_zero, List.set_cons_succ]
  -- 2: slot 85
  refine wpG_take preGr (i := 2) (v := ?_) (by kernel_rfl) (some 85) (by kernel_rfl) rfl (by kernel_rfl) (by kernel_rfl) (by kernel_rfl) (fun _ _ _ h => h) (by rfl) (fun w' hw' => ?_) rfl ?_
  rotate_left
  · try (have hxx := HQ.out.gr (Gr.trans HC.out hw'); have hq2 := cells2 hxx.br.both; obtain ⟨k0, k1⟩ := hq2; have hq3 := cells3 hxx.box; obtain ⟨c0, c1, c2⟩ := hq3; clear hxx)
    go_simp
    with_reducible rfl
  simp only [Act.put, List.setIfInBounds_toArray, List.set_cons_zero, List.set_cons_succ]
  -- 3: slot 86
  refine wpG_take preGr (i := 3) (v := ?_) (by kernel_rfl) (some 86) (by kernel_rfl) rfl (by kernel_rfl) (by kernel_rfl) (by kernel_rfl) (fun _ _ _ h => h) (by rfl) (fun w' hw' => ?_) rfl ?_
  rotate_left
  · try (have hxx := HQ.out.gr (Gr.trans HC.out hw'); have hq2 := cells2 hxx.br.both; obtain ⟨k0, k1⟩ := hq2; have hq3 := cells3 hxx.box; obtain ⟨c0, c1, c2⟩ := hq3; clear hxx)
    go_simp
    with_reducible rfl
  simp only [Act.put, List.setIfInBounds_toArray, List.set_cons_zero, List.set_cons_succ]
  -- 4: slot 87
  refine wpG_take preGr (i := 4) (v := ?_) (by kernel_rfl) (some 87) (by kernel_rfl) rfl (by kernel_rfl) (by kernel_rfl) (by kernel_rfl) (fun _ _ _ h => h) (by rfl) (fun w' hw' => ?_) rfl ?_
  rotate_left
  · try (have hxx := HQ.out.gr (Gr.trans HC.out hw'); have hq2 := cells2 hxx.br.both; obtain ⟨k0, k1⟩ := hq2; have hq3 := cells3 hxx.box; obtain ⟨c0, c1, c2⟩ := hq3; clear hxx)
    go_simp
    with_reducible rfl
  simp only [Act.put, List.setIfInBounds_toArray, List.set_cons_zero, List.set_cons_succ]
  -- 5: slot 88
  refine wpG_take preGr (i := 5) (v := ?_) (by kernel_rfl) (some 88) (by kernel_rfl) rfl (by kernel_rfl) (by kernel_rfl) (by kernel_rfl) (fun _ _ _ h => h) (by rfl) (fun w' hw' => ?_) rfl ?_
  rotate_left
  · try (have hxx := HQ.out.gr (Gr.trans HC.out hw'); have hq2 := cells2 hxx.br.both; obtain ⟨k0, k1⟩ := hq2; have hq3 := cells3 hxx.box; obtain ⟨c0, c1, c2⟩ := hq3; clear hxx)
    go_simp
    with_reducible rfl
  simp only [Act.put, List.setIfInBounds_toArray, List.set_cons_zero, List.set_cons_succ]
  -- 7: slot 90
  refine wpG_take preGr (i := 7) (v := ?_) (by kernel_rfl) (some 90) (by kernel_rfl) rfl (by kernel_rfl) (by kernel_rfl) (by kernel_rfl) (fun _ _ _ h => h) (by rfl) (fun w' hw' => ?_) rfl ?_
  rotate_left
  · try (have hxx := HQ.out.gr (Gr.trans HC.out hw'); have hq2 := cells2 hxx.br.both; obtain ⟨k0, k1⟩ := hq2; have hq3 := cells3 hxx.box; obtain ⟨c0, c1, c2⟩ := hq3; clear hxx)
    go_simp
    with_reducible rfl
  simp only [Act.put, List.setIfInBounds_toArray, List.set_cons_zero, List.set_cons_succ]
  -- 8: slot 91
  refine wpG_take preGr (i := 8) (v := ?_) (by kernel_rfl) (some 91) (by kernel_rfl) rfl (by kernel_rfl) (by kernel_rfl) (by kernel_rfl) (fun _ _ _ h => h) (by rfl) (fun w' hw' => ?_) rfl ?_
  rotate_left
  · try (have hxx := HQ.out.gr (Gr.trans HC.out hw'); have hq2 := cells2 hxx.br.both; obtain ⟨k0, k1⟩ := hq2; have hq3 := cells3 hxx.box; obtain ⟨c0, c1, c2⟩ := hq3; clear hxx)
    go_simp
    with_reducible rfl
  simp only [Act.put, List.setIfInBounds_toArray, List.set_cons_zero, List.set_cons_succ]
  -- 9: slot 92
  refine wpG_take preGr (i := 9) (v := ?_) (by kernel_rfl) (some 92) (by kernel_rfl) rfl (by kernel_rfl) (by kernel_rfl) (by kernel_rfl) (fun _ _ _ h => h) (by rfl) (fun w' hw' => ?_) rfl ?_
  rotate_left
  · try (have hxx := HQ.out.gr (Gr.trans HC.out hw'); have hq2 := cells2 hxx.br.both; obtain ⟨k0, k1⟩ := hq2; have hq3 := cells3 hxx.box; obtain ⟨c0, c1, c2⟩ := hq3; clear hxx)
    go_simp
    with_reducible rfl
  simp only [Act.put, List.setIfInBounds_toArray, List.set_cons_zero, List.set_cons_succ]
  -- 10: slot 93
  refine wpG_take preGr (i := 10) (v := ?_) (by kernel_rfl) (some 93) (by kernel_rfl) rfl (by kernel_rfl) (by kernel_rfl) (by kernel_rfl) (fun _ _ _ h => h) (by rfl) (fun w' hw' => ?_) rfl ?_
  rotate_left
  · try (have hxx := HQ.out.gr (Gr.trans HC.out hw'); have hq2 := cells2 hxx.br.both; obtain ⟨k0, k1⟩ := hq2; have hq3 := cells3 hxx.box; obtain ⟨c0, c1, c2⟩ := hq3; clear hxx)
    go_simp
    with_reducible rfl
  simp only [Act.put, List.setIfInBounds_toArray, List.set_cons_zero, List.set_cons_succ]
  -- 11: slot 94
  refine wpG_take preGr (i := 11) (v := ?_) (by kernel_rfl) (some 94) (by kernel_rfl) rfl (by kernel_rfl) (by kernel_rfl) (by kernel_rfl) (fun _ _ _ h => h) (by rfl) (fun w' hw' => ?_) rfl ?_
  rotate_left
  · try (have hxx := HQ.out.gr (Gr.trans HC.out hw'); have hq2 := cells2 hxx.br.both; obtain ⟨k0, k1⟩ := hq2; have hq3 := cells3 hxx.box; obtain ⟨c0, c1, c2⟩ := hq3; clear hxx)
    go_simp
    with_reducible rfl
  simp only [Act.put, List.setIfInBounds_toArray, List.set_cons_zero, List.set_cons_succ]
  -- 12: slot 95
  refine wpG_take preGr (i := 12) (v := ?_) (by kernel_rfl) (some 95) (by kernel_rfl) rfl (by kernel_rfl) (by kernel_rfl) (by kernel_rfl) (fun _ _ _ h => h) (by rfl) (fun w' hw' => ?_) rfl ?_
  rotate_left
  · try (have hxx := HQ.out.gr (Gr.trans HC.out hw'); have hq2 := cells2 hxx.br.both; obtain ⟨k0, k1⟩ := hq2; have hq3 := cells3 hxx.box; obtain ⟨c0, c1, c2⟩ := hq3; clear hxx)
    go_simp
    with_reducible rfl
  simp only [Act.put, List.setIfInBounds_toArray, List.set_cons_zero, List.set_cons_succ]
  refine wpG_one (i := 6) rfl (by kernel_rfl) (by rfl) ?_
  go_simp
  refine (HT1.out wc HC.out).mono ?_
  rintro e wn ⟨rfl, hb⟩
  refine ⟨hb, ?_⟩
  have HC' : Hid (Gr w1 wn) := Gr.trans HC.out hb
  clear HC hb
  have HC := HC'
  clear HC'
  obtain ⟨wc, hwc⟩ : ∃ x, x = wn := ⟨_, rfl⟩
  subst hwc
  try simp only [Act.put, List.setIfInBounds_toArray, List.set_cons_zero, List.set_cons_succ]
  refine wpG_one (i := 13) rfl (by kernel_rfl) (by rfl) ?_
  go_simp
  refine (HT2.out wc HC.out).mono ?_
  rintro e wn ⟨rfl, rfl⟩
  refine ⟨Gr.refl _, ?_⟩
  try simp only [Act.put, List.setIfInBounds_toArray, List.set_cons_zero, List.set_cons_succ]
  -- 14: slot 97
  refine wpG_take preGr (i := 14) (v := ?_) (by kernel_rfl) (some 97) (by kernel_rfl) rfl (by kernel_rfl) (by kernel_rfl) (by kernel_rfl) (fun _ _ _ h => h) (by rfl) (fun w' hw' => ?_) rfl ?_
  rotate_left
  · try (have hxx := HQ.out.gr (Gr.trans HC.out hw'); have hq2 := cells2 hxx.br.both; obtain ⟨k0, k1⟩ := hq2; have hq3 := cells3 hxx.box; obtain ⟨c0, c1, c2⟩ := hq3; clear hxx)
    go_simp
    with_reducible rfl
  simp only [Act.put, List.setIfInBounds_toArray, List.set_cons_zero, List.set_cons_succ]
  -- 15: slot 4
  refine wpG_take preGr (i := 15) (v := ?_) (by kernel_rfl) (some 4) (by kernel_rfl) rfl (by kernel_rfl) (by kernel_rfl) (by kernel_rfl) (fun _ _ _ h => h) (by rfl) (fun w' hw' => ?_) rfl ?_
  rotate_left
  · try (have hxx := HQ.out.gr (Gr.trans HC.out hw'); have hq2 := cells2 hxx.br.both; obtain ⟨k0, k1⟩ := hq2; have hq3 := cells3 hxx.box; obtain ⟨c0, c1, c2⟩ := hq3; clear hxx)
    go_simp
    with_reducible rfl
  simp only [Act.put, List.setIfInBounds_toArray, List.set_cons_zero, List.set_cons_succ]
  refine wpG_done (by kernel_rfl) ?_ _
  go_wp2_with fail
  go_ret
  exact ⟨rfl, g, gd, m, rv, uv, ev, S, rfl, rfl, (HQ.out.gr HC.out).br⟩
set_option maxRecDepth 20000 in
theorem step_0 {W : World} {gb g gd : Nat} {m : Am} {rv uv ev : Value} {S : Al} (kd id x : Int) (w : World) (h : BR W w gb g gd m rv uv ev S S) (h1 : kd ≠ 1) (h2 : kd ≠ 2) (h3 : kd ≠ 3) (h4 : kd ≠ 4) :
    Calls Try.prog 11 #[.pointer (some ⟨gb, 0, none⟩), .agg #[.int .i64 kd, .int .i64 id, .int .i64 x]] w fun e w' => e = .returned (.bool true) ∧ BX W w' gb S.low S.high := by
  have HQ := Lib.hid (BQ.begin #[.int .i64 kd, .int .i64 id, .int .i64 x] h)
  obtain ⟨c0, c1, c2⟩ := cells3 HQ.out.box
  have k1 : (kd == 1) = false := by rw [beq_eq_false_iff_ne]; exact h1
  have k2 : (kd == 2) = false := by rw [beq_eq_false_iff_ne]; exact h2
  have k3 : (kd == 3) = false := by rw [beq_eq_false_iff_ne]; exact h3
  have k4 : (kd == 4) = false := by rw [beq_eq_false_iff_ne]; exact h4
  clear h h1 h2 h3 h4
  go_enter Try.func11, Try.ntmps11
  go_wp2_with fail
  go_ret
  exact ⟨rfl, g, gd, m, rv, uv, ev, S, rfl, rfl, HQ.out.br⟩
end Go.Proofs.Ytpafcabcnkmadaa.Id
