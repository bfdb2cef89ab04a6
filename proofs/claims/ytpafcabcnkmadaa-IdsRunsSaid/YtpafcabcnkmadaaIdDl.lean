/-
  step: a call of both (Give, Fork).
-/
import Derived.Test.YtpafcabcnkmadaaIdDj
namespace Go.Proofs.Ytpafcabcnkmadaa.Id
open Go.RowKit
set_option linter.unusedVariables false
set_option linter.unusedSimpArgs false

set_option maxRecDepth 20000 in
set_option maxHeartbeats 8000000 in
theorem step_2 {W : World} {gb g gd : Nat} {m : Am} {rv uv ev : Value} {S : Al} (id x : Int) (w : World) (h : BR W w gb g gd m rv uv ev S S) (hl : S.high - S.low ≤ 12) :
    Calls Try.prog 11 #[.pointer (some ⟨gb, 0, none⟩), .agg #[.int .i64 2, .int .i64 id, .int .i64 x]] w fun e w' => e = .returned (.bool true) ∧ BX W w' gb S.low S.high := by
  have HSM := Lib.hid (h.la.al.ok.small hl)
  have HTK := Lib.hid (give_ok h.la.al.ok id x)
  obtain ⟨bo, hbo⟩ : ∃ bo, bo = w.heap.size := ⟨_, rfl⟩
  have hq := BQ.begin #[.int .i64 2, .int .i64 id, .int .i64 x] h
  rw [← hbo] at hq
  obtain ⟨w1, hw1⟩ : ∃ w1, w1 = w.alloc (.cells #[.int .i64 2, .int .i64 id, .int .i64 x] 29) := ⟨_, rfl⟩
  have HW1 := Lib.hid hw1
  have HBO := Lib.hid hbo
  rw [← hw1] at hq
  have HQ := Lib.hid hq
  obtain ⟨T, hT⟩ : ∃ T, T = (give S id x).1 := ⟨_, rfl⟩
  obtain ⟨r1, hr1⟩ : ∃ r1, r1 = (give S id x).2 := ⟨_, rfl⟩
  obtain ⟨B, hB⟩ : ∃ B, B = decide (id ∈ S.used) := ⟨_, rfl⟩
  have HH1 : Hid (∀ w', Gr w1 w' → Calls Try.prog 15 #[.pointer (some ⟨g, 0, none⟩), .int .i64 id] w' fun e wn => e = .returned (.bool B) ∧ Below w'.heap.size w' wn) := fun w' hw' => by
    rw [hB]; exact has_any g id w' (hq.gr hw').br.la.al
  have HH2 : Hid (∀ w', Gr w1 w' → Calls Try.prog 25 #[.pointer (some ⟨gd, 0, none⟩), .int .i64 id] w' fun e wn => e = .returned (.bool B) ∧ w' = wn) := fun w' hw' => by
    rw [hB]; exact dhas_any gd id w' (hq.gr hw').br.dq
  have HT1 : Hid (∀ w', Gr w1 w' → Calls Try.prog 18 #[.pointer (some ⟨g, 0, none⟩), .int .i64 id, .int .i64 x] w' fun e wn => e = .returned (.int .i64 r1) ∧ Kp [gb, bo] w' wn ∧ ∃ m', BQ W wn gb g gd m' rv uv ev T S bo #[.int .i64 2, .int .i64 id, .int .i64 x]) := fun w' hw' => by
    rw [hr1, hT]
    have h1 := hq.gr hw'
    refine (h1.ogive id x).mono fun e wn ⟨he, m', h2, h3⟩ => ⟨he, ⟨h3.tr.size, fun b hb => ?_⟩, m', h2⟩
    simp only [List.mem_cons, List.not_mem_nil, or_false] at hb
    rcases hb with rfl | rfl
    · exact h3.tr.block _ h1.br.gblt h1.br.gb.1
    · exact h3.tr.block _ h1.lt h1.no.1
  have HT2 : Hid (∀ w' m', BQ W w' gb g gd m' rv uv ev T S bo #[.int .i64 2, .int .i64 id, .int .i64 x] → Calls Try.prog 26 #[.pointer (some ⟨gd, 0, none⟩), .int .i64 id, .int .i64 x] w' fun e wn => e = .returned (.int .i64 r1) ∧ Kp [gb, bo] w' wn ∧ ∃ rv' uv' ev', BQ W wn gb g gd m' rv' uv' ev' T T bo #[.int .i64 2, .int .i64 id, .int .i64 x]) := fun w' m' hw' => by
    have h1 := hw'.dgive HSM.out id x
    rw [hr1]
    rw [← hT] at h1
    refine h1.mono fun e wn ⟨he, h3, h2⟩ => ⟨he, ⟨h3.size, fun b hb => ?_⟩, h2⟩
    simp only [List.mem_cons, List.not_mem_nil, or_false] at hb
    rcases hb with rfl | rfl
    · exact h3.block _ hw'.br.gblt fun hk => (hw'.br.apart gd (Fd.bd.2 (.inl rfl))).2.2 (List.mem_singleton.1 hk).symm
    · exact h3.block _ hw'.lt fun hk => hw'.no.2.1 (Fd.bd.2 (.inl (List.mem_singleton.1 hk)))
  have HLH : Hid (T.low = S.low ∧ T.high = S.high) := by show _ ∧ _; rw [hT]; exact ⟨HTK.out.2.1, HTK.out.2.2.1⟩
  clear h hl hq hT hr1 hB hbo hw1 HTK HSM
  go_enter Try.func11, Try.ntmps11
  go_upto_region 1 with fail
  rw [← HW1.out, ← HBO.out]
  obtain ⟨c0, c1, c2⟩ := cells3 HQ.out.box
  go_upto_region 8 with fail
  have HC : Hid (Gr w1 w1.drew) := Gr.drew w1
  refine wp_region_H 24 Gr (Kp [gb,bo]) (by kernel_rfl) ?_
  generalize w1.drew = wc at HC ⊢
  -- 0: slot 45
  refine wpH_take preGr (preKp _) (i := 0) (v := ?_) (by kernel_rfl) (some 45) (by kernel_rfl) rfl (by kernel_rfl) (by kernel_rfl) (by kernel_rfl) (fun _ _ _ h => h) (by rfl) (fun w' hw' => ?_) rfl ?_
  rotate_left
  · try (have hxx := HQ.out.gr (Gr.trans HC.out hw'); have hq2 := cells2 hxx.br.both; obtain ⟨k0, k1⟩ := hq2; have hq3 := cells3 hxx.box; obtain ⟨c0, c1, c2⟩ := hq3; clear hxx)
    go_simp
    with_reducible rfl
  simp only [Act.put, List.setIfInBounds_toArray, List.set_cons_zero, List.set_cons_succ]
  -- 1: slot 46
  refine wpH_take preGr (preKp _) (i := 1) (v := ?_) (by kernel_rfl) (some 46) (by kernel_rfl) rfl (by kernel_rfl) (by kernel_rfl) (by kernel_rfl) (fun _ _ _ h => h) (by rfl) (fun w' hw' => ?_) rfl ?_
  rotate_left
  · try (have hxx := HQ.out.gr (Gr.trans HC.out hw'); have hq2 := cells2 hxx.br.both; obtain ⟨k0, k1⟩ := hq2; have hq3 := cells3 hxx.box; obtain ⟨c0, c1, c2⟩ := hq3; clear hxx)
    go_simp
    with_reducible rfl
  simp only [Act.put, List.setIfInBounds_toArray, List.set_cons_zero, List.set_cons_succ]
  -- 2: slot 47
  refine wpH_take preGr (preKp _) (i := 2) (v := ?_) (by kernel_rfl) (some 47) (by kernel_rfl) rfl (by kernel_rfl) (by kernel_rfl) (by kernel_rfl) (fun _ _ _ h => h) (by rfl) (fun w' hw' => ?_) rfl ?_
  rotate_left
  · try (have hxx := HQ.out.gr (Gr.trans HC.out hw'); have hq2 := cells2 hxx.br.both; obtain ⟨k0, k1⟩ := hq2; have hq3 := cells3 hxx.box; obtain ⟨c0, c1, c2⟩ := hq3; clear hxx)
    go_simp
    with_reducible rfl
  simp only [Act.put, List.setIfInBounds_toArray, List.set_cons_zero, List.set_cons_succ]
  -- 3: slot 48
  refine wpH_take preGr (preKp _) (i := 3) (v := ?_) (by kernel_rfl) (some 48) (by kernel_rfl) rfl (by kernel_rfl) (by kernel_rfl) (by kernel_rfl) (fun _ _ _ h => h) (by rfl) (fun w' hw' => ?_) rfl ?_
  rotate_left
  · try (have hxx := HQ.out.gr (Gr.trans HC.out hw'); have hq2 := cells2 hxx.br.both; obtain ⟨k0, k1⟩ := hq2; have hq3 := cells3 hxx.box; obtain ⟨c0, c1, c2⟩ := hq3; clear hxx)
    go_simp
    with_reducible rfl
  simp only [Act.put, List.setIfInBounds_toArray, List.set_cons_zero, List.set_cons_succ]
  -- 4: slot 49
  refine wpH_take preGr (preKp _) (i := 4) (v := ?_) (by kernel_rfl) (some 49) (by kernel_rfl) rfl (by kernel_rfl) (by kernel_rfl) (by kernel_rfl) (fun _ _ _ h => h) (by rfl) (fun w' hw' => ?_) rfl ?_
  rotate_left
  · try (have hxx := HQ.out.gr (Gr.trans HC.out hw'); have hq2 := cells2 hxx.br.both; obtain ⟨k0, k1⟩ := hq2; have hq3 := cells3 hxx.box; obtain ⟨c0, c1, c2⟩ := hq3; clear hxx)
    go_simp
    with_reducible rfl
  simp only [Act.put, List.setIfInBounds_toArray, List.set_cons_zero, List.set_cons_succ]
  -- 5: slot 50
  refine wpH_take preGr (preKp _) (i := 5) (v := ?_) (by kernel_rfl) (some 50) (by kernel_rfl) rfl (by kernel_rfl) (by kernel_rfl) (by kernel_rfl) (fun _ _ _ h => h) (by rfl) (fun w' hw' => ?_) rfl ?_
  rotate_left
  · try (have hxx := HQ.out.gr (Gr.trans HC.out hw'); have hq2 := cells2 hxx.br.both; obtain ⟨k0, k1⟩ := hq2; have hq3 := cells3 hxx.box; obtain ⟨c0, c1, c2⟩ := hq3; clear hxx)
    go_simp
    with_reducible rfl
  simp only [Act.put, List.setIfInBounds_toArray, List.set_cons_zero, List.set_cons_succ]
  -- 7: slot 52
  refine wpH_take preGr (preKp _) (i := 7) (v := ?_) (by kernel_rfl) (some 52) (by kernel_rfl) rfl (by kernel_rfl) (by kernel_rfl) (by kernel_rfl) (fun _ _ _ h => h) (by rfl) (fun w' hw' => ?_) rfl ?_
  rotate_left
  · try (have hxx := HQ.out.gr (Gr.trans HC.out hw'); have hq2 := cells2 hxx.br.both; obtain ⟨k0, k1⟩ := hq2; have hq3 := cells3 hxx.box; obtain ⟨c0, c1, c2⟩ := hq3; clear hxx)
    go_simp
    with_reducible rfl
  simp only [Act.put, List.setIfInBounds_toArray, List.set_cons_zero, List.set_cons_succ]
  -- 8: slot 53
  refine wpH_take preGr (preKp _) (i := 8) (v := ?_) (by kernel_rfl) (some 53) (by kernel_rfl) rfl (by kernel_rfl) (by kernel_rfl) (by kernel_rfl) (fun _ _ _ h => h) (by rfl) (fun w' hw' => ?_) rfl ?_
  rotate_left
  · try (have hxx := HQ.out.gr (Gr.trans HC.out hw'); have hq2 := cells2 hxx.br.both; obtain ⟨k0, k1⟩ := hq2; have hq3 := cells3 hxx.box; obtain ⟨c0, c1, c2⟩ := hq3; clear hxx)
    go_simp
    with_reducible rfl
  simp only [Act.put, List.setIfInBounds_toArray, List.set_cons_zero, List.set_cons_succ]
  -- 9: slot 54
  refine wpH_take preGr (preKp _) (i := 9) (v := ?_) (by kernel_rfl) (some 54) (by kernel_rfl) rfl (by kernel_rfl) (by kernel_rfl) (by kernel_rfl) (fun _ _ _ h => h) (by rfl) (fun w' hw' => ?_) rfl ?_
  rotate_left
  · try (have hxx := HQ.out.gr (Gr.trans HC.out hw'); have hq2 := cells2 hxx.br.both; obtain ⟨k0, k1⟩ := hq2; have hq3 := cells3 hxx.box; obtain ⟨c0, c1, c2⟩ := hq3; clear hxx)
    go_simp
    with_reducible rfl
  simp only [Act.put, List.setIfInBounds_toArray, List.set_cons_zero, List.set_cons_succ]
  -- 10: slot 55
  refine wpH_take preGr (preKp _) (i := 10) (v := ?_) (by kernel_rfl) (some 55) (by kernel_rfl) rfl (by kernel_rfl) (by kernel_rfl) (by kernel_rfl) (fun _ _ _ h => h) (by rfl) (fun w' hw' => ?_) rfl ?_
  rotate_left
  · try (have hxx := HQ.out.gr (Gr.trans HC.out hw'); have hq2 := cells2 hxx.br.both; obtain ⟨k0, k1⟩ := hq2; have hq3 := cells3 hxx.box; obtain ⟨c0, c1, c2⟩ := hq3; clear hxx)
    go_simp
    with_reducible rfl
  simp only [Act.put, List.setIfInBounds_toArray, List.set_cons_zero, List.set_cons_succ]
  -- 11: slot 56
  refine wpH_take preGr (preKp _) (i := 11) (v := ?_) (by kernel_rfl) (some 56) (by kernel_rfl) rfl (by kernel_rfl) (by kernel_rfl) (by kernel_rfl) (fun _ _ _ h => h) (by rfl) (fun w' hw' => ?_) rfl ?_
  rotate_left
  · try (have hxx := HQ.out.gr (Gr.trans HC.out hw'); have hq2 := cells2 hxx.br.both; obtain ⟨k0, k1⟩ := hq2; have hq3 := cells3 hxx.box; obtain ⟨c0, c1, c2⟩ := hq3; clear hxx)
    go_simp
    with_reducible rfl
  simp only [Act.put, List.setIfInBounds_toArray, List.set_cons_zero, List.set_cons_succ]
  -- 12: slot 57
  refine wpH_take preGr (preKp _) (i := 12) (v := ?_) (by kernel_rfl) (some 57) (by kernel_rfl) rfl (by kernel_rfl) (by kernel_rfl) (by kernel_rfl) (fun _ _ _ h => h) (by rfl) (fun w' hw' => ?_) rfl ?_
  rotate_left
  · try (have hxx := HQ.out.gr (Gr.trans HC.out hw'); have hq2 := cells2 hxx.br.both; obtain ⟨k0, k1⟩ := hq2; have hq3 := cells3 hxx.box; obtain ⟨c0, c1, c2⟩ := hq3; clear hxx)
    go_simp
    with_reducible rfl
  simp only [Act.put, List.setIfInBounds_toArray, List.set_cons_zero, List.set_cons_succ]
  refine wpH_one (i := 6) rfl (by kernel_rfl) (by rfl) ?_
  go_simp
  refine (HH1.out wc HC.out).mono ?_
  rintro e wn ⟨rfl, hb⟩
  have hxx := HQ.out.gr HC.out
  refine ⟨hb, ⟨hb.size, fun b hb2 => ?_⟩, ?_⟩
  · simp only [List.mem_cons, List.not_mem_nil, or_false] at hb2
    rcases hb2 with rfl | rfl
    · exact hb.block _ hxx.br.gblt
    · exact hb.block _ hxx.lt
  have HC' : Hid (Gr w1 wn) := Gr.trans HC.out hb
  clear HC hb hxx
  have HC := HC'
  clear HC'
  obtain ⟨wc, hwc⟩ : ∃ x, x = wn := ⟨_, rfl⟩
  subst hwc
  try simp only [Act.put, List.setIfInBounds_toArray, List.set_cons_zero, List.set_cons_succ]
  refine wpH_one (i := 13) rfl (by kernel_rfl) (by rfl) ?_
  go_simp
  refine (HH2.out wc HC.out).mono ?_
  rintro e wn ⟨rfl, rfl⟩
  refine ⟨Gr.refl _, ⟨Nat.le_refl _, fun _ _ => rfl⟩, ?_⟩
  try simp only [Act.put, List.setIfInBounds_toArray, List.set_cons_zero, List.set_cons_succ]
  -- 14: slot 59
  refine wpH_take preGr (preKp _) (i := 14) (v := ?_) (by kernel_rfl) (some 59) (by kernel_rfl) rfl (by kernel_rfl) (by kernel_rfl) (by kernel_rfl) (fun _ _ _ h => h) (by rfl) (fun w' hw' => ?_) rfl ?_
  rotate_left
  · try (have hxx := HQ.out.gr (Gr.trans HC.out hw'); have hq2 := cells2 hxx.br.both; obtain ⟨k0, k1⟩ := hq2; have hq3 := cells3 hxx.box; obtain ⟨c0, c1, c2⟩ := hq3; clear hxx)
    go_simp
    with_reducible rfl
  simp only [Act.put, List.setIfInBounds_toArray, List.set_cons_zero, List.set_cons_succ]
  -- 15: slot 60
  refine wpH_take preGr (preKp _) (i := 15) (v := ?_) (by kernel_rfl) (some 60) (by kernel_rfl) rfl (by kernel_rfl) (by kernel_rfl) (by kernel_rfl) (fun _ _ _ h => h) (by rfl) (fun w' hw' => ?_) rfl ?_
  rotate_left
  · try (have hxx := HQ.out.gr (Gr.trans HC.out hw'); have hq2 := cells2 hxx.br.both; obtain ⟨k0, k1⟩ := hq2; have hq3 := cells3 hxx.box; obtain ⟨c0, c1, c2⟩ := hq3; clear hxx)
    go_simp
    with_reducible rfl
  simp only [Act.put, List.setIfInBounds_toArray, List.set_cons_zero, List.set_cons_succ]
  -- 16: slot 61
  refine wpH_takeH preGr (preKp _) (i := 16) (v := ?_) (some 61) (by kernel_rfl) rfl (by kernel_rfl) (by kernel_rfl) (by kernel_rfl) (fun _ _ _ h => h) (by rfl) (fun w' hw' => ?_) rfl ?_
  rotate_left
  · try (have hxx := HQ.out.gr HC.out; have hq2 := cells2 ((hw'.2 gb (by simp)).trans hxx.br.both); obtain ⟨k0, k1⟩ := hq2; have hq3 := cells3 ((hw'.2 bo (by simp)).trans hxx.box); obtain ⟨c0, c1, c2⟩ := hq3; clear hxx)
    try (have hxx := HQ5.out; have hq2 := cells2 ((hw'.2 gb (by simp)).trans hxx.br.both); obtain ⟨k0, k1⟩ := hq2; have hq3 := cells3 ((hw'.2 bo (by simp)).trans hxx.box); obtain ⟨c0, c1, c2⟩ := hq3; clear hxx)
    go_simp
    with_reducible rfl
  simp only [Act.put, List.setIfInBounds_toArray, List.set_cons_zero, List.set_cons_succ]
  -- 17: slot 62
  refine wpH_takeH preGr (preKp _) (i := 17) (v := ?_) (some 62) (by kernel_rfl) rfl (by kernel_rfl) (by kernel_rfl) (by kernel_rfl) (fun _ _ _ h => h) (by rfl) (fun w' hw' => ?_) rfl ?_
  rotate_left
  · try (have hxx := HQ.out.gr HC.out; have hq2 := cells2 ((hw'.2 gb (by simp)).trans hxx.br.both); obtain ⟨k0, k1⟩ := hq2; have hq3 := cells3 ((hw'.2 bo (by simp)).trans hxx.box); obtain ⟨c0, c1, c2⟩ := hq3; clear hxx)
    try (have hxx := HQ5.out; have hq2 := cells2 ((hw'.2 gb (by simp)).trans hxx.br.both); obtain ⟨k0, k1⟩ := hq2; have hq3 := cells3 ((hw'.2 bo (by simp)).trans hxx.box); obtain ⟨c0, c1, c2⟩ := hq3; clear hxx)
    go_simp
    with_reducible rfl
  simp only [Act.put, List.setIfInBounds_toArray, List.set_cons_zero, List.set_cons_succ]
  -- 18: slot 63
  refine wpH_takeH preGr (preKp _) (i := 18) (v := ?_) (some 63) (by kernel_rfl) rfl (by kernel_rfl) (by kernel_rfl) (by kernel_rfl) (fun _ _ _ h => h) (by rfl) (fun w' hw' => ?_) rfl ?_
  rotate_left
  · try (have hxx := HQ.out.gr HC.out; have hq2 := cells2 ((hw'.2 gb (by simp)).trans hxx.br.both); obtain ⟨k0, k1⟩ := hq2; have hq3 := cells3 ((hw'.2 bo (by simp)).trans hxx.box); obtain ⟨c0, c1, c2⟩ := hq3; clear hxx)
    try (have hxx := HQ5.out; have hq2 := cells2 ((hw'.2 gb (by simp)).trans hxx.br.both); obtain ⟨k0, k1⟩ := hq2; have hq3 := cells3 ((hw'.2 bo (by simp)).trans hxx.box); obtain ⟨c0, c1, c2⟩ := hq3; clear hxx)
    go_simp
    with_reducible rfl
  simp only [Act.put, List.setIfInBounds_toArray, List.set_cons_zero, List.set_cons_succ]
  -- 19: slot 64
  refine wpH_takeH preGr (preKp _) (i := 19) (v := ?_) (some 64) (by kernel_rfl) rfl (by kernel_rfl) (by kernel_rfl) (by kernel_rfl) (fun _ _ _ h => h) (by rfl) (fun w' hw' => ?_) rfl ?_
  rotate_left
  · try (have hxx := HQ.out.gr HC.out; have hq2 := cells2 ((hw'.2 gb (by simp)).trans hxx.br.both); obtain ⟨k0, k1⟩ := hq2; have hq3 := cells3 ((hw'.2 bo (by simp)).trans hxx.box); obtain ⟨c0, c1, c2⟩ := hq3; clear hxx)
    try (have hxx := HQ5.out; have hq2 := cells2 ((hw'.2 gb (by simp)).trans hxx.br.both); obtain ⟨k0, k1⟩ := hq2; have hq3 := cells3 ((hw'.2 bo (by simp)).trans hxx.box); obtain ⟨c0, c1, c2⟩ := hq3; clear hxx)
    go_simp
    with_reducible rfl
  simp only [Act.put, List.setIfInBounds_toArray, List.set_cons_zero, List.set_cons_succ]
  -- 20: slot 65
  refine wpH_takeH preGr (preKp _) (i := 20) (v := ?_) (some 65) (by kernel_rfl) rfl (by kernel_rfl) (by kernel_rfl) (by kernel_rfl) (fun _ _ _ h => h) (by rfl) (fun w' hw' => ?_) rfl ?_
  rotate_left
  · try (have hxx := HQ.out.gr HC.out; have hq2 := cells2 ((hw'.2 gb (by simp)).trans hxx.br.both); obtain ⟨k0, k1⟩ := hq2; have hq3 := cells3 ((hw'.2 bo (by simp)).trans hxx.box); obtain ⟨c0, c1, c2⟩ := hq3; clear hxx)
    try (have hxx := HQ5.out; have hq2 := cells2 ((hw'.2 gb (by simp)).trans hxx.br.both); obtain ⟨k0, k1⟩ := hq2; have hq3 := cells3 ((hw'.2 bo (by simp)).trans hxx.box); obtain ⟨c0, c1, c2⟩ := hq3; clear hxx)
    go_simp
    with_reducible rfl
  simp only [Act.put, List.setIfInBounds_toArray, List.set_cons_zero, List.set_cons_succ]
  -- 21: slot 66
  refine wpH_takeH preGr (preKp _) (i := 21) (v := ?_) (some 66) (by kernel_rfl) rfl (by kernel_rfl) (by kernel_rfl) (by kernel_rfl) (fun _ _ _ h => h) (by rfl) (fun w' hw' => ?_) rfl ?_
  rotate_left
  · try (have hxx := HQ.out.gr HC.out; have hq2 := cells2 ((hw'.2 gb (by simp)).trans hxx.br.both); obtain ⟨k0, k1⟩ := hq2; have hq3 := cells3 ((hw'.2 bo (by simp)).trans hxx.box); obtain ⟨c0, c1, c2⟩ := hq3; clear hxx)
    try (have hxx := HQ5.out; have hq2 := cells2 ((hw'.2 gb (by simp)).trans hxx.br.both); obtain ⟨k0, k1⟩ := hq2; have hq3 := cells3 ((hw'.2 bo (by simp)).trans hxx.box); obtain ⟨c0, c1, c2⟩ := hq3; clear hxx)
    go_simp
    with_reducible rfl
  simp only [Act.put, List.setIfInBounds_toArray, List.set_cons_zero, List.set_cons_succ]
  -- 22: slot 67
  refine wpH_takeH preGr (preKp _) (i := 22) (v := ?_) (some 67) (by kernel_rfl) rfl (by kernel_rfl) (by kernel_rfl) (by kernel_rfl) (fun _ _ _ h => h) (by rfl) (fun w' hw' => ?_) rfl ?_
  rotate_left
  · try (have hxx := HQ.out.gr HC.out; have hq2 := cells2 ((hw'.2 gb (by simp)).trans hxx.br.both); obtain ⟨k0, k1⟩ := hq2; have hq3 := cells3 ((hw'.2 bo (by simp)).trans hxx.box); obtain ⟨c0, c1, c2⟩ := hq3; clear hxx)
    try (have hxx := HQ5.out; have hq2 := cells2 ((hw'.2 gb (by simp)).trans hxx.br.both); obtain ⟨k0, k1⟩ := hq2; have hq3 := cells3 ((hw'.2 bo (by simp)).trans hxx.box); obtain ⟨c0, c1, c2⟩ := hq3; clear hxx)
    go_simp
    with_reducible rfl
  simp only [Act.put, List.setIfInBounds_toArray, List.set_cons_zero, List.set_cons_succ]
  -- 23: slot 68
  refine wpH_takeH preGr (preKp _) (i := 23) (v := ?_) (some 68) (by kernel_rfl) rfl (by kernel_rfl) (by kernel_rfl) (by kernel_rfl) (fun _ _ _ h => h) (by rfl) (fun w' hw' => ?_) rfl ?_
  rotate_left
  · try (have hxx := HQ.out.gr HC.out; have hq2 := cells2 ((hw'.2 gb (by simp)).trans hxx.br.both); obtain ⟨k0, k1⟩ := hq2; have hq3 := cells3 ((hw'.2 bo (by simp)).trans hxx.box); obtain ⟨c0, c1, c2⟩ := hq3; clear hxx)
    try (have hxx := HQ5.out; have hq2 := cells2 ((hw'.2 gb (by simp)).trans hxx.br.both); obtain ⟨k0, k1⟩ := hq2; have hq3 := cells3 ((hw'.2 bo (by simp)).trans hxx.box); obtain ⟨c0, c1, c2⟩ := hq3; clear hxx)
    go_simp
    with_reducible rfl
  simp only [Act.put, List.setIfInBounds_toArray, List.set_cons_zero, List.set_cons_succ]
  -- 25: slot 70
  refine wpH_takeH preGr (preKp _) (i := 25) (v := ?_) (some 70) (by kernel_rfl) rfl (by kernel_rfl) (by kernel_rfl) (by kernel_rfl) (fun _ _ _ h => h) (by rfl) (fun w' hw' => ?_) rfl ?_
  rotate_left
  · try (have hxx := HQ.out.gr HC.out; have hq2 := cells2 ((hw'.2 gb (by simp)).trans hxx.br.both); obtain ⟨k0, k1⟩ := hq2; have hq3 := cells3 ((hw'.2 bo (by simp)).trans hxx.box); obtain ⟨c0, c1, c2⟩ := hq3; clear hxx)
    try (have hxx := HQ5.out; have hq2 := cells2 ((hw'.2 gb (by simp)).trans hxx.br.both); obtain ⟨k0, k1⟩ := hq2; have hq3 := cells3 ((hw'.2 bo (by simp)).trans hxx.box); obtain ⟨c0, c1, c2⟩ := hq3; clear hxx)
    go_simp
    with_reducible rfl
  simp only [Act.put, List.setIfInBounds_toArray, List.set_cons_zero, List.set_cons_succ]
  -- 26: slot 71
  refine wpH_takeH preGr (preKp _) (i := 26) (v := ?_) (some 71) (by kernel_rfl) rfl (by kernel_rfl) (by kernel_rfl) (by kernel_rfl) (fun _ _ _ h => h) (by rfl) (fun w' hw' => ?_) rfl ?_
  rotate_left
  · try (have hxx := HQ.out.gr HC.out; have hq2 := cells2 ((hw'.2 gb (by simp)).trans hxx.br.both); obtain ⟨k0, k1⟩ := hq2; have hq3 := cells3 ((hw'.2 bo (by simp)).trans hxx.box); obtain ⟨c0, c1, c2⟩ := hq3; clear hxx)
    try (have hxx := HQ5.out; have hq2 := cells2 ((hw'.2 gb (by simp)).trans hxx.br.both); obtain ⟨k0, k1⟩ := hq2; have hq3 := cells3 ((hw'.2 bo (by simp)).trans hxx.box); obtain ⟨c0, c1, c2⟩ := hq3; clear hxx)
    go_simp
    with_reducible rfl
  simp only [Act.put, List.setIfInBounds_toArray, List.set_cons_zero, List.set_cons_succ]
  -- 27: slot 72
  refine wpH_takeH preGr (preKp _) (i := 27) (v := ?_) (some 72) (by kernel_rfl) rfl (by kernel_rfl) (by kernel_rfl) (by kernel_rfl) (fun _ _ _ h => h) (by rfl) (fun w' hw' => ?_) rfl ?_
  rotate_left
  · try (have hxx := HQ.out.gr HC.out; have hq2 := cells2 ((hw'.2 gb (by simp)).trans hxx.br.both); obtain ⟨k0, k1⟩ := hq2; have hq3 := cells3 ((hw'.2 bo (by simp)).trans hxx.box); obtain ⟨c0, c1, c2⟩ := hq3; clear hxx)
    try (have hxx := HQ5.out; have hq2 := cells2 ((hw'.2 gb (by simp)).trans hxx.br.both); obtain ⟨k0, k1⟩ := hq2; have hq3 := cells3 ((hw'.2 bo (by simp)).trans hxx.box); obtain ⟨c0, c1, c2⟩ := hq3; clear hxx)
    go_simp
    with_reducible rfl
  simp only [Act.put, List.setIfInBounds_toArray, List.set_cons_zero, List.set_cons_succ]
  -- 28: slot 73
  refine wpH_takeH preGr (preKp _) (i := 28) (v := ?_) (some 73) (by kernel_rfl) rfl (by kernel_rfl) (by kernel_rfl) (by kernel_rfl) (fun _ _ _ h => h) (by rfl) (fun w' hw' => ?_) rfl ?_
  rotate_left
  · try (have hxx := HQ.out.gr HC.out; have hq2 := cells2 ((hw'.2 gb (by simp)).trans hxx.br.both); obtain ⟨k0, k1⟩ := hq2; have hq3 := cells3 ((hw'.2 bo (by simp)).trans hxx.box); obtain ⟨c0, c1, c2⟩ := hq3; clear hxx)
    try (have hxx := HQ5.out; have hq2 := cells2 ((hw'.2 gb (by simp)).trans hxx.br.both); obtain ⟨k0, k1⟩ := hq2; have hq3 := cells3 ((hw'.2 bo (by simp)).trans hxx.box); obtain ⟨c0, c1, c2⟩ := hq3; clear hxx)
    go_simp
    with_reducible rfl
  simp only [Act.put, List.setIfInBounds_toArray, List.set_cons_zero, List.set_cons_succ]
  -- 29: slot 74
  refine wpH_takeH preGr (preKp _) (i := 29) (v := ?_) (some 74) (by kernel_rfl) rfl (by kernel_rfl) (by kernel_rfl) (by kernel_rfl) (fun _ _ _ h => h) (by rfl) (fun w' hw' => ?_) rfl ?_
  rotate_left
  · try (have hxx := HQ.out.gr HC.out; have hq2 := cells2 ((hw'.2 gb (by simp)).trans hxx.br.both); obtain ⟨k0, k1⟩ := hq2; have hq3 := cells3 ((hw'.2 bo (by simp)).trans hxx.box); obtain ⟨c0, c1, c2⟩ := hq3; clear hxx)
    try (have hxx := HQ5.out; have hq2 := cells2 ((hw'.2 gb (by simp)).trans hxx.br.both); obtain ⟨k0, k1⟩ := hq2; have hq3 := cells3 ((hw'.2 bo (by simp)).trans hxx.box); obtain ⟨c0, c1, c2⟩ := hq3; clear hxx)
    go_simp
    with_reducible rfl
  simp only [Act.put, List.setIfInBounds_toArray, List.set_cons_zero, List.set_cons_succ]
  -- 30: slot 75
  refine wpH_takeH preGr (preKp _) (i := 30) (v := ?_) (some 75) (by kernel_rfl) rfl (by kernel_rfl) (by kernel_rfl) (by kernel_rfl) (fun _ _ _ h => h) (by rfl) (fun w' hw' => ?_) rfl ?_
  rotate_left
  · try (have hxx := HQ.out.gr HC.out; have hq2 := cells2 ((hw'.2 gb (by simp)).trans hxx.br.both); obtain ⟨k0, k1⟩ := hq2; have hq3 := cells3 ((hw'.2 bo (by simp)).trans hxx.box); obtain ⟨c0, c1, c2⟩ := hq3; clear hxx)
    try (have hxx := HQ5.out; have hq2 := cells2 ((hw'.2 gb (by simp)).trans hxx.br.both); obtain ⟨k0, k1⟩ := hq2; have hq3 := cells3 ((hw'.2 bo (by simp)).trans hxx.box); obtain ⟨c0, c1, c2⟩ := hq3; clear hxx)
    go_simp
    with_reducible rfl
  simp only [Act.put, List.setIfInBounds_toArray, List.set_cons_zero, List.set_cons_succ]
  -- 31: slot 76
  refine wpH_takeH preGr (preKp _) (i := 31) (v := ?_) (some 76) (by kernel_rfl) rfl (by kernel_rfl) (by kernel_rfl) (by kernel_rfl) (fun _ _ _ h => h) (by rfl) (fun w' hw' => ?_) rfl ?_
  rotate_left
  · try (have hxx := HQ.out.gr HC.out; have hq2 := cells2 ((hw'.2 gb (by simp)).trans hxx.br.both); obtain ⟨k0, k1⟩ := hq2; have hq3 := cells3 ((hw'.2 bo (by simp)).trans hxx.box); obtain ⟨c0, c1, c2⟩ := hq3; clear hxx)
    try (have hxx := HQ5.out; have hq2 := cells2 ((hw'.2 gb (by simp)).trans hxx.br.both); obtain ⟨k0, k1⟩ := hq2; have hq3 := cells3 ((hw'.2 bo (by simp)).trans hxx.box); obtain ⟨c0, c1, c2⟩ := hq3; clear hxx)
    go_simp
    with_reducible rfl
  simp only [Act.put, List.setIfInBounds_toArray, List.set_cons_zero, List.set_cons_succ]
  -- 32: slot 77
  refine wpH_takeH preGr (preKp _) (i := 32) (v := ?_) (some 77) (by kernel_rfl) rfl (by kernel_rfl) (by kernel_rfl) (by kernel_rfl) (fun _ _ _ h => h) (by rfl) (fun w' hw' => ?_) rfl ?_
  rotate_left
  · try (have hxx := HQ.out.gr HC.out; have hq2 := cells2 ((hw'.2 gb (by simp)).trans hxx.br.both); obtain ⟨k0, k1⟩ := hq2; have hq3 := cells3 ((hw'.2 bo (by simp)).trans hxx.box); obtain ⟨c0, c1, c2⟩ := hq3; clear hxx)
    try (have hxx := HQ5.out; have hq2 := cells2 ((hw'.2 gb (by simp)).trans hxx.br.both); obtain ⟨k0, k1⟩ := hq2; have hq3 := cells3 ((hw'.2 bo (by simp)).trans hxx.box); obtain ⟨c0, c1, c2⟩ := hq3; clear hxx)
    go_simp
    with_reducible rfl
  simp only [Act.put, List.setIfInBounds_toArray, List.set_cons_zero, List.set_cons_succ]
  refine wpH_tail (i := 24) (by decide) rfl (by kernel_rfl) (by rfl) ?_
  go_simp
  refine (HT1.out wc HC.out).mono ?_
  rintro e w5 ⟨rfl, hk, m5, hq5⟩
  refine ⟨hk, ?_⟩
  have HQ5 := Lib.hid hq5
  clear hk hq5
  try simp only [Act.put, List.setIfInBounds_toArray, List.set_cons_zero, List.set_cons_succ]
  refine wpH_tail (i := 33) (by decide) rfl (by kernel_rfl) (by rfl) ?_
  go_simp
  refine (HT2.out w5 m5 HQ5.out).mono ?_
  rintro e w6 ⟨rfl, hk, r, u, e, hq6⟩
  refine ⟨hk, ?_⟩
  have HQ6 := Lib.hid hq6
  clear hk hq6
  try simp only [Act.put, List.setIfInBounds_toArray, List.set_cons_zero, List.set_cons_succ]
  refine wpH_tail (i := 34) (by decide) rfl (by kernel_rfl) (by rfl) ?_
  go_simp
  refine ⟨(pre_refl (preKp _) _), ?_⟩
  try simp only [Act.put, List.setIfInBounds_toArray, List.set_cons_zero, List.set_cons_succ]
  refine wpH_tail (i := 35) (by decide) rfl (by kernel_rfl) (by rfl) ?_
  go_simp
  refine ⟨(pre_refl (preKp _) _), ?_⟩
  try simp only [Act.put, List.setIfInBounds_toArray, List.set_cons_zero, List.set_cons_succ]
  refine wpH_tail (i := 36) (by decide) rfl (by kernel_rfl) (by rfl) ?_
  go_simp
  refine ⟨(pre_refl (preKp _) _), ?_⟩
  try simp only [Act.put, List.setIfInBounds_toArray, List.set_cons_zero, List.set_cons_succ]
  refine wpH_done (by kernel_rfl) ?_ _
  go_wp2_with fail
  go_ret
  exact ⟨rfl, g, gd, m5, r, u, e, T, HLH.out.1, HLH.out.2, HQ6.out.br⟩
theorem sizePA : (Try.prog.info? 32).map (·.size) = some 1 := by kernel_rfl
theorem sizePR : (Try.prog.info? 47).map (·.size) = some 1 := by kernel_rfl
set_option maxRecDepth 20000 in
set_option maxHeartbeats 8000000 in
theorem step_4 {W : World} {gb g gd : Nat} {m : Am} {rv uv ev : Value} {S : Al} (id x : Int) (w : World) (h : BR W w gb g gd m rv uv ev S S) (hl : S.high - S.low ≤ 12) :
    Calls Try.prog 11 #[.pointer (some ⟨gb, 0, none⟩), .agg #[.int .i64 4, .int .i64 id, .int .i64 x]] w fun e w' => e = .returned (.bool true) ∧ BX W w' gb S.low S.high := by
  have HSM := Lib.hid (h.la.al.ok.small hl)
  obtain ⟨bo, hbo⟩ : ∃ bo, bo = w.heap.size := ⟨_, rfl⟩
  have hq := BQ.begin #[.int .i64 4, .int .i64 id, .int .i64 x] h
  rw [← hbo] at hq
  obtain ⟨w1, hw1⟩ : ∃ w1, w1 = w.alloc (.cells #[.int .i64 4, .int .i64 id, .int .i64 x] 29) := ⟨_, rfl⟩
  have HW1 := Lib.hid hw1
  have HBO := Lib.hid hbo
  rw [← hw1] at hq
  have HQ := Lib.hid hq
  have HT1 : Hid (∀ w', Gr w1 w' → Calls Try.prog 22 #[.pointer (some ⟨g, 0, none⟩)] w' fun e wn => ∃ g', e = .returned (.pointer (some ⟨g', 0, none⟩)) ∧ ∃ m', AlAt wn g' m' S ∧ (∀ k ∈ Fm g' m', w'.heap.size ≤ k) ∧ Below w'.heap.size w' wn) := fun w' hw' => fork_any g w' (hq.gr hw').br.la.al
  have HT2 : Hid (∀ w', Gr w1 w' → Calls Try.prog 28 #[.pointer (some ⟨gd, 0, none⟩)] w' fun e wn => ∃ g' rv' uv' ev', e = .returned (.pointer (some ⟨g', 0, none⟩)) ∧ w'.heap.size ≤ g' ∧ DQ wn g' rv' uv' ev' S ∧ (∀ k ∈ Bd rv' uv' ev', w'.heap.size ≤ k) ∧ Below w'.heap.size w' wn) := fun w' hw' => by
    have h1 := HSM.out.1
    exact dfork_any gd w' (hq.gr hw').br.dq (by omega) (by omega) (by omega)
  clear h hl hq hbo hw1
  go_enter Try.func11, Try.ntmps11
  go_upto_region 1 with fail
  rw [← HW1.out, ← HBO.out]
  obtain ⟨c0, c1, c2⟩ := cells3 HQ.out.box
  go_upto_region 12 with fail
  have HC : Hid (Gr w1 w1.drew) := Gr.drew w1
  refine wp_region_G 10 Gr (by kernel_rfl) ?_
  generalize w1.drew = wc at HC ⊢
  -- 0: slot 100
  refine wpG_take preGr (i := 0) (v := ?_) (by kernel_rfl) (some 100) (by kernel_rfl) rfl (by kernel_rfl) (by kernel_rfl) (by kernel_rfl) (fun _ _ _ h => h) (by rfl) (fun w' hw' => ?_) rfl ?_
  rotate_left
  · try (have hxx := HQ.out.gr (Gr.trans HC.out hw'); have hq2 := cells2 hxx.br.both; obtain ⟨k0, k1⟩ := hq2; have hq3 := cells3 hxx.box; obtain ⟨c0, c1, c2⟩ := hq3; clear hxx)
    go_simp
    with_reducible rfl
  simp only [Act.put, List.setIfInBounds_toArray, List.set_cons_zero, List.set_cons_succ]
  -- 1: slot 101
  refine wpG_take preGr (i := 1) (v := ?_) (by kernel_rfl) (some 101) (by kernel_rfl) rfl (by kernel_rfl) (by kernel_rfl) (by kernel_rfl) (fun _ _ _ h => h) (by rfl) (fun w' hw' => ?_) rfl ?_
  rotate_left
  · try (have hxx := HQ.out.gr (Gr.trans HC.out hw'); have hq2 := cells2 hxx.br.both; obtain ⟨k0, k1⟩ := hq2; have hq3 := cells3 hxx.box; obtain ⟨c0, c1, c2⟩ := hq3; clear hxx)
    go_simp
    with_reducible rfl
  simp only [Act.put, List.setIfInBounds_toArray, List.set_cons_zero, List.set_cons_succ]
  -- 2: slot 102
  refine wpG_take preGr (i := 2) (v := ?_) (by kernel_rfl) (some 102) (by kernel_rfl) rfl (by kernel_rfl) (by kernel_rfl) (by kernel_rfl) (fun _ _ _ h => h) (by rfl) (fun w' hw' => ?_) rfl ?_
  rotate_left
  · try (have hxx := HQ.out.gr (Gr.trans HC.out hw'); have hq2 := cells2 hxx.br.both; obtain ⟨k0, k1⟩ := hq2; have hq3 := cells3 hxx.box; obtain ⟨c0, c1, c2⟩ := hq3; clear hxx)
    go_simp
    with_reducible rfl
  simp only [Act.put, List.setIfInBounds_toArray, List.set_cons_zero, List.set_cons_succ]
  -- 3: slot 103
  refine wpG_take preGr (i := 3) (v := ?_) (by kernel_rfl) (some 103) (by kernel_rfl) rfl (by kernel_rfl) (by kernel_rfl) (by kernel_rfl) (fun _ _ _ h => h) (by rfl) (fun w' hw' => ?_) rfl ?_
  rotate_left
  · try (have hxx := HQ.out.gr (Gr.trans HC.out hw'); have hq2 := cells2 hxx.br.both; obtain ⟨k0, k1⟩ := hq2; have hq3 := cells3 hxx.box; obtain ⟨c0, c1, c2⟩ := hq3; clear hxx)
    go_simp
    with_reducible rfl
  simp only [Act.put, List.setIfInBounds_toArray, List.set_cons_zero, List.set_cons_succ]
  -- 4: slot 104
  refine wpG_take preGr (i := 4) (v := ?_) (by kernel_rfl) (some 104) (by kernel_rfl) rfl (by kernel_rfl) (by kernel_rfl) (by kernel_rfl) (fun _ _ _ h => h) (by rfl) (fun w' hw' => ?_) rfl ?_
  rotate_left
  · try (have hxx := HQ.out.gr (Gr.trans HC.out hw'); have hq2 := cells2 hxx.br.both; obtain ⟨k0, k1⟩ := hq2; have hq3 := cells3 hxx.box; obtain ⟨c0, c1, c2⟩ := hq3; clear hxx)
    go_simp
    with_reducible rfl
  simp only [Act.put, List.setIfInBounds_toArray, List.set_cons_zero, List.set_cons_succ]
  -- 5: slot 105
  refine wpG_take preGr (i := 5) (v := ?_) (by kernel_rfl) (some 105) (by kernel_rfl) rfl (by kernel_rfl) (by kernel_rfl) (by kernel_rfl) (fun _ _ _ h => h) (by rfl) (fun w' hw' => ?_) rfl ?_
  rotate_left
  · try (have hxx := HQ.out.gr (Gr.trans HC.out hw'); have hq2 := cells2 hxx.br.both; obtain ⟨k0, k1⟩ := hq2; have hq3 := cells3 hxx.box; obtain ⟨c0, c1, c2⟩ := hq3; clear hxx)
    go_simp
    with_reducible rfl
  simp only [Act.put, List.setIfInBounds_toArray, List.set_cons_zero, List.set_cons_succ]
  -- 6: slot 106
  refine wpG_take preGr (i := 6) (v := ?_) (by kernel_rfl) (some 106) (by kernel_rfl) rfl (by kernel_rfl) (by kernel_rfl) (by kernel_rfl) (fun _ _ _ h => h) (by rfl) (fun w' hw' => ?_) rfl ?_
  rotate_left
  · try (have hxx := HQ.out.gr (Gr.trans HC.out hw'); have hq2 := cells2 hxx.br.both; obtain ⟨k0, k1⟩ := hq2; have hq3 := cells3 hxx.box; obtain ⟨c0, c1, c2⟩ := hq3; clear hxx)
    go_simp
    with_reducible rfl
  simp only [Act.put, List.setIfInBounds_toArray, List.set_cons_zero, List.set_cons_succ]
  -- 7: slot 107
  refine wpG_take preGr (i := 7) (v := ?_) (by kernel_rfl) (some 107) (by kernel_rfl) rfl (by kernel_rfl) (by kernel_rfl) (by kernel_rfl) (fun _ _ _ h => h) (by rfl) (fun w' hw' => ?_) rfl ?_
  rotate_left
  · try (have hxx := HQ.out.gr (Gr.trans HC.out hw'); have hq2 := cells2 hxx.br.both; obtain ⟨k0, k1⟩ := hq2; have hq3 := cells3 hxx.box; obtain ⟨c0, c1, c2⟩ := hq3; clear hxx)
    go_simp
    with_reducible rfl
  simp only [Act.put, List.setIfInBounds_toArray, List.set_cons_zero, List.set_cons_succ]
  -- 8: slot 9
  refine wpG_take preGr (i := 8) (v := ?_) (by kernel_rfl) (some 9) (by kernel_rfl) rfl (by kernel_rfl) (by kernel_rfl) (by kernel_rfl) (fun _ _ _ h => h) (by rfl) (fun w' hw' => ?_) rfl ?_
  rotate_left
  · try (have hxx := HQ.out.gr (Gr.trans HC.out hw'); have hq2 := cells2 hxx.br.both; obtain ⟨k0, k1⟩ := hq2; have hq3 := cells3 hxx.box; obtain ⟨c0, c1, c2⟩ := hq3; clear hxx)
    go_simp
    with_reducible rfl
  simp only [Act.put, List.setIfInBounds_toArray, List.set_cons_zero, List.set_cons_succ]
  -- 9: slot 10
  refine wpG_take preGr (i := 9) (v := ?_) (by kernel_rfl) (some 10) (by kernel_rfl) rfl (by kernel_rfl) (by kernel_rfl) (by kernel_rfl) (fun _ _ _ h => h) (by rfl) (fun w' hw' => ?_) rfl ?_
  rotate_left
  · try (have hxx := HQ.out.gr (Gr.trans HC.out hw'); have hq2 := cells2 hxx.br.both; obtain ⟨k0, k1⟩ := hq2; have hq3 := cells3 hxx.box; obtain ⟨c0, c1, c2⟩ := hq3; clear hxx)
    go_simp
    with_reducible rfl
  simp only [Act.put, List.setIfInBounds_toArray, List.set_cons_zero, List.set_cons_succ]
  refine wpG_done (by kernel_rfl) ?_ _
  obtain ⟨w2, hw2⟩ : ∃ x, x = wc := ⟨_, rfl⟩
  subst hw2
  have HQ2 := Lib.hid (HQ.out.gr HC.out)
  have HC2 := HC
  clear HC c0 c1 c2 HQ
  go_upto_region 13 with fail
  have HC : Hid (Gr w2 w2.drew) := Gr.drew w2
  refine wp_region_H 14 Gr Any (by kernel_rfl) ?_
  generalize w2.drew = wc at HC ⊢
  -- 0: slot 108
  refine wpH_take preGr preAny (i := 0) (v := ?_) (by kernel_rfl) (some 108) (by kernel_rfl) rfl (by kernel_rfl) (by kernel_rfl) (by kernel_rfl) (fun _ _ _ h => h) (by rfl) (fun w' hw' => ?_) rfl ?_
  rotate_left
  · try (have hxx := HQ2.out.gr (Gr.trans HC.out hw'); have hq2 := cells2 hxx.br.both; obtain ⟨k0, k1⟩ := hq2; have hq3 := cells3 hxx.box; obtain ⟨c0, c1, c2⟩ := hq3; clear hxx)
    go_simp
    with_reducible rfl
  simp only [Act.put, List.setIfInBounds_toArray, List.set_cons_zero, List.set_cons_succ]
  -- 1: slot 109
  refine wpH_takeH preGr preAny (i := 1) (v := ?_) (some 109) (by kernel_rfl) rfl (by kernel_rfl) (by kernel_rfl) (by kernel_rfl) (fun _ _ _ h => h) (by rfl) (fun w' hw' => ?_) rfl ?_
  rotate_left
  · go_simp
    with_reducible rfl
  simp only [Act.put, List.setIfInBounds_toArray, List.set_cons_zero, List.set_cons_succ]
  -- 2: slot 110
  refine wpH_take preGr preAny (i := 2) (v := ?_) (by kernel_rfl) (some 110) (by kernel_rfl) rfl (by kernel_rfl) (by kernel_rfl) (by kernel_rfl) (fun _ _ _ h => h) (by rfl) (fun w' hw' => ?_) rfl ?_
  rotate_left
  · try (have hxx := HQ2.out.gr (Gr.trans HC.out hw'); have hq2 := cells2 hxx.br.both; obtain ⟨k0, k1⟩ := hq2; have hq3 := cells3 hxx.box; obtain ⟨c0, c1, c2⟩ := hq3; clear hxx)
    go_simp
    with_reducible rfl
  simp only [Act.put, List.setIfInBounds_toArray, List.set_cons_zero, List.set_cons_succ]
  -- 3: slot 111
  refine wpH_take preGr preAny (i := 3) (v := ?_) (by kernel_rfl) (some 111) (by kernel_rfl) rfl (by kernel_rfl) (by kernel_rfl) (by kernel_rfl) (fun _ _ _ h => h) (by rfl) (fun w' hw' => ?_) rfl ?_
  rotate_left
  · try (have hxx := HQ2.out.gr (Gr.trans HC.out hw'); have hq2 := cells2 hxx.br.both; obtain ⟨k0, k1⟩ := hq2; have hq3 := cells3 hxx.box; obtain ⟨c0, c1, c2⟩ := hq3; clear hxx)
    go_simp
    with_reducible rfl
  simp only [Act.put, List.setIfInBounds_toArray, List.set_cons_zero, List.set_cons_succ]
  -- 4: slot 112
  refine wpH_take preGr preAny (i := 4) (v := ?_) (by kernel_rfl) (some 112) (by kernel_rfl) rfl (by kernel_rfl) (by kernel_rfl) (by kernel_rfl) (fun _ _ _ h => h) (by rfl) (fun w' hw' => ?_) rfl ?_
  rotate_left
  · try (have hxx := HQ2.out.gr (Gr.trans HC.out hw'); have hq2 := cells2 hxx.br.both; obtain ⟨k0, k1⟩ := hq2; have hq3 := cells3 hxx.box; obtain ⟨c0, c1, c2⟩ := hq3; clear hxx)
    go_simp
    with_reducible rfl
  simp only [Act.put, List.setIfInBounds_toArray, List.set_cons_zero, List.set_cons_succ]
  -- 5: slot 113
  refine wpH_take preGr preAny (i := 5) (v := ?_) (by kernel_rfl) (some 113) (by kernel_rfl) rfl (by kernel_rfl) (by kernel_rfl) (by kernel_rfl) (fun _ _ _ h => h) (by rfl) (fun w' hw' => ?_) rfl ?_
  rotate_left
  · try (have hxx := HQ2.out.gr (Gr.trans HC.out hw'); have hq2 := cells2 hxx.br.both; obtain ⟨k0, k1⟩ := hq2; have hq3 := cells3 hxx.box; obtain ⟨c0, c1, c2⟩ := hq3; clear hxx)
    go_simp
    with_reducible rfl
  simp only [Act.put, List.setIfInBounds_toArray, List.set_cons_zero, List.set_cons_succ]
  -- 7: slot 115
  refine wpH_take preGr preAny (i := 7) (v := ?_) (by kernel_rfl) (some 115) (by kernel_rfl) rfl (by kernel_rfl) (by kernel_rfl) (by kernel_rfl) (fun _ _ _ h => h) (by rfl) (fun w' hw' => ?_) rfl ?_
  rotate_left
  · try (have hxx := HQ2.out.gr (Gr.trans HC.out hw'); have hq2 := cells2 hxx.br.both; obtain ⟨k0, k1⟩ := hq2; have hq3 := cells3 hxx.box; obtain ⟨c0, c1, c2⟩ := hq3; clear hxx)
    go_simp
    with_reducible rfl
  simp only [Act.put, List.setIfInBounds_toArray, List.set_cons_zero, List.set_cons_succ]
  -- 8: slot 116
  refine wpH_take preGr preAny (i := 8) (v := ?_) (by kernel_rfl) (some 116) (by kernel_rfl) rfl (by kernel_rfl) (by kernel_rfl) (by kernel_rfl) (fun _ _ _ h => h) (by rfl) (fun w' hw' => ?_) rfl ?_
  rotate_left
  · try (have hxx := HQ2.out.gr (Gr.trans HC.out hw'); have hq2 := cells2 hxx.br.both; obtain ⟨k0, k1⟩ := hq2; have hq3 := cells3 hxx.box; obtain ⟨c0, c1, c2⟩ := hq3; clear hxx)
    go_simp
    with_reducible rfl
  simp only [Act.put, List.setIfInBounds_toArray, List.set_cons_zero, List.set_cons_succ]
  -- 9: slot 117
  refine wpH_take preGr preAny (i := 9) (v := ?_) (by kernel_rfl) (some 117) (by kernel_rfl) rfl (by kernel_rfl) (by kernel_rfl) (by kernel_rfl) (fun _ _ _ h => h) (by rfl) (fun w' hw' => ?_) rfl ?_
  rotate_left
  · try (have hxx := HQ2.out.gr (Gr.trans HC.out hw'); have hq2 := cells2 hxx.br.both; obtain ⟨k0, k1⟩ := hq2; have hq3 := cells3 hxx.box; obtain ⟨c0, c1, c2⟩ := hq3; clear hxx)
    go_simp
    with_reducible rfl
  simp only [Act.put, List.setIfInBounds_toArray, List.set_cons_zero, List.set_cons_succ]
  -- 10: slot 118
  refine wpH_take preGr preAny (i := 10) (v := ?_) (by kernel_rfl) (some 118) (by kernel_rfl) rfl (by kernel_rfl) (by kernel_rfl) (by kernel_rfl) (fun _ _ _ h => h) (by rfl) (fun w' hw' => ?_) rfl ?_
  rotate_left
  · try (have hxx := HQ2.out.gr (Gr.trans HC.out hw'); have hq2 := cells2 hxx.br.both; obtain ⟨k0, k1⟩ := hq2; have hq3 := cells3 hxx.box; obtain ⟨c0, c1, c2⟩ := hq3; clear hxx)
    go_simp
    with_reducible rfl
  simp only [Act.put, List.setIfInBounds_toArray, List.set_cons_zero, List.set_cons_succ]
  refine wpH_one (i := 6) rfl (by kernel_rfl) (by rfl) ?_
  go_simp
  refine (HT1.out wc (Gr.trans HC2.out HC.out)).mono ?_
  rintro e wn ⟨g', rfl, m', ha, hn, hb⟩
  refine ⟨hb, trivial, ?_⟩
  have HA : Hid (AlAt wn g' m' S ∧ (∀ k ∈ Fm g' m', w2.heap.size ≤ k) ∧ Below w2.heap.size w2 wn) := ⟨ha, fun k hk => Nat.le_trans HC.out.size (hn k hk), Gr.trans HC.out hb⟩
  have HC' : Hid (Gr w2 wn) := Gr.trans HC.out hb
  clear HC hb ha hn
  have HC := HC'
  clear HC'
  obtain ⟨w3, hw3⟩ : ∃ x, x = wn := ⟨_, rfl⟩
  subst hw3
  obtain ⟨wc, hwc⟩ : ∃ x, x = w3 := ⟨_, rfl⟩
  have HG3 : Hid (Gr w3 wc) := by show Gr _ _; rw [hwc]; exact Gr.refl _
  rw [← hwc] at HC ⊢
  clear hwc
  try simp only [Act.put, List.setIfInBounds_toArray, List.set_cons_zero, List.set_cons_succ]
  refine wpH_one (i := 11) rfl (by kernel_rfl) (by rfl) ?_
  go_simp
  refine (HT2.out wc (Gr.trans HC2.out HC.out)).mono ?_
  rintro e wn ⟨gd', r, u, e, rfl, hg, hd, hn, hb⟩
  refine ⟨hb, trivial, ?_⟩
  have HD : Hid (DQ wn gd' r u e S ∧ w3.heap.size ≤ gd' ∧ (∀ k ∈ Bd r u e, w3.heap.size ≤ k) ∧ Below w3.heap.size w3 wn) := ⟨hd, Nat.le_trans HG3.out.size hg, fun k hk => Nat.le_trans HG3.out.size (hn k hk), Gr.trans HG3.out hb⟩
  have HC' : Hid (Gr w2 wn) := Gr.trans HC.out hb
  clear HC hb hg hd hn
  have HC := HC'
  clear HC'
  obtain ⟨wc, hwc⟩ : ∃ x, x = wn := ⟨_, rfl⟩
  subst hwc
  try simp only [Act.put, List.setIfInBounds_toArray, List.set_cons_zero, List.set_cons_succ]
  -- 12: slot 120
  refine wpH_take preGr preAny (i := 12) (v := ?_) (by kernel_rfl) (some 120) (by kernel_rfl) rfl (by kernel_rfl) (by kernel_rfl) (by kernel_rfl) (fun _ _ _ h => h) (by rfl) (fun w' hw' => ?_) rfl ?_
  rotate_left
  · try (have hxx := HQ2.out.gr (Gr.trans HC.out hw'); have hq2 := cells2 hxx.br.both; obtain ⟨k0, k1⟩ := hq2; have hq3 := cells3 hxx.box; obtain ⟨c0, c1, c2⟩ := hq3; clear hxx)
    go_simp
    with_reducible rfl
  simp only [Act.put, List.setIfInBounds_toArray, List.set_cons_zero, List.set_cons_succ]
  -- 13: slot 121
  refine wpH_take preGr preAny (i := 13) (v := ?_) (by kernel_rfl) (some 121) (by kernel_rfl) rfl (by kernel_rfl) (by kernel_rfl) (by kernel_rfl) (fun _ _ _ h => h) (by rfl) (fun w' hw' => ?_) rfl ?_
  rotate_left
  · try (have hxx := HQ2.out.gr (Gr.trans HC.out hw'); have hq2 := cells2 hxx.br.both; obtain ⟨k0, k1⟩ := hq2; have hq3 := cells3 hxx.box; obtain ⟨c0, c1, c2⟩ := hq3; clear hxx)
    go_simp
    with_reducible rfl
  simp only [Act.put, List.setIfInBounds_toArray, List.set_cons_zero, List.set_cons_succ]
  refine wpH_tail (i := 14) (by decide) rfl (by kernel_rfl) (by rfl) ?_
  refine wp_store_cell (none) 32 (.tmp 121) (.tmp 114) rfl gb 0 (.pointer (some ⟨g', 0, none⟩)) rfl rfl 49 [.pointer (some ⟨g, 0, none⟩), .pointer (some ⟨gd, 0, none⟩)] (HQ2.out.gr HC.out).br.both sizePA (by simp) rfl rfl ?_
  intro w5 h5 ho5
  refine ⟨trivial, ?_⟩
  have H5 : Hid (w5.heap[gb]? = some (.cells #[.pointer (some ⟨g', 0, none⟩), .pointer (some ⟨gd, 0, none⟩)] 49 (0, 0))) := h5
  have HO5 := Lib.hid ho5
  clear h5 ho5
  try simp only [Act.put, List.setIfInBounds_toArray, List.set_cons_zero, List.set_cons_succ]
  refine wpH_tail (i := 15) (by decide) rfl (by kernel_rfl) (by rfl) ?_
  go_simp
  refine ⟨(pre_refl preAny _), ?_⟩
  try simp only [Act.put, List.setIfInBounds_toArray, List.set_cons_zero, List.set_cons_succ]
  refine wpH_tail (i := 16) (by decide) rfl (by kernel_rfl) (by rfl) ?_
  go_simp
  refine ⟨(pre_refl preAny _), ?_⟩
  try simp only [Act.put, List.setIfInBounds_toArray, List.set_cons_zero, List.set_cons_succ]
  refine wpH_tail (i := 17) (by decide) rfl (by kernel_rfl) (by rfl) ?_
  refine wp_store_cell (none) 47 (.tmp 123) (.tmp 119) rfl gb 1 (.pointer (some ⟨gd', 0, none⟩)) rfl rfl 49 [.pointer (some ⟨g', 0, none⟩), .pointer (some ⟨gd, 0, none⟩)] H5.out sizePR (by simp) rfl rfl ?_
  intro w6 h6 ho6
  refine ⟨trivial, ?_⟩
  have H6 : Hid (w6.heap[gb]? = some (.cells #[.pointer (some ⟨g', 0, none⟩), .pointer (some ⟨gd', 0, none⟩)] 49 (0, 0))) := h6
  have HO6 := Lib.hid ho6
  clear h6 ho6
  try simp only [Act.put, List.setIfInBounds_toArray, List.set_cons_zero, List.set_cons_succ]
  refine wpH_done (by kernel_rfl) ?_ _
  have HF := Lib.hid (FQ4.of HQ2.out HA.out.2.2 HA.out.1 HA.out.2.1 HD.out.2.2.2 HD.out.1 HD.out.2.1 HD.out.2.2.1 HO5.out HO6.out H6.out)
  clear HA HD HO5 HO6 H5 HG3 HC HQ2
  obtain ⟨k0, k1⟩ := cells2 H6.out
  obtain ⟨c0, c1, c2⟩ := cells3 HF.out.box
  go_wp2_with fail
  refine (HF.out.old x).mono ?_
  rintro e w7 ⟨rfl, hr7, hd7, hx7⟩
  clear k0 k1 c0 c1 c2
  obtain ⟨c0, c1, c2⟩ := cells3 hx7
  have HR7 := Lib.hid hr7
  have HD7 := Lib.hid hd7
  clear hr7 hd7 hx7
  go_wp2_with fail
  refine (HF.out.dold HSM.out x HR7.out HD7.out).mono ?_
  rintro e w8 ⟨rfl, hr8⟩
  have HR8 := Lib.hid hr8
  clear hr8
  go_wp2_with fail
  go_ret
  exact ⟨rfl, g', gd', m', r, u, _, S, rfl, rfl, HR8.out⟩
end Go.Proofs.Ytpafcabcnkmadaa.Id
