/-
  ring.push of those that rest.
-/
import Derived.Test.YtpafcabcnkmadaaIdI
namespace Go.Proofs.Ytpafcabcnkmadaa.Id
open Go.RowKit
set_option linter.unusedVariables false
set_option linter.unusedSimpArgs false

set_option maxRecDepth 20000 in
set_option maxHeartbeats 4000000 in
theorem push_r (g : Nat) {m : Am} (x : Int × Int) (w : World) (h : AmAt w g m) (hn : m.rl.length ≤ 65534) :
    Calls Try.prog 40 #[.pointer (some ⟨g, 6, none⟩), pairV x] w fun e w' => e = .returned (.tuple #[]) ∧ Goes g m w { m.sh with rl := m.rl ++ [x] } w' := by
  have hb0 : Below w.heap.size w (w.alloc (.cells #[.int .i64 x.1, .int .i64 x.2] 54)) := (Below.refl _ _).alloc (Nat.le_refl _) _
  have HX : Hid ((w.alloc (.cells #[.int .i64 x.1, .int .i64 x.2] 54)).heap[w.heap.size]? = some (.cells #[.int .i64 x.1, .int .i64 x.2] 54 (0, 0))) := heap_alloc_last _ _
  have HLTW : Hid (∀ k ∈ Fm g m, k < w.heap.size) := h.lt
  have h' := h.gr hb0
  have HB0 := Lib.hid hb0
  clear h hb0
  have h := h'
  clear h'
  unfold pairV
  have HH := Lib.hid h
  have HNN := Lib.hid hn
  obtain ⟨a, n, c, ev, hnl⟩ : ∃ a n c, m.rv = .slice a n c ∧ n = m.rc.length := by
    obtain ⟨a, c, e, _⟩ := (own_rd h.ro).shape
    exact ⟨a, _, c, e, rfl⟩
  have HEV := Lib.hid ev
  obtain ⟨N, hN⟩ : ∃ N, N = m.rl.length := ⟨_, rfl⟩
  have HN := Lib.hid hN
  have HNL := Lib.hid hnl
  have hle : N ≤ n := by rw [hN, hnl]; exact h.rr.few
  clear h hn ev hN hnl
  go_enter Try.func40, Try.ntmps40
  go_upto_region 1 with fail
  obtain ⟨w0, hw0⟩ : ∃ ww, ww = w.alloc (.cells #[.int .i64 x.1, .int .i64 x.2] 54) := ⟨_, rfl⟩
  rw [← hw0] at HX HH HB0 ⊢
  clear hw0
  obtain ⟨bx, hbx⟩ : ∃ b, b = w.heap.size := ⟨_, rfl⟩
  rw [← hbx] at HX ⊢
  have HBX := Lib.hid hbx
  clear hbx
  have HC : Hid (Gr w0 w0.drew) := Gr.drew w0
  refine wp_region_G 10 Gr (by kernel_rfl) ?_
  generalize w0.drew = wc at HC ⊢
  -- 0: slot 4
  refine wpG_take preGr (i := 0) (v := ?_) (by kernel_rfl) (some 4) (by kernel_rfl) rfl (by kernel_rfl) (by kernel_rfl) (by kernel_rfl) (fun _ _ _ h => h) (by rfl) (fun w' hw' => ?_) rfl ?_
  rotate_left
  · try (have hxx := cells11 (HH.out.gr (Gr.trans HC.out hw')).row; obtain ⟨k0, k1, k2, k3, k4, k5, k6, k7, k8, k9, k10⟩ := hxx; rw [HEV.out] at k6; rw [← HN.out] at k8)
    go_simp
    with_reducible rfl
  simp only [Act.put, List.setIfInBounds_toArray, List.set_cons_zero, List.set_cons_succ]
  -- 1: slot 5
  refine wpG_take preGr (i := 1) (v := ?_) (by kernel_rfl) (some 5) (by kernel_rfl) rfl (by kernel_rfl) (by kernel_rfl) (by kernel_rfl) (fun _ _ _ h => h) (by rfl) (fun w' hw' => ?_) rfl ?_
  rotate_left
  · try (have hxx := cells11 (HH.out.gr (Gr.trans HC.out hw')).row; obtain ⟨k0, k1, k2, k3, k4, k5, k6, k7, k8, k9, k10⟩ := hxx; rw [HEV.out] at k6; rw [← HN.out] at k8)
    go_simp
    with_reducible rfl
  simp only [Act.put, List.setIfInBounds_toArray, List.set_cons_zero, List.set_cons_succ]
  -- 2: slot 6
  refine wpG_take preGr (i := 2) (v := ?_) (by kernel_rfl) (some 6) (by kernel_rfl) rfl (by kernel_rfl) (by kernel_rfl) (by kernel_rfl) (fun _ _ _ h => h) (by rfl) (fun w' hw' => ?_) rfl ?_
  rotate_left
  · try (have hxx := cells11 (HH.out.gr (Gr.trans HC.out hw')).row; obtain ⟨k0, k1, k2, k3, k4, k5, k6, k7, k8, k9, k10⟩ := hxx; rw [HEV.out] at k6; rw [← HN.out] at k8)
    go_simp
    with_reducible rfl
  simp only [Act.put, List.setIfInBounds_toArray, List.set_cons_zero, List.set_cons_succ]
  -- 3: slot 7
  refine wpG_take preGr (i := 3) (v := ?_) (by kernel_rfl) (some 7) (by kernel_rfl) rfl (by kernel_rfl) (by kernel_rfl) (by kernel_rfl) (fun _ _ _ h => h) (by rfl) (fun w' hw' => ?_) rfl ?_
  rotate_left
  · try (have hxx := cells11 (HH.out.gr (Gr.trans HC.out hw')).row; obtain ⟨k0, k1, k2, k3, k4, k5, k6, k7, k8, k9, k10⟩ := hxx; rw [HEV.out] at k6; rw [← HN.out] at k8)
    go_simp
    with_reducible rfl
  simp only [Act.put, List.setIfInBounds_toArray, List.set_cons_zero, List.set_cons_succ]
  -- 4: slot 8
  refine wpG_take preGr (i := 4) (v := ?_) (by kernel_rfl) (some 8) (by kernel_rfl) rfl (by kernel_rfl) (by kernel_rfl) (by kernel_rfl) (fun _ _ _ h => h) (by rfl) (fun w' hw' => ?_) rfl ?_
  rotate_left
  · try (have hxx := cells11 (HH.out.gr (Gr.trans HC.out hw')).row; obtain ⟨k0, k1, k2, k3, k4, k5, k6, k7, k8, k9, k10⟩ := hxx; rw [HEV.out] at k6; rw [← HN.out] at k8)
    go_simp
    with_reducible rfl
  simp only [Act.put, List.setIfInBounds_toArray, List.set_cons_zero, List.set_cons_succ]
  -- 5: slot 9
  refine wpG_take preGr (i := 5) (v := ?_) (by kernel_rfl) (some 9) (by kernel_rfl) rfl (by kernel_rfl) (by kernel_rfl) (by kernel_rfl) (fun _ _ _ h => h) (by rfl) (fun w' hw' => ?_) rfl ?_
  rotate_left
  · try (have hxx := cells11 (HH.out.gr (Gr.trans HC.out hw')).row; obtain ⟨k0, k1, k2, k3, k4, k5, k6, k7, k8, k9, k10⟩ := hxx; rw [HEV.out] at k6; rw [← HN.out] at k8)
    go_simp
    with_reducible rfl
  simp only [Act.put, List.setIfInBounds_toArray, List.set_cons_zero, List.set_cons_succ]
  -- 6: slot 10
  refine wpG_take preGr (i := 6) (v := ?_) (by kernel_rfl) (some 10) (by kernel_rfl) rfl (by kernel_rfl) (by kernel_rfl) (by kernel_rfl) (fun _ _ _ h => h) (by rfl) (fun w' hw' => ?_) rfl ?_
  rotate_left
  · try (have hxx := cells11 (HH.out.gr (Gr.trans HC.out hw')).row; obtain ⟨k0, k1, k2, k3, k4, k5, k6, k7, k8, k9, k10⟩ := hxx; rw [HEV.out] at k6; rw [← HN.out] at k8)
    go_simp
    with_reducible rfl
  simp only [Act.put, List.setIfInBounds_toArray, List.set_cons_zero, List.set_cons_succ]
  -- 7: slot 11
  refine wpG_take preGr (i := 7) (v := ?_) (by kernel_rfl) (some 11) (by kernel_rfl) rfl (by kernel_rfl) (by kernel_rfl) (by kernel_rfl) (fun _ _ _ h => h) (by rfl) (fun w' hw' => ?_) rfl ?_
  rotate_left
  · try (have hxx := cells11 (HH.out.gr (Gr.trans HC.out hw')).row; obtain ⟨k0, k1, k2, k3, k4, k5, k6, k7, k8, k9, k10⟩ := hxx; rw [HEV.out] at k6; rw [← HN.out] at k8)
    go_simp
    with_reducible rfl
  simp only [Act.put, List.setIfInBounds_toArray, List.set_cons_zero, List.set_cons_succ]
  -- 8: slot 12
  refine wpG_take preGr (i := 8) (v := ?_) (by kernel_rfl) (some 12) (by kernel_rfl) rfl (by kernel_rfl) (by kernel_rfl) (by kernel_rfl) (fun _ _ _ h => h) (by rfl) (fun w' hw' => ?_) rfl ?_
  rotate_left
  · try (have hxx := cells11 (HH.out.gr (Gr.trans HC.out hw')).row; obtain ⟨k0, k1, k2, k3, k4, k5, k6, k7, k8, k9, k10⟩ := hxx; rw [HEV.out] at k6; rw [← HN.out] at k8)
    go_simp
    with_reducible rfl
  simp only [Act.put, List.setIfInBounds_toArray, List.set_cons_zero, List.set_cons_succ]
  -- 9: slot 13
  refine wpG_take preGr (i := 9) (v := ?_) (by kernel_rfl) (some 13) (by kernel_rfl) rfl (by kernel_rfl) (by kernel_rfl) (by kernel_rfl) (fun _ _ _ h => h) (by rfl) (fun w' hw' => ?_) rfl ?_
  rotate_left
  · try (have hxx := cells11 (HH.out.gr (Gr.trans HC.out hw')).row; obtain ⟨k0, k1, k2, k3, k4, k5, k6, k7, k8, k9, k10⟩ := hxx; rw [HEV.out] at k6; rw [← HN.out] at k8)
    go_simp
    with_reducible rfl
  simp only [Act.put, List.setIfInBounds_toArray, List.set_cons_zero, List.set_cons_succ]
  refine wpG_done (by kernel_rfl) ?_ _
  go_upto_if 13 with fail
  go_cut [13, 14, 15] (fun _ _ _ wx => ∃ m1, Hid (AmAt wx g m1) ∧ Hid (Stp g m m1 w wx) ∧ Hid (wx.heap[bx]? = some (.cells #[.int .i64 x.1, .int .i64 x.2] 54 (0, 0))) ∧ Hid (m1.sh = m.sh) ∧ Hid (m1.rl.length < m1.rc.length))
  case first =>
    by_cases hfull : N = n
    · have hd : ((N : Int) == (n : Int)) = true := by rw [hfull]; simp
      have HG := Lib.hid (grow_r g wc (HH.out.gr HC.out) HNN.out)
      go_wp2_with fail
      refine HG.out.mono ?_
      rintro e w2 ⟨rfl, v, ha, hs⟩
      have HX2 : Hid (w2.heap[bx]? = some (.cells #[.int .i64 x.1, .int .i64 x.2] 54 (0, 0))) := hs.tr.heap (heap_gr HC.out HX.out) (fun hk => by have := HLTW.out _ hk; have := HBX.out; omega)
      have HA := Lib.hid ha
      have HS := Lib.hid (((Stp.gr HB0.out).trans (Stp.gr HC.out)).trans hs)
      clear ha hs HG
      go_wp2_with fail
      go_meet
      exact ⟨_, HA, HS, HX2, rfl, by show _ < _; simp [Am.growR]⟩
    · have hd : ((N : Int) == (n : Int)) = false := by rw [beq_eq_false_iff_ne]; omega
      go_wp2_with fail
      go_meet
      exact ⟨m, HH.out.gr HC.out, (Stp.gr HB0.out).trans (Stp.gr HC.out), heap_gr HC.out HX.out, rfl, by show _ < _; rw [← HN.out, ← HNL.out]; omega⟩
  case rest =>
    obtain ⟨m1, HA, HS, HX1, HM, HLT⟩ := hcut
    obtain ⟨w1, hw1⟩ : ∃ x, x = wc := ⟨_, rfl⟩
    subst hw1
    have hmfl : m1.rl = m.rl := congrArg Sh.rl HM.out
    obtain ⟨b, cap, cur, ev, hbl, hb, hc1, hc2, hc3, hc4⟩ := own_open HA.out.ro (.inl (by have := HLT.out; omega))
    have h131 := HA.out.few.2
    have hff := HA.out.rr.first_lt
    have hflt := HA.out.rr.lt (by have := HLT.out; omega)
    have PL : ∀ w' : World, w'.cell? ⟨g, 6, none⟩ = some (.slice (some ⟨b, 0, none⟩) m1.rc.length cap) → w'.cell? ⟨g, 7, none⟩ = some (.int .i64 (m1.rf : Int)) → _ := fun w' a' b' => place_r g _ _ cap m1.rf m1.rl.length w' a' b' h131 hff (Nat.le_of_lt HLT.out)
    have HPL := Lib.hid PL
    have hp : pl m1.rf m1.rc.length m1.rl.length < m1.rc.length := pl_lt hflt HLT.out
    obtain ⟨p, hpe⟩ : ∃ p, p = pl m1.rf m1.rc.length m1.rl.length := ⟨_, rfl⟩
    rw [← hpe] at hp HPL
    obtain ⟨L, hL⟩ : ∃ L, L = m1.rc.length := ⟨_, rfl⟩
    obtain ⟨M, hM⟩ : ∃ M, M = m1.rl.length := ⟨_, rfl⟩
    rw [← hM] at HPL
    rw [← hL] at hp HPL h131
    have hpi : (0 : Int) ≤ (p : Int) := by omega
    have hpl : (p : Int) < (L : Int) := by omega
    have hpn : ((p : Int)).toNat = p := by omega
    have HEV1 := Lib.hid ev
    have HPE := Lib.hid hpe
    have HL := Lib.hid hL
    have HM1 := Lib.hid hM
    have HCC : Hid (m1.rc.length ≤ cap ∧ cap ≤ maxLen ∧ cur.length = cap * 2 ∧ cur.take (m1.rc.length * 2) = flatR m1.rc) := ⟨hc1, hc2, hc3, hc4⟩
    have HB := Lib.hid hb
    have HFIT : Hid (p * 2 + 2 ≤ cur.length) := by show _ ≤ _; omega
    have HMFL := Lib.hid hmfl
    have HML : Hid (M ≤ 65534) := by show _ ≤ _; rw [hM, hmfl]; exact HNN.out
    have hbg : b ≠ g := blk_ne_g HA.out.ro HA.out.row (by decide) b (by rw [ev]; simp [blk_slice])
    have HBG := Lib.hid hbg
    clear ev hbl hb hc1 hc2 hc3 hc4 hff hflt PL hpe hL hM hmfl hbg hle
    go_upto_region 3 with fail
    have HC : Hid (Gr w1 w1.drew) := Gr.drew w1
    refine wp_region_G 12 Gr (by kernel_rfl) ?_
    generalize w1.drew = wc at HC ⊢
    -- 0: slot 16
    refine wpG_take preGr (i := 0) (v := ?_) (by kernel_rfl) (some 16) (by kernel_rfl) rfl (by kernel_rfl) (by kernel_rfl) (by kernel_rfl) (fun _ _ _ h => h) (by rfl) (fun w' hw' => ?_) rfl ?_
    rotate_left
    · try (have hxx := cells11 (HA.out.gr (Gr.trans HC.out hw')).row; obtain ⟨k0, k1, k2, k3, k4, k5, k6, k7, k8, k9, k10⟩ := hxx; rw [HEV1.out, ← HL.out] at k6; rw [← HM1.out] at k8)
      go_simp
      with_reducible rfl
    simp only [Act.put, List.setIfInBounds_toArray, List.set_cons_zero, List.set_cons_succ]
    -- 1: slot 17
    refine wpG_take preGr (i := 1) (v := ?_) (by kernel_rfl) (some 17) (by kernel_rfl) rfl (by kernel_rfl) (by kernel_rfl) (by kernel_rfl) (fun _ _ _ h => h) (by rfl) (fun w' hw' => ?_) rfl ?_
    rotate_left
    · try (have hxx := cells11 (HA.out.gr (Gr.trans HC.out hw')).row; obtain ⟨k0, k1, k2, k3, k4, k5, k6, k7, k8, k9, k10⟩ := hxx; rw [HEV1.out, ← HL.out] at k6; rw [← HM1.out] at k8)
      go_simp
      with_reducible rfl
    simp only [Act.put, List.setIfInBounds_toArray, List.set_cons_zero, List.set_cons_succ]
    -- 2: slot 18
    refine wpG_take preGr (i := 2) (v := ?_) (by kernel_rfl) (some 18) (by kernel_rfl) rfl (by kernel_rfl) (by kernel_rfl) (by kernel_rfl) (fun _ _ _ h => h) (by rfl) (fun w' hw' => ?_) rfl ?_
    rotate_left
    · try (have hxx := cells11 (HA.out.gr (Gr.trans HC.out hw')).row; obtain ⟨k0, k1, k2, k3, k4, k5, k6, k7, k8, k9, k10⟩ := hxx; rw [HEV1.out, ← HL.out] at k6; rw [← HM1.out] at k8)
      go_simp
      with_reducible rfl
    simp only [Act.put, List.setIfInBounds_toArray, List.set_cons_zero, List.set_cons_succ]
    -- 3: slot 19
    refine wpG_take preGr (i := 3) (v := ?_) (by kernel_rfl) (some 19) (by kernel_rfl) rfl (by kernel_rfl) (by kernel_rfl) (by kernel_rfl) (fun _ _ _ h => h) (by rfl) (fun w' hw' => ?_) rfl ?_
    rotate_left
    · try (have hxx := cells11 (HA.out.gr (Gr.trans HC.out hw')).row; obtain ⟨k0, k1, k2, k3, k4, k5, k6, k7, k8, k9, k10⟩ := hxx; rw [HEV1.out, ← HL.out] at k6; rw [← HM1.out] at k8)
      go_simp
      with_reducible rfl
    simp only [Act.put, List.setIfInBounds_toArray, List.set_cons_zero, List.set_cons_succ]
    -- 4: slot 20
    refine wpG_take preGr (i := 4) (v := ?_) (by kernel_rfl) (some 20) (by kernel_rfl) rfl (by kernel_rfl) (by kernel_rfl) (by kernel_rfl) (fun _ _ _ h => h) (by rfl) (fun w' hw' => ?_) rfl ?_
    rotate_left
    · try (have hxx := cells11 (HA.out.gr (Gr.trans HC.out hw')).row; obtain ⟨k0, k1, k2, k3, k4, k5, k6, k7, k8, k9, k10⟩ := hxx; rw [HEV1.out, ← HL.out] at k6; rw [← HM1.out] at k8)
      go_simp
      with_reducible rfl
    simp only [Act.put, List.setIfInBounds_toArray, List.set_cons_zero, List.set_cons_succ]
    -- 5: slot 21
    refine wpG_take preGr (i := 5) (v := ?_) (by kernel_rfl) (some 21) (by kernel_rfl) rfl (by kernel_rfl) (by kernel_rfl) (by kernel_rfl) (fun _ _ _ h => h) (by rfl) (fun w' hw' => ?_) rfl ?_
    rotate_left
    · try (have hxx := cells11 (HA.out.gr (Gr.trans HC.out hw')).row; obtain ⟨k0, k1, k2, k3, k4, k5, k6, k7, k8, k9, k10⟩ := hxx; rw [HEV1.out, ← HL.out] at k6; rw [← HM1.out] at k8)
      go_simp
      with_reducible rfl
    simp only [Act.put, List.setIfInBounds_toArray, List.set_cons_zero, List.set_cons_succ]
    -- 6: slot 22
    refine wpG_take preGr (i := 6) (v := ?_) (by kernel_rfl) (some 22) (by kernel_rfl) rfl (by kernel_rfl) (by kernel_rfl) (by kernel_rfl) (fun _ _ _ h => h) (by rfl) (fun w' hw' => ?_) rfl ?_
    rotate_left
    · try (have hxx := cells11 (HA.out.gr (Gr.trans HC.out hw')).row; obtain ⟨k0, k1, k2, k3, k4, k5, k6, k7, k8, k9, k10⟩ := hxx; rw [HEV1.out, ← HL.out] at k6; rw [← HM1.out] at k8)
      go_simp
      with_reducible rfl
    simp only [Act.put, List.setIfInBounds_toArray, List.set_cons_zero, List.set_cons_succ]
    -- 7: slot 23
    refine wpG_take preGr (i := 7) (v := ?_) (by kernel_rfl) (some 23) (by kernel_rfl) rfl (by kernel_rfl) (by kernel_rfl) (by kernel_rfl) (fun _ _ _ h => h) (by rfl) (fun w' hw' => ?_) rfl ?_
    rotate_left
    · try (have hxx := cells11 (HA.out.gr (Gr.trans HC.out hw')).row; obtain ⟨k0, k1, k2, k3, k4, k5, k6, k7, k8, k9, k10⟩ := hxx; rw [HEV1.out, ← HL.out] at k6; rw [← HM1.out] at k8)
      go_simp
      with_reducible rfl
    simp only [Act.put, List.setIfInBounds_toArray, List.set_cons_zero, List.set_cons_succ]
    -- 8: slot 24
    refine wpG_take preGr (i := 8) (v := ?_) (by kernel_rfl) (some 24) (by kernel_rfl) rfl (by kernel_rfl) (by kernel_rfl) (by kernel_rfl) (fun _ _ _ h => h) (by rfl) (fun w' hw' => ?_) rfl ?_
    rotate_left
    · try (have hxx := cells11 (HA.out.gr (Gr.trans HC.out hw')).row; obtain ⟨k0, k1, k2, k3, k4, k5, k6, k7, k8, k9, k10⟩ := hxx; rw [HEV1.out, ← HL.out] at k6; rw [← HM1.out] at k8)
      go_simp
      with_reducible rfl
    simp only [Act.put, List.setIfInBounds_toArray, List.set_cons_zero, List.set_cons_succ]
    -- 10: slot 26
    refine wpG_take preGr (i := 10) (v := ?_) (by kernel_rfl) (some 26) (by kernel_rfl) rfl (by kernel_rfl) (by kernel_rfl) (by kernel_rfl) (fun _ _ _ h => h) (by rfl) (fun w' hw' => ?_) rfl ?_
    rotate_left
    · refine Eq.trans (load_mid_run (P := Try.prog) 54 (.tmp 3) ?_ bx 0 ?_ [.int .i64 x.1, .int .i64 x.2] _ (range_of_row (heap_gr (Gr.trans HC.out hw') HX1.out)) Try.underlying54 rfl sizeR) ?_
      · rfl
      · simp [go_sem]
      · with_reducible rfl
    simp only [Act.put, List.setIfInBounds_toArray, List.set_cons_zero, List.set_cons_succ]
    refine wpG_one (i := 9) rfl (by kernel_rfl) (by rfl) ?_
    go_simp
    have hxx := cells11 (HA.out.gr HC.out).row
    obtain ⟨k0, k1, k2, k3, k4, k5, k6, k7, k8, k9, k10⟩ := hxx
    rw [HEV1.out, ← HL.out] at k6
    refine (HPL.out wc k6 k7).mono ?_
    rintro e wn ⟨rfl, rfl⟩
    clear k0 k1 k2 k3 k4 k5 k6 k7 k8 k9 k10
    refine ⟨Gr.refl _, ?_⟩
    try simp only [Act.put, List.setIfInBounds_toArray, List.set_cons_zero, List.set_cons_succ]
    -- 11: slot 27
    refine wpG_take preGr (i := 11) (v := ?_) (by kernel_rfl) (some 27) (by kernel_rfl) rfl (by kernel_rfl) (by kernel_rfl) (by kernel_rfl) (fun _ _ _ h => h) (by rfl) (fun w' hw' => ?_) rfl ?_
    rotate_left
    · try (have hxx := cells11 (HA.out.gr (Gr.trans HC.out hw')).row; obtain ⟨k0, k1, k2, k3, k4, k5, k6, k7, k8, k9, k10⟩ := hxx; rw [HEV1.out, ← HL.out] at k6; rw [← HM1.out] at k8)
      go_simp
      with_reducible rfl
    simp only [Act.put, List.setIfInBounds_toArray, List.set_cons_zero, List.set_cons_succ]
    refine wpG_tail (i := 12) (by decide) rfl (by kernel_rfl) (by rfl) ?_
    refine wp_store_splice (none) 54 (.tmp 27) (.tmp 26) rfl b (p * 2) [.int .i64 x.1, .int .i64 x.2] rfl rfl 54 cur (heap_gr HC.out HB.out) sizeR HFIT.out (one_pair x) rfl ?_
    intro w2 h2 ho2
    have H2 := Lib.hid h2
    have HO2 := Lib.hid ho2
    clear h2 ho2
    try simp only [Act.put, List.setIfInBounds_toArray, List.set_cons_zero, List.set_cons_succ]
    refine wpG_done (by kernel_rfl) ?_ _
    have hrow : w2.heap[g]? = _ := (HO2.out.heap g ((HA.out.gr HC.out).lt g Fm.g) (Ne.symm HBG.out)).trans (HA.out.gr HC.out).row
    have HROW := Lib.hid hrow
    obtain ⟨k0, k1, k2, k3, k4, k5, k6, k7, k8, k9, k10⟩ := cells11 hrow
    rw [← HM1.out] at k8
    have x1 : wrap64 ((M : Int) + 1) = (M : Int) + 1 := wrap64_in (by omega) (by have := HML.out; omega)
    clear hrow
    go_wp2_with (with_reducible refine wpList_store_fld rfl (.tmp 34) (.tmp 32) rfl g 8 (wrap64 ((M : Int) + 1)) rfl rfl _ _ _ _ _ _ _ _ _ _ _ HROW.out (by decide) ?_)
    intro w3 h3 ho3
    try rw [x1] at h3
    have H3 := Lib.hid h3
    have HO3 := Lib.hid ho3
    clear h3 ho3 k0 k1 k2 k3 k4 k5 k6 k7 k8 k9 k10
    go_wp2
    go_end0
    have hA := HA.out.gr HC.out
    have hne := hA.ne
    have hbk : ∀ k, k < wc.heap.size → k ≠ b → k ≠ g → w3.heap[k]? = wc.heap[k]? := fun k hk h1 h2 => (HO3.out.heap k (Nat.lt_of_lt_of_le hk HO2.out.size) h2).trans (HO2.out.heap k hk h1)
    have hbm : b ∈ blk m1.rv := by rw [HEV1.out]; simp [blk_slice]
    refine ⟨rfl, m1.pushR x, ⟨?_, ?_, hA.fr, ?_, ?_, ?_, hA.made, ?_⟩, ?_, ?_⟩
    · have := H3.out
      have e : ((m1.rl ++ [x]).length : Int) = (M : Int) + 1 := by rw [HM1.out]; simp
      show w3.heap[g]? = some (.cells #[.int .i64 m1.lo, .int .i64 m1.hi, .int .i64 m1.q, m1.fv, .int .i64 (m1.ff : Int), .int .i64 (m1.fl.length : Int), m1.rv, .int .i64 (m1.rf : Int), .int .i64 ((m1.rl ++ [x]).length : Int), m1.tv, .bool m1.fell] 63 (0, 0))
      rw [e]
      exact this
    · exact own_keep hA.fo fun k hk => hbk k (own_blk_lt hA.fo hk) (fun e => (hne.1 k hk).2.1 (e ▸ hbm)) (hne.1 k hk).1
    · have hg3 : w3.heap[b]? = some (.cells (splice cur (p * 2) [.int .i64 x.1, .int .i64 x.2]).toArray 54 (0, 0)) := (HO3.out.heap b (Array.getElem?_eq_some_iff.1 H2.out).1 HBG.out).trans H2.out
      have := own_set_rest (l := m1.rc) (j := p) (p := x) (by rw [← HL.out]; exact hp) hg3 HCC.out.1 HCC.out.2.1 HCC.out.2.2.1 HCC.out.2.2.2
      show w3.ownsRow 0 54 2 m1.rv (m1.rc.set (pl m1.rf m1.rc.length m1.rl.length) x).length (flatR (m1.rc.set (pl m1.rf m1.rc.length m1.rl.length) x))
      rw [HEV1.out, ← HPE.out]
      exact this
    · exact hA.rr.push HLT.out x
    · exact own_keep hA.to fun k hk => hbk k (own_blk_lt hA.to hk) (fun e => (hne.2.2 k hk).2.2 (e ▸ hbm)) (hne.2.2 k hk).1
    · refine ⟨hA.few.1, ?_⟩
      show (m1.rc.set _ _).length ≤ _
      rw [List.length_set]; exact hA.few.2
    · exact HS.out.trans (Stp.same (((Tr.gr HC.out).trans (Tr.only HO2.out (Fm.rv hbm)) fun i hi => .inl hi).trans (Tr.only HO3.out Fm.g) fun i hi => .inl hi) rfl rfl rfl)
    · have := HM.out
      rw [← this]
      show (⟨_, _, _, _, _, _, _⟩ : Sh) = _
      rw [← HMFL.out]
      rfl
end Go.Proofs.Ytpafcabcnkmadaa.Id
