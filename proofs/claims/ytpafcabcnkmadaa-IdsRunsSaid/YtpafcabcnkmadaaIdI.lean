/-
  ring.push.
-/
import Derived.Test.YtpafcabcnkmadaaIdH
namespace Go.Proofs.Ytpafcabcnkmadaa.Id
open Go.RowKit
set_option linter.unusedVariables false
set_option linter.unusedSimpArgs false

/-- What an Alloc holds, whatever the cells. -/
structure Sh where
  lo : Int
  hi : Int
  q : Int
  fl : List Int
  rl : List (Int × Int)
  tl : List Bool
  fell : Bool
def Am.sh (m : Am) : Sh := ⟨m.lo, m.hi, m.q, m.fl, m.rl, m.tl, m.fell⟩
/-- A call has gone on to s. -/
def Goes (g : Nat) (m : Am) (w : World) (s : Sh) (w' : World) : Prop := ∃ m', AmAt w' g m' ∧ Stp g m m' w w' ∧ m'.sh = s
def Am.pushI (m : Am) (x : Int) : Am := { m with fc := m.fc.set (pl m.ff m.fc.length m.fl.length) x, fl := m.fl ++ [x] }
def Am.pushR (m : Am) (x : Int × Int) : Am := { m with rc := m.rc.set (pl m.rf m.rc.length m.rl.length) x, rl := m.rl ++ [x] }
set_option maxRecDepth 20000 in
set_option maxHeartbeats 4000000 in
theorem push_i (g : Nat) {m : Am} (x : Int) (w : World) (h : AmAt w g m) (hn : m.fl.length ≤ 65534) :
    Calls Try.prog 33 #[.pointer (some ⟨g, 3, none⟩), .int .i64 x] w fun e w' => e = .returned (.tuple #[]) ∧ Goes g m w { m.sh with fl := m.fl ++ [x] } w' := by
  have HH := Lib.hid h
  have HNN := Lib.hid hn
  obtain ⟨a, n, c, ev, hnl⟩ : ∃ a n c, m.fv = .slice a n c ∧ n = m.fc.length := by
    obtain ⟨a, c, e, _⟩ := (own_rd h.fo).shape
    exact ⟨a, _, c, e, rfl⟩
  have HEV := Lib.hid ev
  obtain ⟨N, hN⟩ : ∃ N, N = m.fl.length := ⟨_, rfl⟩
  have HN := Lib.hid hN
  have HNL := Lib.hid hnl
  have hle : N ≤ n := by rw [hN, hnl]; exact h.fr.few
  clear h hn ev hN hnl
  go_enter Try.func33, Try.ntmps33
  go_upto_region 0 with fail
  have HC : Hid (Gr w w.drew) := Gr.drew w
  refine wp_region_G 10 Gr (by kernel_rfl) ?_
  generalize w.drew = wc at HC ⊢
  -- 0: slot 4
  refine wpG_take preGr (i := 0) (v := ?_) (by kernel_rfl) (some 4) (by kernel_rfl) rfl (by kernel_rfl) (by kernel_rfl) (by kernel_rfl) (fun _ _ _ h => h) (by rfl) (fun w' hw' => ?_) rfl ?_
  rotate_left
  · try (have hxx := cells11 (HH.out.gr (Gr.trans HC.out hw')).row; obtain ⟨k0, k1, k2, k3, k4, k5, k6, k7, k8, k9, k10⟩ := hxx; rw [HEV.out] at k3; rw [← HN.out] at k5)
    go_simp
    with_reducible rfl
  simp only [Act.put, List.setIfInBounds_toArray, List.set_cons_zero, List.set_cons_succ]
  -- 1: slot 5
  refine wpG_take preGr (i := 1) (v := ?_) (by kernel_rfl) (some 5) (by kernel_rfl) rfl (by kernel_rfl) (by kernel_rfl) (by kernel_rfl) (fun _ _ _ h => h) (by rfl) (fun w' hw' => ?_) rfl ?_
  rotate_left
  · try (have hxx := cells11 (HH.out.gr (Gr.trans HC.out hw')).row; obtain ⟨k0, k1, k2, k3, k4, k5, k6, k7, k8, k9, k10⟩ := hxx; rw [HEV.out] at k3; rw [← HN.out] at k5)
    go_simp
    with_reducible rfl
  simp only [Act.put, List.setIfInBounds_toArray, List.set_cons_zero, List.set_cons_succ]
  -- 2: slot 6
  refine wpG_take preGr (i := 2) (v := ?_) (by kernel_rfl) (some 6) (by kernel_rfl) rfl (by kernel_rfl) (by kernel_rfl) (by kernel_rfl) (fun _ _ _ h => h) (by rfl) (fun w' hw' => ?_) rfl ?_
  rotate_left
  · try (have hxx := cells11 (HH.out.gr (Gr.trans HC.out hw')).row; obtain ⟨k0, k1, k2, k3, k4, k5, k6, k7, k8, k9, k10⟩ := hxx; rw [HEV.out] at k3; rw [← HN.out] at k5)
    go_simp
    with_reducible rfl
  simp only [Act.put, List.setIfInBounds_toArray, List.set_cons_zero, List.set_cons_succ]
  -- 3: slot 7
  refine wpG_take preGr (i := 3) (v := ?_) (by kernel_rfl) (some 7) (by kernel_rfl) rfl (by kernel_rfl) (by kernel_rfl) (by kernel_rfl) (fun _ _ _ h => h) (by rfl) (fun w' hw' => ?_) rfl ?_
  rotate_left
  · try (have hxx := cells11 (HH.out.gr (Gr.trans HC.out hw')).row; obtain ⟨k0, k1, k2, k3, k4, k5, k6, k7, k8, k9, k10⟩ := hxx; rw [HEV.out] at k3; rw [← HN.out] at k5)
    go_simp
    with_reducible rfl
  simp only [Act.put, List.setIfInBounds_toArray, List.set_cons_zero, List.set_cons_succ]
  -- 4: slot 8
  refine wpG_take preGr (i := 4) (v := ?_) (by kernel_rfl) (some 8) (by kernel_rfl) rfl (by kernel_rfl) (by kernel_rfl) (by kernel_rfl) (fun _ _ _ h => h) (by rfl) (fun w' hw' => ?_) rfl ?_
  rotate_left
  · try (have hxx := cells11 (HH.out.gr (Gr.trans HC.out hw')).row; obtain ⟨k0, k1, k2, k3, k4, k5, k6, k7, k8, k9, k10⟩ := hxx; rw [HEV.out] at k3; rw [← HN.out] at k5)
    go_simp
    with_reducible rfl
  simp only [Act.put, List.setIfInBounds_toArray, List.set_cons_zero, List.set_cons_succ]
  -- 5: slot 9
  refine wpG_take preGr (i := 5) (v := ?_) (by kernel_rfl) (some 9) (by kernel_rfl) rfl (by kernel_rfl) (by kernel_rfl) (by kernel_rfl) (fun _ _ _ h => h) (by rfl) (fun w' hw' => ?_) rfl ?_
  rotate_left
  · try (have hxx := cells11 (HH.out.gr (Gr.trans HC.out hw')).row; obtain ⟨k0, k1, k2, k3, k4, k5, k6, k7, k8, k9, k10⟩ := hxx; rw [HEV.out] at k3; rw [← HN.out] at k5)
    go_simp
    with_reducible rfl
  simp only [Act.put, List.setIfInBounds_toArray, List.set_cons_zero, List.set_cons_succ]
  -- 6: slot 10
  refine wpG_take preGr (i := 6) (v := ?_) (by kernel_rfl) (some 10) (by kernel_rfl) rfl (by kernel_rfl) (by kernel_rfl) (by kernel_rfl) (fun _ _ _ h => h) (by rfl) (fun w' hw' => ?_) rfl ?_
  rotate_left
  · try (have hxx := cells11 (HH.out.gr (Gr.trans HC.out hw')).row; obtain ⟨k0, k1, k2, k3, k4, k5, k6, k7, k8, k9, k10⟩ := hxx; rw [HEV.out] at k3; rw [← HN.out] at k5)
    go_simp
    with_reducible rfl
  simp only [Act.put, List.setIfInBounds_toArray, List.set_cons_zero, List.set_cons_succ]
  -- 7: slot 11
  refine wpG_take preGr (i := 7) (v := ?_) (by kernel_rfl) (some 11) (by kernel_rfl) rfl (by kernel_rfl) (by kernel_rfl) (by kernel_rfl) (fun _ _ _ h => h) (by rfl) (fun w' hw' => ?_) rfl ?_
  rotate_left
  · try (have hxx := cells11 (HH.out.gr (Gr.trans HC.out hw')).row; obtain ⟨k0, k1, k2, k3, k4, k5, k6, k7, k8, k9, k10⟩ := hxx; rw [HEV.out] at k3; rw [← HN.out] at k5)
    go_simp
    with_reducible rfl
  simp only [Act.put, List.setIfInBounds_toArray, List.set_cons_zero, List.set_cons_succ]
  -- 8: slot 12
  refine wpG_take preGr (i := 8) (v := ?_) (by kernel_rfl) (some 12) (by kernel_rfl) rfl (by kernel_rfl) (by kernel_rfl) (by kernel_rfl) (fun _ _ _ h => h) (by rfl) (fun w' hw' => ?_) rfl ?_
  rotate_left
  · try (have hxx := cells11 (HH.out.gr (Gr.trans HC.out hw')).row; obtain ⟨k0, k1, k2, k3, k4, k5, k6, k7, k8, k9, k10⟩ := hxx; rw [HEV.out] at k3; rw [← HN.out] at k5)
    go_simp
    with_reducible rfl
  simp only [Act.put, List.setIfInBounds_toArray, List.set_cons_zero, List.set_cons_succ]
  -- 9: slot 13
  refine wpG_take preGr (i := 9) (v := ?_) (by kernel_rfl) (some 13) (by kernel_rfl) rfl (by kernel_rfl) (by kernel_rfl) (by kernel_rfl) (fun _ _ _ h => h) (by rfl) (fun w' hw' => ?_) rfl ?_
  rotate_left
  · try (have hxx := cells11 (HH.out.gr (Gr.trans HC.out hw')).row; obtain ⟨k0, k1, k2, k3, k4, k5, k6, k7, k8, k9, k10⟩ := hxx; rw [HEV.out] at k3; rw [← HN.out] at k5)
    go_simp
    with_reducible rfl
  simp only [Act.put, List.setIfInBounds_toArray, List.set_cons_zero, List.set_cons_succ]
  refine wpG_done (by kernel_rfl) ?_ _
  go_upto_if 13 with fail
  go_cut [13, 14, 15] (fun _ _ _ wx => ∃ m1, Hid (AmAt wx g m1) ∧ Hid (Stp g m m1 w wx) ∧ Hid (m1.sh = m.sh) ∧ Hid (m1.fl.length < m1.fc.length))
  case first =>
    by_cases hfull : N = n
    · have hd : ((N : Int) == (n : Int)) = true := by rw [hfull]; simp
      have HG := Lib.hid (grow_i g wc (HH.out.gr HC.out) HNN.out)
      go_wp2_with fail
      refine HG.out.mono ?_
      rintro e w2 ⟨rfl, v, ha, hs⟩
      have HA := Lib.hid ha
      have HS := Lib.hid ((Stp.gr HC.out).trans hs)
      clear ha hs HG
      go_wp2_with fail
      go_meet
      exact ⟨_, HA, HS, rfl, by show _ < _; simp [Am.growI]⟩
    · have hd : ((N : Int) == (n : Int)) = false := by rw [beq_eq_false_iff_ne]; omega
      go_wp2_with fail
      go_meet
      exact ⟨m, HH.out.gr HC.out, Stp.gr HC.out, rfl, by show _ < _; rw [← HN.out, ← HNL.out]; omega⟩
  case rest =>
    obtain ⟨m1, HA, HS, HM, HLT⟩ := hcut
    obtain ⟨w1, hw1⟩ : ∃ x, x = wc := ⟨_, rfl⟩
    subst hw1
    have hmfl : m1.fl = m.fl := congrArg Sh.fl HM.out
    obtain ⟨b, cap, cur, ev, hbl, hb, hc1, hc2, hc3, hc4⟩ := own_open HA.out.fo (.inl (by have := HLT.out; omega))
    have h131 := HA.out.few.1
    have hff := HA.out.fr.first_lt
    have hflt := HA.out.fr.lt (by have := HLT.out; omega)
    have PL : ∀ w' : World, w'.cell? ⟨g, 3, none⟩ = some (.slice (some ⟨b, 0, none⟩) m1.fc.length cap) → w'.cell? ⟨g, 4, none⟩ = some (.int .i64 (m1.ff : Int)) → _ := fun w' a' b' => place_i g _ _ cap m1.ff m1.fl.length w' a' b' h131 hff (Nat.le_of_lt HLT.out)
    have HPL := Lib.hid PL
    have hp : pl m1.ff m1.fc.length m1.fl.length < m1.fc.length := pl_lt hflt HLT.out
    obtain ⟨p, hpe⟩ : ∃ p, p = pl m1.ff m1.fc.length m1.fl.length := ⟨_, rfl⟩
    rw [← hpe] at hp HPL
    obtain ⟨L, hL⟩ : ∃ L, L = m1.fc.length := ⟨_, rfl⟩
    obtain ⟨M, hM⟩ : ∃ M, M = m1.fl.length := ⟨_, rfl⟩
    rw [← hM] at HPL
    rw [← hL] at hp HPL h131
    have hpi : (0 : Int) ≤ (p : Int) := by omega
    have hpl : (p : Int) < (L : Int) := by omega
    have hpn : ((p : Int)).toNat = p := by omega
    have HEV1 := Lib.hid ev
    have HPE := Lib.hid hpe
    have HL := Lib.hid hL
    have HM1 := Lib.hid hM
    have HCC : Hid (m1.fc.length ≤ cap ∧ cap ≤ maxLen ∧ cur.length = cap * 1 ∧ cur.take (m1.fc.length * 1) = ints m1.fc) := ⟨hc1, hc2, hc3, hc4⟩
    have HB := Lib.hid hb
    have HFIT : Hid (p < cur.length) := by show _ < _; omega
    have HMFL := Lib.hid hmfl
    have HML : Hid (M ≤ 65534) := by show _ ≤ _; rw [hM, hmfl]; exact HNN.out
    have hbg : b ≠ g := blk_ne_g HA.out.fo HA.out.row (by decide) b (by rw [ev]; simp [blk_slice])
    have HBG := Lib.hid hbg
    clear ev hbl hb hc1 hc2 hc3 hc4 hff hflt PL hpe hL hM hmfl hbg hle
    go_upto_region 2 with fail
    have HC : Hid (Gr w1 w1.drew) := Gr.drew w1
    refine wp_region_G 12 Gr (by kernel_rfl) ?_
    generalize w1.drew = wc at HC ⊢
    -- 0: slot 16
    refine wpG_take preGr (i := 0) (v := ?_) (by kernel_rfl) (some 16) (by kernel_rfl) rfl (by kernel_rfl) (by kernel_rfl) (by kernel_rfl) (fun _ _ _ h => h) (by rfl) (fun w' hw' => ?_) rfl ?_
    rotate_left
    · try (have hxx := cells11 (HA.out.gr (Gr.trans HC.out hw')).row; obtain ⟨k0, k1, k2, k3, k4, k5, k6, k7, k8, k9, k10⟩ := hxx; rw [HEV1.out, ← HL.out] at k3; rw [← HM1.out] at k5)
      go_simp
      with_reducible rfl
    simp only [Act.put, List.setIfInBounds_toArray, List.set_cons_zero, List.set_cons_succ]
    -- 1: slot 17
    refine wpG_take preGr (i := 1) (v := ?_) (by kernel_rfl) (some 17) (by kernel_rfl) rfl (by kernel_rfl) (by kernel_rfl) (by kernel_rfl) (fun _ _ _ h => h) (by rfl) (fun w' hw' => ?_) rfl ?_
    rotate_left
    · try (have hxx := cells11 (HA.out.gr (Gr.trans HC.out hw')).row; obtain ⟨k0, k1, k2, k3, k4, k5, k6, k7, k8, k9, k10⟩ := hxx; rw [HEV1.out, ← HL.out] at k3; rw [← HM1.out] at k5)
      go_simp
      with_reducible rfl
    simp only [Act.put, List.setIfInBounds_toArray, List.set_cons_zero, List.set_cons_succ]
    -- 2: slot 18
    refine wpG_take preGr (i := 2) (v := ?_) (by kernel_rfl) (some 18) (by kernel_rfl) rfl (by kernel_rfl) (by kernel_rfl) (by kernel_rfl) (fun _ _ _ h => h) (by rfl) (fun w' hw' => ?_) rfl ?_
    rotate_left
    · try (have hxx := cells11 (HA.out.gr (Gr.trans HC.out hw')).row; obtain ⟨k0, k1, k2, k3, k4, k5, k6, k7, k8, k9, k10⟩ := hxx; rw [HEV1.out, ← HL.out] at k3; rw [← HM1.out] at k5)
      go_simp
      with_reducible rfl
    simp only [Act.put, List.setIfInBounds_toArray, List.set_cons_zero, List.set_cons_succ]
    -- 3: slot 19
    refine wpG_take preGr (i := 3) (v := ?_) (by kernel_rfl) (some 19) (by kernel_rfl) rfl (by kernel_rfl) (by kernel_rfl) (by kernel_rfl) (fun _ _ _ h => h) (by rfl) (fun w' hw' => ?_) rfl ?_
    rotate_left
    · try (have hxx := cells11 (HA.out.gr (Gr.trans HC.out hw')).row; obtain ⟨k0, k1, k2, k3, k4, k5, k6, k7, k8, k9, k10⟩ := hxx; rw [HEV1.out, ← HL.out] at k3; rw [← HM1.out] at k5)
      go_simp
      with_reducible rfl
    simp only [Act.put, List.setIfInBounds_toArray, List.set_cons_zero, List.set_cons_succ]
    -- 4: slot 20
    refine wpG_take preGr (i := 4) (v := ?_) (by kernel_rfl) (some 20) (by kernel_rfl) rfl (by kernel_rfl) (by kernel_rfl) (by kernel_rfl) (fun _ _ _ h => h) (by rfl) (fun w' hw' => ?_) rfl ?_
    rotate_left
    · try (have hxx := cells11 (HA.out.gr (Gr.trans HC.out hw')).row; obtain ⟨k0, k1, k2, k3, k4, k5, k6, k7, k8, k9, k10⟩ := hxx; rw [HEV1.out, ← HL.out] at k3; rw [← HM1.out] at k5)
      go_simp
      with_reducible rfl
    simp only [Act.put, List.setIfInBounds_toArray, List.set_cons_zero, List.set_cons_succ]
    -- 5: slot 21
    refine wpG_take preGr (i := 5) (v := ?_) (by kernel_rfl) (some 21) (by kernel_rfl) rfl (by kernel_rfl) (by kernel_rfl) (by kernel_rfl) (fun _ _ _ h => h) (by rfl) (fun w' hw' => ?_) rfl ?_
    rotate_left
    · try (have hxx := cells11 (HA.out.gr (Gr.trans HC.out hw')).row; obtain ⟨k0, k1, k2, k3, k4, k5, k6, k7, k8, k9, k10⟩ := hxx; rw [HEV1.out, ← HL.out] at k3; rw [← HM1.out] at k5)
      go_simp
      with_reducible rfl
    simp only [Act.put, List.setIfInBounds_toArray, List.set_cons_zero, List.set_cons_succ]
    -- 6: slot 22
    refine wpG_take preGr (i := 6) (v := ?_) (by kernel_rfl) (some 22) (by kernel_rfl) rfl (by kernel_rfl) (by kernel_rfl) (by kernel_rfl) (fun _ _ _ h => h) (by rfl) (fun w' hw' => ?_) rfl ?_
    rotate_left
    · try (have hxx := cells11 (HA.out.gr (Gr.trans HC.out hw')).row; obtain ⟨k0, k1, k2, k3, k4, k5, k6, k7, k8, k9, k10⟩ := hxx; rw [HEV1.out, ← HL.out] at k3; rw [← HM1.out] at k5)
      go_simp
      with_reducible rfl
    simp only [Act.put, List.setIfInBounds_toArray, List.set_cons_zero, List.set_cons_succ]
    -- 7: slot 23
    refine wpG_take preGr (i := 7) (v := ?_) (by kernel_rfl) (some 23) (by kernel_rfl) rfl (by kernel_rfl) (by kernel_rfl) (by kernel_rfl) (fun _ _ _ h => h) (by rfl) (fun w' hw' => ?_) rfl ?_
    rotate_left
    · try (have hxx := cells11 (HA.out.gr (Gr.trans HC.out hw')).row; obtain ⟨k0, k1, k2, k3, k4, k5, k6, k7, k8, k9, k10⟩ := hxx; rw [HEV1.out, ← HL.out] at k3; rw [← HM1.out] at k5)
      go_simp
      with_reducible rfl
    simp only [Act.put, List.setIfInBounds_toArray, List.set_cons_zero, List.set_cons_succ]
    -- 8: slot 24
    refine wpG_take preGr (i := 8) (v := ?_) (by kernel_rfl) (some 24) (by kernel_rfl) rfl (by kernel_rfl) (by kernel_rfl) (by kernel_rfl) (fun _ _ _ h => h) (by rfl) (fun w' hw' => ?_) rfl ?_
    rotate_left
    · try (have hxx := cells11 (HA.out.gr (Gr.trans HC.out hw')).row; obtain ⟨k0, k1, k2, k3, k4, k5, k6, k7, k8, k9, k10⟩ := hxx; rw [HEV1.out, ← HL.out] at k3; rw [← HM1.out] at k5)
      go_simp
      with_reducible rfl
    simp only [Act.put, List.setIfInBounds_toArray, List.set_cons_zero, List.set_cons_succ]
    -- 10: slot 26
    refine wpG_take preGr (i := 10) (v := ?_) (by kernel_rfl) (some 26) (by kernel_rfl) rfl (by kernel_rfl) (by kernel_rfl) (by kernel_rfl) (fun _ _ _ h => h) (by rfl) (fun w' hw' => ?_) rfl ?_
    rotate_left
    · try (have hxx := cells11 (HA.out.gr (Gr.trans HC.out hw')).row; obtain ⟨k0, k1, k2, k3, k4, k5, k6, k7, k8, k9, k10⟩ := hxx; rw [HEV1.out, ← HL.out] at k3; rw [← HM1.out] at k5)
      go_simp
      with_reducible rfl
    simp only [Act.put, List.setIfInBounds_toArray, List.set_cons_zero, List.set_cons_succ]
    refine wpG_one (i := 9) rfl (by kernel_rfl) (by rfl) ?_
    go_simp
    have hxx := cells11 (HA.out.gr HC.out).row
    obtain ⟨k0, k1, k2, k3, k4, k5, k6, k7, k8, k9, k10⟩ := hxx
    rw [HEV1.out, ← HL.out] at k3
    refine (HPL.out wc k3 k4).mono ?_
    rintro e wn ⟨rfl, rfl⟩
    clear k0 k1 k2 k3 k4 k5 k6 k7 k8 k9 k10
    refine ⟨Gr.refl _, ?_⟩
    try simp only [Act.put, List.setIfInBounds_toArray, List.set_cons_zero, List.set_cons_succ]
    -- 11: slot 27
    refine wpG_take preGr (i := 11) (v := ?_) (by kernel_rfl) (some 27) (by kernel_rfl) rfl (by kernel_rfl) (by kernel_rfl) (by kernel_rfl) (fun _ _ _ h => h) (by rfl) (fun w' hw' => ?_) rfl ?_
    rotate_left
    · try (have hxx := cells11 (HA.out.gr (Gr.trans HC.out hw')).row; obtain ⟨k0, k1, k2, k3, k4, k5, k6, k7, k8, k9, k10⟩ := hxx; rw [HEV1.out, ← HL.out] at k3; rw [← HM1.out] at k5)
      go_simp
      with_reducible rfl
    simp only [Act.put, List.setIfInBounds_toArray, List.set_cons_zero, List.set_cons_succ]
    refine wpG_tail (i := 12) (by decide) rfl (by kernel_rfl) (by rfl) ?_
    refine wp_store_cell (none) 3 (.tmp 27) (.tmp 26) rfl b p (.int .i64 x) rfl rfl 3 cur (heap_gr HC.out HB.out) sizeI HFIT.out rfl rfl ?_
    intro w2 h2 ho2
    have H2 := Lib.hid h2
    have HO2 := Lib.hid ho2
    clear h2 ho2
    try simp only [Act.put, List.setIfInBounds_toArray, List.set_cons_zero, List.set_cons_succ]
    refine wpG_done (by kernel_rfl) ?_ _
    have hrow : w2.heap[g]? = _ := (HO2.out.heap g ((HA.out.gr HC.out).lt g Fm.g) (Ne.symm HBG.out)).trans (HA.out.gr HC.out).row
    have HROW := Lib.hid hrow
    obtain ⟨k0, k1, k2, k3, k4, k5, k6, k7, k8, k9, k10⟩ := cells11 hrow
    rw [← HM1.out] at k5
    have x1 : wrap64 ((M : Int) + 1) = (M : Int) + 1 := wrap64_in (by omega) (by have := HML.out; omega)
    clear hrow
    go_wp2_with (with_reducible refine wpList_store_fld rfl (.tmp 34) (.tmp 32) rfl g 5 (wrap64 ((M : Int) + 1)) rfl rfl _ _ _ _ _ _ _ _ _ _ _ HROW.out (by decide) ?_)
    intro w3 h3 ho3
    try rw [x1] at h3
    have H3 := Lib.hid h3
    have HO3 := Lib.hid ho3
    clear h3 ho3 k0 k1 k2 k3 k4 k5 k6 k7 k8 k9 k10
    go_wp2
    go_end0
    have hA := HA.out.gr HC.out
    have hne := hA.ne
    have hbk : ∀ k, k < wc.heap.size → k ≠ b → k ≠ g → w3.heap[k]? = wc.heap[k]? := fun k hk h1 h2 => (HO3.out.heap k (Nat.lt_of_lt_of_le hk HO2.out.size) h2).trans (HO2.out.heap k hk h1)
    have hbm : b ∈ blk m1.fv := by rw [HEV1.out]; simp [blk_slice]
    refine ⟨rfl, m1.pushI x, ⟨?_, ?_, ?_, ?_, hA.rr, ?_, hA.made, ?_⟩, ?_, ?_⟩
    · have := H3.out
      have e : ((m1.fl ++ [x]).length : Int) = (M : Int) + 1 := by rw [HM1.out]; simp
      show w3.heap[g]? = some (.cells #[.int .i64 m1.lo, .int .i64 m1.hi, .int .i64 m1.q, m1.fv, .int .i64 (m1.ff : Int), .int .i64 ((m1.fl ++ [x]).length : Int), m1.rv, .int .i64 (m1.rf : Int), .int .i64 (m1.rl.length : Int), m1.tv, .bool m1.fell] 63 (0, 0))
      rw [e]
      exact this
    · have hg3 : w3.heap[b]? = some (.cells (cur.set p (.int .i64 x)).toArray 3 (0, 0)) := (HO3.out.heap b (Array.getElem?_eq_some_iff.1 H2.out).1 HBG.out).trans H2.out
      have := own_set_int (l := m1.fc) (j := p) (x := x) (by rw [← HL.out]; exact hp) hg3 HCC.out.1 HCC.out.2.1 HCC.out.2.2.1 HCC.out.2.2.2
      show w3.ownsRow 0 3 1 m1.fv (m1.fc.set (pl m1.ff m1.fc.length m1.fl.length) x).length (ints (m1.fc.set (pl m1.ff m1.fc.length m1.fl.length) x))
      rw [HEV1.out, ← HPE.out]
      exact this
    · exact hA.fr.push HLT.out x
    · exact own_keep hA.ro fun k hk => hbk k (own_blk_lt hA.ro hk) (fun e => (hne.2.1 k hk).2.1 (e ▸ hbm)) (hne.2.1 k hk).1
    · exact own_keep hA.to fun k hk => hbk k (own_blk_lt hA.to hk) (fun e => (hne.2.2 k hk).2.1 (e ▸ hbm)) (hne.2.2 k hk).1
    · refine ⟨?_, hA.few.2⟩
      show (m1.fc.set _ _).length ≤ _
      rw [List.length_set]; exact hA.few.1
    · exact HS.out.trans (Stp.same (((Tr.gr HC.out).trans (Tr.only HO2.out (Fm.fv hbm)) fun i hi => .inl hi).trans (Tr.only HO3.out Fm.g) fun i hi => .inl hi) rfl rfl rfl)
    · have := HM.out
      rw [← this]
      show (⟨_, _, _, _, _, _, _⟩ : Sh) = _
      rw [← HMFL.out]
      rfl
end Go.Proofs.Ytpafcabcnkmadaa.Id
