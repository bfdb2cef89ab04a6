/-
  rouse.
-/
import Derived.Test.YtpafcabcnkmadaaIdK
namespace Go.Proofs.Ytpafcabcnkmadaa.Id
open Go.RowKit
set_option linter.unusedVariables false
set_option linter.unusedSimpArgs false

def nready (t : Int) (p : Int × Int) : Bool := !ready t p
theorem rouse_stop2 {l : List (Int × Int)} {t : Int} {i : Nat} (h : rising2 l) (hi : i < l.length) (ht : t < l[i].2) (ha : ∀ k, (hk : k < i) → ready t (l[k]'(by omega)) = true) :
    (l.take i).filter (ready t) = l.filter (ready t) ∧ l.drop i ++ (l.take i).filter (nready t) = l.filter (nready t) := by
  obtain ⟨h1, h2⟩ := rouse_stop h hi ht ha
  have hall : ∀ p ∈ l.take i, ready t p = true := by
    intro p hp
    obtain ⟨k, hk, rfl⟩ := List.mem_iff_getElem.1 hp
    rw [List.length_take] at hk
    rw [List.getElem_take]
    exact ha k (by omega)
  refine ⟨?_, ?_⟩
  · rw [h1, List.filter_eq_self.2 hall]
  · rw [show l.filter (nready t) = l.drop i from h2, List.filter_eq_nil_iff.2 (fun p hp => by simp [nready, hall p hp]), List.append_nil]
/-- Where rouse stands behind i of those that rested. -/
def Rou (S : Sh) (t : Int) (i : Nat) : Sh := { S with fl := S.fl ++ ((S.rl.take i).filter (ready t)).map (·.1), rl := S.rl.drop i ++ (S.rl.take i).filter (nready t) }
def Roused (S : Sh) (t : Int) : Sh := { S with fl := S.fl ++ (S.rl.filter (ready t)).map (·.1), rl := S.rl.filter (nready t) }
theorem Rou.zero (S : Sh) (t : Int) : Rou S t 0 = S := by simp [Rou]
theorem Rou.all (S : Sh) (t : Int) (i : Nat) (h : S.rl.length ≤ i) : Rou S t i = Roused S t := by
  unfold Rou Roused
  rw [List.take_of_length_le h, List.drop_of_length_le h, List.nil_append]
theorem Rou.stop {S : Sh} {t : Int} {i : Nat} (h : rising2 S.rl) (hi : i < S.rl.length) (ht : t < S.rl[i].2) (ha : ∀ k, (hk : k < i) → ready t (S.rl[k]'(by omega)) = true) : Rou S t i = Roused S t := by
  obtain ⟨h1, h2⟩ := rouse_stop2 h hi ht ha
  unfold Rou Roused
  rw [h1, h2]
theorem Rou.head {S : Sh} {t : Int} {i : Nat} (hi : i < S.rl.length) : (Rou S t i).rl = S.rl[i] :: (S.rl.drop (i + 1) ++ (S.rl.take i).filter (nready t)) := by
  show S.rl.drop i ++ _ = _
  rw [List.drop_eq_getElem_cons hi]
  rfl
theorem Rou.yes {S : Sh} {t : Int} {i : Nat} (hi : i < S.rl.length) (hr : ready t S.rl[i] = true) : Rou S t (i + 1) = { S with fl := (Rou S t i).fl ++ [S.rl[i].1], rl := S.rl.drop (i + 1) ++ (S.rl.take i).filter (nready t) } := by
  unfold Rou
  rw [filter_take_succ _ _ _ hi, filter_take_succ _ _ _ hi, if_pos hr, if_neg (by simp [nready, hr])]
  simp
theorem Rou.no {S : Sh} {t : Int} {i : Nat} (hi : i < S.rl.length) (hr : ready t S.rl[i] = false) : Rou S t (i + 1) = { S with fl := (Rou S t i).fl, rl := (S.rl.drop (i + 1) ++ (S.rl.take i).filter (nready t)) ++ [S.rl[i]] } := by
  unfold Rou
  rw [filter_take_succ _ _ _ hi, filter_take_succ _ _ _ hi, if_neg (by simp [hr]), if_pos (by simp [nready, hr])]
  simp
theorem Rou.lens (S : Sh) (t : Int) (i : Nat) : (Rou S t i).fl.length ≤ S.fl.length + S.rl.length ∧ (Rou S t i).rl.length ≤ S.rl.length := by
  have h1 := List.length_filter_le (ready t) (S.rl.take i)
  have h2 := List.length_filter_le (nready t) (S.rl.take i)
  unfold Rou
  simp only [List.length_append, List.length_map, List.length_drop]
  simp only [List.length_take] at h1 h2
  omega
set_option maxRecDepth 20000 in
set_option maxHeartbeats 4000000 in
theorem rouse_any (g : Nat) {m : Am} (t : Int) (w : World) (h : AmAt w g m) (hs : m.fell = false → rising2 m.rl) (hlen : m.fl.length + m.rl.length ≤ 65534) :
    Calls Try.prog 35 #[.pointer (some ⟨g, 0, none⟩), .int .i64 t] w fun e w' => e = .returned (.tuple #[]) ∧ Goes g m w (Roused m.sh t) w' := by
  obtain ⟨k0, k1, k2, k3, k4, k5, k6, k7, k8, k9, k10⟩ := cells11 h.row
  obtain ⟨n, hn⟩ : ∃ n, n = m.rl.length := ⟨_, rfl⟩
  rw [← hn] at k8
  have HN := Lib.hid hn
  have HH := Lib.hid h
  have HS := Lib.hid hs
  have HLEN := Lib.hid hlen
  have hn6 : n ≤ 65534 := by omega
  clear h hs hlen hn k0 k1 k2 k3 k4 k5 k6 k7 k9 k10
  go_enter Try.func35, Try.ntmps35
  go_wp2_with fail
  go_loopw [11] (fun iv wr => ∃ i : Nat, i ≤ n ∧ iv = .int .i64 (i : Int) ∧ (∃ mi, AmAt wr g mi ∧ Stp g m mi w wr ∧ mi.sh = Rou m.sh t i) ∧ (m.fell = false → ∀ k, (hk : k < i) → (hk2 : k < m.rl.length) → ready t m.rl[k] = true)) (fun iv _ => n - (intOf iv).toNat)
  case atStart => exact ⟨0, Nat.zero_le _, rfl, ⟨m, HH.out, Stp.refl _ _ _, (Rou.zero _ _).symm⟩, fun _ k hk => by omega⟩
  case round =>
    clear k8
    obtain ⟨i, hin, rfl, ⟨mi, ha, hst, hsh⟩, hrd⟩ := hrel
    have HA := Lib.hid ha
    have HST := Lib.hid hst
    have HSH := Lib.hid hsh
    have HRD := Lib.hid hrd
    clear ha hst hsh hrd
    by_cases hlt : i < n
    · have hi : i < m.sh.rl.length := by show _ < m.rl.length; rw [← HN.out]; exact hlt
      obtain ⟨x, hx⟩ : ∃ x, x = m.sh.rl[i] := ⟨_, rfl⟩
      obtain ⟨l, hl⟩ : ∃ l, l = m.sh.rl.drop (i + 1) ++ (m.sh.rl.take i).filter (nready t) := ⟨_, rfl⟩
      have hrl : mi.rl = x :: l := by
        have e : mi.rl = (Rou m.sh t i).rl := congrArg Sh.rl HSH.out
        rw [e, Rou.head hi, ← hx, ← hl]
      have hfl : mi.fl = (Rou m.sh t i).fl := congrArg Sh.fl HSH.out
      have hfe : mi.fell = m.fell := congrArg Sh.fell HSH.out
      have hlens := Rou.lens m.sh t i
      have hlens1 : mi.fl.length ≤ 65534 ∧ mi.rl.length ≤ 65534 := by
        have e : mi.rl = (Rou m.sh t i).rl := congrArg Sh.rl HSH.out
        rw [hfl, e]
        have h1 : m.sh.fl = m.fl := rfl
        have h2 : m.sh.rl = m.rl := rfl
        rw [h1, h2] at hlens
        have := HLEN.out
        omega
      have HFR := Lib.hid (front_r_some g _ HA.out hrl)
      have HX := Lib.hid hx
      have HL := Lib.hid hl
      have HRL := Lib.hid hrl
      have HFL := Lib.hid hfl
      have HFE := Lib.hid hfe
      have HLS := Lib.hid hlens1
      clear hx hl hrl hfl hfe hlens hlens1
      go_wp2_with fail
      refine HFR.out.mono ?_
      rintro e w1 ⟨rfl, hb⟩
      have hb2 : Below w1.heap.size w1 (w1.alloc (.cells #[.int .i64 0, .int .i64 0] 54)) := (Below.refl _ _).alloc (Nat.le_refl _) _
      have HT2 : Hid ((w1.alloc (.cells #[.int .i64 0, .int .i64 0] 54)).heap[w1.heap.size]? = some (.cells #[.int .i64 0, .int .i64 0] 54)) := heap_alloc_last _ _
      have HB2 : Hid (Below wr.heap.size wr (w1.alloc (.cells #[.int .i64 0, .int .i64 0] 54))) := Below.trans hb (Below.mono hb2 (Below.size hb))
      obtain ⟨bt, hbt⟩ : ∃ b, b = w1.heap.size := ⟨_, rfl⟩
      have hbw : wr.heap.size ≤ bt := by rw [hbt]; exact Below.size hb
      unfold pairV
      go_wp2_with (with_reducible refine wpList_store_pair rfl (.tmp 4) (.tmp 18) rfl w1.heap.size x.1 x.2 rfl rfl _ _ HT2.out ?_)
      intro w3 h3 ho3
      rw [← hbt] at h3 ho3 ⊢
      have HT3 := Lib.hid h3
      have HB3 : Hid (Below wr.heap.size wr w3) := ho3.below _ _ hbw HB2.out
      have HBW := Lib.hid hbw
      clear hb hb2 HT2 HB2 hbt h3 ho3 hbw HFR
      have HA3 := Lib.hid (HA.out.gr HB3.out)
      obtain ⟨c0, c1⟩ := cells2 HT3.out
      have k10 := (cells11 HA3.out.row).2.2.2.2.2.2.2.2.2.2
      rw [HFE.out] at k10
      by_cases hr : t < x.2
      · have HRF : Hid (ready t m.sh.rl[i] = false) := by show _ = _; rw [← HX.out]; simp [ready]; omega
        cases hfe : m.fell with
        | false =>
          rw [hfe] at k10
          have HST2 : Hid (Goes g m w (Roused m.sh t) w3) := by
            refine ⟨mi, HA3.out, HST.out.trans (Stp.gr HB3.out), ?_⟩
            rw [HSH.out]
            refine Rou.stop (HS.out hfe) hi (by rw [← HX.out]; exact hr) fun k hk => ?_
            exact HRD.out hfe k hk (Nat.lt_trans hk hi)
          clear hfe
          go_wp2_with fail
          refine bodyPost_ret (v := .tuple #[]) (results_none rfl _ _ _) rfl ?_
          exact ⟨rfl, HST2.out⟩
        | true =>
          rw [hfe] at k10
          have HFT := Lib.hid hfe
          have HP := Lib.hid (pop_r_some g _ HA3.out HRL.out)
          clear hfe
          go_wp2_with fail
          refine HP.out.mono ?_
          rintro e w4 ⟨rfl, ha4, hs4⟩
          have HA4 := Lib.hid ha4
          have HS4 := Lib.hid ((HST.out.trans (Stp.gr HB3.out)).trans hs4)
          have HT4 : Hid (w4.heap[bt]? = some (.cells #[.int .i64 x.1, .int .i64 x.2] 54 (0, 0))) := hs4.tr.heap HT3.out (fun hk => by have := HA.out.lt _ hk; have := HBW.out; omega)
          clear ha4 hs4 HP c0 c1 k10 HT3 HB3 HA3
          obtain ⟨c0, c1⟩ := cells2 HT4.out
          have HP2 : Hid (∀ w', Gr w4 w' → _) := fun w' hw => push_r g x w' (HA4.out.gr hw) (by
            have e : mi.popR.rl = l := by show mi.rl.tail = l; rw [HRL.out]; rfl
            rw [e]
            have := HLS.out.2
            rw [HRL.out, List.length_cons] at this
            omega)
          go_upto_region 6 with fail
          have HC : Hid (Gr w4 w4.drew) := Gr.drew w4
          refine wp_region_G 4 Gr (by kernel_rfl) ?_
          generalize w4.drew = wc at HC ⊢
          -- 0: slot 39
          refine wpG_take preGr (i := 0) (v := ?_) (by kernel_rfl) (some 39) (by kernel_rfl) rfl (by kernel_rfl) (by kernel_rfl) (by kernel_rfl) (fun _ _ _ h => h) (by rfl) (fun w' hw' => ?_) rfl ?_
          rotate_left
          · try (have hxx := cells2 (heap_gr (Gr.trans HC.out hw') HT4.out); obtain ⟨c0, c1⟩ := hxx)
            go_simp
            with_reducible rfl
          simp only [Act.put, List.setIfInBounds_toArray, List.set_cons_zero, List.set_cons_succ]
          -- 1: slot 40
          refine wpG_take preGr (i := 1) (v := ?_) (by kernel_rfl) (some 40) (by kernel_rfl) rfl (by kernel_rfl) (by kernel_rfl) (by kernel_rfl) (fun _ _ _ h => h) (by rfl) (fun w' hw' => ?_) rfl ?_
          rotate_left
          · try (have hxx := cells2 (heap_gr (Gr.trans HC.out hw') HT4.out); obtain ⟨c0, c1⟩ := hxx)
            go_simp
            with_reducible rfl
          simp only [Act.put, List.setIfInBounds_toArray, List.set_cons_zero, List.set_cons_succ]
          -- 2: slot 41
          refine wpG_take preGr (i := 2) (v := ?_) (by kernel_rfl) (some 41) (by kernel_rfl) rfl (by kernel_rfl) (by kernel_rfl) (by kernel_rfl) (fun _ _ _ h => h) (by rfl) (fun w' hw' => ?_) rfl ?_
          rotate_left
          · try (have hxx := cells2 (heap_gr (Gr.trans HC.out hw') HT4.out); obtain ⟨c0, c1⟩ := hxx)
            go_simp
            with_reducible rfl
          simp only [Act.put, List.setIfInBounds_toArray, List.set_cons_zero, List.set_cons_succ]
          -- 3: slot 42
          refine wpG_take preGr (i := 3) (v := ?_) (by kernel_rfl) (some 42) (by kernel_rfl) rfl (by kernel_rfl) (by kernel_rfl) (by kernel_rfl) (fun _ _ _ h => h) (by rfl) (fun w' hw' => ?_) rfl ?_
          rotate_left
          · refine Eq.trans (load_mid_run (P := Try.prog) 54 (.tmp 4) ?_ bt 0 ?_ [.int .i64 x.1, .int .i64 x.2] _ (range_of_row (heap_gr (Gr.trans HC.out hw') HT4.out)) Try.underlying54 rfl sizeR) ?_
            · rfl
            · simp [go_sem]
            · with_reducible rfl
          simp only [Act.put, List.setIfInBounds_toArray, List.set_cons_zero, List.set_cons_succ]
          refine wpG_tail (i := 4) (by decide) rfl (by kernel_rfl) (by rfl) ?_
          go_simp
          refine (HP2.out _ HC.out).mono ?_
          rintro e w5 ⟨rfl, m5, ha5, hs5, hsh5⟩
          have HA5 := Lib.hid ha5
          have HS5 := Lib.hid ((HS4.out.trans (Stp.gr HC.out)).trans hs5)
          have HSH5 : Hid (m5.sh = Rou m.sh t (i + 1)) := by
            show _ = _
            rw [hsh5, Rou.no hi HRF.out]
            have e1 : mi.popR.rl = l := by show mi.rl.tail = l; rw [HRL.out]; rfl
            have e2 : mi.popR.sh = { mi.sh with rl := mi.rl.tail } := rfl
            rw [e1, e2, HSH.out, HL.out, HX.out]
            rfl
          clear ha5 hs5 hsh5
          try simp only [Act.put, List.setIfInBounds_toArray, List.set_cons_zero, List.set_cons_succ]
          refine wpG_done (by kernel_rfl) ?_ _
          clear c0 c1
          go_wp2_with fail
          go_roundw
          case rel =>
            have hle : i + 1 ≤ n := by omega
            have hf : m.fell = false → ∀ k, (hk : k < i + 1) → (hk2 : k < m.rl.length) → ready t m.rl[k] = true := fun h => by rw [HFT.out] at h; cases h
            first
              | exact ⟨i + 1, hle, by go_num, ⟨m5, HA5.out, HS5.out, HSH5.out⟩, hf⟩
              | ((repeat apply Exists.intro); exact ⟨⟨i + 1, hle, by go_num, ⟨m5, HA5.out, HS5.out, HSH5.out⟩, hf⟩, rfl⟩)
          case measure => simp [intOf]; omega
      · have HRF : Hid (ready t m.sh.rl[i] = true) := by show _ = _; rw [← HX.out]; simp [ready]; omega
        have HP := Lib.hid (pop_r_some g _ HA3.out HRL.out)
        go_wp2_with fail
        refine HP.out.mono ?_
        rintro e w4 ⟨rfl, ha4, hs4⟩
        have HA4 := Lib.hid ha4
        have HS4 := Lib.hid ((HST.out.trans (Stp.gr HB3.out)).trans hs4)
        have HT4 : Hid (w4.heap[bt]? = some (.cells #[.int .i64 x.1, .int .i64 x.2] 54 (0, 0))) := hs4.tr.heap HT3.out (fun hk => by have := HA.out.lt _ hk; have := HBW.out; omega)
        clear ha4 hs4 HP c0 c1 k10 HT3 HB3 HA3
        obtain ⟨c0, c1⟩ := cells2 HT4.out
        have HP2 : Hid (∀ w', Gr w4 w' → _) := fun w' hw => push_i g x.1 w' (HA4.out.gr hw) HLS.out.1
        go_upto_region 7 with fail
        have HC : Hid (Gr w4 w4.drew) := Gr.drew w4
        refine wp_region_G 5 Gr (by kernel_rfl) ?_
        generalize w4.drew = wc at HC ⊢
        -- 0: slot 44
        refine wpG_take preGr (i := 0) (v := ?_) (by kernel_rfl) (some 44) (by kernel_rfl) rfl (by kernel_rfl) (by kernel_rfl) (by kernel_rfl) (fun _ _ _ h => h) (by rfl) (fun w' hw' => ?_) rfl ?_
        rotate_left
        · try (have hxx := cells2 (heap_gr (Gr.trans HC.out hw') HT4.out); obtain ⟨c0, c1⟩ := hxx)
          go_simp
          with_reducible rfl
        simp only [Act.put, List.setIfInBounds_toArray, List.set_cons_zero, List.set_cons_succ]
        -- 1: slot 45
        refine wpG_take preGr (i := 1) (v := ?_) (by kernel_rfl) (some 45) (by kernel_rfl) rfl (by kernel_rfl) (by kernel_rfl) (by kernel_rfl) (fun _ _ _ h => h) (by rfl) (fun w' hw' => ?_) rfl ?_
        rotate_left
        · try (have hxx := cells2 (heap_gr (Gr.trans HC.out hw') HT4.out); obtain ⟨c0, c1⟩ := hxx)
          go_simp
          with_reducible rfl
        simp only [Act.put, List.setIfInBounds_toArray, List.set_cons_zero, List.set_cons_succ]
        -- 2: slot 46
        refine wpG_take preGr (i := 2) (v := ?_) (by kernel_rfl) (some 46) (by kernel_rfl) rfl (by kernel_rfl) (by kernel_rfl) (by kernel_rfl) (fun _ _ _ h => h) (by rfl) (fun w' hw' => ?_) rfl ?_
        rotate_left
        · try (have hxx := cells2 (heap_gr (Gr.trans HC.out hw') HT4.out); obtain ⟨c0, c1⟩ := hxx)
          go_simp
          with_reducible rfl
        simp only [Act.put, List.setIfInBounds_toArray, List.set_cons_zero, List.set_cons_succ]
        -- 3: slot 47
        refine wpG_take preGr (i := 3) (v := ?_) (by kernel_rfl) (some 47) (by kernel_rfl) rfl (by kernel_rfl) (by kernel_rfl) (by kernel_rfl) (fun _ _ _ h => h) (by rfl) (fun w' hw' => ?_) rfl ?_
        rotate_left
        · try (have hxx := cells2 (heap_gr (Gr.trans HC.out hw') HT4.out); obtain ⟨c0, c1⟩ := hxx)
          go_simp
          with_reducible rfl
        simp only [Act.put, List.setIfInBounds_toArray, List.set_cons_zero, List.set_cons_succ]
        -- 4: slot 48
        refine wpG_take preGr (i := 4) (v := ?_) (by kernel_rfl) (some 48) (by kernel_rfl) rfl (by kernel_rfl) (by kernel_rfl) (by kernel_rfl) (fun _ _ _ h => h) (by rfl) (fun w' hw' => ?_) rfl ?_
        rotate_left
        · try (have hxx := cells2 (heap_gr (Gr.trans HC.out hw') HT4.out); obtain ⟨c0, c1⟩ := hxx)
          go_simp
          with_reducible rfl
        simp only [Act.put, List.setIfInBounds_toArray, List.set_cons_zero, List.set_cons_succ]
        refine wpG_tail (i := 5) (by decide) rfl (by kernel_rfl) (by rfl) ?_
        go_simp
        refine (HP2.out _ HC.out).mono ?_
        rintro e w5 ⟨rfl, m5, ha5, hs5, hsh5⟩
        have HA5 := Lib.hid ha5
        have HS5 := Lib.hid ((HS4.out.trans (Stp.gr HC.out)).trans hs5)
        have HSH5 : Hid (m5.sh = Rou m.sh t (i + 1)) := by
          show _ = _
          rw [hsh5, Rou.yes hi HRF.out]
          have e1 : mi.popR.fl = mi.fl := rfl
          have e2 : mi.popR.sh = { mi.sh with rl := mi.rl.tail } := rfl
          rw [e1, HFL.out, e2, HSH.out, HRL.out, List.tail_cons, ← HX.out, ← HL.out]
          rfl
        clear ha5 hs5 hsh5
        try simp only [Act.put, List.setIfInBounds_toArray, List.set_cons_zero, List.set_cons_succ]
        refine wpG_done (by kernel_rfl) ?_ _
        clear c0 c1
        go_wp2_with fail
        go_roundw
        case rel =>
          have hle : i + 1 ≤ n := by omega
          have hf : m.fell = false → ∀ k, (hk : k < i + 1) → (hk2 : k < m.rl.length) → ready t m.rl[k] = true := fun h k hk hk2 => by
            by_cases e : k = i
            · subst e; exact HRF.out
            · exact HRD.out h k (by omega) hk2
          first
            | exact ⟨i + 1, hle, by go_num, ⟨m5, HA5.out, HS5.out, HSH5.out⟩, hf⟩
            | ((repeat apply Exists.intro); exact ⟨⟨i + 1, hle, by go_num, ⟨m5, HA5.out, HS5.out, HSH5.out⟩, hf⟩, rfl⟩)
        case measure => simp [intOf]; omega
    · have HE : Hid (mi.sh = Roused m.sh t) := by
        show _ = _
        rw [HSH.out]
        exact Rou.all _ _ _ (by show m.rl.length ≤ i; rw [← HN.out]; omega)
      go_wp2
      go_end0
      exact ⟨rfl, mi, HA.out, HST.out, HE.out⟩
end Go.Proofs.Ytpafcabcnkmadaa.Id
