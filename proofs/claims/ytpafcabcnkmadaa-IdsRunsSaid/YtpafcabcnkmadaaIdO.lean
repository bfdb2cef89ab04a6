/-
  Take, Give.
-/
import Derived.Test.YtpafcabcnkmadaaIdN
namespace Go.Proofs.Ytpafcabcnkmadaa.Id
open Go.RowKit
set_option linter.unusedVariables false
set_option linter.unusedSimpArgs false

theorem AmAt.mark {w w' : World} {g b cap p : Nat} {m : Am} {cur : List Value} {v : Bool} (h : AmAt w g m) (ev : m.tv = .slice (some ⟨b, 0, none⟩) m.tl.length cap) (h1 : m.tl.length ≤ cap) (h2 : cap ≤ maxLen) (h3 : cur.length = cap * 1) (h4 : cur.take (m.tl.length * 1) = bools m.tl) (hp : p < m.tl.length)
    (hw : w'.heap[b]? = some (.cells (cur.set p (.bool v)).toArray 4 (0, 0))) (ho : Only b w w') : AmAt w' g { m with tl := m.tl.set p v } ∧ Stp g m { m with tl := m.tl.set p v } w w' := by
  have hne := h.ne
  have hbm : b ∈ blk m.tv := by rw [ev]; simp [blk_slice]
  have hgb : g ≠ b := fun e => (hne.2.2 b hbm).1 e.symm
  refine ⟨⟨(ho.heap g (h.lt g Fm.g) hgb).trans h.row, own_keep h.fo fun k hk => ho.heap k (own_blk_lt h.fo hk) fun e => (hne.1 k hk).2.2 (e ▸ hbm), h.fr, own_keep h.ro fun k hk => ho.heap k (own_blk_lt h.ro hk) fun e => (hne.2.1 k hk).2.2 (e ▸ hbm), h.rr, ?_, h.made, h.few⟩, Stp.same (Tr.only ho (Fm.tv hbm)) rfl rfl rfl⟩
  have := own_set_bool hp hw h1 h2 h3 h4
  show w'.ownsRow 0 4 1 m.tv (m.tl.set p v).length (bools (m.tl.set p v))
  rw [ev]
  exact this
theorem rouse_al (g : Nat) {m : Am} {S : Al} (t : Int) (w : World) (h : AlAt w g m S) :
    Calls Try.prog 35 #[.pointer (some ⟨g, 0, none⟩), .int .i64 t] w fun e w' => e = .returned (.tuple #[]) ∧ GoesA g m w (rouse S t) w' := by
  refine (rouse_any g t w h.am (fun hf => by rw [h.rl]; exact h.sorted hf) (by rw [h.fl, h.rl]; exact h.ok.lens)).mono ?_
  rintro e w' ⟨rfl, m', ha, hs, hsh⟩
  have hf : m'.fell = m.fell := congrArg Sh.fell hsh
  refine ⟨rfl, m', ⟨ha, ?_, rouse_ok h.ok t, fun he => ?_⟩, hs⟩
  · rw [hsh, h.sh, hf]
    rfl
  · rw [hf] at he
    exact rising2_filter (h.sorted he) _
theorem take_pop {S : Al} {t x : Int} {r : List Int} (ht : okT t) (hx : (rouse S t).row = x :: r) : take S t = ({ rouse S t with row := r, used := S.used ++ [x] }, x, 0) := by
  unfold take
  rw [if_pos ht, hx]
theorem take_out {S : Al} {t : Int} (ht : okT t) (hx : (rouse S t).row = []) : take S t = (rouse S t, 0, 111) := by
  unfold take
  rw [if_pos ht, hx]
set_option maxRecDepth 20000 in
set_option maxHeartbeats 4000000 in
theorem take_any (g : Nat) {m : Am} {S : Al} (t : Int) (w : World) (h : AlAt w g m S) :
    Calls Try.prog 14 #[.pointer (some ⟨g, 0, none⟩), .int .i64 t] w fun e w' => e = .returned (.tuple #[.int .i64 (take S t).2.1, .int .i64 (take S t).2.2]) ∧ GoesA g m w (take S t).1 w' := by
  have C := check_yes g t w h.am
  by_cases ht : okT t
  · rw [if_pos ht] at C
    have HCK := Lib.hid C
    have HRO := Lib.hid (rouse_al g t w h)
    have HT := Lib.hid ht
    have HOK := Lib.hid h.ok
    clear C h ht
    cases hrow : (rouse S t).row with
    | nil =>
      rw [take_out HT.out hrow]
      have HROW := Lib.hid hrow
      clear hrow
      go_enter Try.func14, Try.ntmps14
      go_wp2_with fail
      refine HCK.out.mono ?_
      rintro e w' ⟨rfl, rfl⟩
      go_wp2_with fail
      refine HRO.out.mono ?_
      rintro e w1 ⟨rfl, m1, ha, hs⟩
      have k5 := (cells11 ha.am.row).2.2.2.2.2.1
      rw [ha.fl, HROW.out] at k5
      have HP := Lib.hid (pop_i_none g w1 k5)
      have HA := Lib.hid ha
      have HS := Lib.hid hs
      clear ha hs k5 HRO
      go_wp2_with fail
      refine HP.out.mono ?_
      rintro e w' ⟨rfl, rfl⟩
      go_wp2
      go_ret2
      exact ⟨rfl, m1, HA.out, HS.out⟩
    | cons x r =>
      rw [take_pop HT.out hrow]
      have HROW := Lib.hid hrow
      clear hrow
      go_enter Try.func14, Try.ntmps14
      go_wp2_with fail
      refine HCK.out.mono ?_
      rintro e w' ⟨rfl, rfl⟩
      go_wp2_with fail
      refine HRO.out.mono ?_
      rintro e w1 ⟨rfl, m1, ha, hs⟩
      have HP := Lib.hid (pop_i_some g (l := r) w1 ha.am (by rw [ha.fl, HROW.out]))
      have HA := Lib.hid ha
      have HS := Lib.hid hs
      clear ha hs HRO
      go_wp2_with fail
      refine HP.out.mono ?_
      rintro e w2 ⟨rfl, ha2, hs2⟩
      have hrow2 := ha2.row
      have elo : m1.popI.lo = S.low := HA.out.lo
      rw [elo] at hrow2
      obtain ⟨b, cap, cur, ev, hbl, hb, hc1, hc2, hc3, hc4⟩ := own_open ha2.to (.inr ha2.made)
      have hxr := HA.out.ok.row (x := x) (by rw [HROW.out]; simp)
      have hset := HA.out.ok.set
      have hlen : (m1.popI.tl.length : Int) = S.high - S.low + 1 := HA.out.len
      obtain ⟨p, hp⟩ : ∃ p : Nat, (p : Int) = x - S.low := ⟨(x - S.low).toNat, by have := hxr.1; have e : (rouse S t).low = S.low := rfl; rw [e] at this; omega⟩
      have hpl : p < m1.popI.tl.length := by
        have h1 := hxr.2.1
        have e : (rouse S t).high = S.high := rfl
        rw [e] at h1
        omega
      have HA2 := Lib.hid ha2
      have HS2 := Lib.hid (HS.out.trans hs2)
      have HEV := Lib.hid ev
      have HCC : Hid (m1.popI.tl.length ≤ cap ∧ cap ≤ maxLen ∧ cur.length = cap * 1 ∧ cur.take (m1.popI.tl.length * 1) = bools m1.popI.tl) := ⟨hc1, hc2, hc3, hc4⟩
      have HB := Lib.hid hb
      have HPL := Lib.hid hpl
      have HPE := Lib.hid hp
      obtain ⟨L, hL⟩ : ∃ L, L = m1.popI.tl.length := ⟨_, rfl⟩
      rw [ev, ← hL] at hrow2
      rw [← hL] at hpl
      have HR := Lib.hid hrow2
      have HFIT : Hid (p < cur.length) := by show _ < _; omega
      have e0 : x - S.low = (p : Int) := hp.symm
      have hpi : (0 : Int) ≤ (p : Int) := by omega
      have hpl2 : (p : Int) < (L : Int) := by omega
      have hpn : ((p : Int)).toNat = p := by omega
      have x2 : IntKind.i64.wrap (p : Int) = (p : Int) := IntWalk.i64_in _ (by unfold okSet at hset; have e : (rouse S t).low = S.low := rfl; have e2 : (rouse S t).high = S.high := rfl; rw [e, e2] at hset; omega)
      clear ha2 hs2 hrow2 elo ev hbl hb hc1 hc2 hc3 hc4 hxr hset hlen hp hpl hL HP
      go_upto_region 8 with fail
      have HC : Hid (Gr w2 w2.drew) := Gr.drew w2
      refine wp_region_G 11 Gr (by kernel_rfl) ?_
      generalize w2.drew = wc at HC ⊢
      -- 0: slot 27
      refine wpG_take preGr (i := 0) (v := ?_) (by kernel_rfl) (some 27) (by kernel_rfl) rfl (by kernel_rfl) (by kernel_rfl) (by kernel_rfl) (fun _ _ _ h => h) (by rfl) (fun w' hw' => ?_) rfl ?_
      rotate_left
      · try (have hxx := cells11 (heap_gr (Gr.trans HC.out hw') HR.out); obtain ⟨k0, k1, k2, k3, k4, k5, k6, k7, k8, k9, k10⟩ := hxx)
        go_simp
        with_reducible rfl
      simp only [Act.put, List.setIfInBounds_toArray, List.set_cons_zero, List.set_cons_succ]
      -- 1: slot 28
      refine wpG_take preGr (i := 1) (v := ?_) (by kernel_rfl) (some 28) (by kernel_rfl) rfl (by kernel_rfl) (by kernel_rfl) (by kernel_rfl) (fun _ _ _ h => h) (by rfl) (fun w' hw' => ?_) rfl ?_
      rotate_left
      · try (have hxx := cells11 (heap_gr (Gr.trans HC.out hw') HR.out); obtain ⟨k0, k1, k2, k3, k4, k5, k6, k7, k8, k9, k10⟩ := hxx)
        go_simp
        with_reducible rfl
      simp only [Act.put, List.setIfInBounds_toArray, List.set_cons_zero, List.set_cons_succ]
      -- 2: slot 29
      refine wpG_take preGr (i := 2) (v := ?_) (by kernel_rfl) (some 29) (by kernel_rfl) rfl (by kernel_rfl) (by kernel_rfl) (by kernel_rfl) (fun _ _ _ h => h) (by rfl) (fun w' hw' => ?_) rfl ?_
      rotate_left
      · try (have hxx := cells11 (heap_gr (Gr.trans HC.out hw') HR.out); obtain ⟨k0, k1, k2, k3, k4, k5, k6, k7, k8, k9, k10⟩ := hxx)
        go_simp
        with_reducible rfl
      simp only [Act.put, List.setIfInBounds_toArray, List.set_cons_zero, List.set_cons_succ]
      -- 3: slot 30
      refine wpG_take preGr (i := 3) (v := ?_) (by kernel_rfl) (some 30) (by kernel_rfl) rfl (by kernel_rfl) (by kernel_rfl) (by kernel_rfl) (fun _ _ _ h => h) (by rfl) (fun w' hw' => ?_) rfl ?_
      rotate_left
      · try (have hxx := cells11 (heap_gr (Gr.trans HC.out hw') HR.out); obtain ⟨k0, k1, k2, k3, k4, k5, k6, k7, k8, k9, k10⟩ := hxx)
        go_simp
        with_reducible rfl
      simp only [Act.put, List.setIfInBounds_toArray, List.set_cons_zero, List.set_cons_succ]
      -- 4: slot 31
      refine wpG_take preGr (i := 4) (v := ?_) (by kernel_rfl) (some 31) (by kernel_rfl) rfl (by kernel_rfl) (by kernel_rfl) (by kernel_rfl) (fun _ _ _ h => h) (by rfl) (fun w' hw' => ?_) rfl ?_
      rotate_left
      · try (have hxx := cells11 (heap_gr (Gr.trans HC.out hw') HR.out); obtain ⟨k0, k1, k2, k3, k4, k5, k6, k7, k8, k9, k10⟩ := hxx)
        go_simp
        with_reducible rfl
      simp only [Act.put, List.setIfInBounds_toArray, List.set_cons_zero, List.set_cons_succ]
      -- 5: slot 32
      refine wpG_take preGr (i := 5) (v := ?_) (by kernel_rfl) (some 32) (by kernel_rfl) rfl (by kernel_rfl) (by kernel_rfl) (by kernel_rfl) (fun _ _ _ h => h) (by rfl) (fun w' hw' => ?_) rfl ?_
      rotate_left
      · try (have hxx := cells11 (heap_gr (Gr.trans HC.out hw') HR.out); obtain ⟨k0, k1, k2, k3, k4, k5, k6, k7, k8, k9, k10⟩ := hxx)
        go_simp
        with_reducible rfl
      simp only [Act.put, List.setIfInBounds_toArray, List.set_cons_zero, List.set_cons_succ]
      -- 6: slot 33
      refine wpG_take preGr (i := 6) (v := ?_) (by kernel_rfl) (some 33) (by kernel_rfl) rfl (by kernel_rfl) (by kernel_rfl) (by kernel_rfl) (fun _ _ _ h => h) (by rfl) (fun w' hw' => ?_) rfl ?_
      rotate_left
      · try (have hxx := cells11 (heap_gr (Gr.trans HC.out hw') HR.out); obtain ⟨k0, k1, k2, k3, k4, k5, k6, k7, k8, k9, k10⟩ := hxx)
        go_simp
        with_reducible rfl
      simp only [Act.put, List.setIfInBounds_toArray, List.set_cons_zero, List.set_cons_succ]
      -- 7: slot 34
      refine wpG_take preGr (i := 7) (v := ?_) (by kernel_rfl) (some 34) (by kernel_rfl) rfl (by kernel_rfl) (by kernel_rfl) (by kernel_rfl) (fun _ _ _ h => h) (by rfl) (fun w' hw' => ?_) rfl ?_
      rotate_left
      · try (have hxx := cells11 (heap_gr (Gr.trans HC.out hw') HR.out); obtain ⟨k0, k1, k2, k3, k4, k5, k6, k7, k8, k9, k10⟩ := hxx)
        go_simp
        with_reducible rfl
      simp only [Act.put, List.setIfInBounds_toArray, List.set_cons_zero, List.set_cons_succ]
      -- 8: slot 35
      refine wpG_take preGr (i := 8) (v := ?_) (by kernel_rfl) (some 35) (by kernel_rfl) rfl (by kernel_rfl) (by kernel_rfl) (by kernel_rfl) (fun _ _ _ h => h) (by rfl) (fun w' hw' => ?_) rfl ?_
      rotate_left
      · try (have hxx := cells11 (heap_gr (Gr.trans HC.out hw') HR.out); obtain ⟨k0, k1, k2, k3, k4, k5, k6, k7, k8, k9, k10⟩ := hxx)
        go_simp
        with_reducible rfl
      simp only [Act.put, List.setIfInBounds_toArray, List.set_cons_zero, List.set_cons_succ]
      -- 9: slot 36
      refine wpG_take preGr (i := 9) (v := ?_) (by kernel_rfl) (some 36) (by kernel_rfl) rfl (by kernel_rfl) (by kernel_rfl) (by kernel_rfl) (fun _ _ _ h => h) (by rfl) (fun w' hw' => ?_) rfl ?_
      rotate_left
      · try (have hxx := cells11 (heap_gr (Gr.trans HC.out hw') HR.out); obtain ⟨k0, k1, k2, k3, k4, k5, k6, k7, k8, k9, k10⟩ := hxx)
        go_simp
        with_reducible rfl
      simp only [Act.put, List.setIfInBounds_toArray, List.set_cons_zero, List.set_cons_succ]
      -- 10: slot 37
      refine wpG_take preGr (i := 10) (v := ?_) (by kernel_rfl) (some 37) (by kernel_rfl) rfl (by kernel_rfl) (by kernel_rfl) (by kernel_rfl) (fun _ _ _ h => h) (by rfl) (fun w' hw' => ?_) rfl ?_
      rotate_left
      · try (have hxx := cells11 (heap_gr (Gr.trans HC.out hw') HR.out); obtain ⟨k0, k1, k2, k3, k4, k5, k6, k7, k8, k9, k10⟩ := hxx)
        go_simp
        with_reducible rfl
      simp only [Act.put, List.setIfInBounds_toArray, List.set_cons_zero, List.set_cons_succ]
      refine wpG_tail (i := 11) (by decide) rfl (by kernel_rfl) (by rfl) ?_
      refine wp_store_cell (none) 4 (.tmp 37) (.const (.bool true)) rfl b p (.bool true) rfl rfl 4 cur (heap_gr HC.out HB.out) sizeB HFIT.out rfl rfl ?_
      intro w3 h3 ho3
      have H3 := Lib.hid h3
      have HO3 := Lib.hid ho3
      clear h3 ho3
      try simp only [Act.put, List.setIfInBounds_toArray, List.set_cons_zero, List.set_cons_succ]
      refine wpG_done (by kernel_rfl) ?_ _
      go_wp2
      go_ret2
      have hA := HA2.out.gr HC.out
      obtain ⟨q1, q2⟩ := hA.mark (v := true) HEV.out HCC.out.1 HCC.out.2.1 HCC.out.2.2.1 HCC.out.2.2.2 HPL.out H3.out HO3.out
      refine ⟨rfl, _, ⟨q1, ?_, ?_, ?_⟩, (HS2.out.trans (Stp.gr HC.out)).trans q2⟩
      · have e : m1.tl.set p true = takenL S.low S.high (S.used ++ [x]) := by
          rw [HA.out.tl]
          refine takenL_set (u := (rouse S t).used) ?_ ?_
          · have : (rouse S t).low + (p : Int) = x := by show S.low + (p : Int) = x; have := HPE.out; omega
            rw [this]; simp
          · intro y hy
            have e2 : (rouse S t).low + (p : Int) = x := by show S.low + (p : Int) = x; have := HPE.out; omega
            rw [e2] at hy
            show y ∈ S.used ++ [x] ↔ y ∈ S.used
            simp [hy]
        have e2 := HA.out.sh
        have e3 : m1.popI.sh = { m1.sh with fl := m1.fl.tail } := rfl
        show ({ m1.popI.sh with tl := m1.tl.set p true } : Sh) = _
        rw [e3, e2, e, HA.out.fl, HROW.out]
        rfl
      · have ok2 := (take_ok HOK.out t).1
        rw [take_pop HT.out HROW.out] at ok2
        exact ok2
      · exact HA.out.sorted
  · rw [if_neg ht] at C
    have e : take S t = (S, 0, 1) := by unfold take; rw [if_neg ht]
    rw [e]
    have HCK := Lib.hid C
    have HA := Lib.hid h
    clear C h ht e
    go_enter Try.func14, Try.ntmps14
    go_wp2_with fail
    refine HCK.out.mono ?_
    rintro e w' ⟨rfl, rfl⟩
    go_wp2
    go_ret2
    exact ⟨rfl, m, HA.out, Stp.refl _ _ _⟩
end Go.Proofs.Ytpafcabcnkmadaa.Id
