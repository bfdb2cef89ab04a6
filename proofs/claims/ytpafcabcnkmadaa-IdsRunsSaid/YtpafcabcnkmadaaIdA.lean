/-
  Rings: place, at, front, back; isTick, isMade, check.
-/
import Derived.Test.YtpafcabcnkmadaaIdS
import Derived.Deep.DeepCutAuto
namespace Go.Proofs.Ytpafcabcnkmadaa.Id
open Go.RowKit
set_option linter.unusedVariables false
set_option linter.unusedSimpArgs false

theorem place_i (g : Nat) (A : Option Addr) (L C f i : Nat) (w : World) (h3 : w.cell? ⟨g, 3, none⟩ = some (.slice A L C)) (h4 : w.cell? ⟨g, 4, none⟩ = some (.int .i64 (f : Int))) (hL : L ≤ 131071) (hf : f ≤ L) (hi : i ≤ L) :
    Calls Try.prog 48 #[.pointer (some ⟨g, 3, none⟩), .int .i64 (i : Int)] w fun e w' => e = .returned (.int .i64 (pl f L i : Nat)) ∧ w = w' := by
  have x1 : wrap64 ((f : Int) + (i : Int)) = (f : Int) + (i : Int) := wrap64_in (by omega) (by omega)
  by_cases hle : L ≤ f + i
  · have hd : (L : Int) ≤ (f : Int) + (i : Int) := by omega
    have x2 : wrap64 ((f : Int) + (i : Int) - (L : Int)) = (f : Int) + (i : Int) - (L : Int) := wrap64_in (by omega) (by omega)
    have e : ((pl f L i : Nat) : Int) = (f : Int) + (i : Int) - (L : Int) := by unfold pl; rw [if_pos hle]; omega
    rw [e]
    clear e hle
    go_enter Try.func48, Try.ntmps48
    go_wp2
    go_ret
    exact ⟨rfl, rfl⟩
  · have hd : ¬ (L : Int) ≤ (f : Int) + (i : Int) := by omega
    have e : ((pl f L i : Nat) : Int) = (f : Int) + (i : Int) := by unfold pl; rw [if_neg hle]; omega
    rw [e]
    clear e hle
    go_enter Try.func48, Try.ntmps48
    go_wp2
    go_ret
    exact ⟨rfl, rfl⟩
theorem place_r (g : Nat) (A : Option Addr) (L C f i : Nat) (w : World) (h3 : w.cell? ⟨g, 6, none⟩ = some (.slice A L C)) (h4 : w.cell? ⟨g, 7, none⟩ = some (.int .i64 (f : Int))) (hL : L ≤ 131071) (hf : f ≤ L) (hi : i ≤ L) :
    Calls Try.prog 52 #[.pointer (some ⟨g, 6, none⟩), .int .i64 (i : Int)] w fun e w' => e = .returned (.int .i64 (pl f L i : Nat)) ∧ w = w' := by
  have x1 : wrap64 ((f : Int) + (i : Int)) = (f : Int) + (i : Int) := wrap64_in (by omega) (by omega)
  by_cases hle : L ≤ f + i
  · have hd : (L : Int) ≤ (f : Int) + (i : Int) := by omega
    have x2 : wrap64 ((f : Int) + (i : Int) - (L : Int)) = (f : Int) + (i : Int) - (L : Int) := wrap64_in (by omega) (by omega)
    have e : ((pl f L i : Nat) : Int) = (f : Int) + (i : Int) - (L : Int) := by unfold pl; rw [if_pos hle]; omega
    rw [e]
    clear e hle
    go_enter Try.func52, Try.ntmps52
    go_wp2
    go_ret
    exact ⟨rfl, rfl⟩
  · have hd : ¬ (L : Int) ≤ (f : Int) + (i : Int) := by omega
    have e : ((pl f L i : Nat) : Int) = (f : Int) + (i : Int) := by unfold pl; rw [if_neg hle]; omega
    rw [e]
    clear e hle
    go_enter Try.func52, Try.ntmps52
    go_wp2
    go_ret
    exact ⟨rfl, rfl⟩

/-! Who is asked for. -/
theorem at_i_none (g : Nat) (k : Int) (w : World) {n : Nat} (h5 : w.cell? ⟨g, 5, none⟩ = some (.int .i64 (n : Int))) (hk : k < 0 ∨ (n : Int) ≤ k) :
    Calls Try.prog 57 #[.pointer (some ⟨g, 3, none⟩), .int .i64 k] w fun e w' => e = .returned (.tuple #[.int .i64 0, .bool false]) ∧ w = w' := by
  by_cases h0 : k < 0
  · clear hk
    go_enter Try.func57, Try.ntmps57
    go_wp2
    go_ret2
    exact ⟨rfl, rfl⟩
  · have hn : (n : Int) ≤ k := by omega
    clear hk
    go_enter Try.func57, Try.ntmps57
    go_wp2
    go_ret2
    exact ⟨rfl, rfl⟩
set_option maxRecDepth 20000 in
theorem at_i_some (g i : Nat) {m : Am} (w : World) (h : AmAt w g m) (hi : i < m.fl.length) :
    Calls Try.prog 57 #[.pointer (some ⟨g, 3, none⟩), .int .i64 (i : Int)] w fun e w' => e = .returned (.tuple #[.int .i64 m.fl[i], .bool true]) ∧ Below w.heap.size w w' := by
  obtain ⟨k0, k1, k2, k3, k4, k5, k6, k7, k8, k9, k10⟩ := cells11 h.row
  have hfew := h.fr.few
  obtain ⟨hp, hx⟩ := h.fr.at hi
  obtain ⟨b, cap, cur, ev, hbl, hb, hc1, hc2, hc3, hc4⟩ := own_open h.fo (.inl (by omega))
  have hcell := own_int_at hb hc4 _ hp
  rw [hx] at hcell
  rw [ev] at k3
  have hff := h.fr.first_lt
  have h131 := h.few.1
  have PL : ∀ w' : World, w'.cell? ⟨g, 3, none⟩ = some (.slice (some ⟨b, 0, none⟩) m.fc.length cap) → w'.cell? ⟨g, 4, none⟩ = some (.int .i64 (m.ff : Int)) → _ := fun w' a' b' => place_i g _ _ cap m.ff i w' a' b' h131 hff (by omega)
  have HPL := Lib.hid PL
  obtain ⟨p, hpe⟩ : ∃ p, p = pl m.ff m.fc.length i := ⟨_, rfl⟩
  rw [← hpe] at hcell hp HPL
  obtain ⟨L, hL⟩ : ∃ L, L = m.fc.length := ⟨_, rfl⟩
  rw [← hL] at k3 hp h131 hc1 HPL
  obtain ⟨n, hn⟩ : ∃ n, n = m.fl.length := ⟨_, rfl⟩
  obtain ⟨x, hxe⟩ : ∃ x, x = m.fl[i] := ⟨_, rfl⟩
  rw [← hxe] at hcell ⊢
  rw [← hn] at k5
  have hin : ¬ (n : Int) ≤ (i : Int) := by omega
  have hi0 : ¬ (i : Int) < 0 := by omega
  have hpi : (0 : Int) ≤ (p : Int) := by omega
  have hpl : (p : Int) < (L : Int) := by omega
  have hpn : ((p : Int)).toNat = p := by omega
  have H3 := Lib.hid k3
  have H4 := Lib.hid k4
  have H5 := Lib.hid k5
  have HCE := Lib.hid hcell
  clear k0 k1 k2 k3 k4 k6 k7 k8 k9 k10 hfew hx ev hbl hb hc1 hc2 hc3 hc4 hff PL hpe hL hn hxe h hi
  go_enter Try.func57, Try.ntmps57
  go_upto_region 4 with fail
  have HC : Hid (Gr w w.drew) := Gr.drew w
  clear k5
  refine wp_region_G 11 Gr (by kernel_rfl) ?_
  generalize w.drew = wc at HC ⊢
  -- 0: slot 18
  refine wpG_take preGr (i := 0) (v := ?_) (by kernel_rfl) (some 18) (by kernel_rfl) rfl (by kernel_rfl) (by kernel_rfl) (by kernel_rfl) (fun _ _ _ h => h) (by rfl) (fun w' hw' => ?_) rfl ?_
  rotate_left
  · try (have k3 := cell_gr (Gr.trans HC.out hw') H3.out; have hc := cell_gr (Gr.trans HC.out hw') HCE.out)
    go_simp
    with_reducible rfl
  simp only [Act.put, List.setIfInBounds_toArray, List.set_cons_zero, List.set_cons_succ]
  -- 1: slot 19
  refine wpG_take preGr (i := 1) (v := ?_) (by kernel_rfl) (some 19) (by kernel_rfl) rfl (by kernel_rfl) (by kernel_rfl) (by kernel_rfl) (fun _ _ _ h => h) (by rfl) (fun w' hw' => ?_) rfl ?_
  rotate_left
  · try (have k3 := cell_gr (Gr.trans HC.out hw') H3.out; have hc := cell_gr (Gr.trans HC.out hw') HCE.out)
    go_simp
    with_reducible rfl
  simp only [Act.put, List.setIfInBounds_toArray, List.set_cons_zero, List.set_cons_succ]
  -- 2: slot 20
  refine wpG_take preGr (i := 2) (v := ?_) (by kernel_rfl) (some 20) (by kernel_rfl) rfl (by kernel_rfl) (by kernel_rfl) (by kernel_rfl) (fun _ _ _ h => h) (by rfl) (fun w' hw' => ?_) rfl ?_
  rotate_left
  · try (have k3 := cell_gr (Gr.trans HC.out hw') H3.out; have hc := cell_gr (Gr.trans HC.out hw') HCE.out)
    go_simp
    with_reducible rfl
  simp only [Act.put, List.setIfInBounds_toArray, List.set_cons_zero, List.set_cons_succ]
  -- 3: slot 21
  refine wpG_take preGr (i := 3) (v := ?_) (by kernel_rfl) (some 21) (by kernel_rfl) rfl (by kernel_rfl) (by kernel_rfl) (by kernel_rfl) (fun _ _ _ h => h) (by rfl) (fun w' hw' => ?_) rfl ?_
  rotate_left
  · try (have k3 := cell_gr (Gr.trans HC.out hw') H3.out; have hc := cell_gr (Gr.trans HC.out hw') HCE.out)
    go_simp
    with_reducible rfl
  simp only [Act.put, List.setIfInBounds_toArray, List.set_cons_zero, List.set_cons_succ]
  -- 4: slot 22
  refine wpG_take preGr (i := 4) (v := ?_) (by kernel_rfl) (some 22) (by kernel_rfl) rfl (by kernel_rfl) (by kernel_rfl) (by kernel_rfl) (fun _ _ _ h => h) (by rfl) (fun w' hw' => ?_) rfl ?_
  rotate_left
  · try (have k3 := cell_gr (Gr.trans HC.out hw') H3.out; have hc := cell_gr (Gr.trans HC.out hw') HCE.out)
    go_simp
    with_reducible rfl
  simp only [Act.put, List.setIfInBounds_toArray, List.set_cons_zero, List.set_cons_succ]
  -- 5: slot 23
  refine wpG_take preGr (i := 5) (v := ?_) (by kernel_rfl) (some 23) (by kernel_rfl) rfl (by kernel_rfl) (by kernel_rfl) (by kernel_rfl) (fun _ _ _ h => h) (by rfl) (fun w' hw' => ?_) rfl ?_
  rotate_left
  · try (have k3 := cell_gr (Gr.trans HC.out hw') H3.out; have hc := cell_gr (Gr.trans HC.out hw') HCE.out)
    go_simp
    with_reducible rfl
  simp only [Act.put, List.setIfInBounds_toArray, List.set_cons_zero, List.set_cons_succ]
  refine wpG_one (i := 6) rfl (by kernel_rfl) (by rfl) ?_
  go_simp
  refine (HPL.out wc (cell_gr HC.out H3.out) (cell_gr HC.out H4.out)).mono ?_
  rintro e wn ⟨rfl, rfl⟩
  refine ⟨Gr.refl _, ?_⟩
  try simp only [Act.put, List.setIfInBounds_toArray, List.set_cons_zero, List.set_cons_succ]
  -- 7: slot 25
  refine wpG_take preGr (i := 7) (v := ?_) (by kernel_rfl) (some 25) (by kernel_rfl) rfl (by kernel_rfl) (by kernel_rfl) (by kernel_rfl) (fun _ _ _ h => h) (by rfl) (fun w' hw' => ?_) rfl ?_
  rotate_left
  · try (have k3 := cell_gr (Gr.trans HC.out hw') H3.out; have hc := cell_gr (Gr.trans HC.out hw') HCE.out)
    go_simp
    with_reducible rfl
  simp only [Act.put, List.setIfInBounds_toArray, List.set_cons_zero, List.set_cons_succ]
  -- 8: slot 26
  refine wpG_take preGr (i := 8) (v := ?_) (by kernel_rfl) (some 26) (by kernel_rfl) rfl (by kernel_rfl) (by kernel_rfl) (by kernel_rfl) (fun _ _ _ h => h) (by rfl) (fun w' hw' => ?_) rfl ?_
  rotate_left
  · try (have k3 := cell_gr (Gr.trans HC.out hw') H3.out; have hc := cell_gr (Gr.trans HC.out hw') HCE.out)
    go_simp
    with_reducible rfl
  simp only [Act.put, List.setIfInBounds_toArray, List.set_cons_zero, List.set_cons_succ]
  -- 9: slot 4
  refine wpG_take preGr (i := 9) (v := ?_) (by kernel_rfl) (some 4) (by kernel_rfl) rfl (by kernel_rfl) (by kernel_rfl) (by kernel_rfl) (fun _ _ _ h => h) (by rfl) (fun w' hw' => ?_) rfl ?_
  rotate_left
  · try (have k3 := cell_gr (Gr.trans HC.out hw') H3.out; have hc := cell_gr (Gr.trans HC.out hw') HCE.out)
    go_simp
    with_reducible rfl
  simp only [Act.put, List.setIfInBounds_toArray, List.set_cons_zero, List.set_cons_succ]
  -- 10: slot 5
  refine wpG_take preGr (i := 10) (v := ?_) (by kernel_rfl) (some 5) (by kernel_rfl) rfl (by kernel_rfl) (by kernel_rfl) (by kernel_rfl) (fun _ _ _ h => h) (by rfl) (fun w' hw' => ?_) rfl ?_
  rotate_left
  · try (have k3 := cell_gr (Gr.trans HC.out hw') H3.out; have hc := cell_gr (Gr.trans HC.out hw') HCE.out)
    go_simp
    with_reducible rfl
  simp only [Act.put, List.setIfInBounds_toArray, List.set_cons_zero, List.set_cons_succ]
  refine wpG_done (by kernel_rfl) ?_ _
  go_wp2
  go_ret2
  exact ⟨rfl, HC.out⟩
theorem front_i_none (g : Nat) (w : World) (h5 : w.cell? ⟨g, 5, none⟩ = some (.int .i64 0)) :
    Calls Try.prog 51 #[.pointer (some ⟨g, 3, none⟩)] w fun e w' => e = .returned (.tuple #[.int .i64 0, .bool false]) ∧ w = w' := by
  have A := Lib.hid (at_i_none g 0 w (n := 0) h5 (.inr (Int.le_refl _)))
  clear h5
  go_enter Try.func51, Try.ntmps51
  go_wp2_with fail
  refine A.out.mono ?_
  rintro e w' ⟨rfl, rfl⟩
  go_wp2
  go_ret2
  exact ⟨rfl, rfl⟩
theorem front_i_some (g : Nat) {m : Am} {x : Int} {l : List Int} (w : World) (h : AmAt w g m) (hi : m.fl = x :: l) :
    Calls Try.prog 51 #[.pointer (some ⟨g, 3, none⟩)] w fun e w' => e = .returned (.tuple #[.int .i64 x, .bool true]) ∧ Below w.heap.size w w' := by
  have hx : ∀ h : 0 < m.fl.length, m.fl[0] = x := fun h => by simp [hi]
  have A := at_i_some g 0 w h (by rw [hi]; simp)
  rw [hx] at A
  have HA := Lib.hid A
  clear A h hi hx
  go_enter Try.func51, Try.ntmps51
  go_wp2_with fail
  refine HA.out.mono ?_
  rintro e w' ⟨rfl, hb⟩
  have HB := Lib.hid hb
  clear hb
  go_wp2
  go_ret2
  exact ⟨rfl, HB.out⟩

theorem isTick_any (t : Int) (w : World) :
    Calls Try.prog 32 #[.int .i64 t] w fun e w' => e = .returned (.bool (decide (okT t))) ∧ w = w' := by
  by_cases h0 : 0 ≤ t
  · by_cases h1 : t ≤ 1099511627776
    · rw [decide_eq_true (show okT t from ⟨h0, h1⟩)]
      go_enter Try.func32, Try.ntmps32
      go_wp2
      go_ret
      exact ⟨rfl, rfl⟩
    · rw [decide_eq_false (show ¬ okT t from fun h => h1 h.2)]
      go_enter Try.func32, Try.ntmps32
      go_wp2
      go_ret
      exact ⟨rfl, rfl⟩
  · rw [decide_eq_false (show ¬ okT t from fun h => h0 h.1)]
    go_enter Try.func32, Try.ntmps32
    go_wp2
    go_ret
    exact ⟨rfl, rfl⟩
theorem isMade_nil (w : World) :
    Calls Try.prog 37 #[.pointer none] w fun e w' => e = .returned (.bool false) ∧ w = w' := by
  go_enter Try.func37, Try.ntmps37
  go_wp2
  go_ret
  exact ⟨rfl, rfl⟩
theorem isMade_zero (g : Nat) (w : World) (h : w.cell? ⟨g, 9, none⟩ = some (.slice none 0 0)) :
    Calls Try.prog 37 #[.pointer (some ⟨g, 0, none⟩)] w fun e w' => e = .returned (.bool false) ∧ w = w' := by
  go_enter Try.func37, Try.ntmps37
  go_wp2
  go_ret
  exact ⟨rfl, rfl⟩
theorem isMade_yes (g : Nat) {m : Am} (w : World) (h : AmAt w g m) :
    Calls Try.prog 37 #[.pointer (some ⟨g, 0, none⟩)] w fun e w' => e = .returned (.bool true) ∧ w = w' := by
  obtain ⟨k0, k1, k2, k3, k4, k5, k6, k7, k8, k9, k10⟩ := cells11 h.row
  obtain ⟨b, cap, cur, ev, _⟩ := own_open h.to (.inr h.made)
  rw [ev] at k9
  clear h ev k0 k1 k2 k3 k4 k5 k6 k7 k8 k10
  go_enter Try.func37, Try.ntmps37
  go_wp2
  go_ret
  exact ⟨rfl, rfl⟩
theorem check_nil (t : Int) (w : World) :
    Calls Try.prog 34 #[.pointer none, .int .i64 t] w fun e w' => e = .returned (.int .i64 4) ∧ w = w' := by
  go_enter Try.func34, Try.ntmps34
  go_wp2_with fail
  refine (isMade_nil w).mono ?_
  rintro e w' ⟨rfl, rfl⟩
  go_wp2
  go_ret
  exact ⟨rfl, rfl⟩
theorem check_zero (g : Nat) (t : Int) (w : World) (h : w.cell? ⟨g, 9, none⟩ = some (.slice none 0 0)) :
    Calls Try.prog 34 #[.pointer (some ⟨g, 0, none⟩), .int .i64 t] w fun e w' => e = .returned (.int .i64 4) ∧ w = w' := by
  have H := Lib.hid (isMade_zero g w h)
  clear h
  go_enter Try.func34, Try.ntmps34
  go_wp2_with fail
  refine H.out.mono ?_
  rintro e w' ⟨rfl, rfl⟩
  go_wp2
  go_ret
  exact ⟨rfl, rfl⟩
theorem check_yes (g : Nat) (t : Int) {m : Am} (w : World) (h : AmAt w g m) :
    Calls Try.prog 34 #[.pointer (some ⟨g, 0, none⟩), .int .i64 t] w fun e w' => e = .returned (.int .i64 (if okT t then 0 else 1)) ∧ w = w' := by
  have H := Lib.hid (isMade_yes g w h)
  have T := Lib.hid (isTick_any t w)
  clear h
  by_cases ht : okT t
  · rw [if_pos ht]
    rw [decide_eq_true ht] at T
    clear ht
    go_enter Try.func34, Try.ntmps34
    go_wp2_with fail
    refine H.out.mono ?_
    rintro e w' ⟨rfl, rfl⟩
    go_wp2_with fail
    refine T.out.mono ?_
    rintro e w' ⟨rfl, rfl⟩
    go_wp2
    go_ret
    exact ⟨rfl, rfl⟩
  · rw [if_neg ht]
    rw [decide_eq_false ht] at T
    clear ht
    go_enter Try.func34, Try.ntmps34
    go_wp2_with fail
    refine H.out.mono ?_
    rintro e w' ⟨rfl, rfl⟩
    go_wp2_with fail
    refine T.out.mono ?_
    rintro e w' ⟨rfl, rfl⟩
    go_wp2
    go_ret
    exact ⟨rfl, rfl⟩
end Go.Proofs.Ytpafcabcnkmadaa.Id
