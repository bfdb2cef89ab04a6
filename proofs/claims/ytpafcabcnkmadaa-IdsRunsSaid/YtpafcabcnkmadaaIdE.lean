/-
  ring.each of numbers: what it hands to each round.
-/
import Derived.Test.YtpafcabcnkmadaaIdD
namespace Go.Proofs.Ytpafcabcnkmadaa.Id
open Go.RowKit Go.Shelf
set_option linter.unusedVariables false
set_option linter.unusedSimpArgs false
attribute [local go_sem] Oper.semAt_some

def encI (x : Int) : Array Value := #[.int .i64 x]
set_option maxRecDepth 100000 in
set_option maxHeartbeats 4000000 in
theorem each_i_in (lp B0 g : Nat) {m : Am} (W : World)
    (J Jx : List Int → World → Prop) (hJ : ∀ xs A B, J xs A → Gr A B → J xs B) (hA : ∀ xs V, J xs V → AmAt V g m)
    (hY : ∀ xs x V, J xs V → xs.length < 131071 → YieldAt Fence.wide 0 Try.prog lp (encI x) V fun e V' => (e = .returned (.bool true) ∧ J (xs ++ [x]) V' ∧ Below B0 V V') ∨ (e = .returned (.bool false) ∧ Jx (xs ++ [x]) V'))
    (h0 : J [] W) :
    CallsIn Fence.wide 0 Try.prog 60 #[.pointer (some ⟨g, 3, none⟩), .func (.yield lp) #[] #[]] W fun e V => (∃ v, e = .returned v) ∧ ((∃ xs, xs = m.fl ∧ J xs V) ∨ (∃ xs, Jx xs V)) := by
  have HJ := Lib.hid hJ
  have HA := Lib.hid hA
  have HY := Lib.hid hY
  have H0 := Lib.hid h0
  have hfew : m.fl.length ≤ 131071 := Nat.le_trans (hA _ _ h0).fr.few (hA _ _ h0).few.1
  obtain ⟨k0, k1, k2, k3, k4, k5, k6, k7, k8, k9, k10⟩ := cells11 (hA _ _ h0).row
  obtain ⟨n, hn⟩ : ∃ n, n = m.fl.length := ⟨_, rfl⟩
  rw [← hn] at k5 hfew
  have HN := Lib.hid hn
  clear hJ hY h0 hA hn k0 k1 k2 k3 k4 k6 k7 k8 k9 k10
  refine callsIn_of_wp Try.func60 rfl trivial ?_ rfl
  simp only [Try.ntmps60, List.size_toArray, List.length_cons, List.length_nil, Nat.reduceAdd, Nat.reduceSub, Array.replicate_succ, Array.replicate_zero, List.push_toArray, List.append_toArray, List.nil_append, List.cons_append]
  gi_wp2
  gi_loopw [9] (fun iv wr => ∃ i : Nat, iv = .int .i64 (i : Int) ∧ i ≤ n ∧ Hid (J (m.fl.take i) wr)) (fun iv _ => n - (intOf iv).toNat)
  case atStart => exact ⟨0, rfl, Nat.zero_le _, H0⟩
  case round =>
    obtain ⟨i, rfl, hin, HJX⟩ := hrel
    by_cases hlt : i < n
    · have hi : i < m.fl.length := by rw [← HN.out]; exact hlt
      have hAW := HA.out _ _ HJX.out
      have h := hAW
      obtain ⟨k0, k1, k2, k3, k4, k5', k6, k7, k8, k9, k10⟩ := cells11 h.row
      have hfe := h.fr.few
      obtain ⟨hp, hx⟩ := h.fr.at hi
      obtain ⟨b, cap, cur, ev, hbl, hb, hc1, hc2, hc3, hc4⟩ := own_open h.fo (.inl (by omega))
      have hcell := own_int_at hb hc4 _ hp
      rw [hx] at hcell
      rw [ev] at k3
      have hff := h.fr.first_lt
      have h131 := h.few.1
      have PL : ∀ w' : World, w'.cell? ⟨g, 3, none⟩ = some (.slice (some ⟨b, 0, none⟩) m.fc.length cap) → w'.cell? ⟨g, 4, none⟩ = some (.int .i64 (m.ff : Int)) → _ := fun w' a' b' => place_i g _ _ cap m.ff i w' a' b' h131 hff (by omega)
      have HPL := Lib.hid PL
      obtain ⟨p, hpe⟩ : ∃ p, p = pl m.ff m.fc.length i := ⟨_, rfl⟩
      rw [← hpe] at hp HPL hcell
      obtain ⟨L, hL⟩ : ∃ L, L = m.fc.length := ⟨_, rfl⟩
      rw [← hL] at k3 hp h131 hc1 HPL
      obtain ⟨x, hxe⟩ : ∃ x, x = m.fl[i] := ⟨_, rfl⟩
      rw [← hxe] at hcell
      have HX : Hid (m.fl.take i ++ [x] = m.fl.take (i + 1)) := by show _ = _; rw [List.take_add_one, List.getElem?_eq_getElem hi, hxe]; rfl
      have hpi : (0 : Int) ≤ (p : Int) := by omega
      have hpl : (p : Int) < (L : Int) := by omega
      have hpn : ((p : Int)).toNat = p := by omega
      have HIN : Hid ((i : Int) ≤ 131071 ∧ i < n) := ⟨by omega, hlt⟩
      have HTL : Hid ((m.fl.take i).length < 131071) := by show _ < _; rw [List.length_take]; omega
      clear hfe hx ev hbl hb hc1 hc2 hc3 hc4 hff PL hpe hL hxe h hAW k0 k1 k2 k5' k6 k7 k8 k9 k10 hi
      obtain ⟨fn, tmps, assign, body, hy, hR⟩ := HY.out _ x wr.drew (HJ.out _ _ _ HJX.out (Gr.drew wr)) HTL.out
      dsimp only [encI] at hy
      gi_wp2
      refine wpIn_region_any (by kernel_rfl) ?_
      change wpAnyIn _ _ _ _ _ _ _ _ _ wr.drew
      have k6d := cell_gr (Gr.drew wr) k3
      have k7d := cell_gr (Gr.drew wr) k4
      have c0d := cell_gr (Gr.drew wr) hcell
      generalize wr.drew = wd at k6d k7d c0d hR hy ⊢
      clear k3 k4 hcell
      refine wpAnyIn_take (i := 0) (v := ?_) rfl rfl (by kernel_rfl) (by kernel_rfl) (by kernel_rfl) (fun _ _ _ h => h) ⟨Or.inl ⟨by rfl, ?_⟩, fun _ => rfl⟩ ?_
      rotate_left
      · intro w
        go_simp
        with_reducible rfl
      simp only [Act.put, List.setIfInBounds_toArray, List.set_cons_zero, List.set_cons_succ]
      refine wpAnyIn_take (i := 1) (v := ?_) rfl rfl (by kernel_rfl) (by kernel_rfl) (by kernel_rfl) (fun _ _ _ h => h) ⟨Or.inl ⟨by rfl, ?_⟩, fun _ => rfl⟩ ?_
      rotate_left
      · intro w
        go_simp
        with_reducible rfl
      simp only [Act.put, List.setIfInBounds_toArray, List.set_cons_zero, List.set_cons_succ]
      refine wpAnyIn_take (i := 2) (v := ?_) rfl rfl (by kernel_rfl) (by kernel_rfl) (by kernel_rfl) (fun _ _ _ h => h) ⟨Or.inl ⟨by rfl, ?_⟩, fun _ => rfl⟩ ?_
      rotate_left
      · intro w
        go_simp
        with_reducible rfl
      simp only [Act.put, List.setIfInBounds_toArray, List.set_cons_zero, List.set_cons_succ]
      refine wpAnyIn_take (i := 3) (v := ?_) rfl rfl (by kernel_rfl) (by kernel_rfl) (by kernel_rfl) (fun _ _ _ h => h) ⟨Or.inl ⟨by rfl, ?_⟩, fun _ => rfl⟩ ?_
      rotate_left
      · intro w
        go_simp
        with_reducible rfl
      simp only [Act.put, List.setIfInBounds_toArray, List.set_cons_zero, List.set_cons_succ]
      refine wpAnyIn_take (i := 5) (v := ?_) rfl rfl (by kernel_rfl) (by kernel_rfl) (by kernel_rfl) (fun _ _ _ h => h) ⟨Or.inl ⟨by rfl, ?_⟩, fun _ => rfl⟩ ?_
      rotate_left
      · intro w
        go_simp
        with_reducible rfl
      simp only [Act.put, List.setIfInBounds_toArray, List.set_cons_zero, List.set_cons_succ]
      refine wpAnyIn_take (i := 6) (v := ?_) rfl rfl (by kernel_rfl) (by kernel_rfl) (by kernel_rfl) (fun _ _ _ h => h) ⟨Or.inl ⟨by rfl, ?_⟩, fun _ => rfl⟩ ?_
      rotate_left
      · intro w
        go_simp
        with_reducible rfl
      simp only [Act.put, List.setIfInBounds_toArray, List.set_cons_zero, List.set_cons_succ]
      refine wpAnyIn_ready (rs := [4, 7]) (by kernel_rfl) (by simp) ?_
      refine AllReadyIn.cons rfl (fun K hK => ?_) (AllReadyIn.cons rfl (fun K hK => ?_) AllReadyIn.nil)
      go_simp
      refine hK _ _ ?_
      clear hK K
      try simp only [Act.put, List.setIfInBounds_toArray, List.set_cons_zero, List.set_cons_succ]
      refine wpAnyIn_ready (rs := [7]) (by kernel_rfl) (by simp) ?_
      refine AllReadyIn.cons rfl (fun K hK => ?_) AllReadyIn.nil
      go_simp
      refine ⟨trivial, rfl, ?_⟩
      refine (callsIn_wide.2 (HPL.out _ k6d k7d)).mono ?_
      rintro e w1 ⟨rfl, rfl⟩
      refine hK _ _ ?_
      clear hK K
      try simp only [Act.put, List.setIfInBounds_toArray, List.set_cons_zero, List.set_cons_succ]
      rotate_left
      go_simp
      refine ⟨trivial, rfl, ?_⟩
      refine (callsIn_wide.2 (HPL.out _ k6d k7d)).mono ?_
      rintro e w1 ⟨rfl, rfl⟩
      refine hK _ _ ?_
      clear hK K
      try simp only [Act.put, List.setIfInBounds_toArray, List.set_cons_zero, List.set_cons_succ]
      refine wpAnyIn_ready (rs := [4]) (by kernel_rfl) (by simp) ?_
      refine AllReadyIn.cons rfl (fun K hK => ?_) AllReadyIn.nil
      go_simp
      refine hK _ _ ?_
      clear hK K
      try simp only [Act.put, List.setIfInBounds_toArray, List.set_cons_zero, List.set_cons_succ]
      all_goals
        refine wpAnyIn_ready (rs := [8]) (by kernel_rfl) (by simp) ?_
        refine AllReadyIn.cons rfl (fun K hK => ?_) AllReadyIn.nil
        go_simp
        refine hK _ _ ?_
        clear hK K
        try simp only [Act.put, List.setIfInBounds_toArray, List.set_cons_zero, List.set_cons_succ]
        refine wpAnyIn_ready (rs := [9]) (by kernel_rfl) (by simp) ?_
        refine AllReadyIn.cons rfl (fun K hK => ?_) AllReadyIn.nil
        go_simp
        refine hK _ _ ?_
        clear hK K
        try simp only [Act.put, List.setIfInBounds_toArray, List.set_cons_zero, List.set_cons_succ]
        refine wpAnyIn_ready (rs := [10]) (by kernel_rfl) (by simp) ?_
        refine AllReadyIn.cons rfl (fun K hK => ?_) AllReadyIn.nil
        go_simp
        refine ⟨rfl, hR.mono ?_⟩
        rintro e w5 (⟨rfl, hj5, hb5⟩ | ⟨rfl, hx5⟩)
        · rw [HX.out] at hj5
          have HJ5 := Lib.hid hj5
          clear hj5 hb5 k6d k7d c0d hy hR
          refine hK _ _ ?_
          clear hK K
          try simp only [Act.put, List.setIfInBounds_toArray, List.set_cons_zero, List.set_cons_succ]
          refine wpAnyIn_ready (rs := [11]) (by kernel_rfl) (by simp) ?_
          refine AllReadyIn.cons rfl (fun K hK => ?_) AllReadyIn.nil
          go_simp
          refine hK _ _ ?_
          clear hK K
          try simp only [Act.put, List.setIfInBounds_toArray, List.set_cons_zero, List.set_cons_succ]
          refine wpAnyIn_done (by kernel_rfl) ?_ _
          gi_wp2
          go_roundw
          case rel =>
            have hle : i + 1 ≤ n := by omega
            first | exact ⟨i + 1, by go_num, hle, HJ5⟩ | ((repeat apply Exists.intro); exact ⟨⟨i + 1, by go_num, hle, HJ5⟩, rfl⟩)
          case measure => simp [intOf]; omega
        · have HX5 := Lib.hid hx5
          clear hx5 k6d k7d c0d hy hR
          refine hK _ _ ?_
          clear hK K
          try simp only [Act.put, List.setIfInBounds_toArray, List.set_cons_zero, List.set_cons_succ]
          refine wpAnyIn_ready (rs := [11]) (by kernel_rfl) (by simp) ?_
          refine AllReadyIn.cons rfl (fun K hK => ?_) AllReadyIn.nil
          go_simp
          refine hK _ _ ?_
          clear hK K
          try simp only [Act.put, List.setIfInBounds_toArray, List.set_cons_zero, List.set_cons_succ]
          refine wpAnyIn_done (by kernel_rfl) ?_ _
          gi_wp2
          refine bodyPost_ret (results_none rfl _ _ _) rfl ?_
          exact ⟨⟨_, rfl⟩, .inr ⟨_, HX5.out⟩⟩
    · have HE : Hid (m.fl.take i = m.fl) := by show _ = _; rw [List.take_of_length_le]; rw [← HN.out]; omega
      gi_wp2
      go_end0
      exact ⟨⟨_, rfl⟩, .inl ⟨_, HE.out, HJX.out⟩⟩
end Go.Proofs.Ytpafcabcnkmadaa.Id
