/-
  ring.each: what it hands to each round.
-/
import Derived.Test.YtpafcabcnkmadaaIdC
import Derived.Test.YtpafcabcnkmadaaRngM
import Derived.RangeFuncNested
import Derived.Shelf.Abstract
import Derived.WalkKit
import Derived.OwnWalkIn
import Derived.TacticsInMore
import Derived.LoopNIn
import Derived.LoopIn
import Derived.OrdersIn
namespace Go.Proofs.Ytpafcabcnkmadaa.Id
open Go.RowKit Go.Shelf
set_option linter.unusedVariables false
set_option linter.unusedSimpArgs false
attribute [local go_sem] Oper.semAt_some

def encR (x : Int × Int) : Array Value := #[pairV x]
set_option maxRecDepth 100000 in
set_option maxHeartbeats 4000000 in
theorem each_r_in (lp B0 g : Nat) {m : Am} (W : World)
    (J Jx : List (Int × Int) → World → Prop) (hJ : ∀ xs A B, J xs A → Gr A B → J xs B) (hA : ∀ xs V, J xs V → AmAt V g m)
    (hY : ∀ xs x V, J xs V → xs.length < 131071 → YieldAt Fence.wide 0 Try.prog lp (encR x) V fun e V' => (e = .returned (.bool true) ∧ J (xs ++ [x]) V' ∧ Below B0 V V') ∨ (e = .returned (.bool false) ∧ Jx (xs ++ [x]) V'))
    (h0 : J [] W) :
    CallsIn Fence.wide 0 Try.prog 38 #[.pointer (some ⟨g, 6, none⟩), .func (.yield lp) #[] #[]] W fun e V => (∃ v, e = .returned v) ∧ ((∃ xs, xs = m.rl ∧ J xs V) ∨ (∃ xs, Jx xs V)) := by
  have HJ := Lib.hid hJ
  have HA := Lib.hid hA
  have HY := Lib.hid hY
  have H0 := Lib.hid h0
  have hfew : m.rl.length ≤ 131071 := Nat.le_trans (hA _ _ h0).rr.few (hA _ _ h0).few.2
  obtain ⟨k0, k1, k2, k3, k4, k5, k6, k7, k8, k9, k10⟩ := cells11 (hA _ _ h0).row
  obtain ⟨n, hn⟩ : ∃ n, n = m.rl.length := ⟨_, rfl⟩
  rw [← hn] at k8 hfew
  have HN := Lib.hid hn
  clear hJ hY h0 hA hn k0 k1 k2 k3 k4 k5 k6 k7 k9 k10
  refine callsIn_of_wp Try.func38 rfl trivial ?_ rfl
  simp only [Try.ntmps38, List.size_toArray, List.length_cons, List.length_nil, Nat.reduceAdd, Nat.reduceSub, Array.replicate_succ, Array.replicate_zero, List.push_toArray, List.append_toArray, List.nil_append, List.cons_append]
  gi_wp2
  gi_loopw [9] (fun iv wr => ∃ i : Nat, iv = .int .i64 (i : Int) ∧ i ≤ n ∧ Hid (J (m.rl.take i) wr)) (fun iv _ => n - (intOf iv).toNat)
  case atStart => exact ⟨0, rfl, Nat.zero_le _, H0⟩
  case round =>
    obtain ⟨i, rfl, hin, HJX⟩ := hrel
    by_cases hlt : i < n
    · have hi : i < m.rl.length := by rw [← HN.out]; exact hlt
      have hAW := HA.out _ _ HJX.out
      have h := hAW
      obtain ⟨k0, k1, k2, k3, k4, k5, k6, k7, k8', k9, k10⟩ := cells11 h.row
      have hfe := h.rr.few
      obtain ⟨hp, hx⟩ := h.rr.at hi
      obtain ⟨b, cap, cur, ev, hbl, hb, hc1, hc2, hc3, hc4⟩ := own_open h.ro (.inl (by omega))
      have hcell := own_rest_at hb hc4 _ hp
      rw [hx] at hcell
      have hrange := range_pair hcell.1 hcell.2
      rw [ev] at k6
      have hff := h.rr.first_lt
      have h131 := h.few.2
      have PL : ∀ w' : World, w'.cell? ⟨g, 6, none⟩ = some (.slice (some ⟨b, 0, none⟩) m.rc.length cap) → w'.cell? ⟨g, 7, none⟩ = some (.int .i64 (m.rf : Int)) → _ := fun w' a' b' => place_r g _ _ cap m.rf i w' a' b' h131 hff (by omega)
      have HPL := Lib.hid PL
      obtain ⟨p, hpe⟩ : ∃ p, p = pl m.rf m.rc.length i := ⟨_, rfl⟩
      rw [← hpe] at hrange hp HPL hcell
      obtain ⟨L, hL⟩ : ∃ L, L = m.rc.length := ⟨_, rfl⟩
      rw [← hL] at k6 hp h131 hc1 HPL
      obtain ⟨x, hxe⟩ : ∃ x, x = m.rl[i] := ⟨_, rfl⟩
      rw [← hxe] at hrange hcell
      have HX : Hid (m.rl.take i ++ [x] = m.rl.take (i + 1)) := by show _ = _; rw [List.take_add_one, List.getElem?_eq_getElem hi, hxe]; rfl
      have hpi : (0 : Int) ≤ (p : Int) := by omega
      have hpl : (p : Int) < (L : Int) := by omega
      have hpn : ((p : Int)).toNat = p := by omega
      have HIN : Hid ((i : Int) ≤ 131071 ∧ i < n) := ⟨by omega, hlt⟩
      have HTL : Hid ((m.rl.take i).length < 131071) := by show _ < _; rw [List.length_take]; omega
      obtain ⟨hcell0, hcell1⟩ := hcell
      clear hfe hx ev hbl hb hc1 hc2 hc3 hc4 hff PL hpe hL hxe h hAW k0 k1 k2 k3 k4 k5 k8' k9 k10 hrange hi
      obtain ⟨fn, tmps, assign, body, hy, hR⟩ := HY.out _ x wr.drew (HJ.out _ _ _ HJX.out (Gr.drew wr)) HTL.out
      dsimp only [encR, pairV] at hy
      gi_wp2
      refine wpIn_region_any (by kernel_rfl) ?_
      change wpAnyIn _ _ _ _ _ _ _ _ _ wr.drew
      have k6d := cell_gr (Gr.drew wr) k6
      have k7d := cell_gr (Gr.drew wr) k7
      have c0d := cell_gr (Gr.drew wr) hcell0
      have c1d := cell_gr (Gr.drew wr) hcell1
      generalize wr.drew = wd at k6d k7d c0d c1d hR hy ⊢
      clear k6 k7 hcell0 hcell1
      refine wpAnyIn_take (i := 0) (v := ?_) rfl rfl (by kernel_rfl) (by kernel_rfl) (by kernel_rfl) (fun _ _ _ h => h) ⟨Or.inl ⟨by rfl, ?_⟩, fun _ => rfl⟩ ?_
      rotate_left
      · intro w
        go_simp
        with_reducible rfl
      simp only [Act.put, List.setIfInBounds_toArray, List.set_cons_zero, List.set_cons_succ]
      refine wpAnyIn_take (i := 1) (v := ?_) rfl rfl (by kernel_rfl) (by kernel_rfl) (by kernel_rfl) (fun _ _ _ h => h) ⟨Or.inl ⟨by rfl, ?_⟩, fun _ => rfl⟩ ?_
      rotate_left
      · intro w
        go_simp
        with_reducible rfl
      simp only [Act.put, List.setIfInBounds_toArray, List.set_cons_zero, List.set_cons_succ]
      refine wpAnyIn_take (i := 2) (v := ?_) rfl rfl (by kernel_rfl) (by kernel_rfl) (by kernel_rfl) (fun _ _ _ h => h) ⟨Or.inl ⟨by rfl, ?_⟩, fun _ => rfl⟩ ?_
      rotate_left
      · intro w
        go_simp
        with_reducible rfl
      simp only [Act.put, List.setIfInBounds_toArray, List.set_cons_zero, List.set_cons_succ]
      refine wpAnyIn_take (i := 3) (v := ?_) rfl rfl (by kernel_rfl) (by kernel_rfl) (by kernel_rfl) (fun _ _ _ h => h) ⟨Or.inl ⟨by rfl, ?_⟩, fun _ => rfl⟩ ?_
      rotate_left
      · intro w
        go_simp
        with_reducible rfl
      simp only [Act.put, List.setIfInBounds_toArray, List.set_cons_zero, List.set_cons_succ]
      refine wpAnyIn_take (i := 5) (v := ?_) rfl rfl (by kernel_rfl) (by kernel_rfl) (by kernel_rfl) (fun _ _ _ h => h) ⟨Or.inl ⟨by rfl, ?_⟩, fun _ => rfl⟩ ?_
      rotate_left
      · intro w
        go_simp
        with_reducible rfl
      simp only [Act.put, List.setIfInBounds_toArray, List.set_cons_zero, List.set_cons_succ]
      refine wpAnyIn_take (i := 6) (v := ?_) rfl rfl (by kernel_rfl) (by kernel_rfl) (by kernel_rfl) (fun _ _ _ h => h) ⟨Or.inl ⟨by rfl, ?_⟩, fun _ => rfl⟩ ?_
      rotate_left
      · intro w
        go_simp
        with_reducible rfl
      simp only [Act.put, List.setIfInBounds_toArray, List.set_cons_zero, List.set_cons_succ]
      refine wpAnyIn_ready (rs := [4, 7]) (by kernel_rfl) (by simp) ?_
      refine AllReadyIn.cons rfl (fun K hK => ?_) (AllReadyIn.cons rfl (fun K hK => ?_) AllReadyIn.nil)
      go_simp
      refine hK _ _ ?_
      clear hK K
      try simp only [Act.put, List.setIfInBounds_toArray, List.set_cons_zero, List.set_cons_succ]
      refine wpAnyIn_ready (rs := [7]) (by kernel_rfl) (by simp) ?_
      refine AllReadyIn.cons rfl (fun K hK => ?_) AllReadyIn.nil
      go_simp
      refine ⟨trivial, rfl, ?_⟩
      refine (callsIn_wide.2 (HPL.out _ k6d k7d)).mono ?_
      rintro e w1 ⟨rfl, rfl⟩
      refine hK _ _ ?_
      clear hK K
      try simp only [Act.put, List.setIfInBounds_toArray, List.set_cons_zero, List.set_cons_succ]
      rotate_left
      go_simp
      refine ⟨trivial, rfl, ?_⟩
      refine (callsIn_wide.2 (HPL.out _ k6d k7d)).mono ?_
      rintro e w1 ⟨rfl, rfl⟩
      refine hK _ _ ?_
      clear hK K
      try simp only [Act.put, List.setIfInBounds_toArray, List.set_cons_zero, List.set_cons_succ]
      refine wpAnyIn_ready (rs := [4]) (by kernel_rfl) (by simp) ?_
      refine AllReadyIn.cons rfl (fun K hK => ?_) AllReadyIn.nil
      go_simp
      refine hK _ _ ?_
      clear hK K
      try simp only [Act.put, List.setIfInBounds_toArray, List.set_cons_zero, List.set_cons_succ]
      all_goals
        refine wpAnyIn_ready (rs := [8]) (by kernel_rfl) (by simp) ?_
        refine AllReadyIn.cons rfl (fun K hK => ?_) AllReadyIn.nil
        go_simp
        refine hK _ _ ?_
        clear hK K
        try simp only [Act.put, List.setIfInBounds_toArray, List.set_cons_zero, List.set_cons_succ]
        refine wpAnyIn_ready (rs := [9]) (by kernel_rfl) (by simp) ?_
        refine AllReadyIn.cons rfl (fun K hK => ?_) AllReadyIn.nil
        go_simp
        refine hK _ _ ?_
        clear hK K
        try simp only [Act.put, List.setIfInBounds_toArray, List.set_cons_zero, List.set_cons_succ]
        refine wpAnyIn_ready (rs := [10]) (by kernel_rfl) (by simp) ?_
        refine AllReadyIn.cons rfl (fun K hK => ?_) AllReadyIn.nil
        go_simp
        refine ⟨rfl, hR.mono ?_⟩
        rintro e w5 (⟨rfl, hj5, hb5⟩ | ⟨rfl, hx5⟩)
        · rw [HX.out] at hj5
          have HJ5 := Lib.hid hj5
          clear hj5 hb5 k6d k7d c0d c1d hy hR
          refine hK _ _ ?_
          clear hK K
          try simp only [Act.put, List.setIfInBounds_toArray, List.set_cons_zero, List.set_cons_succ]
          refine wpAnyIn_ready (rs := [11]) (by kernel_rfl) (by simp) ?_
          refine AllReadyIn.cons rfl (fun K hK => ?_) AllReadyIn.nil
          go_simp
          refine hK _ _ ?_
          clear hK K
          try simp only [Act.put, List.setIfInBounds_toArray, List.set_cons_zero, List.set_cons_succ]
          refine wpAnyIn_done (by kernel_rfl) ?_ _
          gi_wp2
          go_roundw
          case rel =>
            have hle : i + 1 ≤ n := by omega
            first | exact ⟨i + 1, by go_num, hle, HJ5⟩ | ((repeat apply Exists.intro); exact ⟨⟨i + 1, by go_num, hle, HJ5⟩, rfl⟩)
          case measure => simp [intOf]; omega
        · have HX5 := Lib.hid hx5
          clear hx5 k6d k7d c0d c1d hy hR
          refine hK _ _ ?_
          clear hK K
          try simp only [Act.put, List.setIfInBounds_toArray, List.set_cons_zero, List.set_cons_succ]
          refine wpAnyIn_ready (rs := [11]) (by kernel_rfl) (by simp) ?_
          refine AllReadyIn.cons rfl (fun K hK => ?_) AllReadyIn.nil
          go_simp
          refine hK _ _ ?_
          clear hK K
          try simp only [Act.put, List.setIfInBounds_toArray, List.set_cons_zero, List.set_cons_succ]
          refine wpAnyIn_done (by kernel_rfl) ?_ _
          gi_wp2
          refine bodyPost_ret (results_none rfl _ _ _) rfl ?_
          exact ⟨⟨_, rfl⟩, .inr ⟨_, HX5.out⟩⟩
    · have HE : Hid (m.rl.take i = m.rl) := by show _ = _; rw [List.take_of_length_le]; rw [← HN.out]; omega
      gi_wp2
      go_end0
      exact ⟨⟨_, rfl⟩, .inl ⟨_, HE.out, HJX.out⟩⟩
end Go.Proofs.Ytpafcabcnkmadaa.Id
