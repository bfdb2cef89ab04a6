/-
  The document's: Due, Set.
-/
import Derived.Test.YtmcifmgfgdahnaaTmN
import Derived.Deep.DeepCutAuto
namespace Go.Proofs.Ytmcifmgfgdahnaa.Tm
open Go.RowKit
open Go.Proofs.Ytmcifmgfgdahnaa.Id (Tr Tr.refl Tr.gr Tr.only blk own_blk flatR flatR_len flatR_get flatR_cons flatR_append flatR_one flatR_cell RR)
set_option linter.unusedVariables false
set_option linter.unusedSimpArgs false

theorem flatR_dropT : ∀ (l : List D) (k : Nat), (flatR l).drop (k * 2) = flatR (l.drop k)
  | [], k => by simp [flatR]
  | p :: l, 0 => rfl
  | p :: l, k + 1 => by
    rw [List.drop_succ_cons, flatR_cons, show (k + 1) * 2 = k * 2 + 1 + 1 by omega, List.drop_succ_cons, List.drop_succ_cons, flatR_dropT l k]
theorem while_of {P : D → Bool} : ∀ {l : List D} {k : Nat}, k ≤ l.length → (∀ j, (hj : j < l.length) → j < k → P l[j] = true) → ((h : k < l.length) → P l[k] = false) → l.takeWhile P = l.take k ∧ l.dropWhile P = l.drop k
  | [], k, _, _, _ => by simp
  | x :: l, 0, _, _, h => by
    have := h (by simp)
    exact ⟨List.takeWhile_cons_of_neg (by simpa using this), List.dropWhile_cons_of_neg (by simpa using this)⟩
  | x :: l, k + 1, hk, ha, h => by
    have h0 := ha 0 (by simp) (by omega)
    have ih := while_of (P := P) (l := l) (k := k) (by simpa using hk) (fun j hj hjk => ha (j + 1) (by simpa using hj) (by omega)) (fun hh => h (by simpa using hh))
    have h0' : P x = true := h0
    rw [List.takeWhile_cons_of_pos h0', List.dropWhile_cons_of_pos h0', List.take_succ_cons, List.drop_succ_cons, ih.1, ih.2]
    exact ⟨rfl, rfl⟩
/-- 'l[:k]', 'l[k:]' of a row of timers. -/
theorem rows_cut {w : World} {A : Option Addr} {n C k : Nat} {l : List D} (h : RR w (.slice A n C) l) (hn : n = l.length) (hk : k ≤ n) :
    ∃ a1 a2, (∀ w', (Instr.slice 26 (.slice A n C) none (some (.int .i64 (k : Int))) none).run Try.prog w' = .ok (.slice a1 k C) w') ∧ (∀ w', (Instr.slice 26 (.slice A n C) (some (.int .i64 (k : Int))) none none).run Try.prog w' = .ok (.slice a2 (n - k) (C - k)) w') ∧
      ∀ w', Below w.heap.size w w' → Rd w' 2 (.slice a1 k C) k (flatR (l.take k)) ∧ Rd w' 2 (.slice a2 (n - k) (C - k)) (n - k) (flatR (l.drop k)) := by
  obtain ⟨i0, hi, hz0, hz1, hz2⟩ := info_parts infoD
  subst hn
  obtain ⟨a1, h1, h2⟩ := slice_upto (P := Try.prog) Try.underlying26 hi hz1 h .i64 (k : Int) k rfl hk
  obtain ⟨a2, h3, h4⟩ := slice_from (P := Try.prog) Try.underlying26 hi hz1 h .i64 (k : Int) k rfl hk
  rw [flatR_take] at h2
  rw [flatR_dropT] at h4
  exact ⟨a1, a2, h1, h3, fun w' hb => ⟨Rd.below h2 hb, Rd.below h4 hb⟩⟩
set_option maxRecDepth 20000 in
set_option maxHeartbeats 8000000 in
theorem ddue_any (t : Int) {v : Value} {l : List D} (w : World) (h : Rw w 40 v l) (hl : l.length ≤ 65536) :
    Calls Try.prog 12 #[v, .int .i64 t] w fun e w' => ∃ dv rv, e = .returned (.tuple #[dv, rv]) ∧ Rw w' 40 dv (due l t) ∧ Rw w' 40 rv (left l t) ∧ Below w.heap.size w w' := by
  obtain ⟨i0, hi, hz0, hz1, hz2⟩ := info_parts infoD
  obtain ⟨A, C, ev⟩ := h.sl
  subst ev
  have HR := Lib.hid h.rr
  obtain ⟨n, hn⟩ : ∃ n, n = l.length := ⟨_, rfl⟩
  rw [← hn] at HR hl ⊢
  have HN := Lib.hid hn
  clear h hn
  go_enter Try.func12, Try.ntmps12
  go_wp2_with fail
  go_loopw [6] (fun iv wr => ∃ k : Nat, k ≤ n ∧ iv = .int .i64 (k : Int) ∧ w = wr ∧ ∀ j, (hj : j < l.length) → j < k → decide (l[j].2 ≤ t) = true) (fun iv _ => n - (intOf iv).toNat)
  case atStart => exact ⟨0, Nat.zero_le _, rfl, rfl, fun j _ h => by omega⟩
  case round =>
    obtain ⟨k, hkn, rfl, rfl, hall⟩ := hrel
    have HALL := Lib.hid hall
    clear hall
    have hlast : (k < n → ∃ b o, A = some ⟨b, o, none⟩ ∧ ∃ x : D, (∀ hk : k < l.length, x = l[k]) ∧ w.cell? ⟨b, o + k * 2, none⟩ = some (.int .i64 x.1) ∧ w.cell? ⟨b, o + k * 2 + 1, none⟩ = some (.int .i64 x.2)) := fun hlt => by
      have hil : k < l.length := by rw [← HN.out]; exact hlt
      obtain ⟨b1, o1, ea, c0, c1⟩ := cells_at HR.out HN.out hil
      exact ⟨b1, o1, ea, l[k], fun _ => rfl, c0, c1⟩
    by_cases hgo : ∃ hk : k < l.length, l[k].2 ≤ t
    · obtain ⟨hk, hle⟩ := hgo
      have hlt : k < n := by rw [HN.out]; exact hk
      obtain ⟨b1, o1, ea, x, hx, c0, c1⟩ := hlast hlt
      subst ea
      rw [← hx hk] at hle
      have HALL2 : Hid (∀ j, (hj : j < l.length) → j < k + 1 → decide (l[j].2 ≤ t) = true) := fun j hj hjk => by
        by_cases e : j = k
        · subst e; rw [← hx hj]; exact decide_eq_true hle
        · exact HALL.out j hj (by omega)
      clear hx hlast hk c0
      go_wp2_with fail
      go_roundw
      case rel =>
        first
          | exact ⟨k + 1, by omega, by go_num, trivial, HALL2.out⟩
          | exact ⟨k + 1, by omega, by go_num, rfl, HALL2.out⟩
          | ((repeat apply Exists.intro); exact ⟨⟨k + 1, by omega, by go_num, rfl, HALL2.out⟩, rfl⟩)
      case measure => simp [intOf]; omega
    · have hw := while_of (P := fun p => decide (p.2 ≤ t)) (l := l) (k := k) (by rw [← HN.out]; exact hkn) HALL.out (fun hh => decide_eq_false fun h => hgo ⟨hh, h⟩)
      have HDU : Hid (due l t = l.take k ∧ left l t = l.drop k) := hw
      obtain ⟨a1, a2, hs1, hs2, hrd⟩ := rows_cut HR.out HN.out hkn
      have HRD := Lib.hid hrd
      have HK1 : Hid ((0 + k) * 16 ≤ 140737488355328) := by show _ ≤ _; omega
      have HK2 : Hid ((0 + (n - k)) * 16 ≤ 140737488355328) := by show _ ≤ _; omega
      have HLEN : Hid ((l.take k).length = k ∧ (l.drop k).length = n - k) := by
        refine ⟨?_, ?_⟩
        · rw [List.length_take, ← HN.out]; omega
        · rw [List.length_drop, ← HN.out]
      have hcond : n ≤ k ∨ (k < n ∧ ∃ b o, A = some ⟨b, o, none⟩ ∧ ∃ x2 : Int, t < x2 ∧ w.cell? ⟨b, o + k * 2 + 1, none⟩ = some (.int .i64 x2)) := by
        by_cases hlt : k < n
        · obtain ⟨b1, o1, ea, x, hx, c0, c1⟩ := hlast hlt
          have hil : k < l.length := by rw [← HN.out]; exact hlt
          refine .inr ⟨hlt, b1, o1, ea, x.2, ?_, c1⟩
          rw [hx hil]
          exact Int.not_le.1 fun h => hgo ⟨hil, h⟩
        · exact .inl (by omega)
      clear hlast hgo hrd
      have e : k = n ∨ (k < n ∧ ∃ b o, A = some ⟨b, o, none⟩ ∧ ∃ x2 : Int, t < x2 ∧ w.cell? ⟨b, o + k * 2 + 1, none⟩ = some (.int .i64 x2)) := by
        rcases hcond with h | h
        · exact .inl (by omega)
        · exact .inr h
      clear hcond hw
      go_upto_region 2 with fail
      go_cut [19] (fun s19 wx => s19 = .bool false ∧ wx = w)
      case first =>
        rcases e with h | ⟨h, b1, o1, ea, x2, h2, h3⟩
        · have h' : ¬ k < n := by omega
          clear h
          go_wp2_with fail
          go_meet
          exact ⟨rfl, rfl⟩
        · subst ea
          go_wp2_with fail
          go_meet
          exact ⟨by first | rfl | (simp; omega), rfl⟩
      case rest =>
        obtain ⟨hs19, hwc⟩ := hcut
        subst hs19 hwc
        clear e
        go_upto_region 4 with fail
        have HC : Hid (Below wc.heap.size wc wc.drew) := Gr.drew wc
        have HRR := Lib.hid HRD.out
        clear HRD HR
        obtain ⟨w, hw⟩ : ∃ x, x = wc := ⟨_, rfl⟩
        subst hw
        refine wp_region_G 12 (Below (w.heap.size)) (by kernel_rfl) ?_
        generalize w.drew = wc at HC ⊢
        -- 1: slot 23
        refine wpG_take (preBelow (w.heap.size)) (i := 1) (v := ?_) (by kernel_rfl) (some 23) (by kernel_rfl) rfl (by kernel_rfl) (by kernel_rfl) (by kernel_rfl) (fun _ _ _ h => h) (by rfl) (fun w' hw' => ?_) rfl ?_
        rotate_left
        · go_simp
          with_reducible rfl
        simp only [Act.put, List.setIfInBounds_toArray, List.set_cons_zero, List.set_cons_succ]
        -- 2: slot 24
        refine wpG_take (preBelow (w.heap.size)) (i := 2) (v := ?_) (by kernel_rfl) (some 24) (by kernel_rfl) rfl (by kernel_rfl) (by kernel_rfl) (by kernel_rfl) (fun _ _ _ h => h) (by rfl) (fun w' hw' => ?_) rfl ?_
        rotate_left
        · go_simp
          with_reducible rfl
        simp only [Act.put, List.setIfInBounds_toArray, List.set_cons_zero, List.set_cons_succ]
        -- 3: slot 25
        refine wpG_take (preBelow (w.heap.size)) (i := 3) (v := ?_) (by kernel_rfl) (some 25) (by kernel_rfl) rfl (by kernel_rfl) (by kernel_rfl) (by kernel_rfl) (fun _ _ _ h => h) (by rfl) (fun w' hw' => ?_) rfl ?_
        rotate_left
        · go_simp
          with_reducible rfl
        simp only [Act.put, List.setIfInBounds_toArray, List.set_cons_zero, List.set_cons_succ]
        -- 6: slot 28
        refine wpG_take (preBelow (w.heap.size)) (i := 6) (v := ?_) (by kernel_rfl) (some 28) (by kernel_rfl) rfl (by kernel_rfl) (by kernel_rfl) (by kernel_rfl) (fun _ _ _ h => h) (by rfl) (fun w' hw' => ?_) rfl ?_
        rotate_left
        · go_simp
          with_reducible rfl
        simp only [Act.put, List.setIfInBounds_toArray, List.set_cons_zero, List.set_cons_succ]
        -- 7: slot 29
        refine wpG_take (preBelow (w.heap.size)) (i := 7) (v := ?_) (by kernel_rfl) (some 29) (by kernel_rfl) rfl (by kernel_rfl) (by kernel_rfl) (by kernel_rfl) (fun _ _ _ h => h) (by rfl) (fun w' hw' => ?_) rfl ?_
        rotate_left
        · go_simp
          with_reducible rfl
        simp only [Act.put, List.setIfInBounds_toArray, List.set_cons_zero, List.set_cons_succ]
        -- 8: slot 30
        refine wpG_take (preBelow (w.heap.size)) (i := 8) (v := ?_) (by kernel_rfl) (some 30) (by kernel_rfl) rfl (by kernel_rfl) (by kernel_rfl) (by kernel_rfl) (fun _ _ _ h => h) (by rfl) (fun w' hw' => ?_) rfl ?_
        rotate_left
        · go_simp
          with_reducible rfl
        simp only [Act.put, List.setIfInBounds_toArray, List.set_cons_zero, List.set_cons_succ]
        refine wpG_two (i := 0) (j := 5) rfl rfl (by kernel_rfl) (by rfl) (by rfl) ?_ ?_
        · go_simp
          have hb : Gr wc (wc.alloc (.cells #[] 40)) := (Below.refl _ _).alloc (Nat.le_refl _) _
          refine ⟨hb.mono (Below.size HC.out), ?_⟩
          have n1 := Lib.hid (ownsRow_mono (own_new wc [] 40 0 2 rfl (Nat.zero_le _)) (Below.size HC.out))
          try have p2 := Lib.hid (far_new HO2.out)
          try have n2 := Lib.hid (ownsRow_below HO2.out hb)
          have nc := Lib.hid (Gr.trans HC.out hb)
          generalize wc.alloc (.cells #[] 40) = wn at *
          clear HC hb
          have HC := nc
          clear nc
          have HO1 := n1
          clear n1
          try (clear HO2; have HO2 := n2; clear n2)
          try (have HD12 := Lib.hid (far_sym p2.out); clear p2)
          obtain ⟨wc, hwc⟩ : ∃ x, x = wn := ⟨_, rfl⟩
          subst hwc
          try simp only [Act.put, List.setIfInBounds_toArray, List.set_cons_zero, List.set_cons_succ]
          refine wpG_two (i := 4) (j := 5) rfl rfl (by kernel_rfl) (by rfl) (by rfl) ?_ ?_
          · refine wp_append_where _ (some 26) (.tmp 22) (.tmp 25) 26 rfl w.heap.size 40 i0 _ 2 16 Try.underlying26 hi hz0 hz1 hz2 rfl (by decide) _ _ _ rfl HO1.out _ k _ rfl (HRR.out _ HC.out).1 (flatR_cell _) HK1.out (by decide) (Below.size HC.out) rfl ?_
            intro v' wn ho hg hw
            have hb := grown_below HO1.out (Below.size HC.out) hg
            refine ⟨hb, ?_⟩
            obtain ⟨A1, C1, rfl⟩ : ∃ A1 C1, v' = .slice A1 (0 + k) C1 := by
              obtain ⟨_, A1, C1, e1, _⟩ := own_rd ho
              exact ⟨A1, C1, e1⟩
            try (have q := far_grow HO2.out (far_sym HD12.out) hg hw; have n2 := Lib.hid q.1; have p2 := Lib.hid q.2; clear q)
            have nc : Hid (Below w.heap.size w wn) := Below.trans HC.out hb
            clear HC HO1 hg hw hb
            have HC := nc
            have HO1 := Lib.hid ho
            clear nc ho
            try (clear HO2 HD12; have HO2 := n2; clear n2)
            try (have HD12 := Lib.hid (far_sym p2.out); clear p2)
            obtain ⟨wc, hwc⟩ : ∃ x, x = wn := ⟨_, rfl⟩
            subst hwc
            try simp only [Act.put, List.setIfInBounds_toArray, List.set_cons_zero, List.set_cons_succ]
            refine wpG_one (i := 5) rfl (by kernel_rfl) (by rfl) ?_
            go_simp
            have hb : Gr wc (wc.alloc (.cells #[] 40)) := (Below.refl _ _).alloc (Nat.le_refl _) _
            refine ⟨hb.mono (Below.size HC.out), ?_⟩
            have n2 := Lib.hid (ownsRow_mono (own_new wc [] 40 0 2 rfl (Nat.zero_le _)) (Below.size HC.out))
            try have p1 := Lib.hid (far_new HO1.out)
            try have n1 := Lib.hid (ownsRow_below HO1.out hb)
            have nc := Lib.hid (Gr.trans HC.out hb)
            generalize wc.alloc (.cells #[] 40) = wn at *
            clear HC hb
            have HC := nc
            clear nc
            have HO2 := n2
            clear n2
            try (clear HO1; have HO1 := n1; clear n1)
            try (have HD12 := p1; clear p1)
            obtain ⟨wc, hwc⟩ : ∃ x, x = wn := ⟨_, rfl⟩
            subst hwc
            try simp only [Act.put, List.setIfInBounds_toArray, List.set_cons_zero, List.set_cons_succ]
            refine wpG_one (i := 9) rfl (by kernel_rfl) (by rfl) ?_
            refine wp_append_where _ (some 31) (.tmp 27) (.tmp 30) 26 rfl w.heap.size 40 i0 _ 2 16 Try.underlying26 hi hz0 hz1 hz2 rfl (by decide) _ _ _ rfl HO2.out _ (n - k) _ rfl (HRR.out _ HC.out).2 (flatR_cell _) HK2.out (by decide) (Below.size HC.out) rfl ?_
            intro v' wn ho hg hw
            have hb := grown_below HO2.out (Below.size HC.out) hg
            refine ⟨hb, ?_⟩
            obtain ⟨A2, C2, rfl⟩ : ∃ A2 C2, v' = .slice A2 (0 + (n - k)) C2 := by
              obtain ⟨_, A2, C2, e1, _⟩ := own_rd ho
              exact ⟨A2, C2, e1⟩
            have q := far_grow HO1.out HD12.out hg hw
            have HR1 : Hid (Rw wn 40 (.slice A1 k C1) (l.take k)) := by
              have := ownsRow_mono q.1 (Nat.zero_le _)
              show wn.ownsRow _ _ _ _ _ _
              rw [HLEN.out.1]
              simpa using this
            have HR2 : Hid (Rw wn 40 (.slice A2 (n - k) C2) (l.drop k)) := by
              have := ownsRow_mono ho (Nat.zero_le _)
              show wn.ownsRow _ _ _ _ _ _
              rw [HLEN.out.2]
              simpa using this
            have nc : Hid (Below w.heap.size w wn) := Below.trans HC.out hb
            clear HC HO1 HO2 HD12 hg hw hb q ho
            try simp only [Act.put, List.setIfInBounds_toArray, List.set_cons_zero, List.set_cons_succ]
            -- 10: slot 4
            refine wpG_take (preBelow (w.heap.size)) (i := 10) (v := ?_) (by kernel_rfl) (some 4) (by kernel_rfl) rfl (by kernel_rfl) (by kernel_rfl) (by kernel_rfl) (fun _ _ _ h => h) (by rfl) (fun w' hw' => ?_) rfl ?_
            rotate_left
            · go_simp
              with_reducible rfl
            simp only [Act.put, List.setIfInBounds_toArray, List.set_cons_zero, List.set_cons_succ]
            -- 11: slot 5
            refine wpG_take (preBelow (w.heap.size)) (i := 11) (v := ?_) (by kernel_rfl) (some 5) (by kernel_rfl) rfl (by kernel_rfl) (by kernel_rfl) (by kernel_rfl) (fun _ _ _ h => h) (by rfl) (fun w' hw' => ?_) rfl ?_
            rotate_left
            · go_simp
              with_reducible rfl
            simp only [Act.put, List.setIfInBounds_toArray, List.set_cons_zero, List.set_cons_succ]
            refine wpG_done (by kernel_rfl) ?_ _
            go_wp2_with fail
            go_ret2
            exact ⟨_, _, rfl, by rw [HDU.out.1]; exact HR1.out, by rw [HDU.out.2]; exact HR2.out, nc.out⟩
          · go_simp
            have hb : Gr wc (wc.alloc (.cells #[] 40)) := (Below.refl _ _).alloc (Nat.le_refl _) _
            refine ⟨hb.mono (Below.size HC.out), ?_⟩
            have n2 := Lib.hid (ownsRow_mono (own_new wc [] 40 0 2 rfl (Nat.zero_le _)) (Below.size HC.out))
            try have p1 := Lib.hid (far_new HO1.out)
            try have n1 := Lib.hid (ownsRow_below HO1.out hb)
            have nc := Lib.hid (Gr.trans HC.out hb)
            generalize wc.alloc (.cells #[] 40) = wn at *
            clear HC hb
            have HC := nc
            clear nc
            have HO2 := n2
            clear n2
            try (clear HO1; have HO1 := n1; clear n1)
            try (have HD12 := p1; clear p1)
            obtain ⟨wc, hwc⟩ : ∃ x, x = wn := ⟨_, rfl⟩
            subst hwc
            try simp only [Act.put, List.setIfInBounds_toArray, List.set_cons_zero, List.set_cons_succ]
            refine wpG_one (i := 4) rfl (by kernel_rfl) (by rfl) ?_
            refine wp_append_where _ (some 26) (.tmp 22) (.tmp 25) 26 rfl w.heap.size 40 i0 _ 2 16 Try.underlying26 hi hz0 hz1 hz2 rfl (by decide) _ _ _ rfl HO1.out _ k _ rfl (HRR.out _ HC.out).1 (flatR_cell _) HK1.out (by decide) (Below.size HC.out) rfl ?_
            intro v' wn ho hg hw
            have hb := grown_below HO1.out (Below.size HC.out) hg
            refine ⟨hb, ?_⟩
            obtain ⟨A1, C1, rfl⟩ : ∃ A1 C1, v' = .slice A1 (0 + k) C1 := by
              obtain ⟨_, A1, C1, e1, _⟩ := own_rd ho
              exact ⟨A1, C1, e1⟩
            try (have q := far_grow HO2.out (far_sym HD12.out) hg hw; have n2 := Lib.hid q.1; have p2 := Lib.hid q.2; clear q)
            have nc : Hid (Below w.heap.size w wn) := Below.trans HC.out hb
            clear HC HO1 hg hw hb
            have HC := nc
            have HO1 := Lib.hid ho
            clear nc ho
            try (clear HO2 HD12; have HO2 := n2; clear n2)
            try (have HD12 := Lib.hid (far_sym p2.out); clear p2)
            obtain ⟨wc, hwc⟩ : ∃ x, x = wn := ⟨_, rfl⟩
            subst hwc
            try simp only [Act.put, List.setIfInBounds_toArray, List.set_cons_zero, List.set_cons_succ]
            refine wpG_one (i := 9) rfl (by kernel_rfl) (by rfl) ?_
            refine wp_append_where _ (some 31) (.tmp 27) (.tmp 30) 26 rfl w.heap.size 40 i0 _ 2 16 Try.underlying26 hi hz0 hz1 hz2 rfl (by decide) _ _ _ rfl HO2.out _ (n - k) _ rfl (HRR.out _ HC.out).2 (flatR_cell _) HK2.out (by decide) (Below.size HC.out) rfl ?_
            intro v' wn ho hg hw
            have hb := grown_below HO2.out (Below.size HC.out) hg
            refine ⟨hb, ?_⟩
            obtain ⟨A2, C2, rfl⟩ : ∃ A2 C2, v' = .slice A2 (0 + (n - k)) C2 := by
              obtain ⟨_, A2, C2, e1, _⟩ := own_rd ho
              exact ⟨A2, C2, e1⟩
            have q := far_grow HO1.out HD12.out hg hw
            have HR1 : Hid (Rw wn 40 (.slice A1 k C1) (l.take k)) := by
              have := ownsRow_mono q.1 (Nat.zero_le _)
              show wn.ownsRow _ _ _ _ _ _
              rw [HLEN.out.1]
              simpa using this
            have HR2 : Hid (Rw wn 40 (.slice A2 (n - k) C2) (l.drop k)) := by
              have := ownsRow_mono ho (Nat.zero_le _)
              show wn.ownsRow _ _ _ _ _ _
              rw [HLEN.out.2]
              simpa using this
            have nc : Hid (Below w.heap.size w wn) := Below.trans HC.out hb
            clear HC HO1 HO2 HD12 hg hw hb q ho
            try simp only [Act.put, List.setIfInBounds_toArray, List.set_cons_zero, List.set_cons_succ]
            -- 10: slot 4
            refine wpG_take (preBelow (w.heap.size)) (i := 10) (v := ?_) (by kernel_rfl) (some 4) (by kernel_rfl) rfl (by kernel_rfl) (by kernel_rfl) (by kernel_rfl) (fun _ _ _ h => h) (by rfl) (fun w' hw' => ?_) rfl ?_
            rotate_left
            · go_simp
              with_reducible rfl
            simp only [Act.put, List.setIfInBounds_toArray, List.set_cons_zero, List.set_cons_succ]
            -- 11: slot 5
            refine wpG_take (preBelow (w.heap.size)) (i := 11) (v := ?_) (by kernel_rfl) (some 5) (by kernel_rfl) rfl (by kernel_rfl) (by kernel_rfl) (by kernel_rfl) (fun _ _ _ h => h) (by rfl) (fun w' hw' => ?_) rfl ?_
            rotate_left
            · go_simp
              with_reducible rfl
            simp only [Act.put, List.setIfInBounds_toArray, List.set_cons_zero, List.set_cons_succ]
            refine wpG_done (by kernel_rfl) ?_ _
            go_wp2_with fail
            go_ret2
            exact ⟨_, _, rfl, by rw [HDU.out.1]; exact HR1.out, by rw [HDU.out.2]; exact HR2.out, nc.out⟩
        · go_simp
          have hb : Gr wc (wc.alloc (.cells #[] 40)) := (Below.refl _ _).alloc (Nat.le_refl _) _
          refine ⟨hb.mono (Below.size HC.out), ?_⟩
          have n2 := Lib.hid (ownsRow_mono (own_new wc [] 40 0 2 rfl (Nat.zero_le _)) (Below.size HC.out))
          try have p1 := Lib.hid (far_new HO1.out)
          try have n1 := Lib.hid (ownsRow_below HO1.out hb)
          have nc := Lib.hid (Gr.trans HC.out hb)
          generalize wc.alloc (.cells #[] 40) = wn at *
          clear HC hb
          have HC := nc
          clear nc
          have HO2 := n2
          clear n2
          try (clear HO1; have HO1 := n1; clear n1)
          try (have HD12 := p1; clear p1)
          obtain ⟨wc, hwc⟩ : ∃ x, x = wn := ⟨_, rfl⟩
          subst hwc
          try simp only [Act.put, List.setIfInBounds_toArray, List.set_cons_zero, List.set_cons_succ]
          refine wpG_one (i := 0) rfl (by kernel_rfl) (by rfl) ?_
          go_simp
          have hb : Gr wc (wc.alloc (.cells #[] 40)) := (Below.refl _ _).alloc (Nat.le_refl _) _
          refine ⟨hb.mono (Below.size HC.out), ?_⟩
          have n1 := Lib.hid (ownsRow_mono (own_new wc [] 40 0 2 rfl (Nat.zero_le _)) (Below.size HC.out))
          try have p2 := Lib.hid (far_new HO2.out)
          try have n2 := Lib.hid (ownsRow_below HO2.out hb)
          have nc := Lib.hid (Gr.trans HC.out hb)
          generalize wc.alloc (.cells #[] 40) = wn at *
          clear HC hb
          have HC := nc
          clear nc
          have HO1 := n1
          clear n1
          try (clear HO2; have HO2 := n2; clear n2)
          try (have HD12 := Lib.hid (far_sym p2.out); clear p2)
          obtain ⟨wc, hwc⟩ : ∃ x, x = wn := ⟨_, rfl⟩
          subst hwc
          try simp only [Act.put, List.setIfInBounds_toArray, List.set_cons_zero, List.set_cons_succ]
          refine wpG_one (i := 4) rfl (by kernel_rfl) (by rfl) ?_
          refine wp_append_where _ (some 26) (.tmp 22) (.tmp 25) 26 rfl w.heap.size 40 i0 _ 2 16 Try.underlying26 hi hz0 hz1 hz2 rfl (by decide) _ _ _ rfl HO1.out _ k _ rfl (HRR.out _ HC.out).1 (flatR_cell _) HK1.out (by decide) (Below.size HC.out) rfl ?_
          intro v' wn ho hg hw
          have hb := grown_below HO1.out (Below.size HC.out) hg
          refine ⟨hb, ?_⟩
          obtain ⟨A1, C1, rfl⟩ : ∃ A1 C1, v' = .slice A1 (0 + k) C1 := by
            obtain ⟨_, A1, C1, e1, _⟩ := own_rd ho
            exact ⟨A1, C1, e1⟩
          try (have q := far_grow HO2.out (far_sym HD12.out) hg hw; have n2 := Lib.hid q.1; have p2 := Lib.hid q.2; clear q)
          have nc : Hid (Below w.heap.size w wn) := Below.trans HC.out hb
          clear HC HO1 hg hw hb
          have HC := nc
          have HO1 := Lib.hid ho
          clear nc ho
          try (clear HO2 HD12; have HO2 := n2; clear n2)
          try (have HD12 := Lib.hid (far_sym p2.out); clear p2)
          obtain ⟨wc, hwc⟩ : ∃ x, x = wn := ⟨_, rfl⟩
          subst hwc
          try simp only [Act.put, List.setIfInBounds_toArray, List.set_cons_zero, List.set_cons_succ]
          refine wpG_one (i := 9) rfl (by kernel_rfl) (by rfl) ?_
          refine wp_append_where _ (some 31) (.tmp 27) (.tmp 30) 26 rfl w.heap.size 40 i0 _ 2 16 Try.underlying26 hi hz0 hz1 hz2 rfl (by decide) _ _ _ rfl HO2.out _ (n - k) _ rfl (HRR.out _ HC.out).2 (flatR_cell _) HK2.out (by decide) (Below.size HC.out) rfl ?_
          intro v' wn ho hg hw
          have hb := grown_below HO2.out (Below.size HC.out) hg
          refine ⟨hb, ?_⟩
          obtain ⟨A2, C2, rfl⟩ : ∃ A2 C2, v' = .slice A2 (0 + (n - k)) C2 := by
            obtain ⟨_, A2, C2, e1, _⟩ := own_rd ho
            exact ⟨A2, C2, e1⟩
          have q := far_grow HO1.out HD12.out hg hw
          have HR1 : Hid (Rw wn 40 (.slice A1 k C1) (l.take k)) := by
            have := ownsRow_mono q.1 (Nat.zero_le _)
            show wn.ownsRow _ _ _ _ _ _
            rw [HLEN.out.1]
            simpa using this
          have HR2 : Hid (Rw wn 40 (.slice A2 (n - k) C2) (l.drop k)) := by
            have := ownsRow_mono ho (Nat.zero_le _)
            show wn.ownsRow _ _ _ _ _ _
            rw [HLEN.out.2]
            simpa using this
          have nc : Hid (Below w.heap.size w wn) := Below.trans HC.out hb
          clear HC HO1 HO2 HD12 hg hw hb q ho
          try simp only [Act.put, List.setIfInBounds_toArray, List.set_cons_zero, List.set_cons_succ]
          -- 10: slot 4
          refine wpG_take (preBelow (w.heap.size)) (i := 10) (v := ?_) (by kernel_rfl) (some 4) (by kernel_rfl) rfl (by kernel_rfl) (by kernel_rfl) (by kernel_rfl) (fun _ _ _ h => h) (by rfl) (fun w' hw' => ?_) rfl ?_
          rotate_left
          · go_simp
            with_reducible rfl
          simp only [Act.put, List.setIfInBounds_toArray, List.set_cons_zero, List.set_cons_succ]
          -- 11: slot 5
          refine wpG_take (preBelow (w.heap.size)) (i := 11) (v := ?_) (by kernel_rfl) (some 5) (by kernel_rfl) rfl (by kernel_rfl) (by kernel_rfl) (by kernel_rfl) (fun _ _ _ h => h) (by rfl) (fun w' hw' => ?_) rfl ?_
          rotate_left
          · go_simp
            with_reducible rfl
          simp only [Act.put, List.setIfInBounds_toArray, List.set_cons_zero, List.set_cons_succ]
          refine wpG_done (by kernel_rfl) ?_ _
          go_wp2_with fail
          go_ret2
          exact ⟨_, _, rfl, by rw [HDU.out.1]; exact HR1.out, by rw [HDU.out.2]; exact HR2.out, nc.out⟩
theorem set_of {l : List D} {key t : Int} {k : Nat} (hk : k ≤ (without l key).length) (ha : ∀ j, (hj : j < (without l key).length) → j < k → decide (lt (without l key)[j] (key, t)) = true) (hb : (h : k < (without l key).length) → decide (lt (without l key)[k] (key, t)) = false) :
    set l (key, t) = (without l key).take k ++ (key, t) :: (without l key).drop k := by
  have := while_of (P := fun p => decide (lt p (key, t))) hk ha hb
  unfold set ins
  rw [this.1, this.2]
set_option maxRecDepth 20000 in
set_option maxHeartbeats 8000000 in
theorem dset_any (key t : Int) {v : Value} {l : List D} (w : World) (h : Rw w 40 v l) (hl : l.length ≤ 65535) :
    Calls Try.prog 8 #[v, .int .i64 key, .int .i64 t] w fun e w' => ∃ dv, e = .returned (.tuple #[dv, .int .i64 (setE key t)]) ∧ Rw w' 40 dv (setL l key t) ∧ Below w.heap.size w w' := by
  obtain ⟨i0, hi, hz0, hz1, hz2⟩ := info_parts infoD
  obtain ⟨A0, C0, ev⟩ := h.sl
  subst ev
  have HH := Lib.hid h
  by_cases ok : okD key t
  · have HW := Lib.hid (dwithout_any key w h (by omega))
    have HOK : Hid (setE key t = 0 ∧ setL l key t = set l (key, t)) := ⟨if_pos ok, if_pos ok⟩
    have c1 : ¬ key < 0 := by have := ok.1; omega
    have c2 : ¬ 1099511627776 < key := by have := ok.2.1; omega
    have c3 : ¬ t < 1 := by have := ok.2.2.1; omega
    have c4 : ¬ 1099511627776 < t := by have := ok.2.2.2; omega
    have hwl : (without l key).length ≤ 65535 := Nat.le_trans (List.length_filter_le _ _) hl
    rw [HOK.out.1]
    clear h ok
    obtain ⟨q, hq⟩ : ∃ q, q = without l key := ⟨_, rfl⟩
    have HQ := Lib.hid hq
    rw [← hq] at HW hwl
    clear hq
    go_enter Try.func8, Try.ntmps8
    go_wp2_with fail
    refine HW.out.mono ?_
    rintro e w1 ⟨rv, rfl, ho, hb⟩
    have HB := Lib.hid hb
    obtain ⟨n, hn⟩ : ∃ n, n = q.length := ⟨_, rfl⟩
    rw [← hn] at ho hwl
    have HN := Lib.hid hn
    obtain ⟨A, C, rfl⟩ : ∃ A C, rv = .slice A n C := by
      obtain ⟨_, A, C, e1, _⟩ := own_rd ho
      exact ⟨A, C, e1⟩
    have HR : Hid (RR w1 (.slice A n C) q) := by
      show RR _ _ _
      unfold RR
      rw [← HN.out]
      exact own_rd ho
    clear ho hb HW hn c1 c2 c3 c4
    go_wp2_with fail
    go_loopw [9] (fun iv wr => ∃ k : Nat, k ≤ n ∧ iv = .int .i64 (k : Int) ∧ w1 = wr ∧ ∀ j, (hj : j < q.length) → j < k → decide (lt q[j] (key, t)) = true) (fun iv _ => n - (intOf iv).toNat)
    case atStart => exact ⟨0, Nat.zero_le _, rfl, rfl, fun j _ h => by omega⟩
    case round =>
      obtain ⟨k, hkn, rfl, rfl, hall⟩ := hrel
      have HALL := Lib.hid hall
      clear hall
      by_cases hgo : ∃ hk : k < q.length, lt q[k] (key, t)
      · obtain ⟨hk, hle⟩ := hgo
        have hlt : k < n := by rw [HN.out]; exact hk
        obtain ⟨b1, o1, ea, d0, d1⟩ := cells_at HR.out HN.out hk
        subst ea
        have HALL2 : Hid (∀ j, (hj : j < q.length) → j < k + 1 → decide (lt q[j] (key, t)) = true) := fun j hj hjk => by
          by_cases e : j = k
          · subst e; exact decide_eq_true hle
          · exact HALL.out j hj (by omega)
        obtain ⟨x, hx⟩ : ∃ x, x = q[k] := ⟨_, rfl⟩
        rw [← hx] at d0 d1 hle
        have hle' : x.2 < t ∨ (¬ x.2 < t ∧ (x.2 == t) = true ∧ x.1 < key) := by
          unfold lt at hle
          simp only at hle
          by_cases g : x.2 < t
          · exact .inl g
          · exact .inr ⟨g, by rw [beq_iff_eq]; omega, by omega⟩
        clear hx hk hle
        rcases hle' with g | ⟨g1, g2, g3⟩
        · go_wp2_with fail
          go_roundw
          case rel =>
            first
              | exact ⟨k + 1, by omega, by go_num, trivial, HALL2.out⟩
              | exact ⟨k + 1, by omega, by go_num, rfl, HALL2.out⟩
              | ((repeat apply Exists.intro); exact ⟨⟨k + 1, by omega, by go_num, rfl, HALL2.out⟩, rfl⟩)
          case measure => simp [intOf]; omega
        · go_wp2_with fail
          go_roundw
          case rel =>
            first
              | exact ⟨k + 1, by omega, by go_num, trivial, HALL2.out⟩
              | exact ⟨k + 1, by omega, by go_num, rfl, HALL2.out⟩
              | ((repeat apply Exists.intro); exact ⟨⟨k + 1, by omega, by go_num, rfl, HALL2.out⟩, rfl⟩)
          case measure => simp [intOf]; omega
      · have HSET : Hid (set l (key, t) = q.take k ++ (key, t) :: q.drop k) := by
          have := set_of (l := l) (key := key) (t := t) (k := k) (by rw [← HQ.out, ← HN.out]; exact hkn) (by rw [← HQ.out]; exact HALL.out) (by rw [← HQ.out]; exact fun h => decide_eq_false fun hh => hgo ⟨h, hh⟩)
          show _ = _
          rw [this, HQ.out]
        obtain ⟨a1, a2, hs1, hs2, hrd⟩ := rows_cut HR.out HN.out hkn
        have HRR := Lib.hid hrd
        have HLEN : Hid ((q.take k).length = k ∧ (q.drop k).length = n - k) := by
          refine ⟨?_, ?_⟩
          · rw [List.length_take, ← HN.out]; omega
          · rw [List.length_drop, ← HN.out]
        have HK1 : Hid ((0 + k) * 16 ≤ 140737488355328) := by show _ ≤ _; omega
        have HK2 : Hid ((k + 1) * 16 ≤ 140737488355328) := by show _ ≤ _; omega
        have HK3 : Hid ((k + 1 + (n - k)) * 16 ≤ 140737488355328) := by show _ ≤ _; omega
        have e : k = n ∨ (k < n ∧ ∃ b o, A = some ⟨b, o, none⟩ ∧ ∃ x : D, w1.cell? ⟨b, o + k * 2, none⟩ = some (.int .i64 x.1) ∧ w1.cell? ⟨b, o + k * 2 + 1, none⟩ = some (.int .i64 x.2) ∧ ¬ x.2 < t ∧ ((x.2 == t) = false ∨ ((x.2 == t) = true ∧ ¬ x.1 < key))) := by
          by_cases hlt : k < n
          · have hil : k < q.length := by rw [← HN.out]; exact hlt
            obtain ⟨b1, o1, ea, d0, d1⟩ := cells_at HR.out HN.out hil
            refine .inr ⟨hlt, b1, o1, ea, q[k], d0, d1, ?_⟩
            have hno : ¬ lt q[k] (key, t) := fun h => hgo ⟨hil, h⟩
            unfold lt at hno
            simp only at hno
            refine ⟨fun h => hno (.inl h), ?_⟩
            by_cases h2 : q[k].2 = t
            · exact .inr ⟨by rw [beq_iff_eq]; exact h2, fun h => hno (.inr ⟨h2, h⟩)⟩
            · exact .inl (by rw [beq_eq_false_iff_ne]; exact h2)
          · exact .inl (by omega)
        clear hgo hrd
        go_upto_region 5 with fail
        go_cut [58] (fun s58 wx => s58 = .bool false ∧ wx = w1)
        case first =>
          rcases e with h | ⟨h, b1, o1, ea, x, h1, h2, h3, h4⟩
          · have h' : ¬ k < n := by omega
            clear h
            go_wp2_with fail
            go_meet
            exact ⟨by first | rfl | (simp; omega), rfl⟩
          · subst ea
            rcases h4 with h4 | ⟨h4, h5⟩
            · go_wp2_with fail
              go_meet
              exact ⟨by first | rfl | (simp; omega), rfl⟩
            · go_wp2_with fail
              go_meet
              exact ⟨by first | rfl | (simp; omega), rfl⟩
        case rest =>
          obtain ⟨hs58, hwc⟩ := hcut
          subst hs58 hwc
          clear e
          go_upto_region 7 with fail
          have HC : Hid (Below wc.heap.size wc wc.drew) := Gr.drew wc
          obtain ⟨w1, hw⟩ : ∃ x, x = wc := ⟨_, rfl⟩
          subst hw
          refine wp_region_G 16 (Below (w1.heap.size)) (by kernel_rfl) ?_
          generalize w1.drew = wc at HC ⊢
          -- 1: slot 62
          refine wpG_take (preBelow (w1.heap.size)) (i := 1) (v := ?_) (by kernel_rfl) (some 62) (by kernel_rfl) rfl (by kernel_rfl) (by kernel_rfl) (by kernel_rfl) (fun _ _ _ h => h) (by rfl) (fun w' hw' => ?_) rfl ?_
          rotate_left
          · try (have hbu : Try.prog.built 40 [(0, .int .i64 key), (1, .int .i64 t)] = some #[.int .i64 key, .int .i64 t] := by kernel_rfl)
            go_simp
            with_reducible rfl
          simp only [Act.put, List.setIfInBounds_toArray, List.set_cons_zero, List.set_cons_succ]
          -- 2: slot 63
          refine wpG_take (preBelow (w1.heap.size)) (i := 2) (v := ?_) (by kernel_rfl) (some 63) (by kernel_rfl) rfl (by kernel_rfl) (by kernel_rfl) (by kernel_rfl) (fun _ _ _ h => h) (by rfl) (fun w' hw' => ?_) rfl ?_
          rotate_left
          · try (have hbu : Try.prog.built 40 [(0, .int .i64 key), (1, .int .i64 t)] = some #[.int .i64 key, .int .i64 t] := by kernel_rfl)
            go_simp
            with_reducible rfl
          simp only [Act.put, List.setIfInBounds_toArray, List.set_cons_zero, List.set_cons_succ]
          -- 3: slot 64
          refine wpG_take (preBelow (w1.heap.size)) (i := 3) (v := ?_) (by kernel_rfl) (some 64) (by kernel_rfl) rfl (by kernel_rfl) (by kernel_rfl) (by kernel_rfl) (fun _ _ _ h => h) (by rfl) (fun w' hw' => ?_) rfl ?_
          rotate_left
          · try (have hbu : Try.prog.built 40 [(0, .int .i64 key), (1, .int .i64 t)] = some #[.int .i64 key, .int .i64 t] := by kernel_rfl)
            go_simp
            with_reducible rfl
          simp only [Act.put, List.setIfInBounds_toArray, List.set_cons_zero, List.set_cons_succ]
          -- 5: slot 66
          refine wpG_take (preBelow (w1.heap.size)) (i := 5) (v := ?_) (by kernel_rfl) (some 66) (by kernel_rfl) rfl (by kernel_rfl) (by kernel_rfl) (by kernel_rfl) (fun _ _ _ h => h) (by rfl) (fun w' hw' => ?_) rfl ?_
          rotate_left
          · try (have hbu : Try.prog.built 40 [(0, .int .i64 key), (1, .int .i64 t)] = some #[.int .i64 key, .int .i64 t] := by kernel_rfl)
            go_simp
            with_reducible rfl
          simp only [Act.put, List.setIfInBounds_toArray, List.set_cons_zero, List.set_cons_succ]
          -- 6: slot 67
          refine wpG_take (preBelow (w1.heap.size)) (i := 6) (v := ?_) (by kernel_rfl) (some 67) (by kernel_rfl) rfl (by kernel_rfl) (by kernel_rfl) (by kernel_rfl) (fun _ _ _ h => h) (by rfl) (fun w' hw' => ?_) rfl ?_
          rotate_left
          · try (have hbu : Try.prog.built 40 [(0, .int .i64 key), (1, .int .i64 t)] = some #[.int .i64 key, .int .i64 t] := by kernel_rfl)
            go_simp
            with_reducible rfl
          simp only [Act.put, List.setIfInBounds_toArray, List.set_cons_zero, List.set_cons_succ]
          -- 7: slot 68
          refine wpG_take (preBelow (w1.heap.size)) (i := 7) (v := ?_) (by kernel_rfl) (some 68) (by kernel_rfl) rfl (by kernel_rfl) (by kernel_rfl) (by kernel_rfl) (fun _ _ _ h => h) (by rfl) (fun w' hw' => ?_) rfl ?_
          rotate_left
          · try (have hbu : Try.prog.built 40 [(0, .int .i64 key), (1, .int .i64 t)] = some #[.int .i64 key, .int .i64 t] := by kernel_rfl)
            go_simp
            with_reducible rfl
          simp only [Act.put, List.setIfInBounds_toArray, List.set_cons_zero, List.set_cons_succ]
          -- 10: slot 71
          refine wpG_take (preBelow (w1.heap.size)) (i := 10) (v := ?_) (by kernel_rfl) (some 71) (by kernel_rfl) rfl (by kernel_rfl) (by kernel_rfl) (by kernel_rfl) (fun _ _ _ h => h) (by rfl) (fun w' hw' => ?_) rfl ?_
          rotate_left
          · try (have hbu : Try.prog.built 40 [(0, .int .i64 key), (1, .int .i64 t)] = some #[.int .i64 key, .int .i64 t] := by kernel_rfl)
            go_simp
            with_reducible rfl
          simp only [Act.put, List.setIfInBounds_toArray, List.set_cons_zero, List.set_cons_succ]
          -- 11: slot 72
          refine wpG_take (preBelow (w1.heap.size)) (i := 11) (v := ?_) (by kernel_rfl) (some 72) (by kernel_rfl) rfl (by kernel_rfl) (by kernel_rfl) (by kernel_rfl) (fun _ _ _ h => h) (by rfl) (fun w' hw' => ?_) rfl ?_
          rotate_left
          · try (have hbu : Try.prog.built 40 [(0, .int .i64 key), (1, .int .i64 t)] = some #[.int .i64 key, .int .i64 t] := by kernel_rfl)
            go_simp
            with_reducible rfl
          simp only [Act.put, List.setIfInBounds_toArray, List.set_cons_zero, List.set_cons_succ]
          -- 12: slot 73
          refine wpG_take (preBelow (w1.heap.size)) (i := 12) (v := ?_) (by kernel_rfl) (some 73) (by kernel_rfl) rfl (by kernel_rfl) (by kernel_rfl) (by kernel_rfl) (fun _ _ _ h => h) (by rfl) (fun w' hw' => ?_) rfl ?_
          rotate_left
          · try (have hbu : Try.prog.built 40 [(0, .int .i64 key), (1, .int .i64 t)] = some #[.int .i64 key, .int .i64 t] := by kernel_rfl)
            go_simp
            with_reducible rfl
          simp only [Act.put, List.setIfInBounds_toArray, List.set_cons_zero, List.set_cons_succ]
          refine wpG_two (i := 0) (j := 8) rfl rfl (by kernel_rfl) (by rfl) (by rfl) ?_ ?_
          · go_simp
            have hb : Gr wc (wc.alloc (.cells #[] 40)) := (Below.refl _ _).alloc (Nat.le_refl _) _
            refine ⟨hb.mono (Below.size HC.out), ?_⟩
            have n1 := Lib.hid (ownsRow_mono (own_new wc [] 40 0 2 rfl (Nat.zero_le _)) (Below.size HC.out))
            try have p2 := Lib.hid (far_new HO2.out)
            try have n2 := Lib.hid (ownsRow_below HO2.out hb)
            have nc := Lib.hid (Gr.trans HC.out hb)
            generalize wc.alloc (.cells #[] 40) = wn at *
            clear HC hb
            have HC := nc
            clear nc
            have HO1 := n1
            clear n1
            try (clear HO2; have HO2 := n2; clear n2)
            try (have HD12 := Lib.hid (far_sym p2.out); clear p2)
            obtain ⟨wc, hwc⟩ : ∃ x, x = wn := ⟨_, rfl⟩
            subst hwc
            try simp only [Act.put, List.setIfInBounds_toArray, List.set_cons_zero, List.set_cons_succ]
            refine wpG_two (i := 4) (j := 8) rfl rfl (by kernel_rfl) (by rfl) (by rfl) ?_ ?_
            · refine wp_append_where _ (some 65) (.tmp 61) (.tmp 64) 26 rfl w1.heap.size 40 i0 _ 2 16 Try.underlying26 hi hz0 hz1 hz2 rfl (by decide) _ _ _ rfl HO1.out _ k _ rfl (HRR.out _ HC.out).1 (flatR_cell _) HK1.out (by decide) (Below.size HC.out) rfl ?_
              intro v' wn ho hg hw
              have hb := grown_below HO1.out (Below.size HC.out) hg
              refine ⟨hb, ?_⟩
              rw [Nat.zero_add, List.nil_append] at ho
              obtain ⟨A1, C1, rfl⟩ : ∃ A1 C1, v' = .slice A1 k C1 := by
                obtain ⟨_, A1, C1, e1, _⟩ := own_rd ho
                exact ⟨A1, C1, e1⟩
              try (have q := far_grow HO2.out (far_sym HD12.out) hg hw; have n2 := Lib.hid q.1; have p2 := Lib.hid q.2; clear q)
              have nc : Hid (Below w1.heap.size w1 wn) := Below.trans HC.out hb
              clear HC HO1 hg hw hb
              have HC := nc
              have HO1 := Lib.hid ho
              clear nc ho
              try (clear HO2 HD12; have HO2 := n2; clear n2)
              try (have HD12 := Lib.hid (far_sym p2.out); clear p2)
              obtain ⟨wc, hwc⟩ : ∃ x, x = wn := ⟨_, rfl⟩
              subst hwc
              try simp only [Act.put, List.setIfInBounds_toArray, List.set_cons_zero, List.set_cons_succ]
              refine wpG_one (i := 8) rfl (by kernel_rfl) (by rfl) ?_
              go_simp
              have hb : Gr wc (wc.alloc (.cells #[.int .i64 key, .int .i64 t] 40)) := (Below.refl _ _).alloc (Nat.le_refl _) _
              refine ⟨hb.mono (Below.size HC.out), ?_⟩
              have n2 : Hid ((wc.alloc (.cells #[.int .i64 key, .int .i64 t] 40)).ownsRow w1.heap.size 40 2 (.slice (some ⟨wc.heap.size, 0, none⟩) 1 1) 1 (two (key, t))) := ownsRow_mono (own_new wc (two (key, t)) 40 1 2 rfl (by decide)) (Below.size HC.out)
              try have p1 := Lib.hid (far_new HO1.out)
              try have n1 := Lib.hid (ownsRow_below HO1.out hb)
              have nc := Lib.hid (Gr.trans HC.out hb)
              generalize wc.alloc (.cells #[.int .i64 key, .int .i64 t] 40) = wn at *
              clear HC hb
              have HC := nc
              clear nc
              have HO2 := n2
              clear n2
              try (clear HO1; have HO1 := n1; clear n1)
              try (have HD12 := p1; clear p1)
              obtain ⟨wc, hwc⟩ : ∃ x, x = wn := ⟨_, rfl⟩
              subst hwc
              try simp only [Act.put, List.setIfInBounds_toArray, List.set_cons_zero, List.set_cons_succ]
              refine wpG_one (i := 9) rfl (by kernel_rfl) (by rfl) ?_
              refine wp_append_where _ (some 70) (.tmp 65) (.tmp 69) 26 rfl w1.heap.size 40 i0 _ 2 16 Try.underlying26 hi hz0 hz1 hz2 rfl (by decide) _ _ _ rfl HO1.out _ 1 _ rfl (own_rd HO2.out) (two_cell _) HK2.out (by decide) (Below.size HC.out) rfl ?_
              intro v' wn ho hg hw
              have hb := grown_below HO1.out (Below.size HC.out) hg
              refine ⟨hb, ?_⟩
              obtain ⟨A2, C2, rfl⟩ : ∃ A2 C2, v' = .slice A2 (k + 1) C2 := by
                obtain ⟨_, A1, C1, e1, _⟩ := own_rd ho
                exact ⟨A1, C1, e1⟩
              have nc : Hid (Below w1.heap.size w1 wn) := Below.trans HC.out hb
              clear HC HO1 HO2 HD12 hg hw hb
              have HC := nc
              have HO1 := Lib.hid ho
              clear nc ho
              obtain ⟨wc, hwc⟩ : ∃ x, x = wn := ⟨_, rfl⟩
              subst hwc
              try simp only [Act.put, List.setIfInBounds_toArray, List.set_cons_zero, List.set_cons_succ]
              refine wpG_one (i := 13) rfl (by kernel_rfl) (by rfl) ?_
              refine wp_append_where _ (some 74) (.tmp 70) (.tmp 73) 26 rfl w1.heap.size 40 i0 _ 2 16 Try.underlying26 hi hz0 hz1 hz2 rfl (by decide) _ _ _ rfl HO1.out _ (n - k) _ rfl (HRR.out _ HC.out).2 (flatR_cell _) HK3.out (by decide) (Below.size HC.out) rfl ?_
              intro v' wn ho hg hw
              have hb := grown_below HO1.out (Below.size HC.out) hg
              refine ⟨hb, ?_⟩
              have HFIN : Hid (Rw wn 40 v' (set l (key, t))) := by
                have h := ownsRow_mono ho (Nat.zero_le _)
                show wn.ownsRow _ _ _ _ _ _
                rw [HSET.out, List.length_append, List.length_cons, HLEN.out.1, HLEN.out.2, flatR_append, flatR_cons, show k + (n - k + 1) = k + 1 + (n - k) by omega]
                simpa [two] using h
              have HBF : Hid (Below w.heap.size w wn) := HB.out.trans ((HC.out.trans hb).mono HB.out.size)
              clear HC HO1 ho hg hw hb
              try simp only [Act.put, List.setIfInBounds_toArray, List.set_cons_zero, List.set_cons_succ]
              -- 14: slot 6
              refine wpG_take (preBelow (w1.heap.size)) (i := 14) (v := ?_) (by kernel_rfl) (some 6) (by kernel_rfl) rfl (by kernel_rfl) (by kernel_rfl) (by kernel_rfl) (fun _ _ _ h => h) (by rfl) (fun w' hw' => ?_) rfl ?_
              rotate_left
              · try (have hbu : Try.prog.built 40 [(0, .int .i64 key), (1, .int .i64 t)] = some #[.int .i64 key, .int .i64 t] := by kernel_rfl)
                go_simp
                with_reducible rfl
              simp only [Act.put, List.setIfInBounds_toArray, List.set_cons_zero, List.set_cons_succ]
              -- 15: slot 7
              refine wpG_take (preBelow (w1.heap.size)) (i := 15) (v := ?_) (by kernel_rfl) (some 7) (by kernel_rfl) rfl (by kernel_rfl) (by kernel_rfl) (by kernel_rfl) (fun _ _ _ h => h) (by rfl) (fun w' hw' => ?_) rfl ?_
              rotate_left
              · try (have hbu : Try.prog.built 40 [(0, .int .i64 key), (1, .int .i64 t)] = some #[.int .i64 key, .int .i64 t] := by kernel_rfl)
                go_simp
                with_reducible rfl
              simp only [Act.put, List.setIfInBounds_toArray, List.set_cons_zero, List.set_cons_succ]
              refine wpG_done (by kernel_rfl) ?_ _
              go_wp2_with fail
              go_ret2
              exact ⟨_, rfl, by rw [HOK.out.2]; exact HFIN.out, HBF.out⟩
            · go_simp
              have hb : Gr wc (wc.alloc (.cells #[.int .i64 key, .int .i64 t] 40)) := (Below.refl _ _).alloc (Nat.le_refl _) _
              refine ⟨hb.mono (Below.size HC.out), ?_⟩
              have n2 : Hid ((wc.alloc (.cells #[.int .i64 key, .int .i64 t] 40)).ownsRow w1.heap.size 40 2 (.slice (some ⟨wc.heap.size, 0, none⟩) 1 1) 1 (two (key, t))) := ownsRow_mono (own_new wc (two (key, t)) 40 1 2 rfl (by decide)) (Below.size HC.out)
              try have p1 := Lib.hid (far_new HO1.out)
              try have n1 := Lib.hid (ownsRow_below HO1.out hb)
              have nc := Lib.hid (Gr.trans HC.out hb)
              generalize wc.alloc (.cells #[.int .i64 key, .int .i64 t] 40) = wn at *
              clear HC hb
              have HC := nc
              clear nc
              have HO2 := n2
              clear n2
              try (clear HO1; have HO1 := n1; clear n1)
              try (have HD12 := p1; clear p1)
              obtain ⟨wc, hwc⟩ : ∃ x, x = wn := ⟨_, rfl⟩
              subst hwc
              try simp only [Act.put, List.setIfInBounds_toArray, List.set_cons_zero, List.set_cons_succ]
              refine wpG_one (i := 4) rfl (by kernel_rfl) (by rfl) ?_
              refine wp_append_where _ (some 65) (.tmp 61) (.tmp 64) 26 rfl w1.heap.size 40 i0 _ 2 16 Try.underlying26 hi hz0 hz1 hz2 rfl (by decide) _ _ _ rfl HO1.out _ k _ rfl (HRR.out _ HC.out).1 (flatR_cell _) HK1.out (by decide) (Below.size HC.out) rfl ?_
              intro v' wn ho hg hw
              have hb := grown_below HO1.out (Below.size HC.out) hg
              refine ⟨hb, ?_⟩
              rw [Nat.zero_add, List.nil_append] at ho
              obtain ⟨A1, C1, rfl⟩ : ∃ A1 C1, v' = .slice A1 k C1 := by
                obtain ⟨_, A1, C1, e1, _⟩ := own_rd ho
                exact ⟨A1, C1, e1⟩
              try (have q := far_grow HO2.out (far_sym HD12.out) hg hw; have n2 := Lib.hid q.1; have p2 := Lib.hid q.2; clear q)
              have nc : Hid (Below w1.heap.size w1 wn) := Below.trans HC.out hb
              clear HC HO1 hg hw hb
              have HC := nc
              have HO1 := Lib.hid ho
              clear nc ho
              try (clear HO2 HD12; have HO2 := n2; clear n2)
              try (have HD12 := Lib.hid (far_sym p2.out); clear p2)
              obtain ⟨wc, hwc⟩ : ∃ x, x = wn := ⟨_, rfl⟩
              subst hwc
              try simp only [Act.put, List.setIfInBounds_toArray, List.set_cons_zero, List.set_cons_succ]
              refine wpG_one (i := 9) rfl (by kernel_rfl) (by rfl) ?_
              refine wp_append_where _ (some 70) (.tmp 65) (.tmp 69) 26 rfl w1.heap.size 40 i0 _ 2 16 Try.underlying26 hi hz0 hz1 hz2 rfl (by decide) _ _ _ rfl HO1.out _ 1 _ rfl (own_rd HO2.out) (two_cell _) HK2.out (by decide) (Below.size HC.out) rfl ?_
              intro v' wn ho hg hw
              have hb := grown_below HO1.out (Below.size HC.out) hg
              refine ⟨hb, ?_⟩
              obtain ⟨A2, C2, rfl⟩ : ∃ A2 C2, v' = .slice A2 (k + 1) C2 := by
                obtain ⟨_, A1, C1, e1, _⟩ := own_rd ho
                exact ⟨A1, C1, e1⟩
              have nc : Hid (Below w1.heap.size w1 wn) := Below.trans HC.out hb
              clear HC HO1 HO2 HD12 hg hw hb
              have HC := nc
              have HO1 := Lib.hid ho
              clear nc ho
              obtain ⟨wc, hwc⟩ : ∃ x, x = wn := ⟨_, rfl⟩
              subst hwc
              try simp only [Act.put, List.setIfInBounds_toArray, List.set_cons_zero, List.set_cons_succ]
              refine wpG_one (i := 13) rfl (by kernel_rfl) (by rfl) ?_
              refine wp_append_where _ (some 74) (.tmp 70) (.tmp 73) 26 rfl w1.heap.size 40 i0 _ 2 16 Try.underlying26 hi hz0 hz1 hz2 rfl (by decide) _ _ _ rfl HO1.out _ (n - k) _ rfl (HRR.out _ HC.out).2 (flatR_cell _) HK3.out (by decide) (Below.size HC.out) rfl ?_
              intro v' wn ho hg hw
              have hb := grown_below HO1.out (Below.size HC.out) hg
              refine ⟨hb, ?_⟩
              have HFIN : Hid (Rw wn 40 v' (set l (key, t))) := by
                have h := ownsRow_mono ho (Nat.zero_le _)
                show wn.ownsRow _ _ _ _ _ _
                rw [HSET.out, List.length_append, List.length_cons, HLEN.out.1, HLEN.out.2, flatR_append, flatR_cons, show k + (n - k + 1) = k + 1 + (n - k) by omega]
                simpa [two] using h
              have HBF : Hid (Below w.heap.size w wn) := HB.out.trans ((HC.out.trans hb).mono HB.out.size)
              clear HC HO1 ho hg hw hb
              try simp only [Act.put, List.setIfInBounds_toArray, List.set_cons_zero, List.set_cons_succ]
              -- 14: slot 6
              refine wpG_take (preBelow (w1.heap.size)) (i := 14) (v := ?_) (by kernel_rfl) (some 6) (by kernel_rfl) rfl (by kernel_rfl) (by kernel_rfl) (by kernel_rfl) (fun _ _ _ h => h) (by rfl) (fun w' hw' => ?_) rfl ?_
              rotate_left
              · try (have hbu : Try.prog.built 40 [(0, .int .i64 key), (1, .int .i64 t)] = some #[.int .i64 key, .int .i64 t] := by kernel_rfl)
                go_simp
                with_reducible rfl
              simp only [Act.put, List.setIfInBounds_toArray, List.set_cons_zero, List.set_cons_succ]
              -- 15: slot 7
              refine wpG_take (preBelow (w1.heap.size)) (i := 15) (v := ?_) (by kernel_rfl) (some 7) (by kernel_rfl) rfl (by kernel_rfl) (by kernel_rfl) (by kernel_rfl) (fun _ _ _ h => h) (by rfl) (fun w' hw' => ?_) rfl ?_
              rotate_left
              · try (have hbu : Try.prog.built 40 [(0, .int .i64 key), (1, .int .i64 t)] = some #[.int .i64 key, .int .i64 t] := by kernel_rfl)
                go_simp
                with_reducible rfl
              simp only [Act.put, List.setIfInBounds_toArray, List.set_cons_zero, List.set_cons_succ]
              refine wpG_done (by kernel_rfl) ?_ _
              go_wp2_with fail
              go_ret2
              exact ⟨_, rfl, by rw [HOK.out.2]; exact HFIN.out, HBF.out⟩
          · go_simp
            have hb : Gr wc (wc.alloc (.cells #[.int .i64 key, .int .i64 t] 40)) := (Below.refl _ _).alloc (Nat.le_refl _) _
            refine ⟨hb.mono (Below.size HC.out), ?_⟩
            have n2 : Hid ((wc.alloc (.cells #[.int .i64 key, .int .i64 t] 40)).ownsRow w1.heap.size 40 2 (.slice (some ⟨wc.heap.size, 0, none⟩) 1 1) 1 (two (key, t))) := ownsRow_mono (own_new wc (two (key, t)) 40 1 2 rfl (by decide)) (Below.size HC.out)
            try have p1 := Lib.hid (far_new HO1.out)
            try have n1 := Lib.hid (ownsRow_below HO1.out hb)
            have nc := Lib.hid (Gr.trans HC.out hb)
            generalize wc.alloc (.cells #[.int .i64 key, .int .i64 t] 40) = wn at *
            clear HC hb
            have HC := nc
            clear nc
            have HO2 := n2
            clear n2
            try (clear HO1; have HO1 := n1; clear n1)
            try (have HD12 := p1; clear p1)
            obtain ⟨wc, hwc⟩ : ∃ x, x = wn := ⟨_, rfl⟩
            subst hwc
            try simp only [Act.put, List.setIfInBounds_toArray, List.set_cons_zero, List.set_cons_succ]
            refine wpG_one (i := 0) rfl (by kernel_rfl) (by rfl) ?_
            go_simp
            have hb : Gr wc (wc.alloc (.cells #[] 40)) := (Below.refl _ _).alloc (Nat.le_refl _) _
            refine ⟨hb.mono (Below.size HC.out), ?_⟩
            have n1 := Lib.hid (ownsRow_mono (own_new wc [] 40 0 2 rfl (Nat.zero_le _)) (Below.size HC.out))
            try have p2 := Lib.hid (far_new HO2.out)
            try have n2 := Lib.hid (ownsRow_below HO2.out hb)
            have nc := Lib.hid (Gr.trans HC.out hb)
            generalize wc.alloc (.cells #[] 40) = wn at *
            clear HC hb
            have HC := nc
            clear nc
            have HO1 := n1
            clear n1
            try (clear HO2; have HO2 := n2; clear n2)
            try (have HD12 := Lib.hid (far_sym p2.out); clear p2)
            obtain ⟨wc, hwc⟩ : ∃ x, x = wn := ⟨_, rfl⟩
            subst hwc
            try simp only [Act.put, List.setIfInBounds_toArray, List.set_cons_zero, List.set_cons_succ]
            refine wpG_one (i := 4) rfl (by kernel_rfl) (by rfl) ?_
            refine wp_append_where _ (some 65) (.tmp 61) (.tmp 64) 26 rfl w1.heap.size 40 i0 _ 2 16 Try.underlying26 hi hz0 hz1 hz2 rfl (by decide) _ _ _ rfl HO1.out _ k _ rfl (HRR.out _ HC.out).1 (flatR_cell _) HK1.out (by decide) (Below.size HC.out) rfl ?_
            intro v' wn ho hg hw
            have hb := grown_below HO1.out (Below.size HC.out) hg
            refine ⟨hb, ?_⟩
            rw [Nat.zero_add, List.nil_append] at ho
            obtain ⟨A1, C1, rfl⟩ : ∃ A1 C1, v' = .slice A1 k C1 := by
              obtain ⟨_, A1, C1, e1, _⟩ := own_rd ho
              exact ⟨A1, C1, e1⟩
            try (have q := far_grow HO2.out (far_sym HD12.out) hg hw; have n2 := Lib.hid q.1; have p2 := Lib.hid q.2; clear q)
            have nc : Hid (Below w1.heap.size w1 wn) := Below.trans HC.out hb
            clear HC HO1 hg hw hb
            have HC := nc
            have HO1 := Lib.hid ho
            clear nc ho
            try (clear HO2 HD12; have HO2 := n2; clear n2)
            try (have HD12 := Lib.hid (far_sym p2.out); clear p2)
            obtain ⟨wc, hwc⟩ : ∃ x, x = wn := ⟨_, rfl⟩
            subst hwc
            try simp only [Act.put, List.setIfInBounds_toArray, List.set_cons_zero, List.set_cons_succ]
            refine wpG_one (i := 9) rfl (by kernel_rfl) (by rfl) ?_
            refine wp_append_where _ (some 70) (.tmp 65) (.tmp 69) 26 rfl w1.heap.size 40 i0 _ 2 16 Try.underlying26 hi hz0 hz1 hz2 rfl (by decide) _ _ _ rfl HO1.out _ 1 _ rfl (own_rd HO2.out) (two_cell _) HK2.out (by decide) (Below.size HC.out) rfl ?_
            intro v' wn ho hg hw
            have hb := grown_below HO1.out (Below.size HC.out) hg
            refine ⟨hb, ?_⟩
            obtain ⟨A2, C2, rfl⟩ : ∃ A2 C2, v' = .slice A2 (k + 1) C2 := by
              obtain ⟨_, A1, C1, e1, _⟩ := own_rd ho
              exact ⟨A1, C1, e1⟩
            have nc : Hid (Below w1.heap.size w1 wn) := Below.trans HC.out hb
            clear HC HO1 HO2 HD12 hg hw hb
            have HC := nc
            have HO1 := Lib.hid ho
            clear nc ho
            obtain ⟨wc, hwc⟩ : ∃ x, x = wn := ⟨_, rfl⟩
            subst hwc
            try simp only [Act.put, List.setIfInBounds_toArray, List.set_cons_zero, List.set_cons_succ]
            refine wpG_one (i := 13) rfl (by kernel_rfl) (by rfl) ?_
            refine wp_append_where _ (some 74) (.tmp 70) (.tmp 73) 26 rfl w1.heap.size 40 i0 _ 2 16 Try.underlying26 hi hz0 hz1 hz2 rfl (by decide) _ _ _ rfl HO1.out _ (n - k) _ rfl (HRR.out _ HC.out).2 (flatR_cell _) HK3.out (by decide) (Below.size HC.out) rfl ?_
            intro v' wn ho hg hw
            have hb := grown_below HO1.out (Below.size HC.out) hg
            refine ⟨hb, ?_⟩
            have HFIN : Hid (Rw wn 40 v' (set l (key, t))) := by
              have h := ownsRow_mono ho (Nat.zero_le _)
              show wn.ownsRow _ _ _ _ _ _
              rw [HSET.out, List.length_append, List.length_cons, HLEN.out.1, HLEN.out.2, flatR_append, flatR_cons, show k + (n - k + 1) = k + 1 + (n - k) by omega]
              simpa [two] using h
            have HBF : Hid (Below w.heap.size w wn) := HB.out.trans ((HC.out.trans hb).mono HB.out.size)
            clear HC HO1 ho hg hw hb
            try simp only [Act.put, List.setIfInBounds_toArray, List.set_cons_zero, List.set_cons_succ]
            -- 14: slot 6
            refine wpG_take (preBelow (w1.heap.size)) (i := 14) (v := ?_) (by kernel_rfl) (some 6) (by kernel_rfl) rfl (by kernel_rfl) (by kernel_rfl) (by kernel_rfl) (fun _ _ _ h => h) (by rfl) (fun w' hw' => ?_) rfl ?_
            rotate_left
            · try (have hbu : Try.prog.built 40 [(0, .int .i64 key), (1, .int .i64 t)] = some #[.int .i64 key, .int .i64 t] := by kernel_rfl)
              go_simp
              with_reducible rfl
            simp only [Act.put, List.setIfInBounds_toArray, List.set_cons_zero, List.set_cons_succ]
            -- 15: slot 7
            refine wpG_take (preBelow (w1.heap.size)) (i := 15) (v := ?_) (by kernel_rfl) (some 7) (by kernel_rfl) rfl (by kernel_rfl) (by kernel_rfl) (by kernel_rfl) (fun _ _ _ h => h) (by rfl) (fun w' hw' => ?_) rfl ?_
            rotate_left
            · try (have hbu : Try.prog.built 40 [(0, .int .i64 key), (1, .int .i64 t)] = some #[.int .i64 key, .int .i64 t] := by kernel_rfl)
              go_simp
              with_reducible rfl
            simp only [Act.put, List.setIfInBounds_toArray, List.set_cons_zero, List.set_cons_succ]
            refine wpG_done (by kernel_rfl) ?_ _
            go_wp2_with fail
            go_ret2
            exact ⟨_, rfl, by rw [HOK.out.2]; exact HFIN.out, HBF.out⟩
  · have HOK : Hid (setE key t = 130 ∧ setL l key t = l) := ⟨if_neg ok, if_neg ok⟩
    have hc : key < 0 ∨ ¬ key < 0 ∧ (1099511627776 < key ∨ ¬ 1099511627776 < key ∧ (t < 1 ∨ ¬ t < 1 ∧ 1099511627776 < t)) := by unfold okD at ok; omega
    rw [HOK.out.1]
    clear h ok
    rcases hc with c1 | ⟨c1, c2 | ⟨c2, c3 | ⟨c3, c4⟩⟩⟩
    all_goals
      go_enter Try.func8, Try.ntmps8
      go_wp2_with fail
      go_ret2
      exact ⟨_, rfl, by rw [HOK.out.2]; exact HH.out, Below.refl _ _⟩
end Go.Proofs.Ytmcifmgfgdahnaa.Tm
