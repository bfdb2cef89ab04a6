/-
  The document's Encode, whatever tags come.
-/
import Derived.Test.YtcpeglljcipcbaaTagE
import Derived.Test.YtcpeglljcipcbaaRPut
namespace Go.Proofs.Ytcpeglljcipcbaa
open Go.RowKit
set_option linter.unusedVariables false
set_option linter.unusedSimpArgs false

set_option maxRecDepth 20000 in
set_option maxHeartbeats 4000000 in
theorem rencode_any (ao : Option Addr) (n c : Nat) (ts : List Tg) (w : World) (hr : TR w (.slice ao n c) n ts) (hn : n ≤ 1000) (hm : ∀ x ∈ ts, x.l.length ≤ 1000000) :
    Calls Try.prog 49 #[.slice ao n c] w (EncR (plain ts) w) := by
  obtain ⟨i0, hi, hz0, hz1, hz2⟩ := info_parts info5
  have hl := hr.len
  have HR := Lib.hid hr
  clear hr
  by_cases h64 : 64 < n
  · have HE := Lib.hid (encE_many (ls := plain ts) (by rw [plain_length]; omega))
    go_enter Try.func49, Try.ntmps49
    go_wp2
    go_ret2
    exact EncR.none HE.out (by decide) (Below.refl _ _)
  have HN64 : Hid (¬ 64 < (plain ts).length) := by show ¬ _; rw [plain_length]; omega
  go_enter Try.func49, Try.ntmps49
  go_wp2
  go_loopw [4, 5] (fun bv iv wr => ∃ k S : Nat, k ≤ n ∧ iv = .int .i64 k ∧ EI ts k S ∧ OwnB wr w.heap.size 5 bv (wireT ((plain ts).take k)) ∧ Below w.heap.size w wr) (fun _ iv _ => n - (intOf iv).toNat)
  case atStart => exact ⟨0, 0, Nat.zero_le _, rfl, EI.zero ts, OwnB.nil _ _ _, Below.refl _ _⟩
  case round =>
    obtain ⟨k, S, hk, rfl, hei, hown, hb⟩ := hrel
    have HEI := Lib.hid hei
    have HSL := Lib.hid (hei.le (by omega))
    have HB := Lib.hid hb
    have HO := Lib.hid hown
    have HBN := Lib.hid hb.size
    clear hei hb hown
    by_cases hlt : k < n
    · obtain ⟨b, o, rfl, hbl, hc⟩ := HR.out.cells (by omega)
      obtain ⟨hc0, hc1⟩ := hc k (by omega)
      have HV := Lib.hid (HR.out.val k (by omega))
      obtain ⟨A, L, C, hv, hL, hLC, hCm⟩ := HV.out.sl
      rw [hv] at hc1
      have HE := Lib.hid hv
      have HL := Lib.hid hL
      have HM := Lib.hid (hm ts[k] (List.getElem_mem _))
      obtain ⟨T, hT⟩ : ∃ T, T = ts[k].typ := ⟨_, rfl⟩
      rw [← hT] at hc0
      have HTT := Lib.hid hT
      have HC0 := Lib.hid hc0
      have HC1 := Lib.hid hc1
      have IS := Lib.hid (is_any T A L C ts[k].l HL.out wr)
      have HPL : Hid (ts[k].plain = (T, ts[k].l)) := by show _ = _; rw [hT]; rfl
      have hLm : L ≤ 1000000 := by have := HM.out; omega
      clear hv hL hT hc hm hc0 hc1
      have k0 := cell_gr HB.out HC0.out
      have k1 := cell_gr HB.out HC1.out
      go_wp2_with fail
      refine IS.out.mono ?_
      rintro e w1 ⟨rfl, hb1⟩
      have HB1 := Lib.hid (HB.out.trans (hb1.mono HBN.out))
      have HO1 := Lib.hid (HO.out.below hb1)
      clear hb1 k0 k1
      by_cases hT : isT (T, ts[k].l)
      · have hd : decide (isT (T, ts[k].l)) = true := decide_eq_true hT
        have HIT := Lib.hid hT
        have hT0 : 1 ≤ T := hT.1
        have hT2 : T ≤ 65535 := hT.2.1
        have hL1 : L ≤ 65535 := by have h2 : ts[k].l.length ≤ 65535 := hT.2.2; have := HL.out; omega
        obtain ⟨X, hX⟩ : ∃ X : Nat, T = (X : Int) := ⟨T.toNat, by omega⟩
        rw [hd]
        have hs2 := HSL.out
        clear hd hT
        subst hX
        have HTK : Hid (wireT ((plain ts).take (k + 1)) = wireT ((plain ts).take k) ++ (putL X 2 ++ (putL L 2 ++ ts[k].l))) := by
          show _ = _
          rw [wireT_snoc _ k (by rw [plain_length]; omega), plain_get ts k (by omega)]
          unfold tagL
          simp only [← HTT.out, Int.toNat_natCast, HL.out]
        have HKL : Hid ((wireT ((plain ts).take k)).length ≤ 5000000) := by
          have e1 := HEI.out.size
          have e2 := HSL.out
          show _ ≤ _
          omega
        have hWX : IntKind.u64.wrap (X : Int) = (X : Int) := IntWalk.u64_in _ (by omega)
        have hWL : IntKind.u64.wrap (L : Int) = (L : Int) := IntWalk.u64_in _ (by omega)
        have HWX := Lib.hid hWX
        have HWL := Lib.hid hWL
        clear hWX hWL
        go_wp2_with fail
        refine wp_region_G 19 (Below (w.heap.size)) (by kernel_rfl) ?_
        -- 0: slot 21
        refine wpG_take (preBelow (w.heap.size)) (i := 0) (v := ?_) (by kernel_rfl) (some 21) (by kernel_rfl) rfl (by kernel_rfl) (by kernel_rfl) (by kernel_rfl) (fun _ _ _ h => h) (by rfl) (fun w' hw' => ?_) rfl ?_
        rotate_left
        · try have g0 := cell_gr (HB1.out.trans ((Below.drew (Below.refl w.heap.size w1)).trans hw')) HC0.out
          try have g1 := cell_gr (HB1.out.trans ((Below.drew (Below.refl w.heap.size w1)).trans hw')) HC1.out
          go_simp
          with_reducible rfl
        simp only [Act.put, List.setIfInBounds_toArray, List.set_cons_zero, List.set_cons_succ]
        -- 1: slot 22
        refine wpG_take (preBelow (w.heap.size)) (i := 1) (v := ?_) (by kernel_rfl) (some 22) (by kernel_rfl) rfl (by kernel_rfl) (by kernel_rfl) (by kernel_rfl) (fun _ _ _ h => h) (by rfl) (fun w' hw' => ?_) rfl ?_
        rotate_left
        · try have g0 := cell_gr (HB1.out.trans ((Below.drew (Below.refl w.heap.size w1)).trans hw')) HC0.out
          try have g1 := cell_gr (HB1.out.trans ((Below.drew (Below.refl w.heap.size w1)).trans hw')) HC1.out
          go_simp
          with_reducible rfl
        simp only [Act.put, List.setIfInBounds_toArray, List.set_cons_zero, List.set_cons_succ]
        -- 2: slot 23
        refine wpG_take (preBelow (w.heap.size)) (i := 2) (v := ?_) (by kernel_rfl) (some 23) (by kernel_rfl) rfl (by kernel_rfl) (by kernel_rfl) (by kernel_rfl) (fun _ _ _ h => h) (by rfl) (fun w' hw' => ?_) rfl ?_
        rotate_left
        · try have g0 := cell_gr (HB1.out.trans ((Below.drew (Below.refl w.heap.size w1)).trans hw')) HC0.out
          try have g1 := cell_gr (HB1.out.trans ((Below.drew (Below.refl w.heap.size w1)).trans hw')) HC1.out
          go_simp
          with_reducible rfl
        simp only [Act.put, List.setIfInBounds_toArray, List.set_cons_zero, List.set_cons_succ]
        -- 3: slot 24
        refine wpG_take (preBelow (w.heap.size)) (i := 3) (v := ?_) (by kernel_rfl) (some 24) (by kernel_rfl) rfl (by kernel_rfl) (by kernel_rfl) (by kernel_rfl) (fun _ _ _ h => h) (by rfl) (fun w' hw' => ?_) rfl ?_
        rotate_left
        · try have g0 := cell_gr (HB1.out.trans ((Below.drew (Below.refl w.heap.size w1)).trans hw')) HC0.out
          try have g1 := cell_gr (HB1.out.trans ((Below.drew (Below.refl w.heap.size w1)).trans hw')) HC1.out
          go_simp
          with_reducible rfl
        simp only [Act.put, List.setIfInBounds_toArray, List.set_cons_zero, List.set_cons_succ]
        -- 4: slot 25
        refine wpG_take (preBelow (w.heap.size)) (i := 4) (v := ?_) (by kernel_rfl) (some 25) (by kernel_rfl) rfl (by kernel_rfl) (by kernel_rfl) (by kernel_rfl) (fun _ _ _ h => h) (by rfl) (fun w' hw' => ?_) rfl ?_
        rotate_left
        · try have g0 := cell_gr (HB1.out.trans ((Below.drew (Below.refl w.heap.size w1)).trans hw')) HC0.out
          try have g1 := cell_gr (HB1.out.trans ((Below.drew (Below.refl w.heap.size w1)).trans hw')) HC1.out
          go_simp
          with_reducible rfl
        simp only [Act.put, List.setIfInBounds_toArray, List.set_cons_zero, List.set_cons_succ]
        -- 5: slot 26
        refine wpG_take (preBelow (w.heap.size)) (i := 5) (v := ?_) (by kernel_rfl) (some 26) (by kernel_rfl) rfl (by kernel_rfl) (by kernel_rfl) (by kernel_rfl) (fun _ _ _ h => h) (by rfl) (fun w' hw' => ?_) rfl ?_
        rotate_left
        · try have g0 := cell_gr (HB1.out.trans ((Below.drew (Below.refl w.heap.size w1)).trans hw')) HC0.out
          try have g1 := cell_gr (HB1.out.trans ((Below.drew (Below.refl w.heap.size w1)).trans hw')) HC1.out
          go_simp
          with_reducible rfl
        simp only [Act.put, List.setIfInBounds_toArray, List.set_cons_zero, List.set_cons_succ]
        -- 6: slot 27
        refine wpG_take (preBelow (w.heap.size)) (i := 6) (v := ?_) (by kernel_rfl) (some 27) (by kernel_rfl) rfl (by kernel_rfl) (by kernel_rfl) (by kernel_rfl) (fun _ _ _ h => h) (by rfl) (fun w' hw' => ?_) rfl ?_
        rotate_left
        · try have g0 := cell_gr (HB1.out.trans ((Below.drew (Below.refl w.heap.size w1)).trans hw')) HC0.out
          try have g1 := cell_gr (HB1.out.trans ((Below.drew (Below.refl w.heap.size w1)).trans hw')) HC1.out
          go_simp
          with_reducible rfl
        simp only [Act.put, List.setIfInBounds_toArray, List.set_cons_zero, List.set_cons_succ]
        -- 9: slot 30
        refine wpG_take (preBelow (w.heap.size)) (i := 9) (v := ?_) (by kernel_rfl) (some 30) (by kernel_rfl) rfl (by kernel_rfl) (by kernel_rfl) (by kernel_rfl) (fun _ _ _ h => h) (by rfl) (fun w' hw' => ?_) rfl ?_
        rotate_left
        · try have g0 := cell_gr (HB1.out.trans ((Below.drew (Below.refl w.heap.size w1)).trans hw')) HC0.out
          try have g1 := cell_gr (HB1.out.trans ((Below.drew (Below.refl w.heap.size w1)).trans hw')) HC1.out
          go_simp
          with_reducible rfl
        simp only [Act.put, List.setIfInBounds_toArray, List.set_cons_zero, List.set_cons_succ]
        -- 10: slot 31
        refine wpG_take (preBelow (w.heap.size)) (i := 10) (v := ?_) (by kernel_rfl) (some 31) (by kernel_rfl) rfl (by kernel_rfl) (by kernel_rfl) (by kernel_rfl) (fun _ _ _ h => h) (by rfl) (fun w' hw' => ?_) rfl ?_
        rotate_left
        · try have g0 := cell_gr (HB1.out.trans ((Below.drew (Below.refl w.heap.size w1)).trans hw')) HC0.out
          try have g1 := cell_gr (HB1.out.trans ((Below.drew (Below.refl w.heap.size w1)).trans hw')) HC1.out
          go_simp
          with_reducible rfl
        simp only [Act.put, List.setIfInBounds_toArray, List.set_cons_zero, List.set_cons_succ]
        -- 11: slot 32
        refine wpG_take (preBelow (w.heap.size)) (i := 11) (v := ?_) (by kernel_rfl) (some 32) (by kernel_rfl) rfl (by kernel_rfl) (by kernel_rfl) (by kernel_rfl) (fun _ _ _ h => h) (by rfl) (fun w' hw' => ?_) rfl ?_
        rotate_left
        · try have g0 := cell_gr (HB1.out.trans ((Below.drew (Below.refl w.heap.size w1)).trans hw')) HC0.out
          try have g1 := cell_gr (HB1.out.trans ((Below.drew (Below.refl w.heap.size w1)).trans hw')) HC1.out
          go_simp
          with_reducible rfl
        simp only [Act.put, List.setIfInBounds_toArray, List.set_cons_zero, List.set_cons_succ]
        -- 12: slot 33
        refine wpG_take (preBelow (w.heap.size)) (i := 12) (v := ?_) (by kernel_rfl) (some 33) (by kernel_rfl) rfl (by kernel_rfl) (by kernel_rfl) (by kernel_rfl) (fun _ _ _ h => h) (by rfl) (fun w' hw' => ?_) rfl ?_
        rotate_left
        · try have g0 := cell_gr (HB1.out.trans ((Below.drew (Below.refl w.heap.size w1)).trans hw')) HC0.out
          try have g1 := cell_gr (HB1.out.trans ((Below.drew (Below.refl w.heap.size w1)).trans hw')) HC1.out
          go_simp
          with_reducible rfl
        simp only [Act.put, List.setIfInBounds_toArray, List.set_cons_zero, List.set_cons_succ]
        -- 13: slot 34
        refine wpG_take (preBelow (w.heap.size)) (i := 13) (v := ?_) (by kernel_rfl) (some 34) (by kernel_rfl) rfl (by kernel_rfl) (by kernel_rfl) (by kernel_rfl) (fun _ _ _ h => h) (by rfl) (fun w' hw' => ?_) rfl ?_
        rotate_left
        · try have g0 := cell_gr (HB1.out.trans ((Below.drew (Below.refl w.heap.size w1)).trans hw')) HC0.out
          try have g1 := cell_gr (HB1.out.trans ((Below.drew (Below.refl w.heap.size w1)).trans hw')) HC1.out
          go_simp
          with_reducible rfl
        simp only [Act.put, List.setIfInBounds_toArray, List.set_cons_zero, List.set_cons_succ]
        -- 14: slot 35
        refine wpG_take (preBelow (w.heap.size)) (i := 14) (v := ?_) (by kernel_rfl) (some 35) (by kernel_rfl) rfl (by kernel_rfl) (by kernel_rfl) (by kernel_rfl) (fun _ _ _ h => h) (by rfl) (fun w' hw' => ?_) rfl ?_
        rotate_left
        · try have g0 := cell_gr (HB1.out.trans ((Below.drew (Below.refl w.heap.size w1)).trans hw')) HC0.out
          try have g1 := cell_gr (HB1.out.trans ((Below.drew (Below.refl w.heap.size w1)).trans hw')) HC1.out
          go_simp
          with_reducible rfl
        simp only [Act.put, List.setIfInBounds_toArray, List.set_cons_zero, List.set_cons_succ]
        -- 15: slot 36
        refine wpG_take (preBelow (w.heap.size)) (i := 15) (v := ?_) (by kernel_rfl) (some 36) (by kernel_rfl) rfl (by kernel_rfl) (by kernel_rfl) (by kernel_rfl) (fun _ _ _ h => h) (by rfl) (fun w' hw' => ?_) rfl ?_
        rotate_left
        · try have g0 := cell_gr (HB1.out.trans ((Below.drew (Below.refl w.heap.size w1)).trans hw')) HC0.out
          try have g1 := cell_gr (HB1.out.trans ((Below.drew (Below.refl w.heap.size w1)).trans hw')) HC1.out
          go_simp
          with_reducible rfl
        simp only [Act.put, List.setIfInBounds_toArray, List.set_cons_zero, List.set_cons_succ]
        refine wpG_one (i := 7) rfl (by kernel_rfl) (by rfl) ?_
        go_simp
        try rw [HWX.out]
        refine (rput_yes X 2 _ (by decide) (by decide) (by omega)).mono ?_
        rintro e w2 ⟨v2, rfl, hown2, hb2⟩
        have hd2 : Below w.heap.size w w1.drew := HB1.out.drew
        refine ⟨hb2.mono (by have := HB1.out.size; simp [drew_size]; omega), ?_⟩
        have HB2 := Lib.hid (hd2.trans (hb2.mono hd2.size))
        have HO2 := Lib.hid ((HO1.out.below (Gr.drew w1)).below hb2)
        have RP2 : Hid (Rd w2 1 v2 2 ((putL X 2).map u8v)) := hown2.bs
        clear hown2 hb2 hd2
        try simp only [Act.put, List.setIfInBounds_toArray, List.set_cons_zero, List.set_cons_succ]
        refine wpG_one (i := 8) rfl (by kernel_rfl) (by rfl) ?_
        refine wp_append_gr _ (some 29) (.tmp 21) (.tmp 28) 22 rfl w.heap.size 5 i0 (.int .u8 0) 1 1 Try.underlying22 hi hz0 hz1 hz2 rfl (by decide) _ _ _ rfl HO2.out _ _ _ rfl RP2.out (oneCell_u8 _) ?q1 (by decide) HB2.out.size rfl ?_
        case q1 => have := HKL.out; omega
        intro v3 w3 hown3 hg3
        have hb3 := grown_below HO2.out HB2.out.size hg3
        refine ⟨hb3, ?_⟩
        have HB3 := Lib.hid (HB2.out.trans hb3)
        have HO3 := Lib.hid hown3
        clear hown3 hg3 hb3
        try simp only [Act.put, List.setIfInBounds_toArray, List.set_cons_zero, List.set_cons_succ]
        refine wpG_one (i := 16) rfl (by kernel_rfl) (by rfl) ?_
        go_simp
        try rw [HWL.out]
        refine (rput_yes L 2 _ (by decide) (by decide) (by omega)).mono ?_
        rintro e w4 ⟨v4, rfl, hown4, hb4⟩
        refine ⟨hb4.mono HB3.out.size, ?_⟩
        have HB4 := Lib.hid (HB3.out.trans (hb4.mono HB3.out.size))
        have HO4 := Lib.hid (ownsRow_below HO3.out hb4)
        have RP4 : Hid (Rd w4 1 v4 2 ((putL L 2).map u8v)) := hown4.bs
        clear hown4 hb4
        try simp only [Act.put, List.setIfInBounds_toArray, List.set_cons_zero, List.set_cons_succ]
        refine wpG_one (i := 17) rfl (by kernel_rfl) (by rfl) ?_
        refine wp_append_gr _ (some 38) (.tmp 29) (.tmp 37) 22 rfl w.heap.size 5 i0 (.int .u8 0) 1 1 Try.underlying22 hi hz0 hz1 hz2 rfl (by decide) _ _ _ rfl HO4.out _ _ _ rfl RP4.out (oneCell_u8 _) ?q1 (by decide) HB4.out.size rfl ?_
        case q1 => have := HKL.out; omega
        intro v5 w5 hown5 hg5
        have hb5 := grown_below HO4.out HB4.out.size hg5
        refine ⟨hb5, ?_⟩
        have HB5 := Lib.hid (HB4.out.trans hb5)
        have HO5 := Lib.hid hown5
        clear hown5 hg5 hb5
        try simp only [Act.put, List.setIfInBounds_toArray, List.set_cons_zero, List.set_cons_succ]
        -- 18: slot 4
        refine wpG_take (preBelow (w.heap.size)) (i := 18) (v := ?_) (by kernel_rfl) (some 4) (by kernel_rfl) rfl (by kernel_rfl) (by kernel_rfl) (by kernel_rfl) (fun _ _ _ h => h) (by rfl) (fun w' hw' => ?_) rfl ?_
        rotate_left
        · try have g0 := cell_gr (HB1.out.trans ((Below.drew (Below.refl w.heap.size w1)).trans hw')) HC0.out
          try have g1 := cell_gr (HB1.out.trans ((Below.drew (Below.refl w.heap.size w1)).trans hw')) HC1.out
          go_simp
          with_reducible rfl
        simp only [Act.put, List.setIfInBounds_toArray, List.set_cons_zero, List.set_cons_succ]
        refine wpG_done (by kernel_rfl) ?_ _
        have k1 := cell_gr HB5.out HC1.out
        have HV5 : Hid (Rd w5 1 (.slice A L C) L (ts[k].l.map u8v)) := by
          have := HV.out.below HB5.out
          rw [HE.out] at this
          unfold Bs at this
          rw [HL.out] at this
          exact this
        go_wp2_with (at_builtin; refine wpList_append_gr _ rfl _ _ 22 rfl w.heap.size 5 i0 (.int .u8 0) 1 1 Try.underlying22 hi hz0 hz1 hz2 rfl (by decide) _ _ _ rfl HO5.out _ _ _ rfl HV5.out (oneCell_u8 _) ?q1 (by decide) HB5.out.size ?_)
        case q1 => have := HKL.out; omega
        intro v6 w6 hown6 hg6
        have HB6 := Lib.hid (HB5.out.trans (grown_below HO5.out HB5.out.size hg6))
        have HO6 : Hid (OwnB w6 w.heap.size 5 v6 (wireT ((plain ts).take (k + 1)))) := by
          show OwnB _ _ _ _ _
          rw [HTK.out]
          unfold OwnB
          have e1 : (wireT ((plain ts).take k) ++ (putL X 2 ++ (putL L 2 ++ ts[k].l))).length = (wireT ((plain ts).take k)).length + 2 + 2 + L := by
            simp only [List.length_append, putL_length]
            rw [HL.out]; omega
          rw [e1]
          simpa using hown6
        clear hown6 hg6 k1
        go_wp2
        go_roundw
        case rel =>
          have HN := EI.next HEI.out (by omega) (by rw [HPL.out]; exact HIT.out)
          rw [HL.out] at HN
          first | exact ⟨k + 1, S + (4 + L), by omega, by go_num, HN, HO6.out, HB6.out⟩ | ((repeat apply Exists.intro); exact ⟨⟨k + 1, S + (4 + L), by omega, by go_num, HN, HO6.out, HB6.out⟩, rfl⟩)
        case measure => simp [intOf]; omega
      · have hd : decide (isT (T, ts[k].l)) = false := decide_eq_false hT
        have HE := Lib.hid (encE_tag HN64.out (not_all (k := k) (by omega) (by rw [HPL.out]; exact hT)))
        rw [hd]
        clear hd hT
        go_wp2
        go_ret2
        exact EncR.none HE.out (by decide) HB1.out
    · obtain rfl : n = k := by omega
      have HA : Hid ((∀ t ∈ plain ts, isT t) ∧ S = (wireT (plain ts)).length) := EI.all (by rw [hl]; exact HEI.out)
      have HW : Hid ((plain ts).take n = plain ts) := by show _ = _; rw [← hl, ← plain_length, List.take_length]
      have HO1 := HO.out
      rw [HW.out] at HO1
      obtain ⟨A, L, C, rfl, hL, hLC, hCm⟩ := HO1.bs.sl
      have HO2 := Lib.hid HO1
      have HSL2 : Hid (S = L) := by show _ = _; rw [HA.out.2, hL]
      clear HO1 hL
      by_cases hS : 1494 < L
      · have HE := Lib.hid (encE_long HN64.out HA.out.1 (by rw [← HA.out.2, HSL2.out]; exact hS))
        go_wp2
        go_ret2
        exact EncR.none HE.out (by decide) HB.out
      · have HE := Lib.hid (encE_ok HN64.out HA.out.1 (by rw [← HA.out.2, HSL2.out]; exact hS))
        go_wp2
        go_ret2
        exact EncR.some HE.out HO2.out HB.out
end Go.Proofs.Ytcpeglljcipcbaa
