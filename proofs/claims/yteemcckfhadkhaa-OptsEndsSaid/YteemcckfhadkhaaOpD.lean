/-
  The document's Encode, whatever options come.
-/
import Derived.Test.YteemcckfhadkhaaOpC
namespace Go.Proofs.Yteemcckfhadkhaa.O
open Go.RowKit
set_option linter.unusedVariables false
set_option linter.unusedSimpArgs false

set_option maxRecDepth 20000 in
set_option maxHeartbeats 4000000 in
theorem rencode_any (ao : Option Addr) (n c : Nat) (ts : List Tg) (w : World) (hr : TR w (.slice ao n c) n ts) (hn : n ≤ 1000) (hm : ∀ x ∈ ts, x.l.length ≤ 1000000) :
    Calls Try.prog 13 #[.slice ao n c] w (EncR (plain ts) w) := by
  obtain ⟨i0, hi, hz0, hz1, hz2⟩ := info_parts info5
  have hl := hr.len
  have HR := Lib.hid hr
  clear hr
  by_cases h64 : 64 < n
  · have HE := Lib.hid (encE_many (ls := plain ts) (by rw [plain_length]; omega))
    go_enter Try.func13, Try.ntmps13
    go_wp2
    go_ret2
    exact EncR.none HE.out (by decide) (Below.refl _ _)
  have HN64 : Hid (¬ 64 < (plain ts).length) := by show ¬ _; rw [plain_length]; omega
  go_enter Try.func13, Try.ntmps13
  go_wp2
  go_loopw [4] (fun iv wr => ∃ k S : Nat, k ≤ n ∧ iv = .int .i64 k ∧ EI ts k S ∧ Below w.heap.size w wr) (fun iv _ => n - (intOf iv).toNat)
  case atStart => exact ⟨0, 0, Nat.zero_le _, rfl, EI.zero ts, Below.refl _ _⟩
  case round =>
    obtain ⟨k, S, hk, rfl, hei, hb⟩ := hrel
    have HEI := Lib.hid hei
    have HSL := Lib.hid (hei.le (by omega))
    have HB := Lib.hid hb
    have HBN := Lib.hid hb.size
    clear hei hb
    by_cases hlt : k < n
    · obtain ⟨b, o, rfl, hbl, hc⟩ := (HR.out.below HB.out).cells (by omega)
      obtain ⟨hc0, hc1⟩ := hc k (by omega)
      obtain ⟨A, L, C, hv, hL, hLC, hCm⟩ := (HR.out.val k (by omega)).sl
      rw [hv] at hc1
      have HE := Lib.hid hv
      have HL := Lib.hid hL
      obtain ⟨T, hT⟩ : ∃ T, T = ts[k].typ := ⟨_, rfl⟩
      rw [← hT] at hc0
      have HTT := Lib.hid hT
      have HRA : Hid (wr.rangeAt b (o + k * 2) [.int .i64 T, .slice A L C]) := by
        intro j u hj
        match j, hj with
        | 0, hj => obtain rfl := Option.some.inj hj; exact hc0
        | 1, hj => obtain rfl := Option.some.inj hj; exact hc1
      have MB := Lib.hid (is_any T A L C ts[k].l HL.out wr)
      have HPL : Hid (ts[k].plain = (T, ts[k].l)) := by show _ = _; rw [hT]; rfl
      clear hv hL hT hc hm
      go_wp2_with (first | (with_reducible refine wpList_load_mid rfl 36 (.tmp 18) rfl b (o + k * 2) rfl [.int .i64 T, .slice A L C] _ HRA.out Try.underlying36 rfl sizeT ?_) | fail)
      refine MB.out.mono ?_
      rintro e w1 ⟨rfl, hb1⟩
      have HB2 := Lib.hid (HB.out.trans (hb1.mono HB.out.size))
      clear hb1 hc0 hc1
      by_cases hT : isT (T, ts[k].l)
      · have hd : decide (isT (T, ts[k].l)) = true := decide_eq_true hT
        have HIT := Lib.hid hT
        rw [hd]
        have hs2 := HSL.out
        clear hd hT
        go_wp2
        go_roundw
        case rel =>
          have HN := EI.next HEI.out (by omega) (by rw [HPL.out]; exact HIT.out)
          first | exact ⟨k + 1, _, by omega, by go_num, HN, HB2.out⟩ | ((repeat apply Exists.intro); exact ⟨⟨k + 1, _, by omega, by go_num, HN, HB2.out⟩, rfl⟩)
        case measure => simp [intOf]; omega
      · have hd : decide (isT (T, ts[k].l)) = false := decide_eq_false hT
        have HE := Lib.hid (encE_tag HN64.out (not_all (k := k) (by omega) (by rw [HPL.out]; exact hT)))
        rw [hd]
        clear hd hT
        go_wp2
        go_ret2
        exact EncR.none HE.out (by decide) HB2.out
    · obtain rfl : n = k := by omega
      have HA : Hid ((∀ t ∈ plain ts, isT t) ∧ S = (wireT (plain ts)).length) := EI.all (by rw [hl]; exact HEI.out)
      have HSS : Hid ((wireT (plain ts)).length ≤ 255000) := by have e1 := HEI.out.le (by omega); show _ ≤ _; rw [← HA.out.2]; omega
      obtain ⟨wA, hA⟩ : ∃ x, x = wr := ⟨_, rfl⟩
      subst hA
      go_wp2
      go_loopw [5, 6] (fun bv iv wr => ∃ k : Nat, k ≤ n ∧ iv = .int .i64 k ∧ OwnB wr w.heap.size 5 bv (wireT ((plain ts).take k)) ∧ Below w.heap.size w wr) (fun _ iv _ => n - (intOf iv).toNat)
      case atStart => exact ⟨0, Nat.zero_le _, rfl, OwnB.nil _ _ _, HB.out⟩
      case round =>
        obtain ⟨k, hk, rfl, hown, hb⟩ := hrel
        have HB := Lib.hid hb
        have HBN := Lib.hid hb.size
        have HO := Lib.hid hown
        clear hb hown
        by_cases hlt : k < n
        · obtain ⟨b, o, rfl, hbl, hc⟩ := HR.out.cells (by omega)
          obtain ⟨hc0, hc1⟩ := hc k (by omega)
          have HV := Lib.hid (HR.out.val k (by omega))
          obtain ⟨A, L, C, hv, hL, hLC, hCm⟩ := HV.out.sl
          rw [hv] at hc1
          have HE1 := Lib.hid hv
          have HL := Lib.hid hL
          have hIT := HA.out.1 ts[k].plain (List.mem_map.2 ⟨_, List.getElem_mem _, rfl⟩)
          obtain ⟨X, hX⟩ : ∃ X : Nat, (X : Int) = ts[k].typ := ⟨ts[k].typ.toNat, by have := hIT.1; unfold Tg.plain at this; simp only at this; omega⟩
          rw [← hX] at hc0
          have hX1 : X ≤ 255 := by have := hIT.2.1; unfold Tg.plain at this; simp only at this; omega
          have hL1 : L ≤ 253 := by have := hIT.2.2; unfold Tg.plain at this; simp only at this; omega
          have HTK := Lib.hid (wireT_head ts k X L (by omega) hX hL)
          have HKL : Hid ((wireT ((plain ts).take k)).length ≤ 255000) := Nat.le_trans (wireT_take_le _ k) HSS.out
          obtain ⟨M, hM⟩ : ∃ M : Nat, (L : Int) + 2 = (M : Int) := ⟨L + 2, by omega⟩
          have HM : Hid (2 + L = M) := by show _ = _; omega
          have W1 : IntKind.i64.wrap ((L : Int) + 2) = (M : Int) := by rw [hM]; exact IntWalk.i64_in _ (by omega)
          have W2 : IntKind.i64.wrap (M : Int) = (M : Int) := IntWalk.i64_in _ (by omega)
          have W3 : IntKind.u8.wrap (X : Int) = (X : Int) := IntWalk.u8_in _ (by omega)
          have W4 : IntKind.u8.wrap (M : Int) = (M : Int) := IntWalk.u8_in _ (by omega)
          have HC0 := Lib.hid hc0
          have HC1 := Lib.hid hc1
          have hM256 : M < 256 := by omega
          clear hv hL hX hc hIT hc0 hc1
          have i0' : (k : Int) < (n : Int) := by omega
          go_wp2_with fail
          refine wp_region_G 18 (Below (w.heap.size)) (by kernel_rfl) ?_
          -- 0: slot 28
          refine wpG_take (preBelow (w.heap.size)) (i := 0) (v := ?_) (by kernel_rfl) (some 28) (by kernel_rfl) rfl (by kernel_rfl) (by kernel_rfl) (by kernel_rfl) (fun _ _ _ h => h) (by rfl) (fun w' hw' => ?_) rfl ?_
          rotate_left
          · try have g0 := cell_gr (HB.out.trans ((Below.drew (Below.refl w.heap.size wr)).trans hw')) HC0.out
            try have g1 := cell_gr (HB.out.trans ((Below.drew (Below.refl w.heap.size wr)).trans hw')) HC1.out
            go_simp
            with_reducible rfl
          simp only [Act.put, List.setIfInBounds_toArray, List.set_cons_zero, List.set_cons_succ]
          -- 1: slot 29
          refine wpG_take (preBelow (w.heap.size)) (i := 1) (v := ?_) (by kernel_rfl) (some 29) (by kernel_rfl) rfl (by kernel_rfl) (by kernel_rfl) (by kernel_rfl) (fun _ _ _ h => h) (by rfl) (fun w' hw' => ?_) rfl ?_
          rotate_left
          · try have g0 := cell_gr (HB.out.trans ((Below.drew (Below.refl w.heap.size wr)).trans hw')) HC0.out
            try have g1 := cell_gr (HB.out.trans ((Below.drew (Below.refl w.heap.size wr)).trans hw')) HC1.out
            go_simp
            with_reducible rfl
          simp only [Act.put, List.setIfInBounds_toArray, List.set_cons_zero, List.set_cons_succ]
          -- 2: slot 30
          refine wpG_take (preBelow (w.heap.size)) (i := 2) (v := ?_) (by kernel_rfl) (some 30) (by kernel_rfl) rfl (by kernel_rfl) (by kernel_rfl) (by kernel_rfl) (fun _ _ _ h => h) (by rfl) (fun w' hw' => ?_) rfl ?_
          rotate_left
          · try have g0 := cell_gr (HB.out.trans ((Below.drew (Below.refl w.heap.size wr)).trans hw')) HC0.out
            try have g1 := cell_gr (HB.out.trans ((Below.drew (Below.refl w.heap.size wr)).trans hw')) HC1.out
            go_simp
            with_reducible rfl
          simp only [Act.put, List.setIfInBounds_toArray, List.set_cons_zero, List.set_cons_succ]
          -- 3: slot 31
          refine wpG_take (preBelow (w.heap.size)) (i := 3) (v := ?_) (by kernel_rfl) (some 31) (by kernel_rfl) rfl (by kernel_rfl) (by kernel_rfl) (by kernel_rfl) (fun _ _ _ h => h) (by rfl) (fun w' hw' => ?_) rfl ?_
          rotate_left
          · try have g0 := cell_gr (HB.out.trans ((Below.drew (Below.refl w.heap.size wr)).trans hw')) HC0.out
            try have g1 := cell_gr (HB.out.trans ((Below.drew (Below.refl w.heap.size wr)).trans hw')) HC1.out
            go_simp
            with_reducible rfl
          simp only [Act.put, List.setIfInBounds_toArray, List.set_cons_zero, List.set_cons_succ]
          -- 4: slot 32
          refine wpG_take (preBelow (w.heap.size)) (i := 4) (v := ?_) (by kernel_rfl) (some 32) (by kernel_rfl) rfl (by kernel_rfl) (by kernel_rfl) (by kernel_rfl) (fun _ _ _ h => h) (by rfl) (fun w' hw' => ?_) rfl ?_
          rotate_left
          · try have g0 := cell_gr (HB.out.trans ((Below.drew (Below.refl w.heap.size wr)).trans hw')) HC0.out
            try have g1 := cell_gr (HB.out.trans ((Below.drew (Below.refl w.heap.size wr)).trans hw')) HC1.out
            go_simp
            with_reducible rfl
          simp only [Act.put, List.setIfInBounds_toArray, List.set_cons_zero, List.set_cons_succ]
          -- 5: slot 33
          refine wpG_take (preBelow (w.heap.size)) (i := 5) (v := ?_) (by kernel_rfl) (some 33) (by kernel_rfl) rfl (by kernel_rfl) (by kernel_rfl) (by kernel_rfl) (fun _ _ _ h => h) (by rfl) (fun w' hw' => ?_) rfl ?_
          rotate_left
          · try have g0 := cell_gr (HB.out.trans ((Below.drew (Below.refl w.heap.size wr)).trans hw')) HC0.out
            try have g1 := cell_gr (HB.out.trans ((Below.drew (Below.refl w.heap.size wr)).trans hw')) HC1.out
            go_simp
            with_reducible rfl
          simp only [Act.put, List.setIfInBounds_toArray, List.set_cons_zero, List.set_cons_succ]
          -- 6: slot 34
          refine wpG_take (preBelow (w.heap.size)) (i := 6) (v := ?_) (by kernel_rfl) (some 34) (by kernel_rfl) rfl (by kernel_rfl) (by kernel_rfl) (by kernel_rfl) (fun _ _ _ h => h) (by rfl) (fun w' hw' => ?_) rfl ?_
          rotate_left
          · try have g0 := cell_gr (HB.out.trans ((Below.drew (Below.refl w.heap.size wr)).trans hw')) HC0.out
            try have g1 := cell_gr (HB.out.trans ((Below.drew (Below.refl w.heap.size wr)).trans hw')) HC1.out
            go_simp
            with_reducible rfl
          simp only [Act.put, List.setIfInBounds_toArray, List.set_cons_zero, List.set_cons_succ]
          -- 7: slot 35
          refine wpG_take (preBelow (w.heap.size)) (i := 7) (v := ?_) (by kernel_rfl) (some 35) (by kernel_rfl) rfl (by kernel_rfl) (by kernel_rfl) (by kernel_rfl) (fun _ _ _ h => h) (by rfl) (fun w' hw' => ?_) rfl ?_
          rotate_left
          · try have g0 := cell_gr (HB.out.trans ((Below.drew (Below.refl w.heap.size wr)).trans hw')) HC0.out
            try have g1 := cell_gr (HB.out.trans ((Below.drew (Below.refl w.heap.size wr)).trans hw')) HC1.out
            go_simp
            with_reducible rfl
          simp only [Act.put, List.setIfInBounds_toArray, List.set_cons_zero, List.set_cons_succ]
          -- 8: slot 36
          refine wpG_take (preBelow (w.heap.size)) (i := 8) (v := ?_) (by kernel_rfl) (some 36) (by kernel_rfl) rfl (by kernel_rfl) (by kernel_rfl) (by kernel_rfl) (fun _ _ _ h => h) (by rfl) (fun w' hw' => ?_) rfl ?_
          rotate_left
          · try have g0 := cell_gr (HB.out.trans ((Below.drew (Below.refl w.heap.size wr)).trans hw')) HC0.out
            try have g1 := cell_gr (HB.out.trans ((Below.drew (Below.refl w.heap.size wr)).trans hw')) HC1.out
            go_simp
            with_reducible rfl
          simp only [Act.put, List.setIfInBounds_toArray, List.set_cons_zero, List.set_cons_succ]
          -- 9: slot 37
          refine wpG_take (preBelow (w.heap.size)) (i := 9) (v := ?_) (by kernel_rfl) (some 37) (by kernel_rfl) rfl (by kernel_rfl) (by kernel_rfl) (by kernel_rfl) (fun _ _ _ h => h) (by rfl) (fun w' hw' => ?_) rfl ?_
          rotate_left
          · try have g0 := cell_gr (HB.out.trans ((Below.drew (Below.refl w.heap.size wr)).trans hw')) HC0.out
            try have g1 := cell_gr (HB.out.trans ((Below.drew (Below.refl w.heap.size wr)).trans hw')) HC1.out
            go_simp
            with_reducible rfl
          simp only [Act.put, List.setIfInBounds_toArray, List.set_cons_zero, List.set_cons_succ]
          -- 10: slot 38
          refine wpG_take (preBelow (w.heap.size)) (i := 10) (v := ?_) (by kernel_rfl) (some 38) (by kernel_rfl) rfl (by kernel_rfl) (by kernel_rfl) (by kernel_rfl) (fun _ _ _ h => h) (by rfl) (fun w' hw' => ?_) rfl ?_
          rotate_left
          · try have g0 := cell_gr (HB.out.trans ((Below.drew (Below.refl w.heap.size wr)).trans hw')) HC0.out
            try have g1 := cell_gr (HB.out.trans ((Below.drew (Below.refl w.heap.size wr)).trans hw')) HC1.out
            go_simp
            with_reducible rfl
          simp only [Act.put, List.setIfInBounds_toArray, List.set_cons_zero, List.set_cons_succ]
          -- 11: slot 39
          refine wpG_take (preBelow (w.heap.size)) (i := 11) (v := ?_) (by kernel_rfl) (some 39) (by kernel_rfl) rfl (by kernel_rfl) (by kernel_rfl) (by kernel_rfl) (fun _ _ _ h => h) (by rfl) (fun w' hw' => ?_) rfl ?_
          rotate_left
          · try have g0 := cell_gr (HB.out.trans ((Below.drew (Below.refl w.heap.size wr)).trans hw')) HC0.out
            try have g1 := cell_gr (HB.out.trans ((Below.drew (Below.refl w.heap.size wr)).trans hw')) HC1.out
            go_simp
            with_reducible rfl
          simp only [Act.put, List.setIfInBounds_toArray, List.set_cons_zero, List.set_cons_succ]
          -- 12: slot 40
          refine wpG_take (preBelow (w.heap.size)) (i := 12) (v := ?_) (by kernel_rfl) (some 40) (by kernel_rfl) rfl (by kernel_rfl) (by kernel_rfl) (by kernel_rfl) (fun _ _ _ h => h) (by rfl) (fun w' hw' => ?_) rfl ?_
          rotate_left
          · try have g0 := cell_gr (HB.out.trans ((Below.drew (Below.refl w.heap.size wr)).trans hw')) HC0.out
            try have g1 := cell_gr (HB.out.trans ((Below.drew (Below.refl w.heap.size wr)).trans hw')) HC1.out
            go_simp
            with_reducible rfl
          simp only [Act.put, List.setIfInBounds_toArray, List.set_cons_zero, List.set_cons_succ]
          -- 13: slot 41
          refine wpG_take (preBelow (w.heap.size)) (i := 13) (v := ?_) (by kernel_rfl) (some 41) (by kernel_rfl) rfl (by kernel_rfl) (by kernel_rfl) (by kernel_rfl) (fun _ _ _ h => h) (by rfl) (fun w' hw' => ?_) rfl ?_
          rotate_left
          · try have g0 := cell_gr (HB.out.trans ((Below.drew (Below.refl w.heap.size wr)).trans hw')) HC0.out
            try have g1 := cell_gr (HB.out.trans ((Below.drew (Below.refl w.heap.size wr)).trans hw')) HC1.out
            go_simp
            with_reducible rfl
          simp only [Act.put, List.setIfInBounds_toArray, List.set_cons_zero, List.set_cons_succ]
          -- 14: slot 42
          refine wpG_take (preBelow (w.heap.size)) (i := 14) (v := ?_) (by kernel_rfl) (some 42) (by kernel_rfl) rfl (by kernel_rfl) (by kernel_rfl) (by kernel_rfl) (fun _ _ _ h => h) (by rfl) (fun w' hw' => ?_) rfl ?_
          rotate_left
          · try have g0 := cell_gr (HB.out.trans ((Below.drew (Below.refl w.heap.size wr)).trans hw')) HC0.out
            try have g1 := cell_gr (HB.out.trans ((Below.drew (Below.refl w.heap.size wr)).trans hw')) HC1.out
            go_simp
            with_reducible rfl
          simp only [Act.put, List.setIfInBounds_toArray, List.set_cons_zero, List.set_cons_succ]
          refine wpG_one (i := 15) rfl (by kernel_rfl) (by rfl) ?_
          go_simp
          have hA : Below wr.drew.heap.size wr.drew (wr.drew.alloc (.cells #[.int .u8 (X : Int), .int .u8 (M : Int)] 5)) := (Below.refl _ _).alloc (Nat.le_refl _) _
          refine ⟨hA.mono HBN.out, ?_⟩
          have HB2 : Hid (Below w.heap.size w (wr.drew.alloc (.cells #[.int .u8 (X : Int), .int .u8 (M : Int)] 5))) := HB.out.drew.trans (hA.mono HBN.out)
          have HO2 := Lib.hid ((HO.out.below (Gr.drew wr)).below hA)
          have HR2 : Hid (Rd (wr.drew.alloc (.cells #[.int .u8 (X : Int), .int .u8 (M : Int)] 5)) 1 (.slice (some ⟨wr.heap.size, 0, none⟩) 2 2) 2 ([UInt8.ofNat X, UInt8.ofNat M].map u8v)) := by
            have := rd_new wr.drew ([UInt8.ofNat X, UInt8.ofNat M].map u8v) 5 2 1 rfl (by decide)
            rw [← two_u8 X M (by omega) hM256] at this
            show Rd _ _ _ _ _
            rw [← two_u8 X M (by omega) hM256]
            exact this
          have HQ : Hid (Gr wr (wr.drew.alloc (.cells #[.int .u8 (X : Int), .int .u8 (M : Int)] 5))) := (Gr.drew wr).trans hA
          clear hA
          try simp only [Act.put, List.setIfInBounds_toArray, List.set_cons_zero, List.set_cons_succ]
          refine wpG_one (i := 16) rfl (by kernel_rfl) (by rfl) ?_
          refine wp_append_gr _ (some 44) (.tmp 28) (.tmp 43) 23 rfl w.heap.size 5 i0 (.int .u8 0) 1 1 Try.underlying23 hi hz0 hz1 hz2 rfl (by decide) _ _ _ rfl HO2.out _ _ _ rfl HR2.out (oneCell_u8 _) ?q1 (by decide) HB2.out.size rfl ?_
          case q1 => have := HKL.out; omega
          intro v3 w3 hown3 hg3
          have hb3 := grown_below HO2.out HB2.out.size hg3
          refine ⟨hb3, ?_⟩
          have HB3 := Lib.hid (HB2.out.trans hb3)
          have HO3 := Lib.hid hown3
          clear hown3 hg3 hb3
          try simp only [Act.put, List.setIfInBounds_toArray, List.set_cons_zero, List.set_cons_succ]
          -- 17: slot 5
          refine wpG_take (preBelow (w.heap.size)) (i := 17) (v := ?_) (by kernel_rfl) (some 5) (by kernel_rfl) rfl (by kernel_rfl) (by kernel_rfl) (by kernel_rfl) (fun _ _ _ h => h) (by rfl) (fun w' hw' => ?_) rfl ?_
          rotate_left
          · try have g0 := cell_gr (HB.out.trans ((Below.drew (Below.refl w.heap.size wr)).trans hw')) HC0.out
            try have g1 := cell_gr (HB.out.trans ((Below.drew (Below.refl w.heap.size wr)).trans hw')) HC1.out
            go_simp
            with_reducible rfl
          simp only [Act.put, List.setIfInBounds_toArray, List.set_cons_zero, List.set_cons_succ]
          refine wpG_done (by kernel_rfl) ?_ _
          have k0 := cell_gr HB3.out HC0.out
          have k1 := cell_gr HB3.out HC1.out
          have HV5 : Hid (Rd w3 1 (.slice A L C) L (ts[k].l.map u8v)) := by
            have := HV.out.below HB3.out
            rw [HE1.out] at this
            unfold Bs at this
            rw [HL.out] at this
            exact this
          clear W1 W2 W3 W4
          go_wp2_with (at_builtin; refine wpList_append_gr _ rfl (.tmp 45) (.tmp 50) 23 rfl w.heap.size 5 i0 (.int .u8 0) 1 1 Try.underlying23 hi hz0 hz1 hz2 rfl (by decide) _ _ _ rfl HO3.out _ _ _ rfl HV5.out (oneCell_u8 _) ?q1 (by decide) HB3.out.size ?_)
          case q1 => have := HKL.out; omega
          intro v6 w6 hown6 hg6
          have HB6 := Lib.hid (HB3.out.trans (grown_below HO3.out HB3.out.size hg6))
          have HO6 : Hid (OwnB w6 w.heap.size 5 v6 (wireT ((plain ts).take (k + 1)))) := by
            show OwnB _ _ _ _ _
            rw [HTK.out, HM.out]
            unfold OwnB
            have e1 : (wireT ((plain ts).take k) ++ ([UInt8.ofNat X, UInt8.ofNat M] ++ ts[k].l)).length = (wireT ((plain ts).take k)).length + 2 + L := by
              simp only [List.length_append, List.length_cons, List.length_nil]
              rw [HL.out]; omega
            rw [e1]
            simpa using hown6
          clear hown6 hg6 k0 k1
          go_wp2
          go_roundw
          case rel =>
            first | exact ⟨k + 1, by omega, by go_num, HO6.out, HB6.out⟩ | ((repeat apply Exists.intro); exact ⟨⟨k + 1, by omega, by go_num, HO6.out, HB6.out⟩, rfl⟩)
          case measure => simp [intOf]; omega
        · obtain rfl : n = k := by omega
          have HW : Hid ((plain ts).take n = plain ts) := by show _ = _; rw [← hl, ← plain_length, List.take_length]
          have HO1 := HO.out
          rw [HW.out] at HO1
          obtain ⟨A, L, C, rfl, hL, hLC, hCm⟩ := HO1.bs.sl
          have HO2 := Lib.hid HO1
          have HLL := Lib.hid hL
          clear HO1 hL
          by_cases hS : 1488 < L
          · have HE := Lib.hid (encE_long HN64.out HA.out.1 (by rw [HLL.out]; exact hS))
            go_wp2
            go_ret2
            exact EncR.none HE.out (by decide) HB.out
          · have HE := Lib.hid (encE_ok HN64.out HA.out.1 (by rw [HLL.out]; exact hS))
            go_wp2
            go_ret2
            exact EncR.some HE.out HO2.out HB.out
end Go.Proofs.Yteemcckfhadkhaa.O
