/-
  The document's Same, Copy; the laws' Rules, Opts.
-/
import Derived.Test.YtbldcjngccmhpaaNgC
import Derived.Test.YtbldcjngccmhpaaOnly
namespace Go.Proofs.Ytbldcjngccmhpaa.Ng
open Go.RowKit O
set_option linter.unusedVariables false
set_option linter.unusedSimpArgs false
def Alike (ts us : List Tg) (k : Nat) : Prop := (plain ts).take k = (plain us).take k
theorem Alike.zero (ts us : List Tg) : Alike ts us 0 := rfl
theorem Alike.next {ts us : List Tg} {k : Nat} (h : Alike ts us k) (h1 : k < ts.length) (h2 : k < us.length) (e : (ts[k].typ, ts[k].l) = (us[k].typ, us[k].l)) : Alike ts us (k + 1) := by
  unfold Alike at *
  rw [List.take_succ_eq_append_getElem (by rw [plain_length]; exact h1), List.take_succ_eq_append_getElem (by rw [plain_length]; exact h2), h, plain_get ts k h1, plain_get us k h2, e]
theorem Alike.all {ts us : List Tg} {n : Nat} (h : Alike ts us n) (h1 : ts.length = n) (h2 : us.length = n) : plain ts = plain us := by
  unfold Alike at h
  rwa [List.take_of_length_le (by rw [plain_length]; omega), List.take_of_length_le (by rw [plain_length]; omega)] at h
theorem plain_at {ts us : List Tg} (h : plain ts = plain us) (i : Nat) (h1 : i < ts.length) (h2 : i < us.length) : (ts[i].typ, ts[i].l) = (us[i].typ, us[i].l) := by
  have e1 := plain_get ts i h1
  have e2 := plain_get us i h2
  have h3 : (plain ts)[i]'(by rw [plain_length]; exact h1) = (plain us)[i]'(by rw [plain_length]; exact h2) := by simp only [h]
  rw [e1, e2] at h3
  exact h3
theorem plain_len {ts us : List Tg} (h : plain ts = plain us) : ts.length = us.length := by
  have := congrArg List.length h; rwa [plain_length, plain_length] at this
theorem str_ne {l m : List UInt8} (h : ¬ l = m) : (l == m) = false := beq_eq_false_iff_ne.2 h

set_option maxRecDepth 20000 in
set_option maxHeartbeats 2000000 in
theorem rsame_any (ao bo : Option Addr) (n n' c c' : Nat) (ts us : List Tg) (w : World) (hr : TR w (.slice ao n c) n ts) (hs : TR w (.slice bo n' c') n' us) :
    Calls Try.prog 14 #[.slice ao n c, .slice bo n' c'] w fun e w' => e = .returned (.bool (decide (plain ts = plain us))) ∧ Below w.heap.size w w' := by
  have hl := hr.len
  have hl' := hs.len
  obtain ⟨_, _, es, hca, hcm⟩ := hr.shape
  simp only [Value.slice.injEq] at es
  obtain ⟨rfl, z1, rfl⟩ := es
  clear z1
  unfold maxLen at hcm
  by_cases hnn : n = n'
  · subst hnn
    have HR := Lib.hid hr
    have HS := Lib.hid hs
    clear hr hs
    go_enter Try.func14, Try.ntmps14
    go_wp2
    go_loopw [5] (fun iv wr => ∃ k : Nat, k ≤ n ∧ iv = .int .i64 k ∧ Alike ts us k ∧ Below w.heap.size w wr) (fun iv _ => n - (intOf iv).toNat)
    case atStart => exact ⟨0, Nat.zero_le _, rfl, Alike.zero _ _, Below.refl _ _⟩
    case round =>
      obtain ⟨k, hk, rfl, hal, hb⟩ := hrel
      have HA := Lib.hid hal
      have HB := Lib.hid hb
      clear hal hb
      by_cases hlt : k < n
      · obtain ⟨b, o, rfl, hbl, hc⟩ := (HR.out.below HB.out).cells (by omega)
        obtain ⟨b2, o2, rfl, hbl2, hd⟩ := (HS.out.below HB.out).cells (by omega)
        obtain ⟨hc0, hc1⟩ := hc k (by omega)
        obtain ⟨hd0, hd1⟩ := hd k (by omega)
        have hv := HR.out.val k (by omega)
        have hw := HS.out.val k (by omega)
        obtain ⟨A, L, C, ev, hL, hLC, hCm⟩ := hv.sl
        obtain ⟨A2, L2, C2, ew, hL2, hLC2, hCm2⟩ := hw.sl
        rw [ev] at hc1 hv
        rw [ew] at hd1 hw
        have HK : Hid (decide ((ts[k].typ, ts[k].l) = (us[k].typ, us[k].l)) = true → Alike ts us (k + 1)) := fun e => HA.out.next (by omega) (by omega) (of_decide_eq_true e)
        have HNK : Hid (decide ((ts[k].typ, ts[k].l) = (us[k].typ, us[k].l)) = false → decide (plain ts = plain us) = false) := fun e => decide_eq_false fun h => of_decide_eq_false e (plain_at h k (by omega) (by omega))
        generalize ts[k].typ = T at hc0 HK HNK
        generalize ts[k].l = x at hv HK HNK
        generalize us[k].typ = U at hd0 HK HNK
        generalize us[k].l = y at hw HK HNK
        have HC0 := Lib.hid hc0
        have HC1 := Lib.hid hc1
        have HD0 := Lib.hid hd0
        have HD1 := Lib.hid hd1
        have S1 : Hid (∀ w', Gr wr w' → (convert 40 9 (.slice A L C)).run Try.prog w' = .ok (.string ⟨x.toArray⟩) w') := fun w' hw' => run_string_of (P := Try.prog) 40 9 5 Try.underlying40 Try.underlying5 Try.underlying9 (hv.below (HB.out.trans (Below.mono hw' HB.out.size)))
        have S2 : Hid (∀ w', Gr wr w' → (convert 40 9 (.slice A2 L2 C2)).run Try.prog w' = .ok (.string ⟨y.toArray⟩) w') := fun w' hw' => run_string_of (P := Try.prog) 40 9 5 Try.underlying40 Try.underlying5 Try.underlying9 (hw.below (HB.out.trans (Below.mono hw' HB.out.size)))
        have hkn : k < n := hlt
        have hkn2 : (k : Int) < (n : Int) := by omega
        clear hv hw hc hd ev ew hc0 hc1 hd0 hd1 hL hL2
        by_cases hT : T = U
        · subst hT
          by_cases hxy : x = y
          · subst hxy
            have HA1 := Lib.hid (HK.out (by simp))
            clear HNK HK
            go_upto_region 6 with fail
            refine wp_region_G 26 Gr (by kernel_rfl) ?_
            -- 0: slot 17
            refine wpG_take preGr (i := 0) (v := ?_) (by kernel_rfl) (some 17) (by kernel_rfl) rfl (by kernel_rfl) (by kernel_rfl) (by kernel_rfl) (fun _ _ _ h => h) (by rfl) (fun w' hw' => ?_) rfl ?_
            rotate_left
            · try have g0 := cell_gr ((Gr.drew wr).trans hw') HC0.out
              try have g1 := cell_gr ((Gr.drew wr).trans hw') HC1.out
              try have g2 := cell_gr ((Gr.drew wr).trans hw') HD0.out
              try have g3 := cell_gr ((Gr.drew wr).trans hw') HD1.out
              try have g4 := S1.out _ ((Gr.drew wr).trans hw')
              try have g5 := S2.out _ ((Gr.drew wr).trans hw')
              go_simp
              with_reducible rfl
            simp only [Act.put, List.setIfInBounds_toArray, List.set_cons_zero, List.set_cons_succ]
            -- 1: slot 18
            refine wpG_take preGr (i := 1) (v := ?_) (by kernel_rfl) (some 18) (by kernel_rfl) rfl (by kernel_rfl) (by kernel_rfl) (by kernel_rfl) (fun _ _ _ h => h) (by rfl) (fun w' hw' => ?_) rfl ?_
            rotate_left
            · try have g0 := cell_gr ((Gr.drew wr).trans hw') HC0.out
              try have g1 := cell_gr ((Gr.drew wr).trans hw') HC1.out
              try have g2 := cell_gr ((Gr.drew wr).trans hw') HD0.out
              try have g3 := cell_gr ((Gr.drew wr).trans hw') HD1.out
              try have g4 := S1.out _ ((Gr.drew wr).trans hw')
              try have g5 := S2.out _ ((Gr.drew wr).trans hw')
              go_simp
              with_reducible rfl
            simp only [Act.put, List.setIfInBounds_toArray, List.set_cons_zero, List.set_cons_succ]
            -- 2: slot 19
            refine wpG_take preGr (i := 2) (v := ?_) (by kernel_rfl) (some 19) (by kernel_rfl) rfl (by kernel_rfl) (by kernel_rfl) (by kernel_rfl) (fun _ _ _ h => h) (by rfl) (fun w' hw' => ?_) rfl ?_
            rotate_left
            · try have g0 := cell_gr ((Gr.drew wr).trans hw') HC0.out
              try have g1 := cell_gr ((Gr.drew wr).trans hw') HC1.out
              try have g2 := cell_gr ((Gr.drew wr).trans hw') HD0.out
              try have g3 := cell_gr ((Gr.drew wr).trans hw') HD1.out
              try have g4 := S1.out _ ((Gr.drew wr).trans hw')
              try have g5 := S2.out _ ((Gr.drew wr).trans hw')
              go_simp
              with_reducible rfl
            simp only [Act.put, List.setIfInBounds_toArray, List.set_cons_zero, List.set_cons_succ]
            -- 3: slot 20
            refine wpG_take preGr (i := 3) (v := ?_) (by kernel_rfl) (some 20) (by kernel_rfl) rfl (by kernel_rfl) (by kernel_rfl) (by kernel_rfl) (fun _ _ _ h => h) (by rfl) (fun w' hw' => ?_) rfl ?_
            rotate_left
            · try have g0 := cell_gr ((Gr.drew wr).trans hw') HC0.out
              try have g1 := cell_gr ((Gr.drew wr).trans hw') HC1.out
              try have g2 := cell_gr ((Gr.drew wr).trans hw') HD0.out
              try have g3 := cell_gr ((Gr.drew wr).trans hw') HD1.out
              try have g4 := S1.out _ ((Gr.drew wr).trans hw')
              try have g5 := S2.out _ ((Gr.drew wr).trans hw')
              go_simp
              with_reducible rfl
            simp only [Act.put, List.setIfInBounds_toArray, List.set_cons_zero, List.set_cons_succ]
            -- 4: slot 21
            refine wpG_take preGr (i := 4) (v := ?_) (by kernel_rfl) (some 21) (by kernel_rfl) rfl (by kernel_rfl) (by kernel_rfl) (by kernel_rfl) (fun _ _ _ h => h) (by rfl) (fun w' hw' => ?_) rfl ?_
            rotate_left
            · try have g0 := cell_gr ((Gr.drew wr).trans hw') HC0.out
              try have g1 := cell_gr ((Gr.drew wr).trans hw') HC1.out
              try have g2 := cell_gr ((Gr.drew wr).trans hw') HD0.out
              try have g3 := cell_gr ((Gr.drew wr).trans hw') HD1.out
              try have g4 := S1.out _ ((Gr.drew wr).trans hw')
              try have g5 := S2.out _ ((Gr.drew wr).trans hw')
              go_simp
              with_reducible rfl
            simp only [Act.put, List.setIfInBounds_toArray, List.set_cons_zero, List.set_cons_succ]
            -- 5: slot 22
            refine wpG_take preGr (i := 5) (v := ?_) (by kernel_rfl) (some 22) (by kernel_rfl) rfl (by kernel_rfl) (by kernel_rfl) (by kernel_rfl) (fun _ _ _ h => h) (by rfl) (fun w' hw' => ?_) rfl ?_
            rotate_left
            · try have g0 := cell_gr ((Gr.drew wr).trans hw') HC0.out
              try have g1 := cell_gr ((Gr.drew wr).trans hw') HC1.out
              try have g2 := cell_gr ((Gr.drew wr).trans hw') HD0.out
              try have g3 := cell_gr ((Gr.drew wr).trans hw') HD1.out
              try have g4 := S1.out _ ((Gr.drew wr).trans hw')
              try have g5 := S2.out _ ((Gr.drew wr).trans hw')
              go_simp
              with_reducible rfl
            simp only [Act.put, List.setIfInBounds_toArray, List.set_cons_zero, List.set_cons_succ]
            -- 6: slot 23
            refine wpG_take preGr (i := 6) (v := ?_) (by kernel_rfl) (some 23) (by kernel_rfl) rfl (by kernel_rfl) (by kernel_rfl) (by kernel_rfl) (fun _ _ _ h => h) (by rfl) (fun w' hw' => ?_) rfl ?_
            rotate_left
            · try have g0 := cell_gr ((Gr.drew wr).trans hw') HC0.out
              try have g1 := cell_gr ((Gr.drew wr).trans hw') HC1.out
              try have g2 := cell_gr ((Gr.drew wr).trans hw') HD0.out
              try have g3 := cell_gr ((Gr.drew wr).trans hw') HD1.out
              try have g4 := S1.out _ ((Gr.drew wr).trans hw')
              try have g5 := S2.out _ ((Gr.drew wr).trans hw')
              go_simp
              with_reducible rfl
            simp only [Act.put, List.setIfInBounds_toArray, List.set_cons_zero, List.set_cons_succ]
            -- 7: slot 24
            refine wpG_take preGr (i := 7) (v := ?_) (by kernel_rfl) (some 24) (by kernel_rfl) rfl (by kernel_rfl) (by kernel_rfl) (by kernel_rfl) (fun _ _ _ h => h) (by rfl) (fun w' hw' => ?_) rfl ?_
            rotate_left
            · try have g0 := cell_gr ((Gr.drew wr).trans hw') HC0.out
              try have g1 := cell_gr ((Gr.drew wr).trans hw') HC1.out
              try have g2 := cell_gr ((Gr.drew wr).trans hw') HD0.out
              try have g3 := cell_gr ((Gr.drew wr).trans hw') HD1.out
              try have g4 := S1.out _ ((Gr.drew wr).trans hw')
              try have g5 := S2.out _ ((Gr.drew wr).trans hw')
              go_simp
              with_reducible rfl
            simp only [Act.put, List.setIfInBounds_toArray, List.set_cons_zero, List.set_cons_succ]
            -- 8: slot 25
            refine wpG_take preGr (i := 8) (v := ?_) (by kernel_rfl) (some 25) (by kernel_rfl) rfl (by kernel_rfl) (by kernel_rfl) (by kernel_rfl) (fun _ _ _ h => h) (by rfl) (fun w' hw' => ?_) rfl ?_
            rotate_left
            · try have g0 := cell_gr ((Gr.drew wr).trans hw') HC0.out
              try have g1 := cell_gr ((Gr.drew wr).trans hw') HC1.out
              try have g2 := cell_gr ((Gr.drew wr).trans hw') HD0.out
              try have g3 := cell_gr ((Gr.drew wr).trans hw') HD1.out
              try have g4 := S1.out _ ((Gr.drew wr).trans hw')
              try have g5 := S2.out _ ((Gr.drew wr).trans hw')
              go_simp
              with_reducible rfl
            simp only [Act.put, List.setIfInBounds_toArray, List.set_cons_zero, List.set_cons_succ]
            -- 9: slot 26
            refine wpG_take preGr (i := 9) (v := ?_) (by kernel_rfl) (some 26) (by kernel_rfl) rfl (by kernel_rfl) (by kernel_rfl) (by kernel_rfl) (fun _ _ _ h => h) (by rfl) (fun w' hw' => ?_) rfl ?_
            rotate_left
            · try have g0 := cell_gr ((Gr.drew wr).trans hw') HC0.out
              try have g1 := cell_gr ((Gr.drew wr).trans hw') HC1.out
              try have g2 := cell_gr ((Gr.drew wr).trans hw') HD0.out
              try have g3 := cell_gr ((Gr.drew wr).trans hw') HD1.out
              try have g4 := S1.out _ ((Gr.drew wr).trans hw')
              try have g5 := S2.out _ ((Gr.drew wr).trans hw')
              go_simp
              with_reducible rfl
            simp only [Act.put, List.setIfInBounds_toArray, List.set_cons_zero, List.set_cons_succ]
            -- 10: slot 27
            refine wpG_take preGr (i := 10) (v := ?_) (by kernel_rfl) (some 27) (by kernel_rfl) rfl (by kernel_rfl) (by kernel_rfl) (by kernel_rfl) (fun _ _ _ h => h) (by rfl) (fun w' hw' => ?_) rfl ?_
            rotate_left
            · try have g0 := cell_gr ((Gr.drew wr).trans hw') HC0.out
              try have g1 := cell_gr ((Gr.drew wr).trans hw') HC1.out
              try have g2 := cell_gr ((Gr.drew wr).trans hw') HD0.out
              try have g3 := cell_gr ((Gr.drew wr).trans hw') HD1.out
              try have g4 := S1.out _ ((Gr.drew wr).trans hw')
              try have g5 := S2.out _ ((Gr.drew wr).trans hw')
              go_simp
              with_reducible rfl
            simp only [Act.put, List.setIfInBounds_toArray, List.set_cons_zero, List.set_cons_succ]
            -- 11: slot 28
            refine wpG_take preGr (i := 11) (v := ?_) (by kernel_rfl) (some 28) (by kernel_rfl) rfl (by kernel_rfl) (by kernel_rfl) (by kernel_rfl) (fun _ _ _ h => h) (by rfl) (fun w' hw' => ?_) rfl ?_
            rotate_left
            · try have g0 := cell_gr ((Gr.drew wr).trans hw') HC0.out
              try have g1 := cell_gr ((Gr.drew wr).trans hw') HC1.out
              try have g2 := cell_gr ((Gr.drew wr).trans hw') HD0.out
              try have g3 := cell_gr ((Gr.drew wr).trans hw') HD1.out
              try have g4 := S1.out _ ((Gr.drew wr).trans hw')
              try have g5 := S2.out _ ((Gr.drew wr).trans hw')
              go_simp
              with_reducible rfl
            simp only [Act.put, List.setIfInBounds_toArray, List.set_cons_zero, List.set_cons_succ]
            -- 12: slot 29
            refine wpG_take preGr (i := 12) (v := ?_) (by kernel_rfl) (some 29) (by kernel_rfl) rfl (by kernel_rfl) (by kernel_rfl) (by kernel_rfl) (fun _ _ _ h => h) (by rfl) (fun w' hw' => ?_) rfl ?_
            rotate_left
            · try have g0 := cell_gr ((Gr.drew wr).trans hw') HC0.out
              try have g1 := cell_gr ((Gr.drew wr).trans hw') HC1.out
              try have g2 := cell_gr ((Gr.drew wr).trans hw') HD0.out
              try have g3 := cell_gr ((Gr.drew wr).trans hw') HD1.out
              try have g4 := S1.out _ ((Gr.drew wr).trans hw')
              try have g5 := S2.out _ ((Gr.drew wr).trans hw')
              go_simp
              with_reducible rfl
            simp only [Act.put, List.setIfInBounds_toArray, List.set_cons_zero, List.set_cons_succ]
            -- 13: slot 30
            refine wpG_take preGr (i := 13) (v := ?_) (by kernel_rfl) (some 30) (by kernel_rfl) rfl (by kernel_rfl) (by kernel_rfl) (by kernel_rfl) (fun _ _ _ h => h) (by rfl) (fun w' hw' => ?_) rfl ?_
            rotate_left
            · try have g0 := cell_gr ((Gr.drew wr).trans hw') HC0.out
              try have g1 := cell_gr ((Gr.drew wr).trans hw') HC1.out
              try have g2 := cell_gr ((Gr.drew wr).trans hw') HD0.out
              try have g3 := cell_gr ((Gr.drew wr).trans hw') HD1.out
              try have g4 := S1.out _ ((Gr.drew wr).trans hw')
              try have g5 := S2.out _ ((Gr.drew wr).trans hw')
              go_simp
              with_reducible rfl
            simp only [Act.put, List.setIfInBounds_toArray, List.set_cons_zero, List.set_cons_succ]
            -- 14: slot 31
            refine wpG_take preGr (i := 14) (v := ?_) (by kernel_rfl) (some 31) (by kernel_rfl) rfl (by kernel_rfl) (by kernel_rfl) (by kernel_rfl) (fun _ _ _ h => h) (by rfl) (fun w' hw' => ?_) rfl ?_
            rotate_left
            · try have g0 := cell_gr ((Gr.drew wr).trans hw') HC0.out
              try have g1 := cell_gr ((Gr.drew wr).trans hw') HC1.out
              try have g2 := cell_gr ((Gr.drew wr).trans hw') HD0.out
              try have g3 := cell_gr ((Gr.drew wr).trans hw') HD1.out
              try have g4 := S1.out _ ((Gr.drew wr).trans hw')
              try have g5 := S2.out _ ((Gr.drew wr).trans hw')
              go_simp
              with_reducible rfl
            simp only [Act.put, List.setIfInBounds_toArray, List.set_cons_zero, List.set_cons_succ]
            -- 15: slot 32
            refine wpG_take preGr (i := 15) (v := ?_) (by kernel_rfl) (some 32) (by kernel_rfl) rfl (by kernel_rfl) (by kernel_rfl) (by kernel_rfl) (fun _ _ _ h => h) (by rfl) (fun w' hw' => ?_) rfl ?_
            rotate_left
            · try have g0 := cell_gr ((Gr.drew wr).trans hw') HC0.out
              try have g1 := cell_gr ((Gr.drew wr).trans hw') HC1.out
              try have g2 := cell_gr ((Gr.drew wr).trans hw') HD0.out
              try have g3 := cell_gr ((Gr.drew wr).trans hw') HD1.out
              try have g4 := S1.out _ ((Gr.drew wr).trans hw')
              try have g5 := S2.out _ ((Gr.drew wr).trans hw')
              go_simp
              with_reducible rfl
            simp only [Act.put, List.setIfInBounds_toArray, List.set_cons_zero, List.set_cons_succ]
            -- 16: slot 33
            refine wpG_take preGr (i := 16) (v := ?_) (by kernel_rfl) (some 33) (by kernel_rfl) rfl (by kernel_rfl) (by kernel_rfl) (by kernel_rfl) (fun _ _ _ h => h) (by rfl) (fun w' hw' => ?_) rfl ?_
            rotate_left
            · try have g0 := cell_gr ((Gr.drew wr).trans hw') HC0.out
              try have g1 := cell_gr ((Gr.drew wr).trans hw') HC1.out
              try have g2 := cell_gr ((Gr.drew wr).trans hw') HD0.out
              try have g3 := cell_gr ((Gr.drew wr).trans hw') HD1.out
              try have g4 := S1.out _ ((Gr.drew wr).trans hw')
              try have g5 := S2.out _ ((Gr.drew wr).trans hw')
              go_simp
              with_reducible rfl
            simp only [Act.put, List.setIfInBounds_toArray, List.set_cons_zero, List.set_cons_succ]
            -- 17: slot 34
            refine wpG_take preGr (i := 17) (v := ?_) (by kernel_rfl) (some 34) (by kernel_rfl) rfl (by kernel_rfl) (by kernel_rfl) (by kernel_rfl) (fun _ _ _ h => h) (by rfl) (fun w' hw' => ?_) rfl ?_
            rotate_left
            · try have g0 := cell_gr ((Gr.drew wr).trans hw') HC0.out
              try have g1 := cell_gr ((Gr.drew wr).trans hw') HC1.out
              try have g2 := cell_gr ((Gr.drew wr).trans hw') HD0.out
              try have g3 := cell_gr ((Gr.drew wr).trans hw') HD1.out
              try have g4 := S1.out _ ((Gr.drew wr).trans hw')
              try have g5 := S2.out _ ((Gr.drew wr).trans hw')
              go_simp
              with_reducible rfl
            simp only [Act.put, List.setIfInBounds_toArray, List.set_cons_zero, List.set_cons_succ]
            -- 18: slot 35
            refine wpG_take preGr (i := 18) (v := ?_) (by kernel_rfl) (some 35) (by kernel_rfl) rfl (by kernel_rfl) (by kernel_rfl) (by kernel_rfl) (fun _ _ _ h => h) (by rfl) (fun w' hw' => ?_) rfl ?_
            rotate_left
            · try have g0 := cell_gr ((Gr.drew wr).trans hw') HC0.out
              try have g1 := cell_gr ((Gr.drew wr).trans hw') HC1.out
              try have g2 := cell_gr ((Gr.drew wr).trans hw') HD0.out
              try have g3 := cell_gr ((Gr.drew wr).trans hw') HD1.out
              try have g4 := S1.out _ ((Gr.drew wr).trans hw')
              try have g5 := S2.out _ ((Gr.drew wr).trans hw')
              go_simp
              with_reducible rfl
            simp only [Act.put, List.setIfInBounds_toArray, List.set_cons_zero, List.set_cons_succ]
            -- 19: slot 36
            refine wpG_take preGr (i := 19) (v := ?_) (by kernel_rfl) (some 36) (by kernel_rfl) rfl (by kernel_rfl) (by kernel_rfl) (by kernel_rfl) (fun _ _ _ h => h) (by rfl) (fun w' hw' => ?_) rfl ?_
            rotate_left
            · try have g0 := cell_gr ((Gr.drew wr).trans hw') HC0.out
              try have g1 := cell_gr ((Gr.drew wr).trans hw') HC1.out
              try have g2 := cell_gr ((Gr.drew wr).trans hw') HD0.out
              try have g3 := cell_gr ((Gr.drew wr).trans hw') HD1.out
              try have g4 := S1.out _ ((Gr.drew wr).trans hw')
              try have g5 := S2.out _ ((Gr.drew wr).trans hw')
              go_simp
              with_reducible rfl
            simp only [Act.put, List.setIfInBounds_toArray, List.set_cons_zero, List.set_cons_succ]
            -- 20: slot 37
            refine wpG_take preGr (i := 20) (v := ?_) (by kernel_rfl) (some 37) (by kernel_rfl) rfl (by kernel_rfl) (by kernel_rfl) (by kernel_rfl) (fun _ _ _ h => h) (by rfl) (fun w' hw' => ?_) rfl ?_
            rotate_left
            · try have g0 := cell_gr ((Gr.drew wr).trans hw') HC0.out
              try have g1 := cell_gr ((Gr.drew wr).trans hw') HC1.out
              try have g2 := cell_gr ((Gr.drew wr).trans hw') HD0.out
              try have g3 := cell_gr ((Gr.drew wr).trans hw') HD1.out
              try have g4 := S1.out _ ((Gr.drew wr).trans hw')
              try have g5 := S2.out _ ((Gr.drew wr).trans hw')
              go_simp
              with_reducible rfl
            simp only [Act.put, List.setIfInBounds_toArray, List.set_cons_zero, List.set_cons_succ]
            -- 21: slot 38
            refine wpG_take preGr (i := 21) (v := ?_) (by kernel_rfl) (some 38) (by kernel_rfl) rfl (by kernel_rfl) (by kernel_rfl) (by kernel_rfl) (fun _ _ _ h => h) (by rfl) (fun w' hw' => ?_) rfl ?_
            rotate_left
            · try have g0 := cell_gr ((Gr.drew wr).trans hw') HC0.out
              try have g1 := cell_gr ((Gr.drew wr).trans hw') HC1.out
              try have g2 := cell_gr ((Gr.drew wr).trans hw') HD0.out
              try have g3 := cell_gr ((Gr.drew wr).trans hw') HD1.out
              try have g4 := S1.out _ ((Gr.drew wr).trans hw')
              try have g5 := S2.out _ ((Gr.drew wr).trans hw')
              go_simp
              with_reducible rfl
            simp only [Act.put, List.setIfInBounds_toArray, List.set_cons_zero, List.set_cons_succ]
            -- 22: slot 39
            refine wpG_take preGr (i := 22) (v := ?_) (by kernel_rfl) (some 39) (by kernel_rfl) rfl (by kernel_rfl) (by kernel_rfl) (by kernel_rfl) (fun _ _ _ h => h) (by rfl) (fun w' hw' => ?_) rfl ?_
            rotate_left
            · try have g0 := cell_gr ((Gr.drew wr).trans hw') HC0.out
              try have g1 := cell_gr ((Gr.drew wr).trans hw') HC1.out
              try have g2 := cell_gr ((Gr.drew wr).trans hw') HD0.out
              try have g3 := cell_gr ((Gr.drew wr).trans hw') HD1.out
              try have g4 := S1.out _ ((Gr.drew wr).trans hw')
              try have g5 := S2.out _ ((Gr.drew wr).trans hw')
              go_simp
              with_reducible rfl
            simp only [Act.put, List.setIfInBounds_toArray, List.set_cons_zero, List.set_cons_succ]
            -- 23: slot 40
            refine wpG_take preGr (i := 23) (v := ?_) (by kernel_rfl) (some 40) (by kernel_rfl) rfl (by kernel_rfl) (by kernel_rfl) (by kernel_rfl) (fun _ _ _ h => h) (by rfl) (fun w' hw' => ?_) rfl ?_
            rotate_left
            · try have g0 := cell_gr ((Gr.drew wr).trans hw') HC0.out
              try have g1 := cell_gr ((Gr.drew wr).trans hw') HC1.out
              try have g2 := cell_gr ((Gr.drew wr).trans hw') HD0.out
              try have g3 := cell_gr ((Gr.drew wr).trans hw') HD1.out
              try have g4 := S1.out _ ((Gr.drew wr).trans hw')
              try have g5 := S2.out _ ((Gr.drew wr).trans hw')
              go_simp
              with_reducible rfl
            simp only [Act.put, List.setIfInBounds_toArray, List.set_cons_zero, List.set_cons_succ]
            -- 24: slot 41
            refine wpG_take preGr (i := 24) (v := ?_) (by kernel_rfl) (some 41) (by kernel_rfl) rfl (by kernel_rfl) (by kernel_rfl) (by kernel_rfl) (fun _ _ _ h => h) (by rfl) (fun w' hw' => ?_) rfl ?_
            rotate_left
            · try have g0 := cell_gr ((Gr.drew wr).trans hw') HC0.out
              try have g1 := cell_gr ((Gr.drew wr).trans hw') HC1.out
              try have g2 := cell_gr ((Gr.drew wr).trans hw') HD0.out
              try have g3 := cell_gr ((Gr.drew wr).trans hw') HD1.out
              try have g4 := S1.out _ ((Gr.drew wr).trans hw')
              try have g5 := S2.out _ ((Gr.drew wr).trans hw')
              go_simp
              with_reducible rfl
            simp only [Act.put, List.setIfInBounds_toArray, List.set_cons_zero, List.set_cons_succ]
            -- 25: slot 42
            refine wpG_take preGr (i := 25) (v := ?_) (by kernel_rfl) (some 42) (by kernel_rfl) rfl (by kernel_rfl) (by kernel_rfl) (by kernel_rfl) (fun _ _ _ h => h) (by rfl) (fun w' hw' => ?_) rfl ?_
            rotate_left
            · try have g0 := cell_gr ((Gr.drew wr).trans hw') HC0.out
              try have g1 := cell_gr ((Gr.drew wr).trans hw') HC1.out
              try have g2 := cell_gr ((Gr.drew wr).trans hw') HD0.out
              try have g3 := cell_gr ((Gr.drew wr).trans hw') HD1.out
              try have g4 := S1.out _ ((Gr.drew wr).trans hw')
              try have g5 := S2.out _ ((Gr.drew wr).trans hw')
              go_simp
              with_reducible rfl
            simp only [Act.put, List.setIfInBounds_toArray, List.set_cons_zero, List.set_cons_succ]
            refine wpG_done (by kernel_rfl) ?_ _
            go_wp2
            go_roundw
            case rel =>
              have HA2 := HA1.out
              first | exact ⟨k + 1, by omega, by go_num, HA2, HB.out.drew⟩ | ((repeat apply Exists.intro); exact ⟨⟨k + 1, by omega, by go_num, HA2, HB.out.drew⟩, rfl⟩)
            case measure => simp [intOf]; omega
          · have HN := Lib.hid (HNK.out (decide_eq_false fun e => hxy (congrArg Prod.snd e)))
            have hxy2 := str_ne hxy
            clear HNK HK hxy
            go_upto_region 6 with fail
            refine wp_region_G 26 Gr (by kernel_rfl) ?_
            -- 0: slot 17
            refine wpG_take preGr (i := 0) (v := ?_) (by kernel_rfl) (some 17) (by kernel_rfl) rfl (by kernel_rfl) (by kernel_rfl) (by kernel_rfl) (fun _ _ _ h => h) (by rfl) (fun w' hw' => ?_) rfl ?_
            rotate_left
            · try have g0 := cell_gr ((Gr.drew wr).trans hw') HC0.out
              try have g1 := cell_gr ((Gr.drew wr).trans hw') HC1.out
              try have g2 := cell_gr ((Gr.drew wr).trans hw') HD0.out
              try have g3 := cell_gr ((Gr.drew wr).trans hw') HD1.out
              try have g4 := S1.out _ ((Gr.drew wr).trans hw')
              try have g5 := S2.out _ ((Gr.drew wr).trans hw')
              go_simp
              with_reducible rfl
            simp only [Act.put, List.setIfInBounds_toArray, List.set_cons_zero, List.set_cons_succ]
            -- 1: slot 18
            refine wpG_take preGr (i := 1) (v := ?_) (by kernel_rfl) (some 18) (by kernel_rfl) rfl (by kernel_rfl) (by kernel_rfl) (by kernel_rfl) (fun _ _ _ h => h) (by rfl) (fun w' hw' => ?_) rfl ?_
            rotate_left
            · try have g0 := cell_gr ((Gr.drew wr).trans hw') HC0.out
              try have g1 := cell_gr ((Gr.drew wr).trans hw') HC1.out
              try have g2 := cell_gr ((Gr.drew wr).trans hw') HD0.out
              try have g3 := cell_gr ((Gr.drew wr).trans hw') HD1.out
              try have g4 := S1.out _ ((Gr.drew wr).trans hw')
              try have g5 := S2.out _ ((Gr.drew wr).trans hw')
              go_simp
              with_reducible rfl
            simp only [Act.put, List.setIfInBounds_toArray, List.set_cons_zero, List.set_cons_succ]
            -- 2: slot 19
            refine wpG_take preGr (i := 2) (v := ?_) (by kernel_rfl) (some 19) (by kernel_rfl) rfl (by kernel_rfl) (by kernel_rfl) (by kernel_rfl) (fun _ _ _ h => h) (by rfl) (fun w' hw' => ?_) rfl ?_
            rotate_left
            · try have g0 := cell_gr ((Gr.drew wr).trans hw') HC0.out
              try have g1 := cell_gr ((Gr.drew wr).trans hw') HC1.out
              try have g2 := cell_gr ((Gr.drew wr).trans hw') HD0.out
              try have g3 := cell_gr ((Gr.drew wr).trans hw') HD1.out
              try have g4 := S1.out _ ((Gr.drew wr).trans hw')
              try have g5 := S2.out _ ((Gr.drew wr).trans hw')
              go_simp
              with_reducible rfl
            simp only [Act.put, List.setIfInBounds_toArray, List.set_cons_zero, List.set_cons_succ]
            -- 3: slot 20
            refine wpG_take preGr (i := 3) (v := ?_) (by kernel_rfl) (some 20) (by kernel_rfl) rfl (by kernel_rfl) (by kernel_rfl) (by kernel_rfl) (fun _ _ _ h => h) (by rfl) (fun w' hw' => ?_) rfl ?_
            rotate_left
            · try have g0 := cell_gr ((Gr.drew wr).trans hw') HC0.out
              try have g1 := cell_gr ((Gr.drew wr).trans hw') HC1.out
              try have g2 := cell_gr ((Gr.drew wr).trans hw') HD0.out
              try have g3 := cell_gr ((Gr.drew wr).trans hw') HD1.out
              try have g4 := S1.out _ ((Gr.drew wr).trans hw')
              try have g5 := S2.out _ ((Gr.drew wr).trans hw')
              go_simp
              with_reducible rfl
            simp only [Act.put, List.setIfInBounds_toArray, List.set_cons_zero, List.set_cons_succ]
            -- 4: slot 21
            refine wpG_take preGr (i := 4) (v := ?_) (by kernel_rfl) (some 21) (by kernel_rfl) rfl (by kernel_rfl) (by kernel_rfl) (by kernel_rfl) (fun _ _ _ h => h) (by rfl) (fun w' hw' => ?_) rfl ?_
            rotate_left
            · try have g0 := cell_gr ((Gr.drew wr).trans hw') HC0.out
              try have g1 := cell_gr ((Gr.drew wr).trans hw') HC1.out
              try have g2 := cell_gr ((Gr.drew wr).trans hw') HD0.out
              try have g3 := cell_gr ((Gr.drew wr).trans hw') HD1.out
              try have g4 := S1.out _ ((Gr.drew wr).trans hw')
              try have g5 := S2.out _ ((Gr.drew wr).trans hw')
              go_simp
              with_reducible rfl
            simp only [Act.put, List.setIfInBounds_toArray, List.set_cons_zero, List.set_cons_succ]
            -- 5: slot 22
            refine wpG_take preGr (i := 5) (v := ?_) (by kernel_rfl) (some 22) (by kernel_rfl) rfl (by kernel_rfl) (by kernel_rfl) (by kernel_rfl) (fun _ _ _ h => h) (by rfl) (fun w' hw' => ?_) rfl ?_
            rotate_left
            · try have g0 := cell_gr ((Gr.drew wr).trans hw') HC0.out
              try have g1 := cell_gr ((Gr.drew wr).trans hw') HC1.out
              try have g2 := cell_gr ((Gr.drew wr).trans hw') HD0.out
              try have g3 := cell_gr ((Gr.drew wr).trans hw') HD1.out
              try have g4 := S1.out _ ((Gr.drew wr).trans hw')
              try have g5 := S2.out _ ((Gr.drew wr).trans hw')
              go_simp
              with_reducible rfl
            simp only [Act.put, List.setIfInBounds_toArray, List.set_cons_zero, List.set_cons_succ]
            -- 6: slot 23
            refine wpG_take preGr (i := 6) (v := ?_) (by kernel_rfl) (some 23) (by kernel_rfl) rfl (by kernel_rfl) (by kernel_rfl) (by kernel_rfl) (fun _ _ _ h => h) (by rfl) (fun w' hw' => ?_) rfl ?_
            rotate_left
            · try have g0 := cell_gr ((Gr.drew wr).trans hw') HC0.out
              try have g1 := cell_gr ((Gr.drew wr).trans hw') HC1.out
              try have g2 := cell_gr ((Gr.drew wr).trans hw') HD0.out
              try have g3 := cell_gr ((Gr.drew wr).trans hw') HD1.out
              try have g4 := S1.out _ ((Gr.drew wr).trans hw')
              try have g5 := S2.out _ ((Gr.drew wr).trans hw')
              go_simp
              with_reducible rfl
            simp only [Act.put, List.setIfInBounds_toArray, List.set_cons_zero, List.set_cons_succ]
            -- 7: slot 24
            refine wpG_take preGr (i := 7) (v := ?_) (by kernel_rfl) (some 24) (by kernel_rfl) rfl (by kernel_rfl) (by kernel_rfl) (by kernel_rfl) (fun _ _ _ h => h) (by rfl) (fun w' hw' => ?_) rfl ?_
            rotate_left
            · try have g0 := cell_gr ((Gr.drew wr).trans hw') HC0.out
              try have g1 := cell_gr ((Gr.drew wr).trans hw') HC1.out
              try have g2 := cell_gr ((Gr.drew wr).trans hw') HD0.out
              try have g3 := cell_gr ((Gr.drew wr).trans hw') HD1.out
              try have g4 := S1.out _ ((Gr.drew wr).trans hw')
              try have g5 := S2.out _ ((Gr.drew wr).trans hw')
              go_simp
              with_reducible rfl
            simp only [Act.put, List.setIfInBounds_toArray, List.set_cons_zero, List.set_cons_succ]
            -- 8: slot 25
            refine wpG_take preGr (i := 8) (v := ?_) (by kernel_rfl) (some 25) (by kernel_rfl) rfl (by kernel_rfl) (by kernel_rfl) (by kernel_rfl) (fun _ _ _ h => h) (by rfl) (fun w' hw' => ?_) rfl ?_
            rotate_left
            · try have g0 := cell_gr ((Gr.drew wr).trans hw') HC0.out
              try have g1 := cell_gr ((Gr.drew wr).trans hw') HC1.out
              try have g2 := cell_gr ((Gr.drew wr).trans hw') HD0.out
              try have g3 := cell_gr ((Gr.drew wr).trans hw') HD1.out
              try have g4 := S1.out _ ((Gr.drew wr).trans hw')
              try have g5 := S2.out _ ((Gr.drew wr).trans hw')
              go_simp
              with_reducible rfl
            simp only [Act.put, List.setIfInBounds_toArray, List.set_cons_zero, List.set_cons_succ]
            -- 9: slot 26
            refine wpG_take preGr (i := 9) (v := ?_) (by kernel_rfl) (some 26) (by kernel_rfl) rfl (by kernel_rfl) (by kernel_rfl) (by kernel_rfl) (fun _ _ _ h => h) (by rfl) (fun w' hw' => ?_) rfl ?_
            rotate_left
            · try have g0 := cell_gr ((Gr.drew wr).trans hw') HC0.out
              try have g1 := cell_gr ((Gr.drew wr).trans hw') HC1.out
              try have g2 := cell_gr ((Gr.drew wr).trans hw') HD0.out
              try have g3 := cell_gr ((Gr.drew wr).trans hw') HD1.out
              try have g4 := S1.out _ ((Gr.drew wr).trans hw')
              try have g5 := S2.out _ ((Gr.drew wr).trans hw')
              go_simp
              with_reducible rfl
            simp only [Act.put, List.setIfInBounds_toArray, List.set_cons_zero, List.set_cons_succ]
            -- 10: slot 27
            refine wpG_take preGr (i := 10) (v := ?_) (by kernel_rfl) (some 27) (by kernel_rfl) rfl (by kernel_rfl) (by kernel_rfl) (by kernel_rfl) (fun _ _ _ h => h) (by rfl) (fun w' hw' => ?_) rfl ?_
            rotate_left
            · try have g0 := cell_gr ((Gr.drew wr).trans hw') HC0.out
              try have g1 := cell_gr ((Gr.drew wr).trans hw') HC1.out
              try have g2 := cell_gr ((Gr.drew wr).trans hw') HD0.out
              try have g3 := cell_gr ((Gr.drew wr).trans hw') HD1.out
              try have g4 := S1.out _ ((Gr.drew wr).trans hw')
              try have g5 := S2.out _ ((Gr.drew wr).trans hw')
              go_simp
              with_reducible rfl
            simp only [Act.put, List.setIfInBounds_toArray, List.set_cons_zero, List.set_cons_succ]
            -- 11: slot 28
            refine wpG_take preGr (i := 11) (v := ?_) (by kernel_rfl) (some 28) (by kernel_rfl) rfl (by kernel_rfl) (by kernel_rfl) (by kernel_rfl) (fun _ _ _ h => h) (by rfl) (fun w' hw' => ?_) rfl ?_
            rotate_left
            · try have g0 := cell_gr ((Gr.drew wr).trans hw') HC0.out
              try have g1 := cell_gr ((Gr.drew wr).trans hw') HC1.out
              try have g2 := cell_gr ((Gr.drew wr).trans hw') HD0.out
              try have g3 := cell_gr ((Gr.drew wr).trans hw') HD1.out
              try have g4 := S1.out _ ((Gr.drew wr).trans hw')
              try have g5 := S2.out _ ((Gr.drew wr).trans hw')
              go_simp
              with_reducible rfl
            simp only [Act.put, List.setIfInBounds_toArray, List.set_cons_zero, List.set_cons_succ]
            -- 12: slot 29
            refine wpG_take preGr (i := 12) (v := ?_) (by kernel_rfl) (some 29) (by kernel_rfl) rfl (by kernel_rfl) (by kernel_rfl) (by kernel_rfl) (fun _ _ _ h => h) (by rfl) (fun w' hw' => ?_) rfl ?_
            rotate_left
            · try have g0 := cell_gr ((Gr.drew wr).trans hw') HC0.out
              try have g1 := cell_gr ((Gr.drew wr).trans hw') HC1.out
              try have g2 := cell_gr ((Gr.drew wr).trans hw') HD0.out
              try have g3 := cell_gr ((Gr.drew wr).trans hw') HD1.out
              try have g4 := S1.out _ ((Gr.drew wr).trans hw')
              try have g5 := S2.out _ ((Gr.drew wr).trans hw')
              go_simp
              with_reducible rfl
            simp only [Act.put, List.setIfInBounds_toArray, List.set_cons_zero, List.set_cons_succ]
            -- 13: slot 30
            refine wpG_take preGr (i := 13) (v := ?_) (by kernel_rfl) (some 30) (by kernel_rfl) rfl (by kernel_rfl) (by kernel_rfl) (by kernel_rfl) (fun _ _ _ h => h) (by rfl) (fun w' hw' => ?_) rfl ?_
            rotate_left
            · try have g0 := cell_gr ((Gr.drew wr).trans hw') HC0.out
              try have g1 := cell_gr ((Gr.drew wr).trans hw') HC1.out
              try have g2 := cell_gr ((Gr.drew wr).trans hw') HD0.out
              try have g3 := cell_gr ((Gr.drew wr).trans hw') HD1.out
              try have g4 := S1.out _ ((Gr.drew wr).trans hw')
              try have g5 := S2.out _ ((Gr.drew wr).trans hw')
              go_simp
              with_reducible rfl
            simp only [Act.put, List.setIfInBounds_toArray, List.set_cons_zero, List.set_cons_succ]
            -- 14: slot 31
            refine wpG_take preGr (i := 14) (v := ?_) (by kernel_rfl) (some 31) (by kernel_rfl) rfl (by kernel_rfl) (by kernel_rfl) (by kernel_rfl) (fun _ _ _ h => h) (by rfl) (fun w' hw' => ?_) rfl ?_
            rotate_left
            · try have g0 := cell_gr ((Gr.drew wr).trans hw') HC0.out
              try have g1 := cell_gr ((Gr.drew wr).trans hw') HC1.out
              try have g2 := cell_gr ((Gr.drew wr).trans hw') HD0.out
              try have g3 := cell_gr ((Gr.drew wr).trans hw') HD1.out
              try have g4 := S1.out _ ((Gr.drew wr).trans hw')
              try have g5 := S2.out _ ((Gr.drew wr).trans hw')
              go_simp
              with_reducible rfl
            simp only [Act.put, List.setIfInBounds_toArray, List.set_cons_zero, List.set_cons_succ]
            -- 15: slot 32
            refine wpG_take preGr (i := 15) (v := ?_) (by kernel_rfl) (some 32) (by kernel_rfl) rfl (by kernel_rfl) (by kernel_rfl) (by kernel_rfl) (fun _ _ _ h => h) (by rfl) (fun w' hw' => ?_) rfl ?_
            rotate_left
            · try have g0 := cell_gr ((Gr.drew wr).trans hw') HC0.out
              try have g1 := cell_gr ((Gr.drew wr).trans hw') HC1.out
              try have g2 := cell_gr ((Gr.drew wr).trans hw') HD0.out
              try have g3 := cell_gr ((Gr.drew wr).trans hw') HD1.out
              try have g4 := S1.out _ ((Gr.drew wr).trans hw')
              try have g5 := S2.out _ ((Gr.drew wr).trans hw')
              go_simp
              with_reducible rfl
            simp only [Act.put, List.setIfInBounds_toArray, List.set_cons_zero, List.set_cons_succ]
            -- 16: slot 33
            refine wpG_take preGr (i := 16) (v := ?_) (by kernel_rfl) (some 33) (by kernel_rfl) rfl (by kernel_rfl) (by kernel_rfl) (by kernel_rfl) (fun _ _ _ h => h) (by rfl) (fun w' hw' => ?_) rfl ?_
            rotate_left
            · try have g0 := cell_gr ((Gr.drew wr).trans hw') HC0.out
              try have g1 := cell_gr ((Gr.drew wr).trans hw') HC1.out
              try have g2 := cell_gr ((Gr.drew wr).trans hw') HD0.out
              try have g3 := cell_gr ((Gr.drew wr).trans hw') HD1.out
              try have g4 := S1.out _ ((Gr.drew wr).trans hw')
              try have g5 := S2.out _ ((Gr.drew wr).trans hw')
              go_simp
              with_reducible rfl
            simp only [Act.put, List.setIfInBounds_toArray, List.set_cons_zero, List.set_cons_succ]
            -- 17: slot 34
            refine wpG_take preGr (i := 17) (v := ?_) (by kernel_rfl) (some 34) (by kernel_rfl) rfl (by kernel_rfl) (by kernel_rfl) (by kernel_rfl) (fun _ _ _ h => h) (by rfl) (fun w' hw' => ?_) rfl ?_
            rotate_left
            · try have g0 := cell_gr ((Gr.drew wr).trans hw') HC0.out
              try have g1 := cell_gr ((Gr.drew wr).trans hw') HC1.out
              try have g2 := cell_gr ((Gr.drew wr).trans hw') HD0.out
              try have g3 := cell_gr ((Gr.drew wr).trans hw') HD1.out
              try have g4 := S1.out _ ((Gr.drew wr).trans hw')
              try have g5 := S2.out _ ((Gr.drew wr).trans hw')
              go_simp
              with_reducible rfl
            simp only [Act.put, List.setIfInBounds_toArray, List.set_cons_zero, List.set_cons_succ]
            -- 18: slot 35
            refine wpG_take preGr (i := 18) (v := ?_) (by kernel_rfl) (some 35) (by kernel_rfl) rfl (by kernel_rfl) (by kernel_rfl) (by kernel_rfl) (fun _ _ _ h => h) (by rfl) (fun w' hw' => ?_) rfl ?_
            rotate_left
            · try have g0 := cell_gr ((Gr.drew wr).trans hw') HC0.out
              try have g1 := cell_gr ((Gr.drew wr).trans hw') HC1.out
              try have g2 := cell_gr ((Gr.drew wr).trans hw') HD0.out
              try have g3 := cell_gr ((Gr.drew wr).trans hw') HD1.out
              try have g4 := S1.out _ ((Gr.drew wr).trans hw')
              try have g5 := S2.out _ ((Gr.drew wr).trans hw')
              go_simp
              with_reducible rfl
            simp only [Act.put, List.setIfInBounds_toArray, List.set_cons_zero, List.set_cons_succ]
            -- 19: slot 36
            refine wpG_take preGr (i := 19) (v := ?_) (by kernel_rfl) (some 36) (by kernel_rfl) rfl (by kernel_rfl) (by kernel_rfl) (by kernel_rfl) (fun _ _ _ h => h) (by rfl) (fun w' hw' => ?_) rfl ?_
            rotate_left
            · try have g0 := cell_gr ((Gr.drew wr).trans hw') HC0.out
              try have g1 := cell_gr ((Gr.drew wr).trans hw') HC1.out
              try have g2 := cell_gr ((Gr.drew wr).trans hw') HD0.out
              try have g3 := cell_gr ((Gr.drew wr).trans hw') HD1.out
              try have g4 := S1.out _ ((Gr.drew wr).trans hw')
              try have g5 := S2.out _ ((Gr.drew wr).trans hw')
              go_simp
              with_reducible rfl
            simp only [Act.put, List.setIfInBounds_toArray, List.set_cons_zero, List.set_cons_succ]
            -- 20: slot 37
            refine wpG_take preGr (i := 20) (v := ?_) (by kernel_rfl) (some 37) (by kernel_rfl) rfl (by kernel_rfl) (by kernel_rfl) (by kernel_rfl) (fun _ _ _ h => h) (by rfl) (fun w' hw' => ?_) rfl ?_
            rotate_left
            · try have g0 := cell_gr ((Gr.drew wr).trans hw') HC0.out
              try have g1 := cell_gr ((Gr.drew wr).trans hw') HC1.out
              try have g2 := cell_gr ((Gr.drew wr).trans hw') HD0.out
              try have g3 := cell_gr ((Gr.drew wr).trans hw') HD1.out
              try have g4 := S1.out _ ((Gr.drew wr).trans hw')
              try have g5 := S2.out _ ((Gr.drew wr).trans hw')
              go_simp
              with_reducible rfl
            simp only [Act.put, List.setIfInBounds_toArray, List.set_cons_zero, List.set_cons_succ]
            -- 21: slot 38
            refine wpG_take preGr (i := 21) (v := ?_) (by kernel_rfl) (some 38) (by kernel_rfl) rfl (by kernel_rfl) (by kernel_rfl) (by kernel_rfl) (fun _ _ _ h => h) (by rfl) (fun w' hw' => ?_) rfl ?_
            rotate_left
            · try have g0 := cell_gr ((Gr.drew wr).trans hw') HC0.out
              try have g1 := cell_gr ((Gr.drew wr).trans hw') HC1.out
              try have g2 := cell_gr ((Gr.drew wr).trans hw') HD0.out
              try have g3 := cell_gr ((Gr.drew wr).trans hw') HD1.out
              try have g4 := S1.out _ ((Gr.drew wr).trans hw')
              try have g5 := S2.out _ ((Gr.drew wr).trans hw')
              go_simp
              with_reducible rfl
            simp only [Act.put, List.setIfInBounds_toArray, List.set_cons_zero, List.set_cons_succ]
            -- 22: slot 39
            refine wpG_take preGr (i := 22) (v := ?_) (by kernel_rfl) (some 39) (by kernel_rfl) rfl (by kernel_rfl) (by kernel_rfl) (by kernel_rfl) (fun _ _ _ h => h) (by rfl) (fun w' hw' => ?_) rfl ?_
            rotate_left
            · try have g0 := cell_gr ((Gr.drew wr).trans hw') HC0.out
              try have g1 := cell_gr ((Gr.drew wr).trans hw') HC1.out
              try have g2 := cell_gr ((Gr.drew wr).trans hw') HD0.out
              try have g3 := cell_gr ((Gr.drew wr).trans hw') HD1.out
              try have g4 := S1.out _ ((Gr.drew wr).trans hw')
              try have g5 := S2.out _ ((Gr.drew wr).trans hw')
              go_simp
              with_reducible rfl
            simp only [Act.put, List.setIfInBounds_toArray, List.set_cons_zero, List.set_cons_succ]
            -- 23: slot 40
            refine wpG_take preGr (i := 23) (v := ?_) (by kernel_rfl) (some 40) (by kernel_rfl) rfl (by kernel_rfl) (by kernel_rfl) (by kernel_rfl) (fun _ _ _ h => h) (by rfl) (fun w' hw' => ?_) rfl ?_
            rotate_left
            · try have g0 := cell_gr ((Gr.drew wr).trans hw') HC0.out
              try have g1 := cell_gr ((Gr.drew wr).trans hw') HC1.out
              try have g2 := cell_gr ((Gr.drew wr).trans hw') HD0.out
              try have g3 := cell_gr ((Gr.drew wr).trans hw') HD1.out
              try have g4 := S1.out _ ((Gr.drew wr).trans hw')
              try have g5 := S2.out _ ((Gr.drew wr).trans hw')
              go_simp
              with_reducible rfl
            simp only [Act.put, List.setIfInBounds_toArray, List.set_cons_zero, List.set_cons_succ]
            -- 24: slot 41
            refine wpG_take preGr (i := 24) (v := ?_) (by kernel_rfl) (some 41) (by kernel_rfl) rfl (by kernel_rfl) (by kernel_rfl) (by kernel_rfl) (fun _ _ _ h => h) (by rfl) (fun w' hw' => ?_) rfl ?_
            rotate_left
            · try have g0 := cell_gr ((Gr.drew wr).trans hw') HC0.out
              try have g1 := cell_gr ((Gr.drew wr).trans hw') HC1.out
              try have g2 := cell_gr ((Gr.drew wr).trans hw') HD0.out
              try have g3 := cell_gr ((Gr.drew wr).trans hw') HD1.out
              try have g4 := S1.out _ ((Gr.drew wr).trans hw')
              try have g5 := S2.out _ ((Gr.drew wr).trans hw')
              go_simp
              with_reducible rfl
            simp only [Act.put, List.setIfInBounds_toArray, List.set_cons_zero, List.set_cons_succ]
            -- 25: slot 42
            refine wpG_take preGr (i := 25) (v := ?_) (by kernel_rfl) (some 42) (by kernel_rfl) rfl (by kernel_rfl) (by kernel_rfl) (by kernel_rfl) (fun _ _ _ h => h) (by rfl) (fun w' hw' => ?_) rfl ?_
            rotate_left
            · try have g0 := cell_gr ((Gr.drew wr).trans hw') HC0.out
              try have g1 := cell_gr ((Gr.drew wr).trans hw') HC1.out
              try have g2 := cell_gr ((Gr.drew wr).trans hw') HD0.out
              try have g3 := cell_gr ((Gr.drew wr).trans hw') HD1.out
              try have g4 := S1.out _ ((Gr.drew wr).trans hw')
              try have g5 := S2.out _ ((Gr.drew wr).trans hw')
              go_simp
              with_reducible rfl
            simp only [Act.put, List.setIfInBounds_toArray, List.set_cons_zero, List.set_cons_succ]
            refine wpG_done (by kernel_rfl) ?_ _
            go_wp2
            go_ret
            exact ⟨by rw [HN.out]; rfl, HB.out.drew⟩
        · have HN := Lib.hid (HNK.out (decide_eq_false fun e => hT (congrArg Prod.fst e)))
          have hT2 : (T != U) = true := by rw [bne_iff_ne]; exact hT
          clear HNK HK hT
          go_upto_region 6 with fail
          refine wp_region_G 26 Gr (by kernel_rfl) ?_
          -- 0: slot 17
          refine wpG_take preGr (i := 0) (v := ?_) (by kernel_rfl) (some 17) (by kernel_rfl) rfl (by kernel_rfl) (by kernel_rfl) (by kernel_rfl) (fun _ _ _ h => h) (by rfl) (fun w' hw' => ?_) rfl ?_
          rotate_left
          · try have g0 := cell_gr ((Gr.drew wr).trans hw') HC0.out
            try have g1 := cell_gr ((Gr.drew wr).trans hw') HC1.out
            try have g2 := cell_gr ((Gr.drew wr).trans hw') HD0.out
            try have g3 := cell_gr ((Gr.drew wr).trans hw') HD1.out
            go_simp
            with_reducible rfl
          simp only [Act.put, List.setIfInBounds_toArray, List.set_cons_zero, List.set_cons_succ]
          -- 1: slot 18
          refine wpG_take preGr (i := 1) (v := ?_) (by kernel_rfl) (some 18) (by kernel_rfl) rfl (by kernel_rfl) (by kernel_rfl) (by kernel_rfl) (fun _ _ _ h => h) (by rfl) (fun w' hw' => ?_) rfl ?_
          rotate_left
          · try have g0 := cell_gr ((Gr.drew wr).trans hw') HC0.out
            try have g1 := cell_gr ((Gr.drew wr).trans hw') HC1.out
            try have g2 := cell_gr ((Gr.drew wr).trans hw') HD0.out
            try have g3 := cell_gr ((Gr.drew wr).trans hw') HD1.out
            go_simp
            with_reducible rfl
          simp only [Act.put, List.setIfInBounds_toArray, List.set_cons_zero, List.set_cons_succ]
          -- 2: slot 19
          refine wpG_take preGr (i := 2) (v := ?_) (by kernel_rfl) (some 19) (by kernel_rfl) rfl (by kernel_rfl) (by kernel_rfl) (by kernel_rfl) (fun _ _ _ h => h) (by rfl) (fun w' hw' => ?_) rfl ?_
          rotate_left
          · try have g0 := cell_gr ((Gr.drew wr).trans hw') HC0.out
            try have g1 := cell_gr ((Gr.drew wr).trans hw') HC1.out
            try have g2 := cell_gr ((Gr.drew wr).trans hw') HD0.out
            try have g3 := cell_gr ((Gr.drew wr).trans hw') HD1.out
            go_simp
            with_reducible rfl
          simp only [Act.put, List.setIfInBounds_toArray, List.set_cons_zero, List.set_cons_succ]
          -- 3: slot 20
          refine wpG_take preGr (i := 3) (v := ?_) (by kernel_rfl) (some 20) (by kernel_rfl) rfl (by kernel_rfl) (by kernel_rfl) (by kernel_rfl) (fun _ _ _ h => h) (by rfl) (fun w' hw' => ?_) rfl ?_
          rotate_left
          · try have g0 := cell_gr ((Gr.drew wr).trans hw') HC0.out
            try have g1 := cell_gr ((Gr.drew wr).trans hw') HC1.out
            try have g2 := cell_gr ((Gr.drew wr).trans hw') HD0.out
            try have g3 := cell_gr ((Gr.drew wr).trans hw') HD1.out
            go_simp
            with_reducible rfl
          simp only [Act.put, List.setIfInBounds_toArray, List.set_cons_zero, List.set_cons_succ]
          -- 4: slot 21
          refine wpG_take preGr (i := 4) (v := ?_) (by kernel_rfl) (some 21) (by kernel_rfl) rfl (by kernel_rfl) (by kernel_rfl) (by kernel_rfl) (fun _ _ _ h => h) (by rfl) (fun w' hw' => ?_) rfl ?_
          rotate_left
          · try have g0 := cell_gr ((Gr.drew wr).trans hw') HC0.out
            try have g1 := cell_gr ((Gr.drew wr).trans hw') HC1.out
            try have g2 := cell_gr ((Gr.drew wr).trans hw') HD0.out
            try have g3 := cell_gr ((Gr.drew wr).trans hw') HD1.out
            go_simp
            with_reducible rfl
          simp only [Act.put, List.setIfInBounds_toArray, List.set_cons_zero, List.set_cons_succ]
          -- 5: slot 22
          refine wpG_take preGr (i := 5) (v := ?_) (by kernel_rfl) (some 22) (by kernel_rfl) rfl (by kernel_rfl) (by kernel_rfl) (by kernel_rfl) (fun _ _ _ h => h) (by rfl) (fun w' hw' => ?_) rfl ?_
          rotate_left
          · try have g0 := cell_gr ((Gr.drew wr).trans hw') HC0.out
            try have g1 := cell_gr ((Gr.drew wr).trans hw') HC1.out
            try have g2 := cell_gr ((Gr.drew wr).trans hw') HD0.out
            try have g3 := cell_gr ((Gr.drew wr).trans hw') HD1.out
            go_simp
            with_reducible rfl
          simp only [Act.put, List.setIfInBounds_toArray, List.set_cons_zero, List.set_cons_succ]
          -- 6: slot 23
          refine wpG_take preGr (i := 6) (v := ?_) (by kernel_rfl) (some 23) (by kernel_rfl) rfl (by kernel_rfl) (by kernel_rfl) (by kernel_rfl) (fun _ _ _ h => h) (by rfl) (fun w' hw' => ?_) rfl ?_
          rotate_left
          · try have g0 := cell_gr ((Gr.drew wr).trans hw') HC0.out
            try have g1 := cell_gr ((Gr.drew wr).trans hw') HC1.out
            try have g2 := cell_gr ((Gr.drew wr).trans hw') HD0.out
            try have g3 := cell_gr ((Gr.drew wr).trans hw') HD1.out
            go_simp
            with_reducible rfl
          simp only [Act.put, List.setIfInBounds_toArray, List.set_cons_zero, List.set_cons_succ]
          -- 7: slot 24
          refine wpG_take preGr (i := 7) (v := ?_) (by kernel_rfl) (some 24) (by kernel_rfl) rfl (by kernel_rfl) (by kernel_rfl) (by kernel_rfl) (fun _ _ _ h => h) (by rfl) (fun w' hw' => ?_) rfl ?_
          rotate_left
          · try have g0 := cell_gr ((Gr.drew wr).trans hw') HC0.out
            try have g1 := cell_gr ((Gr.drew wr).trans hw') HC1.out
            try have g2 := cell_gr ((Gr.drew wr).trans hw') HD0.out
            try have g3 := cell_gr ((Gr.drew wr).trans hw') HD1.out
            go_simp
            with_reducible rfl
          simp only [Act.put, List.setIfInBounds_toArray, List.set_cons_zero, List.set_cons_succ]
          -- 8: slot 25
          refine wpG_take preGr (i := 8) (v := ?_) (by kernel_rfl) (some 25) (by kernel_rfl) rfl (by kernel_rfl) (by kernel_rfl) (by kernel_rfl) (fun _ _ _ h => h) (by rfl) (fun w' hw' => ?_) rfl ?_
          rotate_left
          · try have g0 := cell_gr ((Gr.drew wr).trans hw') HC0.out
            try have g1 := cell_gr ((Gr.drew wr).trans hw') HC1.out
            try have g2 := cell_gr ((Gr.drew wr).trans hw') HD0.out
            try have g3 := cell_gr ((Gr.drew wr).trans hw') HD1.out
            go_simp
            with_reducible rfl
          simp only [Act.put, List.setIfInBounds_toArray, List.set_cons_zero, List.set_cons_succ]
          -- 9: slot 26
          refine wpG_take preGr (i := 9) (v := ?_) (by kernel_rfl) (some 26) (by kernel_rfl) rfl (by kernel_rfl) (by kernel_rfl) (by kernel_rfl) (fun _ _ _ h => h) (by rfl) (fun w' hw' => ?_) rfl ?_
          rotate_left
          · try have g0 := cell_gr ((Gr.drew wr).trans hw') HC0.out
            try have g1 := cell_gr ((Gr.drew wr).trans hw') HC1.out
            try have g2 := cell_gr ((Gr.drew wr).trans hw') HD0.out
            try have g3 := cell_gr ((Gr.drew wr).trans hw') HD1.out
            go_simp
            with_reducible rfl
          simp only [Act.put, List.setIfInBounds_toArray, List.set_cons_zero, List.set_cons_succ]
          -- 10: slot 27
          refine wpG_take preGr (i := 10) (v := ?_) (by kernel_rfl) (some 27) (by kernel_rfl) rfl (by kernel_rfl) (by kernel_rfl) (by kernel_rfl) (fun _ _ _ h => h) (by rfl) (fun w' hw' => ?_) rfl ?_
          rotate_left
          · try have g0 := cell_gr ((Gr.drew wr).trans hw') HC0.out
            try have g1 := cell_gr ((Gr.drew wr).trans hw') HC1.out
            try have g2 := cell_gr ((Gr.drew wr).trans hw') HD0.out
            try have g3 := cell_gr ((Gr.drew wr).trans hw') HD1.out
            go_simp
            with_reducible rfl
          simp only [Act.put, List.setIfInBounds_toArray, List.set_cons_zero, List.set_cons_succ]
          -- 11: slot 28
          refine wpG_take preGr (i := 11) (v := ?_) (by kernel_rfl) (some 28) (by kernel_rfl) rfl (by kernel_rfl) (by kernel_rfl) (by kernel_rfl) (fun _ _ _ h => h) (by rfl) (fun w' hw' => ?_) rfl ?_
          rotate_left
          · try have g0 := cell_gr ((Gr.drew wr).trans hw') HC0.out
            try have g1 := cell_gr ((Gr.drew wr).trans hw') HC1.out
            try have g2 := cell_gr ((Gr.drew wr).trans hw') HD0.out
            try have g3 := cell_gr ((Gr.drew wr).trans hw') HD1.out
            go_simp
            with_reducible rfl
          simp only [Act.put, List.setIfInBounds_toArray, List.set_cons_zero, List.set_cons_succ]
          refine wpG_pass preGr (i := 12) (by kernel_rfl) (some 29) (by kernel_rfl) rfl (by kernel_rfl) (by kernel_rfl) (by kernel_rfl) (fun _ _ _ h => h) (by rfl) rfl ?_
          simp only [Act.put, List.setIfInBounds_toArray, List.set_cons_zero, List.set_cons_succ]
          refine wpG_pass preGr (i := 13) (by kernel_rfl) (some 30) (by kernel_rfl) rfl (by kernel_rfl) (by kernel_rfl) (by kernel_rfl) (fun _ _ _ h => h) (by rfl) rfl ?_
          simp only [Act.put, List.setIfInBounds_toArray, List.set_cons_zero, List.set_cons_succ]
          refine wpG_pass preGr (i := 14) (by kernel_rfl) (some 31) (by kernel_rfl) rfl (by kernel_rfl) (by kernel_rfl) (by kernel_rfl) (fun _ _ _ h => h) (by rfl) rfl ?_
          simp only [Act.put, List.setIfInBounds_toArray, List.set_cons_zero, List.set_cons_succ]
          refine wpG_pass preGr (i := 15) (by kernel_rfl) (some 32) (by kernel_rfl) rfl (by kernel_rfl) (by kernel_rfl) (by kernel_rfl) (fun _ _ _ h => h) (by rfl) rfl ?_
          simp only [Act.put, List.setIfInBounds_toArray, List.set_cons_zero, List.set_cons_succ]
          refine wpG_pass preGr (i := 16) (by kernel_rfl) (some 33) (by kernel_rfl) rfl (by kernel_rfl) (by kernel_rfl) (by kernel_rfl) (fun _ _ _ h => h) (by rfl) rfl ?_
          simp only [Act.put, List.setIfInBounds_toArray, List.set_cons_zero, List.set_cons_succ]
          refine wpG_pass preGr (i := 17) (by kernel_rfl) (some 34) (by kernel_rfl) rfl (by kernel_rfl) (by kernel_rfl) (by kernel_rfl) (fun _ _ _ h => h) (by rfl) rfl ?_
          simp only [Act.put, List.setIfInBounds_toArray, List.set_cons_zero, List.set_cons_succ]
          refine wpG_pass preGr (i := 18) (by kernel_rfl) (some 35) (by kernel_rfl) rfl (by kernel_rfl) (by kernel_rfl) (by kernel_rfl) (fun _ _ _ h => h) (by rfl) rfl ?_
          simp only [Act.put, List.setIfInBounds_toArray, List.set_cons_zero, List.set_cons_succ]
          refine wpG_pass preGr (i := 19) (by kernel_rfl) (some 36) (by kernel_rfl) rfl (by kernel_rfl) (by kernel_rfl) (by kernel_rfl) (fun _ _ _ h => h) (by rfl) rfl ?_
          simp only [Act.put, List.setIfInBounds_toArray, List.set_cons_zero, List.set_cons_succ]
          refine wpG_pass preGr (i := 20) (by kernel_rfl) (some 37) (by kernel_rfl) rfl (by kernel_rfl) (by kernel_rfl) (by kernel_rfl) (fun _ _ _ h => h) (by rfl) rfl ?_
          simp only [Act.put, List.setIfInBounds_toArray, List.set_cons_zero, List.set_cons_succ]
          refine wpG_pass preGr (i := 21) (by kernel_rfl) (some 38) (by kernel_rfl) rfl (by kernel_rfl) (by kernel_rfl) (by kernel_rfl) (fun _ _ _ h => h) (by rfl) rfl ?_
          simp only [Act.put, List.setIfInBounds_toArray, List.set_cons_zero, List.set_cons_succ]
          refine wpG_pass preGr (i := 22) (by kernel_rfl) (some 39) (by kernel_rfl) rfl (by kernel_rfl) (by kernel_rfl) (by kernel_rfl) (fun _ _ _ h => h) (by rfl) rfl ?_
          simp only [Act.put, List.setIfInBounds_toArray, List.set_cons_zero, List.set_cons_succ]
          refine wpG_pass preGr (i := 23) (by kernel_rfl) (some 40) (by kernel_rfl) rfl (by kernel_rfl) (by kernel_rfl) (by kernel_rfl) (fun _ _ _ h => h) (by rfl) rfl ?_
          simp only [Act.put, List.setIfInBounds_toArray, List.set_cons_zero, List.set_cons_succ]
          refine wpG_pass preGr (i := 24) (by kernel_rfl) (some 41) (by kernel_rfl) rfl (by kernel_rfl) (by kernel_rfl) (by kernel_rfl) (fun _ _ _ h => h) (by rfl) rfl ?_
          simp only [Act.put, List.setIfInBounds_toArray, List.set_cons_zero, List.set_cons_succ]
          -- 25: slot 42
          refine wpG_take preGr (i := 25) (v := ?_) (by kernel_rfl) (some 42) (by kernel_rfl) rfl (by kernel_rfl) (by kernel_rfl) (by kernel_rfl) (fun _ _ _ h => h) (by rfl) (fun w' hw' => ?_) rfl ?_
          rotate_left
          · try have g0 := cell_gr ((Gr.drew wr).trans hw') HC0.out
            try have g1 := cell_gr ((Gr.drew wr).trans hw') HC1.out
            try have g2 := cell_gr ((Gr.drew wr).trans hw') HD0.out
            try have g3 := cell_gr ((Gr.drew wr).trans hw') HD1.out
            go_simp
            with_reducible rfl
          simp only [Act.put, List.setIfInBounds_toArray, List.set_cons_zero, List.set_cons_succ]
          refine wpG_done (by kernel_rfl) ?_ _
          go_wp2
          go_ret
          exact ⟨by rw [HN.out]; rfl, HB.out.drew⟩
      · obtain rfl : k = n := by omega
        have HE := Lib.hid (decide_eq_true (HA.out.all (by omega) (by omega)))
        go_wp2
        go_ret
        exact ⟨by rw [HE.out]; rfl, HB.out⟩
  · have e : decide (plain ts = plain us) = false := decide_eq_false fun h => hnn (by have := plain_len h; omega)
    rw [e]
    have hne : ((n : Int) != (n' : Int)) = true := by rw [bne_iff_ne]; omega
    clear hr hs e hnn
    go_enter Try.func14, Try.ntmps14
    go_wp2
    go_ret
    exact ⟨rfl, Below.refl _ _⟩
theorem rules_any (a : Option Addr) (n c : Nat) (w : World) (hn : n ≤ c) (hc : c ≤ maxLen) :
    Calls Try.prog 9 #[.slice a n c] w fun e w' => e = .returned (.slice a (min n 18) c) ∧ w = w' := by
  unfold maxLen at hc
  by_cases h : n ≤ 18
  · have e : min n 18 = n := by omega
    rw [e]
    go_enter Try.func9, Try.ntmps9
    go_wp2
    go_ret
    exact ⟨rfl, rfl⟩
  · have e : min n 18 = 18 := by omega
    rw [e]
    go_enter Try.func9, Try.ntmps9
    go_wp2
    go_ret
    exact ⟨rfl, rfl⟩
/-- Not many more rules than there may be. -/
theorem rules_in {W : World} {a : Option Addr} {n c : Nat} {rs : List Ru} (b : RR W (.slice a n c) n rs) :
    ∃ (m : Nat) (rs' : List Ru), m ≤ 18 ∧ RR W (.slice a m c) m rs' ∧ ∀ w, Calls Try.prog 9 #[.slice a n c] w fun e w' => e = .returned (.slice a m c) ∧ w = w' := by
  have hl := b.len
  have hsh := b.sh
  refine ⟨min n 18, rs.take (min n 18), by omega, ?_, fun w => rules_any a n c w hsh.1 hsh.2⟩
  obtain ⟨h0, ao', cap', e, h1, h2, h3, h4⟩ := b
  simp only [Value.slice.injEq] at e
  obtain ⟨rfl, _, rfl⟩ := e
  refine ⟨by rw [flatR_length, List.length_take, hl]; omega, a, c, rfl, by omega, h2, h3, fun ad had j u hu => h4 ad had j u ?_⟩
  have e1 : flatR (rs.take (min n 18)) = (flatR rs).take (min n 18 * 7) := by
    have : ∀ (l : List Ru) (k : Nat), flatR (l.take k) = (flatR l).take (k * 7) := by
      intro l
      induction l with
      | nil => intro k; simp [flatR]
      | cons q l ih =>
        intro k
        cases k with
        | zero => simp [flatR]
        | succ k =>
          show ruC q ++ flatR (l.take k) = (ruC q ++ flatR l).take ((k + 1) * 7)
          rw [ih, show (k + 1) * 7 = (ruC q).length + k * 7 by show _ = 7 + _; omega, List.take_length_add_append]
    exact this rs _
  rw [e1, List.getElem?_take] at hu
  split at hu
  · exact hu
  · cases hu
end Go.Proofs.Ytbldcjngccmhpaa.Ng
