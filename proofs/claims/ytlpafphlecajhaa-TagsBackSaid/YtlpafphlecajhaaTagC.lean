/-
  The document's Same and SameBytes, of two rows that are the same.
-/
import Derived.Test.YtlpafphlecajhaaTagB
namespace Go.Proofs.Ytlpafphlecajhaa
open Go.RowKit
set_option linter.unusedVariables false
set_option linter.unusedSimpArgs false

theorem plain_at {ts us : List Tg} (h : plain ts = plain us) (i : Nat) (h1 : i < ts.length) (h2 : i < us.length) : ts[i].typ = us[i].typ ∧ ts[i].l = us[i].l := by
  have e1 := plain_get ts i h1
  have e2 := plain_get us i h2
  have h3 : (plain ts)[i]'(by rw [plain_length]; exact h1) = (plain us)[i]'(by rw [plain_length]; exact h2) := by simp only [h]
  rw [e1, e2] at h3
  exact ⟨congrArg Prod.fst h3, congrArg Prod.snd h3⟩

set_option maxHeartbeats 1000000 in
theorem same_true (ao bo : Option Addr) (n n' c c' : Nat) (ts us : List Tg) (w : World) (hr : TR w (.slice ao n c) n ts) (hs : TR w (.slice bo n' c') n' us) (he : plain ts = plain us) :
    Calls Try.prog 16 #[.slice ao n c, .slice bo n' c'] w fun e w' => e = .returned (.bool true) ∧ Below w.heap.size w w' := by
  have hl := hr.len
  have hl' := hs.len
  obtain rfl : n = n' := by have := congrArg List.length he; rw [plain_length, plain_length] at this; omega
  have HE := Lib.hid he
  clear he
  obtain ⟨_, _, es, hca, hcm⟩ := hr.shape
  simp only [Value.slice.injEq] at es
  obtain ⟨rfl, z1, rfl⟩ := es
  clear z1
  unfold maxLen at hcm
  go_enter Try.func16, Try.ntmps16
  go_wp2
  go_loopw [5] (fun iv wr => ∃ k : Nat, k ≤ n ∧ iv = .int .i64 k ∧ Below w.heap.size w wr) (fun iv _ => n - (intOf iv).toNat)
  case atStart => exact ⟨0, Nat.zero_le _, rfl, Below.refl _ _⟩
  case round =>
    obtain ⟨k, hk, rfl, hb⟩ := hrel
    by_cases hlt : k < n
    · obtain ⟨b, o, rfl, hbl, hc⟩ := (hr.below hb).cells (by omega)
      obtain ⟨b2, o2, rfl, hbl2, hd⟩ := (hs.below hb).cells (by omega)
      obtain ⟨hc0, hc1⟩ := hc k (by omega)
      obtain ⟨hd0, hd1⟩ := hd k (by omega)
      obtain ⟨e1, e2⟩ := plain_at HE.out k (by omega) (by omega)
      have hv := hr.val k (by omega)
      have hw := hs.val k (by omega)
      rw [e2] at hv
      rw [e1] at hc0
      obtain ⟨A, L, C, ev, hL, hLC, hCm⟩ := hv.sl
      obtain ⟨A2, L2, C2, ew, hL2, hLC2, hCm2⟩ := hw.sl
      rw [ev] at hc1 hv
      rw [ew] at hd1 hw
      obtain ⟨x, hx⟩ : ∃ x, x = us[k].l := ⟨_, rfl⟩
      obtain ⟨T, hT⟩ : ∃ T, T = us[k].typ := ⟨_, rfl⟩
      rw [← hx] at hv hw
      rw [← hT] at hc0 hd0
      have HV := Lib.hid hv
      have HW := Lib.hid hw
      have HC0 := Lib.hid hc0
      have HC1 := Lib.hid hc1
      have HD0 := Lib.hid hd0
      have HD1 := Lib.hid hd1
      have HB := Lib.hid hb
      clear hv hw hc hd hx hT e1 e2 ev ew hc0 hc1 hd0 hd1 hL hL2 hr hs
      go_wp2_with fail
      refine wp_region_G 26 Gr (by kernel_rfl) ?_
      -- 0: slot 17
      refine wpG_take preGr (i := 0) (v := ?_) (by kernel_rfl) (some 17) (by kernel_rfl) rfl (by kernel_rfl) (by kernel_rfl) (by kernel_rfl) (fun _ _ _ h => h) (by rfl) (fun w' hw' => ?_) rfl ?_
      rotate_left
      · have g0 := cell_gr ((Gr.drew wr).trans hw') HC0.out
        have g1 := cell_gr ((Gr.drew wr).trans hw') HC1.out
        have g2 := cell_gr ((Gr.drew wr).trans hw') HD0.out
        have g3 := cell_gr ((Gr.drew wr).trans hw') HD1.out
        have s1 := run_string_of (P := Try.prog) 24 9 5 Try.underlying24 Try.underlying5 Try.underlying9 ((HV.out.below HB.out).below ((Gr.drew wr).trans hw'))
        have s2 := run_string_of (P := Try.prog) 24 9 5 Try.underlying24 Try.underlying5 Try.underlying9 ((HW.out.below HB.out).below ((Gr.drew wr).trans hw'))
        go_simp
        with_reducible rfl
      simp only [Act.put, List.setIfInBounds_toArray, List.set_cons_zero, List.set_cons_succ]
      -- 1: slot 18
      refine wpG_take preGr (i := 1) (v := ?_) (by kernel_rfl) (some 18) (by kernel_rfl) rfl (by kernel_rfl) (by kernel_rfl) (by kernel_rfl) (fun _ _ _ h => h) (by rfl) (fun w' hw' => ?_) rfl ?_
      rotate_left
      · have g0 := cell_gr ((Gr.drew wr).trans hw') HC0.out
        have g1 := cell_gr ((Gr.drew wr).trans hw') HC1.out
        have g2 := cell_gr ((Gr.drew wr).trans hw') HD0.out
        have g3 := cell_gr ((Gr.drew wr).trans hw') HD1.out
        have s1 := run_string_of (P := Try.prog) 24 9 5 Try.underlying24 Try.underlying5 Try.underlying9 ((HV.out.below HB.out).below ((Gr.drew wr).trans hw'))
        have s2 := run_string_of (P := Try.prog) 24 9 5 Try.underlying24 Try.underlying5 Try.underlying9 ((HW.out.below HB.out).below ((Gr.drew wr).trans hw'))
        go_simp
        with_reducible rfl
      simp only [Act.put, List.setIfInBounds_toArray, List.set_cons_zero, List.set_cons_succ]
      -- 2: slot 19
      refine wpG_take preGr (i := 2) (v := ?_) (by kernel_rfl) (some 19) (by kernel_rfl) rfl (by kernel_rfl) (by kernel_rfl) (by kernel_rfl) (fun _ _ _ h => h) (by rfl) (fun w' hw' => ?_) rfl ?_
      rotate_left
      · have g0 := cell_gr ((Gr.drew wr).trans hw') HC0.out
        have g1 := cell_gr ((Gr.drew wr).trans hw') HC1.out
        have g2 := cell_gr ((Gr.drew wr).trans hw') HD0.out
        have g3 := cell_gr ((Gr.drew wr).trans hw') HD1.out
        have s1 := run_string_of (P := Try.prog) 24 9 5 Try.underlying24 Try.underlying5 Try.underlying9 ((HV.out.below HB.out).below ((Gr.drew wr).trans hw'))
        have s2 := run_string_of (P := Try.prog) 24 9 5 Try.underlying24 Try.underlying5 Try.underlying9 ((HW.out.below HB.out).below ((Gr.drew wr).trans hw'))
        go_simp
        with_reducible rfl
      simp only [Act.put, List.setIfInBounds_toArray, List.set_cons_zero, List.set_cons_succ]
      -- 3: slot 20
      refine wpG_take preGr (i := 3) (v := ?_) (by kernel_rfl) (some 20) (by kernel_rfl) rfl (by kernel_rfl) (by kernel_rfl) (by kernel_rfl) (fun _ _ _ h => h) (by rfl) (fun w' hw' => ?_) rfl ?_
      rotate_left
      · have g0 := cell_gr ((Gr.drew wr).trans hw') HC0.out
        have g1 := cell_gr ((Gr.drew wr).trans hw') HC1.out
        have g2 := cell_gr ((Gr.drew wr).trans hw') HD0.out
        have g3 := cell_gr ((Gr.drew wr).trans hw') HD1.out
        have s1 := run_string_of (P := Try.prog) 24 9 5 Try.underlying24 Try.underlying5 Try.underlying9 ((HV.out.below HB.out).below ((Gr.drew wr).trans hw'))
        have s2 := run_string_of (P := Try.prog) 24 9 5 Try.underlying24 Try.underlying5 Try.underlying9 ((HW.out.below HB.out).below ((Gr.drew wr).trans hw'))
        go_simp
        with_reducible rfl
      simp only [Act.put, List.setIfInBounds_toArray, List.set_cons_zero, List.set_cons_succ]
      -- 4: slot 21
      refine wpG_take preGr (i := 4) (v := ?_) (by kernel_rfl) (some 21) (by kernel_rfl) rfl (by kernel_rfl) (by kernel_rfl) (by kernel_rfl) (fun _ _ _ h => h) (by rfl) (fun w' hw' => ?_) rfl ?_
      rotate_left
      · have g0 := cell_gr ((Gr.drew wr).trans hw') HC0.out
        have g1 := cell_gr ((Gr.drew wr).trans hw') HC1.out
        have g2 := cell_gr ((Gr.drew wr).trans hw') HD0.out
        have g3 := cell_gr ((Gr.drew wr).trans hw') HD1.out
        have s1 := run_string_of (P := Try.prog) 24 9 5 Try.underlying24 Try.underlying5 Try.underlying9 ((HV.out.below HB.out).below ((Gr.drew wr).trans hw'))
        have s2 := run_string_of (P := Try.prog) 24 9 5 Try.underlying24 Try.underlying5 Try.underlying9 ((HW.out.below HB.out).below ((Gr.drew wr).trans hw'))
        go_simp
        with_reducible rfl
      simp only [Act.put, List.setIfInBounds_toArray, List.set_cons_zero, List.set_cons_succ]
      -- 5: slot 22
      refine wpG_take preGr (i := 5) (v := ?_) (by kernel_rfl) (some 22) (by kernel_rfl) rfl (by kernel_rfl) (by kernel_rfl) (by kernel_rfl) (fun _ _ _ h => h) (by rfl) (fun w' hw' => ?_) rfl ?_
      rotate_left
      · have g0 := cell_gr ((Gr.drew wr).trans hw') HC0.out
        have g1 := cell_gr ((Gr.drew wr).trans hw') HC1.out
        have g2 := cell_gr ((Gr.drew wr).trans hw') HD0.out
        have g3 := cell_gr ((Gr.drew wr).trans hw') HD1.out
        have s1 := run_string_of (P := Try.prog) 24 9 5 Try.underlying24 Try.underlying5 Try.underlying9 ((HV.out.below HB.out).below ((Gr.drew wr).trans hw'))
        have s2 := run_string_of (P := Try.prog) 24 9 5 Try.underlying24 Try.underlying5 Try.underlying9 ((HW.out.below HB.out).below ((Gr.drew wr).trans hw'))
        go_simp
        with_reducible rfl
      simp only [Act.put, List.setIfInBounds_toArray, List.set_cons_zero, List.set_cons_succ]
      -- 6: slot 23
      refine wpG_take preGr (i := 6) (v := ?_) (by kernel_rfl) (some 23) (by kernel_rfl) rfl (by kernel_rfl) (by kernel_rfl) (by kernel_rfl) (fun _ _ _ h => h) (by rfl) (fun w' hw' => ?_) rfl ?_
      rotate_left
      · have g0 := cell_gr ((Gr.drew wr).trans hw') HC0.out
        have g1 := cell_gr ((Gr.drew wr).trans hw') HC1.out
        have g2 := cell_gr ((Gr.drew wr).trans hw') HD0.out
        have g3 := cell_gr ((Gr.drew wr).trans hw') HD1.out
        have s1 := run_string_of (P := Try.prog) 24 9 5 Try.underlying24 Try.underlying5 Try.underlying9 ((HV.out.below HB.out).below ((Gr.drew wr).trans hw'))
        have s2 := run_string_of (P := Try.prog) 24 9 5 Try.underlying24 Try.underlying5 Try.underlying9 ((HW.out.below HB.out).below ((Gr.drew wr).trans hw'))
        go_simp
        with_reducible rfl
      simp only [Act.put, List.setIfInBounds_toArray, List.set_cons_zero, List.set_cons_succ]
      -- 7: slot 24
      refine wpG_take preGr (i := 7) (v := ?_) (by kernel_rfl) (some 24) (by kernel_rfl) rfl (by kernel_rfl) (by kernel_rfl) (by kernel_rfl) (fun _ _ _ h => h) (by rfl) (fun w' hw' => ?_) rfl ?_
      rotate_left
      · have g0 := cell_gr ((Gr.drew wr).trans hw') HC0.out
        have g1 := cell_gr ((Gr.drew wr).trans hw') HC1.out
        have g2 := cell_gr ((Gr.drew wr).trans hw') HD0.out
        have g3 := cell_gr ((Gr.drew wr).trans hw') HD1.out
        have s1 := run_string_of (P := Try.prog) 24 9 5 Try.underlying24 Try.underlying5 Try.underlying9 ((HV.out.below HB.out).below ((Gr.drew wr).trans hw'))
        have s2 := run_string_of (P := Try.prog) 24 9 5 Try.underlying24 Try.underlying5 Try.underlying9 ((HW.out.below HB.out).below ((Gr.drew wr).trans hw'))
        go_simp
        with_reducible rfl
      simp only [Act.put, List.setIfInBounds_toArray, List.set_cons_zero, List.set_cons_succ]
      -- 8: slot 25
      refine wpG_take preGr (i := 8) (v := ?_) (by kernel_rfl) (some 25) (by kernel_rfl) rfl (by kernel_rfl) (by kernel_rfl) (by kernel_rfl) (fun _ _ _ h => h) (by rfl) (fun w' hw' => ?_) rfl ?_
      rotate_left
      · have g0 := cell_gr ((Gr.drew wr).trans hw') HC0.out
        have g1 := cell_gr ((Gr.drew wr).trans hw') HC1.out
        have g2 := cell_gr ((Gr.drew wr).trans hw') HD0.out
        have g3 := cell_gr ((Gr.drew wr).trans hw') HD1.out
        have s1 := run_string_of (P := Try.prog) 24 9 5 Try.underlying24 Try.underlying5 Try.underlying9 ((HV.out.below HB.out).below ((Gr.drew wr).trans hw'))
        have s2 := run_string_of (P := Try.prog) 24 9 5 Try.underlying24 Try.underlying5 Try.underlying9 ((HW.out.below HB.out).below ((Gr.drew wr).trans hw'))
        go_simp
        with_reducible rfl
      simp only [Act.put, List.setIfInBounds_toArray, List.set_cons_zero, List.set_cons_succ]
      -- 9: slot 26
      refine wpG_take preGr (i := 9) (v := ?_) (by kernel_rfl) (some 26) (by kernel_rfl) rfl (by kernel_rfl) (by kernel_rfl) (by kernel_rfl) (fun _ _ _ h => h) (by rfl) (fun w' hw' => ?_) rfl ?_
      rotate_left
      · have g0 := cell_gr ((Gr.drew wr).trans hw') HC0.out
        have g1 := cell_gr ((Gr.drew wr).trans hw') HC1.out
        have g2 := cell_gr ((Gr.drew wr).trans hw') HD0.out
        have g3 := cell_gr ((Gr.drew wr).trans hw') HD1.out
        have s1 := run_string_of (P := Try.prog) 24 9 5 Try.underlying24 Try.underlying5 Try.underlying9 ((HV.out.below HB.out).below ((Gr.drew wr).trans hw'))
        have s2 := run_string_of (P := Try.prog) 24 9 5 Try.underlying24 Try.underlying5 Try.underlying9 ((HW.out.below HB.out).below ((Gr.drew wr).trans hw'))
        go_simp
        with_reducible rfl
      simp only [Act.put, List.setIfInBounds_toArray, List.set_cons_zero, List.set_cons_succ]
      -- 10: slot 27
      refine wpG_take preGr (i := 10) (v := ?_) (by kernel_rfl) (some 27) (by kernel_rfl) rfl (by kernel_rfl) (by kernel_rfl) (by kernel_rfl) (fun _ _ _ h => h) (by rfl) (fun w' hw' => ?_) rfl ?_
      rotate_left
      · have g0 := cell_gr ((Gr.drew wr).trans hw') HC0.out
        have g1 := cell_gr ((Gr.drew wr).trans hw') HC1.out
        have g2 := cell_gr ((Gr.drew wr).trans hw') HD0.out
        have g3 := cell_gr ((Gr.drew wr).trans hw') HD1.out
        have s1 := run_string_of (P := Try.prog) 24 9 5 Try.underlying24 Try.underlying5 Try.underlying9 ((HV.out.below HB.out).below ((Gr.drew wr).trans hw'))
        have s2 := run_string_of (P := Try.prog) 24 9 5 Try.underlying24 Try.underlying5 Try.underlying9 ((HW.out.below HB.out).below ((Gr.drew wr).trans hw'))
        go_simp
        with_reducible rfl
      simp only [Act.put, List.setIfInBounds_toArray, List.set_cons_zero, List.set_cons_succ]
      -- 11: slot 28
      refine wpG_take preGr (i := 11) (v := ?_) (by kernel_rfl) (some 28) (by kernel_rfl) rfl (by kernel_rfl) (by kernel_rfl) (by kernel_rfl) (fun _ _ _ h => h) (by rfl) (fun w' hw' => ?_) rfl ?_
      rotate_left
      · have g0 := cell_gr ((Gr.drew wr).trans hw') HC0.out
        have g1 := cell_gr ((Gr.drew wr).trans hw') HC1.out
        have g2 := cell_gr ((Gr.drew wr).trans hw') HD0.out
        have g3 := cell_gr ((Gr.drew wr).trans hw') HD1.out
        have s1 := run_string_of (P := Try.prog) 24 9 5 Try.underlying24 Try.underlying5 Try.underlying9 ((HV.out.below HB.out).below ((Gr.drew wr).trans hw'))
        have s2 := run_string_of (P := Try.prog) 24 9 5 Try.underlying24 Try.underlying5 Try.underlying9 ((HW.out.below HB.out).below ((Gr.drew wr).trans hw'))
        go_simp
        with_reducible rfl
      simp only [Act.put, List.setIfInBounds_toArray, List.set_cons_zero, List.set_cons_succ]
      -- 12: slot 29
      refine wpG_take preGr (i := 12) (v := ?_) (by kernel_rfl) (some 29) (by kernel_rfl) rfl (by kernel_rfl) (by kernel_rfl) (by kernel_rfl) (fun _ _ _ h => h) (by rfl) (fun w' hw' => ?_) rfl ?_
      rotate_left
      · have g0 := cell_gr ((Gr.drew wr).trans hw') HC0.out
        have g1 := cell_gr ((Gr.drew wr).trans hw') HC1.out
        have g2 := cell_gr ((Gr.drew wr).trans hw') HD0.out
        have g3 := cell_gr ((Gr.drew wr).trans hw') HD1.out
        have s1 := run_string_of (P := Try.prog) 24 9 5 Try.underlying24 Try.underlying5 Try.underlying9 ((HV.out.below HB.out).below ((Gr.drew wr).trans hw'))
        have s2 := run_string_of (P := Try.prog) 24 9 5 Try.underlying24 Try.underlying5 Try.underlying9 ((HW.out.below HB.out).below ((Gr.drew wr).trans hw'))
        go_simp
        with_reducible rfl
      simp only [Act.put, List.setIfInBounds_toArray, List.set_cons_zero, List.set_cons_succ]
      -- 13: slot 30
      refine wpG_take preGr (i := 13) (v := ?_) (by kernel_rfl) (some 30) (by kernel_rfl) rfl (by kernel_rfl) (by kernel_rfl) (by kernel_rfl) (fun _ _ _ h => h) (by rfl) (fun w' hw' => ?_) rfl ?_
      rotate_left
      · have g0 := cell_gr ((Gr.drew wr).trans hw') HC0.out
        have g1 := cell_gr ((Gr.drew wr).trans hw') HC1.out
        have g2 := cell_gr ((Gr.drew wr).trans hw') HD0.out
        have g3 := cell_gr ((Gr.drew wr).trans hw') HD1.out
        have s1 := run_string_of (P := Try.prog) 24 9 5 Try.underlying24 Try.underlying5 Try.underlying9 ((HV.out.below HB.out).below ((Gr.drew wr).trans hw'))
        have s2 := run_string_of (P := Try.prog) 24 9 5 Try.underlying24 Try.underlying5 Try.underlying9 ((HW.out.below HB.out).below ((Gr.drew wr).trans hw'))
        go_simp
        with_reducible rfl
      simp only [Act.put, List.setIfInBounds_toArray, List.set_cons_zero, List.set_cons_succ]
      -- 14: slot 31
      refine wpG_take preGr (i := 14) (v := ?_) (by kernel_rfl) (some 31) (by kernel_rfl) rfl (by kernel_rfl) (by kernel_rfl) (by kernel_rfl) (fun _ _ _ h => h) (by rfl) (fun w' hw' => ?_) rfl ?_
      rotate_left
      · have g0 := cell_gr ((Gr.drew wr).trans hw') HC0.out
        have g1 := cell_gr ((Gr.drew wr).trans hw') HC1.out
        have g2 := cell_gr ((Gr.drew wr).trans hw') HD0.out
        have g3 := cell_gr ((Gr.drew wr).trans hw') HD1.out
        have s1 := run_string_of (P := Try.prog) 24 9 5 Try.underlying24 Try.underlying5 Try.underlying9 ((HV.out.below HB.out).below ((Gr.drew wr).trans hw'))
        have s2 := run_string_of (P := Try.prog) 24 9 5 Try.underlying24 Try.underlying5 Try.underlying9 ((HW.out.below HB.out).below ((Gr.drew wr).trans hw'))
        go_simp
        with_reducible rfl
      simp only [Act.put, List.setIfInBounds_toArray, List.set_cons_zero, List.set_cons_succ]
      -- 15: slot 32
      refine wpG_take preGr (i := 15) (v := ?_) (by kernel_rfl) (some 32) (by kernel_rfl) rfl (by kernel_rfl) (by kernel_rfl) (by kernel_rfl) (fun _ _ _ h => h) (by rfl) (fun w' hw' => ?_) rfl ?_
      rotate_left
      · have g0 := cell_gr ((Gr.drew wr).trans hw') HC0.out
        have g1 := cell_gr ((Gr.drew wr).trans hw') HC1.out
        have g2 := cell_gr ((Gr.drew wr).trans hw') HD0.out
        have g3 := cell_gr ((Gr.drew wr).trans hw') HD1.out
        have s1 := run_string_of (P := Try.prog) 24 9 5 Try.underlying24 Try.underlying5 Try.underlying9 ((HV.out.below HB.out).below ((Gr.drew wr).trans hw'))
        have s2 := run_string_of (P := Try.prog) 24 9 5 Try.underlying24 Try.underlying5 Try.underlying9 ((HW.out.below HB.out).below ((Gr.drew wr).trans hw'))
        go_simp
        with_reducible rfl
      simp only [Act.put, List.setIfInBounds_toArray, List.set_cons_zero, List.set_cons_succ]
      -- 16: slot 33
      refine wpG_take preGr (i := 16) (v := ?_) (by kernel_rfl) (some 33) (by kernel_rfl) rfl (by kernel_rfl) (by kernel_rfl) (by kernel_rfl) (fun _ _ _ h => h) (by rfl) (fun w' hw' => ?_) rfl ?_
      rotate_left
      · have g0 := cell_gr ((Gr.drew wr).trans hw') HC0.out
        have g1 := cell_gr ((Gr.drew wr).trans hw') HC1.out
        have g2 := cell_gr ((Gr.drew wr).trans hw') HD0.out
        have g3 := cell_gr ((Gr.drew wr).trans hw') HD1.out
        have s1 := run_string_of (P := Try.prog) 24 9 5 Try.underlying24 Try.underlying5 Try.underlying9 ((HV.out.below HB.out).below ((Gr.drew wr).trans hw'))
        have s2 := run_string_of (P := Try.prog) 24 9 5 Try.underlying24 Try.underlying5 Try.underlying9 ((HW.out.below HB.out).below ((Gr.drew wr).trans hw'))
        go_simp
        with_reducible rfl
      simp only [Act.put, List.setIfInBounds_toArray, List.set_cons_zero, List.set_cons_succ]
      -- 17: slot 34
      refine wpG_take preGr (i := 17) (v := ?_) (by kernel_rfl) (some 34) (by kernel_rfl) rfl (by kernel_rfl) (by kernel_rfl) (by kernel_rfl) (fun _ _ _ h => h) (by rfl) (fun w' hw' => ?_) rfl ?_
      rotate_left
      · have g0 := cell_gr ((Gr.drew wr).trans hw') HC0.out
        have g1 := cell_gr ((Gr.drew wr).trans hw') HC1.out
        have g2 := cell_gr ((Gr.drew wr).trans hw') HD0.out
        have g3 := cell_gr ((Gr.drew wr).trans hw') HD1.out
        have s1 := run_string_of (P := Try.prog) 24 9 5 Try.underlying24 Try.underlying5 Try.underlying9 ((HV.out.below HB.out).below ((Gr.drew wr).trans hw'))
        have s2 := run_string_of (P := Try.prog) 24 9 5 Try.underlying24 Try.underlying5 Try.underlying9 ((HW.out.below HB.out).below ((Gr.drew wr).trans hw'))
        go_simp
        with_reducible rfl
      simp only [Act.put, List.setIfInBounds_toArray, List.set_cons_zero, List.set_cons_succ]
      -- 18: slot 35
      refine wpG_take preGr (i := 18) (v := ?_) (by kernel_rfl) (some 35) (by kernel_rfl) rfl (by kernel_rfl) (by kernel_rfl) (by kernel_rfl) (fun _ _ _ h => h) (by rfl) (fun w' hw' => ?_) rfl ?_
      rotate_left
      · have g0 := cell_gr ((Gr.drew wr).trans hw') HC0.out
        have g1 := cell_gr ((Gr.drew wr).trans hw') HC1.out
        have g2 := cell_gr ((Gr.drew wr).trans hw') HD0.out
        have g3 := cell_gr ((Gr.drew wr).trans hw') HD1.out
        have s1 := run_string_of (P := Try.prog) 24 9 5 Try.underlying24 Try.underlying5 Try.underlying9 ((HV.out.below HB.out).below ((Gr.drew wr).trans hw'))
        have s2 := run_string_of (P := Try.prog) 24 9 5 Try.underlying24 Try.underlying5 Try.underlying9 ((HW.out.below HB.out).below ((Gr.drew wr).trans hw'))
        go_simp
        with_reducible rfl
      simp only [Act.put, List.setIfInBounds_toArray, List.set_cons_zero, List.set_cons_succ]
      -- 19: slot 36
      refine wpG_take preGr (i := 19) (v := ?_) (by kernel_rfl) (some 36) (by kernel_rfl) rfl (by kernel_rfl) (by kernel_rfl) (by kernel_rfl) (fun _ _ _ h => h) (by rfl) (fun w' hw' => ?_) rfl ?_
      rotate_left
      · have g0 := cell_gr ((Gr.drew wr).trans hw') HC0.out
        have g1 := cell_gr ((Gr.drew wr).trans hw') HC1.out
        have g2 := cell_gr ((Gr.drew wr).trans hw') HD0.out
        have g3 := cell_gr ((Gr.drew wr).trans hw') HD1.out
        have s1 := run_string_of (P := Try.prog) 24 9 5 Try.underlying24 Try.underlying5 Try.underlying9 ((HV.out.below HB.out).below ((Gr.drew wr).trans hw'))
        have s2 := run_string_of (P := Try.prog) 24 9 5 Try.underlying24 Try.underlying5 Try.underlying9 ((HW.out.below HB.out).below ((Gr.drew wr).trans hw'))
        go_simp
        with_reducible rfl
      simp only [Act.put, List.setIfInBounds_toArray, List.set_cons_zero, List.set_cons_succ]
      -- 20: slot 37
      refine wpG_take preGr (i := 20) (v := ?_) (by kernel_rfl) (some 37) (by kernel_rfl) rfl (by kernel_rfl) (by kernel_rfl) (by kernel_rfl) (fun _ _ _ h => h) (by rfl) (fun w' hw' => ?_) rfl ?_
      rotate_left
      · have g0 := cell_gr ((Gr.drew wr).trans hw') HC0.out
        have g1 := cell_gr ((Gr.drew wr).trans hw') HC1.out
        have g2 := cell_gr ((Gr.drew wr).trans hw') HD0.out
        have g3 := cell_gr ((Gr.drew wr).trans hw') HD1.out
        have s1 := run_string_of (P := Try.prog) 24 9 5 Try.underlying24 Try.underlying5 Try.underlying9 ((HV.out.below HB.out).below ((Gr.drew wr).trans hw'))
        have s2 := run_string_of (P := Try.prog) 24 9 5 Try.underlying24 Try.underlying5 Try.underlying9 ((HW.out.below HB.out).below ((Gr.drew wr).trans hw'))
        go_simp
        with_reducible rfl
      simp only [Act.put, List.setIfInBounds_toArray, List.set_cons_zero, List.set_cons_succ]
      -- 21: slot 38
      refine wpG_take preGr (i := 21) (v := ?_) (by kernel_rfl) (some 38) (by kernel_rfl) rfl (by kernel_rfl) (by kernel_rfl) (by kernel_rfl) (fun _ _ _ h => h) (by rfl) (fun w' hw' => ?_) rfl ?_
      rotate_left
      · have g0 := cell_gr ((Gr.drew wr).trans hw') HC0.out
        have g1 := cell_gr ((Gr.drew wr).trans hw') HC1.out
        have g2 := cell_gr ((Gr.drew wr).trans hw') HD0.out
        have g3 := cell_gr ((Gr.drew wr).trans hw') HD1.out
        have s1 := run_string_of (P := Try.prog) 24 9 5 Try.underlying24 Try.underlying5 Try.underlying9 ((HV.out.below HB.out).below ((Gr.drew wr).trans hw'))
        have s2 := run_string_of (P := Try.prog) 24 9 5 Try.underlying24 Try.underlying5 Try.underlying9 ((HW.out.below HB.out).below ((Gr.drew wr).trans hw'))
        go_simp
        with_reducible rfl
      simp only [Act.put, List.setIfInBounds_toArray, List.set_cons_zero, List.set_cons_succ]
      -- 22: slot 39
      refine wpG_take preGr (i := 22) (v := ?_) (by kernel_rfl) (some 39) (by kernel_rfl) rfl (by kernel_rfl) (by kernel_rfl) (by kernel_rfl) (fun _ _ _ h => h) (by rfl) (fun w' hw' => ?_) rfl ?_
      rotate_left
      · have g0 := cell_gr ((Gr.drew wr).trans hw') HC0.out
        have g1 := cell_gr ((Gr.drew wr).trans hw') HC1.out
        have g2 := cell_gr ((Gr.drew wr).trans hw') HD0.out
        have g3 := cell_gr ((Gr.drew wr).trans hw') HD1.out
        have s1 := run_string_of (P := Try.prog) 24 9 5 Try.underlying24 Try.underlying5 Try.underlying9 ((HV.out.below HB.out).below ((Gr.drew wr).trans hw'))
        have s2 := run_string_of (P := Try.prog) 24 9 5 Try.underlying24 Try.underlying5 Try.underlying9 ((HW.out.below HB.out).below ((Gr.drew wr).trans hw'))
        go_simp
        with_reducible rfl
      simp only [Act.put, List.setIfInBounds_toArray, List.set_cons_zero, List.set_cons_succ]
      -- 23: slot 40
      refine wpG_take preGr (i := 23) (v := ?_) (by kernel_rfl) (some 40) (by kernel_rfl) rfl (by kernel_rfl) (by kernel_rfl) (by kernel_rfl) (fun _ _ _ h => h) (by rfl) (fun w' hw' => ?_) rfl ?_
      rotate_left
      · have g0 := cell_gr ((Gr.drew wr).trans hw') HC0.out
        have g1 := cell_gr ((Gr.drew wr).trans hw') HC1.out
        have g2 := cell_gr ((Gr.drew wr).trans hw') HD0.out
        have g3 := cell_gr ((Gr.drew wr).trans hw') HD1.out
        have s1 := run_string_of (P := Try.prog) 24 9 5 Try.underlying24 Try.underlying5 Try.underlying9 ((HV.out.below HB.out).below ((Gr.drew wr).trans hw'))
        have s2 := run_string_of (P := Try.prog) 24 9 5 Try.underlying24 Try.underlying5 Try.underlying9 ((HW.out.below HB.out).below ((Gr.drew wr).trans hw'))
        go_simp
        with_reducible rfl
      simp only [Act.put, List.setIfInBounds_toArray, List.set_cons_zero, List.set_cons_succ]
      -- 24: slot 41
      refine wpG_take preGr (i := 24) (v := ?_) (by kernel_rfl) (some 41) (by kernel_rfl) rfl (by kernel_rfl) (by kernel_rfl) (by kernel_rfl) (fun _ _ _ h => h) (by rfl) (fun w' hw' => ?_) rfl ?_
      rotate_left
      · have g0 := cell_gr ((Gr.drew wr).trans hw') HC0.out
        have g1 := cell_gr ((Gr.drew wr).trans hw') HC1.out
        have g2 := cell_gr ((Gr.drew wr).trans hw') HD0.out
        have g3 := cell_gr ((Gr.drew wr).trans hw') HD1.out
        have s1 := run_string_of (P := Try.prog) 24 9 5 Try.underlying24 Try.underlying5 Try.underlying9 ((HV.out.below HB.out).below ((Gr.drew wr).trans hw'))
        have s2 := run_string_of (P := Try.prog) 24 9 5 Try.underlying24 Try.underlying5 Try.underlying9 ((HW.out.below HB.out).below ((Gr.drew wr).trans hw'))
        go_simp
        with_reducible rfl
      simp only [Act.put, List.setIfInBounds_toArray, List.set_cons_zero, List.set_cons_succ]
      -- 25: slot 42
      refine wpG_take preGr (i := 25) (v := ?_) (by kernel_rfl) (some 42) (by kernel_rfl) rfl (by kernel_rfl) (by kernel_rfl) (by kernel_rfl) (fun _ _ _ h => h) (by rfl) (fun w' hw' => ?_) rfl ?_
      rotate_left
      · have g0 := cell_gr ((Gr.drew wr).trans hw') HC0.out
        have g1 := cell_gr ((Gr.drew wr).trans hw') HC1.out
        have g2 := cell_gr ((Gr.drew wr).trans hw') HD0.out
        have g3 := cell_gr ((Gr.drew wr).trans hw') HD1.out
        have s1 := run_string_of (P := Try.prog) 24 9 5 Try.underlying24 Try.underlying5 Try.underlying9 ((HV.out.below HB.out).below ((Gr.drew wr).trans hw'))
        have s2 := run_string_of (P := Try.prog) 24 9 5 Try.underlying24 Try.underlying5 Try.underlying9 ((HW.out.below HB.out).below ((Gr.drew wr).trans hw'))
        go_simp
        with_reducible rfl
      simp only [Act.put, List.setIfInBounds_toArray, List.set_cons_zero, List.set_cons_succ]
      refine wpG_done (by kernel_rfl) ?_ _
      go_wp2
      go_roundw
      case rel =>
        have HB2 : Below w.heap.size w wr.drew := HB.out.drew
        first | exact ⟨k + 1, by omega, by go_num, HB2⟩ | ((repeat apply Exists.intro); exact ⟨⟨k + 1, by omega, by go_num, HB2⟩, rfl⟩)
      case measure => simp [intOf]; omega
    · obtain rfl : k = n := by omega
      have HB := Lib.hid hb
      clear hb
      go_wp2
      go_ret
      exact ⟨rfl, HB.out⟩

/-- v is a row of n slices of bytes that reads the values of ts in w. -/
structure SR (w : World) (v : Value) (n : Nat) (ts : List Tg) : Prop where
  rd : Rd w 1 v n (vals ts)
  vs : ∀ t ∈ ts, Bs w t.val t.l
theorem SR.len {w : World} {v : Value} {n : Nat} {ts : List Tg} (h : SR w v n ts) : ts.length = n := by
  have := h.rd.1
  rw [vals_length] at this
  omega
theorem SR.below {w w' : World} {v : Value} {n : Nat} {ts : List Tg} (h : SR w v n ts) (hb : Below w.heap.size w w') : SR w' v n ts := ⟨h.rd.below hb, fun t ht => (h.vs t ht).below hb⟩
theorem SR.cells {w : World} {ao : Option Addr} {n c : Nat} {ts : List Tg} (h : SR w (.slice ao n c) n ts) (hn : 0 < n) :
    ∃ b o, ao = some ⟨b, o, none⟩ ∧ b < w.heap.size ∧ ∀ i (hi : i < ts.length), w.cell? ⟨b, o + i, none⟩ = some ts[i].val := by
  obtain ⟨b, o, h1, h2, h3⟩ := Rd.cells h.rd hn (by omega)
  exact ⟨b, o, h1, h2, fun i hi => h3 _ _ (by simp [vals, hi])⟩
theorem SR.val {w : World} {v : Value} {n : Nat} {ts : List Tg} (h : SR w v n ts) (i : Nat) (hi : i < ts.length) : Bs w ts[i].val ts[i].l := h.vs _ (List.getElem_mem hi)
theorem ls_at {ts us : List Tg} (h : ts.map (·.l) = us.map (·.l)) (i : Nat) (h1 : i < ts.length) (h2 : i < us.length) : ts[i].l = us[i].l := by
  have h3 : (ts.map (·.l))[i]'(by simpa using h1) = (us.map (·.l))[i]'(by simpa using h2) := by simp only [h]
  simpa using h3

set_option maxHeartbeats 1000000 in
theorem sameBytes_true (ao bo : Option Addr) (n n' c c' : Nat) (ts us : List Tg) (w : World) (hr : SR w (.slice ao n c) n ts) (hs : SR w (.slice bo n' c') n' us) (he : ts.map (·.l) = us.map (·.l)) :
    Calls Try.prog 19 #[.slice ao n c, .slice bo n' c'] w fun e w' => e = .returned (.bool true) ∧ Below w.heap.size w w' := by
  have hl := hr.len
  have hl' := hs.len
  obtain rfl : n = n' := by have := congrArg List.length he; rw [List.length_map, List.length_map] at this; omega
  have HE := Lib.hid he
  clear he
  obtain ⟨_, _, es, hca, hcm⟩ := hr.rd.shape
  simp only [Value.slice.injEq] at es
  obtain ⟨rfl, z1, rfl⟩ := es
  clear z1
  unfold maxLen at hcm
  go_enter Try.func19, Try.ntmps19
  go_wp2
  go_loopw [5] (fun iv wr => ∃ k : Nat, k ≤ n ∧ iv = .int .i64 k ∧ Below w.heap.size w wr) (fun iv _ => n - (intOf iv).toNat)
  case atStart => exact ⟨0, Nat.zero_le _, rfl, Below.refl _ _⟩
  case round =>
    obtain ⟨k, hk, rfl, hb⟩ := hrel
    by_cases hlt : k < n
    · obtain ⟨b, o, rfl, hbl, hc⟩ := (hr.below hb).cells (by omega)
      obtain ⟨b2, o2, rfl, hbl2, hd⟩ := (hs.below hb).cells (by omega)
      have hc0 := hc k (by omega)
      have hd0 := hd k (by omega)
      have e2 := ls_at HE.out k (by omega) (by omega)
      have hv := hr.val k (by omega)
      have hw := hs.val k (by omega)
      rw [e2] at hv
      obtain ⟨A, L, C, ev, hL, hLC, hCm⟩ := hv.sl
      obtain ⟨A2, L2, C2, ew, hL2, hLC2, hCm2⟩ := hw.sl
      rw [ev] at hc0 hv
      rw [ew] at hd0 hw
      obtain ⟨x, hx⟩ : ∃ x, x = us[k].l := ⟨_, rfl⟩
      rw [← hx] at hv hw
      have HV := Lib.hid hv
      have HW := Lib.hid hw
      have HC0 := Lib.hid hc0
      have HD0 := Lib.hid hd0
      have HB := Lib.hid hb
      clear hv hw hc hd hx e2 ev ew hc0 hd0 hL hL2 hr hs
      go_wp2_with fail
      refine wp_region_G 11 Gr (by kernel_rfl) ?_
      -- 0: slot 17
      refine wpG_take preGr (i := 0) (v := ?_) (by kernel_rfl) (some 17) (by kernel_rfl) rfl (by kernel_rfl) (by kernel_rfl) (by kernel_rfl) (fun _ _ _ h => h) (by rfl) (fun w' hw' => ?_) rfl ?_
      rotate_left
      · have g0 := cell_gr ((Gr.drew wr).trans hw') HC0.out
        have g2 := cell_gr ((Gr.drew wr).trans hw') HD0.out
        have s1 := run_string_of (P := Try.prog) 24 9 5 Try.underlying24 Try.underlying5 Try.underlying9 ((HV.out.below HB.out).below ((Gr.drew wr).trans hw'))
        have s2 := run_string_of (P := Try.prog) 24 9 5 Try.underlying24 Try.underlying5 Try.underlying9 ((HW.out.below HB.out).below ((Gr.drew wr).trans hw'))
        go_simp
        with_reducible rfl
      simp only [Act.put, List.setIfInBounds_toArray, List.set_cons_zero, List.set_cons_succ]
      -- 1: slot 18
      refine wpG_take preGr (i := 1) (v := ?_) (by kernel_rfl) (some 18) (by kernel_rfl) rfl (by kernel_rfl) (by kernel_rfl) (by kernel_rfl) (fun _ _ _ h => h) (by rfl) (fun w' hw' => ?_) rfl ?_
      rotate_left
      · have g0 := cell_gr ((Gr.drew wr).trans hw') HC0.out
        have g2 := cell_gr ((Gr.drew wr).trans hw') HD0.out
        have s1 := run_string_of (P := Try.prog) 24 9 5 Try.underlying24 Try.underlying5 Try.underlying9 ((HV.out.below HB.out).below ((Gr.drew wr).trans hw'))
        have s2 := run_string_of (P := Try.prog) 24 9 5 Try.underlying24 Try.underlying5 Try.underlying9 ((HW.out.below HB.out).below ((Gr.drew wr).trans hw'))
        go_simp
        with_reducible rfl
      simp only [Act.put, List.setIfInBounds_toArray, List.set_cons_zero, List.set_cons_succ]
      -- 2: slot 19
      refine wpG_take preGr (i := 2) (v := ?_) (by kernel_rfl) (some 19) (by kernel_rfl) rfl (by kernel_rfl) (by kernel_rfl) (by kernel_rfl) (fun _ _ _ h => h) (by rfl) (fun w' hw' => ?_) rfl ?_
      rotate_left
      · have g0 := cell_gr ((Gr.drew wr).trans hw') HC0.out
        have g2 := cell_gr ((Gr.drew wr).trans hw') HD0.out
        have s1 := run_string_of (P := Try.prog) 24 9 5 Try.underlying24 Try.underlying5 Try.underlying9 ((HV.out.below HB.out).below ((Gr.drew wr).trans hw'))
        have s2 := run_string_of (P := Try.prog) 24 9 5 Try.underlying24 Try.underlying5 Try.underlying9 ((HW.out.below HB.out).below ((Gr.drew wr).trans hw'))
        go_simp
        with_reducible rfl
      simp only [Act.put, List.setIfInBounds_toArray, List.set_cons_zero, List.set_cons_succ]
      -- 3: slot 20
      refine wpG_take preGr (i := 3) (v := ?_) (by kernel_rfl) (some 20) (by kernel_rfl) rfl (by kernel_rfl) (by kernel_rfl) (by kernel_rfl) (fun _ _ _ h => h) (by rfl) (fun w' hw' => ?_) rfl ?_
      rotate_left
      · have g0 := cell_gr ((Gr.drew wr).trans hw') HC0.out
        have g2 := cell_gr ((Gr.drew wr).trans hw') HD0.out
        have s1 := run_string_of (P := Try.prog) 24 9 5 Try.underlying24 Try.underlying5 Try.underlying9 ((HV.out.below HB.out).below ((Gr.drew wr).trans hw'))
        have s2 := run_string_of (P := Try.prog) 24 9 5 Try.underlying24 Try.underlying5 Try.underlying9 ((HW.out.below HB.out).below ((Gr.drew wr).trans hw'))
        go_simp
        with_reducible rfl
      simp only [Act.put, List.setIfInBounds_toArray, List.set_cons_zero, List.set_cons_succ]
      -- 4: slot 21
      refine wpG_take preGr (i := 4) (v := ?_) (by kernel_rfl) (some 21) (by kernel_rfl) rfl (by kernel_rfl) (by kernel_rfl) (by kernel_rfl) (fun _ _ _ h => h) (by rfl) (fun w' hw' => ?_) rfl ?_
      rotate_left
      · have g0 := cell_gr ((Gr.drew wr).trans hw') HC0.out
        have g2 := cell_gr ((Gr.drew wr).trans hw') HD0.out
        have s1 := run_string_of (P := Try.prog) 24 9 5 Try.underlying24 Try.underlying5 Try.underlying9 ((HV.out.below HB.out).below ((Gr.drew wr).trans hw'))
        have s2 := run_string_of (P := Try.prog) 24 9 5 Try.underlying24 Try.underlying5 Try.underlying9 ((HW.out.below HB.out).below ((Gr.drew wr).trans hw'))
        go_simp
        with_reducible rfl
      simp only [Act.put, List.setIfInBounds_toArray, List.set_cons_zero, List.set_cons_succ]
      -- 5: slot 22
      refine wpG_take preGr (i := 5) (v := ?_) (by kernel_rfl) (some 22) (by kernel_rfl) rfl (by kernel_rfl) (by kernel_rfl) (by kernel_rfl) (fun _ _ _ h => h) (by rfl) (fun w' hw' => ?_) rfl ?_
      rotate_left
      · have g0 := cell_gr ((Gr.drew wr).trans hw') HC0.out
        have g2 := cell_gr ((Gr.drew wr).trans hw') HD0.out
        have s1 := run_string_of (P := Try.prog) 24 9 5 Try.underlying24 Try.underlying5 Try.underlying9 ((HV.out.below HB.out).below ((Gr.drew wr).trans hw'))
        have s2 := run_string_of (P := Try.prog) 24 9 5 Try.underlying24 Try.underlying5 Try.underlying9 ((HW.out.below HB.out).below ((Gr.drew wr).trans hw'))
        go_simp
        with_reducible rfl
      simp only [Act.put, List.setIfInBounds_toArray, List.set_cons_zero, List.set_cons_succ]
      -- 6: slot 23
      refine wpG_take preGr (i := 6) (v := ?_) (by kernel_rfl) (some 23) (by kernel_rfl) rfl (by kernel_rfl) (by kernel_rfl) (by kernel_rfl) (fun _ _ _ h => h) (by rfl) (fun w' hw' => ?_) rfl ?_
      rotate_left
      · have g0 := cell_gr ((Gr.drew wr).trans hw') HC0.out
        have g2 := cell_gr ((Gr.drew wr).trans hw') HD0.out
        have s1 := run_string_of (P := Try.prog) 24 9 5 Try.underlying24 Try.underlying5 Try.underlying9 ((HV.out.below HB.out).below ((Gr.drew wr).trans hw'))
        have s2 := run_string_of (P := Try.prog) 24 9 5 Try.underlying24 Try.underlying5 Try.underlying9 ((HW.out.below HB.out).below ((Gr.drew wr).trans hw'))
        go_simp
        with_reducible rfl
      simp only [Act.put, List.setIfInBounds_toArray, List.set_cons_zero, List.set_cons_succ]
      -- 7: slot 24
      refine wpG_take preGr (i := 7) (v := ?_) (by kernel_rfl) (some 24) (by kernel_rfl) rfl (by kernel_rfl) (by kernel_rfl) (by kernel_rfl) (fun _ _ _ h => h) (by rfl) (fun w' hw' => ?_) rfl ?_
      rotate_left
      · have g0 := cell_gr ((Gr.drew wr).trans hw') HC0.out
        have g2 := cell_gr ((Gr.drew wr).trans hw') HD0.out
        have s1 := run_string_of (P := Try.prog) 24 9 5 Try.underlying24 Try.underlying5 Try.underlying9 ((HV.out.below HB.out).below ((Gr.drew wr).trans hw'))
        have s2 := run_string_of (P := Try.prog) 24 9 5 Try.underlying24 Try.underlying5 Try.underlying9 ((HW.out.below HB.out).below ((Gr.drew wr).trans hw'))
        go_simp
        with_reducible rfl
      simp only [Act.put, List.setIfInBounds_toArray, List.set_cons_zero, List.set_cons_succ]
      -- 8: slot 25
      refine wpG_take preGr (i := 8) (v := ?_) (by kernel_rfl) (some 25) (by kernel_rfl) rfl (by kernel_rfl) (by kernel_rfl) (by kernel_rfl) (fun _ _ _ h => h) (by rfl) (fun w' hw' => ?_) rfl ?_
      rotate_left
      · have g0 := cell_gr ((Gr.drew wr).trans hw') HC0.out
        have g2 := cell_gr ((Gr.drew wr).trans hw') HD0.out
        have s1 := run_string_of (P := Try.prog) 24 9 5 Try.underlying24 Try.underlying5 Try.underlying9 ((HV.out.below HB.out).below ((Gr.drew wr).trans hw'))
        have s2 := run_string_of (P := Try.prog) 24 9 5 Try.underlying24 Try.underlying5 Try.underlying9 ((HW.out.below HB.out).below ((Gr.drew wr).trans hw'))
        go_simp
        with_reducible rfl
      simp only [Act.put, List.setIfInBounds_toArray, List.set_cons_zero, List.set_cons_succ]
      -- 9: slot 26
      refine wpG_take preGr (i := 9) (v := ?_) (by kernel_rfl) (some 26) (by kernel_rfl) rfl (by kernel_rfl) (by kernel_rfl) (by kernel_rfl) (fun _ _ _ h => h) (by rfl) (fun w' hw' => ?_) rfl ?_
      rotate_left
      · have g0 := cell_gr ((Gr.drew wr).trans hw') HC0.out
        have g2 := cell_gr ((Gr.drew wr).trans hw') HD0.out
        have s1 := run_string_of (P := Try.prog) 24 9 5 Try.underlying24 Try.underlying5 Try.underlying9 ((HV.out.below HB.out).below ((Gr.drew wr).trans hw'))
        have s2 := run_string_of (P := Try.prog) 24 9 5 Try.underlying24 Try.underlying5 Try.underlying9 ((HW.out.below HB.out).below ((Gr.drew wr).trans hw'))
        go_simp
        with_reducible rfl
      simp only [Act.put, List.setIfInBounds_toArray, List.set_cons_zero, List.set_cons_succ]
      -- 10: slot 27
      refine wpG_take preGr (i := 10) (v := ?_) (by kernel_rfl) (some 27) (by kernel_rfl) rfl (by kernel_rfl) (by kernel_rfl) (by kernel_rfl) (fun _ _ _ h => h) (by rfl) (fun w' hw' => ?_) rfl ?_
      rotate_left
      · have g0 := cell_gr ((Gr.drew wr).trans hw') HC0.out
        have g2 := cell_gr ((Gr.drew wr).trans hw') HD0.out
        have s1 := run_string_of (P := Try.prog) 24 9 5 Try.underlying24 Try.underlying5 Try.underlying9 ((HV.out.below HB.out).below ((Gr.drew wr).trans hw'))
        have s2 := run_string_of (P := Try.prog) 24 9 5 Try.underlying24 Try.underlying5 Try.underlying9 ((HW.out.below HB.out).below ((Gr.drew wr).trans hw'))
        go_simp
        with_reducible rfl
      simp only [Act.put, List.setIfInBounds_toArray, List.set_cons_zero, List.set_cons_succ]
      refine wpG_done (by kernel_rfl) ?_ _
      go_wp2
      go_roundw
      case rel =>
        have HB2 : Below w.heap.size w wr.drew := HB.out.drew
        first | exact ⟨k + 1, by omega, by go_num, HB2⟩ | ((repeat apply Exists.intro); exact ⟨⟨k + 1, by omega, by go_num, HB2⟩, rfl⟩)
      case measure => simp [intOf]; omega
    · obtain rfl : k = n := by omega
      have HB := Lib.hid hb
      clear hb
      go_wp2
      go_ret
      exact ⟨rfl, HB.out⟩
end Go.Proofs.Ytlpafphlecajhaa
