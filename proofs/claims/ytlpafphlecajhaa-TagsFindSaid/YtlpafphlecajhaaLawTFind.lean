/-
  For every row of tags (the first 70, each with the first 1600 bytes of its value) and every type tags.Find, All and Without tell what the document tells (conciergelaw05.TagsFind answers true). No conditions.
-/
import Derived.Test.YtlpafphlecajhaaTagK
import Derived.Test.YtlpafphlecajhaaTagG
import Derived.Test.YtlpafphlecajhaaOpenT
import Derived.ProofKit
import Derived.OpenShut
import Derived.ChangeOld
namespace Go.Proofs.Ytlpafphlecajhaa.tagsFind
open Go.ChangeShapes Go.WideShapes Go.ChangeAt Go.RowKit
set_option linter.unusedVariables false
set_option linter.unusedSimpArgs false

/-- The first of all. -/
theorem pick_find (ts : List Tg) (t : Int) : (findT ts t = none ∧ pickT ts t = []) ∨ ∃ x r, findT ts t = some x ∧ pickT ts t = x :: r := by
  unfold findT pickT
  induction ts with
  | nil => exact .inl ⟨rfl, rfl⟩
  | cons y ts ih =>
    by_cases h : y.typ = t
    · refine .inr ⟨y, ts.filter fun x => decide (x.typ = t), ?_, ?_⟩
      · simp [h]
      · simp [h]
    · rcases ih with ⟨h1, h2⟩ | ⟨x, r, h1, h2⟩
      · exact .inl ⟨by simpa [h] using h1, by simpa [h] using h2⟩
      · exact .inr ⟨x, r, by simpa [h] using h1, by simpa [h] using h2⟩
theorem pick_mem {ts : List Tg} {t : Int} {x : Tg} (h : x ∈ pickT ts t) : x ∈ ts := (List.mem_filter.1 h).1
theorem drop_mem {ts : List Tg} {t : Int} {x : Tg} (h : x ∈ dropT ts t) : x ∈ ts := (List.mem_filter.1 h).1

set_option maxRecDepth 20000 in
set_option maxHeartbeats 8000000 in
theorem walk (W : World) (a0 : Option Addr) (n0 c0 : Nat) (ts0 : List Tg) (b0 : TR W (.slice a0 n0 c0) n0 ts0) (t : Int) (w1 : (Lit.int .i64 t).wf = true) :
    Calls Try.prog 6 #[.slice a0 n0 c0, .int .i64 t] W fun e w' => e = .returned (.bool true) ∧ Below W.heap.size W w' := by
  have AW := Lib.hid awake_any
  have FW := Lib.hid (few_any a0 n0 c0 ts0 W b0)
  have hlen := fewT_len ts0
  have hsm : ∀ x ∈ fewT ts0, x.l.length ≤ 140737488351232 := fun x hx => Nat.le_trans (fewT_small ts0 x hx) (by decide)
  clear b0 w1
  go_enter Try.func6, Try.ntmps6
  go_wp2_with fail
  refine FW.out.mono ?_
  rintro e w1 ⟨a1, c1, rfl, htr, hb1⟩
  generalize fewT ts0 = ts at htr hlen hsm ⊢
  obtain ⟨n, hn⟩ : ∃ n, n = ts.length := ⟨_, rfl⟩
  rw [← hn] at htr ⊢
  have HB1 := Lib.hid hb1
  have HT1 := Lib.hid htr
  have HSM := Lib.hid hsm
  have E1 := Lib.hid (rall_any a1 n c1 ts t w1 HT1.out (by omega))
  have hlen2 : n ≤ 1000 := by omega
  clear hb1 htr hsm hn hlen
  go_wp2_with fail
  refine E1.out.mono ?_
  rintro e w2 ⟨v2, rfl, hown2, hb2⟩
  have HB2 := Lib.hid (HB1.out.trans (hb2.mono HB1.out.size))
  have HT2 := Lib.hid (HT1.out.below hb2)
  have HS2 : Hid (SR w2 v2 (pickT ts t).length (pickT ts t)) := ⟨own_rd hown2, fun x hx => HT2.out.vals x (pick_mem hx)⟩
  obtain ⟨A2, C2, ev, _, _⟩ := HS2.out.rd.shape
  subst ev
  have E2 := Lib.hid (find_any a1 n c1 ts t w2 HT2.out hlen2 HSM.out)
  clear hown2 hb2
  go_wp2_with fail
  refine E2.out.mono ?_
  rintro e w3 ⟨v3, rfl, hown3, hb3⟩
  have HB3 := Lib.hid (HB2.out.trans (hb3.mono HB2.out.size))
  have HT3 := Lib.hid (HT2.out.below hb3)
  have HS3 := Lib.hid (HS2.out.below hb3)
  have HV3 := Lib.hid hown3.bs
  clear hown3 hb3
  have E3 : Hid (∀ w', Below w3.heap.size w3 w' → Calls Try.prog 20 #[.slice a1 n c1, .int .i64 t] w' fun e w'' => ∃ v, e = .returned v ∧ (∃ us, SO w'' w'.heap.size v us ∧ us.map (·.l) = (pickT ts t).map (·.l)) ∧ Below w'.heap.size w' w'') :=
    fun w' hw' => all_any a1 n c1 ts t w' (HT3.out.below hw') hlen2 HSM.out
  rcases pick_find ts t with ⟨hf, hp⟩ | ⟨x, r, hf, hp⟩
  · have e3 : findL ts t = [] := by unfold findL; rw [hf]; rfl
    have hv3 := HV3.out
    rw [e3] at hv3
    obtain ⟨A3, L3, C3, ev, hL3, _, _⟩ := hv3.sl
    obtain rfl : L3 = 0 := hL3.symm
    subst ev
    rw [hf]
    obtain ⟨N, hN⟩ : ∃ N, N = (pickT ts t).length := ⟨_, rfl⟩
    have hN0 : N = 0 := by rw [hN, hp]; rfl
    have HN := Lib.hid hN
    rw [← hN]
    subst hN0
    clear hf hp e3 hv3 hL3 hN
    go_wp2_with fail
    refine wp_region_G 26 Gr (by kernel_rfl) ?_
    -- 0: slot 19
    refine wpG_take preGr (i := 0) (v := ?_) (by kernel_rfl) (some 19) (by kernel_rfl) rfl (by kernel_rfl) (by kernel_rfl) (by kernel_rfl) (fun _ _ _ h => h) (by rfl) (fun w' hw' => ?_) rfl ?_
    rotate_left
    · go_simp
      with_reducible rfl
    simp only [Act.put, List.setIfInBounds_toArray, List.set_cons_zero, List.set_cons_succ]
    -- 1: slot 20
    refine wpG_take preGr (i := 1) (v := ?_) (by kernel_rfl) (some 20) (by kernel_rfl) rfl (by kernel_rfl) (by kernel_rfl) (by kernel_rfl) (fun _ _ _ h => h) (by rfl) (fun w' hw' => ?_) rfl ?_
    rotate_left
    · go_simp
      with_reducible rfl
    simp only [Act.put, List.setIfInBounds_toArray, List.set_cons_zero, List.set_cons_succ]
    -- 2: slot 21
    refine wpG_take preGr (i := 2) (v := ?_) (by kernel_rfl) (some 21) (by kernel_rfl) rfl (by kernel_rfl) (by kernel_rfl) (by kernel_rfl) (fun _ _ _ h => h) (by rfl) (fun w' hw' => ?_) rfl ?_
    rotate_left
    · go_simp
      with_reducible rfl
    simp only [Act.put, List.setIfInBounds_toArray, List.set_cons_zero, List.set_cons_succ]
    -- 3: slot 22
    refine wpG_take preGr (i := 3) (v := ?_) (by kernel_rfl) (some 22) (by kernel_rfl) rfl (by kernel_rfl) (by kernel_rfl) (by kernel_rfl) (fun _ _ _ h => h) (by rfl) (fun w' hw' => ?_) rfl ?_
    rotate_left
    · go_simp
      with_reducible rfl
    simp only [Act.put, List.setIfInBounds_toArray, List.set_cons_zero, List.set_cons_succ]
    -- 4: slot 23
    refine wpG_take preGr (i := 4) (v := ?_) (by kernel_rfl) (some 23) (by kernel_rfl) rfl (by kernel_rfl) (by kernel_rfl) (by kernel_rfl) (fun _ _ _ h => h) (by rfl) (fun w' hw' => ?_) rfl ?_
    rotate_left
    · go_simp
      with_reducible rfl
    simp only [Act.put, List.setIfInBounds_toArray, List.set_cons_zero, List.set_cons_succ]
    -- 5: slot 24
    refine wpG_take preGr (i := 5) (v := ?_) (by kernel_rfl) (some 24) (by kernel_rfl) rfl (by kernel_rfl) (by kernel_rfl) (by kernel_rfl) (fun _ _ _ h => h) (by rfl) (fun w' hw' => ?_) rfl ?_
    rotate_left
    · go_simp
      with_reducible rfl
    simp only [Act.put, List.setIfInBounds_toArray, List.set_cons_zero, List.set_cons_succ]
    -- 6: slot 25
    refine wpG_take preGr (i := 6) (v := ?_) (by kernel_rfl) (some 25) (by kernel_rfl) rfl (by kernel_rfl) (by kernel_rfl) (by kernel_rfl) (fun _ _ _ h => h) (by rfl) (fun w' hw' => ?_) rfl ?_
    rotate_left
    · go_simp
      with_reducible rfl
    simp only [Act.put, List.setIfInBounds_toArray, List.set_cons_zero, List.set_cons_succ]
    -- 7: slot 26
    refine wpG_take preGr (i := 7) (v := ?_) (by kernel_rfl) (some 26) (by kernel_rfl) rfl (by kernel_rfl) (by kernel_rfl) (by kernel_rfl) (fun _ _ _ h => h) (by rfl) (fun w' hw' => ?_) rfl ?_
    rotate_left
    · go_simp
      with_reducible rfl
    simp only [Act.put, List.setIfInBounds_toArray, List.set_cons_zero, List.set_cons_succ]
    refine wpG_pass preGr (i := 8) (by kernel_rfl) (some 27) (by kernel_rfl) rfl (by kernel_rfl) (by kernel_rfl) (by kernel_rfl) (fun _ _ _ h => h) (by rfl) rfl ?_
    simp only [Act.put, List.setIfInBounds_toArray, List.set_cons_zero, List.set_cons_succ]
    refine wpG_pass preGr (i := 9) (by kernel_rfl) (some 28) (by kernel_rfl) rfl (by kernel_rfl) (by kernel_rfl) (by kernel_rfl) (fun _ _ _ h => h) (by rfl) rfl ?_
    simp only [Act.put, List.setIfInBounds_toArray, List.set_cons_zero, List.set_cons_succ]
    refine wpG_pass preGr (i := 10) (by kernel_rfl) (some 29) (by kernel_rfl) rfl (by kernel_rfl) (by kernel_rfl) (by kernel_rfl) (fun _ _ _ h => h) (by rfl) rfl ?_
    simp only [Act.put, List.setIfInBounds_toArray, List.set_cons_zero, List.set_cons_succ]
    refine wpG_pass preGr (i := 11) (by kernel_rfl) (some 30) (by kernel_rfl) rfl (by kernel_rfl) (by kernel_rfl) (by kernel_rfl) (fun _ _ _ h => h) (by rfl) rfl ?_
    simp only [Act.put, List.setIfInBounds_toArray, List.set_cons_zero, List.set_cons_succ]
    refine wpG_pass preGr (i := 12) (by kernel_rfl) (some 31) (by kernel_rfl) rfl (by kernel_rfl) (by kernel_rfl) (by kernel_rfl) (fun _ _ _ h => h) (by rfl) rfl ?_
    simp only [Act.put, List.setIfInBounds_toArray, List.set_cons_zero, List.set_cons_succ]
    refine wpG_pass preGr (i := 13) (by kernel_rfl) (some 32) (by kernel_rfl) rfl (by kernel_rfl) (by kernel_rfl) (by kernel_rfl) (fun _ _ _ h => h) (by rfl) rfl ?_
    simp only [Act.put, List.setIfInBounds_toArray, List.set_cons_zero, List.set_cons_succ]
    refine wpG_pass preGr (i := 14) (by kernel_rfl) (some 33) (by kernel_rfl) rfl (by kernel_rfl) (by kernel_rfl) (by kernel_rfl) (fun _ _ _ h => h) (by rfl) rfl ?_
    simp only [Act.put, List.setIfInBounds_toArray, List.set_cons_zero, List.set_cons_succ]
    -- 15: slot 34
    refine wpG_take preGr (i := 15) (v := ?_) (by kernel_rfl) (some 34) (by kernel_rfl) rfl (by kernel_rfl) (by kernel_rfl) (by kernel_rfl) (fun _ _ _ h => h) (by rfl) (fun w' hw' => ?_) rfl ?_
    rotate_left
    · go_simp
      with_reducible rfl
    simp only [Act.put, List.setIfInBounds_toArray, List.set_cons_zero, List.set_cons_succ]
    -- 16: slot 35
    refine wpG_take preGr (i := 16) (v := ?_) (by kernel_rfl) (some 35) (by kernel_rfl) rfl (by kernel_rfl) (by kernel_rfl) (by kernel_rfl) (fun _ _ _ h => h) (by rfl) (fun w' hw' => ?_) rfl ?_
    rotate_left
    · go_simp
      with_reducible rfl
    simp only [Act.put, List.setIfInBounds_toArray, List.set_cons_zero, List.set_cons_succ]
    -- 17: slot 36
    refine wpG_take preGr (i := 17) (v := ?_) (by kernel_rfl) (some 36) (by kernel_rfl) rfl (by kernel_rfl) (by kernel_rfl) (by kernel_rfl) (fun _ _ _ h => h) (by rfl) (fun w' hw' => ?_) rfl ?_
    rotate_left
    · go_simp
      with_reducible rfl
    simp only [Act.put, List.setIfInBounds_toArray, List.set_cons_zero, List.set_cons_succ]
    -- 18: slot 37
    refine wpG_take preGr (i := 18) (v := ?_) (by kernel_rfl) (some 37) (by kernel_rfl) rfl (by kernel_rfl) (by kernel_rfl) (by kernel_rfl) (fun _ _ _ h => h) (by rfl) (fun w' hw' => ?_) rfl ?_
    rotate_left
    · go_simp
      with_reducible rfl
    simp only [Act.put, List.setIfInBounds_toArray, List.set_cons_zero, List.set_cons_succ]
    -- 19: slot 38
    refine wpG_take preGr (i := 19) (v := ?_) (by kernel_rfl) (some 38) (by kernel_rfl) rfl (by kernel_rfl) (by kernel_rfl) (by kernel_rfl) (fun _ _ _ h => h) (by rfl) (fun w' hw' => ?_) rfl ?_
    rotate_left
    · go_simp
      with_reducible rfl
    simp only [Act.put, List.setIfInBounds_toArray, List.set_cons_zero, List.set_cons_succ]
    -- 20: slot 39
    refine wpG_take preGr (i := 20) (v := ?_) (by kernel_rfl) (some 39) (by kernel_rfl) rfl (by kernel_rfl) (by kernel_rfl) (by kernel_rfl) (fun _ _ _ h => h) (by rfl) (fun w' hw' => ?_) rfl ?_
    rotate_left
    · go_simp
      with_reducible rfl
    simp only [Act.put, List.setIfInBounds_toArray, List.set_cons_zero, List.set_cons_succ]
    -- 21: slot 40
    refine wpG_take preGr (i := 21) (v := ?_) (by kernel_rfl) (some 40) (by kernel_rfl) rfl (by kernel_rfl) (by kernel_rfl) (by kernel_rfl) (fun _ _ _ h => h) (by rfl) (fun w' hw' => ?_) rfl ?_
    rotate_left
    · go_simp
      with_reducible rfl
    simp only [Act.put, List.setIfInBounds_toArray, List.set_cons_zero, List.set_cons_succ]
    -- 22: slot 41
    refine wpG_take preGr (i := 22) (v := ?_) (by kernel_rfl) (some 41) (by kernel_rfl) rfl (by kernel_rfl) (by kernel_rfl) (by kernel_rfl) (fun _ _ _ h => h) (by rfl) (fun w' hw' => ?_) rfl ?_
    rotate_left
    · go_simp
      with_reducible rfl
    simp only [Act.put, List.setIfInBounds_toArray, List.set_cons_zero, List.set_cons_succ]
    -- 23: slot 42
    refine wpG_take preGr (i := 23) (v := ?_) (by kernel_rfl) (some 42) (by kernel_rfl) rfl (by kernel_rfl) (by kernel_rfl) (by kernel_rfl) (fun _ _ _ h => h) (by rfl) (fun w' hw' => ?_) rfl ?_
    rotate_left
    · go_simp
      with_reducible rfl
    simp only [Act.put, List.setIfInBounds_toArray, List.set_cons_zero, List.set_cons_succ]
    -- 24: slot 43
    refine wpG_take preGr (i := 24) (v := ?_) (by kernel_rfl) (some 43) (by kernel_rfl) rfl (by kernel_rfl) (by kernel_rfl) (by kernel_rfl) (fun _ _ _ h => h) (by rfl) (fun w' hw' => ?_) rfl ?_
    rotate_left
    · go_simp
      with_reducible rfl
    simp only [Act.put, List.setIfInBounds_toArray, List.set_cons_zero, List.set_cons_succ]
    -- 25: slot 44
    refine wpG_take preGr (i := 25) (v := ?_) (by kernel_rfl) (some 44) (by kernel_rfl) rfl (by kernel_rfl) (by kernel_rfl) (by kernel_rfl) (fun _ _ _ h => h) (by rfl) (fun w' hw' => ?_) rfl ?_
    rotate_left
    · go_simp
      with_reducible rfl
    simp only [Act.put, List.setIfInBounds_toArray, List.set_cons_zero, List.set_cons_succ]
    refine wpG_done (by kernel_rfl) ?_ _
    go_wp2_with fail
    refine (E3.out w3.drew (Gr.drew w3)).mono ?_
    rintro e w4 ⟨v4, rfl, ⟨us, hso, hus⟩, hb4⟩
    have hq4 : Below w3.heap.size w3 w4 := (Gr.drew w3).trans hb4
    have HB4 := Lib.hid (HB3.out.trans (hq4.mono HB3.out.size))
    have HT4 := Lib.hid (HT3.out.below hq4)
    have HS4 := Lib.hid (HS3.out.below hq4)
    obtain ⟨A4, C4, ev, _, _⟩ := hso.sr.rd.shape
    subst ev
    have SB := Lib.hid (sameBytes_true A4 A2 us.length (pickT ts t).length C4 C2 us (pickT ts t) w4 hso.sr HS4.out hus)
    rw [← HN.out] at SB
    clear hso hus hb4 hq4
    go_wp2_with fail
    refine SB.out.mono ?_
    rintro e w5 ⟨rfl, hb5⟩
    have HB5 := Lib.hid (HB4.out.trans (hb5.mono HB4.out.size))
    have HT5 := Lib.hid (HT4.out.below hb5)
    have E5 := Lib.hid (without_any a1 n c1 ts t w5 HT5.out hlen2 HSM.out)
    clear hb5
    go_wp2_with fail
    refine E5.out.mono ?_
    rintro e w6 ⟨v6, rfl, ⟨us6, hto6, hus6⟩, hb6⟩
    have HB6 := Lib.hid (HB5.out.trans (hb6.mono HB5.out.size))
    have HT6 := Lib.hid (HT5.out.below hb6)
    have HW6 := Lib.hid hto6.tr
    have HU6 := Lib.hid hus6
    obtain ⟨A6, C6, ev, _, _⟩ := hto6.tr.shape
    subst ev
    have E6 := Lib.hid (rwithout_any a1 n c1 ts t w6 HT6.out hlen2)
    clear hb6 hto6 hus6
    go_wp2_with fail
    refine E6.out.mono ?_
    rintro e w7 ⟨v7, rfl, hown7, hb7⟩
    have HB7 := Lib.hid (HB6.out.trans (hb7.mono HB6.out.size))
    have HT7 := Lib.hid (HT6.out.below hb7)
    have HW7 := Lib.hid (HW6.out.below hb7)
    have htr7 : TR w7 v7 (dropT ts t).length (dropT ts t) := ⟨own_rd hown7, fun y hy => HT7.out.vals y (drop_mem hy)⟩
    obtain ⟨A7, C7, ev, _, _⟩ := htr7.shape
    subst ev
    have SM := Lib.hid (same_true A6 A7 us6.length (dropT ts t).length C6 C7 us6 (dropT ts t) w7 HW7.out htr7 HU6.out)
    clear hb7 hown7 htr7
    go_wp2_with fail
    refine SM.out.mono ?_
    rintro e w8 ⟨rfl, hb8⟩
    have HB8 := Lib.hid (HB7.out.trans (hb8.mono HB7.out.size))
    clear hb8
    go_wp2_with fail
    refine (AW.out w8).mono ?_
    rintro e w9 ⟨rfl, hb9⟩
    have HB9 := Lib.hid (HB8.out.trans (hb9.mono HB8.out.size))
    clear hb9
    go_wp2
    go_ret
    exact ⟨rfl, HB9.out⟩
  · have e3 : findL ts t = x.l := by unfold findL; rw [hf]; rfl
    have hv3 := HV3.out
    rw [e3] at hv3
    obtain ⟨A3, L3, C3, ev, hL3, _, _⟩ := hv3.sl
    subst ev
    rw [hf]
    obtain ⟨N, hN⟩ : ∃ N, N = (pickT ts t).length := ⟨_, rfl⟩
    have hN0 : 0 < N := by rw [hN, hp]; simp
    have HN := Lib.hid hN
    have hS3 := HS3.out
    obtain ⟨b2, o2, eA, _, hc2⟩ := hS3.cells (by rw [← hN]; exact hN0)
    subst eA
    have hcx := hc2 0 (by rw [← hN]; exact hN0)
    have hvx := hS3.val 0 (by rw [← hN]; exact hN0)
    have ex : (pickT ts t)[0]'(by rw [← hN]; exact hN0) = x := by simp [hp]
    rw [ex] at hcx hvx
    rw [Nat.add_zero] at hcx
    obtain ⟨Ax, Lx, Cx, ev, _, _, _⟩ := hvx.sl
    rw [ev] at hcx hvx
    have HCX := Lib.hid hcx
    have HVX := Lib.hid hvx
    have HV3' := Lib.hid hv3
    rw [← hN]
    have hNi : (0 : Int) < (N : Int) := by omega
    clear hf hp e3 hv3 hL3 hN hS3 hc2 hcx hvx ex ev
    go_wp2_with fail
    refine wp_region_G 26 Gr (by kernel_rfl) ?_
    -- 0: slot 19
    refine wpG_take preGr (i := 0) (v := ?_) (by kernel_rfl) (some 19) (by kernel_rfl) rfl (by kernel_rfl) (by kernel_rfl) (by kernel_rfl) (fun _ _ _ h => h) (by rfl) (fun w' hw' => ?_) rfl ?_
    rotate_left
    · have g0 := cell_gr ((Gr.drew w3).trans hw') HCX.out
      have s1 := run_string_of (P := Try.prog) 24 9 5 Try.underlying24 Try.underlying5 Try.underlying9 (HV3'.out.below ((Gr.drew w3).trans hw'))
      have s2 := run_string_of (P := Try.prog) 24 9 5 Try.underlying24 Try.underlying5 Try.underlying9 (HVX.out.below ((Gr.drew w3).trans hw'))
      go_simp
      with_reducible rfl
    simp only [Act.put, List.setIfInBounds_toArray, List.set_cons_zero, List.set_cons_succ]
    -- 1: slot 20
    refine wpG_take preGr (i := 1) (v := ?_) (by kernel_rfl) (some 20) (by kernel_rfl) rfl (by kernel_rfl) (by kernel_rfl) (by kernel_rfl) (fun _ _ _ h => h) (by rfl) (fun w' hw' => ?_) rfl ?_
    rotate_left
    · have g0 := cell_gr ((Gr.drew w3).trans hw') HCX.out
      have s1 := run_string_of (P := Try.prog) 24 9 5 Try.underlying24 Try.underlying5 Try.underlying9 (HV3'.out.below ((Gr.drew w3).trans hw'))
      have s2 := run_string_of (P := Try.prog) 24 9 5 Try.underlying24 Try.underlying5 Try.underlying9 (HVX.out.below ((Gr.drew w3).trans hw'))
      go_simp
      with_reducible rfl
    simp only [Act.put, List.setIfInBounds_toArray, List.set_cons_zero, List.set_cons_succ]
    -- 2: slot 21
    refine wpG_take preGr (i := 2) (v := ?_) (by kernel_rfl) (some 21) (by kernel_rfl) rfl (by kernel_rfl) (by kernel_rfl) (by kernel_rfl) (fun _ _ _ h => h) (by rfl) (fun w' hw' => ?_) rfl ?_
    rotate_left
    · have g0 := cell_gr ((Gr.drew w3).trans hw') HCX.out
      have s1 := run_string_of (P := Try.prog) 24 9 5 Try.underlying24 Try.underlying5 Try.underlying9 (HV3'.out.below ((Gr.drew w3).trans hw'))
      have s2 := run_string_of (P := Try.prog) 24 9 5 Try.underlying24 Try.underlying5 Try.underlying9 (HVX.out.below ((Gr.drew w3).trans hw'))
      go_simp
      with_reducible rfl
    simp only [Act.put, List.setIfInBounds_toArray, List.set_cons_zero, List.set_cons_succ]
    -- 3: slot 22
    refine wpG_take preGr (i := 3) (v := ?_) (by kernel_rfl) (some 22) (by kernel_rfl) rfl (by kernel_rfl) (by kernel_rfl) (by kernel_rfl) (fun _ _ _ h => h) (by rfl) (fun w' hw' => ?_) rfl ?_
    rotate_left
    · have g0 := cell_gr ((Gr.drew w3).trans hw') HCX.out
      have s1 := run_string_of (P := Try.prog) 24 9 5 Try.underlying24 Try.underlying5 Try.underlying9 (HV3'.out.below ((Gr.drew w3).trans hw'))
      have s2 := run_string_of (P := Try.prog) 24 9 5 Try.underlying24 Try.underlying5 Try.underlying9 (HVX.out.below ((Gr.drew w3).trans hw'))
      go_simp
      with_reducible rfl
    simp only [Act.put, List.setIfInBounds_toArray, List.set_cons_zero, List.set_cons_succ]
    -- 4: slot 23
    refine wpG_take preGr (i := 4) (v := ?_) (by kernel_rfl) (some 23) (by kernel_rfl) rfl (by kernel_rfl) (by kernel_rfl) (by kernel_rfl) (fun _ _ _ h => h) (by rfl) (fun w' hw' => ?_) rfl ?_
    rotate_left
    · have g0 := cell_gr ((Gr.drew w3).trans hw') HCX.out
      have s1 := run_string_of (P := Try.prog) 24 9 5 Try.underlying24 Try.underlying5 Try.underlying9 (HV3'.out.below ((Gr.drew w3).trans hw'))
      have s2 := run_string_of (P := Try.prog) 24 9 5 Try.underlying24 Try.underlying5 Try.underlying9 (HVX.out.below ((Gr.drew w3).trans hw'))
      go_simp
      with_reducible rfl
    simp only [Act.put, List.setIfInBounds_toArray, List.set_cons_zero, List.set_cons_succ]
    -- 5: slot 24
    refine wpG_take preGr (i := 5) (v := ?_) (by kernel_rfl) (some 24) (by kernel_rfl) rfl (by kernel_rfl) (by kernel_rfl) (by kernel_rfl) (fun _ _ _ h => h) (by rfl) (fun w' hw' => ?_) rfl ?_
    rotate_left
    · have g0 := cell_gr ((Gr.drew w3).trans hw') HCX.out
      have s1 := run_string_of (P := Try.prog) 24 9 5 Try.underlying24 Try.underlying5 Try.underlying9 (HV3'.out.below ((Gr.drew w3).trans hw'))
      have s2 := run_string_of (P := Try.prog) 24 9 5 Try.underlying24 Try.underlying5 Try.underlying9 (HVX.out.below ((Gr.drew w3).trans hw'))
      go_simp
      with_reducible rfl
    simp only [Act.put, List.setIfInBounds_toArray, List.set_cons_zero, List.set_cons_succ]
    -- 6: slot 25
    refine wpG_take preGr (i := 6) (v := ?_) (by kernel_rfl) (some 25) (by kernel_rfl) rfl (by kernel_rfl) (by kernel_rfl) (by kernel_rfl) (fun _ _ _ h => h) (by rfl) (fun w' hw' => ?_) rfl ?_
    rotate_left
    · have g0 := cell_gr ((Gr.drew w3).trans hw') HCX.out
      have s1 := run_string_of (P := Try.prog) 24 9 5 Try.underlying24 Try.underlying5 Try.underlying9 (HV3'.out.below ((Gr.drew w3).trans hw'))
      have s2 := run_string_of (P := Try.prog) 24 9 5 Try.underlying24 Try.underlying5 Try.underlying9 (HVX.out.below ((Gr.drew w3).trans hw'))
      go_simp
      with_reducible rfl
    simp only [Act.put, List.setIfInBounds_toArray, List.set_cons_zero, List.set_cons_succ]
    -- 7: slot 26
    refine wpG_take preGr (i := 7) (v := ?_) (by kernel_rfl) (some 26) (by kernel_rfl) rfl (by kernel_rfl) (by kernel_rfl) (by kernel_rfl) (fun _ _ _ h => h) (by rfl) (fun w' hw' => ?_) rfl ?_
    rotate_left
    · have g0 := cell_gr ((Gr.drew w3).trans hw') HCX.out
      have s1 := run_string_of (P := Try.prog) 24 9 5 Try.underlying24 Try.underlying5 Try.underlying9 (HV3'.out.below ((Gr.drew w3).trans hw'))
      have s2 := run_string_of (P := Try.prog) 24 9 5 Try.underlying24 Try.underlying5 Try.underlying9 (HVX.out.below ((Gr.drew w3).trans hw'))
      go_simp
      with_reducible rfl
    simp only [Act.put, List.setIfInBounds_toArray, List.set_cons_zero, List.set_cons_succ]
    -- 8: slot 27
    refine wpG_take preGr (i := 8) (v := ?_) (by kernel_rfl) (some 27) (by kernel_rfl) rfl (by kernel_rfl) (by kernel_rfl) (by kernel_rfl) (fun _ _ _ h => h) (by rfl) (fun w' hw' => ?_) rfl ?_
    rotate_left
    · have g0 := cell_gr ((Gr.drew w3).trans hw') HCX.out
      have s1 := run_string_of (P := Try.prog) 24 9 5 Try.underlying24 Try.underlying5 Try.underlying9 (HV3'.out.below ((Gr.drew w3).trans hw'))
      have s2 := run_string_of (P := Try.prog) 24 9 5 Try.underlying24 Try.underlying5 Try.underlying9 (HVX.out.below ((Gr.drew w3).trans hw'))
      go_simp
      with_reducible rfl
    simp only [Act.put, List.setIfInBounds_toArray, List.set_cons_zero, List.set_cons_succ]
    -- 9: slot 28
    refine wpG_take preGr (i := 9) (v := ?_) (by kernel_rfl) (some 28) (by kernel_rfl) rfl (by kernel_rfl) (by kernel_rfl) (by kernel_rfl) (fun _ _ _ h => h) (by rfl) (fun w' hw' => ?_) rfl ?_
    rotate_left
    · have g0 := cell_gr ((Gr.drew w3).trans hw') HCX.out
      have s1 := run_string_of (P := Try.prog) 24 9 5 Try.underlying24 Try.underlying5 Try.underlying9 (HV3'.out.below ((Gr.drew w3).trans hw'))
      have s2 := run_string_of (P := Try.prog) 24 9 5 Try.underlying24 Try.underlying5 Try.underlying9 (HVX.out.below ((Gr.drew w3).trans hw'))
      go_simp
      with_reducible rfl
    simp only [Act.put, List.setIfInBounds_toArray, List.set_cons_zero, List.set_cons_succ]
    -- 10: slot 29
    refine wpG_take preGr (i := 10) (v := ?_) (by kernel_rfl) (some 29) (by kernel_rfl) rfl (by kernel_rfl) (by kernel_rfl) (by kernel_rfl) (fun _ _ _ h => h) (by rfl) (fun w' hw' => ?_) rfl ?_
    rotate_left
    · have g0 := cell_gr ((Gr.drew w3).trans hw') HCX.out
      have s1 := run_string_of (P := Try.prog) 24 9 5 Try.underlying24 Try.underlying5 Try.underlying9 (HV3'.out.below ((Gr.drew w3).trans hw'))
      have s2 := run_string_of (P := Try.prog) 24 9 5 Try.underlying24 Try.underlying5 Try.underlying9 (HVX.out.below ((Gr.drew w3).trans hw'))
      go_simp
      with_reducible rfl
    simp only [Act.put, List.setIfInBounds_toArray, List.set_cons_zero, List.set_cons_succ]
    -- 11: slot 30
    refine wpG_take preGr (i := 11) (v := ?_) (by kernel_rfl) (some 30) (by kernel_rfl) rfl (by kernel_rfl) (by kernel_rfl) (by kernel_rfl) (fun _ _ _ h => h) (by rfl) (fun w' hw' => ?_) rfl ?_
    rotate_left
    · have g0 := cell_gr ((Gr.drew w3).trans hw') HCX.out
      have s1 := run_string_of (P := Try.prog) 24 9 5 Try.underlying24 Try.underlying5 Try.underlying9 (HV3'.out.below ((Gr.drew w3).trans hw'))
      have s2 := run_string_of (P := Try.prog) 24 9 5 Try.underlying24 Try.underlying5 Try.underlying9 (HVX.out.below ((Gr.drew w3).trans hw'))
      go_simp
      with_reducible rfl
    simp only [Act.put, List.setIfInBounds_toArray, List.set_cons_zero, List.set_cons_succ]
    -- 12: slot 31
    refine wpG_take preGr (i := 12) (v := ?_) (by kernel_rfl) (some 31) (by kernel_rfl) rfl (by kernel_rfl) (by kernel_rfl) (by kernel_rfl) (fun _ _ _ h => h) (by rfl) (fun w' hw' => ?_) rfl ?_
    rotate_left
    · have g0 := cell_gr ((Gr.drew w3).trans hw') HCX.out
      have s1 := run_string_of (P := Try.prog) 24 9 5 Try.underlying24 Try.underlying5 Try.underlying9 (HV3'.out.below ((Gr.drew w3).trans hw'))
      have s2 := run_string_of (P := Try.prog) 24 9 5 Try.underlying24 Try.underlying5 Try.underlying9 (HVX.out.below ((Gr.drew w3).trans hw'))
      go_simp
      with_reducible rfl
    simp only [Act.put, List.setIfInBounds_toArray, List.set_cons_zero, List.set_cons_succ]
    -- 13: slot 32
    refine wpG_take preGr (i := 13) (v := ?_) (by kernel_rfl) (some 32) (by kernel_rfl) rfl (by kernel_rfl) (by kernel_rfl) (by kernel_rfl) (fun _ _ _ h => h) (by rfl) (fun w' hw' => ?_) rfl ?_
    rotate_left
    · have g0 := cell_gr ((Gr.drew w3).trans hw') HCX.out
      have s1 := run_string_of (P := Try.prog) 24 9 5 Try.underlying24 Try.underlying5 Try.underlying9 (HV3'.out.below ((Gr.drew w3).trans hw'))
      have s2 := run_string_of (P := Try.prog) 24 9 5 Try.underlying24 Try.underlying5 Try.underlying9 (HVX.out.below ((Gr.drew w3).trans hw'))
      go_simp
      with_reducible rfl
    simp only [Act.put, List.setIfInBounds_toArray, List.set_cons_zero, List.set_cons_succ]
    -- 14: slot 33
    refine wpG_take preGr (i := 14) (v := ?_) (by kernel_rfl) (some 33) (by kernel_rfl) rfl (by kernel_rfl) (by kernel_rfl) (by kernel_rfl) (fun _ _ _ h => h) (by rfl) (fun w' hw' => ?_) rfl ?_
    rotate_left
    · have g0 := cell_gr ((Gr.drew w3).trans hw') HCX.out
      have s1 := run_string_of (P := Try.prog) 24 9 5 Try.underlying24 Try.underlying5 Try.underlying9 (HV3'.out.below ((Gr.drew w3).trans hw'))
      have s2 := run_string_of (P := Try.prog) 24 9 5 Try.underlying24 Try.underlying5 Try.underlying9 (HVX.out.below ((Gr.drew w3).trans hw'))
      go_simp
      with_reducible rfl
    simp only [Act.put, List.setIfInBounds_toArray, List.set_cons_zero, List.set_cons_succ]
    -- 15: slot 34
    refine wpG_take preGr (i := 15) (v := ?_) (by kernel_rfl) (some 34) (by kernel_rfl) rfl (by kernel_rfl) (by kernel_rfl) (by kernel_rfl) (fun _ _ _ h => h) (by rfl) (fun w' hw' => ?_) rfl ?_
    rotate_left
    · have g0 := cell_gr ((Gr.drew w3).trans hw') HCX.out
      have s1 := run_string_of (P := Try.prog) 24 9 5 Try.underlying24 Try.underlying5 Try.underlying9 (HV3'.out.below ((Gr.drew w3).trans hw'))
      have s2 := run_string_of (P := Try.prog) 24 9 5 Try.underlying24 Try.underlying5 Try.underlying9 (HVX.out.below ((Gr.drew w3).trans hw'))
      go_simp
      with_reducible rfl
    simp only [Act.put, List.setIfInBounds_toArray, List.set_cons_zero, List.set_cons_succ]
    -- 16: slot 35
    refine wpG_take preGr (i := 16) (v := ?_) (by kernel_rfl) (some 35) (by kernel_rfl) rfl (by kernel_rfl) (by kernel_rfl) (by kernel_rfl) (fun _ _ _ h => h) (by rfl) (fun w' hw' => ?_) rfl ?_
    rotate_left
    · have g0 := cell_gr ((Gr.drew w3).trans hw') HCX.out
      have s1 := run_string_of (P := Try.prog) 24 9 5 Try.underlying24 Try.underlying5 Try.underlying9 (HV3'.out.below ((Gr.drew w3).trans hw'))
      have s2 := run_string_of (P := Try.prog) 24 9 5 Try.underlying24 Try.underlying5 Try.underlying9 (HVX.out.below ((Gr.drew w3).trans hw'))
      go_simp
      with_reducible rfl
    simp only [Act.put, List.setIfInBounds_toArray, List.set_cons_zero, List.set_cons_succ]
    -- 17: slot 36
    refine wpG_take preGr (i := 17) (v := ?_) (by kernel_rfl) (some 36) (by kernel_rfl) rfl (by kernel_rfl) (by kernel_rfl) (by kernel_rfl) (fun _ _ _ h => h) (by rfl) (fun w' hw' => ?_) rfl ?_
    rotate_left
    · have g0 := cell_gr ((Gr.drew w3).trans hw') HCX.out
      have s1 := run_string_of (P := Try.prog) 24 9 5 Try.underlying24 Try.underlying5 Try.underlying9 (HV3'.out.below ((Gr.drew w3).trans hw'))
      have s2 := run_string_of (P := Try.prog) 24 9 5 Try.underlying24 Try.underlying5 Try.underlying9 (HVX.out.below ((Gr.drew w3).trans hw'))
      go_simp
      with_reducible rfl
    simp only [Act.put, List.setIfInBounds_toArray, List.set_cons_zero, List.set_cons_succ]
    -- 18: slot 37
    refine wpG_take preGr (i := 18) (v := ?_) (by kernel_rfl) (some 37) (by kernel_rfl) rfl (by kernel_rfl) (by kernel_rfl) (by kernel_rfl) (fun _ _ _ h => h) (by rfl) (fun w' hw' => ?_) rfl ?_
    rotate_left
    · have g0 := cell_gr ((Gr.drew w3).trans hw') HCX.out
      have s1 := run_string_of (P := Try.prog) 24 9 5 Try.underlying24 Try.underlying5 Try.underlying9 (HV3'.out.below ((Gr.drew w3).trans hw'))
      have s2 := run_string_of (P := Try.prog) 24 9 5 Try.underlying24 Try.underlying5 Try.underlying9 (HVX.out.below ((Gr.drew w3).trans hw'))
      go_simp
      with_reducible rfl
    simp only [Act.put, List.setIfInBounds_toArray, List.set_cons_zero, List.set_cons_succ]
    -- 19: slot 38
    refine wpG_take preGr (i := 19) (v := ?_) (by kernel_rfl) (some 38) (by kernel_rfl) rfl (by kernel_rfl) (by kernel_rfl) (by kernel_rfl) (fun _ _ _ h => h) (by rfl) (fun w' hw' => ?_) rfl ?_
    rotate_left
    · have g0 := cell_gr ((Gr.drew w3).trans hw') HCX.out
      have s1 := run_string_of (P := Try.prog) 24 9 5 Try.underlying24 Try.underlying5 Try.underlying9 (HV3'.out.below ((Gr.drew w3).trans hw'))
      have s2 := run_string_of (P := Try.prog) 24 9 5 Try.underlying24 Try.underlying5 Try.underlying9 (HVX.out.below ((Gr.drew w3).trans hw'))
      go_simp
      with_reducible rfl
    simp only [Act.put, List.setIfInBounds_toArray, List.set_cons_zero, List.set_cons_succ]
    -- 20: slot 39
    refine wpG_take preGr (i := 20) (v := ?_) (by kernel_rfl) (some 39) (by kernel_rfl) rfl (by kernel_rfl) (by kernel_rfl) (by kernel_rfl) (fun _ _ _ h => h) (by rfl) (fun w' hw' => ?_) rfl ?_
    rotate_left
    · have g0 := cell_gr ((Gr.drew w3).trans hw') HCX.out
      have s1 := run_string_of (P := Try.prog) 24 9 5 Try.underlying24 Try.underlying5 Try.underlying9 (HV3'.out.below ((Gr.drew w3).trans hw'))
      have s2 := run_string_of (P := Try.prog) 24 9 5 Try.underlying24 Try.underlying5 Try.underlying9 (HVX.out.below ((Gr.drew w3).trans hw'))
      go_simp
      with_reducible rfl
    simp only [Act.put, List.setIfInBounds_toArray, List.set_cons_zero, List.set_cons_succ]
    refine wpG_pass preGr (i := 21) (by kernel_rfl) (some 40) (by kernel_rfl) rfl (by kernel_rfl) (by kernel_rfl) (by kernel_rfl) (fun _ _ _ h => h) (by rfl) rfl ?_
    simp only [Act.put, List.setIfInBounds_toArray, List.set_cons_zero, List.set_cons_succ]
    refine wpG_pass preGr (i := 22) (by kernel_rfl) (some 41) (by kernel_rfl) rfl (by kernel_rfl) (by kernel_rfl) (by kernel_rfl) (fun _ _ _ h => h) (by rfl) rfl ?_
    simp only [Act.put, List.setIfInBounds_toArray, List.set_cons_zero, List.set_cons_succ]
    refine wpG_pass preGr (i := 23) (by kernel_rfl) (some 42) (by kernel_rfl) rfl (by kernel_rfl) (by kernel_rfl) (by kernel_rfl) (fun _ _ _ h => h) (by rfl) rfl ?_
    simp only [Act.put, List.setIfInBounds_toArray, List.set_cons_zero, List.set_cons_succ]
    -- 24: slot 43
    refine wpG_take preGr (i := 24) (v := ?_) (by kernel_rfl) (some 43) (by kernel_rfl) rfl (by kernel_rfl) (by kernel_rfl) (by kernel_rfl) (fun _ _ _ h => h) (by rfl) (fun w' hw' => ?_) rfl ?_
    rotate_left
    · have g0 := cell_gr ((Gr.drew w3).trans hw') HCX.out
      have s1 := run_string_of (P := Try.prog) 24 9 5 Try.underlying24 Try.underlying5 Try.underlying9 (HV3'.out.below ((Gr.drew w3).trans hw'))
      have s2 := run_string_of (P := Try.prog) 24 9 5 Try.underlying24 Try.underlying5 Try.underlying9 (HVX.out.below ((Gr.drew w3).trans hw'))
      go_simp
      with_reducible rfl
    simp only [Act.put, List.setIfInBounds_toArray, List.set_cons_zero, List.set_cons_succ]
    -- 25: slot 44
    refine wpG_take preGr (i := 25) (v := ?_) (by kernel_rfl) (some 44) (by kernel_rfl) rfl (by kernel_rfl) (by kernel_rfl) (by kernel_rfl) (fun _ _ _ h => h) (by rfl) (fun w' hw' => ?_) rfl ?_
    rotate_left
    · have g0 := cell_gr ((Gr.drew w3).trans hw') HCX.out
      have s1 := run_string_of (P := Try.prog) 24 9 5 Try.underlying24 Try.underlying5 Try.underlying9 (HV3'.out.below ((Gr.drew w3).trans hw'))
      have s2 := run_string_of (P := Try.prog) 24 9 5 Try.underlying24 Try.underlying5 Try.underlying9 (HVX.out.below ((Gr.drew w3).trans hw'))
      go_simp
      with_reducible rfl
    simp only [Act.put, List.setIfInBounds_toArray, List.set_cons_zero, List.set_cons_succ]
    refine wpG_done (by kernel_rfl) ?_ _
    go_wp2_with fail
    refine (E3.out w3.drew (Gr.drew w3)).mono ?_
    rintro e w4 ⟨v4, rfl, ⟨us, hso, hus⟩, hb4⟩
    have hq4 : Below w3.heap.size w3 w4 := (Gr.drew w3).trans hb4
    have HB4 := Lib.hid (HB3.out.trans (hq4.mono HB3.out.size))
    have HT4 := Lib.hid (HT3.out.below hq4)
    have HS4 := Lib.hid (HS3.out.below hq4)
    obtain ⟨A4, C4, ev, _, _⟩ := hso.sr.rd.shape
    subst ev
    have SB := Lib.hid (sameBytes_true A4 (some ⟨b2, o2, none⟩) us.length (pickT ts t).length C4 C2 us (pickT ts t) w4 hso.sr HS4.out hus)
    rw [← HN.out] at SB
    clear hso hus hb4 hq4
    go_wp2_with fail
    refine SB.out.mono ?_
    rintro e w5 ⟨rfl, hb5⟩
    have HB5 := Lib.hid (HB4.out.trans (hb5.mono HB4.out.size))
    have HT5 := Lib.hid (HT4.out.below hb5)
    have E5 := Lib.hid (without_any a1 n c1 ts t w5 HT5.out hlen2 HSM.out)
    clear hb5
    go_wp2_with fail
    refine E5.out.mono ?_
    rintro e w6 ⟨v6, rfl, ⟨us6, hto6, hus6⟩, hb6⟩
    have HB6 := Lib.hid (HB5.out.trans (hb6.mono HB5.out.size))
    have HT6 := Lib.hid (HT5.out.below hb6)
    have HW6 := Lib.hid hto6.tr
    have HU6 := Lib.hid hus6
    obtain ⟨A6, C6, ev, _, _⟩ := hto6.tr.shape
    subst ev
    have E6 := Lib.hid (rwithout_any a1 n c1 ts t w6 HT6.out hlen2)
    clear hb6 hto6 hus6
    go_wp2_with fail
    refine E6.out.mono ?_
    rintro e w7 ⟨v7, rfl, hown7, hb7⟩
    have HB7 := Lib.hid (HB6.out.trans (hb7.mono HB6.out.size))
    have HT7 := Lib.hid (HT6.out.below hb7)
    have HW7 := Lib.hid (HW6.out.below hb7)
    have htr7 : TR w7 v7 (dropT ts t).length (dropT ts t) := ⟨own_rd hown7, fun y hy => HT7.out.vals y (drop_mem hy)⟩
    obtain ⟨A7, C7, ev, _, _⟩ := htr7.shape
    subst ev
    have SM := Lib.hid (same_true A6 A7 us6.length (dropT ts t).length C6 C7 us6 (dropT ts t) w7 HW7.out htr7 HU6.out)
    clear hb7 hown7 htr7
    go_wp2_with fail
    refine SM.out.mono ?_
    rintro e w8 ⟨rfl, hb8⟩
    have HB8 := Lib.hid (HB7.out.trans (hb8.mono HB7.out.size))
    clear hb8
    go_wp2_with fail
    refine (AW.out w8).mono ?_
    rintro e w9 ⟨rfl, hb9⟩
    have HB9 := Lib.hid (HB8.out.trans (hb9.mono HB8.out.size))
    clear hb9
    go_wp2
    go_ret
    exact ⟨rfl, HB9.out⟩

theorem own : ownKnob Try.prog.godebug = none := by kernel_rfl
theorem laidOut : laidOutB Try.prog = true := by kernel_rfl
set_option maxRecDepth 100000 in
theorem lifted (os : Os) (started : os.Started) (H : Type) (enc : TypeId × Value → H) :
    ReturnsInHanded {} Try.checked os 6 .any (Rows.tagsFindSpec.pre6 enc Try.prog Try.f6 Rows.tagsFindRow.domain false) (Rows.tagsFindSpec.post enc Try.prog Try.f6 false true false false) := by
  refine returnsInHanded_of_change (C := Try.checked) own started (by kernel_rfl) Try.func6
    (ChangeSpec.witness6 (enc := enc) (C := Try.checked) false ⟨#[], #[.slice none 0 0, .int .i64 0], []⟩ 8 (by kernel_rfl) (by kernel_rfl) (by kernel_rfl) (by kernel_rfl)) ?_
  intro W base args ds gs before hval0 hW hcnd _
  have hval : ∀ (j : Nat) t v, Try.f6.params[j]? = some t → args[j]? = some v → Value.okWide Try.prog W .any base t v := hval0
  have hW' := hW
  obtain ⟨p, q, hA0, hV, rfl, hfz, hnd⟩ := hW
  have hA : DataW.TrodAll enc Try.prog W 0 (fun _ => true) true Try.f6.params.toList args.toList ds p := hA0
  rw [Try.params6] at hA hval
  obtain ⟨v0, vs0, d0, ds0, p0, q0, hargs, rfl, rfl, h0, r0⟩ := trodAll_cons hA
  obtain ⟨v1, vs1, d1, ds1, p1, q1, rfl, rfl, rfl, h1, r1⟩ := trodAll_cons r0
  obtain ⟨rfl, rfl, rfl⟩ := trodAll_nil r1
  obtain rfl : args = #[v0, v1] := by cases args; simp_all
  obtain ⟨rfl, rfl⟩ := trodVars_none hV
  have k0 := h0
  have lt0 : ∀ x ∈ p0, x.block < W.heap.size := by obtain ⟨m, hm⟩ := k0; exact DataW.trod_lt m _ _ _ hm
  obtain ⟨a0, n0, c0, ts0, rfl, b0⟩ := open_tags Try.underlying22 Try.underlying34 ⟨rfl, rfl⟩ Try.underlying3 Try.underlying24 Try.underlying5 ⟨by kernel_rfl, by kernel_rfl, by kernel_rfl, by kernel_rfl⟩ (hval 0 22 v0 rfl rfl) h0
  have k1 := h1
  have lt1 : ∀ x ∈ p1, x.block < W.heap.size := by obtain ⟨m, hm⟩ := k1; exact DataW.trod_lt m _ _ _ hm
  obtain ⟨a1, rfl, rfl, rfl, w1⟩ := open_int Try.underlying3 (hval 1 3 v1 rfl rfl) h1
  clear hA0 hval0
  refine (walk W a0 n0 c0 ts0 b0 a1 w1).mono fun e W' ⟨he, bel⟩ => ?_
  subst he
  exact ⟨_, rfl, _, _, _, [], _, [], hW', trodAll_mk1 (shut_bool Try.underlying4 _), (trodAll_cons_mk (Below.trod laidOut (by kernel_rfl) (of_decide_eq_true (by kernel_rfl)) k0 bel lt0) (trodAll_cons_mk (Below.trod laidOut (by kernel_rfl) (of_decide_eq_true (by kernel_rfl)) k1 bel lt1) trodAll_mk0)), rfl, bel.frame _, fun h => by cases h⟩
theorem over : Rows.tagsFindRow.holds Try.pinned (OpenSpec.ofChange Rows.tagsFindSpec) :=
  OpenClaim.holds_of_wide 6 Try.f6 rfl rfl rfl rfl rfl rfl rfl ⟨rfl, rfl, rfl, rfl, rfl⟩ rfl rfl rfl rfl rfl (by kernel_rfl) Try.func6 (by kernel_rfl)
    (of_decide_eq_true (by kernel_rfl)) (by unfold Func.isWrapper; first | (rw [if_pos (by decide +kernel)]; kernel_rfl) | (rw [if_neg (by decide +kernel)]; exact ⟨rfl, rfl⟩))
    (fun os started H enc _ => lifted os started H enc)
/-- The statement. -/
theorem proved : Rows.TagsFindSaid := over
end Go.Proofs.Ytlpafphlecajhaa.tagsFind
