/-
  The document's Taken: those that are taken, put in one after another.
-/
import Derived.Test.YtpafcabcnkmadaaIdDg
namespace Go.Proofs.Ytpafcabcnkmadaa.Id
open Go.RowKit
set_option linter.unusedVariables false
set_option linter.unusedSimpArgs false

theorem put_at {x : Int} : ∀ (l : List Int) (k : Nat) (hk : k ≤ l.length), (∀ j, (hj : j < k) → (h2 : j < l.length) → l[j] < x) → (∀ (h2 : k < l.length), ¬ l[k] < x) → put x l = l.take k ++ x :: l.drop k
  | [], k, hk, _, _ => by simp [put]
  | y :: l, 0, hk, _, h => by
    have h1 : ¬ y < x := h (by simp)
    simp [put, h1]
  | y :: l, k + 1, hk, ha, h => by
    have h1 : y < x := ha 0 (by omega) (by simp)
    have := put_at l k (by simpa using hk) (fun j hj h2 => by
      have := ha (j + 1) (by omega) (by simpa using h2)
      simpa using this) fun h2 => by
        have := h (by simpa using h2)
        simpa using this
    simp [put, h1, this]
theorem sorted_take (l : List Int) (i : Nat) (hi : i < l.length) : sorted (l.take (i + 1)) = put l[i] (sorted (l.take i)) := by
  unfold sorted
  rw [List.take_succ_eq_append_getElem hi, List.foldl_append]
  rfl
theorem put_length (x : Int) : ∀ l : List Int, (put x l).length = l.length + 1
  | [] => rfl
  | y :: l => by
    unfold put
    split
    · rw [List.length_cons, put_length x l, List.length_cons]
    · simp
theorem sorted_length (l : List Int) : (sorted l).length = l.length := by
  unfold sorted
  have h : ∀ (l m : List Int), (l.foldl (fun l x => put x l) m).length = m.length + l.length := by
    intro l
    induction l with
    | nil => intro m; simp
    | cons x l ih => intro m; rw [List.foldl_cons, ih, put_length, List.length_cons]; omega
  rw [h]; simp
set_option maxRecDepth 20000 in
set_option maxHeartbeats 8000000 in
theorem dtaken_any (g : Nat) {rv uv ev : Value} {S : Al} (w : World) (h : DQ w g rv uv ev S) (hlu : S.used.length ≤ 65534) :
    Calls Try.prog 30 #[.pointer (some ⟨g, 0, none⟩)] w fun e w' => ∃ v, e = .returned v ∧ IR w' v (sorted S.used) ∧ Below w.heap.size w w' ∧ ∀ k ∈ blk v, w.heap.size ≤ k := by
  obtain ⟨i0, hi0, hz0, hz1, hz2⟩ := info_parts infoI
  have HD := Lib.hid h
  obtain ⟨a, c, euv, hc1, hc2⟩ := h.doc.u.shape
  obtain ⟨n, hn⟩ : ∃ n, n = S.used.length := ⟨_, rfl⟩
  rw [← hn] at euv hlu
  have HEU := Lib.hid euv
  have HN := Lib.hid hn
  have hs0 : w.ownsRow w.heap.size 3 1 (.slice none 0 0) 0 [] := World.ownsRow_nil w w.heap.size 3 1
  have HS := Lib.hid hs0
  clear h hn euv hc1 hc2 hs0
  go_enter Try.func30, Try.ntmps30
  go_wp2_with fail
  go_loopw [3, 4] (fun lv iv wr => ∃ i : Nat, i ≤ n ∧ iv = .int .i64 (i : Int) ∧ wr.ownsRow w.heap.size 3 1 lv i (ints (sorted (S.used.take i))) ∧ Below w.heap.size w wr) (fun _ iv _ => n - (intOf iv).toNat)
  case atStart => exact ⟨0, Nat.zero_le _, rfl, by have := HS.out; simpa [sorted, ints] using this, Below.refl _ _⟩
  case round =>
    clear HS
    obtain ⟨i, hin, rfl, how, hbe⟩ := hrel
    obtain ⟨A, C, elv, hC1, hC2⟩ := (own_rd how).shape
    subst elv
    have HOW := Lib.hid how
    have HB := Lib.hid hbe
    have hq := HD.out.gr hbe
    have hud := hq.doc.u
    have HCELLS : Hid (∀ w', Gr wr w' → w'.cell? ⟨g, 4, none⟩ = some (.slice a n c)) := fun w' hw => by
      rw [← HEU.out]
      exact (cells6 (hq.gr hw).doc.row).2.2.2.2.1
    have k4 := HCELLS.out wr (Gr.refl _)
    rw [HEU.out] at hud
    have HU := Lib.hid hud
    clear how hbe hq hud
    by_cases hlt : i < n
    · have hil : i < S.used.length := by rw [← HN.out]; exact hlt
      obtain ⟨b, o, ea, hcel⟩ := IR.at HU.out HN.out (by omega)
      subst ea
      obtain ⟨x, hx⟩ : ∃ x, x = S.used[i] := ⟨_, rfl⟩
      have hcx := hcel i hil
      rw [← hx] at hcx
      have HCX := Lib.hid hcx
      obtain ⟨L, hL⟩ : ∃ L, L = sorted (S.used.take i) := ⟨_, rfl⟩
      have hLl : i = L.length := by rw [hL, sorted_length, List.length_take]; omega
      have hLn : Hid (sorted (S.used.take (i + 1)) = put x L) := by show _ = _; rw [sorted_take _ _ hil, hx, hL]
      rw [← hL] at HOW
      have HLL := Lib.hid hLl
      have HL : Hid (Rd wr 1 (.slice A i C) i (ints L)) := own_rd HOW.out
      clear hcel hx hcx hL hLl hC1 hC2 HU
      go_wp2_with fail
      obtain ⟨wo, hwo⟩ : ∃ x, x = wr := ⟨_, rfl⟩
      subst hwo
      go_loopw [5] (fun kv wr => ∃ k : Nat, k ≤ i ∧ kv = .int .i64 (k : Int) ∧ (∀ j, (hj : j < k) → (h2 : j < L.length) → L[j] < x) ∧ Gr wo wr) (fun kv _ => i - (intOf kv).toNat)
      case atStart => exact ⟨0, Nat.zero_le _, rfl, fun j hj => by omega, Gr.refl _⟩
      case round =>
        obtain ⟨k, hki, rfl, hall, hgq⟩ := hrel
        have HALL := Lib.hid hall
        have HGQ := Lib.hid hgq
        clear hall hgq
        by_cases hlk : k < i
        · have hkl : k < L.length := by rw [← HLL.out]; exact hlk
          obtain ⟨b2, o2, ea2, hcel2⟩ := IR.at (show IR wo (.slice A i C) L by unfold IR; rw [← HLL.out]; exact HL.out) HLL.out (by omega)
          subst ea2
          obtain ⟨y, hy⟩ : ∃ y, y = L[k] := ⟨_, rfl⟩
          have hcy := hcel2 k hkl
          rw [← hy] at hcy
          have HCY := Lib.hid hcy
          have HY := Lib.hid hy
          clear hcel2 hcy hy
          by_cases hyx : y < x
          · have HALL2 : Hid (∀ j, (hj : j < k + 1) → (h2 : j < L.length) → L[j] < x) := fun j hj h2 => by
              by_cases e : j = k
              · subst e; rw [← HY.out]; exact hyx
              · exact HALL.out j (by omega) h2
            have hle : k + 1 ≤ i := by omega
            go_upto_region 6 with fail
            have HC : Hid (Gr wo wr.drew) := Gr.trans HGQ.out (Gr.drew wr)
            refine wp_region_G 18 Gr (by kernel_rfl) ?_
            generalize wr.drew = wc at HC ⊢
            -- 0: slot 15
            refine wpG_take preGr (i := 0) (v := ?_) (by kernel_rfl) (some 15) (by kernel_rfl) rfl (by kernel_rfl) (by kernel_rfl) (by kernel_rfl) (fun _ _ _ h => h) (by rfl) (fun w' hw' => ?_) rfl ?_
            rotate_left
            · try (have d0 := cell_gr (Gr.trans HC.out hw') HCX.out; have d1 := cell_gr (Gr.trans HC.out hw') HCY.out; have d4 := HCELLS.out _ (Gr.trans HC.out hw'))
              go_simp
              with_reducible rfl
            simp only [Act.put, List.setIfInBounds_toArray, List.set_cons_zero, List.set_cons_succ]
            -- 1: slot 16
            refine wpG_take preGr (i := 1) (v := ?_) (by kernel_rfl) (some 16) (by kernel_rfl) rfl (by kernel_rfl) (by kernel_rfl) (by kernel_rfl) (fun _ _ _ h => h) (by rfl) (fun w' hw' => ?_) rfl ?_
            rotate_left
            · try (have d0 := cell_gr (Gr.trans HC.out hw') HCX.out; have d1 := cell_gr (Gr.trans HC.out hw') HCY.out; have d4 := HCELLS.out _ (Gr.trans HC.out hw'))
              go_simp
              with_reducible rfl
            simp only [Act.put, List.setIfInBounds_toArray, List.set_cons_zero, List.set_cons_succ]
            -- 2: slot 17
            refine wpG_take preGr (i := 2) (v := ?_) (by kernel_rfl) (some 17) (by kernel_rfl) rfl (by kernel_rfl) (by kernel_rfl) (by kernel_rfl) (fun _ _ _ h => h) (by rfl) (fun w' hw' => ?_) rfl ?_
            rotate_left
            · try (have d0 := cell_gr (Gr.trans HC.out hw') HCX.out; have d1 := cell_gr (Gr.trans HC.out hw') HCY.out; have d4 := HCELLS.out _ (Gr.trans HC.out hw'))
              go_simp
              with_reducible rfl
            simp only [Act.put, List.setIfInBounds_toArray, List.set_cons_zero, List.set_cons_succ]
            -- 3: slot 18
            refine wpG_take preGr (i := 3) (v := ?_) (by kernel_rfl) (some 18) (by kernel_rfl) rfl (by kernel_rfl) (by kernel_rfl) (by kernel_rfl) (fun _ _ _ h => h) (by rfl) (fun w' hw' => ?_) rfl ?_
            rotate_left
            · try (have d0 := cell_gr (Gr.trans HC.out hw') HCX.out; have d1 := cell_gr (Gr.trans HC.out hw') HCY.out; have d4 := HCELLS.out _ (Gr.trans HC.out hw'))
              go_simp
              with_reducible rfl
            simp only [Act.put, List.setIfInBounds_toArray, List.set_cons_zero, List.set_cons_succ]
            -- 4: slot 19
            refine wpG_take preGr (i := 4) (v := ?_) (by kernel_rfl) (some 19) (by kernel_rfl) rfl (by kernel_rfl) (by kernel_rfl) (by kernel_rfl) (fun _ _ _ h => h) (by rfl) (fun w' hw' => ?_) rfl ?_
            rotate_left
            · try (have d0 := cell_gr (Gr.trans HC.out hw') HCX.out; have d1 := cell_gr (Gr.trans HC.out hw') HCY.out; have d4 := HCELLS.out _ (Gr.trans HC.out hw'))
              go_simp
              with_reducible rfl
            simp only [Act.put, List.setIfInBounds_toArray, List.set_cons_zero, List.set_cons_succ]
            -- 5: slot 20
            refine wpG_take preGr (i := 5) (v := ?_) (by kernel_rfl) (some 20) (by kernel_rfl) rfl (by kernel_rfl) (by kernel_rfl) (by kernel_rfl) (fun _ _ _ h => h) (by rfl) (fun w' hw' => ?_) rfl ?_
            rotate_left
            · try (have d0 := cell_gr (Gr.trans HC.out hw') HCX.out; have d1 := cell_gr (Gr.trans HC.out hw') HCY.out; have d4 := HCELLS.out _ (Gr.trans HC.out hw'))
              go_simp
              with_reducible rfl
            simp only [Act.put, List.setIfInBounds_toArray, List.set_cons_zero, List.set_cons_succ]
            -- 6: slot 21
            refine wpG_take preGr (i := 6) (v := ?_) (by kernel_rfl) (some 21) (by kernel_rfl) rfl (by kernel_rfl) (by kernel_rfl) (by kernel_rfl) (fun _ _ _ h => h) (by rfl) (fun w' hw' => ?_) rfl ?_
            rotate_left
            · try (have d0 := cell_gr (Gr.trans HC.out hw') HCX.out; have d1 := cell_gr (Gr.trans HC.out hw') HCY.out; have d4 := HCELLS.out _ (Gr.trans HC.out hw'))
              go_simp
              with_reducible rfl
            simp only [Act.put, List.setIfInBounds_toArray, List.set_cons_zero, List.set_cons_succ]
            -- 7: slot 22
            refine wpG_take preGr (i := 7) (v := ?_) (by kernel_rfl) (some 22) (by kernel_rfl) rfl (by kernel_rfl) (by kernel_rfl) (by kernel_rfl) (fun _ _ _ h => h) (by rfl) (fun w' hw' => ?_) rfl ?_
            rotate_left
            · try (have d0 := cell_gr (Gr.trans HC.out hw') HCX.out; have d1 := cell_gr (Gr.trans HC.out hw') HCY.out; have d4 := HCELLS.out _ (Gr.trans HC.out hw'))
              go_simp
              with_reducible rfl
            simp only [Act.put, List.setIfInBounds_toArray, List.set_cons_zero, List.set_cons_succ]
            -- 8: slot 23
            refine wpG_take preGr (i := 8) (v := ?_) (by kernel_rfl) (some 23) (by kernel_rfl) rfl (by kernel_rfl) (by kernel_rfl) (by kernel_rfl) (fun _ _ _ h => h) (by rfl) (fun w' hw' => ?_) rfl ?_
            rotate_left
            · try (have d0 := cell_gr (Gr.trans HC.out hw') HCX.out; have d1 := cell_gr (Gr.trans HC.out hw') HCY.out; have d4 := HCELLS.out _ (Gr.trans HC.out hw'))
              go_simp
              with_reducible rfl
            simp only [Act.put, List.setIfInBounds_toArray, List.set_cons_zero, List.set_cons_succ]
            -- 9: slot 24
            refine wpG_take preGr (i := 9) (v := ?_) (by kernel_rfl) (some 24) (by kernel_rfl) rfl (by kernel_rfl) (by kernel_rfl) (by kernel_rfl) (fun _ _ _ h => h) (by rfl) (fun w' hw' => ?_) rfl ?_
            rotate_left
            · try (have d0 := cell_gr (Gr.trans HC.out hw') HCX.out; have d1 := cell_gr (Gr.trans HC.out hw') HCY.out; have d4 := HCELLS.out _ (Gr.trans HC.out hw'))
              go_simp
              with_reducible rfl
            simp only [Act.put, List.setIfInBounds_toArray, List.set_cons_zero, List.set_cons_succ]
            -- 10: slot 25
            refine wpG_take preGr (i := 10) (v := ?_) (by kernel_rfl) (some 25) (by kernel_rfl) rfl (by kernel_rfl) (by kernel_rfl) (by kernel_rfl) (fun _ _ _ h => h) (by rfl) (fun w' hw' => ?_) rfl ?_
            rotate_left
            · try (have d0 := cell_gr (Gr.trans HC.out hw') HCX.out; have d1 := cell_gr (Gr.trans HC.out hw') HCY.out; have d4 := HCELLS.out _ (Gr.trans HC.out hw'))
              go_simp
              with_reducible rfl
            simp only [Act.put, List.setIfInBounds_toArray, List.set_cons_zero, List.set_cons_succ]
            -- 11: slot 26
            refine wpG_take preGr (i := 11) (v := ?_) (by kernel_rfl) (some 26) (by kernel_rfl) rfl (by kernel_rfl) (by kernel_rfl) (by kernel_rfl) (fun _ _ _ h => h) (by rfl) (fun w' hw' => ?_) rfl ?_
            rotate_left
            · try (have d0 := cell_gr (Gr.trans HC.out hw') HCX.out; have d1 := cell_gr (Gr.trans HC.out hw') HCY.out; have d4 := HCELLS.out _ (Gr.trans HC.out hw'))
              go_simp
              with_reducible rfl
            simp only [Act.put, List.setIfInBounds_toArray, List.set_cons_zero, List.set_cons_succ]
            -- 12: slot 27
            refine wpG_take preGr (i := 12) (v := ?_) (by kernel_rfl) (some 27) (by kernel_rfl) rfl (by kernel_rfl) (by kernel_rfl) (by kernel_rfl) (fun _ _ _ h => h) (by rfl) (fun w' hw' => ?_) rfl ?_
            rotate_left
            · try (have d0 := cell_gr (Gr.trans HC.out hw') HCX.out; have d1 := cell_gr (Gr.trans HC.out hw') HCY.out; have d4 := HCELLS.out _ (Gr.trans HC.out hw'))
              go_simp
              with_reducible rfl
            simp only [Act.put, List.setIfInBounds_toArray, List.set_cons_zero, List.set_cons_succ]
            -- 13: slot 28
            refine wpG_take preGr (i := 13) (v := ?_) (by kernel_rfl) (some 28) (by kernel_rfl) rfl (by kernel_rfl) (by kernel_rfl) (by kernel_rfl) (fun _ _ _ h => h) (by rfl) (fun w' hw' => ?_) rfl ?_
            rotate_left
            · try (have d0 := cell_gr (Gr.trans HC.out hw') HCX.out; have d1 := cell_gr (Gr.trans HC.out hw') HCY.out; have d4 := HCELLS.out _ (Gr.trans HC.out hw'))
              go_simp
              with_reducible rfl
            simp only [Act.put, List.setIfInBounds_toArray, List.set_cons_zero, List.set_cons_succ]
            -- 14: slot 29
            refine wpG_take preGr (i := 14) (v := ?_) (by kernel_rfl) (some 29) (by kernel_rfl) rfl (by kernel_rfl) (by kernel_rfl) (by kernel_rfl) (fun _ _ _ h => h) (by rfl) (fun w' hw' => ?_) rfl ?_
            rotate_left
            · try (have d0 := cell_gr (Gr.trans HC.out hw') HCX.out; have d1 := cell_gr (Gr.trans HC.out hw') HCY.out; have d4 := HCELLS.out _ (Gr.trans HC.out hw'))
              go_simp
              with_reducible rfl
            simp only [Act.put, List.setIfInBounds_toArray, List.set_cons_zero, List.set_cons_succ]
            -- 15: slot 30
            refine wpG_take preGr (i := 15) (v := ?_) (by kernel_rfl) (some 30) (by kernel_rfl) rfl (by kernel_rfl) (by kernel_rfl) (by kernel_rfl) (fun _ _ _ h => h) (by rfl) (fun w' hw' => ?_) rfl ?_
            rotate_left
            · try (have d0 := cell_gr (Gr.trans HC.out hw') HCX.out; have d1 := cell_gr (Gr.trans HC.out hw') HCY.out; have d4 := HCELLS.out _ (Gr.trans HC.out hw'))
              go_simp
              with_reducible rfl
            simp only [Act.put, List.setIfInBounds_toArray, List.set_cons_zero, List.set_cons_succ]
            -- 16: slot 31
            refine wpG_take preGr (i := 16) (v := ?_) (by kernel_rfl) (some 31) (by kernel_rfl) rfl (by kernel_rfl) (by kernel_rfl) (by kernel_rfl) (fun _ _ _ h => h) (by rfl) (fun w' hw' => ?_) rfl ?_
            rotate_left
            · try (have d0 := cell_gr (Gr.trans HC.out hw') HCX.out; have d1 := cell_gr (Gr.trans HC.out hw') HCY.out; have d4 := HCELLS.out _ (Gr.trans HC.out hw'))
              go_simp
              with_reducible rfl
            simp only [Act.put, List.setIfInBounds_toArray, List.set_cons_zero, List.set_cons_succ]
            -- 17: slot 32
            refine wpG_take preGr (i := 17) (v := ?_) (by kernel_rfl) (some 32) (by kernel_rfl) rfl (by kernel_rfl) (by kernel_rfl) (by kernel_rfl) (fun _ _ _ h => h) (by rfl) (fun w' hw' => ?_) rfl ?_
            rotate_left
            · try (have d0 := cell_gr (Gr.trans HC.out hw') HCX.out; have d1 := cell_gr (Gr.trans HC.out hw') HCY.out; have d4 := HCELLS.out _ (Gr.trans HC.out hw'))
              go_simp
              with_reducible rfl
            simp only [Act.put, List.setIfInBounds_toArray, List.set_cons_zero, List.set_cons_succ]
            refine wpG_done (by kernel_rfl) ?_ _
            go_wp2_with fail
            go_roundw
            case rel =>
              first
                | exact ⟨k + 1, hle, by go_num, HALL2.out, HC.out⟩
                | ((repeat apply Exists.intro); exact ⟨⟨k + 1, hle, by go_num, HALL2.out, HC.out⟩, rfl⟩)
            case measure => simp [intOf]; omega
          · have HNOT : Hid (∀ (h2 : k < L.length), ¬ L[k] < x) := fun h2 => by rw [← HY.out]; exact hyx
            go_upto_region 6 with fail
            have HC : Hid (Gr wo wr.drew) := Gr.trans HGQ.out (Gr.drew wr)
            refine wp_region_G 18 Gr (by kernel_rfl) ?_
            generalize wr.drew = wc at HC ⊢
            -- 0: slot 15
            refine wpG_take preGr (i := 0) (v := ?_) (by kernel_rfl) (some 15) (by kernel_rfl) rfl (by kernel_rfl) (by kernel_rfl) (by kernel_rfl) (fun _ _ _ h => h) (by rfl) (fun w' hw' => ?_) rfl ?_
            rotate_left
            · try (have d0 := cell_gr (Gr.trans HC.out hw') HCX.out; have d1 := cell_gr (Gr.trans HC.out hw') HCY.out; have d4 := HCELLS.out _ (Gr.trans HC.out hw'))
              go_simp
              with_reducible rfl
            simp only [Act.put, List.setIfInBounds_toArray, List.set_cons_zero, List.set_cons_succ]
            -- 1: slot 16
            refine wpG_take preGr (i := 1) (v := ?_) (by kernel_rfl) (some 16) (by kernel_rfl) rfl (by kernel_rfl) (by kernel_rfl) (by kernel_rfl) (fun _ _ _ h => h) (by rfl) (fun w' hw' => ?_) rfl ?_
            rotate_left
            · try (have d0 := cell_gr (Gr.trans HC.out hw') HCX.out; have d1 := cell_gr (Gr.trans HC.out hw') HCY.out; have d4 := HCELLS.out _ (Gr.trans HC.out hw'))
              go_simp
              with_reducible rfl
            simp only [Act.put, List.setIfInBounds_toArray, List.set_cons_zero, List.set_cons_succ]
            -- 2: slot 17
            refine wpG_take preGr (i := 2) (v := ?_) (by kernel_rfl) (some 17) (by kernel_rfl) rfl (by kernel_rfl) (by kernel_rfl) (by kernel_rfl) (fun _ _ _ h => h) (by rfl) (fun w' hw' => ?_) rfl ?_
            rotate_left
            · try (have d0 := cell_gr (Gr.trans HC.out hw') HCX.out; have d1 := cell_gr (Gr.trans HC.out hw') HCY.out; have d4 := HCELLS.out _ (Gr.trans HC.out hw'))
              go_simp
              with_reducible rfl
            simp only [Act.put, List.setIfInBounds_toArray, List.set_cons_zero, List.set_cons_succ]
            -- 3: slot 18
            refine wpG_take preGr (i := 3) (v := ?_) (by kernel_rfl) (some 18) (by kernel_rfl) rfl (by kernel_rfl) (by kernel_rfl) (by kernel_rfl) (fun _ _ _ h => h) (by rfl) (fun w' hw' => ?_) rfl ?_
            rotate_left
            · try (have d0 := cell_gr (Gr.trans HC.out hw') HCX.out; have d1 := cell_gr (Gr.trans HC.out hw') HCY.out; have d4 := HCELLS.out _ (Gr.trans HC.out hw'))
              go_simp
              with_reducible rfl
            simp only [Act.put, List.setIfInBounds_toArray, List.set_cons_zero, List.set_cons_succ]
            -- 4: slot 19
            refine wpG_take preGr (i := 4) (v := ?_) (by kernel_rfl) (some 19) (by kernel_rfl) rfl (by kernel_rfl) (by kernel_rfl) (by kernel_rfl) (fun _ _ _ h => h) (by rfl) (fun w' hw' => ?_) rfl ?_
            rotate_left
            · try (have d0 := cell_gr (Gr.trans HC.out hw') HCX.out; have d1 := cell_gr (Gr.trans HC.out hw') HCY.out; have d4 := HCELLS.out _ (Gr.trans HC.out hw'))
              go_simp
              with_reducible rfl
            simp only [Act.put, List.setIfInBounds_toArray, List.set_cons_zero, List.set_cons_succ]
            -- 5: slot 20
            refine wpG_take preGr (i := 5) (v := ?_) (by kernel_rfl) (some 20) (by kernel_rfl) rfl (by kernel_rfl) (by kernel_rfl) (by kernel_rfl) (fun _ _ _ h => h) (by rfl) (fun w' hw' => ?_) rfl ?_
            rotate_left
            · try (have d0 := cell_gr (Gr.trans HC.out hw') HCX.out; have d1 := cell_gr (Gr.trans HC.out hw') HCY.out; have d4 := HCELLS.out _ (Gr.trans HC.out hw'))
              go_simp
              with_reducible rfl
            simp only [Act.put, List.setIfInBounds_toArray, List.set_cons_zero, List.set_cons_succ]
            -- 6: slot 21
            refine wpG_take preGr (i := 6) (v := ?_) (by kernel_rfl) (some 21) (by kernel_rfl) rfl (by kernel_rfl) (by kernel_rfl) (by kernel_rfl) (fun _ _ _ h => h) (by rfl) (fun w' hw' => ?_) rfl ?_
            rotate_left
            · try (have d0 := cell_gr (Gr.trans HC.out hw') HCX.out; have d1 := cell_gr (Gr.trans HC.out hw') HCY.out; have d4 := HCELLS.out _ (Gr.trans HC.out hw'))
              go_simp
              with_reducible rfl
            simp only [Act.put, List.setIfInBounds_toArray, List.set_cons_zero, List.set_cons_succ]
            -- 7: slot 22
            refine wpG_take preGr (i := 7) (v := ?_) (by kernel_rfl) (some 22) (by kernel_rfl) rfl (by kernel_rfl) (by kernel_rfl) (by kernel_rfl) (fun _ _ _ h => h) (by rfl) (fun w' hw' => ?_) rfl ?_
            rotate_left
            · try (have d0 := cell_gr (Gr.trans HC.out hw') HCX.out; have d1 := cell_gr (Gr.trans HC.out hw') HCY.out; have d4 := HCELLS.out _ (Gr.trans HC.out hw'))
              go_simp
              with_reducible rfl
            simp only [Act.put, List.setIfInBounds_toArray, List.set_cons_zero, List.set_cons_succ]
            -- 8: slot 23
            refine wpG_take preGr (i := 8) (v := ?_) (by kernel_rfl) (some 23) (by kernel_rfl) rfl (by kernel_rfl) (by kernel_rfl) (by kernel_rfl) (fun _ _ _ h => h) (by rfl) (fun w' hw' => ?_) rfl ?_
            rotate_left
            · try (have d0 := cell_gr (Gr.trans HC.out hw') HCX.out; have d1 := cell_gr (Gr.trans HC.out hw') HCY.out; have d4 := HCELLS.out _ (Gr.trans HC.out hw'))
              go_simp
              with_reducible rfl
            simp only [Act.put, List.setIfInBounds_toArray, List.set_cons_zero, List.set_cons_succ]
            -- 9: slot 24
            refine wpG_take preGr (i := 9) (v := ?_) (by kernel_rfl) (some 24) (by kernel_rfl) rfl (by kernel_rfl) (by kernel_rfl) (by kernel_rfl) (fun _ _ _ h => h) (by rfl) (fun w' hw' => ?_) rfl ?_
            rotate_left
            · try (have d0 := cell_gr (Gr.trans HC.out hw') HCX.out; have d1 := cell_gr (Gr.trans HC.out hw') HCY.out; have d4 := HCELLS.out _ (Gr.trans HC.out hw'))
              go_simp
              with_reducible rfl
            simp only [Act.put, List.setIfInBounds_toArray, List.set_cons_zero, List.set_cons_succ]
            -- 10: slot 25
            refine wpG_take preGr (i := 10) (v := ?_) (by kernel_rfl) (some 25) (by kernel_rfl) rfl (by kernel_rfl) (by kernel_rfl) (by kernel_rfl) (fun _ _ _ h => h) (by rfl) (fun w' hw' => ?_) rfl ?_
            rotate_left
            · try (have d0 := cell_gr (Gr.trans HC.out hw') HCX.out; have d1 := cell_gr (Gr.trans HC.out hw') HCY.out; have d4 := HCELLS.out _ (Gr.trans HC.out hw'))
              go_simp
              with_reducible rfl
            simp only [Act.put, List.setIfInBounds_toArray, List.set_cons_zero, List.set_cons_succ]
            -- 11: slot 26
            refine wpG_take preGr (i := 11) (v := ?_) (by kernel_rfl) (some 26) (by kernel_rfl) rfl (by kernel_rfl) (by kernel_rfl) (by kernel_rfl) (fun _ _ _ h => h) (by rfl) (fun w' hw' => ?_) rfl ?_
            rotate_left
            · try (have d0 := cell_gr (Gr.trans HC.out hw') HCX.out; have d1 := cell_gr (Gr.trans HC.out hw') HCY.out; have d4 := HCELLS.out _ (Gr.trans HC.out hw'))
              go_simp
              with_reducible rfl
            simp only [Act.put, List.setIfInBounds_toArray, List.set_cons_zero, List.set_cons_succ]
            -- 12: slot 27
            refine wpG_take preGr (i := 12) (v := ?_) (by kernel_rfl) (some 27) (by kernel_rfl) rfl (by kernel_rfl) (by kernel_rfl) (by kernel_rfl) (fun _ _ _ h => h) (by rfl) (fun w' hw' => ?_) rfl ?_
            rotate_left
            · try (have d0 := cell_gr (Gr.trans HC.out hw') HCX.out; have d1 := cell_gr (Gr.trans HC.out hw') HCY.out; have d4 := HCELLS.out _ (Gr.trans HC.out hw'))
              go_simp
              with_reducible rfl
            simp only [Act.put, List.setIfInBounds_toArray, List.set_cons_zero, List.set_cons_succ]
            -- 13: slot 28
            refine wpG_take preGr (i := 13) (v := ?_) (by kernel_rfl) (some 28) (by kernel_rfl) rfl (by kernel_rfl) (by kernel_rfl) (by kernel_rfl) (fun _ _ _ h => h) (by rfl) (fun w' hw' => ?_) rfl ?_
            rotate_left
            · try (have d0 := cell_gr (Gr.trans HC.out hw') HCX.out; have d1 := cell_gr (Gr.trans HC.out hw') HCY.out; have d4 := HCELLS.out _ (Gr.trans HC.out hw'))
              go_simp
              with_reducible rfl
            simp only [Act.put, List.setIfInBounds_toArray, List.set_cons_zero, List.set_cons_succ]
            -- 14: slot 29
            refine wpG_take preGr (i := 14) (v := ?_) (by kernel_rfl) (some 29) (by kernel_rfl) rfl (by kernel_rfl) (by kernel_rfl) (by kernel_rfl) (fun _ _ _ h => h) (by rfl) (fun w' hw' => ?_) rfl ?_
            rotate_left
            · try (have d0 := cell_gr (Gr.trans HC.out hw') HCX.out; have d1 := cell_gr (Gr.trans HC.out hw') HCY.out; have d4 := HCELLS.out _ (Gr.trans HC.out hw'))
              go_simp
              with_reducible rfl
            simp only [Act.put, List.setIfInBounds_toArray, List.set_cons_zero, List.set_cons_succ]
            -- 15: slot 30
            refine wpG_take preGr (i := 15) (v := ?_) (by kernel_rfl) (some 30) (by kernel_rfl) rfl (by kernel_rfl) (by kernel_rfl) (by kernel_rfl) (fun _ _ _ h => h) (by rfl) (fun w' hw' => ?_) rfl ?_
            rotate_left
            · try (have d0 := cell_gr (Gr.trans HC.out hw') HCX.out; have d1 := cell_gr (Gr.trans HC.out hw') HCY.out; have d4 := HCELLS.out _ (Gr.trans HC.out hw'))
              go_simp
              with_reducible rfl
            simp only [Act.put, List.setIfInBounds_toArray, List.set_cons_zero, List.set_cons_succ]
            -- 16: slot 31
            refine wpG_take preGr (i := 16) (v := ?_) (by kernel_rfl) (some 31) (by kernel_rfl) rfl (by kernel_rfl) (by kernel_rfl) (by kernel_rfl) (fun _ _ _ h => h) (by rfl) (fun w' hw' => ?_) rfl ?_
            rotate_left
            · try (have d0 := cell_gr (Gr.trans HC.out hw') HCX.out; have d1 := cell_gr (Gr.trans HC.out hw') HCY.out; have d4 := HCELLS.out _ (Gr.trans HC.out hw'))
              go_simp
              with_reducible rfl
            simp only [Act.put, List.setIfInBounds_toArray, List.set_cons_zero, List.set_cons_succ]
            -- 17: slot 32
            refine wpG_take preGr (i := 17) (v := ?_) (by kernel_rfl) (some 32) (by kernel_rfl) rfl (by kernel_rfl) (by kernel_rfl) (by kernel_rfl) (fun _ _ _ h => h) (by rfl) (fun w' hw' => ?_) rfl ?_
            rotate_left
            · try (have d0 := cell_gr (Gr.trans HC.out hw') HCX.out; have d1 := cell_gr (Gr.trans HC.out hw') HCY.out; have d4 := HCELLS.out _ (Gr.trans HC.out hw'))
              go_simp
              with_reducible rfl
            simp only [Act.put, List.setIfInBounds_toArray, List.set_cons_zero, List.set_cons_succ]
            refine wpG_done (by kernel_rfl) ?_ _
            obtain ⟨ao1, hs1, hr1⟩ := slice_upto Try.underlying41 hi0 hz1 HL.out .i64 (k : Int) k rfl hki
            obtain ⟨ao2, hs2, hr2⟩ := slice_from Try.underlying41 hi0 hz1 HL.out .i64 (k : Int) k rfl hki
            have HR1 := Lib.hid hr1
            have HR2 := Lib.hid hr2
            have HO1 : Hid (∀ u ∈ (ints L).take (k * 1), u.oneCell' = true) := fun u hu => ints_cell _ u (List.mem_of_mem_take hu)
            have HO2 : Hid (∀ u ∈ (ints L).drop (k * 1), u.oneCell' = true) := fun u hu => ints_cell _ u (List.mem_of_mem_drop hu)
            have HBY : Hid ((0 + k) * 8 ≤ 140737488355328) := by show _ ≤ _; omega
            have HBY2 : Hid ((0 + k + 1) * 8 ≤ 140737488355328) := by show _ ≤ _; omega
            have HBY3 : Hid ((0 + k + 1 + (i - k)) * 8 ≤ 140737488355328) := by show _ ≤ _; omega
            have HPUT : Hid (put x L = L.take k ++ x :: L.drop k) := put_at L k (by have := HLL.out; omega) HALL.out HNOT.out
            have hle : i + 1 ≤ n := by omega
            clear hr1 hr2 HALL HNOT
            obtain ⟨wp, hwp⟩ : ∃ wp, wp = wc := ⟨_, rfl⟩
            subst hwp
            go_upto_region 8 with fail
            have HC2 : Hid (Gr wo wp.drew) := Gr.trans HC.out (Gr.drew wp)
            clear HC
            have HC := HC2
            clear HC2
            refine wp_region_G 18 (Below (wo.heap.size)) (by kernel_rfl) ?_
            generalize wp.drew = wc at HC ⊢
            -- 1: slot 36
            refine wpG_take (preBelow (wo.heap.size)) (i := 1) (v := ?_) (by kernel_rfl) (some 36) (by kernel_rfl) rfl (by kernel_rfl) (by kernel_rfl) (by kernel_rfl) (fun _ _ _ h => h) (by rfl) (fun w' hw' => ?_) rfl ?_
            rotate_left
            · try (have d0 := HCX.out; have hcw : Gr wo w' := Below.trans HC.out hw'; have d0 := cell_gr hcw HCX.out; have d4 := HCELLS.out _ hcw)
              go_simp
              with_reducible rfl
            simp only [Act.put, List.setIfInBounds_toArray, List.set_cons_zero, List.set_cons_succ]
            -- 2: slot 37
            refine wpG_take (preBelow (wo.heap.size)) (i := 2) (v := ?_) (by kernel_rfl) (some 37) (by kernel_rfl) rfl (by kernel_rfl) (by kernel_rfl) (by kernel_rfl) (fun _ _ _ h => h) (by rfl) (fun w' hw' => ?_) rfl ?_
            rotate_left
            · try (have d0 := HCX.out; have hcw : Gr wo w' := Below.trans HC.out hw'; have d0 := cell_gr hcw HCX.out; have d4 := HCELLS.out _ hcw)
              go_simp
              with_reducible rfl
            simp only [Act.put, List.setIfInBounds_toArray, List.set_cons_zero, List.set_cons_succ]
            -- 3: slot 38
            refine wpG_take (preBelow (wo.heap.size)) (i := 3) (v := ?_) (by kernel_rfl) (some 38) (by kernel_rfl) rfl (by kernel_rfl) (by kernel_rfl) (by kernel_rfl) (fun _ _ _ h => h) (by rfl) (fun w' hw' => ?_) rfl ?_
            rotate_left
            · try (have d0 := HCX.out; have hcw : Gr wo w' := Below.trans HC.out hw'; have d0 := cell_gr hcw HCX.out; have d4 := HCELLS.out _ hcw)
              go_simp
              with_reducible rfl
            simp only [Act.put, List.setIfInBounds_toArray, List.set_cons_zero, List.set_cons_succ]
            -- 5: slot 40
            refine wpG_take (preBelow (wo.heap.size)) (i := 5) (v := ?_) (by kernel_rfl) (some 40) (by kernel_rfl) rfl (by kernel_rfl) (by kernel_rfl) (by kernel_rfl) (fun _ _ _ h => h) (by rfl) (fun w' hw' => ?_) rfl ?_
            rotate_left
            · try (have d0 := HCX.out; have hcw : Gr wo w' := Below.trans HC.out hw'; have d0 := cell_gr hcw HCX.out; have d4 := HCELLS.out _ hcw)
              go_simp
              with_reducible rfl
            simp only [Act.put, List.setIfInBounds_toArray, List.set_cons_zero, List.set_cons_succ]
            -- 6: slot 41
            refine wpG_take (preBelow (wo.heap.size)) (i := 6) (v := ?_) (by kernel_rfl) (some 41) (by kernel_rfl) rfl (by kernel_rfl) (by kernel_rfl) (by kernel_rfl) (fun _ _ _ h => h) (by rfl) (fun w' hw' => ?_) rfl ?_
            rotate_left
            · try (have d0 := HCX.out; have hcw : Gr wo w' := Below.trans HC.out hw'; have d0 := cell_gr hcw HCX.out; have d4 := HCELLS.out _ hcw)
              go_simp
              with_reducible rfl
            simp only [Act.put, List.setIfInBounds_toArray, List.set_cons_zero, List.set_cons_succ]
            -- 7: slot 42
            refine wpG_take (preBelow (wo.heap.size)) (i := 7) (v := ?_) (by kernel_rfl) (some 42) (by kernel_rfl) rfl (by kernel_rfl) (by kernel_rfl) (by kernel_rfl) (fun _ _ _ h => h) (by rfl) (fun w' hw' => ?_) rfl ?_
            rotate_left
            · try (have d0 := HCX.out; have hcw : Gr wo w' := Below.trans HC.out hw'; have d0 := cell_gr hcw HCX.out; have d4 := HCELLS.out _ hcw)
              go_simp
              with_reducible rfl
            simp only [Act.put, List.setIfInBounds_toArray, List.set_cons_zero, List.set_cons_succ]
            -- 8: slot 43
            refine wpG_take (preBelow (wo.heap.size)) (i := 8) (v := ?_) (by kernel_rfl) (some 43) (by kernel_rfl) rfl (by kernel_rfl) (by kernel_rfl) (by kernel_rfl) (fun _ _ _ h => h) (by rfl) (fun w' hw' => ?_) rfl ?_
            rotate_left
            · try (have d0 := HCX.out; have hcw : Gr wo w' := Below.trans HC.out hw'; have d0 := cell_gr hcw HCX.out; have d4 := HCELLS.out _ hcw)
              go_simp
              with_reducible rfl
            simp only [Act.put, List.setIfInBounds_toArray, List.set_cons_zero, List.set_cons_succ]
            -- 9: slot 44
            refine wpG_take (preBelow (wo.heap.size)) (i := 9) (v := ?_) (by kernel_rfl) (some 44) (by kernel_rfl) rfl (by kernel_rfl) (by kernel_rfl) (by kernel_rfl) (fun _ _ _ h => h) (by rfl) (fun w' hw' => ?_) rfl ?_
            rotate_left
            · try (have d0 := HCX.out; have hcw : Gr wo w' := Below.trans HC.out hw'; have d0 := cell_gr hcw HCX.out; have d4 := HCELLS.out _ hcw)
              go_simp
              with_reducible rfl
            simp only [Act.put, List.setIfInBounds_toArray, List.set_cons_zero, List.set_cons_succ]
            -- 10: slot 45
            refine wpG_take (preBelow (wo.heap.size)) (i := 10) (v := ?_) (by kernel_rfl) (some 45) (by kernel_rfl) rfl (by kernel_rfl) (by kernel_rfl) (by kernel_rfl) (fun _ _ _ h => h) (by rfl) (fun w' hw' => ?_) rfl ?_
            rotate_left
            · try (have d0 := HCX.out; have hcw : Gr wo w' := Below.trans HC.out hw'; have d0 := cell_gr hcw HCX.out; have d4 := HCELLS.out _ hcw)
              go_simp
              with_reducible rfl
            simp only [Act.put, List.setIfInBounds_toArray, List.set_cons_zero, List.set_cons_succ]
            -- 11: slot 46
            refine wpG_take (preBelow (wo.heap.size)) (i := 11) (v := ?_) (by kernel_rfl) (some 46) (by kernel_rfl) rfl (by kernel_rfl) (by kernel_rfl) (by kernel_rfl) (fun _ _ _ h => h) (by rfl) (fun w' hw' => ?_) rfl ?_
            rotate_left
            · try (have d0 := HCX.out; have hcw : Gr wo w' := Below.trans HC.out hw'; have d0 := cell_gr hcw HCX.out; have d4 := HCELLS.out _ hcw)
              go_simp
              with_reducible rfl
            simp only [Act.put, List.setIfInBounds_toArray, List.set_cons_zero, List.set_cons_succ]
            -- 14: slot 49
            refine wpG_take (preBelow (wo.heap.size)) (i := 14) (v := ?_) (by kernel_rfl) (some 49) (by kernel_rfl) rfl (by kernel_rfl) (by kernel_rfl) (by kernel_rfl) (fun _ _ _ h => h) (by rfl) (fun w' hw' => ?_) rfl ?_
            rotate_left
            · try (have d0 := HCX.out; have hcw : Gr wo w' := Below.trans HC.out hw'; have d0 := cell_gr hcw HCX.out; have d4 := HCELLS.out _ hcw)
              go_simp
              with_reducible rfl
            simp only [Act.put, List.setIfInBounds_toArray, List.set_cons_zero, List.set_cons_succ]
            -- 15: slot 50
            refine wpG_take (preBelow (wo.heap.size)) (i := 15) (v := ?_) (by kernel_rfl) (some 50) (by kernel_rfl) rfl (by kernel_rfl) (by kernel_rfl) (by kernel_rfl) (fun _ _ _ h => h) (by rfl) (fun w' hw' => ?_) rfl ?_
            rotate_left
            · try (have d0 := HCX.out; have hcw : Gr wo w' := Below.trans HC.out hw'; have d0 := cell_gr hcw HCX.out; have d4 := HCELLS.out _ hcw)
              go_simp
              with_reducible rfl
            simp only [Act.put, List.setIfInBounds_toArray, List.set_cons_zero, List.set_cons_succ]
            -- 16: slot 51
            refine wpG_take (preBelow (wo.heap.size)) (i := 16) (v := ?_) (by kernel_rfl) (some 51) (by kernel_rfl) rfl (by kernel_rfl) (by kernel_rfl) (by kernel_rfl) (fun _ _ _ h => h) (by rfl) (fun w' hw' => ?_) rfl ?_
            rotate_left
            · try (have d0 := HCX.out; have hcw : Gr wo w' := Below.trans HC.out hw'; have d0 := cell_gr hcw HCX.out; have d4 := HCELLS.out _ hcw)
              go_simp
              with_reducible rfl
            simp only [Act.put, List.setIfInBounds_toArray, List.set_cons_zero, List.set_cons_succ]
            refine wpG_two (i := 0) (j := 12) rfl rfl (by kernel_rfl) (by rfl) (by rfl) ?_ ?_
            · go_simp
              have hb : Gr wc (wc.alloc (.cells #[] 3)) := (Below.refl _ _).alloc (Nat.le_refl _) _
              have hsz : (wc.alloc (.cells #[] 3)).heap.size = wc.heap.size + 1 := World.size_alloc _ _
              refine ⟨hb.mono (Below.size HC.out), ?_⟩
              have ho : (wc.alloc (.cells #[] 3)).ownsRow wc.heap.size 3 1 (.slice (some ⟨wc.heap.size, 0, none⟩) 0 0) 0 [] := own_new wc [] 3 0 1 rfl (Nat.zero_le _)
              try have HON' := Lib.hid (Rd.below HON.out hb)
              have ho2 := ownsRow_mono ho (Below.size HC.out)
              have hc2 : Gr wo (wc.alloc (.cells #[] 3)) := Gr.trans HC.out hb
              generalize wc.alloc (.cells #[] 3) = wn at *
              obtain ⟨b1, hb1⟩ : ∃ b, b = wc.heap.size := ⟨_, rfl⟩
              rw [← hb1] at ho2 hsz ⊢
              try have HNE : Hid (b15 ≠ b1) := by have := HL15.out; show _ ≠ _; omega
              have HL1 : Hid (b1 < wn.heap.size) := by show _ < _; omega
              have HOWN := Lib.hid ho2
              clear HC ho ho2 hb hsz hb1
              have HC := Lib.hid hc2
              clear hc2
              try (clear HON; have HON := HON'; clear HON')
              obtain ⟨wc, hwc⟩ : ∃ x, x = wn := ⟨_, rfl⟩
              subst hwc
              try simp only [Act.put, List.setIfInBounds_toArray, List.set_cons_zero, List.set_cons_succ]
              refine wpG_two (i := 4) (j := 12) rfl rfl (by kernel_rfl) (by rfl) (by rfl) ?_ ?_
              · refine wp_append_gr _ (some 39) (.tmp 35) (.tmp 38) 41 rfl wo.heap.size 3 i0 _ 1 8 Try.underlying41 hi0 hz0 hz1 hz2 rfl (by decide) _ _ _ rfl HOWN.out _ k _ rfl (Rd.below HR1.out HC.out) HO1.out HBY.out (by decide) (Below.size HC.out) rfl ?_
                intro v' wn ho hg
                have hb := grown_below HOWN.out (Below.size HC.out) hg
                refine ⟨hb, ?_⟩
                try have HON' : Hid (Rd wn 1 (.slice (some ⟨b15, 0, none⟩) 1 1) 1 [.int .i64 x]) := Rd.tr HON.out (Tr.grown hg) fun k hk h6 => HNE.out ((List.mem_singleton.1 hk).symm.trans (List.mem_singleton.1 h6))
                have hc2 : Gr wo wn := Below.trans HC.out hb
                clear HC HOWN hg hb
                have HC := Lib.hid hc2
                have HOWN := Lib.hid ho
                clear hc2 ho
                try (clear HON; have HON := HON'; clear HON')
                try clear HL1
                obtain ⟨wc, hwc⟩ : ∃ x, x = wn := ⟨_, rfl⟩
                subst hwc
                try simp only [Act.put, List.setIfInBounds_toArray, List.set_cons_zero, List.set_cons_succ]
                refine wpG_one (i := 12) rfl (by kernel_rfl) (by rfl) ?_
                go_simp
                have hb : Gr wc (wc.alloc (.cells #[.int .i64 x] 3)) := (Below.refl _ _).alloc (Nat.le_refl _) _
                have hsz : (wc.alloc (.cells #[.int .i64 x] 3)).heap.size = wc.heap.size + 1 := World.size_alloc _ _
                refine ⟨hb.mono (Below.size HC.out), ?_⟩
                have hn1 : Rd (wc.alloc (.cells #[.int .i64 x] 3)) 1 (.slice (some ⟨wc.heap.size, 0, none⟩) 1 1) 1 [.int .i64 x] := rd_new wc [.int .i64 x] 3 1 1 rfl (by decide)
                try have HOW' := Lib.hid (ownsRow_below HOWN.out hb)
                have hc2 : Gr wo (wc.alloc (.cells #[.int .i64 x] 3)) := Gr.trans HC.out hb
                generalize wc.alloc (.cells #[.int .i64 x] 3) = wn at *
                obtain ⟨b15, hb15⟩ : ∃ b, b = wc.heap.size := ⟨_, rfl⟩
                rw [← hb15] at hn1 hsz ⊢
                try have HNE : Hid (b15 ≠ b1) := by have := HL1.out; show _ ≠ _; omega
                have HL15 : Hid (b15 < wn.heap.size) := by show _ < _; omega
                have HON := Lib.hid hn1
                clear HC hn1 hb hsz hb15
                have HC := Lib.hid hc2
                clear hc2
                try (clear HOWN; have HOWN := HOW'; clear HOW')
                obtain ⟨wc, hwc⟩ : ∃ x, x = wn := ⟨_, rfl⟩
                subst hwc
                try simp only [Act.put, List.setIfInBounds_toArray, List.set_cons_zero, List.set_cons_succ]
                refine wpG_one (i := 13) rfl (by kernel_rfl) (by rfl) ?_
                refine wp_append_gr _ (some 48) (.tmp 39) (.tmp 47) 41 rfl wo.heap.size 3 i0 _ 1 8 Try.underlying41 hi0 hz0 hz1 hz2 rfl (by decide) _ _ _ rfl HOWN.out _ 1 _ rfl HON.out (one_int _) HBY2.out (by decide) (Below.size HC.out) rfl ?_
                intro v' wn ho hg
                have hb := grown_below HOWN.out (Below.size HC.out) hg
                refine ⟨hb, ?_⟩
                have hc2 : Gr wo wn := Below.trans HC.out hb
                clear HC HOWN HON hg hb
                have HC := Lib.hid hc2
                have HOWN := Lib.hid ho
                clear hc2 ho
                obtain ⟨wc, hwc⟩ : ∃ x, x = wn := ⟨_, rfl⟩
                subst hwc
                try simp only [Act.put, List.setIfInBounds_toArray, List.set_cons_zero, List.set_cons_succ]
                refine wpG_one (i := 17) rfl (by kernel_rfl) (by rfl) ?_
                refine wp_append_gr _ (some 52) (.tmp 48) (.tmp 51) 41 rfl wo.heap.size 3 i0 _ 1 8 Try.underlying41 hi0 hz0 hz1 hz2 rfl (by decide) _ _ _ rfl HOWN.out _ (i - k) _ rfl (Rd.below HR2.out HC.out) HO2.out HBY3.out (by decide) (Below.size HC.out) rfl ?_
                intro v' wn ho hg
                have hb := grown_below HOWN.out (Below.size HC.out) hg
                refine ⟨hb, ?_⟩
                have hc2 : Gr wo wn := Below.trans HC.out hb
                have HFB : Hid (Below w.heap.size w wn) := HB.out.trans (Below.mono hc2 HB.out.size)
                have HFO : Hid (wn.ownsRow w.heap.size 3 1 v' (i + 1) (ints (sorted (S.used.take (i + 1))))) := by
                  show World.ownsRow _ _ _ _ _ _ _
                  rw [hLn.out, HPUT.out]
                  have h7 : 0 + k + 1 + (i - k) = i + 1 := by omega
                  rw [h7] at ho
                  have h8 := ownsRow_mono ho HB.out.size
                  simpa [ints] using h8
                clear hc2 ho hg hb HC HOWN
                try simp only [Act.put, List.setIfInBounds_toArray, List.set_cons_zero, List.set_cons_succ]
                refine wpG_tail (i := 18) (by decide) rfl (by kernel_rfl) (by rfl) ?_
                go_simp
                try simp only [Act.put, List.setIfInBounds_toArray, List.set_cons_zero, List.set_cons_succ]
                refine wpG_done (by kernel_rfl) ?_ _
                go_wp2_with fail
                go_roundw
                case rel =>
                  first
                    | exact ⟨i + 1, hle, by go_num, HFO.out, HFB.out⟩
                    | ((repeat apply Exists.intro); exact ⟨⟨i + 1, hle, by go_num, HFO.out, HFB.out⟩, rfl⟩)
                case measure => simp [intOf]; omega
              · go_simp
                have hb : Gr wc (wc.alloc (.cells #[.int .i64 x] 3)) := (Below.refl _ _).alloc (Nat.le_refl _) _
                have hsz : (wc.alloc (.cells #[.int .i64 x] 3)).heap.size = wc.heap.size + 1 := World.size_alloc _ _
                refine ⟨hb.mono (Below.size HC.out), ?_⟩
                have hn1 : Rd (wc.alloc (.cells #[.int .i64 x] 3)) 1 (.slice (some ⟨wc.heap.size, 0, none⟩) 1 1) 1 [.int .i64 x] := rd_new wc [.int .i64 x] 3 1 1 rfl (by decide)
                try have HOW' := Lib.hid (ownsRow_below HOWN.out hb)
                have hc2 : Gr wo (wc.alloc (.cells #[.int .i64 x] 3)) := Gr.trans HC.out hb
                generalize wc.alloc (.cells #[.int .i64 x] 3) = wn at *
                obtain ⟨b15, hb15⟩ : ∃ b, b = wc.heap.size := ⟨_, rfl⟩
                rw [← hb15] at hn1 hsz ⊢
                try have HNE : Hid (b15 ≠ b1) := by have := HL1.out; show _ ≠ _; omega
                have HL15 : Hid (b15 < wn.heap.size) := by show _ < _; omega
                have HON := Lib.hid hn1
                clear HC hn1 hb hsz hb15
                have HC := Lib.hid hc2
                clear hc2
                try (clear HOWN; have HOWN := HOW'; clear HOW')
                obtain ⟨wc, hwc⟩ : ∃ x, x = wn := ⟨_, rfl⟩
                subst hwc
                try simp only [Act.put, List.setIfInBounds_toArray, List.set_cons_zero, List.set_cons_succ]
                refine wpG_one (i := 4) rfl (by kernel_rfl) (by rfl) ?_
                refine wp_append_gr _ (some 39) (.tmp 35) (.tmp 38) 41 rfl wo.heap.size 3 i0 _ 1 8 Try.underlying41 hi0 hz0 hz1 hz2 rfl (by decide) _ _ _ rfl HOWN.out _ k _ rfl (Rd.below HR1.out HC.out) HO1.out HBY.out (by decide) (Below.size HC.out) rfl ?_
                intro v' wn ho hg
                have hb := grown_below HOWN.out (Below.size HC.out) hg
                refine ⟨hb, ?_⟩
                try have HON' : Hid (Rd wn 1 (.slice (some ⟨b15, 0, none⟩) 1 1) 1 [.int .i64 x]) := Rd.tr HON.out (Tr.grown hg) fun k hk h6 => HNE.out ((List.mem_singleton.1 hk).symm.trans (List.mem_singleton.1 h6))
                have hc2 : Gr wo wn := Below.trans HC.out hb
                clear HC HOWN hg hb
                have HC := Lib.hid hc2
                have HOWN := Lib.hid ho
                clear hc2 ho
                try (clear HON; have HON := HON'; clear HON')
                try clear HL1
                obtain ⟨wc, hwc⟩ : ∃ x, x = wn := ⟨_, rfl⟩
                subst hwc
                try simp only [Act.put, List.setIfInBounds_toArray, List.set_cons_zero, List.set_cons_succ]
                refine wpG_one (i := 13) rfl (by kernel_rfl) (by rfl) ?_
                refine wp_append_gr _ (some 48) (.tmp 39) (.tmp 47) 41 rfl wo.heap.size 3 i0 _ 1 8 Try.underlying41 hi0 hz0 hz1 hz2 rfl (by decide) _ _ _ rfl HOWN.out _ 1 _ rfl HON.out (one_int _) HBY2.out (by decide) (Below.size HC.out) rfl ?_
                intro v' wn ho hg
                have hb := grown_below HOWN.out (Below.size HC.out) hg
                refine ⟨hb, ?_⟩
                have hc2 : Gr wo wn := Below.trans HC.out hb
                clear HC HOWN HON hg hb
                have HC := Lib.hid hc2
                have HOWN := Lib.hid ho
                clear hc2 ho
                obtain ⟨wc, hwc⟩ : ∃ x, x = wn := ⟨_, rfl⟩
                subst hwc
                try simp only [Act.put, List.setIfInBounds_toArray, List.set_cons_zero, List.set_cons_succ]
                refine wpG_one (i := 17) rfl (by kernel_rfl) (by rfl) ?_
                refine wp_append_gr _ (some 52) (.tmp 48) (.tmp 51) 41 rfl wo.heap.size 3 i0 _ 1 8 Try.underlying41 hi0 hz0 hz1 hz2 rfl (by decide) _ _ _ rfl HOWN.out _ (i - k) _ rfl (Rd.below HR2.out HC.out) HO2.out HBY3.out (by decide) (Below.size HC.out) rfl ?_
                intro v' wn ho hg
                have hb := grown_below HOWN.out (Below.size HC.out) hg
                refine ⟨hb, ?_⟩
                have hc2 : Gr wo wn := Below.trans HC.out hb
                have HFB : Hid (Below w.heap.size w wn) := HB.out.trans (Below.mono hc2 HB.out.size)
                have HFO : Hid (wn.ownsRow w.heap.size 3 1 v' (i + 1) (ints (sorted (S.used.take (i + 1))))) := by
                  show World.ownsRow _ _ _ _ _ _ _
                  rw [hLn.out, HPUT.out]
                  have h7 : 0 + k + 1 + (i - k) = i + 1 := by omega
                  rw [h7] at ho
                  have h8 := ownsRow_mono ho HB.out.size
                  simpa [ints] using h8
                clear hc2 ho hg hb HC HOWN
                try simp only [Act.put, List.setIfInBounds_toArray, List.set_cons_zero, List.set_cons_succ]
                refine wpG_tail (i := 18) (by decide) rfl (by kernel_rfl) (by rfl) ?_
                go_simp
                try simp only [Act.put, List.setIfInBounds_toArray, List.set_cons_zero, List.set_cons_succ]
                refine wpG_done (by kernel_rfl) ?_ _
                go_wp2_with fail
                go_roundw
                case rel =>
                  first
                    | exact ⟨i + 1, hle, by go_num, HFO.out, HFB.out⟩
                    | ((repeat apply Exists.intro); exact ⟨⟨i + 1, hle, by go_num, HFO.out, HFB.out⟩, rfl⟩)
                case measure => simp [intOf]; omega
            · go_simp
              have hb : Gr wc (wc.alloc (.cells #[.int .i64 x] 3)) := (Below.refl _ _).alloc (Nat.le_refl _) _
              have hsz : (wc.alloc (.cells #[.int .i64 x] 3)).heap.size = wc.heap.size + 1 := World.size_alloc _ _
              refine ⟨hb.mono (Below.size HC.out), ?_⟩
              have hn1 : Rd (wc.alloc (.cells #[.int .i64 x] 3)) 1 (.slice (some ⟨wc.heap.size, 0, none⟩) 1 1) 1 [.int .i64 x] := rd_new wc [.int .i64 x] 3 1 1 rfl (by decide)
              try have HOW' := Lib.hid (ownsRow_below HOWN.out hb)
              have hc2 : Gr wo (wc.alloc (.cells #[.int .i64 x] 3)) := Gr.trans HC.out hb
              generalize wc.alloc (.cells #[.int .i64 x] 3) = wn at *
              obtain ⟨b15, hb15⟩ : ∃ b, b = wc.heap.size := ⟨_, rfl⟩
              rw [← hb15] at hn1 hsz ⊢
              try have HNE : Hid (b15 ≠ b1) := by have := HL1.out; show _ ≠ _; omega
              have HL15 : Hid (b15 < wn.heap.size) := by show _ < _; omega
              have HON := Lib.hid hn1
              clear HC hn1 hb hsz hb15
              have HC := Lib.hid hc2
              clear hc2
              try (clear HOWN; have HOWN := HOW'; clear HOW')
              obtain ⟨wc, hwc⟩ : ∃ x, x = wn := ⟨_, rfl⟩
              subst hwc
              try simp only [Act.put, List.setIfInBounds_toArray, List.set_cons_zero, List.set_cons_succ]
              refine wpG_one (i := 0) rfl (by kernel_rfl) (by rfl) ?_
              go_simp
              have hb : Gr wc (wc.alloc (.cells #[] 3)) := (Below.refl _ _).alloc (Nat.le_refl _) _
              have hsz : (wc.alloc (.cells #[] 3)).heap.size = wc.heap.size + 1 := World.size_alloc _ _
              refine ⟨hb.mono (Below.size HC.out), ?_⟩
              have ho : (wc.alloc (.cells #[] 3)).ownsRow wc.heap.size 3 1 (.slice (some ⟨wc.heap.size, 0, none⟩) 0 0) 0 [] := own_new wc [] 3 0 1 rfl (Nat.zero_le _)
              try have HON' := Lib.hid (Rd.below HON.out hb)
              have ho2 := ownsRow_mono ho (Below.size HC.out)
              have hc2 : Gr wo (wc.alloc (.cells #[] 3)) := Gr.trans HC.out hb
              generalize wc.alloc (.cells #[] 3) = wn at *
              obtain ⟨b1, hb1⟩ : ∃ b, b = wc.heap.size := ⟨_, rfl⟩
              rw [← hb1] at ho2 hsz ⊢
              try have HNE : Hid (b15 ≠ b1) := by have := HL15.out; show _ ≠ _; omega
              have HL1 : Hid (b1 < wn.heap.size) := by show _ < _; omega
              have HOWN := Lib.hid ho2
              clear HC ho ho2 hb hsz hb1
              have HC := Lib.hid hc2
              clear hc2
              try (clear HON; have HON := HON'; clear HON')
              obtain ⟨wc, hwc⟩ : ∃ x, x = wn := ⟨_, rfl⟩
              subst hwc
              try simp only [Act.put, List.setIfInBounds_toArray, List.set_cons_zero, List.set_cons_succ]
              refine wpG_one (i := 4) rfl (by kernel_rfl) (by rfl) ?_
              refine wp_append_gr _ (some 39) (.tmp 35) (.tmp 38) 41 rfl wo.heap.size 3 i0 _ 1 8 Try.underlying41 hi0 hz0 hz1 hz2 rfl (by decide) _ _ _ rfl HOWN.out _ k _ rfl (Rd.below HR1.out HC.out) HO1.out HBY.out (by decide) (Below.size HC.out) rfl ?_
              intro v' wn ho hg
              have hb := grown_below HOWN.out (Below.size HC.out) hg
              refine ⟨hb, ?_⟩
              try have HON' : Hid (Rd wn 1 (.slice (some ⟨b15, 0, none⟩) 1 1) 1 [.int .i64 x]) := Rd.tr HON.out (Tr.grown hg) fun k hk h6 => HNE.out ((List.mem_singleton.1 hk).symm.trans (List.mem_singleton.1 h6))
              have hc2 : Gr wo wn := Below.trans HC.out hb
              clear HC HOWN hg hb
              have HC := Lib.hid hc2
              have HOWN := Lib.hid ho
              clear hc2 ho
              try (clear HON; have HON := HON'; clear HON')
              try clear HL1
              obtain ⟨wc, hwc⟩ : ∃ x, x = wn := ⟨_, rfl⟩
              subst hwc
              try simp only [Act.put, List.setIfInBounds_toArray, List.set_cons_zero, List.set_cons_succ]
              refine wpG_one (i := 13) rfl (by kernel_rfl) (by rfl) ?_
              refine wp_append_gr _ (some 48) (.tmp 39) (.tmp 47) 41 rfl wo.heap.size 3 i0 _ 1 8 Try.underlying41 hi0 hz0 hz1 hz2 rfl (by decide) _ _ _ rfl HOWN.out _ 1 _ rfl HON.out (one_int _) HBY2.out (by decide) (Below.size HC.out) rfl ?_
              intro v' wn ho hg
              have hb := grown_below HOWN.out (Below.size HC.out) hg
              refine ⟨hb, ?_⟩
              have hc2 : Gr wo wn := Below.trans HC.out hb
              clear HC HOWN HON hg hb
              have HC := Lib.hid hc2
              have HOWN := Lib.hid ho
              clear hc2 ho
              obtain ⟨wc, hwc⟩ : ∃ x, x = wn := ⟨_, rfl⟩
              subst hwc
              try simp only [Act.put, List.setIfInBounds_toArray, List.set_cons_zero, List.set_cons_succ]
              refine wpG_one (i := 17) rfl (by kernel_rfl) (by rfl) ?_
              refine wp_append_gr _ (some 52) (.tmp 48) (.tmp 51) 41 rfl wo.heap.size 3 i0 _ 1 8 Try.underlying41 hi0 hz0 hz1 hz2 rfl (by decide) _ _ _ rfl HOWN.out _ (i - k) _ rfl (Rd.below HR2.out HC.out) HO2.out HBY3.out (by decide) (Below.size HC.out) rfl ?_
              intro v' wn ho hg
              have hb := grown_below HOWN.out (Below.size HC.out) hg
              refine ⟨hb, ?_⟩
              have hc2 : Gr wo wn := Below.trans HC.out hb
              have HFB : Hid (Below w.heap.size w wn) := HB.out.trans (Below.mono hc2 HB.out.size)
              have HFO : Hid (wn.ownsRow w.heap.size 3 1 v' (i + 1) (ints (sorted (S.used.take (i + 1))))) := by
                show World.ownsRow _ _ _ _ _ _ _
                rw [hLn.out, HPUT.out]
                have h7 : 0 + k + 1 + (i - k) = i + 1 := by omega
                rw [h7] at ho
                have h8 := ownsRow_mono ho HB.out.size
                simpa [ints] using h8
              clear hc2 ho hg hb HC HOWN
              try simp only [Act.put, List.setIfInBounds_toArray, List.set_cons_zero, List.set_cons_succ]
              refine wpG_tail (i := 18) (by decide) rfl (by kernel_rfl) (by rfl) ?_
              go_simp
              try simp only [Act.put, List.setIfInBounds_toArray, List.set_cons_zero, List.set_cons_succ]
              refine wpG_done (by kernel_rfl) ?_ _
              go_wp2_with fail
              go_roundw
              case rel =>
                first
                  | exact ⟨i + 1, hle, by go_num, HFO.out, HFB.out⟩
                  | ((repeat apply Exists.intro); exact ⟨⟨i + 1, hle, by go_num, HFO.out, HFB.out⟩, rfl⟩)
              case measure => simp [intOf]; omega
        · have HNOT : Hid (∀ (h2 : k < L.length), ¬ L[k] < x) := fun h2 => by have := HLL.out; omega
          go_upto_region 6 with fail
          have HC : Hid (Gr wo wr.drew) := Gr.trans HGQ.out (Gr.drew wr)
          refine wp_region_G 18 Gr (by kernel_rfl) ?_
          generalize wr.drew = wc at HC ⊢
          -- 0: slot 15
          refine wpG_take preGr (i := 0) (v := ?_) (by kernel_rfl) (some 15) (by kernel_rfl) rfl (by kernel_rfl) (by kernel_rfl) (by kernel_rfl) (fun _ _ _ h => h) (by rfl) (fun w' hw' => ?_) rfl ?_
          rotate_left
          · go_simp
            with_reducible rfl
          simp only [Act.put, List.setIfInBounds_toArray, List.set_cons_zero, List.set_cons_succ]
          -- 1: slot 16
          refine wpG_take preGr (i := 1) (v := ?_) (by kernel_rfl) (some 16) (by kernel_rfl) rfl (by kernel_rfl) (by kernel_rfl) (by kernel_rfl) (fun _ _ _ h => h) (by rfl) (fun w' hw' => ?_) rfl ?_
          rotate_left
          · go_simp
            with_reducible rfl
          simp only [Act.put, List.setIfInBounds_toArray, List.set_cons_zero, List.set_cons_succ]
          -- 2: slot 17
          refine wpG_take preGr (i := 2) (v := ?_) (by kernel_rfl) (some 17) (by kernel_rfl) rfl (by kernel_rfl) (by kernel_rfl) (by kernel_rfl) (fun _ _ _ h => h) (by rfl) (fun w' hw' => ?_) rfl ?_
          rotate_left
          · go_simp
            with_reducible rfl
          simp only [Act.put, List.setIfInBounds_toArray, List.set_cons_zero, List.set_cons_succ]
          -- 3: slot 18
          refine wpG_take preGr (i := 3) (v := ?_) (by kernel_rfl) (some 18) (by kernel_rfl) rfl (by kernel_rfl) (by kernel_rfl) (by kernel_rfl) (fun _ _ _ h => h) (by rfl) (fun w' hw' => ?_) rfl ?_
          rotate_left
          · go_simp
            with_reducible rfl
          simp only [Act.put, List.setIfInBounds_toArray, List.set_cons_zero, List.set_cons_succ]
          -- 4: slot 19
          refine wpG_take preGr (i := 4) (v := ?_) (by kernel_rfl) (some 19) (by kernel_rfl) rfl (by kernel_rfl) (by kernel_rfl) (by kernel_rfl) (fun _ _ _ h => h) (by rfl) (fun w' hw' => ?_) rfl ?_
          rotate_left
          · go_simp
            with_reducible rfl
          simp only [Act.put, List.setIfInBounds_toArray, List.set_cons_zero, List.set_cons_succ]
          refine wpG_pass preGr (i := 5) (by kernel_rfl) (some 20) (by kernel_rfl) rfl (by kernel_rfl) (by kernel_rfl) (by kernel_rfl) (fun _ _ _ h => h) (by rfl) rfl ?_
          simp only [Act.put, List.setIfInBounds_toArray, List.set_cons_zero, List.set_cons_succ]
          refine wpG_pass preGr (i := 6) (by kernel_rfl) (some 21) (by kernel_rfl) rfl (by kernel_rfl) (by kernel_rfl) (by kernel_rfl) (fun _ _ _ h => h) (by rfl) rfl ?_
          simp only [Act.put, List.setIfInBounds_toArray, List.set_cons_zero, List.set_cons_succ]
          refine wpG_pass preGr (i := 7) (by kernel_rfl) (some 22) (by kernel_rfl) rfl (by kernel_rfl) (by kernel_rfl) (by kernel_rfl) (fun _ _ _ h => h) (by rfl) rfl ?_
          simp only [Act.put, List.setIfInBounds_toArray, List.set_cons_zero, List.set_cons_succ]
          refine wpG_pass preGr (i := 8) (by kernel_rfl) (some 23) (by kernel_rfl) rfl (by kernel_rfl) (by kernel_rfl) (by kernel_rfl) (fun _ _ _ h => h) (by rfl) rfl ?_
          simp only [Act.put, List.setIfInBounds_toArray, List.set_cons_zero, List.set_cons_succ]
          refine wpG_pass preGr (i := 9) (by kernel_rfl) (some 24) (by kernel_rfl) rfl (by kernel_rfl) (by kernel_rfl) (by kernel_rfl) (fun _ _ _ h => h) (by rfl) rfl ?_
          simp only [Act.put, List.setIfInBounds_toArray, List.set_cons_zero, List.set_cons_succ]
          refine wpG_pass preGr (i := 10) (by kernel_rfl) (some 25) (by kernel_rfl) rfl (by kernel_rfl) (by kernel_rfl) (by kernel_rfl) (fun _ _ _ h => h) (by rfl) rfl ?_
          simp only [Act.put, List.setIfInBounds_toArray, List.set_cons_zero, List.set_cons_succ]
          refine wpG_pass preGr (i := 11) (by kernel_rfl) (some 26) (by kernel_rfl) rfl (by kernel_rfl) (by kernel_rfl) (by kernel_rfl) (fun _ _ _ h => h) (by rfl) rfl ?_
          simp only [Act.put, List.setIfInBounds_toArray, List.set_cons_zero, List.set_cons_succ]
          refine wpG_pass preGr (i := 12) (by kernel_rfl) (some 27) (by kernel_rfl) rfl (by kernel_rfl) (by kernel_rfl) (by kernel_rfl) (fun _ _ _ h => h) (by rfl) rfl ?_
          simp only [Act.put, List.setIfInBounds_toArray, List.set_cons_zero, List.set_cons_succ]
          refine wpG_pass preGr (i := 13) (by kernel_rfl) (some 28) (by kernel_rfl) rfl (by kernel_rfl) (by kernel_rfl) (by kernel_rfl) (fun _ _ _ h => h) (by rfl) rfl ?_
          simp only [Act.put, List.setIfInBounds_toArray, List.set_cons_zero, List.set_cons_succ]
          refine wpG_pass preGr (i := 14) (by kernel_rfl) (some 29) (by kernel_rfl) rfl (by kernel_rfl) (by kernel_rfl) (by kernel_rfl) (fun _ _ _ h => h) (by rfl) rfl ?_
          simp only [Act.put, List.setIfInBounds_toArray, List.set_cons_zero, List.set_cons_succ]
          refine wpG_pass preGr (i := 15) (by kernel_rfl) (some 30) (by kernel_rfl) rfl (by kernel_rfl) (by kernel_rfl) (by kernel_rfl) (fun _ _ _ h => h) (by rfl) rfl ?_
          simp only [Act.put, List.setIfInBounds_toArray, List.set_cons_zero, List.set_cons_succ]
          refine wpG_pass preGr (i := 16) (by kernel_rfl) (some 31) (by kernel_rfl) rfl (by kernel_rfl) (by kernel_rfl) (by kernel_rfl) (fun _ _ _ h => h) (by rfl) rfl ?_
          simp only [Act.put, List.setIfInBounds_toArray, List.set_cons_zero, List.set_cons_succ]
          -- 17: slot 32
          refine wpG_take preGr (i := 17) (v := ?_) (by kernel_rfl) (some 32) (by kernel_rfl) rfl (by kernel_rfl) (by kernel_rfl) (by kernel_rfl) (fun _ _ _ h => h) (by rfl) (fun w' hw' => ?_) rfl ?_
          rotate_left
          · go_simp
            with_reducible rfl
          simp only [Act.put, List.setIfInBounds_toArray, List.set_cons_zero, List.set_cons_succ]
          refine wpG_done (by kernel_rfl) ?_ _
          obtain ⟨ao1, hs1, hr1⟩ := slice_upto Try.underlying41 hi0 hz1 HL.out .i64 (k : Int) k rfl hki
          obtain ⟨ao2, hs2, hr2⟩ := slice_from Try.underlying41 hi0 hz1 HL.out .i64 (k : Int) k rfl hki
          have HR1 := Lib.hid hr1
          have HR2 := Lib.hid hr2
          have HO1 : Hid (∀ u ∈ (ints L).take (k * 1), u.oneCell' = true) := fun u hu => ints_cell _ u (List.mem_of_mem_take hu)
          have HO2 : Hid (∀ u ∈ (ints L).drop (k * 1), u.oneCell' = true) := fun u hu => ints_cell _ u (List.mem_of_mem_drop hu)
          have HBY : Hid ((0 + k) * 8 ≤ 140737488355328) := by show _ ≤ _; omega
          have HBY2 : Hid ((0 + k + 1) * 8 ≤ 140737488355328) := by show _ ≤ _; omega
          have HBY3 : Hid ((0 + k + 1 + (i - k)) * 8 ≤ 140737488355328) := by show _ ≤ _; omega
          have HPUT : Hid (put x L = L.take k ++ x :: L.drop k) := put_at L k (by have := HLL.out; omega) HALL.out HNOT.out
          have hle : i + 1 ≤ n := by omega
          clear hr1 hr2 HALL HNOT
          obtain ⟨wp, hwp⟩ : ∃ wp, wp = wc := ⟨_, rfl⟩
          subst hwp
          go_upto_region 8 with fail
          have HC2 : Hid (Gr wo wp.drew) := Gr.trans HC.out (Gr.drew wp)
          clear HC
          have HC := HC2
          clear HC2
          refine wp_region_G 18 (Below (wo.heap.size)) (by kernel_rfl) ?_
          generalize wp.drew = wc at HC ⊢
          -- 1: slot 36
          refine wpG_take (preBelow (wo.heap.size)) (i := 1) (v := ?_) (by kernel_rfl) (some 36) (by kernel_rfl) rfl (by kernel_rfl) (by kernel_rfl) (by kernel_rfl) (fun _ _ _ h => h) (by rfl) (fun w' hw' => ?_) rfl ?_
          rotate_left
          · try (have d0 := HCX.out; have hcw : Gr wo w' := Below.trans HC.out hw'; have d0 := cell_gr hcw HCX.out; have d4 := HCELLS.out _ hcw)
            go_simp
            with_reducible rfl
          simp only [Act.put, List.setIfInBounds_toArray, List.set_cons_zero, List.set_cons_succ]
          -- 2: slot 37
          refine wpG_take (preBelow (wo.heap.size)) (i := 2) (v := ?_) (by kernel_rfl) (some 37) (by kernel_rfl) rfl (by kernel_rfl) (by kernel_rfl) (by kernel_rfl) (fun _ _ _ h => h) (by rfl) (fun w' hw' => ?_) rfl ?_
          rotate_left
          · try (have d0 := HCX.out; have hcw : Gr wo w' := Below.trans HC.out hw'; have d0 := cell_gr hcw HCX.out; have d4 := HCELLS.out _ hcw)
            go_simp
            with_reducible rfl
          simp only [Act.put, List.setIfInBounds_toArray, List.set_cons_zero, List.set_cons_succ]
          -- 3: slot 38
          refine wpG_take (preBelow (wo.heap.size)) (i := 3) (v := ?_) (by kernel_rfl) (some 38) (by kernel_rfl) rfl (by kernel_rfl) (by kernel_rfl) (by kernel_rfl) (fun _ _ _ h => h) (by rfl) (fun w' hw' => ?_) rfl ?_
          rotate_left
          · try (have d0 := HCX.out; have hcw : Gr wo w' := Below.trans HC.out hw'; have d0 := cell_gr hcw HCX.out; have d4 := HCELLS.out _ hcw)
            go_simp
            with_reducible rfl
          simp only [Act.put, List.setIfInBounds_toArray, List.set_cons_zero, List.set_cons_succ]
          -- 5: slot 40
          refine wpG_take (preBelow (wo.heap.size)) (i := 5) (v := ?_) (by kernel_rfl) (some 40) (by kernel_rfl) rfl (by kernel_rfl) (by kernel_rfl) (by kernel_rfl) (fun _ _ _ h => h) (by rfl) (fun w' hw' => ?_) rfl ?_
          rotate_left
          · try (have d0 := HCX.out; have hcw : Gr wo w' := Below.trans HC.out hw'; have d0 := cell_gr hcw HCX.out; have d4 := HCELLS.out _ hcw)
            go_simp
            with_reducible rfl
          simp only [Act.put, List.setIfInBounds_toArray, List.set_cons_zero, List.set_cons_succ]
          -- 6: slot 41
          refine wpG_take (preBelow (wo.heap.size)) (i := 6) (v := ?_) (by kernel_rfl) (some 41) (by kernel_rfl) rfl (by kernel_rfl) (by kernel_rfl) (by kernel_rfl) (fun _ _ _ h => h) (by rfl) (fun w' hw' => ?_) rfl ?_
          rotate_left
          · try (have d0 := HCX.out; have hcw : Gr wo w' := Below.trans HC.out hw'; have d0 := cell_gr hcw HCX.out; have d4 := HCELLS.out _ hcw)
            go_simp
            with_reducible rfl
          simp only [Act.put, List.setIfInBounds_toArray, List.set_cons_zero, List.set_cons_succ]
          -- 7: slot 42
          refine wpG_take (preBelow (wo.heap.size)) (i := 7) (v := ?_) (by kernel_rfl) (some 42) (by kernel_rfl) rfl (by kernel_rfl) (by kernel_rfl) (by kernel_rfl) (fun _ _ _ h => h) (by rfl) (fun w' hw' => ?_) rfl ?_
          rotate_left
          · try (have d0 := HCX.out; have hcw : Gr wo w' := Below.trans HC.out hw'; have d0 := cell_gr hcw HCX.out; have d4 := HCELLS.out _ hcw)
            go_simp
            with_reducible rfl
          simp only [Act.put, List.setIfInBounds_toArray, List.set_cons_zero, List.set_cons_succ]
          -- 8: slot 43
          refine wpG_take (preBelow (wo.heap.size)) (i := 8) (v := ?_) (by kernel_rfl) (some 43) (by kernel_rfl) rfl (by kernel_rfl) (by kernel_rfl) (by kernel_rfl) (fun _ _ _ h => h) (by rfl) (fun w' hw' => ?_) rfl ?_
          rotate_left
          · try (have d0 := HCX.out; have hcw : Gr wo w' := Below.trans HC.out hw'; have d0 := cell_gr hcw HCX.out; have d4 := HCELLS.out _ hcw)
            go_simp
            with_reducible rfl
          simp only [Act.put, List.setIfInBounds_toArray, List.set_cons_zero, List.set_cons_succ]
          -- 9: slot 44
          refine wpG_take (preBelow (wo.heap.size)) (i := 9) (v := ?_) (by kernel_rfl) (some 44) (by kernel_rfl) rfl (by kernel_rfl) (by kernel_rfl) (by kernel_rfl) (fun _ _ _ h => h) (by rfl) (fun w' hw' => ?_) rfl ?_
          rotate_left
          · try (have d0 := HCX.out; have hcw : Gr wo w' := Below.trans HC.out hw'; have d0 := cell_gr hcw HCX.out; have d4 := HCELLS.out _ hcw)
            go_simp
            with_reducible rfl
          simp only [Act.put, List.setIfInBounds_toArray, List.set_cons_zero, List.set_cons_succ]
          -- 10: slot 45
          refine wpG_take (preBelow (wo.heap.size)) (i := 10) (v := ?_) (by kernel_rfl) (some 45) (by kernel_rfl) rfl (by kernel_rfl) (by kernel_rfl) (by kernel_rfl) (fun _ _ _ h => h) (by rfl) (fun w' hw' => ?_) rfl ?_
          rotate_left
          · try (have d0 := HCX.out; have hcw : Gr wo w' := Below.trans HC.out hw'; have d0 := cell_gr hcw HCX.out; have d4 := HCELLS.out _ hcw)
            go_simp
            with_reducible rfl
          simp only [Act.put, List.setIfInBounds_toArray, List.set_cons_zero, List.set_cons_succ]
          -- 11: slot 46
          refine wpG_take (preBelow (wo.heap.size)) (i := 11) (v := ?_) (by kernel_rfl) (some 46) (by kernel_rfl) rfl (by kernel_rfl) (by kernel_rfl) (by kernel_rfl) (fun _ _ _ h => h) (by rfl) (fun w' hw' => ?_) rfl ?_
          rotate_left
          · try (have d0 := HCX.out; have hcw : Gr wo w' := Below.trans HC.out hw'; have d0 := cell_gr hcw HCX.out; have d4 := HCELLS.out _ hcw)
            go_simp
            with_reducible rfl
          simp only [Act.put, List.setIfInBounds_toArray, List.set_cons_zero, List.set_cons_succ]
          -- 14: slot 49
          refine wpG_take (preBelow (wo.heap.size)) (i := 14) (v := ?_) (by kernel_rfl) (some 49) (by kernel_rfl) rfl (by kernel_rfl) (by kernel_rfl) (by kernel_rfl) (fun _ _ _ h => h) (by rfl) (fun w' hw' => ?_) rfl ?_
          rotate_left
          · try (have d0 := HCX.out; have hcw : Gr wo w' := Below.trans HC.out hw'; have d0 := cell_gr hcw HCX.out; have d4 := HCELLS.out _ hcw)
            go_simp
            with_reducible rfl
          simp only [Act.put, List.setIfInBounds_toArray, List.set_cons_zero, List.set_cons_succ]
          -- 15: slot 50
          refine wpG_take (preBelow (wo.heap.size)) (i := 15) (v := ?_) (by kernel_rfl) (some 50) (by kernel_rfl) rfl (by kernel_rfl) (by kernel_rfl) (by kernel_rfl) (fun _ _ _ h => h) (by rfl) (fun w' hw' => ?_) rfl ?_
          rotate_left
          · try (have d0 := HCX.out; have hcw : Gr wo w' := Below.trans HC.out hw'; have d0 := cell_gr hcw HCX.out; have d4 := HCELLS.out _ hcw)
            go_simp
            with_reducible rfl
          simp only [Act.put, List.setIfInBounds_toArray, List.set_cons_zero, List.set_cons_succ]
          -- 16: slot 51
          refine wpG_take (preBelow (wo.heap.size)) (i := 16) (v := ?_) (by kernel_rfl) (some 51) (by kernel_rfl) rfl (by kernel_rfl) (by kernel_rfl) (by kernel_rfl) (fun _ _ _ h => h) (by rfl) (fun w' hw' => ?_) rfl ?_
          rotate_left
          · try (have d0 := HCX.out; have hcw : Gr wo w' := Below.trans HC.out hw'; have d0 := cell_gr hcw HCX.out; have d4 := HCELLS.out _ hcw)
            go_simp
            with_reducible rfl
          simp only [Act.put, List.setIfInBounds_toArray, List.set_cons_zero, List.set_cons_succ]
          refine wpG_two (i := 0) (j := 12) rfl rfl (by kernel_rfl) (by rfl) (by rfl) ?_ ?_
          · go_simp
            have hb : Gr wc (wc.alloc (.cells #[] 3)) := (Below.refl _ _).alloc (Nat.le_refl _) _
            have hsz : (wc.alloc (.cells #[] 3)).heap.size = wc.heap.size + 1 := World.size_alloc _ _
            refine ⟨hb.mono (Below.size HC.out), ?_⟩
            have ho : (wc.alloc (.cells #[] 3)).ownsRow wc.heap.size 3 1 (.slice (some ⟨wc.heap.size, 0, none⟩) 0 0) 0 [] := own_new wc [] 3 0 1 rfl (Nat.zero_le _)
            try have HON' := Lib.hid (Rd.below HON.out hb)
            have ho2 := ownsRow_mono ho (Below.size HC.out)
            have hc2 : Gr wo (wc.alloc (.cells #[] 3)) := Gr.trans HC.out hb
            generalize wc.alloc (.cells #[] 3) = wn at *
            obtain ⟨b1, hb1⟩ : ∃ b, b = wc.heap.size := ⟨_, rfl⟩
            rw [← hb1] at ho2 hsz ⊢
            try have HNE : Hid (b15 ≠ b1) := by have := HL15.out; show _ ≠ _; omega
            have HL1 : Hid (b1 < wn.heap.size) := by show _ < _; omega
            have HOWN := Lib.hid ho2
            clear HC ho ho2 hb hsz hb1
            have HC := Lib.hid hc2
            clear hc2
            try (clear HON; have HON := HON'; clear HON')
            obtain ⟨wc, hwc⟩ : ∃ x, x = wn := ⟨_, rfl⟩
            subst hwc
            try simp only [Act.put, List.setIfInBounds_toArray, List.set_cons_zero, List.set_cons_succ]
            refine wpG_two (i := 4) (j := 12) rfl rfl (by kernel_rfl) (by rfl) (by rfl) ?_ ?_
            · refine wp_append_gr _ (some 39) (.tmp 35) (.tmp 38) 41 rfl wo.heap.size 3 i0 _ 1 8 Try.underlying41 hi0 hz0 hz1 hz2 rfl (by decide) _ _ _ rfl HOWN.out _ k _ rfl (Rd.below HR1.out HC.out) HO1.out HBY.out (by decide) (Below.size HC.out) rfl ?_
              intro v' wn ho hg
              have hb := grown_below HOWN.out (Below.size HC.out) hg
              refine ⟨hb, ?_⟩
              try have HON' : Hid (Rd wn 1 (.slice (some ⟨b15, 0, none⟩) 1 1) 1 [.int .i64 x]) := Rd.tr HON.out (Tr.grown hg) fun k hk h6 => HNE.out ((List.mem_singleton.1 hk).symm.trans (List.mem_singleton.1 h6))
              have hc2 : Gr wo wn := Below.trans HC.out hb
              clear HC HOWN hg hb
              have HC := Lib.hid hc2
              have HOWN := Lib.hid ho
              clear hc2 ho
              try (clear HON; have HON := HON'; clear HON')
              try clear HL1
              obtain ⟨wc, hwc⟩ : ∃ x, x = wn := ⟨_, rfl⟩
              subst hwc
              try simp only [Act.put, List.setIfInBounds_toArray, List.set_cons_zero, List.set_cons_succ]
              refine wpG_one (i := 12) rfl (by kernel_rfl) (by rfl) ?_
              go_simp
              have hb : Gr wc (wc.alloc (.cells #[.int .i64 x] 3)) := (Below.refl _ _).alloc (Nat.le_refl _) _
              have hsz : (wc.alloc (.cells #[.int .i64 x] 3)).heap.size = wc.heap.size + 1 := World.size_alloc _ _
              refine ⟨hb.mono (Below.size HC.out), ?_⟩
              have hn1 : Rd (wc.alloc (.cells #[.int .i64 x] 3)) 1 (.slice (some ⟨wc.heap.size, 0, none⟩) 1 1) 1 [.int .i64 x] := rd_new wc [.int .i64 x] 3 1 1 rfl (by decide)
              try have HOW' := Lib.hid (ownsRow_below HOWN.out hb)
              have hc2 : Gr wo (wc.alloc (.cells #[.int .i64 x] 3)) := Gr.trans HC.out hb
              generalize wc.alloc (.cells #[.int .i64 x] 3) = wn at *
              obtain ⟨b15, hb15⟩ : ∃ b, b = wc.heap.size := ⟨_, rfl⟩
              rw [← hb15] at hn1 hsz ⊢
              try have HNE : Hid (b15 ≠ b1) := by have := HL1.out; show _ ≠ _; omega
              have HL15 : Hid (b15 < wn.heap.size) := by show _ < _; omega
              have HON := Lib.hid hn1
              clear HC hn1 hb hsz hb15
              have HC := Lib.hid hc2
              clear hc2
              try (clear HOWN; have HOWN := HOW'; clear HOW')
              obtain ⟨wc, hwc⟩ : ∃ x, x = wn := ⟨_, rfl⟩
              subst hwc
              try simp only [Act.put, List.setIfInBounds_toArray, List.set_cons_zero, List.set_cons_succ]
              refine wpG_one (i := 13) rfl (by kernel_rfl) (by rfl) ?_
              refine wp_append_gr _ (some 48) (.tmp 39) (.tmp 47) 41 rfl wo.heap.size 3 i0 _ 1 8 Try.underlying41 hi0 hz0 hz1 hz2 rfl (by decide) _ _ _ rfl HOWN.out _ 1 _ rfl HON.out (one_int _) HBY2.out (by decide) (Below.size HC.out) rfl ?_
              intro v' wn ho hg
              have hb := grown_below HOWN.out (Below.size HC.out) hg
              refine ⟨hb, ?_⟩
              have hc2 : Gr wo wn := Below.trans HC.out hb
              clear HC HOWN HON hg hb
              have HC := Lib.hid hc2
              have HOWN := Lib.hid ho
              clear hc2 ho
              obtain ⟨wc, hwc⟩ : ∃ x, x = wn := ⟨_, rfl⟩
              subst hwc
              try simp only [Act.put, List.setIfInBounds_toArray, List.set_cons_zero, List.set_cons_succ]
              refine wpG_one (i := 17) rfl (by kernel_rfl) (by rfl) ?_
              refine wp_append_gr _ (some 52) (.tmp 48) (.tmp 51) 41 rfl wo.heap.size 3 i0 _ 1 8 Try.underlying41 hi0 hz0 hz1 hz2 rfl (by decide) _ _ _ rfl HOWN.out _ (i - k) _ rfl (Rd.below HR2.out HC.out) HO2.out HBY3.out (by decide) (Below.size HC.out) rfl ?_
              intro v' wn ho hg
              have hb := grown_below HOWN.out (Below.size HC.out) hg
              refine ⟨hb, ?_⟩
              have hc2 : Gr wo wn := Below.trans HC.out hb
              have HFB : Hid (Below w.heap.size w wn) := HB.out.trans (Below.mono hc2 HB.out.size)
              have HFO : Hid (wn.ownsRow w.heap.size 3 1 v' (i + 1) (ints (sorted (S.used.take (i + 1))))) := by
                show World.ownsRow _ _ _ _ _ _ _
                rw [hLn.out, HPUT.out]
                have h7 : 0 + k + 1 + (i - k) = i + 1 := by omega
                rw [h7] at ho
                have h8 := ownsRow_mono ho HB.out.size
                simpa [ints] using h8
              clear hc2 ho hg hb HC HOWN
              try simp only [Act.put, List.setIfInBounds_toArray, List.set_cons_zero, List.set_cons_succ]
              refine wpG_tail (i := 18) (by decide) rfl (by kernel_rfl) (by rfl) ?_
              go_simp
              try simp only [Act.put, List.setIfInBounds_toArray, List.set_cons_zero, List.set_cons_succ]
              refine wpG_done (by kernel_rfl) ?_ _
              go_wp2_with fail
              go_roundw
              case rel =>
                first
                  | exact ⟨i + 1, hle, by go_num, HFO.out, HFB.out⟩
                  | ((repeat apply Exists.intro); exact ⟨⟨i + 1, hle, by go_num, HFO.out, HFB.out⟩, rfl⟩)
              case measure => simp [intOf]; omega
            · go_simp
              have hb : Gr wc (wc.alloc (.cells #[.int .i64 x] 3)) := (Below.refl _ _).alloc (Nat.le_refl _) _
              have hsz : (wc.alloc (.cells #[.int .i64 x] 3)).heap.size = wc.heap.size + 1 := World.size_alloc _ _
              refine ⟨hb.mono (Below.size HC.out), ?_⟩
              have hn1 : Rd (wc.alloc (.cells #[.int .i64 x] 3)) 1 (.slice (some ⟨wc.heap.size, 0, none⟩) 1 1) 1 [.int .i64 x] := rd_new wc [.int .i64 x] 3 1 1 rfl (by decide)
              try have HOW' := Lib.hid (ownsRow_below HOWN.out hb)
              have hc2 : Gr wo (wc.alloc (.cells #[.int .i64 x] 3)) := Gr.trans HC.out hb
              generalize wc.alloc (.cells #[.int .i64 x] 3) = wn at *
              obtain ⟨b15, hb15⟩ : ∃ b, b = wc.heap.size := ⟨_, rfl⟩
              rw [← hb15] at hn1 hsz ⊢
              try have HNE : Hid (b15 ≠ b1) := by have := HL1.out; show _ ≠ _; omega
              have HL15 : Hid (b15 < wn.heap.size) := by show _ < _; omega
              have HON := Lib.hid hn1
              clear HC hn1 hb hsz hb15
              have HC := Lib.hid hc2
              clear hc2
              try (clear HOWN; have HOWN := HOW'; clear HOW')
              obtain ⟨wc, hwc⟩ : ∃ x, x = wn := ⟨_, rfl⟩
              subst hwc
              try simp only [Act.put, List.setIfInBounds_toArray, List.set_cons_zero, List.set_cons_succ]
              refine wpG_one (i := 4) rfl (by kernel_rfl) (by rfl) ?_
              refine wp_append_gr _ (some 39) (.tmp 35) (.tmp 38) 41 rfl wo.heap.size 3 i0 _ 1 8 Try.underlying41 hi0 hz0 hz1 hz2 rfl (by decide) _ _ _ rfl HOWN.out _ k _ rfl (Rd.below HR1.out HC.out) HO1.out HBY.out (by decide) (Below.size HC.out) rfl ?_
              intro v' wn ho hg
              have hb := grown_below HOWN.out (Below.size HC.out) hg
              refine ⟨hb, ?_⟩
              try have HON' : Hid (Rd wn 1 (.slice (some ⟨b15, 0, none⟩) 1 1) 1 [.int .i64 x]) := Rd.tr HON.out (Tr.grown hg) fun k hk h6 => HNE.out ((List.mem_singleton.1 hk).symm.trans (List.mem_singleton.1 h6))
              have hc2 : Gr wo wn := Below.trans HC.out hb
              clear HC HOWN hg hb
              have HC := Lib.hid hc2
              have HOWN := Lib.hid ho
              clear hc2 ho
              try (clear HON; have HON := HON'; clear HON')
              try clear HL1
              obtain ⟨wc, hwc⟩ : ∃ x, x = wn := ⟨_, rfl⟩
              subst hwc
              try simp only [Act.put, List.setIfInBounds_toArray, List.set_cons_zero, List.set_cons_succ]
              refine wpG_one (i := 13) rfl (by kernel_rfl) (by rfl) ?_
              refine wp_append_gr _ (some 48) (.tmp 39) (.tmp 47) 41 rfl wo.heap.size 3 i0 _ 1 8 Try.underlying41 hi0 hz0 hz1 hz2 rfl (by decide) _ _ _ rfl HOWN.out _ 1 _ rfl HON.out (one_int _) HBY2.out (by decide) (Below.size HC.out) rfl ?_
              intro v' wn ho hg
              have hb := grown_below HOWN.out (Below.size HC.out) hg
              refine ⟨hb, ?_⟩
              have hc2 : Gr wo wn := Below.trans HC.out hb
              clear HC HOWN HON hg hb
              have HC := Lib.hid hc2
              have HOWN := Lib.hid ho
              clear hc2 ho
              obtain ⟨wc, hwc⟩ : ∃ x, x = wn := ⟨_, rfl⟩
              subst hwc
              try simp only [Act.put, List.setIfInBounds_toArray, List.set_cons_zero, List.set_cons_succ]
              refine wpG_one (i := 17) rfl (by kernel_rfl) (by rfl) ?_
              refine wp_append_gr _ (some 52) (.tmp 48) (.tmp 51) 41 rfl wo.heap.size 3 i0 _ 1 8 Try.underlying41 hi0 hz0 hz1 hz2 rfl (by decide) _ _ _ rfl HOWN.out _ (i - k) _ rfl (Rd.below HR2.out HC.out) HO2.out HBY3.out (by decide) (Below.size HC.out) rfl ?_
              intro v' wn ho hg
              have hb := grown_below HOWN.out (Below.size HC.out) hg
              refine ⟨hb, ?_⟩
              have hc2 : Gr wo wn := Below.trans HC.out hb
              have HFB : Hid (Below w.heap.size w wn) := HB.out.trans (Below.mono hc2 HB.out.size)
              have HFO : Hid (wn.ownsRow w.heap.size 3 1 v' (i + 1) (ints (sorted (S.used.take (i + 1))))) := by
                show World.ownsRow _ _ _ _ _ _ _
                rw [hLn.out, HPUT.out]
                have h7 : 0 + k + 1 + (i - k) = i + 1 := by omega
                rw [h7] at ho
                have h8 := ownsRow_mono ho HB.out.size
                simpa [ints] using h8
              clear hc2 ho hg hb HC HOWN
              try simp only [Act.put, List.setIfInBounds_toArray, List.set_cons_zero, List.set_cons_succ]
              refine wpG_tail (i := 18) (by decide) rfl (by kernel_rfl) (by rfl) ?_
              go_simp
              try simp only [Act.put, List.setIfInBounds_toArray, List.set_cons_zero, List.set_cons_succ]
              refine wpG_done (by kernel_rfl) ?_ _
              go_wp2_with fail
              go_roundw
              case rel =>
                first
                  | exact ⟨i + 1, hle, by go_num, HFO.out, HFB.out⟩
                  | ((repeat apply Exists.intro); exact ⟨⟨i + 1, hle, by go_num, HFO.out, HFB.out⟩, rfl⟩)
              case measure => simp [intOf]; omega
          · go_simp
            have hb : Gr wc (wc.alloc (.cells #[.int .i64 x] 3)) := (Below.refl _ _).alloc (Nat.le_refl _) _
            have hsz : (wc.alloc (.cells #[.int .i64 x] 3)).heap.size = wc.heap.size + 1 := World.size_alloc _ _
            refine ⟨hb.mono (Below.size HC.out), ?_⟩
            have hn1 : Rd (wc.alloc (.cells #[.int .i64 x] 3)) 1 (.slice (some ⟨wc.heap.size, 0, none⟩) 1 1) 1 [.int .i64 x] := rd_new wc [.int .i64 x] 3 1 1 rfl (by decide)
            try have HOW' := Lib.hid (ownsRow_below HOWN.out hb)
            have hc2 : Gr wo (wc.alloc (.cells #[.int .i64 x] 3)) := Gr.trans HC.out hb
            generalize wc.alloc (.cells #[.int .i64 x] 3) = wn at *
            obtain ⟨b15, hb15⟩ : ∃ b, b = wc.heap.size := ⟨_, rfl⟩
            rw [← hb15] at hn1 hsz ⊢
            try have HNE : Hid (b15 ≠ b1) := by have := HL1.out; show _ ≠ _; omega
            have HL15 : Hid (b15 < wn.heap.size) := by show _ < _; omega
            have HON := Lib.hid hn1
            clear HC hn1 hb hsz hb15
            have HC := Lib.hid hc2
            clear hc2
            try (clear HOWN; have HOWN := HOW'; clear HOW')
            obtain ⟨wc, hwc⟩ : ∃ x, x = wn := ⟨_, rfl⟩
            subst hwc
            try simp only [Act.put, List.setIfInBounds_toArray, List.set_cons_zero, List.set_cons_succ]
            refine wpG_one (i := 0) rfl (by kernel_rfl) (by rfl) ?_
            go_simp
            have hb : Gr wc (wc.alloc (.cells #[] 3)) := (Below.refl _ _).alloc (Nat.le_refl _) _
            have hsz : (wc.alloc (.cells #[] 3)).heap.size = wc.heap.size + 1 := World.size_alloc _ _
            refine ⟨hb.mono (Below.size HC.out), ?_⟩
            have ho : (wc.alloc (.cells #[] 3)).ownsRow wc.heap.size 3 1 (.slice (some ⟨wc.heap.size, 0, none⟩) 0 0) 0 [] := own_new wc [] 3 0 1 rfl (Nat.zero_le _)
            try have HON' := Lib.hid (Rd.below HON.out hb)
            have ho2 := ownsRow_mono ho (Below.size HC.out)
            have hc2 : Gr wo (wc.alloc (.cells #[] 3)) := Gr.trans HC.out hb
            generalize wc.alloc (.cells #[] 3) = wn at *
            obtain ⟨b1, hb1⟩ : ∃ b, b = wc.heap.size := ⟨_, rfl⟩
            rw [← hb1] at ho2 hsz ⊢
            try have HNE : Hid (b15 ≠ b1) := by have := HL15.out; show _ ≠ _; omega
            have HL1 : Hid (b1 < wn.heap.size) := by show _ < _; omega
            have HOWN := Lib.hid ho2
            clear HC ho ho2 hb hsz hb1
            have HC := Lib.hid hc2
            clear hc2
            try (clear HON; have HON := HON'; clear HON')
            obtain ⟨wc, hwc⟩ : ∃ x, x = wn := ⟨_, rfl⟩
            subst hwc
            try simp only [Act.put, List.setIfInBounds_toArray, List.set_cons_zero, List.set_cons_succ]
            refine wpG_one (i := 4) rfl (by kernel_rfl) (by rfl) ?_
            refine wp_append_gr _ (some 39) (.tmp 35) (.tmp 38) 41 rfl wo.heap.size 3 i0 _ 1 8 Try.underlying41 hi0 hz0 hz1 hz2 rfl (by decide) _ _ _ rfl HOWN.out _ k _ rfl (Rd.below HR1.out HC.out) HO1.out HBY.out (by decide) (Below.size HC.out) rfl ?_
            intro v' wn ho hg
            have hb := grown_below HOWN.out (Below.size HC.out) hg
            refine ⟨hb, ?_⟩
            try have HON' : Hid (Rd wn 1 (.slice (some ⟨b15, 0, none⟩) 1 1) 1 [.int .i64 x]) := Rd.tr HON.out (Tr.grown hg) fun k hk h6 => HNE.out ((List.mem_singleton.1 hk).symm.trans (List.mem_singleton.1 h6))
            have hc2 : Gr wo wn := Below.trans HC.out hb
            clear HC HOWN hg hb
            have HC := Lib.hid hc2
            have HOWN := Lib.hid ho
            clear hc2 ho
            try (clear HON; have HON := HON'; clear HON')
            try clear HL1
            obtain ⟨wc, hwc⟩ : ∃ x, x = wn := ⟨_, rfl⟩
            subst hwc
            try simp only [Act.put, List.setIfInBounds_toArray, List.set_cons_zero, List.set_cons_succ]
            refine wpG_one (i := 13) rfl (by kernel_rfl) (by rfl) ?_
            refine wp_append_gr _ (some 48) (.tmp 39) (.tmp 47) 41 rfl wo.heap.size 3 i0 _ 1 8 Try.underlying41 hi0 hz0 hz1 hz2 rfl (by decide) _ _ _ rfl HOWN.out _ 1 _ rfl HON.out (one_int _) HBY2.out (by decide) (Below.size HC.out) rfl ?_
            intro v' wn ho hg
            have hb := grown_below HOWN.out (Below.size HC.out) hg
            refine ⟨hb, ?_⟩
            have hc2 : Gr wo wn := Below.trans HC.out hb
            clear HC HOWN HON hg hb
            have HC := Lib.hid hc2
            have HOWN := Lib.hid ho
            clear hc2 ho
            obtain ⟨wc, hwc⟩ : ∃ x, x = wn := ⟨_, rfl⟩
            subst hwc
            try simp only [Act.put, List.setIfInBounds_toArray, List.set_cons_zero, List.set_cons_succ]
            refine wpG_one (i := 17) rfl (by kernel_rfl) (by rfl) ?_
            refine wp_append_gr _ (some 52) (.tmp 48) (.tmp 51) 41 rfl wo.heap.size 3 i0 _ 1 8 Try.underlying41 hi0 hz0 hz1 hz2 rfl (by decide) _ _ _ rfl HOWN.out _ (i - k) _ rfl (Rd.below HR2.out HC.out) HO2.out HBY3.out (by decide) (Below.size HC.out) rfl ?_
            intro v' wn ho hg
            have hb := grown_below HOWN.out (Below.size HC.out) hg
            refine ⟨hb, ?_⟩
            have hc2 : Gr wo wn := Below.trans HC.out hb
            have HFB : Hid (Below w.heap.size w wn) := HB.out.trans (Below.mono hc2 HB.out.size)
            have HFO : Hid (wn.ownsRow w.heap.size 3 1 v' (i + 1) (ints (sorted (S.used.take (i + 1))))) := by
              show World.ownsRow _ _ _ _ _ _ _
              rw [hLn.out, HPUT.out]
              have h7 : 0 + k + 1 + (i - k) = i + 1 := by omega
              rw [h7] at ho
              have h8 := ownsRow_mono ho HB.out.size
              simpa [ints] using h8
            clear hc2 ho hg hb HC HOWN
            try simp only [Act.put, List.setIfInBounds_toArray, List.set_cons_zero, List.set_cons_succ]
            refine wpG_tail (i := 18) (by decide) rfl (by kernel_rfl) (by rfl) ?_
            go_simp
            try simp only [Act.put, List.setIfInBounds_toArray, List.set_cons_zero, List.set_cons_succ]
            refine wpG_done (by kernel_rfl) ?_ _
            go_wp2_with fail
            go_roundw
            case rel =>
              first
                | exact ⟨i + 1, hle, by go_num, HFO.out, HFB.out⟩
                | ((repeat apply Exists.intro); exact ⟨⟨i + 1, hle, by go_num, HFO.out, HFB.out⟩, rfl⟩)
            case measure => simp [intOf]; omega
    · have hS : S.used.take i = S.used := List.take_of_length_le (by rw [← HN.out]; omega)
      rw [hS] at HOW
      have HSL : Hid (i = (sorted S.used).length) := by show _ = _; rw [sorted_length, ← HN.out]; omega
      clear hS
      go_wp2_with fail
      go_ret
      refine ⟨_, rfl, ?_, HB.out, fun k hk => (own_blk HOW.out k hk).1⟩
      have h9 := own_rd HOW.out
      unfold IR
      rw [← HSL.out]
      exact h9
end Go.Proofs.Ytpafcabcnkmadaa.Id
