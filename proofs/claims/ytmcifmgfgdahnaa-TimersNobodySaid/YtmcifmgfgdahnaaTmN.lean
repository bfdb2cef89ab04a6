/-
  The document's: Without; Same of two rows that are the same; Due.
-/
import Derived.Test.YtmcifmgfgdahnaaTmL
namespace Go.Proofs.Ytmcifmgfgdahnaa.Tm
open Go.RowKit
open Go.Proofs.Ytmcifmgfgdahnaa.Id (Tr Tr.refl Tr.gr Tr.only blk own_blk flatR flatR_len flatR_get flatR_cons flatR_append flatR_one flatR_cell RR)
set_option linter.unusedVariables false
set_option linter.unusedSimpArgs false

theorem Rw.gr {w w' : World} {e : TypeId} {v : Value} {l : List D} (h : Rw w e v l) (hb : Below w.heap.size w w') : Rw w' e v l := ownsRow_below h hb
theorem Rw.sl {w : World} {e : TypeId} {v : Value} {l : List D} (h : Rw w e v l) : ∃ A C, v = .slice A l.length C := by
  obtain ⟨_, A, C, e1, _⟩ := own_rd h
  exact ⟨A, C, e1⟩
theorem without_take (l : List D) (key : Int) (i : Nat) (hi : i < l.length) : without (l.take (i + 1)) key = without (l.take i) key ++ (if l[i].1 != key then [l[i]] else []) := by
  unfold without
  rw [List.take_add_one, List.getElem?_eq_getElem hi, List.filter_append]
  congr 1
  simp [List.filter_cons]
theorem cells_at {w : World} {A : Option Addr} {n C : Nat} {l : List D} (h : RR w (.slice A n C) l) (hn : n = l.length) {i : Nat} (hi : i < l.length) : ∃ b o, A = some ⟨b, o, none⟩ ∧ w.cell? ⟨b, o + i * 2, none⟩ = some (.int .i64 l[i].1) ∧ w.cell? ⟨b, o + i * 2 + 1, none⟩ = some (.int .i64 l[i].2) := by
  subst hn
  obtain ⟨b, o, h1, _, h3⟩ := RR.cells h (by omega)
  exact ⟨b, o, h1, h3 i hi⟩
set_option maxRecDepth 20000 in
set_option maxHeartbeats 4000000 in
theorem dwithout_any (key : Int) {v : Value} {l : List D} (w : World) (h : Rw w 40 v l) (hl : l.length ≤ 65536) :
    Calls Try.prog 10 #[v, .int .i64 key] w fun e w' => ∃ dv, e = .returned dv ∧ w'.ownsRow w.heap.size 40 2 dv (without l key).length (flatR (without l key)) ∧ Below w.heap.size w w' := by
  obtain ⟨i0, hi, hz0, hz1, hz2⟩ := info_parts infoD
  obtain ⟨A, C, ev⟩ := h.sl
  subst ev
  have HR := Lib.hid h.rr
  obtain ⟨n, hn⟩ : ∃ n, n = l.length := ⟨_, rfl⟩
  rw [← hn] at HR hl ⊢
  have HN := Lib.hid hn
  have HS : Hid (w.ownsRow w.heap.size 40 2 (.slice none 0 0) (without (l.take 0) key).length (flatR (without (l.take 0) key))) := World.ownsRow_nil _ _ _ 2
  clear h hn
  go_enter Try.func10, Try.ntmps10
  go_wp2_with fail
  go_loopw [5, 6] (fun lv iv wr => ∃ i : Nat, i ≤ n ∧ iv = .int .i64 (i : Int) ∧ wr.ownsRow w.heap.size 40 2 lv (without (l.take i) key).length (flatR (without (l.take i) key)) ∧ Below w.heap.size w wr) (fun _ iv _ => n - (intOf iv).toNat)
  case atStart => exact ⟨0, Nat.zero_le _, rfl, HS.out, Below.refl _ _⟩
  case round =>
    clear HS
    obtain ⟨i, hin, rfl, ho, hbw⟩ := hrel
    have HO := Lib.hid ho
    have HBW := Lib.hid hbw
    obtain ⟨M, hM⟩ : ∃ M, M = (without (l.take i) key).length := ⟨_, rfl⟩
    have hMi : M ≤ i := by
      rw [hM]
      refine Nat.le_trans (List.length_filter_le _ _) ?_
      rw [List.length_take]; omega
    rw [← hM] at HO ho
    have HM := Lib.hid hM
    obtain ⟨A3, C3, rfl⟩ : ∃ A3 C3, u5 = .slice A3 M C3 := by
      obtain ⟨_, A3, C3, e1, _⟩ := own_rd ho
      exact ⟨A3, C3, e1⟩
    clear ho hbw hM
    by_cases hlt : i < n
    · have hil : i < l.length := by rw [← HN.out]; exact hlt
      obtain ⟨b1, o1, ea, c0, c1⟩ := cells_at HR.out HN.out hil
      subst ea
      have hwt := without_take l key i hil
      obtain ⟨x, hx⟩ : ∃ x, x = l[i] := ⟨_, rfl⟩
      rw [← hx] at c0 c1 hwt
      have d0 := cell_gr (Below.mono HBW.out (Nat.le_refl _)) c0
      have d1 := cell_gr (Below.mono HBW.out (Nat.le_refl _)) c1
      have hle : i + 1 ≤ n := by omega
      clear c0 c1 hx hil
      by_cases hk : x.1 = key
      · have hk2 : (x.1 != key) = false := by simpa using hk
        rw [hk2] at hwt
        have HWT : Hid (without (l.take (i + 1)) key = without (l.take i) key) := by show _ = _; rw [hwt]; simp
        clear hwt hk
        go_wp2_with fail
        go_roundw
        case rel =>
          have ho2 := HO.out
          rw [HM.out, ← HWT.out] at ho2
          rw [← HWT.out] at HM
          first
            | exact ⟨i + 1, hle, by go_num, by rw [HM.out]; exact ho2, HBW.out⟩
            | ((repeat apply Exists.intro); exact ⟨⟨i + 1, hle, by go_num, by rw [HM.out]; exact ho2, HBW.out⟩, rfl⟩)
        case measure => simp [intOf]; omega
      · have hk2 : (x.1 != key) = true := by simpa using hk
        rw [hk2, if_pos rfl] at hwt
        have HWT := Lib.hid hwt
        have HBY : Hid ((M + 1) * 16 ≤ 140737488355328) := by show _ ≤ _; omega
        have HB2 : Hid (Gr wr (wr.alloc (.cells #[.int .i64 x.1, .int .i64 x.2] 40))) := (Below.refl _ _).alloc (Nat.le_refl _) _
        have HXR : Hid (Rd (wr.alloc (.cells #[.int .i64 x.1, .int .i64 x.2] 40)) 2 (.slice (some ⟨wr.heap.size, 0, none⟩) 1 1) 1 (two x)) := rd_new wr (two x) 40 1 2 rfl (by decide)
        have HO2 := Lib.hid (ownsRow_below HO.out HB2.out)
        have HBW2 : Hid (Below w.heap.size w (wr.alloc (.cells #[.int .i64 x.1, .int .i64 x.2] 40))) := HBW.out.trans (Below.mono HB2.out HBW.out.size)
        clear hwt hk HO HBW HB2
        go_wp2_with (at_builtin; refine wpList_append_gr _ rfl (.tmp 20) (.tmp 25) 26 rfl w.heap.size 40 i0 _ 2 16 Try.underlying26 hi hz0 hz1 hz2 rfl (by decide) _ M _ rfl HO2.out _ 1 (two x) rfl HXR.out (two_cell x) HBY.out (by decide) HBW2.out.size ?_)
        intro lv5 w5 ho5 hg5
        have HO5 : Hid (w5.ownsRow w.heap.size 40 2 lv5 (without (l.take (i + 1)) key).length (flatR (without (l.take (i + 1)) key))) := by
          have h := ho5
          show w5.ownsRow _ _ _ _ _ _
          rw [HWT.out, List.length_append, ← HM.out, flatR_append]
          exact h
        have HBW5 : Hid (Below w.heap.size w w5) := HBW2.out.trans (grown_below HO2.out HBW2.out.size hg5)
        clear ho5 hg5 d0 d1 HXR HO2 HBW2
        go_wp2_with fail
        go_roundw
        case rel =>
          first
            | exact ⟨i + 1, hle, by go_num, HO5.out, HBW5.out⟩
            | ((repeat apply Exists.intro); exact ⟨⟨i + 1, hle, by go_num, HO5.out, HBW5.out⟩, rfl⟩)
        case measure => simp [intOf]; omega
    · have HE : Hid (l.take i = l) := List.take_of_length_le (by rw [← HN.out]; omega)
      go_wp2_with fail
      go_ret
      refine ⟨_, rfl, ?_, HBW.out⟩
      have h := HO.out
      rw [HM.out, HE.out] at h
      rw [HE.out] at HM
      rw [← HM.out]
      rw [← HM.out] at h
      exact h
set_option maxRecDepth 20000 in
set_option maxHeartbeats 4000000 in
theorem same_any {v v' : Value} {l : List D} (w : World) (h : RR w v l) (h' : RR w v' l) (hb : l.length ≤ 65536) :
    Calls Try.prog 13 #[v, v'] w fun e w' => e = .returned (.bool true) ∧ Below w.heap.size w w' := by
  obtain ⟨A, C, ev, _⟩ := h.shape
  obtain ⟨A', C', ev', _⟩ := h'.shape
  subst ev ev'
  obtain ⟨n, hn⟩ : ∃ n, n = l.length := ⟨_, rfl⟩
  rw [← hn] at h h' hb ⊢
  have HN := Lib.hid hn
  have H := Lib.hid h
  have H' := Lib.hid h'
  clear h h' hn
  go_enter Try.func13, Try.ntmps13
  go_wp2_with fail
  go_loopw [5] (fun iv wr => ∃ i : Nat, i ≤ n ∧ iv = .int .i64 (i : Int) ∧ Below w.heap.size w wr) (fun iv _ => n - (intOf iv).toNat)
  case atStart => exact ⟨0, Nat.zero_le _, rfl, Below.refl _ _⟩
  case round =>
    obtain ⟨i, hin, rfl, hbw⟩ := hrel
    have HB := Lib.hid hbw
    clear hbw
    by_cases hlt : i < n
    · have hil : i < l.length := by rw [← HN.out]; exact hlt
      obtain ⟨b, o, ea, hc0, hc1⟩ := cells_at H.out HN.out hil
      obtain ⟨b', o', ea', hd0, hd1⟩ := cells_at H'.out HN.out hil
      subst ea ea'
      obtain ⟨x, hx⟩ : ∃ x, x = l[i] := ⟨_, rfl⟩
      rw [← hx] at hc0 hc1 hd0 hd1
      have pair : ∀ {b o : Nat}, w.cell? ⟨b, o, none⟩ = some (.int .i64 x.1) → w.cell? ⟨b, o + 1, none⟩ = some (.int .i64 x.2) → w.rangeAt b o (two x) := fun {b o} g0 g1 j u hj => by
        match j, hj with
        | 0, hj => obtain rfl : _ = u := by simpa [two] using hj
                   exact g0
        | 1, hj => obtain rfl : _ = u := by simpa [two] using hj
                   exact g1
        | j + 2, hj => simp [two] at hj
      have D0 : Hid (wr.rangeAt b (o + i * 2) (two x)) := fun j u hj => cell_gr (Below.mono HB.out (Nat.le_refl _)) (pair hc0 hc1 j u hj)
      have D1 : Hid (wr.rangeAt b' (o' + i * 2) (two x)) := fun j u hj => cell_gr (Below.mono HB.out (Nat.le_refl _)) (pair hd0 hd1 j u hj)
      have hxx : ∀ w, (binOp .neq 40 (.agg #[.int .i64 x.1, .int .i64 x.2]) (.agg #[.int .i64 x.1, .int .i64 x.2])).run Try.prog w = .ok (.bool false) w := fun w => by go_simp
      have hle : i + 1 ≤ n := by omega
      clear hx hc0 hc1 hd0 hd1 hil pair
      go_upto_region 6 with fail
      have HC : Hid (Gr wr wr.drew) := Gr.drew wr
      refine wp_region_G 9 Gr (by kernel_rfl) ?_
      generalize wr.drew = wc at HC ⊢
      -- 0: slot 17
      refine wpG_take preGr (i := 0) (v := ?_) (by kernel_rfl) (some 17) (by kernel_rfl) rfl (by kernel_rfl) (by kernel_rfl) (by kernel_rfl) (fun _ _ _ h => h) (by rfl) (fun w' hw' => ?_) rfl ?_
      rotate_left
      · go_simp
        with_reducible rfl
      simp only [Act.put, List.setIfInBounds_toArray, List.set_cons_zero, List.set_cons_succ]
      -- 1: slot 18
      refine wpG_take preGr (i := 1) (v := ?_) (by kernel_rfl) (some 18) (by kernel_rfl) rfl (by kernel_rfl) (by kernel_rfl) (by kernel_rfl) (fun _ _ _ h => h) (by rfl) (fun w' hw' => ?_) rfl ?_
      rotate_left
      · go_simp
        with_reducible rfl
      simp only [Act.put, List.setIfInBounds_toArray, List.set_cons_zero, List.set_cons_succ]
      -- 2: slot 19
      refine wpG_take preGr (i := 2) (v := ?_) (by kernel_rfl) (some 19) (by kernel_rfl) rfl (by kernel_rfl) (by kernel_rfl) (by kernel_rfl) (fun _ _ _ h => h) (by rfl) (fun w' hw' => ?_) rfl ?_
      rotate_left
      · go_simp
        with_reducible rfl
      simp only [Act.put, List.setIfInBounds_toArray, List.set_cons_zero, List.set_cons_succ]
      -- 3: slot 20
      refine wpG_take preGr (i := 3) (v := ?_) (by kernel_rfl) (some 20) (by kernel_rfl) rfl (by kernel_rfl) (by kernel_rfl) (by kernel_rfl) (fun _ _ _ h => h) (by rfl) (fun w' hw' => ?_) rfl ?_
      rotate_left
      · refine Eq.trans (load_mid_run (P := Try.prog) 40 (.tmp 19) ?_ b (o + i * 2) ?_ [.int .i64 x.1, .int .i64 x.2] _ (range_gr (Gr.trans HC.out hw') D0.out) Try.underlying40 rfl sizeD) ?_
        · rfl
        · simp [go_sem]
        · with_reducible rfl
      simp only [Act.put, List.setIfInBounds_toArray, List.set_cons_zero, List.set_cons_succ]
      -- 4: slot 21
      refine wpG_take preGr (i := 4) (v := ?_) (by kernel_rfl) (some 21) (by kernel_rfl) rfl (by kernel_rfl) (by kernel_rfl) (by kernel_rfl) (fun _ _ _ h => h) (by rfl) (fun w' hw' => ?_) rfl ?_
      rotate_left
      · go_simp
        with_reducible rfl
      simp only [Act.put, List.setIfInBounds_toArray, List.set_cons_zero, List.set_cons_succ]
      -- 5: slot 22
      refine wpG_take preGr (i := 5) (v := ?_) (by kernel_rfl) (some 22) (by kernel_rfl) rfl (by kernel_rfl) (by kernel_rfl) (by kernel_rfl) (fun _ _ _ h => h) (by rfl) (fun w' hw' => ?_) rfl ?_
      rotate_left
      · go_simp
        with_reducible rfl
      simp only [Act.put, List.setIfInBounds_toArray, List.set_cons_zero, List.set_cons_succ]
      -- 6: slot 23
      refine wpG_take preGr (i := 6) (v := ?_) (by kernel_rfl) (some 23) (by kernel_rfl) rfl (by kernel_rfl) (by kernel_rfl) (by kernel_rfl) (fun _ _ _ h => h) (by rfl) (fun w' hw' => ?_) rfl ?_
      rotate_left
      · go_simp
        with_reducible rfl
      simp only [Act.put, List.setIfInBounds_toArray, List.set_cons_zero, List.set_cons_succ]
      -- 7: slot 24
      refine wpG_take preGr (i := 7) (v := ?_) (by kernel_rfl) (some 24) (by kernel_rfl) rfl (by kernel_rfl) (by kernel_rfl) (by kernel_rfl) (fun _ _ _ h => h) (by rfl) (fun w' hw' => ?_) rfl ?_
      rotate_left
      · refine Eq.trans (load_mid_run (P := Try.prog) 40 (.tmp 23) ?_ b' (o' + i * 2) ?_ [.int .i64 x.1, .int .i64 x.2] _ (range_gr (Gr.trans HC.out hw') D1.out) Try.underlying40 rfl sizeD) ?_
        · rfl
        · simp [go_sem]
        · with_reducible rfl
      simp only [Act.put, List.setIfInBounds_toArray, List.set_cons_zero, List.set_cons_succ]
      -- 8: slot 25
      refine wpG_take preGr (i := 8) (v := ?_) (by kernel_rfl) (some 25) (by kernel_rfl) rfl (by kernel_rfl) (by kernel_rfl) (by kernel_rfl) (fun _ _ _ h => h) (by rfl) (fun w' hw' => ?_) rfl ?_
      rotate_left
      · go_simp
        with_reducible rfl
      simp only [Act.put, List.setIfInBounds_toArray, List.set_cons_zero, List.set_cons_succ]
      refine wpG_done (by kernel_rfl) ?_ _
      have HB2 : Hid (Below w.heap.size w wc) := HB.out.trans (Below.mono HC.out HB.out.size)
      clear HC D0 D1
      go_wp2_with fail
      go_roundw
      case rel =>
        first
          | exact ⟨i + 1, hle, by go_num, HB2.out⟩
          | ((repeat apply Exists.intro); exact ⟨⟨i + 1, hle, by go_num, HB2.out⟩, rfl⟩)
      case measure => simp [intOf]; omega
    · go_wp2_with fail
      go_ret
      exact ⟨rfl, HB.out⟩
end Go.Proofs.Ytmcifmgfgdahnaa.Tm
