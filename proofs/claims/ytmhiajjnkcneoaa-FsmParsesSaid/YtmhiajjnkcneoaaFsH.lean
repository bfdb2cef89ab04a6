/-
  Two rows that are the same; is an action in a row?
-/
import Derived.Test.YtmhiajjnkcneoaaFsA
import Derived.Deep.Cut
namespace Go.Proofs.Ytmhiajjnkcneoaa.Fs
open Go.RowKit
set_option linter.unusedVariables false
set_option linter.unusedSimpArgs false
theorem ret_b {b c : Bool} (h : b = c) : Ending.returned (.bool c) = Ending.returned (.bool b) := by rw [h]
theorem AR.at {w : World} {ao : Option Addr} {n c : Nat} {l : List Int} (h : AR w (.slice ao n c) l) (hl : n = l.length) (hn : 0 < n) :
    ∃ b o, ao = some ⟨b, o, none⟩ ∧ ∀ (i : Nat) (hi : i < l.length), w.cell? ⟨b, o + i, none⟩ = some (.int .i64 l[i]) := by
  obtain ⟨b, o, h1, _, h3⟩ := h.cells (by omega)
  exact ⟨b, o, h1, h3⟩
theorem cell_gr {w w' : World} {p : Addr} {v : Value} (hb : Below w.heap.size w w') (h : w.cell? p = some v) : w'.cell? p = some v := by
  rw [hb.cell (World.block_lt_of_cell? w p h)]; exact h
set_option maxHeartbeats 2000000 in
set_option maxRecDepth 20000 in
theorem same_same' (a a' : Option Addr) (n c c' : Nat) (l : List Int) (w : World) (h : AR w (.slice a n c) l) (h' : AR w (.slice a' n c') l) (hn : n = l.length) (hb : n ≤ 65534) :
    Calls Try.prog 13 #[.slice a n c, .slice a' n c'] w fun e w' => e = .returned (.bool true) ∧ Below w.heap.size w w' := by
  have HN := Lib.hid hn
  have H := Lib.hid h
  have H' := Lib.hid h'
  clear h h' hn
  go_enter Try.func13, Try.ntmps13
  go_wp2_with fail
  go_loopw [5] (fun iv wr => ∃ i : Nat, i ≤ n ∧ iv = .int .i64 (i : Int) ∧ Below w.heap.size w wr) (fun iv _ => n - (intOf iv).toNat)
  case atStart => exact ⟨0, Nat.zero_le _, rfl, Below.refl _ _⟩
  case round =>
    obtain ⟨i, hin, rfl, hbw⟩ := hrel
    have HB := Lib.hid hbw
    clear hbw
    by_cases hlt : i < n
    · have hil : i < l.length := by rw [← HN.out]; exact hlt
      obtain ⟨b, o, ea, hc⟩ := AR.at H.out HN.out (by omega)
      obtain ⟨b', o', ea', hc'⟩ := AR.at H'.out HN.out (by omega)
      subst ea ea'
      obtain ⟨x, hx⟩ : ∃ x, x = l[i] := ⟨_, rfl⟩
      have d0 := hc i hil
      have d1 := hc' i hil
      rw [← hx] at d0 d1
      have D0 := Lib.hid (cell_gr HB.out d0)
      have D1 := Lib.hid (cell_gr HB.out d1)
      have hxx : (x != x) = false := by simp
      have hle : i + 1 ≤ n := by omega
      clear hx d0 d1 hc hc' hil
      go_upto_region 6 with fail
      have HC : Hid (Gr wr wr.drew) := Gr.drew wr
      refine wp_region_G 9 Gr (by kernel_rfl) ?_
      generalize wr.drew = wc at HC ⊢
      -- 0: slot 17
      refine wpG_take preGr (i := 0) (v := ?_) (by kernel_rfl) (some 17) (by kernel_rfl) rfl (by kernel_rfl) (by kernel_rfl) (by kernel_rfl) (fun _ _ _ h => h) (by rfl) (fun w' hw' => ?_) rfl ?_
      rotate_left
      · try (have d0 := cell_gr (Gr.trans HC.out hw') D0.out; have d1 := cell_gr (Gr.trans HC.out hw') D1.out)
        go_simp
        with_reducible rfl
      simp only [Act.put, List.setIfInBounds_toArray, List.set_cons_zero, List.set_cons_succ]
      -- 1: slot 18
      refine wpG_take preGr (i := 1) (v := ?_) (by kernel_rfl) (some 18) (by kernel_rfl) rfl (by kernel_rfl) (by kernel_rfl) (by kernel_rfl) (fun _ _ _ h => h) (by rfl) (fun w' hw' => ?_) rfl ?_
      rotate_left
      · try (have d0 := cell_gr (Gr.trans HC.out hw') D0.out; have d1 := cell_gr (Gr.trans HC.out hw') D1.out)
        go_simp
        with_reducible rfl
      simp only [Act.put, List.setIfInBounds_toArray, List.set_cons_zero, List.set_cons_succ]
      -- 2: slot 19
      refine wpG_take preGr (i := 2) (v := ?_) (by kernel_rfl) (some 19) (by kernel_rfl) rfl (by kernel_rfl) (by kernel_rfl) (by kernel_rfl) (fun _ _ _ h => h) (by rfl) (fun w' hw' => ?_) rfl ?_
      rotate_left
      · try (have d0 := cell_gr (Gr.trans HC.out hw') D0.out; have d1 := cell_gr (Gr.trans HC.out hw') D1.out)
        go_simp
        with_reducible rfl
      simp only [Act.put, List.setIfInBounds_toArray, List.set_cons_zero, List.set_cons_succ]
      -- 3: slot 20
      refine wpG_take preGr (i := 3) (v := ?_) (by kernel_rfl) (some 20) (by kernel_rfl) rfl (by kernel_rfl) (by kernel_rfl) (by kernel_rfl) (fun _ _ _ h => h) (by rfl) (fun w' hw' => ?_) rfl ?_
      rotate_left
      · try (have d0 := cell_gr (Gr.trans HC.out hw') D0.out; have d1 := cell_gr (Gr.trans HC.out hw') D1.out)
        go_simp
        with_reducible rfl
      simp only [Act.put, List.setIfInBounds_toArray, List.set_cons_zero, List.set_cons_succ]
      -- 4: slot 21
      refine wpG_take preGr (i := 4) (v := ?_) (by kernel_rfl) (some 21) (by kernel_rfl) rfl (by kernel_rfl) (by kernel_rfl) (by kernel_rfl) (fun _ _ _ h => h) (by rfl) (fun w' hw' => ?_) rfl ?_
      rotate_left
      · try (have d0 := cell_gr (Gr.trans HC.out hw') D0.out; have d1 := cell_gr (Gr.trans HC.out hw') D1.out)
        go_simp
        with_reducible rfl
      simp only [Act.put, List.setIfInBounds_toArray, List.set_cons_zero, List.set_cons_succ]
      -- 5: slot 22
      refine wpG_take preGr (i := 5) (v := ?_) (by kernel_rfl) (some 22) (by kernel_rfl) rfl (by kernel_rfl) (by kernel_rfl) (by kernel_rfl) (fun _ _ _ h => h) (by rfl) (fun w' hw' => ?_) rfl ?_
      rotate_left
      · try (have d0 := cell_gr (Gr.trans HC.out hw') D0.out; have d1 := cell_gr (Gr.trans HC.out hw') D1.out)
        go_simp
        with_reducible rfl
      simp only [Act.put, List.setIfInBounds_toArray, List.set_cons_zero, List.set_cons_succ]
      -- 6: slot 23
      refine wpG_take preGr (i := 6) (v := ?_) (by kernel_rfl) (some 23) (by kernel_rfl) rfl (by kernel_rfl) (by kernel_rfl) (by kernel_rfl) (fun _ _ _ h => h) (by rfl) (fun w' hw' => ?_) rfl ?_
      rotate_left
      · try (have d0 := cell_gr (Gr.trans HC.out hw') D0.out; have d1 := cell_gr (Gr.trans HC.out hw') D1.out)
        go_simp
        with_reducible rfl
      simp only [Act.put, List.setIfInBounds_toArray, List.set_cons_zero, List.set_cons_succ]
      -- 7: slot 24
      refine wpG_take preGr (i := 7) (v := ?_) (by kernel_rfl) (some 24) (by kernel_rfl) rfl (by kernel_rfl) (by kernel_rfl) (by kernel_rfl) (fun _ _ _ h => h) (by rfl) (fun w' hw' => ?_) rfl ?_
      rotate_left
      · try (have d0 := cell_gr (Gr.trans HC.out hw') D0.out; have d1 := cell_gr (Gr.trans HC.out hw') D1.out)
        go_simp
        with_reducible rfl
      simp only [Act.put, List.setIfInBounds_toArray, List.set_cons_zero, List.set_cons_succ]
      -- 8: slot 25
      refine wpG_take preGr (i := 8) (v := ?_) (by kernel_rfl) (some 25) (by kernel_rfl) rfl (by kernel_rfl) (by kernel_rfl) (by kernel_rfl) (fun _ _ _ h => h) (by rfl) (fun w' hw' => ?_) rfl ?_
      rotate_left
      · try (have d0 := cell_gr (Gr.trans HC.out hw') D0.out; have d1 := cell_gr (Gr.trans HC.out hw') D1.out)
        go_simp
        with_reducible rfl
      simp only [Act.put, List.setIfInBounds_toArray, List.set_cons_zero, List.set_cons_succ]
      refine wpG_done (by kernel_rfl) ?_ _
      have HB2 : Hid (Below w.heap.size w wc) := HB.out.trans (Below.mono HC.out HB.out.size)
      clear HC D0 D1
      go_wp2_with fail
      go_roundw
      case rel =>
        first
          | exact ⟨i + 1, hle, by go_num, HB2.out⟩
          | ((repeat apply Exists.intro); exact ⟨⟨i + 1, hle, by go_num, HB2.out⟩, rfl⟩)
      case measure => simp [intOf]; omega
    · go_wp2_with fail
      go_ret
      exact ⟨rfl, HB.out⟩
theorem same_same {v v' : Value} {l : List Int} (w : World) (h : AR w v l) (h' : AR w v' l) (hb : l.length ≤ 65534) :
    Calls Try.prog 13 #[v, v'] w fun e w' => e = .returned (.bool true) ∧ Below w.heap.size w w' := by
  obtain ⟨a, c, rfl, _⟩ := h.shape
  obtain ⟨a', c', rfl, _⟩ := h'.shape
  exact same_same' a a' l.length c c' l w h h' rfl hb
set_option maxHeartbeats 2000000 in
set_option maxRecDepth 20000 in
theorem has_any' (a : Option Addr) (n c : Nat) (l : List Int) (x : Int) (w : World) (h : AR w (.slice a n c) l) (hn : n = l.length) (hb : n ≤ 65534) :
    Calls Try.prog 27 #[.slice a n c, .int .i64 x] w fun e w' => e = .returned (.bool (decide (x ∈ l))) ∧ w' = w := by
  have HN := Lib.hid hn
  have H := Lib.hid h
  clear h hn
  go_enter Try.func27, Try.ntmps27
  go_wp2_with fail
  go_loopw [5] (fun iv wr => ∃ i : Nat, i ≤ n ∧ iv = .int .i64 (i : Int) ∧ x ∉ l.take i ∧ wr = w) (fun iv _ => n - (intOf iv).toNat)
  case atStart => exact ⟨0, Nat.zero_le _, rfl, by simp, rfl⟩
  case round =>
    obtain ⟨i, hin, rfl, hno, rfl⟩ := hrel
    have HNO := Lib.hid hno
    clear hno
    by_cases hlt : i < n
    · have hil : i < l.length := by rw [← HN.out]; exact hlt
      obtain ⟨b, o, ea, hc⟩ := AR.at H.out HN.out (by omega)
      subst ea
      obtain ⟨y, hy⟩ : ∃ y, y = l[i] := ⟨_, rfl⟩
      have d0 := hc i hil
      rw [← hy] at d0
      have HT : Hid (l.take (i + 1) = l.take i ++ [y]) := by show _ = _; rw [hy]; exact List.take_succ_eq_append_getElem hil
      have HM : Hid (y ∈ l) := by show _ ∈ _; rw [hy]; exact List.getElem_mem _
      have hle : i + 1 ≤ n := by omega
      clear hy hc hil
      by_cases hxy : y = x
      · have HD : Hid (decide (x ∈ l) = true) := decide_eq_true (hxy ▸ HM.out)
        go_wp2_with fail
        go_ret
        exact ⟨ret_b HD.out, rfl⟩
      · have HD : Hid (x ∉ l.take (i + 1)) := by
          show _ ∉ _
          rw [HT.out, List.mem_append]
          rintro (h | h)
          · exact HNO.out h
          · exact hxy (List.mem_singleton.1 h).symm
        go_wp2_with fail
        go_roundw
        case rel =>
          first
            | exact ⟨i + 1, hle, by go_num, HD.out, by first | rfl | trivial⟩
            | ((repeat apply Exists.intro); exact ⟨⟨i + 1, hle, by go_num, HD.out, by first | rfl | trivial⟩, rfl⟩)
        case measure => simp [intOf]; omega
    · have HD : Hid (decide (x ∈ l) = false) := decide_eq_false (by have := HNO.out; rwa [List.take_of_length_le (by have := HN.out; omega)] at this)
      go_wp2_with fail
      go_ret
      exact ⟨ret_b HD.out, rfl⟩
theorem has_any {v : Value} {l : List Int} (x : Int) (w : World) (h : AR w v l) (hb : l.length ≤ 65534) :
    Calls Try.prog 27 #[v, .int .i64 x] w fun e w' => e = .returned (.bool (decide (x ∈ l))) ∧ w' = w := by
  obtain ⟨a, c, rfl, _⟩ := h.shape
  exact has_any' a l.length c l x w h rfl hb
end Go.Proofs.Ytmhiajjnkcneoaa.Fs
