/-
  The document's: in, with, without, Same.
-/
import Derived.Test.YtoemghinolekgaaDoorPlO
import Derived.Deep.DeepCutAuto
namespace Go.Proofs.YtoemghinolekgaaDoor.Pl
open Go.RowKit
open Go.Proofs.YtoemghinolekgaaDoor.Id (Tr Tr.refl Tr.gr Tr.only blk own_blk IR IR.cells IR.shape IR.nil)
set_option linter.unusedVariables false
set_option linter.unusedSimpArgs false

theorem IR.at {w : World} {a : Option Addr} {n c : Nat} {l : List Int} (h : IR w (.slice a n c) l) (hn : n = l.length) (h0 : 0 < n) : ∃ b o, a = some ⟨b, o, none⟩ ∧ ∀ (i : Nat) (hi : i < l.length), w.cell? ⟨b, o + i, none⟩ = some (.int .i64 l[i]) := by
  subst hn
  obtain ⟨b, o, h1, _, h3⟩ := IR.cells h h0
  exact ⟨b, o, h1, h3⟩
/-- Is a number in a row? -/
theorem in_any (n : Int) {v : Value} {l : List Int} (w : World) (h : IR w v l) :
    Calls Tryd.prog 36 #[v, .int .i64 n] w fun e w' => e = .returned (.bool (decide (n ∈ l))) ∧ w = w' := by
  obtain ⟨a, c, rfl, hc1, hc2⟩ := h.shape
  have HI := Lib.hid h
  obtain ⟨m, hm⟩ : ∃ m, m = l.length := ⟨_, rfl⟩
  have hm63 : (m : Int) ≤ 9223372036854775807 := by unfold maxLen at hc2; omega
  have HN := Lib.hid hm
  rw [← hm] at HI hc1 ⊢
  clear h hc2 hm
  go_enter Tryd.func36, Tryd.ntmps36
  go_wp2_with fail
  go_loopw [5] (fun iv wr => ∃ i : Nat, i ≤ m ∧ iv = .int .i64 (i : Int) ∧ w = wr ∧ ∀ k, (hk : k < i) → (hk2 : k < l.length) → l[k] ≠ n) (fun iv _ => m - (intOf iv).toNat)
  case atStart => exact ⟨0, Nat.zero_le _, rfl, rfl, fun k hk => by omega⟩
  case round =>
    obtain ⟨i, hin, rfl, rfl, hno⟩ := hrel
    have HNO := Lib.hid hno
    clear hno
    by_cases hlt : i < m
    · have hil : i < l.length := by rw [← HN.out]; exact hlt
      obtain ⟨b, o, ea, hcel⟩ := IR.at HI.out HN.out (by omega)
      subst ea
      have hc := hcel i hil
      obtain ⟨x, hx⟩ : ∃ x, x = l[i] := ⟨_, rfl⟩
      rw [← hx] at hc
      have HX := Lib.hid hx
      clear hcel hx
      by_cases he : x = n
      · have he2 : (x == n) = true := by rw [he]; simp
        have HT : Hid (decide (n ∈ l) = true) := by show _ = _; rw [decide_eq_true_eq, ← he, HX.out]; exact List.getElem_mem hil
        clear HX
        subst he
        go_wp2_with fail
        go_ret
        exact ⟨by rw [HT.out]; rfl, rfl⟩
      · have he2 : (x == n) = false := by rw [beq_eq_false_iff_ne]; exact he
        have HNO2 : Hid (∀ k, (hk : k < i + 1) → (hk2 : k < l.length) → l[k] ≠ n) := fun k hk hk2 => by
          by_cases e : k = i
          · subst e; rw [← HX.out]; exact he
          · exact HNO.out k (by omega) hk2
        have hle : i + 1 ≤ m := by omega
        clear HX
        go_wp2_with fail
        go_roundw
        case rel =>
          first
            | exact ⟨i + 1, hle, by go_num, trivial, HNO2.out⟩
            | exact ⟨i + 1, hle, by go_num, rfl, HNO2.out⟩
            | ((repeat apply Exists.intro); exact ⟨⟨i + 1, hle, by go_num, rfl, HNO2.out⟩, rfl⟩)
        case measure => simp [intOf]; omega
    · have HT : Hid (decide (n ∈ l) = false) := by
        show _ = _
        rw [decide_eq_false_iff_not]
        intro hm
        obtain ⟨k, hk, hke⟩ := List.mem_iff_getElem.1 hm
        exact HNO.out k (by have := HN.out; omega) hk hke
      go_wp2_with fail
      go_ret
      exact ⟨by rw [HT.out]; rfl, rfl⟩
/-- Rows that are the same. -/
theorem same_same (a a' : Option Addr) (n c c' : Nat) (l : List Int) (w : World) (h : IR w (.slice a n c) l) (h' : IR w (.slice a' n c') l) (hn : n = l.length) (hb : n ≤ 65536) :
    Calls Tryd.prog 22 #[.slice a n c, .slice a' n c'] w fun e w' => e = .returned (.bool true) ∧ Below w.heap.size w w' := by
  have HN := Lib.hid hn
  have H := Lib.hid h
  have H' := Lib.hid h'
  clear h h' hn
  go_enter Tryd.func22, Tryd.ntmps22
  go_wp2_with fail
  go_loopw [5] (fun iv wr => ∃ i : Nat, i ≤ n ∧ iv = .int .i64 (i : Int) ∧ Below w.heap.size w wr) (fun iv _ => n - (intOf iv).toNat)
  case atStart => exact ⟨0, Nat.zero_le _, rfl, Below.refl _ _⟩
  case round =>
    obtain ⟨i, hin, rfl, hbw⟩ := hrel
    have HB := Lib.hid hbw
    clear hbw
    by_cases hlt : i < n
    · have hil : i < l.length := by rw [← HN.out]; exact hlt
      obtain ⟨b, o, ea, hc⟩ := IR.at H.out HN.out (by omega)
      obtain ⟨b', o', ea', hc'⟩ := IR.at H'.out HN.out (by omega)
      subst ea ea'
      obtain ⟨x, hx⟩ : ∃ x, x = l[i] := ⟨_, rfl⟩
      have d0 := hc i hil
      have d1 := hc' i hil
      rw [← hx] at d0 d1
      have D0 := Lib.hid (cell_gr HB.out d0)
      have D1 := Lib.hid (cell_gr HB.out d1)
      have hxx : (x != x) = false := by simp
      have hle : i + 1 ≤ n := by omega
      clear hx d0 d1 hc hc' hil
      go_upto_region 6 with fail
      have HC : Hid (Gr wr wr.drew) := Gr.drew wr
      refine wp_region_G 9 Gr (by kernel_rfl) ?_
      generalize wr.drew = wc at HC ⊢
      -- 0: slot 17
      refine wpG_take preGr (i := 0) (v := ?_) (by kernel_rfl) (some 17) (by kernel_rfl) rfl (by kernel_rfl) (by kernel_rfl) (by kernel_rfl) (fun _ _ _ h => h) (by rfl) (fun w' hw' => ?_) rfl ?_
      rotate_left
      · try (have d0 := cell_gr (Gr.trans HC.out hw') D0.out; have d1 := cell_gr (Gr.trans HC.out hw') D1.out)
        go_simp
        with_reducible rfl
      simp only [Act.put, List.setIfInBounds_toArray, List.set_cons_zero, List.set_cons_succ]
      -- 1: slot 18
      refine wpG_take preGr (i := 1) (v := ?_) (by kernel_rfl) (some 18) (by kernel_rfl) rfl (by kernel_rfl) (by kernel_rfl) (by kernel_rfl) (fun _ _ _ h => h) (by rfl) (fun w' hw' => ?_) rfl ?_
      rotate_left
      · try (have d0 := cell_gr (Gr.trans HC.out hw') D0.out; have d1 := cell_gr (Gr.trans HC.out hw') D1.out)
        go_simp
        with_reducible rfl
      simp only [Act.put, List.setIfInBounds_toArray, List.set_cons_zero, List.set_cons_succ]
      -- 2: slot 19
      refine wpG_take preGr (i := 2) (v := ?_) (by kernel_rfl) (some 19) (by kernel_rfl) rfl (by kernel_rfl) (by kernel_rfl) (by kernel_rfl) (fun _ _ _ h => h) (by rfl) (fun w' hw' => ?_) rfl ?_
      rotate_left
      · try (have d0 := cell_gr (Gr.trans HC.out hw') D0.out; have d1 := cell_gr (Gr.trans HC.out hw') D1.out)
        go_simp
        with_reducible rfl
      simp only [Act.put, List.setIfInBounds_toArray, List.set_cons_zero, List.set_cons_succ]
      -- 3: slot 20
      refine wpG_take preGr (i := 3) (v := ?_) (by kernel_rfl) (some 20) (by kernel_rfl) rfl (by kernel_rfl) (by kernel_rfl) (by kernel_rfl) (fun _ _ _ h => h) (by rfl) (fun w' hw' => ?_) rfl ?_
      rotate_left
      · try (have d0 := cell_gr (Gr.trans HC.out hw') D0.out; have d1 := cell_gr (Gr.trans HC.out hw') D1.out)
        go_simp
        with_reducible rfl
      simp only [Act.put, List.setIfInBounds_toArray, List.set_cons_zero, List.set_cons_succ]
      -- 4: slot 21
      refine wpG_take preGr (i := 4) (v := ?_) (by kernel_rfl) (some 21) (by kernel_rfl) rfl (by kernel_rfl) (by kernel_rfl) (by kernel_rfl) (fun _ _ _ h => h) (by rfl) (fun w' hw' => ?_) rfl ?_
      rotate_left
      · try (have d0 := cell_gr (Gr.trans HC.out hw') D0.out; have d1 := cell_gr (Gr.trans HC.out hw') D1.out)
        go_simp
        with_reducible rfl
      simp only [Act.put, List.setIfInBounds_toArray, List.set_cons_zero, List.set_cons_succ]
      -- 5: slot 22
      refine wpG_take preGr (i := 5) (v := ?_) (by kernel_rfl) (some 22) (by kernel_rfl) rfl (by kernel_rfl) (by kernel_rfl) (by kernel_rfl) (fun _ _ _ h => h) (by rfl) (fun w' hw' => ?_) rfl ?_
      rotate_left
      · try (have d0 := cell_gr (Gr.trans HC.out hw') D0.out; have d1 := cell_gr (Gr.trans HC.out hw') D1.out)
        go_simp
        with_reducible rfl
      simp only [Act.put, List.setIfInBounds_toArray, List.set_cons_zero, List.set_cons_succ]
      -- 6: slot 23
      refine wpG_take preGr (i := 6) (v := ?_) (by kernel_rfl) (some 23) (by kernel_rfl) rfl (by kernel_rfl) (by kernel_rfl) (by kernel_rfl) (fun _ _ _ h => h) (by rfl) (fun w' hw' => ?_) rfl ?_
      rotate_left
      · try (have d0 := cell_gr (Gr.trans HC.out hw') D0.out; have d1 := cell_gr (Gr.trans HC.out hw') D1.out)
        go_simp
        with_reducible rfl
      simp only [Act.put, List.setIfInBounds_toArray, List.set_cons_zero, List.set_cons_succ]
      -- 7: slot 24
      refine wpG_take preGr (i := 7) (v := ?_) (by kernel_rfl) (some 24) (by kernel_rfl) rfl (by kernel_rfl) (by kernel_rfl) (by kernel_rfl) (fun _ _ _ h => h) (by rfl) (fun w' hw' => ?_) rfl ?_
      rotate_left
      · try (have d0 := cell_gr (Gr.trans HC.out hw') D0.out; have d1 := cell_gr (Gr.trans HC.out hw') D1.out)
        go_simp
        with_reducible rfl
      simp only [Act.put, List.setIfInBounds_toArray, List.set_cons_zero, List.set_cons_succ]
      -- 8: slot 25
      refine wpG_take preGr (i := 8) (v := ?_) (by kernel_rfl) (some 25) (by kernel_rfl) rfl (by kernel_rfl) (by kernel_rfl) (by kernel_rfl) (fun _ _ _ h => h) (by rfl) (fun w' hw' => ?_) rfl ?_
      rotate_left
      · try (have d0 := cell_gr (Gr.trans HC.out hw') D0.out; have d1 := cell_gr (Gr.trans HC.out hw') D1.out)
        go_simp
        with_reducible rfl
      simp only [Act.put, List.setIfInBounds_toArray, List.set_cons_zero, List.set_cons_succ]
      refine wpG_done (by kernel_rfl) ?_ _
      have HB2 : Hid (Below w.heap.size w wc) := HB.out.trans (Below.mono HC.out HB.out.size)
      clear HC D0 D1
      go_wp2_with fail
      go_roundw
      case rel =>
        first
          | exact ⟨i + 1, hle, by go_num, HB2.out⟩
          | ((repeat apply Exists.intro); exact ⟨⟨i + 1, hle, by go_num, HB2.out⟩, rfl⟩)
      case measure => simp [intOf]; omega
    · go_wp2_with fail
      go_ret
      exact ⟨rfl, HB.out⟩
theorem same_rows {v v' : Value} {l : List Int} (w : World) (h : IR w v l) (h' : IR w v' l) (hb : l.length ≤ 65536) :
    Calls Tryd.prog 22 #[v, v'] w fun e w' => e = .returned (.bool true) ∧ Below w.heap.size w w' := by
  obtain ⟨a, c, rfl, _, _⟩ := h.shape
  obtain ⟨a', c', rfl, _, _⟩ := h'.shape
  exact same_same a a' l.length c c' l w h h' rfl hb
theorem put_all {n : Int} : ∀ {a b : List Int}, (∀ y ∈ a, y < n) → Id.put n (a ++ b) = a ++ Id.put n b
  | [], b, _ => rfl
  | y :: a, b, h => by
    have hy := h y (by simp)
    rw [List.cons_append, Id.put, if_pos hy, put_all fun z hz => h z (by simp [hz])]
    rfl
theorem put_done {n : Int} : ∀ {a b : List Int}, (∃ y ∈ a, ¬ y < n) → Id.put n (a ++ b) = Id.put n a ++ b
  | [], b, h => by obtain ⟨y, hy, _⟩ := h; cases hy
  | y :: a, b, h => by
    rw [List.cons_append, Id.put, Id.put]
    split
    · rename_i hy
      rw [put_done]
      · rfl
      · obtain ⟨z, hz, hzn⟩ := h
        rcases List.mem_cons.1 hz with rfl | hz
        · exact absurd hy hzn
        · exact ⟨z, hz, hzn⟩
    · rfl
theorem own_grown {w w' : World} {base n size : Nat} {e : TypeId} {v : Value} {xs : List Value} {W : World} (hB : Below W.heap.size W w) (hown : w.ownsRow W.heap.size e size v n xs) (hg : w.grownBy w' v.ownBlock) : Below W.heap.size W w' :=
  hB.grown hg hB.size (fun k hk => (hown.lt k hk).1)
set_option maxRecDepth 20000 in
set_option maxHeartbeats 4000000 in
/-- A row without one. -/
theorem without_any (n : Int) {v : Value} {l : List Int} (w : World) (h : IR w v l) (hb : l.length ≤ 65536) :
    Calls Tryd.prog 40 #[v, .int .i64 n] w fun e w' => ∃ v', e = .returned v' ∧ w'.ownsRow w.heap.size 3 1 v' (strike n l).length (ints (strike n l)) ∧ Below w.heap.size w w' := by
  obtain ⟨i0, hi, hz0, hz1, hz2⟩ := info_parts infoI
  obtain ⟨a, c, rfl, hc1, hc2⟩ := h.shape
  have HI := Lib.hid h
  obtain ⟨m, hm⟩ : ∃ m, m = l.length := ⟨_, rfl⟩
  have HN := Lib.hid hm
  rw [← hm] at HI hc1 hb ⊢
  clear h hc2 hm
  go_enter Tryd.func40, Tryd.ntmps40
  go_wp2_with fail
  go_loopw [5, 6] (fun ov iv wr => ∃ (i k : Nat) (A : Option Addr) (C : Nat), i ≤ m ∧ iv = .int .i64 (i : Int) ∧ ov = .slice A k C ∧ Hid (k = (strike n (l.take i)).length ∧ wr.ownsRow w.heap.size 3 1 (.slice A k C) k (ints (strike n (l.take i)))) ∧ Hid (Below w.heap.size w wr)) (fun _ iv _ => m - (intOf iv).toNat)
  case atStart => exact ⟨0, 0, none, 0, Nat.zero_le _, rfl, rfl, ⟨rfl, World.ownsRow_nil _ _ _ _⟩, Below.refl _ _⟩
  case round =>
    obtain ⟨i, k, A, C, hin, rfl, rfl, HO, HB⟩ := hrel
    by_cases hlt : i < m
    · have hil : i < l.length := by rw [← HN.out]; exact hlt
      obtain ⟨b, o, ea, hcel⟩ := IR.at HI.out HN.out (by omega)
      subst ea
      have hc := cell_gr HB.out (hcel i hil)
      have htk : l.take (i + 1) = l.take i ++ [l[i]] := by rw [List.take_add_one, List.getElem?_eq_getElem hil]; rfl
      obtain ⟨x, hx⟩ : ∃ x, x = l[i] := ⟨_, rfl⟩
      rw [← hx] at hc htk
      have hle : i + 1 ≤ m := by omega
      have hki : k ≤ 65536 := by
        have h1 := HO.out.1
        have h2 : (strike n (l.take i)).length ≤ (l.take i).length := List.length_filter_le _ _
        rw [List.length_take] at h2
        omega
      by_cases he : x = n
      · have he2 : (x != n) = false := by rw [he]; simp
        have HO2 : Hid (k = (strike n (l.take (i + 1))).length ∧ wr.ownsRow w.heap.size 3 1 (.slice A k C) k (ints (strike n (l.take (i + 1))))) := by
          have : strike n (l.take (i + 1)) = strike n (l.take i) := by rw [htk]; exact strike_same he
          show _ ∧ _
          rw [this]
          exact HO.out
        clear HO hcel hx htk hki
        subst he
        go_wp2_with fail
        go_roundw
        case rel =>
          first
            | exact ⟨i + 1, k, A, C, hle, by go_num, rfl, HO2, HB⟩
            | ((repeat apply Exists.intro); exact ⟨⟨i + 1, k, A, C, hle, by go_num, rfl, HO2, HB⟩, rfl⟩)
        case measure => simp [intOf]; omega
      · have he2 : (x != n) = true := by simpa using he
        have hfl : strike n (l.take (i + 1)) = strike n (l.take i) ++ [x] := by rw [htk]; exact strike_other he
        have HFL := Lib.hid hfl
        have HLO := Lib.hid HB.out.size
        have hown := HO.out.2
        have HOA : Hid ((wr.alloc (.cells #[.int .i64 x] 3)).ownsRow w.heap.size 3 1 (.slice A k C) k (ints (strike n (l.take i)))) := hown.alloc _
        have HRD : Hid (Rd (wr.alloc (.cells #[.int .i64 x] 3)) 1 (.slice (some ⟨wr.heap.size, 0, none⟩) 1 1) 1 [.int .i64 x]) := rd_new wr [.int .i64 x] 3 1 1 rfl (by unfold maxLen; omega)
        have HONE := Lib.hid (one_int x)
        have HBY : Hid ((k + 1) * 8 ≤ 140737488355328) := by show _ ≤ _; omega
        have HBB : Hid (Below w.heap.size w (wr.alloc (.cells #[.int .i64 x] 3))) := HB.out.alloc HB.out.size _
        have HK := Lib.hid HO.out.1
        clear HO hcel hx htk hfl hown hki
        go_wp2_with (at_builtin; refine wpList_append_gr _ rfl (.tmp 19) (.tmp 24) 22 rfl w.heap.size 3 i0 (.int .i64 0) 1 8 Tryd.underlying22 hi hz0 hz1 hz2 rfl (by decide) _ k _ rfl HOA.out _ 1 [.int .i64 x] rfl HRD.out HONE.out HBY.out (by decide) HBB.out.size ?_)
        intro v' w1 ho hg
        have HB1 : Hid (Below w.heap.size w w1) := HBB.out.grown hg HBB.out.size (fun q hq => (HOA.out.lt q hq).1)
        obtain ⟨A2, C2, rfl, _, _⟩ := (own_rd ho).shape
        have HO2 : Hid (k + 1 = (strike n (l.take (i + 1))).length ∧ w1.ownsRow w.heap.size 3 1 (.slice A2 (k + 1) C2) (k + 1) (ints (strike n (l.take (i + 1))))) := by
          show _ ∧ _
          rw [HFL.out]
          refine ⟨by rw [List.length_append, ← HK.out]; rfl, ?_⟩
          have e : ints ((strike n (l.take i)) ++ [x]) = ints (strike n (l.take i)) ++ [.int .i64 x] := by simp [ints]
          rw [e]
          exact ho
        clear ho hg HOA HRD HBB HB HLO
        go_wp2_with fail
        go_roundw
        case rel =>
          first
            | exact ⟨i + 1, k + 1, A2, C2, hle, by go_num, rfl, HO2, HB1⟩
            | ((repeat apply Exists.intro); exact ⟨⟨i + 1, k + 1, A2, C2, hle, by go_num, rfl, HO2, HB1⟩, rfl⟩)
        case measure => simp [intOf]; omega
    · have HT : Hid (l.take i = l) := by show _ = _; rw [List.take_of_length_le]; have := HN.out; omega
      go_wp2_with fail
      go_ret
      have ho := HO.out
      rw [HT.out] at ho
      refine ⟨_, rfl, ?_, HB.out⟩
      rw [← ho.1]
      exact ho.2
end Go.Proofs.YtoemghinolekgaaDoor.Pl
