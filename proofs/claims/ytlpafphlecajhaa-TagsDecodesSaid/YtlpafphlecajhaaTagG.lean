/-
  The laws' cut and Few.
-/
import Derived.Test.YtlpafphlecajhaaTagB
import Derived.Test.YtlpafphlecajhaaOpen
namespace Go.Proofs.Ytlpafphlecajhaa
open Go.RowKit
set_option linter.unusedVariables false
set_option linter.unusedSimpArgs false
theorem cut_any (a : Option Addr) (n c : Nat) (w : World) (hn : n ≤ c) (hc : c ≤ maxLen):
    Calls Try.prog 13 #[.slice a n c] w fun e w' => e = .returned (.slice a (min n 1600) c) ∧ w = w' := by
  unfold maxLen at hc
  by_cases h : n ≤ 1600
  · have e : min n 1600 = n := by omega
    rw [e]
    go_enter Try.func13, Try.ntmps13
    go_wp2
    go_ret
    exact ⟨rfl, rfl⟩
  · have e : min n 1600 = 1600 := by omega
    rw [e]
    go_enter Try.func13, Try.ntmps13
    go_wp2
    go_ret
    exact ⟨rfl, rfl⟩
theorem cut_in {W : World} {a : Option Addr} {n c : Nat} {l : List UInt8} (hn : l.length = n) (b : Bs W (.slice a n c) l) :
    ∃ (m : Nat) (x : List UInt8), m ≤ 1600 ∧ x.length = m ∧ Bs W (.slice a m c) x ∧ ∀ w, Calls Try.prog 13 #[.slice a n c] w fun e w' => e = .returned (.slice a m c) ∧ w = w' := by
  obtain ⟨_, _, es, hc, hm⟩ := b.shape
  simp only [Value.slice.injEq] at es
  obtain ⟨rfl, _, rfl⟩ := es
  have u := b.upto hn (min n 1600) (by omega)
  have g : (l.take (min n 1600)).length = min n 1600 := by rw [List.length_take]; omega
  exact ⟨min n 1600, l.take (min n 1600), by omega, g, u, fun w => cut_any a n c w (by omega) hm⟩

/-- A tag of which 1600 bytes are looked at. -/
def cutV : Value → Value
  | .slice a n c => .slice a (min n 1600) c
  | v => v
def cutT (t : Tg) : Tg := ⟨t.typ, cutV t.val, t.l.take 1600⟩
def fewT (ts : List Tg) : List Tg := (ts.take 70).map cutT
theorem fewT_len (ts : List Tg) : (fewT ts).length ≤ 70 := by unfold fewT; rw [List.length_map, List.length_take]; omega
theorem fewT_snoc (ts : List Tg) (k : Nat) (h : k < ts.length) : ((ts.take (k + 1)).map cutT) = (ts.take k).map cutT ++ [cutT ts[k]] := by
  rw [List.take_succ_eq_append_getElem h, List.map_append]; rfl
theorem fewT_small (ts : List Tg) : ∀ t ∈ fewT ts, t.l.length ≤ 1600 := by
  intro t ht
  obtain ⟨x, _, rfl⟩ := List.mem_map.1 ht
  show (x.l.take 1600).length ≤ 1600
  rw [List.length_take]; omega
theorem cutT_bs {w : World} {t : Tg} (h : Bs w t.val t.l) : Bs w (cutT t).val (cutT t).l := by
  obtain ⟨A, L, C, hv, hL, hLC, hCm⟩ := h.sl
  rw [hv] at h
  have := h.upto hL (min L 1600) (by omega)
  show Bs w (cutV t.val) (t.l.take 1600)
  rw [hv]
  have e : t.l.take (min L 1600) = t.l.take 1600 := by
    by_cases h : L ≤ 1600
    · rw [List.take_of_length_le (by omega), List.take_of_length_le (by omega)]
    · rw [show min L 1600 = 1600 by omega]
  rw [e] at this
  exact this

set_option maxRecDepth 20000 in
set_option maxHeartbeats 4000000 in
theorem few_any (ao : Option Addr) (n c : Nat) (ts : List Tg) (w : World) (hr : TR w (.slice ao n c) n ts) :
    Calls Try.prog 9 #[.slice ao n c] w fun e w' => ∃ a' c', e = .returned (.slice a' (fewT ts).length c') ∧ TR w' (.slice a' (fewT ts).length c') (fewT ts).length (fewT ts) ∧ Below w.heap.size w w' := by
  obtain ⟨i0, hi, hz0, hz1, hz2⟩ := info_parts infoT
  have hl := hr.len
  have HR := Lib.hid hr
  obtain ⟨_, _, es, hnc, hcm⟩ := hr.shape
  simp only [Value.slice.injEq] at es
  obtain ⟨rfl, z1, rfl⟩ := es
  clear z1 hr
  unfold maxLen at hcm
  go_enter Try.func9, Try.ntmps9
  go_wp2
  go_loopw [3, 4] (fun ov iv wr => ∃ k : Nat, k ≤ n ∧ k ≤ 70 ∧ iv = .int .i64 k ∧ wr.ownsRow w.heap.size 34 2 ov k (flat ((ts.take k).map cutT)) ∧ Below w.heap.size w wr) (fun _ iv _ => 70 - (intOf iv).toNat)
  case atStart => exact ⟨0, Nat.zero_le _, Nat.zero_le _, rfl, World.ownsRow_nil _ _ _ _, Below.refl _ _⟩
  case round =>
    obtain ⟨k, hk, hk70, rfl, hown, hb⟩ := hrel
    have HB := Lib.hid hb
    have HO := Lib.hid hown
    have HBN := Lib.hid hb.size
    clear hb hown
    by_cases hlt : k < n
    · by_cases hlt2 : k < 70
      · obtain ⟨b, o, rfl, hbl, hc⟩ := HR.out.cells (by omega)
        obtain ⟨hc0, hc1⟩ := hc k (by omega)
        have HV := Lib.hid (HR.out.val k (by omega))
        obtain ⟨A, L, C, hv, hL, hLC, hCm⟩ := HV.out.sl
        rw [hv] at hc1
        have HE := Lib.hid hv
        have HL := Lib.hid hL
        obtain ⟨T, hT⟩ : ∃ T, T = ts[k].typ := ⟨_, rfl⟩
        rw [← hT] at hc0
        have HTT := Lib.hid hT
        have HC0 := Lib.hid hc0
        have HC1 := Lib.hid hc1
        unfold maxLen at hCm
        obtain ⟨M, hM⟩ : ∃ M, M = min L 1600 := ⟨_, rfl⟩
        have hmin : (if (1600 : Int) < (L : Int) then 1600 else (L : Int)) = (M : Int) := by
          split <;> omega
        have hML : M ≤ C := by omega
        have HM := Lib.hid hM
        have HCT : Hid (cutT ts[k] = ⟨T, .slice A M C, ts[k].l.take 1600⟩) := by
          show _ = _
          unfold cutT cutV
          rw [hv, hT, hM]
        clear hv hL hT hc hc0 hc1 hM
        go_wp2_with fail
        refine wp_region_G 23 (Below (w.heap.size)) (by kernel_rfl) ?_
        -- 0: slot 15
        refine wpG_take (preBelow (w.heap.size)) (i := 0) (v := ?_) (by kernel_rfl) (some 15) (by kernel_rfl) rfl (by kernel_rfl) (by kernel_rfl) (by kernel_rfl) (fun _ _ _ h => h) (by rfl) (fun w' hw' => ?_) rfl ?_
        rotate_left
        · try have g0 := cell_gr (HB.out.trans ((Below.drew (Below.refl w.heap.size wr)).trans hw')) HC0.out
          try have g1 := cell_gr (HB.out.trans ((Below.drew (Below.refl w.heap.size wr)).trans hw')) HC1.out
          go_simp
          with_reducible rfl
        simp only [Act.put, List.setIfInBounds_toArray, List.set_cons_zero, List.set_cons_succ]
        -- 1: slot 16
        refine wpG_take (preBelow (w.heap.size)) (i := 1) (v := ?_) (by kernel_rfl) (some 16) (by kernel_rfl) rfl (by kernel_rfl) (by kernel_rfl) (by kernel_rfl) (fun _ _ _ h => h) (by rfl) (fun w' hw' => ?_) rfl ?_
        rotate_left
        · try have g0 := cell_gr (HB.out.trans ((Below.drew (Below.refl w.heap.size wr)).trans hw')) HC0.out
          try have g1 := cell_gr (HB.out.trans ((Below.drew (Below.refl w.heap.size wr)).trans hw')) HC1.out
          go_simp
          with_reducible rfl
        simp only [Act.put, List.setIfInBounds_toArray, List.set_cons_zero, List.set_cons_succ]
        -- 2: slot 17
        refine wpG_take (preBelow (w.heap.size)) (i := 2) (v := ?_) (by kernel_rfl) (some 17) (by kernel_rfl) rfl (by kernel_rfl) (by kernel_rfl) (by kernel_rfl) (fun _ _ _ h => h) (by rfl) (fun w' hw' => ?_) rfl ?_
        rotate_left
        · try have g0 := cell_gr (HB.out.trans ((Below.drew (Below.refl w.heap.size wr)).trans hw')) HC0.out
          try have g1 := cell_gr (HB.out.trans ((Below.drew (Below.refl w.heap.size wr)).trans hw')) HC1.out
          go_simp
          with_reducible rfl
        simp only [Act.put, List.setIfInBounds_toArray, List.set_cons_zero, List.set_cons_succ]
        -- 3: slot 18
        refine wpG_take (preBelow (w.heap.size)) (i := 3) (v := ?_) (by kernel_rfl) (some 18) (by kernel_rfl) rfl (by kernel_rfl) (by kernel_rfl) (by kernel_rfl) (fun _ _ _ h => h) (by rfl) (fun w' hw' => ?_) rfl ?_
        rotate_left
        · try have g0 := cell_gr (HB.out.trans ((Below.drew (Below.refl w.heap.size wr)).trans hw')) HC0.out
          try have g1 := cell_gr (HB.out.trans ((Below.drew (Below.refl w.heap.size wr)).trans hw')) HC1.out
          go_simp
          with_reducible rfl
        simp only [Act.put, List.setIfInBounds_toArray, List.set_cons_zero, List.set_cons_succ]
        -- 4: slot 19
        refine wpG_take (preBelow (w.heap.size)) (i := 4) (v := ?_) (by kernel_rfl) (some 19) (by kernel_rfl) rfl (by kernel_rfl) (by kernel_rfl) (by kernel_rfl) (fun _ _ _ h => h) (by rfl) (fun w' hw' => ?_) rfl ?_
        rotate_left
        · try have g0 := cell_gr (HB.out.trans ((Below.drew (Below.refl w.heap.size wr)).trans hw')) HC0.out
          try have g1 := cell_gr (HB.out.trans ((Below.drew (Below.refl w.heap.size wr)).trans hw')) HC1.out
          go_simp
          with_reducible rfl
        simp only [Act.put, List.setIfInBounds_toArray, List.set_cons_zero, List.set_cons_succ]
        -- 5: slot 20
        refine wpG_take (preBelow (w.heap.size)) (i := 5) (v := ?_) (by kernel_rfl) (some 20) (by kernel_rfl) rfl (by kernel_rfl) (by kernel_rfl) (by kernel_rfl) (fun _ _ _ h => h) (by rfl) (fun w' hw' => ?_) rfl ?_
        rotate_left
        · try have g0 := cell_gr (HB.out.trans ((Below.drew (Below.refl w.heap.size wr)).trans hw')) HC0.out
          try have g1 := cell_gr (HB.out.trans ((Below.drew (Below.refl w.heap.size wr)).trans hw')) HC1.out
          go_simp
          with_reducible rfl
        simp only [Act.put, List.setIfInBounds_toArray, List.set_cons_zero, List.set_cons_succ]
        -- 6: slot 21
        refine wpG_take (preBelow (w.heap.size)) (i := 6) (v := ?_) (by kernel_rfl) (some 21) (by kernel_rfl) rfl (by kernel_rfl) (by kernel_rfl) (by kernel_rfl) (fun _ _ _ h => h) (by rfl) (fun w' hw' => ?_) rfl ?_
        rotate_left
        · try have g0 := cell_gr (HB.out.trans ((Below.drew (Below.refl w.heap.size wr)).trans hw')) HC0.out
          try have g1 := cell_gr (HB.out.trans ((Below.drew (Below.refl w.heap.size wr)).trans hw')) HC1.out
          go_simp
          with_reducible rfl
        simp only [Act.put, List.setIfInBounds_toArray, List.set_cons_zero, List.set_cons_succ]
        -- 7: slot 22
        refine wpG_take (preBelow (w.heap.size)) (i := 7) (v := ?_) (by kernel_rfl) (some 22) (by kernel_rfl) rfl (by kernel_rfl) (by kernel_rfl) (by kernel_rfl) (fun _ _ _ h => h) (by rfl) (fun w' hw' => ?_) rfl ?_
        rotate_left
        · try have g0 := cell_gr (HB.out.trans ((Below.drew (Below.refl w.heap.size wr)).trans hw')) HC0.out
          try have g1 := cell_gr (HB.out.trans ((Below.drew (Below.refl w.heap.size wr)).trans hw')) HC1.out
          go_simp
          with_reducible rfl
        simp only [Act.put, List.setIfInBounds_toArray, List.set_cons_zero, List.set_cons_succ]
        -- 8: slot 23
        refine wpG_take (preBelow (w.heap.size)) (i := 8) (v := ?_) (by kernel_rfl) (some 23) (by kernel_rfl) rfl (by kernel_rfl) (by kernel_rfl) (by kernel_rfl) (fun _ _ _ h => h) (by rfl) (fun w' hw' => ?_) rfl ?_
        rotate_left
        · try have g0 := cell_gr (HB.out.trans ((Below.drew (Below.refl w.heap.size wr)).trans hw')) HC0.out
          try have g1 := cell_gr (HB.out.trans ((Below.drew (Below.refl w.heap.size wr)).trans hw')) HC1.out
          go_simp
          with_reducible rfl
        simp only [Act.put, List.setIfInBounds_toArray, List.set_cons_zero, List.set_cons_succ]
        -- 9: slot 24
        refine wpG_take (preBelow (w.heap.size)) (i := 9) (v := ?_) (by kernel_rfl) (some 24) (by kernel_rfl) rfl (by kernel_rfl) (by kernel_rfl) (by kernel_rfl) (fun _ _ _ h => h) (by rfl) (fun w' hw' => ?_) rfl ?_
        rotate_left
        · try have g0 := cell_gr (HB.out.trans ((Below.drew (Below.refl w.heap.size wr)).trans hw')) HC0.out
          try have g1 := cell_gr (HB.out.trans ((Below.drew (Below.refl w.heap.size wr)).trans hw')) HC1.out
          go_simp
          with_reducible rfl
        simp only [Act.put, List.setIfInBounds_toArray, List.set_cons_zero, List.set_cons_succ]
        -- 10: slot 25
        refine wpG_take (preBelow (w.heap.size)) (i := 10) (v := ?_) (by kernel_rfl) (some 25) (by kernel_rfl) rfl (by kernel_rfl) (by kernel_rfl) (by kernel_rfl) (fun _ _ _ h => h) (by rfl) (fun w' hw' => ?_) rfl ?_
        rotate_left
        · try have g0 := cell_gr (HB.out.trans ((Below.drew (Below.refl w.heap.size wr)).trans hw')) HC0.out
          try have g1 := cell_gr (HB.out.trans ((Below.drew (Below.refl w.heap.size wr)).trans hw')) HC1.out
          go_simp
          with_reducible rfl
        simp only [Act.put, List.setIfInBounds_toArray, List.set_cons_zero, List.set_cons_succ]
        -- 11: slot 26
        refine wpG_take (preBelow (w.heap.size)) (i := 11) (v := ?_) (by kernel_rfl) (some 26) (by kernel_rfl) rfl (by kernel_rfl) (by kernel_rfl) (by kernel_rfl) (fun _ _ _ h => h) (by rfl) (fun w' hw' => ?_) rfl ?_
        rotate_left
        · try have g0 := cell_gr (HB.out.trans ((Below.drew (Below.refl w.heap.size wr)).trans hw')) HC0.out
          try have g1 := cell_gr (HB.out.trans ((Below.drew (Below.refl w.heap.size wr)).trans hw')) HC1.out
          go_simp
          with_reducible rfl
        simp only [Act.put, List.setIfInBounds_toArray, List.set_cons_zero, List.set_cons_succ]
        -- 12: slot 27
        refine wpG_take (preBelow (w.heap.size)) (i := 12) (v := ?_) (by kernel_rfl) (some 27) (by kernel_rfl) rfl (by kernel_rfl) (by kernel_rfl) (by kernel_rfl) (fun _ _ _ h => h) (by rfl) (fun w' hw' => ?_) rfl ?_
        rotate_left
        · try have g0 := cell_gr (HB.out.trans ((Below.drew (Below.refl w.heap.size wr)).trans hw')) HC0.out
          try have g1 := cell_gr (HB.out.trans ((Below.drew (Below.refl w.heap.size wr)).trans hw')) HC1.out
          go_simp
          with_reducible rfl
        simp only [Act.put, List.setIfInBounds_toArray, List.set_cons_zero, List.set_cons_succ]
        -- 13: slot 28
        refine wpG_take (preBelow (w.heap.size)) (i := 13) (v := ?_) (by kernel_rfl) (some 28) (by kernel_rfl) rfl (by kernel_rfl) (by kernel_rfl) (by kernel_rfl) (fun _ _ _ h => h) (by rfl) (fun w' hw' => ?_) rfl ?_
        rotate_left
        · try have g0 := cell_gr (HB.out.trans ((Below.drew (Below.refl w.heap.size wr)).trans hw')) HC0.out
          try have g1 := cell_gr (HB.out.trans ((Below.drew (Below.refl w.heap.size wr)).trans hw')) HC1.out
          go_simp
          with_reducible rfl
        simp only [Act.put, List.setIfInBounds_toArray, List.set_cons_zero, List.set_cons_succ]
        -- 14: slot 29
        refine wpG_take (preBelow (w.heap.size)) (i := 14) (v := ?_) (by kernel_rfl) (some 29) (by kernel_rfl) rfl (by kernel_rfl) (by kernel_rfl) (by kernel_rfl) (fun _ _ _ h => h) (by rfl) (fun w' hw' => ?_) rfl ?_
        rotate_left
        · try have g0 := cell_gr (HB.out.trans ((Below.drew (Below.refl w.heap.size wr)).trans hw')) HC0.out
          try have g1 := cell_gr (HB.out.trans ((Below.drew (Below.refl w.heap.size wr)).trans hw')) HC1.out
          go_simp
          with_reducible rfl
        simp only [Act.put, List.setIfInBounds_toArray, List.set_cons_zero, List.set_cons_succ]
        -- 15: slot 30
        refine wpG_take (preBelow (w.heap.size)) (i := 15) (v := ?_) (by kernel_rfl) (some 30) (by kernel_rfl) rfl (by kernel_rfl) (by kernel_rfl) (by kernel_rfl) (fun _ _ _ h => h) (by rfl) (fun w' hw' => ?_) rfl ?_
        rotate_left
        · try have g0 := cell_gr (HB.out.trans ((Below.drew (Below.refl w.heap.size wr)).trans hw')) HC0.out
          try have g1 := cell_gr (HB.out.trans ((Below.drew (Below.refl w.heap.size wr)).trans hw')) HC1.out
          go_simp
          with_reducible rfl
        simp only [Act.put, List.setIfInBounds_toArray, List.set_cons_zero, List.set_cons_succ]
        -- 16: slot 31
        refine wpG_take (preBelow (w.heap.size)) (i := 16) (v := ?_) (by kernel_rfl) (some 31) (by kernel_rfl) rfl (by kernel_rfl) (by kernel_rfl) (by kernel_rfl) (fun _ _ _ h => h) (by rfl) (fun w' hw' => ?_) rfl ?_
        rotate_left
        · try have g0 := cell_gr (HB.out.trans ((Below.drew (Below.refl w.heap.size wr)).trans hw')) HC0.out
          try have g1 := cell_gr (HB.out.trans ((Below.drew (Below.refl w.heap.size wr)).trans hw')) HC1.out
          go_simp
          with_reducible rfl
        simp only [Act.put, List.setIfInBounds_toArray, List.set_cons_zero, List.set_cons_succ]
        -- 17: slot 32
        refine wpG_take (preBelow (w.heap.size)) (i := 17) (v := ?_) (by kernel_rfl) (some 32) (by kernel_rfl) rfl (by kernel_rfl) (by kernel_rfl) (by kernel_rfl) (fun _ _ _ h => h) (by rfl) (fun w' hw' => ?_) rfl ?_
        rotate_left
        · try have g0 := cell_gr (HB.out.trans ((Below.drew (Below.refl w.heap.size wr)).trans hw')) HC0.out
          try have g1 := cell_gr (HB.out.trans ((Below.drew (Below.refl w.heap.size wr)).trans hw')) HC1.out
          go_simp
          with_reducible rfl
        simp only [Act.put, List.setIfInBounds_toArray, List.set_cons_zero, List.set_cons_succ]
        -- 18: slot 33
        refine wpG_take (preBelow (w.heap.size)) (i := 18) (v := ?_) (by kernel_rfl) (some 33) (by kernel_rfl) rfl (by kernel_rfl) (by kernel_rfl) (by kernel_rfl) (fun _ _ _ h => h) (by rfl) (fun w' hw' => ?_) rfl ?_
        rotate_left
        · try have g0 := cell_gr (HB.out.trans ((Below.drew (Below.refl w.heap.size wr)).trans hw')) HC0.out
          try have g1 := cell_gr (HB.out.trans ((Below.drew (Below.refl w.heap.size wr)).trans hw')) HC1.out
          go_simp
          with_reducible rfl
        simp only [Act.put, List.setIfInBounds_toArray, List.set_cons_zero, List.set_cons_succ]
        -- 19: slot 34
        refine wpG_take (preBelow (w.heap.size)) (i := 19) (v := ?_) (by kernel_rfl) (some 34) (by kernel_rfl) rfl (by kernel_rfl) (by kernel_rfl) (by kernel_rfl) (fun _ _ _ h => h) (by rfl) (fun w' hw' => ?_) rfl ?_
        rotate_left
        · refine Eq.trans (build_run (P := Try.prog) 34 [(0, .tmp 20), (1, .tmp 33)] ?_ #[.int .i64 T, .slice A M C] ?_) ?_
          · rfl
          · exact builtT T A M C
          · with_reducible rfl
        simp only [Act.put, List.setIfInBounds_toArray, List.set_cons_zero, List.set_cons_succ]
        refine wpG_one (i := 20) rfl (by kernel_rfl) (by rfl) ?_
        go_simp
        refine ⟨(Below.refl w.heap.size wr.drew).alloc HBN.out _, ?_⟩
        try simp only [Act.put, List.setIfInBounds_toArray, List.set_cons_zero, List.set_cons_succ]
        refine wpG_one (i := 21) rfl (by kernel_rfl) (by rfl) ?_
        have HO1 := Lib.hid (World.ownsRow.alloc (ownsRow_below HO.out (Gr.drew wr)) (.cells #[.int .i64 T, .slice A M C] 34))
        have HB1 : Hid (Below w.heap.size w (wr.drew.alloc (.cells #[.int .i64 T, .slice A M C] 34))) := HB.out.drew.alloc HBN.out _
        refine wp_append_gr _ (some 36) (.tmp 15) (.tmp 35) 22 rfl w.heap.size 34 i0 _ 2 32 Try.underlying22 hi hz0 hz1 hz2 rfl (by decide) u3 _ _ rfl HO1.out _ 1 [.int .i64 T, .slice A M C] rfl ?p2 (one_tag T rfl) ?p4 (by decide) HB1.out.size rfl ?_
        case p2 => exact rd_new wr.drew [.int .i64 T, .slice A M C] 34 1 2 rfl (by decide)
        case p4 => omega
        intro v' wo ho' hg'
        have hb' := grown_below HO1.out HB1.out.size hg'
        refine ⟨hb', ?_⟩
        have HO2 := Lib.hid ho'
        have HB2 := Lib.hid (HB1.out.trans hb')
        clear ho' hg' hb'
        try simp only [Act.put, List.setIfInBounds_toArray, List.set_cons_zero, List.set_cons_succ]
        -- 22: slot 3
        refine wpG_take (preBelow (w.heap.size)) (i := 22) (v := ?_) (by kernel_rfl) (some 3) (by kernel_rfl) rfl (by kernel_rfl) (by kernel_rfl) (by kernel_rfl) (fun _ _ _ h => h) (by rfl) (fun w' hw' => ?_) rfl ?_
        rotate_left
        · try have g0 := cell_gr (HB.out.trans ((Below.drew (Below.refl w.heap.size wr)).trans hw')) HC0.out
          try have g1 := cell_gr (HB.out.trans ((Below.drew (Below.refl w.heap.size wr)).trans hw')) HC1.out
          go_simp
          with_reducible rfl
        simp only [Act.put, List.setIfInBounds_toArray, List.set_cons_zero, List.set_cons_succ]
        refine wpG_done (by kernel_rfl) ?_ _
        go_wp2
        go_roundw
        case rel =>
          have HO3 : wo.ownsRow w.heap.size 34 2 v' (k + 1) (flat ((ts.take (k + 1)).map cutT)) := by
            rw [fewT_snoc ts k (by omega), flat_append, HCT.out]
            exact HO2.out
          first | exact ⟨k + 1, by omega, by omega, by go_num, HO3, HB2.out⟩ | ((repeat apply Exists.intro); exact ⟨⟨k + 1, by omega, by omega, by go_num, HO3, HB2.out⟩, rfl⟩)
        case measure => simp [intOf]; omega
      · obtain rfl : k = 70 := by omega
        have HT : Hid (TR wr u3 (fewT ts).length (fewT ts)) := by
          have e : (fewT ts).length = 70 := by unfold fewT; rw [List.length_map, List.length_take]; omega
          refine ⟨?_, fun t ht => ?_⟩
          · rw [e]; exact own_rd HO.out
          · obtain ⟨x, hx, rfl⟩ := List.mem_map.1 ht
            exact (cutT_bs (HR.out.vals x (List.mem_of_mem_take hx))).below HB.out
        obtain ⟨a', c', ev, _, _⟩ := HT.out.shape
        subst ev
        go_wp2
        go_ret
        exact ⟨a', c', rfl, HT.out, HB.out⟩
    · obtain rfl : n = k := by omega
      have HT : Hid (TR wr u3 (fewT ts).length (fewT ts)) := by
        have e : (fewT ts).length = n := by unfold fewT; rw [List.length_map, List.length_take]; omega
        have e2 : (ts.take n).map cutT = fewT ts := by unfold fewT; rw [List.take_of_length_le (by omega), List.take_of_length_le (by omega)]
        refine ⟨?_, fun t ht => ?_⟩
        · rw [e, ← e2]; exact own_rd HO.out
        · obtain ⟨x, hx, rfl⟩ := List.mem_map.1 ht
          exact (cutT_bs (HR.out.vals x (List.mem_of_mem_take hx))).below HB.out
      obtain ⟨a', c', ev, _, _⟩ := HT.out.shape
      subst ev
      go_wp2
      go_ret
      exact ⟨a', c', rfl, HT.out, HB.out⟩
end Go.Proofs.Ytlpafphlecajhaa
