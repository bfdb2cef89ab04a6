/-
  The laws' example of buckets.
-/
import Derived.Test.YtblnglkjpnpmbaaBkA
import Derived.Deep.DeepCutAuto
namespace Go.Proofs.Ytblnglkjpnpmbaa.Bk
open Go.RowKit
set_option linter.unusedVariables false
set_option linter.unusedSimpArgs false

theorem ex_full : full ⟨1, 2⟩ = ⟨2, 0⟩ := by simp [full, okR]
theorem ex_t1 : takB ⟨1, 2⟩ ⟨2, 0⟩ 0 = (⟨1, 0⟩, true) := by simp [takB, okAt, okR, okB, top, tok]
theorem ex_t2 : takB ⟨1, 2⟩ ⟨1, 0⟩ 0 = (⟨0, 0⟩, true) := by simp [takB, okAt, okR, okB, top, tok]
theorem ex_t3 : takB ⟨1, 2⟩ ⟨0, 0⟩ 0 = (⟨0, 0⟩, false) := by simp [takB, okAt, okR, okB, top, tok]
theorem ex_t4 : takB ⟨1, 2⟩ ⟨0, 0⟩ 1 = (⟨0, 1⟩, true) := by simp [takB, okAt, okR, okB, top, tok]
set_option maxHeartbeats 2000000 in
theorem awake_any (w : World) :
    Calls Try.prog 17 #[] w fun e w' => e = .returned (.bool true) ∧ Below w.heap.size w w' := by
  have HB1 : Hid (Below w.heap.size w (w.alloc (.cells #[.int .i64 1, .int .i64 2] 23))) := (Below.refl _ _).alloc (Nat.le_refl _) _
  have HR1 : Hid ((w.alloc (.cells #[.int .i64 1, .int .i64 2] 23)).heap[w.heap.size]? = some (.cells #[.int .i64 1, .int .i64 2] 23 (0, 0))) := heap_alloc_last _ _
  have T1 := Lib.hid (fun w => take_any 1 2 2 0 0 w)
  have T2 := Lib.hid (fun w => take_any 1 2 1 0 0 w)
  have T3 := Lib.hid (fun w => take_any 1 2 0 0 0 w)
  have T4 := Lib.hid (fun w => take_any 1 2 0 0 1 w)
  have F1 := Lib.hid (fun w => full_any 1 2 w)
  rw [ex_t1] at T1
  rw [ex_t2] at T2
  rw [ex_t3] at T3
  rw [ex_t4] at T4
  rw [ex_full] at F1
  go_enter Try.func17, Try.ntmps17
  go_upto_region 2 with fail
  generalize (w.alloc (.cells #[.int .i64 1, .int .i64 2] 23)) = w1 at HB1 HR1 ⊢
  go_cut [2, 3] (fun s2 s3 wx => ∃ g, s2 = .pointer (some ⟨g, 0, none⟩) ∧ s3 = .bool true ∧ Hid (wx.heap[g]? = some (.cells #[.int .i64 1, .int .i64 0] 25 (0, 0))) ∧ Hid (Gr w1 wx))
  case first =>
    have HC : Hid (Gr w1 w1.drew) := Gr.drew w1
    refine wp_region_G 10 (Below (w1.heap.size)) (by kernel_rfl) ?_
    generalize w1.drew = wc at HC ⊢
    -- 0: slot 12
    refine wpG_take (preBelow (w1.heap.size)) (i := 0) (v := ?_) (by kernel_rfl) (some 12) (by kernel_rfl) rfl (by kernel_rfl) (by kernel_rfl) (by kernel_rfl) (fun _ _ _ h => h) (by rfl) (fun w' hw' => ?_) rfl ?_
    rotate_left
    · try have g0 := (cells2 (heap_below HR1.out (Below.trans HC.out hw'))).1
      try have g1 := (cells2 (heap_below HR1.out (Below.trans HC.out hw'))).2
      go_simp
      with_reducible rfl
    simp only [Act.put, List.setIfInBounds_toArray, List.set_cons_zero, List.set_cons_succ]
    -- 1: slot 13
    refine wpG_take (preBelow (w1.heap.size)) (i := 1) (v := ?_) (by kernel_rfl) (some 13) (by kernel_rfl) rfl (by kernel_rfl) (by kernel_rfl) (by kernel_rfl) (fun _ _ _ h => h) (by rfl) (fun w' hw' => ?_) rfl ?_
    rotate_left
    · try have g0 := (cells2 (heap_below HR1.out (Below.trans HC.out hw'))).1
      try have g1 := (cells2 (heap_below HR1.out (Below.trans HC.out hw'))).2
      go_simp
      with_reducible rfl
    simp only [Act.put, List.setIfInBounds_toArray, List.set_cons_zero, List.set_cons_succ]
    refine wpG_two (i := 2) (j := 7) rfl rfl (by kernel_rfl) (by rfl) (by rfl) ?_ ?_
    · go_simp
      refine (F1.out wc).mono ?_
      rintro e wn ⟨rfl, hb⟩
      refine ⟨hb.mono (Below.size HC.out), ?_⟩
      try (have HK' := Lib.hid (heap_below HK.out hb); clear HK; have HK := HK'; clear HK')
      have HC' : Hid (Gr w1 wn) := Below.trans HC.out (Below.mono hb (Below.size HC.out))
      clear HC hb
      have HC := HC'
      clear HC'
      obtain ⟨wc, hwc⟩ : ∃ x, x = wn := ⟨_, rfl⟩
      subst hwc
      try simp only [Act.put, List.setIfInBounds_toArray, List.set_cons_zero, List.set_cons_succ]
      refine wpG_two (i := 3) (j := 7) rfl rfl (by kernel_rfl) (by rfl) (by rfl) ?_ ?_
      · go_simp
        refine (T1.out wc).mono ?_
        rintro e wn ⟨rfl, hb⟩
        refine ⟨hb.mono (Below.size HC.out), ?_⟩
        try (have HK' := Lib.hid (heap_below HK.out hb); clear HK; have HK := HK'; clear HK')
        have HC' : Hid (Gr w1 wn) := Below.trans HC.out (Below.mono hb (Below.size HC.out))
        clear HC hb
        have HC := HC'
        clear HC'
        obtain ⟨wc, hwc⟩ : ∃ x, x = wn := ⟨_, rfl⟩
        subst hwc
        try simp only [Act.put, List.setIfInBounds_toArray, List.set_cons_zero, List.set_cons_succ]
        -- 4: slot 11
        refine wpG_take (preBelow (w1.heap.size)) (i := 4) (v := ?_) (by kernel_rfl) (some 11) (by kernel_rfl) rfl (by kernel_rfl) (by kernel_rfl) (by kernel_rfl) (fun _ _ _ h => h) (by rfl) (fun w' hw' => ?_) rfl ?_
        rotate_left
        · try have g0 := (cells2 (heap_below HR1.out (Below.trans HC.out hw'))).1
          try have g1 := (cells2 (heap_below HR1.out (Below.trans HC.out hw'))).2
          go_simp
          with_reducible rfl
        simp only [Act.put, List.setIfInBounds_toArray, List.set_cons_zero, List.set_cons_succ]
        -- 5: slot 16
        refine wpG_take (preBelow (w1.heap.size)) (i := 5) (v := ?_) (by kernel_rfl) (some 16) (by kernel_rfl) rfl (by kernel_rfl) (by kernel_rfl) (by kernel_rfl) (fun _ _ _ h => h) (by rfl) (fun w' hw' => ?_) rfl ?_
        rotate_left
        · try have g0 := (cells2 (heap_below HR1.out (Below.trans HC.out hw'))).1
          try have g1 := (cells2 (heap_below HR1.out (Below.trans HC.out hw'))).2
          go_simp
          with_reducible rfl
        simp only [Act.put, List.setIfInBounds_toArray, List.set_cons_zero, List.set_cons_succ]
        -- 6: slot 17
        refine wpG_take (preBelow (w1.heap.size)) (i := 6) (v := ?_) (by kernel_rfl) (some 17) (by kernel_rfl) rfl (by kernel_rfl) (by kernel_rfl) (by kernel_rfl) (fun _ _ _ h => h) (by rfl) (fun w' hw' => ?_) rfl ?_
        rotate_left
        · try have g0 := (cells2 (heap_below HR1.out (Below.trans HC.out hw'))).1
          try have g1 := (cells2 (heap_below HR1.out (Below.trans HC.out hw'))).2
          go_simp
          with_reducible rfl
        simp only [Act.put, List.setIfInBounds_toArray, List.set_cons_zero, List.set_cons_succ]
        refine wpG_one (i := 7) rfl (by kernel_rfl) (by rfl) ?_
        go_simp
        have hb : Below wc.heap.size wc (wc.alloc (.cells #[.int .i64 0, .int .i64 0] 25)) := (Below.refl _ _).alloc (Nat.le_refl _) _
        refine ⟨hb.mono (Below.size HC.out), ?_⟩
        have hk : (wc.alloc (.cells #[.int .i64 0, .int .i64 0] 25)).heap[wc.heap.size]? = some (.cells #[.int .i64 0, .int .i64 0] 25 (0, 0)) := heap_alloc_last _ _
        have hgb : w1.heap.size ≤ wc.heap.size := Below.size HC.out
        generalize wc.alloc (.cells #[.int .i64 0, .int .i64 0] 25) = wn at hb hk ⊢
        have HC' : Hid (Gr w1 wn) := Below.trans HC.out (Below.mono hb (Below.size HC.out))
        clear HC
        have HC := HC'
        clear HC'
        obtain ⟨gk, hgk⟩ : ∃ g, g = wc.heap.size := ⟨_, rfl⟩
        rw [← hgk] at hk hgb ⊢
        have HK := Lib.hid hk
        have HGB := Lib.hid hgb
        clear hgk hb hk hgb
        obtain ⟨wc, hwc⟩ : ∃ x, x = wn := ⟨_, rfl⟩
        subst hwc
        try simp only [Act.put, List.setIfInBounds_toArray, List.set_cons_zero, List.set_cons_succ]
        refine wpG_one (i := 8) rfl (by kernel_rfl) (by rfl) ?_
        refine wp_store_whole (none) 25 (.tmp 2) (.tmp 16) rfl gk [.int .i64 1, .int .i64 0] rfl rfl 25 [.int .i64 0, .int .i64 0] HK.out (by kernel_rfl) rfl ?o1 rfl ?_
        case o1 => intro u hu; simp only [List.mem_cons, List.not_mem_nil, or_false] at hu; rcases hu with rfl | rfl <;> rfl
        intro wn h5 ho
        refine ⟨ho.below _ _ HGB.out (Below.refl _ _), ?_⟩
        have HE5 : Hid (wn.heap[gk]? = some (.cells #[.int .i64 1, .int .i64 0] 25 (0, 0))) := h5
        have HE6 : Hid (Gr w1 wn) := ho.below _ _ HGB.out HC.out
        clear h5 ho
        try simp only [Act.put, List.setIfInBounds_toArray, List.set_cons_zero, List.set_cons_succ]
        -- 9: slot 3
        refine wpG_take (preBelow (w1.heap.size)) (i := 9) (v := ?_) (by kernel_rfl) (some 3) (by kernel_rfl) rfl (by kernel_rfl) (by kernel_rfl) (by kernel_rfl) (fun _ _ _ h => h) (by rfl) (fun w' hw' => ?_) rfl ?_
        rotate_left
        · try have g0 := (cells2 (heap_below HR1.out (Below.trans HC.out hw'))).1
          try have g1 := (cells2 (heap_below HR1.out (Below.trans HC.out hw'))).2
          go_simp
          with_reducible rfl
        simp only [Act.put, List.setIfInBounds_toArray, List.set_cons_zero, List.set_cons_succ]
        refine wpG_done (by kernel_rfl) ?_ _
        go_wp2_with fail
        go_meet
        exact ⟨gk, rfl, rfl, HE5, HE6⟩
      · go_simp
        have hb : Below wc.heap.size wc (wc.alloc (.cells #[.int .i64 0, .int .i64 0] 25)) := (Below.refl _ _).alloc (Nat.le_refl _) _
        refine ⟨hb.mono (Below.size HC.out), ?_⟩
        have hk : (wc.alloc (.cells #[.int .i64 0, .int .i64 0] 25)).heap[wc.heap.size]? = some (.cells #[.int .i64 0, .int .i64 0] 25 (0, 0)) := heap_alloc_last _ _
        have hgb : w1.heap.size ≤ wc.heap.size := Below.size HC.out
        generalize wc.alloc (.cells #[.int .i64 0, .int .i64 0] 25) = wn at hb hk ⊢
        have HC' : Hid (Gr w1 wn) := Below.trans HC.out (Below.mono hb (Below.size HC.out))
        clear HC
        have HC := HC'
        clear HC'
        obtain ⟨gk, hgk⟩ : ∃ g, g = wc.heap.size := ⟨_, rfl⟩
        rw [← hgk] at hk hgb ⊢
        have HK := Lib.hid hk
        have HGB := Lib.hid hgb
        clear hgk hb hk hgb
        obtain ⟨wc, hwc⟩ : ∃ x, x = wn := ⟨_, rfl⟩
        subst hwc
        try simp only [Act.put, List.setIfInBounds_toArray, List.set_cons_zero, List.set_cons_succ]
        refine wpG_one (i := 3) rfl (by kernel_rfl) (by rfl) ?_
        go_simp
        refine (T1.out wc).mono ?_
        rintro e wn ⟨rfl, hb⟩
        refine ⟨hb.mono (Below.size HC.out), ?_⟩
        try (have HK' := Lib.hid (heap_below HK.out hb); clear HK; have HK := HK'; clear HK')
        have HC' : Hid (Gr w1 wn) := Below.trans HC.out (Below.mono hb (Below.size HC.out))
        clear HC hb
        have HC := HC'
        clear HC'
        obtain ⟨wc, hwc⟩ : ∃ x, x = wn := ⟨_, rfl⟩
        subst hwc
        try simp only [Act.put, List.setIfInBounds_toArray, List.set_cons_zero, List.set_cons_succ]
        -- 4: slot 11
        refine wpG_take (preBelow (w1.heap.size)) (i := 4) (v := ?_) (by kernel_rfl) (some 11) (by kernel_rfl) rfl (by kernel_rfl) (by kernel_rfl) (by kernel_rfl) (fun _ _ _ h => h) (by rfl) (fun w' hw' => ?_) rfl ?_
        rotate_left
        · try have g0 := (cells2 (heap_below HR1.out (Below.trans HC.out hw'))).1
          try have g1 := (cells2 (heap_below HR1.out (Below.trans HC.out hw'))).2
          go_simp
          with_reducible rfl
        simp only [Act.put, List.setIfInBounds_toArray, List.set_cons_zero, List.set_cons_succ]
        -- 5: slot 16
        refine wpG_take (preBelow (w1.heap.size)) (i := 5) (v := ?_) (by kernel_rfl) (some 16) (by kernel_rfl) rfl (by kernel_rfl) (by kernel_rfl) (by kernel_rfl) (fun _ _ _ h => h) (by rfl) (fun w' hw' => ?_) rfl ?_
        rotate_left
        · try have g0 := (cells2 (heap_below HR1.out (Below.trans HC.out hw'))).1
          try have g1 := (cells2 (heap_below HR1.out (Below.trans HC.out hw'))).2
          go_simp
          with_reducible rfl
        simp only [Act.put, List.setIfInBounds_toArray, List.set_cons_zero, List.set_cons_succ]
        -- 6: slot 17
        refine wpG_take (preBelow (w1.heap.size)) (i := 6) (v := ?_) (by kernel_rfl) (some 17) (by kernel_rfl) rfl (by kernel_rfl) (by kernel_rfl) (by kernel_rfl) (fun _ _ _ h => h) (by rfl) (fun w' hw' => ?_) rfl ?_
        rotate_left
        · try have g0 := (cells2 (heap_below HR1.out (Below.trans HC.out hw'))).1
          try have g1 := (cells2 (heap_below HR1.out (Below.trans HC.out hw'))).2
          go_simp
          with_reducible rfl
        simp only [Act.put, List.setIfInBounds_toArray, List.set_cons_zero, List.set_cons_succ]
        refine wpG_one (i := 8) rfl (by kernel_rfl) (by rfl) ?_
        refine wp_store_whole (none) 25 (.tmp 2) (.tmp 16) rfl gk [.int .i64 1, .int .i64 0] rfl rfl 25 [.int .i64 0, .int .i64 0] HK.out (by kernel_rfl) rfl ?o1 rfl ?_
        case o1 => intro u hu; simp only [List.mem_cons, List.not_mem_nil, or_false] at hu; rcases hu with rfl | rfl <;> rfl
        intro wn h5 ho
        refine ⟨ho.below _ _ HGB.out (Below.refl _ _), ?_⟩
        have HE5 : Hid (wn.heap[gk]? = some (.cells #[.int .i64 1, .int .i64 0] 25 (0, 0))) := h5
        have HE6 : Hid (Gr w1 wn) := ho.below _ _ HGB.out HC.out
        clear h5 ho
        try simp only [Act.put, List.setIfInBounds_toArray, List.set_cons_zero, List.set_cons_succ]
        -- 9: slot 3
        refine wpG_take (preBelow (w1.heap.size)) (i := 9) (v := ?_) (by kernel_rfl) (some 3) (by kernel_rfl) rfl (by kernel_rfl) (by kernel_rfl) (by kernel_rfl) (fun _ _ _ h => h) (by rfl) (fun w' hw' => ?_) rfl ?_
        rotate_left
        · try have g0 := (cells2 (heap_below HR1.out (Below.trans HC.out hw'))).1
          try have g1 := (cells2 (heap_below HR1.out (Below.trans HC.out hw'))).2
          go_simp
          with_reducible rfl
        simp only [Act.put, List.setIfInBounds_toArray, List.set_cons_zero, List.set_cons_succ]
        refine wpG_done (by kernel_rfl) ?_ _
        go_wp2_with fail
        go_meet
        exact ⟨gk, rfl, rfl, HE5, HE6⟩
    · go_simp
      have hb : Below wc.heap.size wc (wc.alloc (.cells #[.int .i64 0, .int .i64 0] 25)) := (Below.refl _ _).alloc (Nat.le_refl _) _
      refine ⟨hb.mono (Below.size HC.out), ?_⟩
      have hk : (wc.alloc (.cells #[.int .i64 0, .int .i64 0] 25)).heap[wc.heap.size]? = some (.cells #[.int .i64 0, .int .i64 0] 25 (0, 0)) := heap_alloc_last _ _
      have hgb : w1.heap.size ≤ wc.heap.size := Below.size HC.out
      generalize wc.alloc (.cells #[.int .i64 0, .int .i64 0] 25) = wn at hb hk ⊢
      have HC' : Hid (Gr w1 wn) := Below.trans HC.out (Below.mono hb (Below.size HC.out))
      clear HC
      have HC := HC'
      clear HC'
      obtain ⟨gk, hgk⟩ : ∃ g, g = wc.heap.size := ⟨_, rfl⟩
      rw [← hgk] at hk hgb ⊢
      have HK := Lib.hid hk
      have HGB := Lib.hid hgb
      clear hgk hb hk hgb
      obtain ⟨wc, hwc⟩ : ∃ x, x = wn := ⟨_, rfl⟩
      subst hwc
      try simp only [Act.put, List.setIfInBounds_toArray, List.set_cons_zero, List.set_cons_succ]
      refine wpG_one (i := 2) rfl (by kernel_rfl) (by rfl) ?_
      go_simp
      refine (F1.out wc).mono ?_
      rintro e wn ⟨rfl, hb⟩
      refine ⟨hb.mono (Below.size HC.out), ?_⟩
      try (have HK' := Lib.hid (heap_below HK.out hb); clear HK; have HK := HK'; clear HK')
      have HC' : Hid (Gr w1 wn) := Below.trans HC.out (Below.mono hb (Below.size HC.out))
      clear HC hb
      have HC := HC'
      clear HC'
      obtain ⟨wc, hwc⟩ : ∃ x, x = wn := ⟨_, rfl⟩
      subst hwc
      try simp only [Act.put, List.setIfInBounds_toArray, List.set_cons_zero, List.set_cons_succ]
      refine wpG_one (i := 3) rfl (by kernel_rfl) (by rfl) ?_
      go_simp
      refine (T1.out wc).mono ?_
      rintro e wn ⟨rfl, hb⟩
      refine ⟨hb.mono (Below.size HC.out), ?_⟩
      try (have HK' := Lib.hid (heap_below HK.out hb); clear HK; have HK := HK'; clear HK')
      have HC' : Hid (Gr w1 wn) := Below.trans HC.out (Below.mono hb (Below.size HC.out))
      clear HC hb
      have HC := HC'
      clear HC'
      obtain ⟨wc, hwc⟩ : ∃ x, x = wn := ⟨_, rfl⟩
      subst hwc
      try simp only [Act.put, List.setIfInBounds_toArray, List.set_cons_zero, List.set_cons_succ]
      -- 4: slot 11
      refine wpG_take (preBelow (w1.heap.size)) (i := 4) (v := ?_) (by kernel_rfl) (some 11) (by kernel_rfl) rfl (by kernel_rfl) (by kernel_rfl) (by kernel_rfl) (fun _ _ _ h => h) (by rfl) (fun w' hw' => ?_) rfl ?_
      rotate_left
      · try have g0 := (cells2 (heap_below HR1.out (Below.trans HC.out hw'))).1
        try have g1 := (cells2 (heap_below HR1.out (Below.trans HC.out hw'))).2
        go_simp
        with_reducible rfl
      simp only [Act.put, List.setIfInBounds_toArray, List.set_cons_zero, List.set_cons_succ]
      -- 5: slot 16
      refine wpG_take (preBelow (w1.heap.size)) (i := 5) (v := ?_) (by kernel_rfl) (some 16) (by kernel_rfl) rfl (by kernel_rfl) (by kernel_rfl) (by kernel_rfl) (fun _ _ _ h => h) (by rfl) (fun w' hw' => ?_) rfl ?_
      rotate_left
      · try have g0 := (cells2 (heap_below HR1.out (Below.trans HC.out hw'))).1
        try have g1 := (cells2 (heap_below HR1.out (Below.trans HC.out hw'))).2
        go_simp
        with_reducible rfl
      simp only [Act.put, List.setIfInBounds_toArray, List.set_cons_zero, List.set_cons_succ]
      -- 6: slot 17
      refine wpG_take (preBelow (w1.heap.size)) (i := 6) (v := ?_) (by kernel_rfl) (some 17) (by kernel_rfl) rfl (by kernel_rfl) (by kernel_rfl) (by kernel_rfl) (fun _ _ _ h => h) (by rfl) (fun w' hw' => ?_) rfl ?_
      rotate_left
      · try have g0 := (cells2 (heap_below HR1.out (Below.trans HC.out hw'))).1
        try have g1 := (cells2 (heap_below HR1.out (Below.trans HC.out hw'))).2
        go_simp
        with_reducible rfl
      simp only [Act.put, List.setIfInBounds_toArray, List.set_cons_zero, List.set_cons_succ]
      refine wpG_one (i := 8) rfl (by kernel_rfl) (by rfl) ?_
      refine wp_store_whole (none) 25 (.tmp 2) (.tmp 16) rfl gk [.int .i64 1, .int .i64 0] rfl rfl 25 [.int .i64 0, .int .i64 0] HK.out (by kernel_rfl) rfl ?o1 rfl ?_
      case o1 => intro u hu; simp only [List.mem_cons, List.not_mem_nil, or_false] at hu; rcases hu with rfl | rfl <;> rfl
      intro wn h5 ho
      refine ⟨ho.below _ _ HGB.out (Below.refl _ _), ?_⟩
      have HE5 : Hid (wn.heap[gk]? = some (.cells #[.int .i64 1, .int .i64 0] 25 (0, 0))) := h5
      have HE6 : Hid (Gr w1 wn) := ho.below _ _ HGB.out HC.out
      clear h5 ho
      try simp only [Act.put, List.setIfInBounds_toArray, List.set_cons_zero, List.set_cons_succ]
      -- 9: slot 3
      refine wpG_take (preBelow (w1.heap.size)) (i := 9) (v := ?_) (by kernel_rfl) (some 3) (by kernel_rfl) rfl (by kernel_rfl) (by kernel_rfl) (by kernel_rfl) (fun _ _ _ h => h) (by rfl) (fun w' hw' => ?_) rfl ?_
      rotate_left
      · try have g0 := (cells2 (heap_below HR1.out (Below.trans HC.out hw'))).1
        try have g1 := (cells2 (heap_below HR1.out (Below.trans HC.out hw'))).2
        go_simp
        with_reducible rfl
      simp only [Act.put, List.setIfInBounds_toArray, List.set_cons_zero, List.set_cons_succ]
      refine wpG_done (by kernel_rfl) ?_ _
      go_wp2_with fail
      go_meet
      exact ⟨gk, rfl, rfl, HE5, HE6⟩
  case rest =>
    obtain ⟨g, hs2, hs3, hg, hb⟩ := hcut
    subst hs2 hs3
    obtain ⟨k0, k1⟩ := cells2 (heap_below HR1.out hb.out)
    obtain ⟨m0, m1⟩ := cells2 hg.out
    have HR2 := Lib.hid (heap_below HR1.out hb.out)
    have HB2 := Lib.hid (HB1.out.trans (Below.mono hb.out HB1.out.size))
    clear hg hb HR1 HB1 T1 F1
    go_wp2_with fail
    refine (T2.out _).mono ?_
    rintro e w3 ⟨rfl, hb⟩
    have HB3 : Hid (Below w.heap.size w (w3.alloc (.cells #[.int .i64 0, .int .i64 0] 25))) := (HB2.out.trans (hb.mono HB2.out.size)).alloc (Nat.le_trans HB2.out.size hb.size) _
    have HR3 : Hid ((w3.alloc (.cells #[.int .i64 0, .int .i64 0] 25)).heap[w.heap.size]? = some (.cells #[.int .i64 1, .int .i64 2] 23 (0, 0))) := heap_below (heap_below HR2.out hb) ((Below.refl _ _).alloc (Nat.le_refl _) _)
    have HG3 : Hid ((w3.alloc (.cells #[.int .i64 0, .int .i64 0] 25)).heap[w3.heap.size]? = some (.cells #[.int .i64 0, .int .i64 0] 25 (0, 0))) := heap_alloc_last _ _
    clear k0 k1 m0 m1 hb HB2 HR2
    obtain ⟨k0, k1⟩ := cells2 HR3.out
    obtain ⟨m0, m1⟩ := cells2 HG3.out
    go_wp2_with fail
    generalize w3.alloc (.cells #[.int .i64 0, .int .i64 0] 25) = w3' at HB3 HR3 HG3 ⊢
    refine (T3.out _).mono ?_
    rintro e w4 ⟨rfl, hb⟩
    have HB4 : Hid (Below w.heap.size w (w4.alloc (.cells #[.int .i64 0, .int .i64 0] 25))) := (HB3.out.trans (hb.mono HB3.out.size)).alloc (Nat.le_trans HB3.out.size hb.size) _
    have HR4 : Hid ((w4.alloc (.cells #[.int .i64 0, .int .i64 0] 25)).heap[w.heap.size]? = some (.cells #[.int .i64 1, .int .i64 2] 23 (0, 0))) := heap_below (heap_below HR3.out hb) ((Below.refl _ _).alloc (Nat.le_refl _) _)
    have HG4 : Hid ((w4.alloc (.cells #[.int .i64 0, .int .i64 0] 25)).heap[w4.heap.size]? = some (.cells #[.int .i64 0, .int .i64 0] 25 (0, 0))) := heap_alloc_last _ _
    clear k0 k1 m0 m1 hb HB3 HR3 HG3
    obtain ⟨k0, k1⟩ := cells2 HR4.out
    obtain ⟨m0, m1⟩ := cells2 HG4.out
    go_wp2_with fail
    generalize w4.alloc (.cells #[.int .i64 0, .int .i64 0] 25) = w4' at HB4 HR4 HG4 ⊢
    refine (T4.out _).mono ?_
    rintro e w5 ⟨rfl, hb⟩
    have HB5 : Hid (Below w.heap.size w (w5.alloc (.cells #[.int .i64 0, .int .i64 1] 25))) := (HB4.out.trans (hb.mono HB4.out.size)).alloc (Nat.le_trans HB4.out.size hb.size) _
    clear k0 k1 m0 m1 hb HB4 HR4 HG4
    go_wp2
    go_ret
    exact ⟨rfl, HB5.out⟩
end Go.Proofs.Ytblnglkjpnpmbaa.Bk
