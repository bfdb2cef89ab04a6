/-
  New; maps.Clone; Fork.
-/
import Derived.Test.YtblnglkjpnpmbaaBkQ
import Derived.Shelf.SlMaps.Clone
namespace Go.Proofs.Ytblnglkjpnpmbaa.Bk
open Go.RowKit
set_option linter.unusedVariables false
set_option linter.unusedSimpArgs false

/-- A limiter as New makes it. -/
def born (all own : Rt) : Li := ⟨all, own, ⟨all.m, 0⟩, [], 0⟩
theorem born_ok {all own : Rt} (h1 : okR all) (h2 : okR own) : OkL (born all own) :=
  ⟨h1, h2, ⟨Int.le_trans (by decide) h1.2.2.1, Int.le_refl _, Int.le_refl _, (show (0 : Int) ≤ top by decide)⟩, Int.le_refl _, (fun p hp => by cases hp), List.nodup_nil, Int.le_refl _, (show (0 : Int) ≤ top by decide)⟩
/-- The number that New tells. -/
def newE (all own : Rt) : Int := if okR all ∧ okR own then 0 else 100
theorem new_no (ae am oe om : Int) (h : ¬ (okR ⟨ae, am⟩ ∧ okR ⟨oe, om⟩)) (w : World) :
    Calls Try.prog 20 #[.agg #[.int .i64 ae, .int .i64 am], .agg #[.int .i64 oe, .int .i64 om]] w fun e w' => e = .returned (.tuple #[.pointer none, .int .i64 100]) ∧ Below w.heap.size w w' := by
  have HB : Hid (Below w.heap.size w ((w.alloc (.cells #[.int .i64 ae, .int .i64 am] 23)).alloc (.cells #[.int .i64 oe, .int .i64 om] 23))) := boxed_two _ _ _
  have HG1 : Hid (((w.alloc (.cells #[.int .i64 ae, .int .i64 am] 23)).alloc (.cells #[.int .i64 oe, .int .i64 om] 23)).heap[w.heap.size + 1]? = some (.cells #[.int .i64 oe, .int .i64 om] 23 (0, 0))) := boxed_1 _ _ _
  have HC1 := Lib.hid (fun w => check_any ae am w)
  have HC2 := Lib.hid (fun w => check_any oe om w)
  have hc : ckE ⟨ae, am⟩ = 100 ∨ (ckE ⟨ae, am⟩ = 0 ∧ ckE ⟨oe, om⟩ = 100) := by
    by_cases h1 : okR ⟨ae, am⟩
    · exact .inr ⟨if_pos h1, if_neg fun h2 => h ⟨h1, h2⟩⟩
    · exact .inl (if_neg h1)
  clear h
  rcases hc with h1 | ⟨h1, h2⟩
  · rw [h1] at HC1
    clear h1 HC2
    go_enter Try.func20, Try.ntmps20
    go_wp2_with fail
    generalize ((w.alloc (.cells #[.int .i64 ae, .int .i64 am] 23)).alloc (.cells #[.int .i64 oe, .int .i64 om] 23)) = w1 at HB HG1 ⊢
    refine (HC1.out _).mono ?_
    rintro e w2 ⟨rfl, hb⟩
    have HB2 := Lib.hid (HB.out.trans (hb.mono HB.out.size))
    clear hb
    go_wp2
    go_ret2
    exact ⟨rfl, HB2.out⟩
  · rw [h1] at HC1
    rw [h2] at HC2
    clear h1 h2
    go_enter Try.func20, Try.ntmps20
    go_wp2_with fail
    generalize ((w.alloc (.cells #[.int .i64 ae, .int .i64 am] 23)).alloc (.cells #[.int .i64 oe, .int .i64 om] 23)) = w1 at HB HG1 ⊢
    refine (HC1.out _).mono ?_
    rintro e w2 ⟨rfl, hb⟩
    have HB2 := Lib.hid (HB.out.trans (hb.mono HB.out.size))
    obtain ⟨k0, k1⟩ := cells2 (heap_below HG1.out hb)
    clear hb
    go_wp2_with fail
    refine (HC2.out _).mono ?_
    rintro e w3 ⟨rfl, hb⟩
    have HB3 := Lib.hid (HB2.out.trans (hb.mono HB2.out.size))
    clear hb
    go_wp2
    go_ret2
    exact ⟨rfl, HB3.out⟩
set_option maxHeartbeats 2000000 in
theorem new_yes (ae am oe om : Int) (ha : okR ⟨ae, am⟩) (ho : okR ⟨oe, om⟩) (w : World) :
    Calls Try.prog 20 #[.agg #[.int .i64 ae, .int .i64 am], .agg #[.int .i64 oe, .int .i64 om]] w fun e w' => ∃ g bm, e = .returned (.tuple #[.pointer (some ⟨g, 0, none⟩), .int .i64 0]) ∧ w.heap.size ≤ g ∧ w.heap.size ≤ bm ∧ LimAt w' g bm (born ⟨ae, am⟩ ⟨oe, om⟩) ∧ Below w.heap.size w w' := by
  have HB : Hid (Below w.heap.size w ((w.alloc (.cells #[.int .i64 ae, .int .i64 am] 23)).alloc (.cells #[.int .i64 oe, .int .i64 om] 23))) := boxed_two _ _ _
  have HG0 : Hid (((w.alloc (.cells #[.int .i64 ae, .int .i64 am] 23)).alloc (.cells #[.int .i64 oe, .int .i64 om] 23)).heap[w.heap.size]? = some (.cells #[.int .i64 ae, .int .i64 am] 23 (0, 0))) := boxed_0 _ _ _
  have HG1 : Hid (((w.alloc (.cells #[.int .i64 ae, .int .i64 am] 23)).alloc (.cells #[.int .i64 oe, .int .i64 om] 23)).heap[w.heap.size + 1]? = some (.cells #[.int .i64 oe, .int .i64 om] 23 (0, 0))) := boxed_1 _ _ _
  have HC1 := Lib.hid (fun w => check_any ae am w)
  have HC2 := Lib.hid (fun w => check_any oe om w)
  have HF := Lib.hid (fun w => full_any ae am w)
  rw [show ckE ⟨ae, am⟩ = 0 from if_pos ha] at HC1
  rw [show ckE ⟨oe, om⟩ = 0 from if_pos ho] at HC2
  rw [show full ⟨ae, am⟩ = ⟨am, 0⟩ from if_pos ha] at HF
  have HOK := Lib.hid (born_ok ha ho)
  clear ha ho
  go_enter Try.func20, Try.ntmps20
  go_wp2_with fail
  generalize ((w.alloc (.cells #[.int .i64 ae, .int .i64 am] 23)).alloc (.cells #[.int .i64 oe, .int .i64 om] 23)) = w1 at HB HG0 HG1 ⊢
  refine (HC1.out _).mono ?_
  rintro e w2 ⟨rfl, hb⟩
  have HB2 := Lib.hid (HB.out.trans (hb.mono HB.out.size))
  have HG02 := Lib.hid (heap_below HG0.out hb)
  have HG12 := Lib.hid (heap_below HG1.out hb)
  obtain ⟨k0, k1⟩ := cells2 HG12.out
  clear hb HB HG0 HG1
  go_wp2_with fail
  refine (HC2.out _).mono ?_
  rintro e w3 ⟨rfl, hb⟩
  have HB3 := Lib.hid (HB2.out.trans (hb.mono HB2.out.size))
  have HG03 := Lib.hid (heap_below HG02.out hb)
  have HG13 := Lib.hid (heap_below HG12.out hb)
  clear hb HB2 HG02 HG12 k0 k1
  have hmm := @run_makeMap Try.prog
  go_upto_region 3 with fail
  have HC : Hid (Gr w3 w3.drew) := Gr.drew w3
  refine wp_region_G 9 Gr (by kernel_rfl) ?_
  generalize w3.drew = wc at HC ⊢
  -- 0: slot 14
  refine wpG_take preGr (i := 0) (v := ?_) (by kernel_rfl) (some 14) (by kernel_rfl) rfl (by kernel_rfl) (by kernel_rfl) (by kernel_rfl) (fun _ _ _ h => h) (by rfl) (fun w' hw' => ?_) rfl ?_
  rotate_left
  · try (have hq2 := cells2 (heap_below HG03.out (Gr.trans HC.out hw')); obtain ⟨m0, m1⟩ := hq2)
    try (have hq2 := cells2 (heap_below HG13.out (Gr.trans HC.out hw')); obtain ⟨n0, n1⟩ := hq2)
    go_simp
    with_reducible rfl
  simp only [Act.put, List.setIfInBounds_toArray, List.set_cons_zero, List.set_cons_succ]
  -- 1: slot 15
  refine wpG_take preGr (i := 1) (v := ?_) (by kernel_rfl) (some 15) (by kernel_rfl) rfl (by kernel_rfl) (by kernel_rfl) (by kernel_rfl) (fun _ _ _ h => h) (by rfl) (fun w' hw' => ?_) rfl ?_
  rotate_left
  · try (have hq2 := cells2 (heap_below HG03.out (Gr.trans HC.out hw')); obtain ⟨m0, m1⟩ := hq2)
    try (have hq2 := cells2 (heap_below HG13.out (Gr.trans HC.out hw')); obtain ⟨n0, n1⟩ := hq2)
    go_simp
    with_reducible rfl
  simp only [Act.put, List.setIfInBounds_toArray, List.set_cons_zero, List.set_cons_succ]
  -- 2: slot 16
  refine wpG_take preGr (i := 2) (v := ?_) (by kernel_rfl) (some 16) (by kernel_rfl) rfl (by kernel_rfl) (by kernel_rfl) (by kernel_rfl) (fun _ _ _ h => h) (by rfl) (fun w' hw' => ?_) rfl ?_
  rotate_left
  · try (have hq2 := cells2 (heap_below HG03.out (Gr.trans HC.out hw')); obtain ⟨m0, m1⟩ := hq2)
    try (have hq2 := cells2 (heap_below HG13.out (Gr.trans HC.out hw')); obtain ⟨n0, n1⟩ := hq2)
    go_simp
    with_reducible rfl
  simp only [Act.put, List.setIfInBounds_toArray, List.set_cons_zero, List.set_cons_succ]
  refine wpG_two (i := 3) (j := 4) rfl rfl (by kernel_rfl) (by rfl) (by rfl) ?_ ?_
  · go_simp
    refine (HF.out wc).mono ?_
    rintro e wn ⟨rfl, hb⟩
    refine ⟨hb, ?_⟩
    try (have HM' := Lib.hid (HM.out.keep (hb.block _ HM.out.lt)); clear HM; have HM := HM'; clear HM')
    have HC' : Hid (Gr w3 wn) := Gr.trans HC.out hb
    clear HC hb
    have HC := HC'
    clear HC'
    obtain ⟨wc, hwc⟩ : ∃ x, x = wn := ⟨_, rfl⟩
    subst hwc
    try simp only [Act.put, List.setIfInBounds_toArray, List.set_cons_zero, List.set_cons_succ]
    refine wpG_one (i := 4) rfl (by kernel_rfl) (by rfl) ?_
    go_simp
    have hb : Below wc.heap.size wc (wc.alloc (.map #[] 0)) := (Below.refl _ _).alloc (Nat.le_refl _) _
    refine ⟨hb, ?_⟩
    have hm := MapAt.made wc
    have hgb : w3.heap.size ≤ wc.heap.size := Below.size HC.out
    generalize wc.alloc (.map #[] 0) = wn at hb hm ⊢
    have HC' : Hid (Gr w3 wn) := Gr.trans HC.out hb
    clear HC
    have HC := HC'
    clear HC'
    obtain ⟨bm, hgk⟩ : ∃ g, g = wc.heap.size := ⟨_, rfl⟩
    rw [← hgk] at hm hgb ⊢
    have HM := Lib.hid hm
    have HGB := Lib.hid hgb
    clear hgk hb hm hgb
    obtain ⟨wc, hwc⟩ : ∃ x, x = wn := ⟨_, rfl⟩
    subst hwc
    try simp only [Act.put, List.setIfInBounds_toArray, List.set_cons_zero, List.set_cons_succ]
    -- 5: slot 19
    refine wpG_take preGr (i := 5) (v := ?_) (by kernel_rfl) (some 19) (by kernel_rfl) rfl (by kernel_rfl) (by kernel_rfl) (by kernel_rfl) (fun _ _ _ h => h) (by rfl) (fun w' hw' => ?_) rfl ?_
    rotate_left
    · try (have hq2 := cells2 (heap_below HG03.out (Gr.trans HC.out hw')); obtain ⟨m0, m1⟩ := hq2)
      try (have hq2 := cells2 (heap_below HG13.out (Gr.trans HC.out hw')); obtain ⟨n0, n1⟩ := hq2)
      go_simp
      with_reducible rfl
    simp only [Act.put, List.setIfInBounds_toArray, List.set_cons_zero, List.set_cons_succ]
    refine wpG_one (i := 6) rfl (by kernel_rfl) (by rfl) ?_
    go_simp
    have hb : Below wc.heap.size wc (wc.alloc (.cells #[.int .i64 ae, .int .i64 am, .int .i64 oe, .int .i64 om, .int .i64 am, .int .i64 0, .map (some bm), .int .i64 0] 63)) := (Below.refl _ _).alloc (Nat.le_refl _) _
    refine ⟨hb, ?_⟩
    have hr : (wc.alloc (.cells #[.int .i64 ae, .int .i64 am, .int .i64 oe, .int .i64 om, .int .i64 am, .int .i64 0, .map (some bm), .int .i64 0] 63)).heap[wc.heap.size]? = some (.cells #[.int .i64 ae, .int .i64 am, .int .i64 oe, .int .i64 om, .int .i64 am, .int .i64 0, .map (some bm), .int .i64 0] 63 (0, 0)) := heap_alloc_last _ _
    have HL : Hid (LimAt (wc.alloc (.cells #[.int .i64 ae, .int .i64 am, .int .i64 oe, .int .i64 om, .int .i64 am, .int .i64 0, .map (some bm), .int .i64 0] 63)) wc.heap.size bm (born ⟨ae, am⟩ ⟨oe, om⟩)) := ⟨hr, HM.out.keep (hb.block _ HM.out.lt), HOK.out, (fun p hp => by cases hp), (show (0 : Nat) ≤ 256 by decide)⟩
    have HGG : Hid (w.heap.size ≤ wc.heap.size) := Nat.le_trans HB3.out.size (Below.size HC.out)
    have HBB : Hid (w.heap.size ≤ bm) := Nat.le_trans HB3.out.size HGB.out
    have HBW : Hid (Below w.heap.size w (wc.alloc (.cells #[.int .i64 ae, .int .i64 am, .int .i64 oe, .int .i64 om, .int .i64 am, .int .i64 0, .map (some bm), .int .i64 0] 63))) := HB3.out.trans (Below.mono (Gr.trans HC.out hb) HB3.out.size)
    clear hr hb
    try simp only [Act.put, List.setIfInBounds_toArray, List.set_cons_zero, List.set_cons_succ]
    -- 7: slot 4
    refine wpG_take preGr (i := 7) (v := ?_) (by kernel_rfl) (some 4) (by kernel_rfl) rfl (by kernel_rfl) (by kernel_rfl) (by kernel_rfl) (fun _ _ _ h => h) (by rfl) (fun w' hw' => ?_) rfl ?_
    rotate_left
    · try (have hq2 := cells2 (heap_below HG03.out (Gr.trans HC.out hw')); obtain ⟨m0, m1⟩ := hq2)
      try (have hq2 := cells2 (heap_below HG13.out (Gr.trans HC.out hw')); obtain ⟨n0, n1⟩ := hq2)
      go_simp
      with_reducible rfl
    simp only [Act.put, List.setIfInBounds_toArray, List.set_cons_zero, List.set_cons_succ]
    -- 8: slot 5
    refine wpG_take preGr (i := 8) (v := ?_) (by kernel_rfl) (some 5) (by kernel_rfl) rfl (by kernel_rfl) (by kernel_rfl) (by kernel_rfl) (fun _ _ _ h => h) (by rfl) (fun w' hw' => ?_) rfl ?_
    rotate_left
    · try (have hq2 := cells2 (heap_below HG03.out (Gr.trans HC.out hw')); obtain ⟨m0, m1⟩ := hq2)
      try (have hq2 := cells2 (heap_below HG13.out (Gr.trans HC.out hw')); obtain ⟨n0, n1⟩ := hq2)
      go_simp
      with_reducible rfl
    simp only [Act.put, List.setIfInBounds_toArray, List.set_cons_zero, List.set_cons_succ]
    refine wpG_done (by kernel_rfl) ?_ _
    go_wp2
    go_ret2
    exact ⟨_, bm, rfl, HGG.out, HBB.out, HL.out, HBW.out⟩
  · go_simp
    have hb : Below wc.heap.size wc (wc.alloc (.map #[] 0)) := (Below.refl _ _).alloc (Nat.le_refl _) _
    refine ⟨hb, ?_⟩
    have hm := MapAt.made wc
    have hgb : w3.heap.size ≤ wc.heap.size := Below.size HC.out
    generalize wc.alloc (.map #[] 0) = wn at hb hm ⊢
    have HC' : Hid (Gr w3 wn) := Gr.trans HC.out hb
    clear HC
    have HC := HC'
    clear HC'
    obtain ⟨bm, hgk⟩ : ∃ g, g = wc.heap.size := ⟨_, rfl⟩
    rw [← hgk] at hm hgb ⊢
    have HM := Lib.hid hm
    have HGB := Lib.hid hgb
    clear hgk hb hm hgb
    obtain ⟨wc, hwc⟩ : ∃ x, x = wn := ⟨_, rfl⟩
    subst hwc
    try simp only [Act.put, List.setIfInBounds_toArray, List.set_cons_zero, List.set_cons_succ]
    refine wpG_one (i := 3) rfl (by kernel_rfl) (by rfl) ?_
    go_simp
    refine (HF.out wc).mono ?_
    rintro e wn ⟨rfl, hb⟩
    refine ⟨hb, ?_⟩
    try (have HM' := Lib.hid (HM.out.keep (hb.block _ HM.out.lt)); clear HM; have HM := HM'; clear HM')
    have HC' : Hid (Gr w3 wn) := Gr.trans HC.out hb
    clear HC hb
    have HC := HC'
    clear HC'
    obtain ⟨wc, hwc⟩ : ∃ x, x = wn := ⟨_, rfl⟩
    subst hwc
    try simp only [Act.put, List.setIfInBounds_toArray, List.set_cons_zero, List.set_cons_succ]
    -- 5: slot 19
    refine wpG_take preGr (i := 5) (v := ?_) (by kernel_rfl) (some 19) (by kernel_rfl) rfl (by kernel_rfl) (by kernel_rfl) (by kernel_rfl) (fun _ _ _ h => h) (by rfl) (fun w' hw' => ?_) rfl ?_
    rotate_left
    · try (have hq2 := cells2 (heap_below HG03.out (Gr.trans HC.out hw')); obtain ⟨m0, m1⟩ := hq2)
      try (have hq2 := cells2 (heap_below HG13.out (Gr.trans HC.out hw')); obtain ⟨n0, n1⟩ := hq2)
      go_simp
      with_reducible rfl
    simp only [Act.put, List.setIfInBounds_toArray, List.set_cons_zero, List.set_cons_succ]
    refine wpG_one (i := 6) rfl (by kernel_rfl) (by rfl) ?_
    go_simp
    have hb : Below wc.heap.size wc (wc.alloc (.cells #[.int .i64 ae, .int .i64 am, .int .i64 oe, .int .i64 om, .int .i64 am, .int .i64 0, .map (some bm), .int .i64 0] 63)) := (Below.refl _ _).alloc (Nat.le_refl _) _
    refine ⟨hb, ?_⟩
    have hr : (wc.alloc (.cells #[.int .i64 ae, .int .i64 am, .int .i64 oe, .int .i64 om, .int .i64 am, .int .i64 0, .map (some bm), .int .i64 0] 63)).heap[wc.heap.size]? = some (.cells #[.int .i64 ae, .int .i64 am, .int .i64 oe, .int .i64 om, .int .i64 am, .int .i64 0, .map (some bm), .int .i64 0] 63 (0, 0)) := heap_alloc_last _ _
    have HL : Hid (LimAt (wc.alloc (.cells #[.int .i64 ae, .int .i64 am, .int .i64 oe, .int .i64 om, .int .i64 am, .int .i64 0, .map (some bm), .int .i64 0] 63)) wc.heap.size bm (born ⟨ae, am⟩ ⟨oe, om⟩)) := ⟨hr, HM.out.keep (hb.block _ HM.out.lt), HOK.out, (fun p hp => by cases hp), (show (0 : Nat) ≤ 256 by decide)⟩
    have HGG : Hid (w.heap.size ≤ wc.heap.size) := Nat.le_trans HB3.out.size (Below.size HC.out)
    have HBB : Hid (w.heap.size ≤ bm) := Nat.le_trans HB3.out.size HGB.out
    have HBW : Hid (Below w.heap.size w (wc.alloc (.cells #[.int .i64 ae, .int .i64 am, .int .i64 oe, .int .i64 om, .int .i64 am, .int .i64 0, .map (some bm), .int .i64 0] 63))) := HB3.out.trans (Below.mono (Gr.trans HC.out hb) HB3.out.size)
    clear hr hb
    try simp only [Act.put, List.setIfInBounds_toArray, List.set_cons_zero, List.set_cons_succ]
    -- 7: slot 4
    refine wpG_take preGr (i := 7) (v := ?_) (by kernel_rfl) (some 4) (by kernel_rfl) rfl (by kernel_rfl) (by kernel_rfl) (by kernel_rfl) (fun _ _ _ h => h) (by rfl) (fun w' hw' => ?_) rfl ?_
    rotate_left
    · try (have hq2 := cells2 (heap_below HG03.out (Gr.trans HC.out hw')); obtain ⟨m0, m1⟩ := hq2)
      try (have hq2 := cells2 (heap_below HG13.out (Gr.trans HC.out hw')); obtain ⟨n0, n1⟩ := hq2)
      go_simp
      with_reducible rfl
    simp only [Act.put, List.setIfInBounds_toArray, List.set_cons_zero, List.set_cons_succ]
    -- 8: slot 5
    refine wpG_take preGr (i := 8) (v := ?_) (by kernel_rfl) (some 5) (by kernel_rfl) rfl (by kernel_rfl) (by kernel_rfl) (by kernel_rfl) (fun _ _ _ h => h) (by rfl) (fun w' hw' => ?_) rfl ?_
    rotate_left
    · try (have hq2 := cells2 (heap_below HG03.out (Gr.trans HC.out hw')); obtain ⟨m0, m1⟩ := hq2)
      try (have hq2 := cells2 (heap_below HG13.out (Gr.trans HC.out hw')); obtain ⟨n0, n1⟩ := hq2)
      go_simp
      with_reducible rfl
    simp only [Act.put, List.setIfInBounds_toArray, List.set_cons_zero, List.set_cons_succ]
    refine wpG_done (by kernel_rfl) ?_ _
    go_wp2
    go_ret2
    exact ⟨_, bm, rfl, HGG.out, HBB.out, HL.out, HBW.out⟩
theorem mclone_any (b : Nat) (es : Array MapEntry) (clock : Nat) (w : World) (hb : w.heap[b]? = some (.map es clock)) :
    Calls Try.prog 34 #[.map (some b)] w fun e w' => e = .returned (.map (some w.heap.size)) ∧ w' = w.alloc (.map es clock) := by
  have ht := Try.underlying61
  have hq := fun w => run_eql_map_nil_sl (P := Try.prog) w 61 _ _ (some b) ht
  go_enter Try.func34, Try.ntmps34
  go_wp2
  rw [run_callFunc_extern Try.func35 (by kernel_rfl) (by kernel_rfl) (by kernel_rfl) (e := Extern.MapsClone.clone) (by kernel_rfl), run_maps_clone_sl w 61 hb]
  simp only [Result.andThen]
  rw [Oper.upon_value]
  go_wp2
  rw [run_typeAssert_map_sl _ 61 _ _ _ _ ht]
  simp only [Result.andThen]
  rw [Oper.upon_value]
  go_wp2
  go_ret
  exact ⟨rfl, rfl⟩
set_option maxHeartbeats 2000000 in
theorem fork_any {S : Li} (g bm : Nat) (w : World) (h : LimAt w g bm S) :
    Calls Try.prog 27 #[.pointer (some ⟨g, 0, none⟩)] w fun e w' => ∃ g' b', e = .returned (.pointer (some ⟨g', 0, none⟩)) ∧ w.heap.size ≤ g' ∧ w.heap.size ≤ b' ∧ LimAt w' g' b' S ∧ Below w.heap.size w w' := by
  obtain ⟨k0, k1, k2, k3, k4, k5, k6, k7⟩ := cells8 h.row
  have HM := Lib.hid (isMade_yes g bm w h.row)
  have HL := Lib.hid h
  have hb1 : Below w.heap.size w (w.alloc (.cells #[.int .i64 S.all.e, .int .i64 S.all.m, .int .i64 S.own.e, .int .i64 S.own.m, .int .i64 S.b.k, .int .i64 S.b.t, .map (some bm), .int .i64 S.t] 63)) := (Below.refl _ _).alloc (Nat.le_refl _) _
  have HL1 := Lib.hid (h.gr hb1)
  have HB1 := Lib.hid hb1
  have HG1 : Hid ((w.alloc (.cells #[.int .i64 S.all.e, .int .i64 S.all.m, .int .i64 S.own.e, .int .i64 S.own.m, .int .i64 S.b.k, .int .i64 S.b.t, .map (some bm), .int .i64 S.t] 63)).heap[w.heap.size]? = some (.cells #[.int .i64 S.all.e, .int .i64 S.all.m, .int .i64 S.own.e, .int .i64 S.own.m, .int .i64 S.b.k, .int .i64 S.b.t, .map (some bm), .int .i64 S.t] 63 (0, 0))) := heap_alloc_last _ _
  obtain ⟨a, c, hm1, hm2⟩ := HL1.out.map.copy
  have HM1 := Lib.hid hm1
  have HM2 := Lib.hid hm2
  have hmm := Lib.hid (mclone_any bm a c (w.alloc (.cells #[.int .i64 S.all.e, .int .i64 S.all.m, .int .i64 S.own.e, .int .i64 S.own.m, .int .i64 S.b.k, .int .i64 S.b.t, .map (some bm), .int .i64 S.t] 63)) hm1)
  have HSZ : Hid ((w.alloc (.cells #[.int .i64 S.all.e, .int .i64 S.all.m, .int .i64 S.own.e, .int .i64 S.own.m, .int .i64 S.b.k, .int .i64 S.b.t, .map (some bm), .int .i64 S.t] 63)).heap.size = w.heap.size + 1) := World.size_alloc _ _
  clear h hb1 hm1 hm2
  go_enter Try.func27, Try.ntmps27
  go_wp2_with fail
  refine HM.out.mono ?_
  rintro e w' ⟨rfl, rfl⟩
  go_upto_region 4 with fail
  clear k0 k1 k2 k3 k4 k5 k6 k7
  generalize w.alloc (.cells #[.int .i64 S.all.e, .int .i64 S.all.m, .int .i64 S.own.e, .int .i64 S.own.m, .int .i64 S.b.k, .int .i64 S.b.t, .map (some bm), .int .i64 S.t] 63) = w1 at HL1 HB1 HG1 HM1 HM2 hmm HSZ ⊢
  obtain ⟨k0, k1, k2, k3, k4, k5, k6, k7⟩ := cells8 HL1.out.row
  go_wp2_with fail
  refine hmm.out.mono ?_
  rintro e w2 ⟨rfl, hw2⟩
  have hb2 : Below w1.heap.size w1 w2 := by rw [hw2]; exact (Below.refl _ _).alloc (Nat.le_refl _) _
  rw [← hw2] at HM2
  have HB2 := Lib.hid (HB1.out.trans (hb2.mono HB1.out.size))
  have HG2 := Lib.hid (heap_below HG1.out hb2)
  have HSZ1 : Hid (w1.heap.size ≠ w.heap.size) := by show _ ≠ _; rw [HSZ.out]; omega
  clear hb2 hw2 k0 k1 k2 k3 k4 k5 k6 k7
  go_wp2_with (with_reducible refine wpList_store_cell rfl 61 (.tmp 15) (.tmp 14) rfl w.heap.size 6 (.map (some w1.heap.size)) rfl rfl 63 [.int .i64 S.all.e, .int .i64 S.all.m, .int .i64 S.own.e, .int .i64 S.own.m, .int .i64 S.b.k, .int .i64 S.b.t, .map (some bm), .int .i64 S.t] HG2.out ?s1 ?s2 rfl ?_)
  case s1 => kernel_rfl
  case s2 => simp
  intro w3 h3 ho3
  have HL3 : Hid (LimAt w3 w.heap.size w1.heap.size S) := ⟨h3, HM2.out.keep (ho3.heap _ HM2.out.lt HSZ1.out), HL.out.ok, HL.out.lean, HL.out.few⟩
  have HB3 := Lib.hid (ho3.below _ _ (Nat.le_refl _) HB2.out)
  clear h3 ho3
  go_wp2
  go_ret
  exact ⟨_, _, rfl, Nat.le_refl _, HB1.out.size, HL3.out, HB3.out⟩
end Go.Proofs.Ytblnglkjpnpmbaa.Bk
