/-
  For every rate, every bucket and every tick bucket.Check, Full and At answer as the document does (conciergelaw10.BucketRates answers true). No condition.
-/
import Derived.Test.YtblnglkjpnpmbaaBkB
import Derived.Test.YtblnglkjpnpmbaaBkC
import Derived.Test.YtblnglkjpnpmbaaBkD
import Derived.Test.YtblnglkjpnpmbaaOpenB
import Derived.ProofKit
import Derived.OpenShut
import Derived.ChangeOld
namespace Go.Proofs.Ytblnglkjpnpmbaa.bucketRates
open Go.ChangeShapes Go.WideShapes Go.ChangeAt Go.RowKit
open Go.Proofs.Ytblnglkjpnpmbaa.Bk
set_option linter.unusedVariables false
set_option linter.unusedSimpArgs false

set_option maxHeartbeats 2000000 in
theorem walk (W : World) (re rm : Int) (wre : (Lit.int .i64 re).wf = true) (wrm : (Lit.int .i64 rm).wf = true) (k t : Int) (wk : (Lit.int .i64 k).wf = true) (wt : (Lit.int .i64 t).wf = true) (s : Int) (ws : (Lit.int .i64 s).wf = true) :
    Calls Try.prog 3 #[.agg #[.int .i64 re, .int .i64 rm], .agg #[.int .i64 k, .int .i64 t], .int .i64 s] W fun e w' => e = .returned (.bool true) ∧ Below W.heap.size W w' := by
  have HB : Hid (Below W.heap.size W ((W.alloc (.cells #[.int .i64 re, .int .i64 rm] 23)).alloc (.cells #[.int .i64 k, .int .i64 t] 25))) := boxed_two _ _ _
  have HG0 : Hid (((W.alloc (.cells #[.int .i64 re, .int .i64 rm] 23)).alloc (.cells #[.int .i64 k, .int .i64 t] 25)).heap[W.heap.size]? = some (.cells #[.int .i64 re, .int .i64 rm] 23 (0, 0))) := boxed_0 _ _ _
  have HG1 : Hid (((W.alloc (.cells #[.int .i64 re, .int .i64 rm] 23)).alloc (.cells #[.int .i64 k, .int .i64 t] 25)).heap[W.heap.size + 1]? = some (.cells #[.int .i64 k, .int .i64 t] 25 (0, 0))) := boxed_1 _ _ _
  have HS := Lib.hid (fun w => at_any re rm k t s w)
  have HR := Lib.hid (fun w => rat_any re rm k t s w)
  have HC1 := Lib.hid (fun w => check_any re rm w)
  have HC2 := Lib.hid (fun w => rcheck_any re rm w)
  have HF1 := Lib.hid (fun w => full_any re rm w)
  have HF2 := Lib.hid (fun w => rfull_any re rm w)
  have HA := Lib.hid (fun w => awake_any w)
  obtain ⟨⟨a, b⟩, hx⟩ : ∃ x, x = atB ⟨re, rm⟩ ⟨k, t⟩ s := ⟨_, rfl⟩
  obtain ⟨E, he⟩ : ∃ x, x = atE ⟨re, rm⟩ ⟨k, t⟩ s := ⟨_, rfl⟩
  obtain ⟨F, hf⟩ : ∃ x, x = ckE ⟨re, rm⟩ := ⟨_, rfl⟩
  obtain ⟨⟨c, d⟩, hg⟩ : ∃ x, x = full ⟨re, rm⟩ := ⟨_, rfl⟩
  rw [← hx, ← he] at HS HR
  rw [← hf] at HC1 HC2
  rw [← hg] at HF1 HF2
  have HE : ∀ (a b : Int) w, (binOp .eql 25 (.agg #[.int .i64 a, .int .i64 b]) (.agg #[.int .i64 a, .int .i64 b])).run Try.prog w = .ok (.bool true) w := fun a b w => by rw [eql_bk]; simp
  clear hx he hf hg wre wrm wk wt ws
  go_enter Try.func3, Try.ntmps3
  go_wp2_with fail
  generalize ((W.alloc (.cells #[.int .i64 re, .int .i64 rm] 23)).alloc (.cells #[.int .i64 k, .int .i64 t] 25)) = w1 at HB HG0 HG1 ⊢
  refine (HS.out _).mono ?_
  rintro e w2 ⟨rfl, hb⟩
  have HB2 : Hid (Below W.heap.size W (w2.alloc (.cells #[.int .i64 a, .int .i64 b] 25))) := (HB.out.trans (hb.mono HB.out.size)).alloc (Nat.le_trans HB.out.size hb.size) _
  have HG02 : Hid ((w2.alloc (.cells #[.int .i64 a, .int .i64 b] 25)).heap[W.heap.size]? = some (.cells #[.int .i64 re, .int .i64 rm] 23 (0, 0))) := heap_below (heap_below HG0.out hb) ((Below.refl _ _).alloc (Nat.le_refl _) _)
  have HG12 : Hid ((w2.alloc (.cells #[.int .i64 a, .int .i64 b] 25)).heap[W.heap.size + 1]? = some (.cells #[.int .i64 k, .int .i64 t] 25 (0, 0))) := heap_below (heap_below HG1.out hb) ((Below.refl _ _).alloc (Nat.le_refl _) _)
  have HG22 : Hid ((w2.alloc (.cells #[.int .i64 a, .int .i64 b] 25)).heap[w2.heap.size]? = some (.cells #[.int .i64 a, .int .i64 b] 25 (0, 0))) := heap_alloc_last _ _
  clear hb HB HG0 HG1
  obtain ⟨k0, k1⟩ := cells2 HG02.out
  obtain ⟨m0, m1⟩ := cells2 HG12.out
  go_wp2_with fail
  generalize w2.alloc (.cells #[.int .i64 a, .int .i64 b] 25) = w3 at HB2 HG02 HG12 HG22 ⊢
  refine (HR.out _).mono ?_
  rintro e w4 ⟨rfl, hb⟩
  have HB4 : Hid (Below W.heap.size W (w4.alloc (.cells #[.int .i64 a, .int .i64 b] 25))) := (HB2.out.trans (hb.mono HB2.out.size)).alloc (Nat.le_trans HB2.out.size hb.size) _
  have HG04 : Hid ((w4.alloc (.cells #[.int .i64 a, .int .i64 b] 25)).heap[W.heap.size]? = some (.cells #[.int .i64 re, .int .i64 rm] 23 (0, 0))) := heap_below (heap_below HG02.out hb) ((Below.refl _ _).alloc (Nat.le_refl _) _)
  have HG24 : Hid ((w4.alloc (.cells #[.int .i64 a, .int .i64 b] 25)).heap[w2.heap.size]? = some (.cells #[.int .i64 a, .int .i64 b] 25 (0, 0))) := heap_below (heap_below HG22.out hb) ((Below.refl _ _).alloc (Nat.le_refl _) _)
  have HG44 : Hid ((w4.alloc (.cells #[.int .i64 a, .int .i64 b] 25)).heap[w4.heap.size]? = some (.cells #[.int .i64 a, .int .i64 b] 25 (0, 0))) := heap_alloc_last _ _
  clear hb HB2 HG02 HG12 HG22 k0 k1 m0 m1
  go_upto_region 3 with fail
  generalize w4.alloc (.cells #[.int .i64 a, .int .i64 b] 25) = w5 at HB4 HG04 HG24 HG44 ⊢
  have HC : Hid (Gr w5 w5.drew) := Gr.drew w5
  refine wp_region_G 26 Gr (by kernel_rfl) ?_
  generalize w5.drew = wc at HC ⊢
  -- 0: slot 25
  refine wpG_take preGr (i := 0) (v := ?_) (by kernel_rfl) (some 25) (by kernel_rfl) rfl (by kernel_rfl) (by kernel_rfl) (by kernel_rfl) (fun _ _ _ h => h) (by rfl) (fun w' hw' => ?_) rfl ?_
  rotate_left
  · try have k0 := (cells2 (heap_below HG04.out (Gr.trans HC.out hw'))).1
    try have k1 := (cells2 (heap_below HG04.out (Gr.trans HC.out hw'))).2
    try have m0 := (cells2 (heap_below HG24.out (Gr.trans HC.out hw'))).1
    try have m1 := (cells2 (heap_below HG24.out (Gr.trans HC.out hw'))).2
    try have q0 := (cells2 (heap_below HG44.out (Gr.trans HC.out hw'))).1
    try have q1 := (cells2 (heap_below HG44.out (Gr.trans HC.out hw'))).2
    go_simp
    with_reducible rfl
  simp only [Act.put, List.setIfInBounds_toArray, List.set_cons_zero, List.set_cons_succ]
  -- 1: slot 26
  refine wpG_take preGr (i := 1) (v := ?_) (by kernel_rfl) (some 26) (by kernel_rfl) rfl (by kernel_rfl) (by kernel_rfl) (by kernel_rfl) (fun _ _ _ h => h) (by rfl) (fun w' hw' => ?_) rfl ?_
  rotate_left
  · try have k0 := (cells2 (heap_below HG04.out (Gr.trans HC.out hw'))).1
    try have k1 := (cells2 (heap_below HG04.out (Gr.trans HC.out hw'))).2
    try have m0 := (cells2 (heap_below HG24.out (Gr.trans HC.out hw'))).1
    try have m1 := (cells2 (heap_below HG24.out (Gr.trans HC.out hw'))).2
    try have q0 := (cells2 (heap_below HG44.out (Gr.trans HC.out hw'))).1
    try have q1 := (cells2 (heap_below HG44.out (Gr.trans HC.out hw'))).2
    go_simp
    with_reducible rfl
  simp only [Act.put, List.setIfInBounds_toArray, List.set_cons_zero, List.set_cons_succ]
  -- 2: slot 27
  refine wpG_take preGr (i := 2) (v := ?_) (by kernel_rfl) (some 27) (by kernel_rfl) rfl (by kernel_rfl) (by kernel_rfl) (by kernel_rfl) (fun _ _ _ h => h) (by rfl) (fun w' hw' => ?_) rfl ?_
  rotate_left
  · try have k0 := (cells2 (heap_below HG04.out (Gr.trans HC.out hw'))).1
    try have k1 := (cells2 (heap_below HG04.out (Gr.trans HC.out hw'))).2
    try have m0 := (cells2 (heap_below HG24.out (Gr.trans HC.out hw'))).1
    try have m1 := (cells2 (heap_below HG24.out (Gr.trans HC.out hw'))).2
    try have q0 := (cells2 (heap_below HG44.out (Gr.trans HC.out hw'))).1
    try have q1 := (cells2 (heap_below HG44.out (Gr.trans HC.out hw'))).2
    go_simp
    with_reducible rfl
  simp only [Act.put, List.setIfInBounds_toArray, List.set_cons_zero, List.set_cons_succ]
  -- 3: slot 28
  refine wpG_take preGr (i := 3) (v := ?_) (by kernel_rfl) (some 28) (by kernel_rfl) rfl (by kernel_rfl) (by kernel_rfl) (by kernel_rfl) (fun _ _ _ h => h) (by rfl) (fun w' hw' => ?_) rfl ?_
  rotate_left
  · try have k0 := (cells2 (heap_below HG04.out (Gr.trans HC.out hw'))).1
    try have k1 := (cells2 (heap_below HG04.out (Gr.trans HC.out hw'))).2
    try have m0 := (cells2 (heap_below HG24.out (Gr.trans HC.out hw'))).1
    try have m1 := (cells2 (heap_below HG24.out (Gr.trans HC.out hw'))).2
    try have q0 := (cells2 (heap_below HG44.out (Gr.trans HC.out hw'))).1
    try have q1 := (cells2 (heap_below HG44.out (Gr.trans HC.out hw'))).2
    go_simp
    with_reducible rfl
  simp only [Act.put, List.setIfInBounds_toArray, List.set_cons_zero, List.set_cons_succ]
  -- 4: slot 29
  refine wpG_take preGr (i := 4) (v := ?_) (by kernel_rfl) (some 29) (by kernel_rfl) rfl (by kernel_rfl) (by kernel_rfl) (by kernel_rfl) (fun _ _ _ h => h) (by rfl) (fun w' hw' => ?_) rfl ?_
  rotate_left
  · try have k0 := (cells2 (heap_below HG04.out (Gr.trans HC.out hw'))).1
    try have k1 := (cells2 (heap_below HG04.out (Gr.trans HC.out hw'))).2
    try have m0 := (cells2 (heap_below HG24.out (Gr.trans HC.out hw'))).1
    try have m1 := (cells2 (heap_below HG24.out (Gr.trans HC.out hw'))).2
    try have q0 := (cells2 (heap_below HG44.out (Gr.trans HC.out hw'))).1
    try have q1 := (cells2 (heap_below HG44.out (Gr.trans HC.out hw'))).2
    go_simp
    with_reducible rfl
  simp only [Act.put, List.setIfInBounds_toArray, List.set_cons_zero, List.set_cons_succ]
  -- 5: slot 30
  refine wpG_take preGr (i := 5) (v := ?_) (by kernel_rfl) (some 30) (by kernel_rfl) rfl (by kernel_rfl) (by kernel_rfl) (by kernel_rfl) (fun _ _ _ h => h) (by rfl) (fun w' hw' => ?_) rfl ?_
  rotate_left
  · try have k0 := (cells2 (heap_below HG04.out (Gr.trans HC.out hw'))).1
    try have k1 := (cells2 (heap_below HG04.out (Gr.trans HC.out hw'))).2
    try have m0 := (cells2 (heap_below HG24.out (Gr.trans HC.out hw'))).1
    try have m1 := (cells2 (heap_below HG24.out (Gr.trans HC.out hw'))).2
    try have q0 := (cells2 (heap_below HG44.out (Gr.trans HC.out hw'))).1
    try have q1 := (cells2 (heap_below HG44.out (Gr.trans HC.out hw'))).2
    go_simp
    with_reducible rfl
  simp only [Act.put, List.setIfInBounds_toArray, List.set_cons_zero, List.set_cons_succ]
  -- 6: slot 31
  refine wpG_take preGr (i := 6) (v := ?_) (by kernel_rfl) (some 31) (by kernel_rfl) rfl (by kernel_rfl) (by kernel_rfl) (by kernel_rfl) (fun _ _ _ h => h) (by rfl) (fun w' hw' => ?_) rfl ?_
  rotate_left
  · try have k0 := (cells2 (heap_below HG04.out (Gr.trans HC.out hw'))).1
    try have k1 := (cells2 (heap_below HG04.out (Gr.trans HC.out hw'))).2
    try have m0 := (cells2 (heap_below HG24.out (Gr.trans HC.out hw'))).1
    try have m1 := (cells2 (heap_below HG24.out (Gr.trans HC.out hw'))).2
    try have q0 := (cells2 (heap_below HG44.out (Gr.trans HC.out hw'))).1
    try have q1 := (cells2 (heap_below HG44.out (Gr.trans HC.out hw'))).2
    go_simp
    with_reducible rfl
  simp only [Act.put, List.setIfInBounds_toArray, List.set_cons_zero, List.set_cons_succ]
  -- 7: slot 32
  refine wpG_take preGr (i := 7) (v := ?_) (by kernel_rfl) (some 32) (by kernel_rfl) rfl (by kernel_rfl) (by kernel_rfl) (by kernel_rfl) (fun _ _ _ h => h) (by rfl) (fun w' hw' => ?_) rfl ?_
  rotate_left
  · try have k0 := (cells2 (heap_below HG04.out (Gr.trans HC.out hw'))).1
    try have k1 := (cells2 (heap_below HG04.out (Gr.trans HC.out hw'))).2
    try have m0 := (cells2 (heap_below HG24.out (Gr.trans HC.out hw'))).1
    try have m1 := (cells2 (heap_below HG24.out (Gr.trans HC.out hw'))).2
    try have q0 := (cells2 (heap_below HG44.out (Gr.trans HC.out hw'))).1
    try have q1 := (cells2 (heap_below HG44.out (Gr.trans HC.out hw'))).2
    go_simp
    with_reducible rfl
  simp only [Act.put, List.setIfInBounds_toArray, List.set_cons_zero, List.set_cons_succ]
  -- 8: slot 33
  refine wpG_take preGr (i := 8) (v := ?_) (by kernel_rfl) (some 33) (by kernel_rfl) rfl (by kernel_rfl) (by kernel_rfl) (by kernel_rfl) (fun _ _ _ h => h) (by rfl) (fun w' hw' => ?_) rfl ?_
  rotate_left
  · try have k0 := (cells2 (heap_below HG04.out (Gr.trans HC.out hw'))).1
    try have k1 := (cells2 (heap_below HG04.out (Gr.trans HC.out hw'))).2
    try have m0 := (cells2 (heap_below HG24.out (Gr.trans HC.out hw'))).1
    try have m1 := (cells2 (heap_below HG24.out (Gr.trans HC.out hw'))).2
    try have q0 := (cells2 (heap_below HG44.out (Gr.trans HC.out hw'))).1
    try have q1 := (cells2 (heap_below HG44.out (Gr.trans HC.out hw'))).2
    go_simp
    with_reducible rfl
  simp only [Act.put, List.setIfInBounds_toArray, List.set_cons_zero, List.set_cons_succ]
  -- 9: slot 34
  refine wpG_take preGr (i := 9) (v := ?_) (by kernel_rfl) (some 34) (by kernel_rfl) rfl (by kernel_rfl) (by kernel_rfl) (by kernel_rfl) (fun _ _ _ h => h) (by rfl) (fun w' hw' => ?_) rfl ?_
  rotate_left
  · try have k0 := (cells2 (heap_below HG04.out (Gr.trans HC.out hw'))).1
    try have k1 := (cells2 (heap_below HG04.out (Gr.trans HC.out hw'))).2
    try have m0 := (cells2 (heap_below HG24.out (Gr.trans HC.out hw'))).1
    try have m1 := (cells2 (heap_below HG24.out (Gr.trans HC.out hw'))).2
    try have q0 := (cells2 (heap_below HG44.out (Gr.trans HC.out hw'))).1
    try have q1 := (cells2 (heap_below HG44.out (Gr.trans HC.out hw'))).2
    go_simp
    with_reducible rfl
  simp only [Act.put, List.setIfInBounds_toArray, List.set_cons_zero, List.set_cons_succ]
  -- 11: slot 36
  refine wpG_take preGr (i := 11) (v := ?_) (by kernel_rfl) (some 36) (by kernel_rfl) rfl (by kernel_rfl) (by kernel_rfl) (by kernel_rfl) (fun _ _ _ h => h) (by rfl) (fun w' hw' => ?_) rfl ?_
  rotate_left
  · try have k0 := (cells2 (heap_below HG04.out (Gr.trans HC.out hw'))).1
    try have k1 := (cells2 (heap_below HG04.out (Gr.trans HC.out hw'))).2
    try have m0 := (cells2 (heap_below HG24.out (Gr.trans HC.out hw'))).1
    try have m1 := (cells2 (heap_below HG24.out (Gr.trans HC.out hw'))).2
    try have q0 := (cells2 (heap_below HG44.out (Gr.trans HC.out hw'))).1
    try have q1 := (cells2 (heap_below HG44.out (Gr.trans HC.out hw'))).2
    go_simp
    with_reducible rfl
  simp only [Act.put, List.setIfInBounds_toArray, List.set_cons_zero, List.set_cons_succ]
  refine wpG_one (i := 10) rfl (by kernel_rfl) (by rfl) ?_
  go_simp
  refine (HC1.out wc).mono ?_
  rintro e wn ⟨rfl, hb⟩
  refine ⟨hb, ?_⟩
  have HC' : Hid (Gr w5 wn) := Gr.trans HC.out hb
  clear HC hb
  have HC := HC'
  clear HC'
  obtain ⟨wc, hwc⟩ : ∃ x, x = wn := ⟨_, rfl⟩
  subst hwc
  try simp only [Act.put, List.setIfInBounds_toArray, List.set_cons_zero, List.set_cons_succ]
  refine wpG_one (i := 12) rfl (by kernel_rfl) (by rfl) ?_
  go_simp
  refine (HC2.out wc).mono ?_
  rintro e wn ⟨rfl, hb⟩
  refine ⟨hb, ?_⟩
  have HC' : Hid (Gr w5 wn) := Gr.trans HC.out hb
  clear HC hb
  have HC := HC'
  clear HC'
  obtain ⟨wc, hwc⟩ : ∃ x, x = wn := ⟨_, rfl⟩
  subst hwc
  try simp only [Act.put, List.setIfInBounds_toArray, List.set_cons_zero, List.set_cons_succ]
  -- 13: slot 38
  refine wpG_take preGr (i := 13) (v := ?_) (by kernel_rfl) (some 38) (by kernel_rfl) rfl (by kernel_rfl) (by kernel_rfl) (by kernel_rfl) (fun _ _ _ h => h) (by rfl) (fun w' hw' => ?_) rfl ?_
  rotate_left
  · try have k0 := (cells2 (heap_below HG04.out (Gr.trans HC.out hw'))).1
    try have k1 := (cells2 (heap_below HG04.out (Gr.trans HC.out hw'))).2
    try have m0 := (cells2 (heap_below HG24.out (Gr.trans HC.out hw'))).1
    try have m1 := (cells2 (heap_below HG24.out (Gr.trans HC.out hw'))).2
    try have q0 := (cells2 (heap_below HG44.out (Gr.trans HC.out hw'))).1
    try have q1 := (cells2 (heap_below HG44.out (Gr.trans HC.out hw'))).2
    go_simp
    with_reducible rfl
  simp only [Act.put, List.setIfInBounds_toArray, List.set_cons_zero, List.set_cons_succ]
  -- 14: slot 39
  refine wpG_take preGr (i := 14) (v := ?_) (by kernel_rfl) (some 39) (by kernel_rfl) rfl (by kernel_rfl) (by kernel_rfl) (by kernel_rfl) (fun _ _ _ h => h) (by rfl) (fun w' hw' => ?_) rfl ?_
  rotate_left
  · try have k0 := (cells2 (heap_below HG04.out (Gr.trans HC.out hw'))).1
    try have k1 := (cells2 (heap_below HG04.out (Gr.trans HC.out hw'))).2
    try have m0 := (cells2 (heap_below HG24.out (Gr.trans HC.out hw'))).1
    try have m1 := (cells2 (heap_below HG24.out (Gr.trans HC.out hw'))).2
    try have q0 := (cells2 (heap_below HG44.out (Gr.trans HC.out hw'))).1
    try have q1 := (cells2 (heap_below HG44.out (Gr.trans HC.out hw'))).2
    go_simp
    with_reducible rfl
  simp only [Act.put, List.setIfInBounds_toArray, List.set_cons_zero, List.set_cons_succ]
  -- 15: slot 40
  refine wpG_take preGr (i := 15) (v := ?_) (by kernel_rfl) (some 40) (by kernel_rfl) rfl (by kernel_rfl) (by kernel_rfl) (by kernel_rfl) (fun _ _ _ h => h) (by rfl) (fun w' hw' => ?_) rfl ?_
  rotate_left
  · try have k0 := (cells2 (heap_below HG04.out (Gr.trans HC.out hw'))).1
    try have k1 := (cells2 (heap_below HG04.out (Gr.trans HC.out hw'))).2
    try have m0 := (cells2 (heap_below HG24.out (Gr.trans HC.out hw'))).1
    try have m1 := (cells2 (heap_below HG24.out (Gr.trans HC.out hw'))).2
    try have q0 := (cells2 (heap_below HG44.out (Gr.trans HC.out hw'))).1
    try have q1 := (cells2 (heap_below HG44.out (Gr.trans HC.out hw'))).2
    go_simp
    with_reducible rfl
  simp only [Act.put, List.setIfInBounds_toArray, List.set_cons_zero, List.set_cons_succ]
  -- 16: slot 41
  refine wpG_take preGr (i := 16) (v := ?_) (by kernel_rfl) (some 41) (by kernel_rfl) rfl (by kernel_rfl) (by kernel_rfl) (by kernel_rfl) (fun _ _ _ h => h) (by rfl) (fun w' hw' => ?_) rfl ?_
  rotate_left
  · try have k0 := (cells2 (heap_below HG04.out (Gr.trans HC.out hw'))).1
    try have k1 := (cells2 (heap_below HG04.out (Gr.trans HC.out hw'))).2
    try have m0 := (cells2 (heap_below HG24.out (Gr.trans HC.out hw'))).1
    try have m1 := (cells2 (heap_below HG24.out (Gr.trans HC.out hw'))).2
    try have q0 := (cells2 (heap_below HG44.out (Gr.trans HC.out hw'))).1
    try have q1 := (cells2 (heap_below HG44.out (Gr.trans HC.out hw'))).2
    go_simp
    with_reducible rfl
  simp only [Act.put, List.setIfInBounds_toArray, List.set_cons_zero, List.set_cons_succ]
  -- 18: slot 43
  refine wpG_take preGr (i := 18) (v := ?_) (by kernel_rfl) (some 43) (by kernel_rfl) rfl (by kernel_rfl) (by kernel_rfl) (by kernel_rfl) (fun _ _ _ h => h) (by rfl) (fun w' hw' => ?_) rfl ?_
  rotate_left
  · try have k0 := (cells2 (heap_below HG04.out (Gr.trans HC.out hw'))).1
    try have k1 := (cells2 (heap_below HG04.out (Gr.trans HC.out hw'))).2
    try have m0 := (cells2 (heap_below HG24.out (Gr.trans HC.out hw'))).1
    try have m1 := (cells2 (heap_below HG24.out (Gr.trans HC.out hw'))).2
    try have q0 := (cells2 (heap_below HG44.out (Gr.trans HC.out hw'))).1
    try have q1 := (cells2 (heap_below HG44.out (Gr.trans HC.out hw'))).2
    go_simp
    with_reducible rfl
  simp only [Act.put, List.setIfInBounds_toArray, List.set_cons_zero, List.set_cons_succ]
  refine wpG_one (i := 17) rfl (by kernel_rfl) (by rfl) ?_
  go_simp
  refine (HF1.out wc).mono ?_
  rintro e wn ⟨rfl, hb⟩
  refine ⟨hb, ?_⟩
  have HC' : Hid (Gr w5 wn) := Gr.trans HC.out hb
  clear HC hb
  have HC := HC'
  clear HC'
  obtain ⟨wc, hwc⟩ : ∃ x, x = wn := ⟨_, rfl⟩
  subst hwc
  try simp only [Act.put, List.setIfInBounds_toArray, List.set_cons_zero, List.set_cons_succ]
  refine wpG_one (i := 19) rfl (by kernel_rfl) (by rfl) ?_
  go_simp
  refine (HF2.out wc).mono ?_
  rintro e wn ⟨rfl, hb⟩
  refine ⟨hb, ?_⟩
  have HC' : Hid (Gr w5 wn) := Gr.trans HC.out hb
  clear HC hb
  have HC := HC'
  clear HC'
  obtain ⟨wc, hwc⟩ : ∃ x, x = wn := ⟨_, rfl⟩
  subst hwc
  try simp only [Act.put, List.setIfInBounds_toArray, List.set_cons_zero, List.set_cons_succ]
  -- 20: slot 45
  refine wpG_take preGr (i := 20) (v := ?_) (by kernel_rfl) (some 45) (by kernel_rfl) rfl (by kernel_rfl) (by kernel_rfl) (by kernel_rfl) (fun _ _ _ h => h) (by rfl) (fun w' hw' => ?_) rfl ?_
  rotate_left
  · try have k0 := (cells2 (heap_below HG04.out (Gr.trans HC.out hw'))).1
    try have k1 := (cells2 (heap_below HG04.out (Gr.trans HC.out hw'))).2
    try have m0 := (cells2 (heap_below HG24.out (Gr.trans HC.out hw'))).1
    try have m1 := (cells2 (heap_below HG24.out (Gr.trans HC.out hw'))).2
    try have q0 := (cells2 (heap_below HG44.out (Gr.trans HC.out hw'))).1
    try have q1 := (cells2 (heap_below HG44.out (Gr.trans HC.out hw'))).2
    go_simp
    with_reducible rfl
  simp only [Act.put, List.setIfInBounds_toArray, List.set_cons_zero, List.set_cons_succ]
  -- 21: slot 46
  refine wpG_take preGr (i := 21) (v := ?_) (by kernel_rfl) (some 46) (by kernel_rfl) rfl (by kernel_rfl) (by kernel_rfl) (by kernel_rfl) (fun _ _ _ h => h) (by rfl) (fun w' hw' => ?_) rfl ?_
  rotate_left
  · try have k0 := (cells2 (heap_below HG04.out (Gr.trans HC.out hw'))).1
    try have k1 := (cells2 (heap_below HG04.out (Gr.trans HC.out hw'))).2
    try have m0 := (cells2 (heap_below HG24.out (Gr.trans HC.out hw'))).1
    try have m1 := (cells2 (heap_below HG24.out (Gr.trans HC.out hw'))).2
    try have q0 := (cells2 (heap_below HG44.out (Gr.trans HC.out hw'))).1
    try have q1 := (cells2 (heap_below HG44.out (Gr.trans HC.out hw'))).2
    go_simp
    with_reducible rfl
  simp only [Act.put, List.setIfInBounds_toArray, List.set_cons_zero, List.set_cons_succ]
  -- 22: slot 47
  refine wpG_take preGr (i := 22) (v := ?_) (by kernel_rfl) (some 47) (by kernel_rfl) rfl (by kernel_rfl) (by kernel_rfl) (by kernel_rfl) (fun _ _ _ h => h) (by rfl) (fun w' hw' => ?_) rfl ?_
  rotate_left
  · try have k0 := (cells2 (heap_below HG04.out (Gr.trans HC.out hw'))).1
    try have k1 := (cells2 (heap_below HG04.out (Gr.trans HC.out hw'))).2
    try have m0 := (cells2 (heap_below HG24.out (Gr.trans HC.out hw'))).1
    try have m1 := (cells2 (heap_below HG24.out (Gr.trans HC.out hw'))).2
    try have q0 := (cells2 (heap_below HG44.out (Gr.trans HC.out hw'))).1
    try have q1 := (cells2 (heap_below HG44.out (Gr.trans HC.out hw'))).2
    go_simp
    with_reducible rfl
  simp only [Act.put, List.setIfInBounds_toArray, List.set_cons_zero, List.set_cons_succ]
  refine wpG_one (i := 23) rfl (by kernel_rfl) (by rfl) ?_
  go_simp
  refine (HA.out wc).mono ?_
  rintro e wn ⟨rfl, hb⟩
  refine ⟨hb, ?_⟩
  have HC' : Hid (Gr w5 wn) := Gr.trans HC.out hb
  clear HC hb
  have HC := HC'
  clear HC'
  obtain ⟨wc, hwc⟩ : ∃ x, x = wn := ⟨_, rfl⟩
  subst hwc
  try simp only [Act.put, List.setIfInBounds_toArray, List.set_cons_zero, List.set_cons_succ]
  -- 24: slot 49
  refine wpG_take preGr (i := 24) (v := ?_) (by kernel_rfl) (some 49) (by kernel_rfl) rfl (by kernel_rfl) (by kernel_rfl) (by kernel_rfl) (fun _ _ _ h => h) (by rfl) (fun w' hw' => ?_) rfl ?_
  rotate_left
  · try have k0 := (cells2 (heap_below HG04.out (Gr.trans HC.out hw'))).1
    try have k1 := (cells2 (heap_below HG04.out (Gr.trans HC.out hw'))).2
    try have m0 := (cells2 (heap_below HG24.out (Gr.trans HC.out hw'))).1
    try have m1 := (cells2 (heap_below HG24.out (Gr.trans HC.out hw'))).2
    try have q0 := (cells2 (heap_below HG44.out (Gr.trans HC.out hw'))).1
    try have q1 := (cells2 (heap_below HG44.out (Gr.trans HC.out hw'))).2
    go_simp
    with_reducible rfl
  simp only [Act.put, List.setIfInBounds_toArray, List.set_cons_zero, List.set_cons_succ]
  -- 25: slot 6
  refine wpG_take preGr (i := 25) (v := ?_) (by kernel_rfl) (some 6) (by kernel_rfl) rfl (by kernel_rfl) (by kernel_rfl) (by kernel_rfl) (fun _ _ _ h => h) (by rfl) (fun w' hw' => ?_) rfl ?_
  rotate_left
  · try have k0 := (cells2 (heap_below HG04.out (Gr.trans HC.out hw'))).1
    try have k1 := (cells2 (heap_below HG04.out (Gr.trans HC.out hw'))).2
    try have m0 := (cells2 (heap_below HG24.out (Gr.trans HC.out hw'))).1
    try have m1 := (cells2 (heap_below HG24.out (Gr.trans HC.out hw'))).2
    try have q0 := (cells2 (heap_below HG44.out (Gr.trans HC.out hw'))).1
    try have q1 := (cells2 (heap_below HG44.out (Gr.trans HC.out hw'))).2
    go_simp
    with_reducible rfl
  simp only [Act.put, List.setIfInBounds_toArray, List.set_cons_zero, List.set_cons_succ]
  refine wpG_done (by kernel_rfl) ?_ _
  go_wp2
  go_ret
  exact ⟨by simp, HB4.out.trans (Below.mono HC.out HB4.out.size)⟩

theorem own : ownKnob Try.prog.godebug = none := by kernel_rfl
theorem laidOut : laidOutB Try.prog = true := by kernel_rfl
set_option maxRecDepth 100000 in
theorem lifted (os : Os) (started : os.Started) (H : Type) (enc : TypeId × Value → H) :
    ReturnsInHanded {} Try.checked os 3 .any (Rows.bucketRatesSpec.pre6 enc Try.prog Try.f3 Rows.bucketRatesRow.domain false) (Rows.bucketRatesSpec.post enc Try.prog Try.f3 false true false false) := by
  refine returnsInHanded_of_change (C := Try.checked) own started (by kernel_rfl) Try.func3
    (ChangeSpec.witness6 (enc := enc) (C := Try.checked) false ⟨#[], #[.agg #[.int .i64 0, .int .i64 0], .agg #[.int .i64 0, .int .i64 0], .int .i64 0], []⟩ 8 (by kernel_rfl) (by kernel_rfl) (by kernel_rfl) (by kernel_rfl)) ?_
  intro W base args ds gs before hval0 hW hcnd _
  have hval : ∀ (j : Nat) t v, Try.f3.params[j]? = some t → args[j]? = some v → Value.okWide Try.prog W .any base t v := hval0
  have hW' := hW
  obtain ⟨p, q, hA0, hV, rfl, hfz, hnd⟩ := hW
  have hA : DataW.TrodAll enc Try.prog W 0 (fun _ => true) true Try.f3.params.toList args.toList ds p := hA0
  rw [Try.params3] at hA hval
  obtain ⟨v0, vs0, d0, ds0, p0, q0, hargs, rfl, rfl, h0, r0⟩ := trodAll_cons hA
  obtain ⟨v1, vs1, d1, ds1, p1, q1, rfl, rfl, rfl, h1, r1⟩ := trodAll_cons r0
  obtain ⟨v2, vs2, d2, ds2, p2, q2, rfl, rfl, rfl, h2, r2⟩ := trodAll_cons r1
  obtain ⟨rfl, rfl, rfl⟩ := trodAll_nil r2
  obtain rfl : args = #[v0, v1, v2] := by cases args; simp_all
  obtain ⟨rfl, rfl⟩ := trodVars_none hV
  have k0 := h0
  have lt0 : ∀ x ∈ p0, x.block < W.heap.size := by obtain ⟨m, hm⟩ := k0; exact DataW.trod_lt m _ _ _ hm
  obtain ⟨x0, y0, rfl, wx0, wy0⟩ := open_two Try.underlying23 ⟨rfl, rfl⟩ Try.underlying3 Try.underlying3 ⟨by kernel_rfl, by kernel_rfl, by kernel_rfl⟩ (hval 0 23 v0 rfl rfl) h0
  have k1 := h1
  have lt1 : ∀ x ∈ p1, x.block < W.heap.size := by obtain ⟨m, hm⟩ := k1; exact DataW.trod_lt m _ _ _ hm
  obtain ⟨x1, y1, rfl, wx1, wy1⟩ := open_two Try.underlying25 ⟨rfl, rfl⟩ Try.underlying3 Try.underlying3 ⟨by kernel_rfl, by kernel_rfl, by kernel_rfl⟩ (hval 1 25 v1 rfl rfl) h1
  have k2 := h2
  have lt2 : ∀ x ∈ p2, x.block < W.heap.size := by obtain ⟨m, hm⟩ := k2; exact DataW.trod_lt m _ _ _ hm
  obtain ⟨a2, rfl, rfl, rfl, w2⟩ := open_int Try.underlying3 (hval 2 3 v2 rfl rfl) h2
  clear hA0 hval0
  refine (walk W x0 y0 wx0 wy0 x1 y1 wx1 wy1 a2 w2).mono fun e W' ⟨he, bel⟩ => ?_
  subst he
  exact ⟨_, rfl, _, _, _, [], _, [], hW', trodAll_mk1 (shut_bool Try.underlying4 _), (trodAll_cons_mk (Below.trod laidOut (by kernel_rfl) (of_decide_eq_true (by kernel_rfl)) k0 bel lt0) (trodAll_cons_mk (Below.trod laidOut (by kernel_rfl) (of_decide_eq_true (by kernel_rfl)) k1 bel lt1) (trodAll_cons_mk (Below.trod laidOut (by kernel_rfl) (of_decide_eq_true (by kernel_rfl)) k2 bel lt2) trodAll_mk0))), rfl, bel.frame _, fun h => by cases h⟩
theorem over : Rows.bucketRatesRow.holds Try.pinned (OpenSpec.ofChange Rows.bucketRatesSpec) :=
  OpenClaim.holds_of_wide 3 Try.f3 rfl rfl rfl rfl rfl rfl rfl ⟨rfl, rfl, rfl, rfl, rfl⟩ rfl rfl rfl rfl rfl (by kernel_rfl) Try.func3 (by kernel_rfl)
    (of_decide_eq_true (by kernel_rfl)) (by unfold Func.isWrapper; first | (rw [if_pos (by decide +kernel)]; kernel_rfl) | (rw [if_neg (by decide +kernel)]; exact ⟨rfl, rfl⟩))
    (fun os started H enc _ => lifted os started H enc)
/-- The statement. -/
theorem proved : Rows.BucketRatesSaid := over
end Go.Proofs.Ytblnglkjpnpmbaa.bucketRates
