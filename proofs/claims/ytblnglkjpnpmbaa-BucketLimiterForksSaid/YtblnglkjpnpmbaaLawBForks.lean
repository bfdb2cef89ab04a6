/-
  For any two rates and any asks (the first 20) a fork goes its own way: what it answers is as the document says, whatever the one it was forked from answers meanwhile; a limiter that nobody made answers false, 0, nil (conciergelaw10.BucketLimiterForks answers true). No condition.
-/
import Derived.Test.YtblnglkjpnpmbaaBkW
import Derived.Test.YtblnglkjpnpmbaaOpenB
import Derived.ProofKit
import Derived.OpenShut
import Derived.ChangeOld
namespace Go.Proofs.Ytblnglkjpnpmbaa.bucketLimiterForks
open Go.ChangeShapes Go.WideShapes Go.ChangeAt Go.RowKit
open Go.Proofs.Ytblnglkjpnpmbaa.Bk
set_option linter.unusedVariables false
set_option linter.unusedSimpArgs false

theorem other {g bm g' b' b9 : Nat} {W wr wx : World} {S : Li} {A : Option Addr} {C : Nat} (h : RJ g bm b9 W wr S A C) (h2 : RJ g' b' b9 W wr S A C) (n : g' ≠ g ∧ g' ≠ bm ∧ b' ≠ g ∧ b' ≠ bm) (ht : Tu g bm wr wx) : RJ g' b' b9 W wx S A C :=
  ⟨h2.lim.keep (ht.block _ h2.lim.lt.1 n.1 n.2.1) (ht.block _ h2.lim.lt.2 n.2.2.1 n.2.2.2), ht.heap h.doc h.ne.1 h.ne.2, h.er.tu h.lim ht, Tu.below h.bel h.bel.size ht h.ge.1 h.ge.2.1, h2.ge⟩
set_option maxRecDepth 20000 in
set_option maxHeartbeats 8000000 in
theorem walk (W : World) (ae am : Int) (wae : (Lit.int .i64 ae).wf = true) (wam : (Lit.int .i64 am).wf = true) (oe om : Int) (woe : (Lit.int .i64 oe).wf = true) (wom : (Lit.int .i64 om).wf = true)
    (a : Option Addr) (n c : Nat) (qs : List Ak) (hq : AkR W (.slice a n c) n qs) :
    Calls Try.prog 10 #[.agg #[.int .i64 ae, .int .i64 am], .agg #[.int .i64 oe, .int .i64 om], .slice a n c] W fun e w' => e = .returned (.bool true) ∧ Below W.heap.size W w' := by
  have HB : Hid (Below W.heap.size W ((W.alloc (.cells #[.int .i64 ae, .int .i64 am] 23)).alloc (.cells #[.int .i64 oe, .int .i64 om] 23))) := boxed_two _ _ _
  have HG0 : Hid (((W.alloc (.cells #[.int .i64 ae, .int .i64 am] 23)).alloc (.cells #[.int .i64 oe, .int .i64 om] 23)).heap[W.heap.size]? = some (.cells #[.int .i64 ae, .int .i64 am] 23 (0, 0))) := boxed_0 _ _ _
  have HG1 : Hid (((W.alloc (.cells #[.int .i64 ae, .int .i64 am] 23)).alloc (.cells #[.int .i64 oe, .int .i64 om] 23)).heap[W.heap.size + 1]? = some (.cells #[.int .i64 oe, .int .i64 om] 23 (0, 0))) := boxed_1 _ _ _
  have HQ := Lib.hid hq
  have HA := Lib.hid (fun w => awake_any w)
  clear wae wam woe wom hq
  go_enter Try.func10, Try.ntmps10
  go_upto_region 2 with fail
  generalize ((W.alloc (.cells #[.int .i64 ae, .int .i64 am] 23)).alloc (.cells #[.int .i64 oe, .int .i64 om] 23)) = w0 at HB HG0 HG1 ⊢
  go_upto_region 3 with fail
  have HW0 : Hid (Below W.heap.size W ((w0.alloc (.cells #[.int .i64 0, .int .i64 0, .int .i64 0, .int .i64 0, .int .i64 0, .int .i64 0, .map none, .int .i64 0] 63)).alloc (.cells #[.pointer none, .pointer (some ⟨w0.heap.size, 0, none⟩)] 37))) := (HB.out.alloc HB.out.size _).alloc (Nat.le_trans HB.out.size (by simp)) _
  have HZ0 : Hid (((w0.alloc (.cells #[.int .i64 0, .int .i64 0, .int .i64 0, .int .i64 0, .int .i64 0, .int .i64 0, .map none, .int .i64 0] 63)).alloc (.cells #[.pointer none, .pointer (some ⟨w0.heap.size, 0, none⟩)] 37)).heap[w0.heap.size]? = some (.cells #[.int .i64 0, .int .i64 0, .int .i64 0, .int .i64 0, .int .i64 0, .int .i64 0, .map none, .int .i64 0] 63 (0, 0))) := boxed_0 _ _ _
  have HP0 : Hid (((w0.alloc (.cells #[.int .i64 0, .int .i64 0, .int .i64 0, .int .i64 0, .int .i64 0, .int .i64 0, .map none, .int .i64 0] 63)).alloc (.cells #[.pointer none, .pointer (some ⟨w0.heap.size, 0, none⟩)] 37)).heap[w0.heap.size + 1]? = some (.cells #[.pointer none, .pointer (some ⟨w0.heap.size, 0, none⟩)] 37 (0, 0))) := boxed_1 _ _ _
  have HG00 := Lib.hid (heap_below HG0.out (boxed_two w0 (.cells #[.int .i64 0, .int .i64 0, .int .i64 0, .int .i64 0, .int .i64 0, .int .i64 0, .map none, .int .i64 0] 63) (.cells #[.pointer none, .pointer (some ⟨w0.heap.size, 0, none⟩)] 37)))
  have HG10 := Lib.hid (heap_below HG1.out (boxed_two w0 (.cells #[.int .i64 0, .int .i64 0, .int .i64 0, .int .i64 0, .int .i64 0, .int .i64 0, .map none, .int .i64 0] 63) (.cells #[.pointer none, .pointer (some ⟨w0.heap.size, 0, none⟩)] 37)))
  generalize ((w0.alloc (.cells #[.int .i64 0, .int .i64 0, .int .i64 0, .int .i64 0, .int .i64 0, .int .i64 0, .map none, .int .i64 0] 63)).alloc (.cells #[.pointer none, .pointer (some ⟨w0.heap.size, 0, none⟩)] 37)) = w1 at HW0 HZ0 HP0 HG00 HG10 ⊢
  obtain ⟨gz, hgz⟩ : ∃ b, b = w0.heap.size := ⟨_, rfl⟩
  rw [← hgz] at HZ0 HP0 ⊢
  clear hgz HB HG0 HG1
  go_wp2_with fail
  go_loopw [9] (fun iv wr => ∃ i : Nat, i ≤ 2 ∧ iv = .int .i64 (i : Int) ∧ Below w1.heap.size w1 wr) (fun iv _ => 2 - (intOf iv).toNat)
  case atStart => exact ⟨0, by omega, rfl, Below.refl _ _⟩
  case round =>
    obtain ⟨i, hi2, hiv, hbw⟩ := hrel
    subst hiv
    have HBW := Lib.hid hbw
    clear hbw
    by_cases hlt : i < 2
    · have hi5 : (i : Int) < 2 := by omega
      have x1 : wrap64 ((i : Int) + 1) = (i : Int) + 1 := wrap64_in (by omega) (by omega)
      obtain ⟨v, hv⟩ : ∃ v, NoLim wr v ∧ ∀ x, Below wr.heap.size wr x → x.cell? ⟨gz + 1, i, none⟩ = some v := by
        have hz := heap_below HZ0.out HBW.out
        have hp := heap_below HP0.out HBW.out
        have hi : i = 0 ∨ i = 1 := by omega
        rcases hi with rfl | rfl
        · exact ⟨_, .inl rfl, fun x hx => (cells2 (heap_below hp hx)).1⟩
        · exact ⟨_, .inr ⟨gz, rfl, hz⟩, fun x hx => (cells2 (heap_below hp hx)).2⟩
      have HNL := Lib.hid hv.1
      have HCV := Lib.hid hv.2
      have HM1 : Hid (∀ w, Calls Try.prog 23 #[.int .u8 1] w fun e w' => e = .returned (.agg #[.int .u8 2, .int .u8 0, .int .u8 0, .int .u8 0, .int .u8 0, .int .u8 1]) ∧ Below w.heap.size w w') := fun w => mac_any 1 w
      clear hv
      go_upto_region 6 with fail
      obtain ⟨w5, hw5⟩ : ∃ x, x = wr := ⟨_, rfl⟩
      subst hw5
      have HC : Hid (Gr w5 w5.drew) := Gr.drew w5
      refine wp_region_G 30 Gr (by kernel_rfl) ?_
      generalize w5.drew = wc at HC ⊢
      -- 0: slot 29
      refine wpG_take preGr (i := 0) (v := ?_) (by kernel_rfl) (some 29) (by kernel_rfl) rfl (by kernel_rfl) (by kernel_rfl) (by kernel_rfl) (fun _ _ _ h => h) (by rfl) (fun w' hw' => ?_) rfl ?_
      rotate_left
      · try (have hcv := HCV.out _ (Gr.trans HC.out hw'))
        go_simp
        with_reducible rfl
      simp only [Act.put, List.setIfInBounds_toArray, List.set_cons_zero, List.set_cons_succ]
      -- 1: slot 30
      refine wpG_take preGr (i := 1) (v := ?_) (by kernel_rfl) (some 30) (by kernel_rfl) rfl (by kernel_rfl) (by kernel_rfl) (by kernel_rfl) (fun _ _ _ h => h) (by rfl) (fun w' hw' => ?_) rfl ?_
      rotate_left
      · try (have hcv := HCV.out _ (Gr.trans HC.out hw'))
        go_simp
        with_reducible rfl
      simp only [Act.put, List.setIfInBounds_toArray, List.set_cons_zero, List.set_cons_succ]
      -- 2: slot 31
      refine wpG_take preGr (i := 2) (v := ?_) (by kernel_rfl) (some 31) (by kernel_rfl) rfl (by kernel_rfl) (by kernel_rfl) (by kernel_rfl) (fun _ _ _ h => h) (by rfl) (fun w' hw' => ?_) rfl ?_
      rotate_left
      · try (have hcv := HCV.out _ (Gr.trans HC.out hw'))
        go_simp
        with_reducible rfl
      simp only [Act.put, List.setIfInBounds_toArray, List.set_cons_zero, List.set_cons_succ]
      -- 3: slot 32
      refine wpG_take preGr (i := 3) (v := ?_) (by kernel_rfl) (some 32) (by kernel_rfl) rfl (by kernel_rfl) (by kernel_rfl) (by kernel_rfl) (fun _ _ _ h => h) (by rfl) (fun w' hw' => ?_) rfl ?_
      rotate_left
      · try (have hcv := HCV.out _ (Gr.trans HC.out hw'))
        go_simp
        with_reducible rfl
      simp only [Act.put, List.setIfInBounds_toArray, List.set_cons_zero, List.set_cons_succ]
      refine wpG_one (i := 4) rfl (by kernel_rfl) (by rfl) ?_
      go_simp
      refine (HM1.out wc).mono ?_
      rintro e wn ⟨rfl, hb⟩
      refine ⟨hb, ?_⟩
      have HC' : Hid (Gr w5 wn) := Gr.trans HC.out hb
      clear HC hb
      have HC := HC'
      clear HC'
      obtain ⟨wc, hwc⟩ : ∃ x, x = wn := ⟨_, rfl⟩
      subst hwc
      try simp only [Act.put, List.setIfInBounds_toArray, List.set_cons_zero, List.set_cons_succ]
      refine wpG_one (i := 5) rfl (by kernel_rfl) (by rfl) ?_
      go_simp
      refine (no_allow (HNL.out.gr HC.out) _ _ _ _ _ _ 0).mono ?_
      rintro e wn ⟨rfl, hb⟩
      refine ⟨hb, ?_⟩
      have HC' : Hid (Gr w5 wn) := Gr.trans HC.out hb
      clear HC hb
      have HC := HC'
      clear HC'
      obtain ⟨wc, hwc⟩ : ∃ x, x = wn := ⟨_, rfl⟩
      subst hwc
      try simp only [Act.put, List.setIfInBounds_toArray, List.set_cons_zero, List.set_cons_succ]
      -- 6: slot 35
      refine wpG_take preGr (i := 6) (v := ?_) (by kernel_rfl) (some 35) (by kernel_rfl) rfl (by kernel_rfl) (by kernel_rfl) (by kernel_rfl) (fun _ _ _ h => h) (by rfl) (fun w' hw' => ?_) rfl ?_
      rotate_left
      · try (have hcv := HCV.out _ (Gr.trans HC.out hw'))
        go_simp
        with_reducible rfl
      simp only [Act.put, List.setIfInBounds_toArray, List.set_cons_zero, List.set_cons_succ]
      -- 7: slot 36
      refine wpG_take preGr (i := 7) (v := ?_) (by kernel_rfl) (some 36) (by kernel_rfl) rfl (by kernel_rfl) (by kernel_rfl) (by kernel_rfl) (fun _ _ _ h => h) (by rfl) (fun w' hw' => ?_) rfl ?_
      rotate_left
      · try (have hcv := HCV.out _ (Gr.trans HC.out hw'))
        go_simp
        with_reducible rfl
      simp only [Act.put, List.setIfInBounds_toArray, List.set_cons_zero, List.set_cons_succ]
      -- 8: slot 37
      refine wpG_take preGr (i := 8) (v := ?_) (by kernel_rfl) (some 37) (by kernel_rfl) rfl (by kernel_rfl) (by kernel_rfl) (by kernel_rfl) (fun _ _ _ h => h) (by rfl) (fun w' hw' => ?_) rfl ?_
      rotate_left
      · try (have hcv := HCV.out _ (Gr.trans HC.out hw'))
        go_simp
        with_reducible rfl
      simp only [Act.put, List.setIfInBounds_toArray, List.set_cons_zero, List.set_cons_succ]
      -- 9: slot 38
      refine wpG_take preGr (i := 9) (v := ?_) (by kernel_rfl) (some 38) (by kernel_rfl) rfl (by kernel_rfl) (by kernel_rfl) (by kernel_rfl) (fun _ _ _ h => h) (by rfl) (fun w' hw' => ?_) rfl ?_
      rotate_left
      · try (have hcv := HCV.out _ (Gr.trans HC.out hw'))
        go_simp
        with_reducible rfl
      simp only [Act.put, List.setIfInBounds_toArray, List.set_cons_zero, List.set_cons_succ]
      -- 10: slot 39
      refine wpG_take preGr (i := 10) (v := ?_) (by kernel_rfl) (some 39) (by kernel_rfl) rfl (by kernel_rfl) (by kernel_rfl) (by kernel_rfl) (fun _ _ _ h => h) (by rfl) (fun w' hw' => ?_) rfl ?_
      rotate_left
      · try (have hcv := HCV.out _ (Gr.trans HC.out hw'))
        go_simp
        with_reducible rfl
      simp only [Act.put, List.setIfInBounds_toArray, List.set_cons_zero, List.set_cons_succ]
      refine wpG_one (i := 11) rfl (by kernel_rfl) (by rfl) ?_
      go_simp
      refine (no_len (HNL.out.gr HC.out)).mono ?_
      rintro e wn ⟨rfl, rfl⟩
      refine ⟨Gr.refl _, ?_⟩
      try simp only [Act.put, List.setIfInBounds_toArray, List.set_cons_zero, List.set_cons_succ]
      -- 12: slot 41
      refine wpG_take preGr (i := 12) (v := ?_) (by kernel_rfl) (some 41) (by kernel_rfl) rfl (by kernel_rfl) (by kernel_rfl) (by kernel_rfl) (fun _ _ _ h => h) (by rfl) (fun w' hw' => ?_) rfl ?_
      rotate_left
      · try (have hcv := HCV.out _ (Gr.trans HC.out hw'))
        go_simp
        with_reducible rfl
      simp only [Act.put, List.setIfInBounds_toArray, List.set_cons_zero, List.set_cons_succ]
      -- 13: slot 42
      refine wpG_take preGr (i := 13) (v := ?_) (by kernel_rfl) (some 42) (by kernel_rfl) rfl (by kernel_rfl) (by kernel_rfl) (by kernel_rfl) (fun _ _ _ h => h) (by rfl) (fun w' hw' => ?_) rfl ?_
      rotate_left
      · try (have hcv := HCV.out _ (Gr.trans HC.out hw'))
        go_simp
        with_reducible rfl
      simp only [Act.put, List.setIfInBounds_toArray, List.set_cons_zero, List.set_cons_succ]
      -- 14: slot 43
      refine wpG_take preGr (i := 14) (v := ?_) (by kernel_rfl) (some 43) (by kernel_rfl) rfl (by kernel_rfl) (by kernel_rfl) (by kernel_rfl) (fun _ _ _ h => h) (by rfl) (fun w' hw' => ?_) rfl ?_
      rotate_left
      · try (have hcv := HCV.out _ (Gr.trans HC.out hw'))
        go_simp
        with_reducible rfl
      simp only [Act.put, List.setIfInBounds_toArray, List.set_cons_zero, List.set_cons_succ]
      -- 15: slot 44
      refine wpG_take preGr (i := 15) (v := ?_) (by kernel_rfl) (some 44) (by kernel_rfl) rfl (by kernel_rfl) (by kernel_rfl) (by kernel_rfl) (fun _ _ _ h => h) (by rfl) (fun w' hw' => ?_) rfl ?_
      rotate_left
      · try (have hcv := HCV.out _ (Gr.trans HC.out hw'))
        go_simp
        with_reducible rfl
      simp only [Act.put, List.setIfInBounds_toArray, List.set_cons_zero, List.set_cons_succ]
      -- 16: slot 45
      refine wpG_take preGr (i := 16) (v := ?_) (by kernel_rfl) (some 45) (by kernel_rfl) rfl (by kernel_rfl) (by kernel_rfl) (by kernel_rfl) (fun _ _ _ h => h) (by rfl) (fun w' hw' => ?_) rfl ?_
      rotate_left
      · try (have hcv := HCV.out _ (Gr.trans HC.out hw'))
        go_simp
        with_reducible rfl
      simp only [Act.put, List.setIfInBounds_toArray, List.set_cons_zero, List.set_cons_succ]
      -- 17: slot 46
      refine wpG_take preGr (i := 17) (v := ?_) (by kernel_rfl) (some 46) (by kernel_rfl) rfl (by kernel_rfl) (by kernel_rfl) (by kernel_rfl) (fun _ _ _ h => h) (by rfl) (fun w' hw' => ?_) rfl ?_
      rotate_left
      · try (have hcv := HCV.out _ (Gr.trans HC.out hw'))
        go_simp
        with_reducible rfl
      simp only [Act.put, List.setIfInBounds_toArray, List.set_cons_zero, List.set_cons_succ]
      -- 18: slot 47
      refine wpG_take preGr (i := 18) (v := ?_) (by kernel_rfl) (some 47) (by kernel_rfl) rfl (by kernel_rfl) (by kernel_rfl) (by kernel_rfl) (fun _ _ _ h => h) (by rfl) (fun w' hw' => ?_) rfl ?_
      rotate_left
      · try (have hcv := HCV.out _ (Gr.trans HC.out hw'))
        go_simp
        with_reducible rfl
      simp only [Act.put, List.setIfInBounds_toArray, List.set_cons_zero, List.set_cons_succ]
      refine wpG_one (i := 19) rfl (by kernel_rfl) (by rfl) ?_
      go_simp
      refine (no_tick (HNL.out.gr HC.out)).mono ?_
      rintro e wn ⟨rfl, rfl⟩
      refine ⟨Gr.refl _, ?_⟩
      try simp only [Act.put, List.setIfInBounds_toArray, List.set_cons_zero, List.set_cons_succ]
      -- 20: slot 49
      refine wpG_take preGr (i := 20) (v := ?_) (by kernel_rfl) (some 49) (by kernel_rfl) rfl (by kernel_rfl) (by kernel_rfl) (by kernel_rfl) (fun _ _ _ h => h) (by rfl) (fun w' hw' => ?_) rfl ?_
      rotate_left
      · try (have hcv := HCV.out _ (Gr.trans HC.out hw'))
        go_simp
        with_reducible rfl
      simp only [Act.put, List.setIfInBounds_toArray, List.set_cons_zero, List.set_cons_succ]
      -- 21: slot 50
      refine wpG_take preGr (i := 21) (v := ?_) (by kernel_rfl) (some 50) (by kernel_rfl) rfl (by kernel_rfl) (by kernel_rfl) (by kernel_rfl) (fun _ _ _ h => h) (by rfl) (fun w' hw' => ?_) rfl ?_
      rotate_left
      · try (have hcv := HCV.out _ (Gr.trans HC.out hw'))
        go_simp
        with_reducible rfl
      simp only [Act.put, List.setIfInBounds_toArray, List.set_cons_zero, List.set_cons_succ]
      -- 22: slot 51
      refine wpG_take preGr (i := 22) (v := ?_) (by kernel_rfl) (some 51) (by kernel_rfl) rfl (by kernel_rfl) (by kernel_rfl) (by kernel_rfl) (fun _ _ _ h => h) (by rfl) (fun w' hw' => ?_) rfl ?_
      rotate_left
      · try (have hcv := HCV.out _ (Gr.trans HC.out hw'))
        go_simp
        with_reducible rfl
      simp only [Act.put, List.setIfInBounds_toArray, List.set_cons_zero, List.set_cons_succ]
      -- 23: slot 52
      refine wpG_take preGr (i := 23) (v := ?_) (by kernel_rfl) (some 52) (by kernel_rfl) rfl (by kernel_rfl) (by kernel_rfl) (by kernel_rfl) (fun _ _ _ h => h) (by rfl) (fun w' hw' => ?_) rfl ?_
      rotate_left
      · try (have hcv := HCV.out _ (Gr.trans HC.out hw'))
        go_simp
        with_reducible rfl
      simp only [Act.put, List.setIfInBounds_toArray, List.set_cons_zero, List.set_cons_succ]
      -- 24: slot 53
      refine wpG_take preGr (i := 24) (v := ?_) (by kernel_rfl) (some 53) (by kernel_rfl) rfl (by kernel_rfl) (by kernel_rfl) (by kernel_rfl) (fun _ _ _ h => h) (by rfl) (fun w' hw' => ?_) rfl ?_
      rotate_left
      · try (have hcv := HCV.out _ (Gr.trans HC.out hw'))
        go_simp
        with_reducible rfl
      simp only [Act.put, List.setIfInBounds_toArray, List.set_cons_zero, List.set_cons_succ]
      -- 25: slot 54
      refine wpG_take preGr (i := 25) (v := ?_) (by kernel_rfl) (some 54) (by kernel_rfl) rfl (by kernel_rfl) (by kernel_rfl) (by kernel_rfl) (fun _ _ _ h => h) (by rfl) (fun w' hw' => ?_) rfl ?_
      rotate_left
      · try (have hcv := HCV.out _ (Gr.trans HC.out hw'))
        go_simp
        with_reducible rfl
      simp only [Act.put, List.setIfInBounds_toArray, List.set_cons_zero, List.set_cons_succ]
      -- 26: slot 55
      refine wpG_take preGr (i := 26) (v := ?_) (by kernel_rfl) (some 55) (by kernel_rfl) rfl (by kernel_rfl) (by kernel_rfl) (by kernel_rfl) (fun _ _ _ h => h) (by rfl) (fun w' hw' => ?_) rfl ?_
      rotate_left
      · try (have hcv := HCV.out _ (Gr.trans HC.out hw'))
        go_simp
        with_reducible rfl
      simp only [Act.put, List.setIfInBounds_toArray, List.set_cons_zero, List.set_cons_succ]
      refine wpG_one (i := 27) rfl (by kernel_rfl) (by rfl) ?_
      go_simp
      refine (no_fork (HNL.out.gr HC.out)).mono ?_
      rintro e wn ⟨rfl, rfl⟩
      refine ⟨Gr.refl _, ?_⟩
      try simp only [Act.put, List.setIfInBounds_toArray, List.set_cons_zero, List.set_cons_succ]
      -- 28: slot 57
      refine wpG_take preGr (i := 28) (v := ?_) (by kernel_rfl) (some 57) (by kernel_rfl) rfl (by kernel_rfl) (by kernel_rfl) (by kernel_rfl) (fun _ _ _ h => h) (by rfl) (fun w' hw' => ?_) rfl ?_
      rotate_left
      · try (have hcv := HCV.out _ (Gr.trans HC.out hw'))
        go_simp
        with_reducible rfl
      simp only [Act.put, List.setIfInBounds_toArray, List.set_cons_zero, List.set_cons_succ]
      -- 29: slot 58
      refine wpG_take preGr (i := 29) (v := ?_) (by kernel_rfl) (some 58) (by kernel_rfl) rfl (by kernel_rfl) (by kernel_rfl) (by kernel_rfl) (fun _ _ _ h => h) (by rfl) (fun w' hw' => ?_) rfl ?_
      rotate_left
      · try (have hcv := HCV.out _ (Gr.trans HC.out hw'))
        go_simp
        with_reducible rfl
      simp only [Act.put, List.setIfInBounds_toArray, List.set_cons_zero, List.set_cons_succ]
      refine wpG_done (by kernel_rfl) ?_ _
      go_wp2_with fail
      go_roundw
      case rel =>
        have HBN : Below w1.heap.size w1 wc := HBW.out.trans (HC.out.mono HBW.out.size)
        first
          | exact ⟨i + 1, by omega, by go_num, HBN⟩
          | ((repeat apply Exists.intro); exact ⟨⟨i + 1, by omega, by go_num, HBN⟩, rfl⟩)
      case measure => simp [intOf]; omega
    · have HG02 := Lib.hid (heap_below HG00.out HBW.out)
      have HG12 := Lib.hid (heap_below HG10.out HBW.out)
      have HB2 := Lib.hid (HW0.out.trans (HBW.out.mono HW0.out.size))
      clear HZ0 HP0 HG00 HG10 HBW HW0
      obtain ⟨w2, hw2⟩ : ∃ x, x = wr := ⟨_, rfl⟩
      subst hw2
      obtain ⟨k0, k1⟩ := cells2 HG02.out
      obtain ⟨m0, m1⟩ := cells2 HG12.out
      by_cases hok : okR ⟨ae, am⟩ ∧ okR ⟨oe, om⟩
      · have HOK := Lib.hid hok
        clear hok
        go_wp2_with fail
        refine (new_yes ae am oe om HOK.out.1 HOK.out.2 w2).mono ?_
        rintro e w3 ⟨g, bm, rfl, hg, hbm, hl, hb⟩
        have HL3 := Lib.hid hl
        have HG03 := Lib.hid (heap_below HG02.out hb)
        have HG13 := Lib.hid (heap_below HG12.out hb)
        have HB3 := Lib.hid (HB2.out.trans (hb.mono HB2.out.size))
        have HGE : Hid (W.heap.size ≤ g ∧ W.heap.size ≤ bm) := ⟨Nat.le_trans HB2.out.size hg, Nat.le_trans HB2.out.size hbm⟩
        clear hl hb hg hbm HB2 HG02 HG12 k0 k1 m0 m1
        obtain ⟨k0, k1⟩ := cells2 HG03.out
        obtain ⟨m0, m1⟩ := cells2 HG13.out
        go_wp2_with fail
        refine (rnew_yes ae am oe om HOK.out.1 HOK.out.2 w3).mono ?_
        rintro e w4 ⟨rfl, hb⟩
        have ha : Below w4.heap.size w4 (w4.alloc (.cells #[.int .i64 ae, .int .i64 am, .int .i64 oe, .int .i64 om, .int .i64 am, .int .i64 0, .slice none 0 0, .int .i64 0] 42)) := (Below.refl _ _).alloc (Nat.le_refl _) _
        have HRJ : Hid (RJ g bm w4.heap.size W (w4.alloc (.cells #[.int .i64 ae, .int .i64 am, .int .i64 oe, .int .i64 om, .int .i64 am, .int .i64 0, .slice none 0 0, .int .i64 0] 42)) (born ⟨ae, am⟩ ⟨oe, om⟩) none 0) :=
          ⟨(HL3.out.gr hb).gr ha, heap_alloc_last _ _, ⟨Rd.nil _ _, fun p hp => by cases hp⟩, (HB3.out.trans (hb.mono HB3.out.size)).trans (ha.mono (Nat.le_trans HB3.out.size hb.size)), HGE.out.1, HGE.out.2, Nat.le_trans HB3.out.size hb.size⟩
        clear hb ha k0 k1 m0 m1 HL3 HG03 HG13 HB3 HGE
        go_upto_region 10 with fail
        generalize w4.alloc (.cells #[.int .i64 ae, .int .i64 am, .int .i64 oe, .int .i64 om, .int .i64 am, .int .i64 0, .slice none 0 0, .int .i64 0] 42) = w5 at HRJ ⊢
        obtain ⟨b9, hb9⟩ : ∃ b, b = w4.heap.size := ⟨_, rfl⟩
        rw [← hb9] at HRJ ⊢
        clear hb9
        go_wp2_with fail
        refine (HA.out _).mono ?_
        rintro e w6 ⟨rfl, hb⟩
        have HRJ6 := Lib.hid (HRJ.out.gr hb)
        clear hb HRJ HA
        obtain ⟨S0, hS0⟩ : ∃ S, S = born ⟨ae, am⟩ ⟨oe, om⟩ := ⟨_, rfl⟩
        rw [← hS0] at HRJ6
        clear hS0 HOK
        go_wp2_with fail
        go_loopw [10, 14] (fun xv iv wr => ∃ (i g bm : Nat) (S : Li) (A : Option Addr) (C : Nat), i ≤ n ∧ i ≤ 20 ∧ iv = .int .i64 (i : Int) ∧ xv = .pointer (some ⟨g, 0, none⟩) ∧ RJ g bm b9 W wr S A C) (fun _ iv _ => n - (intOf iv).toNat)
        case atStart => exact ⟨0, g, bm, S0, none, 0, Nat.zero_le _, Nat.zero_le _, rfl, rfl, HRJ6.out⟩
        case round =>
          clear HRJ6
          obtain ⟨i, g1, b1, S, A, C, hin, hi20, hiv, hxv, hrj⟩ := hrel
          subst hiv hxv
          have HJ := Lib.hid hrj
          clear hrj
          by_cases hlt : i < n
          · by_cases hlt2 : i < 20
            · obtain ⟨b, o, ⟨qm, ql, qr, qa⟩, rfl, hbl, hqi, hcc⟩ := ask_at HQ.out hlt
              dsimp only at hcc
              have HCC := Lib.hid hcc
              have hqt : ql.toNat < 256 := UInt8.toNat_lt _
              have hi256 : (i : Int) < 20 := by omega
              have hst := HJ.out.lim.ok.t0
              have hst1 := HJ.out.lim.ok.t1
              unfold top at hst1
              obtain ⟨AT, hAT⟩ : ∃ x, S.t + (ql.toNat : Int) = x := ⟨_, rfl⟩
              have HP : Hid (IntKind.i64.wrap (ql.toNat : Int) = (ql.toNat : Int) ∧ IntKind.i64.wrap (S.t + (ql.toNat : Int)) = AT) :=
                ⟨IntWalk.i64_in _ (by omega), by rw [hAT]; exact IntWalk.i64_in _ (by omega)⟩
              have x9 : wrap64 ((i : Int) + 1) = (i : Int) + 1 := wrap64_in (by omega) (by omega)
              clear hcc hbl hqi hqt hst hst1 hAT
              obtain ⟨w7, hw7⟩ : ∃ x, x = wr := ⟨_, rfl⟩
              subst hw7
              go_wp2_with fail
              refine (fork_any g1 b1 w7 HJ.out.lim).mono ?_
              rintro e w8 ⟨g2, b2, rfl, hg2, hb2, hl8, hb⟩
              have HJ8 := Lib.hid (HJ.out.gr hb)
              have HN8 : Hid (RJ g2 b2 b9 W w8 S A C) := ⟨hl8, HJ8.out.doc, HJ8.out.er, HJ8.out.bel, Nat.le_trans HJ.out.bel.size hg2, Nat.le_trans HJ.out.bel.size hb2, HJ.out.ge.2.2⟩
              have HNE : Hid (g2 ≠ g1 ∧ g2 ≠ b1 ∧ b2 ≠ g1 ∧ b2 ≠ b1) := by
                have h1 := HJ.out.lim.lt
                refine ⟨?_, ?_, ?_, ?_⟩ <;> omega
              have HM9 : Hid (∀ w, Calls Try.prog 23 #[.int .u8 9] w fun e w' => e = .returned (.agg #[.int .u8 2, .int .u8 0, .int .u8 0, .int .u8 0, .int .u8 0, .int .u8 9]) ∧ Below w.heap.size w w') := fun w => mac_any 9 w
              have HL9 := Lib.hid (fun w => lim_allow (S := S) g1 b1 S.t (.int .u8 2) (.int .u8 0) (.int .u8 0) (.int .u8 0) (.int .u8 0) (.int .u8 9) (macL 9) rfl w)
              clear hl8 hb hg2 hb2 HJ
              go_upto_region 20 with fail
              have HC : Hid (Gr w8 w8.drew) := Gr.drew w8
              refine wp_region_G 4 Gr (by kernel_rfl) ?_
              generalize w8.drew = wc at HC ⊢
              -- 0: slot 96
              refine wpG_take preGr (i := 0) (v := ?_) (by kernel_rfl) (some 96) (by kernel_rfl) rfl (by kernel_rfl) (by kernel_rfl) (by kernel_rfl) (fun _ _ _ h => h) (by rfl) (fun w' hw' => ?_) rfl ?_
              rotate_left
              · try (have hxw := HJ8.out.gr (Gr.trans HC.out hw'); have hq8 := cells8 hxw.doc; obtain ⟨k0, k1, k2, k3, k4, k5, k6, k7⟩ := hq8; clear hxw)
                go_simp
                with_reducible rfl
              simp only [Act.put, List.setIfInBounds_toArray, List.set_cons_zero, List.set_cons_succ]
              -- 2: slot 98
              refine wpG_take preGr (i := 2) (v := ?_) (by kernel_rfl) (some 98) (by kernel_rfl) rfl (by kernel_rfl) (by kernel_rfl) (by kernel_rfl) (fun _ _ _ h => h) (by rfl) (fun w' hw' => ?_) rfl ?_
              rotate_left
              · try (have hxw := HJ8.out.gr (Gr.trans HC.out hw'); have hq8 := cells8 hxw.doc; obtain ⟨k0, k1, k2, k3, k4, k5, k6, k7⟩ := hq8; clear hxw)
                go_simp
                with_reducible rfl
              simp only [Act.put, List.setIfInBounds_toArray, List.set_cons_zero, List.set_cons_succ]
              -- 3: slot 99
              refine wpG_take preGr (i := 3) (v := ?_) (by kernel_rfl) (some 99) (by kernel_rfl) rfl (by kernel_rfl) (by kernel_rfl) (by kernel_rfl) (fun _ _ _ h => h) (by rfl) (fun w' hw' => ?_) rfl ?_
              rotate_left
              · try (have hxw := HJ8.out.gr (Gr.trans HC.out hw'); have hq8 := cells8 hxw.doc; obtain ⟨k0, k1, k2, k3, k4, k5, k6, k7⟩ := hq8; clear hxw)
                go_simp
                with_reducible rfl
              simp only [Act.put, List.setIfInBounds_toArray, List.set_cons_zero, List.set_cons_succ]
              refine wpG_one (i := 1) rfl (by kernel_rfl) (by rfl) ?_
              go_simp
              refine (HM9.out wc).mono ?_
              rintro e wn ⟨rfl, hb⟩
              refine ⟨hb, ?_⟩
              have HC' : Hid (Gr w8 wn) := Gr.trans HC.out hb
              clear HC hb
              have HC := HC'
              clear HC'
              obtain ⟨wc, hwc⟩ : ∃ x, x = wn := ⟨_, rfl⟩
              subst hwc
              try simp only [Act.put, List.setIfInBounds_toArray, List.set_cons_zero, List.set_cons_succ]
              refine wpG_tail (i := 4) (by decide) rfl (by kernel_rfl) (by rfl) ?_
              go_simp
              refine (HL9.out wc (HJ8.out.gr HC.out).lim).mono ?_
              rintro e w9 ⟨rfl, hl9, ht9⟩
              have HN9 := Lib.hid (other (HJ8.out.gr HC.out) (HN8.out.gr HC.out) HNE.out ht9)
              clear hl9 ht9
              try simp only [Act.put, List.setIfInBounds_toArray, List.set_cons_zero, List.set_cons_succ]
              refine wpG_done (by kernel_rfl) ?_ _
              clear HC HJ8 HN8 HNE HM9 HL9
              obtain ⟨T, hT⟩ : ∃ T, T = (allow S (macL qm) AT).1 := ⟨_, rfl⟩
              obtain ⟨X, hX⟩ : ∃ X, X = (allow S (macL qm) AT).2 := ⟨_, rfl⟩
              have LA := fun w => lim_allow (S := S) g2 b2 AT _ _ _ _ _ _ (macL qm) (macL_is qm) w
              have RA : Hid (∀ w, ER w (.slice A S.es.length C) S.es → _) := fun w h => rallow_any HN9.out.lim.ok HN9.out.lim.few A S.es.length C AT _ _ _ _ _ _ (macL qm) (macL_is qm) w h
              rw [← hT, ← hX] at LA
              rw [← hT, ← hX] at RA
              have HLA := Lib.hid LA
              clear LA hT hX
              go_upto_region 22 with fail
              obtain ⟨p0, p1⟩ := HP.out
              have HC : Hid (Gr w9 w9.drew) := Gr.drew w9
              refine wp_region_G 16 Gr (by kernel_rfl) ?_
              generalize w9.drew = wc at HC ⊢
              -- 0: slot 102
              refine wpG_take preGr (i := 0) (v := ?_) (by kernel_rfl) (some 102) (by kernel_rfl) rfl (by kernel_rfl) (by kernel_rfl) (by kernel_rfl) (fun _ _ _ h => h) (by rfl) (fun w' hw' => ?_) rfl ?_
              rotate_left
              · try (have hxw := HN9.out.gr (Gr.trans HC.out hw'); have hq8 := cells8 hxw.doc; obtain ⟨k0, k1, k2, k3, k4, k5, k6, k7⟩ := hq8; have hqc := HCC.out _ hxw.bel; obtain ⟨c0, c1, c2, c3⟩ := hqc; clear hxw)
                go_simp
                with_reducible rfl
              simp only [Act.put, List.setIfInBounds_toArray, List.set_cons_zero, List.set_cons_succ]
              -- 1: slot 103
              refine wpG_take preGr (i := 1) (v := ?_) (by kernel_rfl) (some 103) (by kernel_rfl) rfl (by kernel_rfl) (by kernel_rfl) (by kernel_rfl) (fun _ _ _ h => h) (by rfl) (fun w' hw' => ?_) rfl ?_
              rotate_left
              · try (have hxw := HN9.out.gr (Gr.trans HC.out hw'); have hq8 := cells8 hxw.doc; obtain ⟨k0, k1, k2, k3, k4, k5, k6, k7⟩ := hq8; have hqc := HCC.out _ hxw.bel; obtain ⟨c0, c1, c2, c3⟩ := hqc; clear hxw)
                go_simp
                with_reducible rfl
              simp only [Act.put, List.setIfInBounds_toArray, List.set_cons_zero, List.set_cons_succ]
              -- 2: slot 104
              refine wpG_take preGr (i := 2) (v := ?_) (by kernel_rfl) (some 104) (by kernel_rfl) rfl (by kernel_rfl) (by kernel_rfl) (by kernel_rfl) (fun _ _ _ h => h) (by rfl) (fun w' hw' => ?_) rfl ?_
              rotate_left
              · try (have hxw := HN9.out.gr (Gr.trans HC.out hw'); have hq8 := cells8 hxw.doc; obtain ⟨k0, k1, k2, k3, k4, k5, k6, k7⟩ := hq8; have hqc := HCC.out _ hxw.bel; obtain ⟨c0, c1, c2, c3⟩ := hqc; clear hxw)
                go_simp
                with_reducible rfl
              simp only [Act.put, List.setIfInBounds_toArray, List.set_cons_zero, List.set_cons_succ]
              -- 3: slot 105
              refine wpG_take preGr (i := 3) (v := ?_) (by kernel_rfl) (some 105) (by kernel_rfl) rfl (by kernel_rfl) (by kernel_rfl) (by kernel_rfl) (fun _ _ _ h => h) (by rfl) (fun w' hw' => ?_) rfl ?_
              rotate_left
              · try (have hxw := HN9.out.gr (Gr.trans HC.out hw'); have hq8 := cells8 hxw.doc; obtain ⟨k0, k1, k2, k3, k4, k5, k6, k7⟩ := hq8; have hqc := HCC.out _ hxw.bel; obtain ⟨c0, c1, c2, c3⟩ := hqc; clear hxw)
                go_simp
                with_reducible rfl
              simp only [Act.put, List.setIfInBounds_toArray, List.set_cons_zero, List.set_cons_succ]
              -- 4: slot 106
              refine wpG_take preGr (i := 4) (v := ?_) (by kernel_rfl) (some 106) (by kernel_rfl) rfl (by kernel_rfl) (by kernel_rfl) (by kernel_rfl) (fun _ _ _ h => h) (by rfl) (fun w' hw' => ?_) rfl ?_
              rotate_left
              · try (have hxw := HN9.out.gr (Gr.trans HC.out hw'); have hq8 := cells8 hxw.doc; obtain ⟨k0, k1, k2, k3, k4, k5, k6, k7⟩ := hq8; have hqc := HCC.out _ hxw.bel; obtain ⟨c0, c1, c2, c3⟩ := hqc; clear hxw)
                go_simp
                with_reducible rfl
              simp only [Act.put, List.setIfInBounds_toArray, List.set_cons_zero, List.set_cons_succ]
              -- 5: slot 107
              refine wpG_take preGr (i := 5) (v := ?_) (by kernel_rfl) (some 107) (by kernel_rfl) rfl (by kernel_rfl) (by kernel_rfl) (by kernel_rfl) (fun _ _ _ h => h) (by rfl) (fun w' hw' => ?_) rfl ?_
              rotate_left
              · try (have hxw := HN9.out.gr (Gr.trans HC.out hw'); have hq8 := cells8 hxw.doc; obtain ⟨k0, k1, k2, k3, k4, k5, k6, k7⟩ := hq8; have hqc := HCC.out _ hxw.bel; obtain ⟨c0, c1, c2, c3⟩ := hqc; clear hxw)
                go_simp
                with_reducible rfl
              simp only [Act.put, List.setIfInBounds_toArray, List.set_cons_zero, List.set_cons_succ]
              -- 7: slot 109
              refine wpG_take preGr (i := 7) (v := ?_) (by kernel_rfl) (some 109) (by kernel_rfl) rfl (by kernel_rfl) (by kernel_rfl) (by kernel_rfl) (fun _ _ _ h => h) (by rfl) (fun w' hw' => ?_) rfl ?_
              rotate_left
              · try (have hxw := HN9.out.gr (Gr.trans HC.out hw'); have hq8 := cells8 hxw.doc; obtain ⟨k0, k1, k2, k3, k4, k5, k6, k7⟩ := hq8; have hqc := HCC.out _ hxw.bel; obtain ⟨c0, c1, c2, c3⟩ := hqc; clear hxw)
                go_simp
                with_reducible rfl
              simp only [Act.put, List.setIfInBounds_toArray, List.set_cons_zero, List.set_cons_succ]
              -- 8: slot 110
              refine wpG_take preGr (i := 8) (v := ?_) (by kernel_rfl) (some 110) (by kernel_rfl) rfl (by kernel_rfl) (by kernel_rfl) (by kernel_rfl) (fun _ _ _ h => h) (by rfl) (fun w' hw' => ?_) rfl ?_
              rotate_left
              · try (have hxw := HN9.out.gr (Gr.trans HC.out hw'); have hq8 := cells8 hxw.doc; obtain ⟨k0, k1, k2, k3, k4, k5, k6, k7⟩ := hq8; have hqc := HCC.out _ hxw.bel; obtain ⟨c0, c1, c2, c3⟩ := hqc; clear hxw)
                go_simp
                with_reducible rfl
              simp only [Act.put, List.setIfInBounds_toArray, List.set_cons_zero, List.set_cons_succ]
              -- 9: slot 111
              refine wpG_take preGr (i := 9) (v := ?_) (by kernel_rfl) (some 111) (by kernel_rfl) rfl (by kernel_rfl) (by kernel_rfl) (by kernel_rfl) (fun _ _ _ h => h) (by rfl) (fun w' hw' => ?_) rfl ?_
              rotate_left
              · try (have hxw := HN9.out.gr (Gr.trans HC.out hw'); have hq8 := cells8 hxw.doc; obtain ⟨k0, k1, k2, k3, k4, k5, k6, k7⟩ := hq8; have hqc := HCC.out _ hxw.bel; obtain ⟨c0, c1, c2, c3⟩ := hqc; clear hxw)
                go_simp
                with_reducible rfl
              simp only [Act.put, List.setIfInBounds_toArray, List.set_cons_zero, List.set_cons_succ]
              -- 10: slot 112
              refine wpG_take preGr (i := 10) (v := ?_) (by kernel_rfl) (some 112) (by kernel_rfl) rfl (by kernel_rfl) (by kernel_rfl) (by kernel_rfl) (fun _ _ _ h => h) (by rfl) (fun w' hw' => ?_) rfl ?_
              rotate_left
              · try (have hxw := HN9.out.gr (Gr.trans HC.out hw'); have hq8 := cells8 hxw.doc; obtain ⟨k0, k1, k2, k3, k4, k5, k6, k7⟩ := hq8; have hqc := HCC.out _ hxw.bel; obtain ⟨c0, c1, c2, c3⟩ := hqc; clear hxw)
                go_simp
                with_reducible rfl
              simp only [Act.put, List.setIfInBounds_toArray, List.set_cons_zero, List.set_cons_succ]
              -- 11: slot 113
              refine wpG_take preGr (i := 11) (v := ?_) (by kernel_rfl) (some 113) (by kernel_rfl) rfl (by kernel_rfl) (by kernel_rfl) (by kernel_rfl) (fun _ _ _ h => h) (by rfl) (fun w' hw' => ?_) rfl ?_
              rotate_left
              · try (have hxw := HN9.out.gr (Gr.trans HC.out hw'); have hq8 := cells8 hxw.doc; obtain ⟨k0, k1, k2, k3, k4, k5, k6, k7⟩ := hq8; have hqc := HCC.out _ hxw.bel; obtain ⟨c0, c1, c2, c3⟩ := hqc; clear hxw)
                go_simp
                with_reducible rfl
              simp only [Act.put, List.setIfInBounds_toArray, List.set_cons_zero, List.set_cons_succ]
              -- 12: slot 114
              refine wpG_take preGr (i := 12) (v := ?_) (by kernel_rfl) (some 114) (by kernel_rfl) rfl (by kernel_rfl) (by kernel_rfl) (by kernel_rfl) (fun _ _ _ h => h) (by rfl) (fun w' hw' => ?_) rfl ?_
              rotate_left
              · try (have hxw := HN9.out.gr (Gr.trans HC.out hw'); have hq8 := cells8 hxw.doc; obtain ⟨k0, k1, k2, k3, k4, k5, k6, k7⟩ := hq8; have hqc := HCC.out _ hxw.bel; obtain ⟨c0, c1, c2, c3⟩ := hqc; clear hxw)
                go_simp
                with_reducible rfl
              simp only [Act.put, List.setIfInBounds_toArray, List.set_cons_zero, List.set_cons_succ]
              -- 13: slot 115
              refine wpG_take preGr (i := 13) (v := ?_) (by kernel_rfl) (some 115) (by kernel_rfl) rfl (by kernel_rfl) (by kernel_rfl) (by kernel_rfl) (fun _ _ _ h => h) (by rfl) (fun w' hw' => ?_) rfl ?_
              rotate_left
              · try (have hxw := HN9.out.gr (Gr.trans HC.out hw'); have hq8 := cells8 hxw.doc; obtain ⟨k0, k1, k2, k3, k4, k5, k6, k7⟩ := hq8; have hqc := HCC.out _ hxw.bel; obtain ⟨c0, c1, c2, c3⟩ := hqc; clear hxw)
                go_simp
                with_reducible rfl
              simp only [Act.put, List.setIfInBounds_toArray, List.set_cons_zero, List.set_cons_succ]
              -- 14: slot 116
              refine wpG_take preGr (i := 14) (v := ?_) (by kernel_rfl) (some 116) (by kernel_rfl) rfl (by kernel_rfl) (by kernel_rfl) (by kernel_rfl) (fun _ _ _ h => h) (by rfl) (fun w' hw' => ?_) rfl ?_
              rotate_left
              · try (have hxw := HN9.out.gr (Gr.trans HC.out hw'); have hq8 := cells8 hxw.doc; obtain ⟨k0, k1, k2, k3, k4, k5, k6, k7⟩ := hq8; have hqc := HCC.out _ hxw.bel; obtain ⟨c0, c1, c2, c3⟩ := hqc; clear hxw)
                go_simp
                with_reducible rfl
              simp only [Act.put, List.setIfInBounds_toArray, List.set_cons_zero, List.set_cons_succ]
              -- 15: slot 117
              refine wpG_take preGr (i := 15) (v := ?_) (by kernel_rfl) (some 117) (by kernel_rfl) rfl (by kernel_rfl) (by kernel_rfl) (by kernel_rfl) (fun _ _ _ h => h) (by rfl) (fun w' hw' => ?_) rfl ?_
              rotate_left
              · try (have hxw := HN9.out.gr (Gr.trans HC.out hw'); have hq8 := cells8 hxw.doc; obtain ⟨k0, k1, k2, k3, k4, k5, k6, k7⟩ := hq8; have hqc := HCC.out _ hxw.bel; obtain ⟨c0, c1, c2, c3⟩ := hqc; clear hxw)
                go_simp
                with_reducible rfl
              simp only [Act.put, List.setIfInBounds_toArray, List.set_cons_zero, List.set_cons_succ]
              refine wpG_one (i := 6) rfl (by kernel_rfl) (by rfl) ?_
              go_simp
              refine (mac_any qm wc).mono ?_
              rintro e wn ⟨rfl, hb⟩
              refine ⟨hb, ?_⟩
              have HC' : Hid (Gr w9 wn) := Gr.trans HC.out hb
              clear HC hb
              have HC := HC'
              clear HC'
              obtain ⟨wc, hwc⟩ : ∃ x, x = wn := ⟨_, rfl⟩
              subst hwc
              try simp only [Act.put, List.setIfInBounds_toArray, List.set_cons_zero, List.set_cons_succ]
              refine wpG_tail (i := 16) (by decide) rfl (by kernel_rfl) (by rfl) ?_
              go_simp
              refine (HLA.out wc (HN9.out.gr HC.out).lim).mono ?_
              rintro e w10 ⟨rfl, hl10, ht10⟩
              have HK10 := Lib.hid ((HN9.out.gr HC.out).tu hl10 ht10)
              clear hl10 ht10
              try simp only [Act.put, List.setIfInBounds_toArray, List.set_cons_zero, List.set_cons_succ]
              refine wpG_tail (i := 17) (by decide) rfl (by kernel_rfl) (by rfl) ?_
              go_simp
              try simp only [Act.put, List.setIfInBounds_toArray, List.set_cons_zero, List.set_cons_succ]
              refine wpG_done (by kernel_rfl) ?_ _
              have HGE : Hid (W.heap.size ≤ g2 ∧ W.heap.size ≤ b2 ∧ W.heap.size ≤ b9) := HN9.out.ge
              obtain ⟨w7, hw7⟩ : ∃ x, x = w10 := ⟨_, rfl⟩
              subst hw7
              have HK7 := HK10
              clear HK10 HC HN9 HLA
              go_upto_region 23 with fail
              go_cut [17, 18] (fun s15 s16 wx => ∃ g15 A2 C2, s15 = .pointer (some ⟨g15, 0, none⟩) ∧ s16 = .bool X ∧ Hid (wx.heap[g15]? = some (.cells #[.int .i64 T.all.e, .int .i64 T.all.m, .int .i64 T.own.e, .int .i64 T.own.m, .int .i64 T.b.k, .int .i64 T.b.t, .slice A2 T.es.length C2, .int .i64 T.t] 42 (0, 0))) ∧ Hid (ER wx (.slice A2 T.es.length C2) T.es) ∧ Hid (Gr w7 wx) ∧ Hid (w7.heap.size ≤ g15))
              case first =>
                have HC : Hid (Gr w7 w7.drew) := Gr.drew w7
                refine wp_region_G 23 (Below (w7.heap.size)) (by kernel_rfl) ?_
                generalize w7.drew = wc at HC ⊢
                -- 0: slot 120
                refine wpG_take (preBelow (w7.heap.size)) (i := 0) (v := ?_) (by kernel_rfl) (some 120) (by kernel_rfl) rfl (by kernel_rfl) (by kernel_rfl) (by kernel_rfl) (fun _ _ _ h => h) (by rfl) (fun w' hw' => ?_) rfl ?_
                rotate_left
                · try (have hxx := HK7.out.gr (Below.trans HC.out hw'); have hq8 := cells8 hxx.doc; obtain ⟨k0, k1, k2, k3, k4, k5, k6, k7⟩ := hq8; have hqc := HCC.out _ hxx.bel; obtain ⟨c0, c1, c2, c3⟩ := hqc; clear hxx)
                  go_simp
                  with_reducible rfl
                simp only [Act.put, List.setIfInBounds_toArray, List.set_cons_zero, List.set_cons_succ]
                -- 1: slot 121
                refine wpG_take (preBelow (w7.heap.size)) (i := 1) (v := ?_) (by kernel_rfl) (some 121) (by kernel_rfl) rfl (by kernel_rfl) (by kernel_rfl) (by kernel_rfl) (fun _ _ _ h => h) (by rfl) (fun w' hw' => ?_) rfl ?_
                rotate_left
                · try (have hxx := HK7.out.gr (Below.trans HC.out hw'); have hq8 := cells8 hxx.doc; obtain ⟨k0, k1, k2, k3, k4, k5, k6, k7⟩ := hq8; have hqc := HCC.out _ hxx.bel; obtain ⟨c0, c1, c2, c3⟩ := hqc; clear hxx)
                  go_simp
                  with_reducible rfl
                simp only [Act.put, List.setIfInBounds_toArray, List.set_cons_zero, List.set_cons_succ]
                -- 2: slot 122
                refine wpG_take (preBelow (w7.heap.size)) (i := 2) (v := ?_) (by kernel_rfl) (some 122) (by kernel_rfl) rfl (by kernel_rfl) (by kernel_rfl) (by kernel_rfl) (fun _ _ _ h => h) (by rfl) (fun w' hw' => ?_) rfl ?_
                rotate_left
                · try (have hxx := HK7.out.gr (Below.trans HC.out hw'); have hq8 := cells8 hxx.doc; obtain ⟨k0, k1, k2, k3, k4, k5, k6, k7⟩ := hq8; have hqc := HCC.out _ hxx.bel; obtain ⟨c0, c1, c2, c3⟩ := hqc; clear hxx)
                  go_simp
                  with_reducible rfl
                simp only [Act.put, List.setIfInBounds_toArray, List.set_cons_zero, List.set_cons_succ]
                -- 3: slot 123
                refine wpG_take (preBelow (w7.heap.size)) (i := 3) (v := ?_) (by kernel_rfl) (some 123) (by kernel_rfl) rfl (by kernel_rfl) (by kernel_rfl) (by kernel_rfl) (fun _ _ _ h => h) (by rfl) (fun w' hw' => ?_) rfl ?_
                rotate_left
                · try (have hxx := HK7.out.gr (Below.trans HC.out hw'); have hq8 := cells8 hxx.doc; obtain ⟨k0, k1, k2, k3, k4, k5, k6, k7⟩ := hq8; have hqc := HCC.out _ hxx.bel; obtain ⟨c0, c1, c2, c3⟩ := hqc; clear hxx)
                  go_simp
                  with_reducible rfl
                simp only [Act.put, List.setIfInBounds_toArray, List.set_cons_zero, List.set_cons_succ]
                -- 4: slot 124
                refine wpG_take (preBelow (w7.heap.size)) (i := 4) (v := ?_) (by kernel_rfl) (some 124) (by kernel_rfl) rfl (by kernel_rfl) (by kernel_rfl) (by kernel_rfl) (fun _ _ _ h => h) (by rfl) (fun w' hw' => ?_) rfl ?_
                rotate_left
                · try (have hxx := HK7.out.gr (Below.trans HC.out hw'); have hq8 := cells8 hxx.doc; obtain ⟨k0, k1, k2, k3, k4, k5, k6, k7⟩ := hq8; have hqc := HCC.out _ hxx.bel; obtain ⟨c0, c1, c2, c3⟩ := hqc; clear hxx)
                  go_simp
                  with_reducible rfl
                simp only [Act.put, List.setIfInBounds_toArray, List.set_cons_zero, List.set_cons_succ]
                -- 5: slot 125
                refine wpG_take (preBelow (w7.heap.size)) (i := 5) (v := ?_) (by kernel_rfl) (some 125) (by kernel_rfl) rfl (by kernel_rfl) (by kernel_rfl) (by kernel_rfl) (fun _ _ _ h => h) (by rfl) (fun w' hw' => ?_) rfl ?_
                rotate_left
                · try (have hxx := HK7.out.gr (Below.trans HC.out hw'); have hq8 := cells8 hxx.doc; obtain ⟨k0, k1, k2, k3, k4, k5, k6, k7⟩ := hq8; have hqc := HCC.out _ hxx.bel; obtain ⟨c0, c1, c2, c3⟩ := hqc; clear hxx)
                  go_simp
                  with_reducible rfl
                simp only [Act.put, List.setIfInBounds_toArray, List.set_cons_zero, List.set_cons_succ]
                -- 7: slot 127
                refine wpG_take (preBelow (w7.heap.size)) (i := 7) (v := ?_) (by kernel_rfl) (some 127) (by kernel_rfl) rfl (by kernel_rfl) (by kernel_rfl) (by kernel_rfl) (fun _ _ _ h => h) (by rfl) (fun w' hw' => ?_) rfl ?_
                rotate_left
                · try (have hxx := HK7.out.gr (Below.trans HC.out hw'); have hq8 := cells8 hxx.doc; obtain ⟨k0, k1, k2, k3, k4, k5, k6, k7⟩ := hq8; have hqc := HCC.out _ hxx.bel; obtain ⟨c0, c1, c2, c3⟩ := hqc; clear hxx)
                  go_simp
                  with_reducible rfl
                simp only [Act.put, List.setIfInBounds_toArray, List.set_cons_zero, List.set_cons_succ]
                -- 8: slot 128
                refine wpG_take (preBelow (w7.heap.size)) (i := 8) (v := ?_) (by kernel_rfl) (some 128) (by kernel_rfl) rfl (by kernel_rfl) (by kernel_rfl) (by kernel_rfl) (fun _ _ _ h => h) (by rfl) (fun w' hw' => ?_) rfl ?_
                rotate_left
                · try (have hxx := HK7.out.gr (Below.trans HC.out hw'); have hq8 := cells8 hxx.doc; obtain ⟨k0, k1, k2, k3, k4, k5, k6, k7⟩ := hq8; have hqc := HCC.out _ hxx.bel; obtain ⟨c0, c1, c2, c3⟩ := hqc; clear hxx)
                  go_simp
                  with_reducible rfl
                simp only [Act.put, List.setIfInBounds_toArray, List.set_cons_zero, List.set_cons_succ]
                -- 9: slot 129
                refine wpG_take (preBelow (w7.heap.size)) (i := 9) (v := ?_) (by kernel_rfl) (some 129) (by kernel_rfl) rfl (by kernel_rfl) (by kernel_rfl) (by kernel_rfl) (fun _ _ _ h => h) (by rfl) (fun w' hw' => ?_) rfl ?_
                rotate_left
                · try (have hxx := HK7.out.gr (Below.trans HC.out hw'); have hq8 := cells8 hxx.doc; obtain ⟨k0, k1, k2, k3, k4, k5, k6, k7⟩ := hq8; have hqc := HCC.out _ hxx.bel; obtain ⟨c0, c1, c2, c3⟩ := hqc; clear hxx)
                  go_simp
                  with_reducible rfl
                simp only [Act.put, List.setIfInBounds_toArray, List.set_cons_zero, List.set_cons_succ]
                -- 10: slot 130
                refine wpG_take (preBelow (w7.heap.size)) (i := 10) (v := ?_) (by kernel_rfl) (some 130) (by kernel_rfl) rfl (by kernel_rfl) (by kernel_rfl) (by kernel_rfl) (fun _ _ _ h => h) (by rfl) (fun w' hw' => ?_) rfl ?_
                rotate_left
                · try (have hxx := HK7.out.gr (Below.trans HC.out hw'); have hq8 := cells8 hxx.doc; obtain ⟨k0, k1, k2, k3, k4, k5, k6, k7⟩ := hq8; have hqc := HCC.out _ hxx.bel; obtain ⟨c0, c1, c2, c3⟩ := hqc; clear hxx)
                  go_simp
                  with_reducible rfl
                simp only [Act.put, List.setIfInBounds_toArray, List.set_cons_zero, List.set_cons_succ]
                -- 11: slot 131
                refine wpG_take (preBelow (w7.heap.size)) (i := 11) (v := ?_) (by kernel_rfl) (some 131) (by kernel_rfl) rfl (by kernel_rfl) (by kernel_rfl) (by kernel_rfl) (fun _ _ _ h => h) (by rfl) (fun w' hw' => ?_) rfl ?_
                rotate_left
                · try (have hxx := HK7.out.gr (Below.trans HC.out hw'); have hq8 := cells8 hxx.doc; obtain ⟨k0, k1, k2, k3, k4, k5, k6, k7⟩ := hq8; have hqc := HCC.out _ hxx.bel; obtain ⟨c0, c1, c2, c3⟩ := hqc; clear hxx)
                  go_simp
                  with_reducible rfl
                simp only [Act.put, List.setIfInBounds_toArray, List.set_cons_zero, List.set_cons_succ]
                -- 12: slot 132
                refine wpG_take (preBelow (w7.heap.size)) (i := 12) (v := ?_) (by kernel_rfl) (some 132) (by kernel_rfl) rfl (by kernel_rfl) (by kernel_rfl) (by kernel_rfl) (fun _ _ _ h => h) (by rfl) (fun w' hw' => ?_) rfl ?_
                rotate_left
                · try (have hxx := HK7.out.gr (Below.trans HC.out hw'); have hq8 := cells8 hxx.doc; obtain ⟨k0, k1, k2, k3, k4, k5, k6, k7⟩ := hq8; have hqc := HCC.out _ hxx.bel; obtain ⟨c0, c1, c2, c3⟩ := hqc; clear hxx)
                  go_simp
                  with_reducible rfl
                simp only [Act.put, List.setIfInBounds_toArray, List.set_cons_zero, List.set_cons_succ]
                -- 13: slot 133
                refine wpG_take (preBelow (w7.heap.size)) (i := 13) (v := ?_) (by kernel_rfl) (some 133) (by kernel_rfl) rfl (by kernel_rfl) (by kernel_rfl) (by kernel_rfl) (fun _ _ _ h => h) (by rfl) (fun w' hw' => ?_) rfl ?_
                rotate_left
                · try (have hxx := HK7.out.gr (Below.trans HC.out hw'); have hq8 := cells8 hxx.doc; obtain ⟨k0, k1, k2, k3, k4, k5, k6, k7⟩ := hq8; have hqc := HCC.out _ hxx.bel; obtain ⟨c0, c1, c2, c3⟩ := hqc; clear hxx)
                  go_simp
                  with_reducible rfl
                simp only [Act.put, List.setIfInBounds_toArray, List.set_cons_zero, List.set_cons_succ]
                -- 14: slot 134
                refine wpG_take (preBelow (w7.heap.size)) (i := 14) (v := ?_) (by kernel_rfl) (some 134) (by kernel_rfl) rfl (by kernel_rfl) (by kernel_rfl) (by kernel_rfl) (fun _ _ _ h => h) (by rfl) (fun w' hw' => ?_) rfl ?_
                rotate_left
                · try (have hxx := HK7.out.gr (Below.trans HC.out hw'); have hq8 := cells8 hxx.doc; obtain ⟨k0, k1, k2, k3, k4, k5, k6, k7⟩ := hq8; have hqc := HCC.out _ hxx.bel; obtain ⟨c0, c1, c2, c3⟩ := hqc; clear hxx)
                  go_simp
                  with_reducible rfl
                simp only [Act.put, List.setIfInBounds_toArray, List.set_cons_zero, List.set_cons_succ]
                -- 15: slot 135
                refine wpG_take (preBelow (w7.heap.size)) (i := 15) (v := ?_) (by kernel_rfl) (some 135) (by kernel_rfl) rfl (by kernel_rfl) (by kernel_rfl) (by kernel_rfl) (fun _ _ _ h => h) (by rfl) (fun w' hw' => ?_) rfl ?_
                rotate_left
                · try (have hxx := HK7.out.gr (Below.trans HC.out hw'); have hq8 := cells8 hxx.doc; obtain ⟨k0, k1, k2, k3, k4, k5, k6, k7⟩ := hq8; have hqc := HCC.out _ hxx.bel; obtain ⟨c0, c1, c2, c3⟩ := hqc; clear hxx)
                  go_simp
                  with_reducible rfl
                simp only [Act.put, List.setIfInBounds_toArray, List.set_cons_zero, List.set_cons_succ]
                refine wpG_two (i := 6) (j := 20) rfl rfl (by kernel_rfl) (by rfl) (by rfl) ?_ ?_
                · go_simp
                  refine (mac_any qm wc).mono ?_
                  rintro e wn ⟨rfl, hb⟩
                  refine ⟨hb.mono (Below.size HC.out), ?_⟩
                  try (have HK' := Lib.hid (heap_below HK.out hb); clear HK; have HK := HK'; clear HK')
                  have HC' : Hid (Gr w7 wn) := Below.trans HC.out (Below.mono hb (Below.size HC.out))
                  clear HC hb
                  have HC := HC'
                  clear HC'
                  obtain ⟨wc, hwc⟩ : ∃ x, x = wn := ⟨_, rfl⟩
                  subst hwc
                  try simp only [Act.put, List.setIfInBounds_toArray, List.set_cons_zero, List.set_cons_succ]
                  refine wpG_two (i := 16) (j := 20) rfl rfl (by kernel_rfl) (by rfl) (by rfl) ?_ ?_
                  · go_simp
                    refine (RA.out wc (HK7.out.gr HC.out).er).mono ?_
                    rintro e wn ⟨A2, n2, C2, rfl, her, hb⟩
                    have hn2 := her.len.1
                    subst hn2
                    refine ⟨hb.mono (Below.size HC.out), ?_⟩
                    try (have HK' := Lib.hid (heap_below HK.out hb); clear HK; have HK := HK'; clear HK')
                    have HER := Lib.hid her
                    have HC' : Hid (Gr w7 wn) := Below.trans HC.out (Below.mono hb (Below.size HC.out))
                    clear HC hb her
                    have HC := HC'
                    clear HC'
                    obtain ⟨wc, hwc⟩ : ∃ x, x = wn := ⟨_, rfl⟩
                    subst hwc
                    try simp only [Act.put, List.setIfInBounds_toArray, List.set_cons_zero, List.set_cons_succ]
                    -- 17: slot 119
                    refine wpG_take (preBelow (w7.heap.size)) (i := 17) (v := ?_) (by kernel_rfl) (some 119) (by kernel_rfl) rfl (by kernel_rfl) (by kernel_rfl) (by kernel_rfl) (fun _ _ _ h => h) (by rfl) (fun w' hw' => ?_) rfl ?_
                    rotate_left
                    · try (have hxx := HK7.out.gr (Below.trans HC.out hw'); have hq8 := cells8 hxx.doc; obtain ⟨k0, k1, k2, k3, k4, k5, k6, k7⟩ := hq8; have hqc := HCC.out _ hxx.bel; obtain ⟨c0, c1, c2, c3⟩ := hqc; clear hxx)
                      go_simp
                      with_reducible rfl
                    simp only [Act.put, List.setIfInBounds_toArray, List.set_cons_zero, List.set_cons_succ]
                    -- 18: slot 137
                    refine wpG_take (preBelow (w7.heap.size)) (i := 18) (v := ?_) (by kernel_rfl) (some 137) (by kernel_rfl) rfl (by kernel_rfl) (by kernel_rfl) (by kernel_rfl) (fun _ _ _ h => h) (by rfl) (fun w' hw' => ?_) rfl ?_
                    rotate_left
                    · try (have hxx := HK7.out.gr (Below.trans HC.out hw'); have hq8 := cells8 hxx.doc; obtain ⟨k0, k1, k2, k3, k4, k5, k6, k7⟩ := hq8; have hqc := HCC.out _ hxx.bel; obtain ⟨c0, c1, c2, c3⟩ := hqc; clear hxx)
                      go_simp
                      with_reducible rfl
                    simp only [Act.put, List.setIfInBounds_toArray, List.set_cons_zero, List.set_cons_succ]
                    -- 19: slot 138
                    refine wpG_take (preBelow (w7.heap.size)) (i := 19) (v := ?_) (by kernel_rfl) (some 138) (by kernel_rfl) rfl (by kernel_rfl) (by kernel_rfl) (by kernel_rfl) (fun _ _ _ h => h) (by rfl) (fun w' hw' => ?_) rfl ?_
                    rotate_left
                    · try (have hxx := HK7.out.gr (Below.trans HC.out hw'); have hq8 := cells8 hxx.doc; obtain ⟨k0, k1, k2, k3, k4, k5, k6, k7⟩ := hq8; have hqc := HCC.out _ hxx.bel; obtain ⟨c0, c1, c2, c3⟩ := hqc; clear hxx)
                      go_simp
                      with_reducible rfl
                    simp only [Act.put, List.setIfInBounds_toArray, List.set_cons_zero, List.set_cons_succ]
                    refine wpG_one (i := 20) rfl (by kernel_rfl) (by rfl) ?_
                    go_simp
                    have hb : Below wc.heap.size wc (wc.alloc (.cells #[.int .i64 0, .int .i64 0, .int .i64 0, .int .i64 0, .int .i64 0, .int .i64 0, .slice none 0 0, .int .i64 0] 42)) := (Below.refl _ _).alloc (Nat.le_refl _) _
                    refine ⟨hb.mono (Below.size HC.out), ?_⟩
                    have hk : (wc.alloc (.cells #[.int .i64 0, .int .i64 0, .int .i64 0, .int .i64 0, .int .i64 0, .int .i64 0, .slice none 0 0, .int .i64 0] 42)).heap[wc.heap.size]? = some (.cells #[.int .i64 0, .int .i64 0, .int .i64 0, .int .i64 0, .int .i64 0, .int .i64 0, .slice none 0 0, .int .i64 0] 42 (0, 0)) := heap_alloc_last _ _
                    have hgb : w7.heap.size ≤ wc.heap.size := Below.size HC.out
                    try (have HER' := Lib.hid (HER.out.below hb); clear HER; have HER := HER'; clear HER')
                    generalize wc.alloc (.cells #[.int .i64 0, .int .i64 0, .int .i64 0, .int .i64 0, .int .i64 0, .int .i64 0, .slice none 0 0, .int .i64 0] 42) = wn at *
                    have HC' : Hid (Gr w7 wn) := Below.trans HC.out (Below.mono hb (Below.size HC.out))
                    clear HC
                    have HC := HC'
                    clear HC'
                    obtain ⟨gk, hgk⟩ : ∃ g, g = wc.heap.size := ⟨_, rfl⟩
                    rw [← hgk] at hk hgb ⊢
                    have HK := Lib.hid hk
                    have HGB := Lib.hid hgb
                    clear hgk hb hk hgb
                    obtain ⟨wc, hwc⟩ : ∃ x, x = wn := ⟨_, rfl⟩
                    subst hwc
                    try simp only [Act.put, List.setIfInBounds_toArray, List.set_cons_zero, List.set_cons_succ]
                    refine wpG_one (i := 21) rfl (by kernel_rfl) (by rfl) ?_
                    refine wp_store_whole (none) 42 (.tmp 17) (.tmp 137) rfl gk [.int .i64 T.all.e, .int .i64 T.all.m, .int .i64 T.own.e, .int .i64 T.own.m, .int .i64 T.b.k, .int .i64 T.b.t, .slice A2 T.es.length C2, .int .i64 T.t] rfl rfl 42 [.int .i64 0, .int .i64 0, .int .i64 0, .int .i64 0, .int .i64 0, .int .i64 0, .slice none 0 0, .int .i64 0] HK.out (by kernel_rfl) rfl ?o1 rfl ?_
                    case o1 => intro u hu; simp only [List.mem_cons, List.not_mem_nil, or_false] at hu; rcases hu with rfl | rfl | rfl | rfl | rfl | rfl | rfl | rfl <;> rfl
                    intro wn h5 ho
                    refine ⟨ho.below _ _ HGB.out (Below.refl _ _), ?_⟩
                    have HE5 : Hid (wn.heap[gk]? = some (.cells #[.int .i64 T.all.e, .int .i64 T.all.m, .int .i64 T.own.e, .int .i64 T.own.m, .int .i64 T.b.k, .int .i64 T.b.t, .slice A2 T.es.length C2, .int .i64 T.t] 42 (0, 0))) := h5
                    have HE6 : Hid (Gr w7 wn) := ho.below _ _ HGB.out HC.out
                    have HE7 : Hid (ER wn (.slice A2 T.es.length C2) T.es) := HER.out.store HK.out no_u8 ho
                    clear h5 ho
                    try simp only [Act.put, List.setIfInBounds_toArray, List.set_cons_zero, List.set_cons_succ]
                    -- 22: slot 18
                    refine wpG_take (preBelow (w7.heap.size)) (i := 22) (v := ?_) (by kernel_rfl) (some 18) (by kernel_rfl) rfl (by kernel_rfl) (by kernel_rfl) (by kernel_rfl) (fun _ _ _ h => h) (by rfl) (fun w' hw' => ?_) rfl ?_
                    rotate_left
                    · try (have hxx := HK7.out.gr (Below.trans HC.out hw'); have hq8 := cells8 hxx.doc; obtain ⟨k0, k1, k2, k3, k4, k5, k6, k7⟩ := hq8; have hqc := HCC.out _ hxx.bel; obtain ⟨c0, c1, c2, c3⟩ := hqc; clear hxx)
                      go_simp
                      with_reducible rfl
                    simp only [Act.put, List.setIfInBounds_toArray, List.set_cons_zero, List.set_cons_succ]
                    refine wpG_done (by kernel_rfl) ?_ _
                    go_wp2_with fail
                    go_meet
                    exact ⟨gk, A2, C2, rfl, rfl, HE5, HE7, HE6, HGB⟩
                  · go_simp
                    have hb : Below wc.heap.size wc (wc.alloc (.cells #[.int .i64 0, .int .i64 0, .int .i64 0, .int .i64 0, .int .i64 0, .int .i64 0, .slice none 0 0, .int .i64 0] 42)) := (Below.refl _ _).alloc (Nat.le_refl _) _
                    refine ⟨hb.mono (Below.size HC.out), ?_⟩
                    have hk : (wc.alloc (.cells #[.int .i64 0, .int .i64 0, .int .i64 0, .int .i64 0, .int .i64 0, .int .i64 0, .slice none 0 0, .int .i64 0] 42)).heap[wc.heap.size]? = some (.cells #[.int .i64 0, .int .i64 0, .int .i64 0, .int .i64 0, .int .i64 0, .int .i64 0, .slice none 0 0, .int .i64 0] 42 (0, 0)) := heap_alloc_last _ _
                    have hgb : w7.heap.size ≤ wc.heap.size := Below.size HC.out
                    try (have HER' := Lib.hid (HER.out.below hb); clear HER; have HER := HER'; clear HER')
                    generalize wc.alloc (.cells #[.int .i64 0, .int .i64 0, .int .i64 0, .int .i64 0, .int .i64 0, .int .i64 0, .slice none 0 0, .int .i64 0] 42) = wn at *
                    have HC' : Hid (Gr w7 wn) := Below.trans HC.out (Below.mono hb (Below.size HC.out))
                    clear HC
                    have HC := HC'
                    clear HC'
                    obtain ⟨gk, hgk⟩ : ∃ g, g = wc.heap.size := ⟨_, rfl⟩
                    rw [← hgk] at hk hgb ⊢
                    have HK := Lib.hid hk
                    have HGB := Lib.hid hgb
                    clear hgk hb hk hgb
                    obtain ⟨wc, hwc⟩ : ∃ x, x = wn := ⟨_, rfl⟩
                    subst hwc
                    try simp only [Act.put, List.setIfInBounds_toArray, List.set_cons_zero, List.set_cons_succ]
                    refine wpG_one (i := 16) rfl (by kernel_rfl) (by rfl) ?_
                    go_simp
                    refine (RA.out wc (HK7.out.gr HC.out).er).mono ?_
                    rintro e wn ⟨A2, n2, C2, rfl, her, hb⟩
                    have hn2 := her.len.1
                    subst hn2
                    refine ⟨hb.mono (Below.size HC.out), ?_⟩
                    try (have HK' := Lib.hid (heap_below HK.out hb); clear HK; have HK := HK'; clear HK')
                    have HER := Lib.hid her
                    have HC' : Hid (Gr w7 wn) := Below.trans HC.out (Below.mono hb (Below.size HC.out))
                    clear HC hb her
                    have HC := HC'
                    clear HC'
                    obtain ⟨wc, hwc⟩ : ∃ x, x = wn := ⟨_, rfl⟩
                    subst hwc
                    try simp only [Act.put, List.setIfInBounds_toArray, List.set_cons_zero, List.set_cons_succ]
                    -- 17: slot 119
                    refine wpG_take (preBelow (w7.heap.size)) (i := 17) (v := ?_) (by kernel_rfl) (some 119) (by kernel_rfl) rfl (by kernel_rfl) (by kernel_rfl) (by kernel_rfl) (fun _ _ _ h => h) (by rfl) (fun w' hw' => ?_) rfl ?_
                    rotate_left
                    · try (have hxx := HK7.out.gr (Below.trans HC.out hw'); have hq8 := cells8 hxx.doc; obtain ⟨k0, k1, k2, k3, k4, k5, k6, k7⟩ := hq8; have hqc := HCC.out _ hxx.bel; obtain ⟨c0, c1, c2, c3⟩ := hqc; clear hxx)
                      go_simp
                      with_reducible rfl
                    simp only [Act.put, List.setIfInBounds_toArray, List.set_cons_zero, List.set_cons_succ]
                    -- 18: slot 137
                    refine wpG_take (preBelow (w7.heap.size)) (i := 18) (v := ?_) (by kernel_rfl) (some 137) (by kernel_rfl) rfl (by kernel_rfl) (by kernel_rfl) (by kernel_rfl) (fun _ _ _ h => h) (by rfl) (fun w' hw' => ?_) rfl ?_
                    rotate_left
                    · try (have hxx := HK7.out.gr (Below.trans HC.out hw'); have hq8 := cells8 hxx.doc; obtain ⟨k0, k1, k2, k3, k4, k5, k6, k7⟩ := hq8; have hqc := HCC.out _ hxx.bel; obtain ⟨c0, c1, c2, c3⟩ := hqc; clear hxx)
                      go_simp
                      with_reducible rfl
                    simp only [Act.put, List.setIfInBounds_toArray, List.set_cons_zero, List.set_cons_succ]
                    -- 19: slot 138
                    refine wpG_take (preBelow (w7.heap.size)) (i := 19) (v := ?_) (by kernel_rfl) (some 138) (by kernel_rfl) rfl (by kernel_rfl) (by kernel_rfl) (by kernel_rfl) (fun _ _ _ h => h) (by rfl) (fun w' hw' => ?_) rfl ?_
                    rotate_left
                    · try (have hxx := HK7.out.gr (Below.trans HC.out hw'); have hq8 := cells8 hxx.doc; obtain ⟨k0, k1, k2, k3, k4, k5, k6, k7⟩ := hq8; have hqc := HCC.out _ hxx.bel; obtain ⟨c0, c1, c2, c3⟩ := hqc; clear hxx)
                      go_simp
                      with_reducible rfl
                    simp only [Act.put, List.setIfInBounds_toArray, List.set_cons_zero, List.set_cons_succ]
                    refine wpG_one (i := 21) rfl (by kernel_rfl) (by rfl) ?_
                    refine wp_store_whole (none) 42 (.tmp 17) (.tmp 137) rfl gk [.int .i64 T.all.e, .int .i64 T.all.m, .int .i64 T.own.e, .int .i64 T.own.m, .int .i64 T.b.k, .int .i64 T.b.t, .slice A2 T.es.length C2, .int .i64 T.t] rfl rfl 42 [.int .i64 0, .int .i64 0, .int .i64 0, .int .i64 0, .int .i64 0, .int .i64 0, .slice none 0 0, .int .i64 0] HK.out (by kernel_rfl) rfl ?o1 rfl ?_
                    case o1 => intro u hu; simp only [List.mem_cons, List.not_mem_nil, or_false] at hu; rcases hu with rfl | rfl | rfl | rfl | rfl | rfl | rfl | rfl <;> rfl
                    intro wn h5 ho
                    refine ⟨ho.below _ _ HGB.out (Below.refl _ _), ?_⟩
                    have HE5 : Hid (wn.heap[gk]? = some (.cells #[.int .i64 T.all.e, .int .i64 T.all.m, .int .i64 T.own.e, .int .i64 T.own.m, .int .i64 T.b.k, .int .i64 T.b.t, .slice A2 T.es.length C2, .int .i64 T.t] 42 (0, 0))) := h5
                    have HE6 : Hid (Gr w7 wn) := ho.below _ _ HGB.out HC.out
                    have HE7 : Hid (ER wn (.slice A2 T.es.length C2) T.es) := HER.out.store HK.out no_u8 ho
                    clear h5 ho
                    try simp only [Act.put, List.setIfInBounds_toArray, List.set_cons_zero, List.set_cons_succ]
                    -- 22: slot 18
                    refine wpG_take (preBelow (w7.heap.size)) (i := 22) (v := ?_) (by kernel_rfl) (some 18) (by kernel_rfl) rfl (by kernel_rfl) (by kernel_rfl) (by kernel_rfl) (fun _ _ _ h => h) (by rfl) (fun w' hw' => ?_) rfl ?_
                    rotate_left
                    · try (have hxx := HK7.out.gr (Below.trans HC.out hw'); have hq8 := cells8 hxx.doc; obtain ⟨k0, k1, k2, k3, k4, k5, k6, k7⟩ := hq8; have hqc := HCC.out _ hxx.bel; obtain ⟨c0, c1, c2, c3⟩ := hqc; clear hxx)
                      go_simp
                      with_reducible rfl
                    simp only [Act.put, List.setIfInBounds_toArray, List.set_cons_zero, List.set_cons_succ]
                    refine wpG_done (by kernel_rfl) ?_ _
                    go_wp2_with fail
                    go_meet
                    exact ⟨gk, A2, C2, rfl, rfl, HE5, HE7, HE6, HGB⟩
                · go_simp
                  have hb : Below wc.heap.size wc (wc.alloc (.cells #[.int .i64 0, .int .i64 0, .int .i64 0, .int .i64 0, .int .i64 0, .int .i64 0, .slice none 0 0, .int .i64 0] 42)) := (Below.refl _ _).alloc (Nat.le_refl _) _
                  refine ⟨hb.mono (Below.size HC.out), ?_⟩
                  have hk : (wc.alloc (.cells #[.int .i64 0, .int .i64 0, .int .i64 0, .int .i64 0, .int .i64 0, .int .i64 0, .slice none 0 0, .int .i64 0] 42)).heap[wc.heap.size]? = some (.cells #[.int .i64 0, .int .i64 0, .int .i64 0, .int .i64 0, .int .i64 0, .int .i64 0, .slice none 0 0, .int .i64 0] 42 (0, 0)) := heap_alloc_last _ _
                  have hgb : w7.heap.size ≤ wc.heap.size := Below.size HC.out
                  try (have HER' := Lib.hid (HER.out.below hb); clear HER; have HER := HER'; clear HER')
                  generalize wc.alloc (.cells #[.int .i64 0, .int .i64 0, .int .i64 0, .int .i64 0, .int .i64 0, .int .i64 0, .slice none 0 0, .int .i64 0] 42) = wn at *
                  have HC' : Hid (Gr w7 wn) := Below.trans HC.out (Below.mono hb (Below.size HC.out))
                  clear HC
                  have HC := HC'
                  clear HC'
                  obtain ⟨gk, hgk⟩ : ∃ g, g = wc.heap.size := ⟨_, rfl⟩
                  rw [← hgk] at hk hgb ⊢
                  have HK := Lib.hid hk
                  have HGB := Lib.hid hgb
                  clear hgk hb hk hgb
                  obtain ⟨wc, hwc⟩ : ∃ x, x = wn := ⟨_, rfl⟩
                  subst hwc
                  try simp only [Act.put, List.setIfInBounds_toArray, List.set_cons_zero, List.set_cons_succ]
                  refine wpG_one (i := 6) rfl (by kernel_rfl) (by rfl) ?_
                  go_simp
                  refine (mac_any qm wc).mono ?_
                  rintro e wn ⟨rfl, hb⟩
                  refine ⟨hb.mono (Below.size HC.out), ?_⟩
                  try (have HK' := Lib.hid (heap_below HK.out hb); clear HK; have HK := HK'; clear HK')
                  have HC' : Hid (Gr w7 wn) := Below.trans HC.out (Below.mono hb (Below.size HC.out))
                  clear HC hb
                  have HC := HC'
                  clear HC'
                  obtain ⟨wc, hwc⟩ : ∃ x, x = wn := ⟨_, rfl⟩
                  subst hwc
                  try simp only [Act.put, List.setIfInBounds_toArray, List.set_cons_zero, List.set_cons_succ]
                  refine wpG_one (i := 16) rfl (by kernel_rfl) (by rfl) ?_
                  go_simp
                  refine (RA.out wc (HK7.out.gr HC.out).er).mono ?_
                  rintro e wn ⟨A2, n2, C2, rfl, her, hb⟩
                  have hn2 := her.len.1
                  subst hn2
                  refine ⟨hb.mono (Below.size HC.out), ?_⟩
                  try (have HK' := Lib.hid (heap_below HK.out hb); clear HK; have HK := HK'; clear HK')
                  have HER := Lib.hid her
                  have HC' : Hid (Gr w7 wn) := Below.trans HC.out (Below.mono hb (Below.size HC.out))
                  clear HC hb her
                  have HC := HC'
                  clear HC'
                  obtain ⟨wc, hwc⟩ : ∃ x, x = wn := ⟨_, rfl⟩
                  subst hwc
                  try simp only [Act.put, List.setIfInBounds_toArray, List.set_cons_zero, List.set_cons_succ]
                  -- 17: slot 119
                  refine wpG_take (preBelow (w7.heap.size)) (i := 17) (v := ?_) (by kernel_rfl) (some 119) (by kernel_rfl) rfl (by kernel_rfl) (by kernel_rfl) (by kernel_rfl) (fun _ _ _ h => h) (by rfl) (fun w' hw' => ?_) rfl ?_
                  rotate_left
                  · try (have hxx := HK7.out.gr (Below.trans HC.out hw'); have hq8 := cells8 hxx.doc; obtain ⟨k0, k1, k2, k3, k4, k5, k6, k7⟩ := hq8; have hqc := HCC.out _ hxx.bel; obtain ⟨c0, c1, c2, c3⟩ := hqc; clear hxx)
                    go_simp
                    with_reducible rfl
                  simp only [Act.put, List.setIfInBounds_toArray, List.set_cons_zero, List.set_cons_succ]
                  -- 18: slot 137
                  refine wpG_take (preBelow (w7.heap.size)) (i := 18) (v := ?_) (by kernel_rfl) (some 137) (by kernel_rfl) rfl (by kernel_rfl) (by kernel_rfl) (by kernel_rfl) (fun _ _ _ h => h) (by rfl) (fun w' hw' => ?_) rfl ?_
                  rotate_left
                  · try (have hxx := HK7.out.gr (Below.trans HC.out hw'); have hq8 := cells8 hxx.doc; obtain ⟨k0, k1, k2, k3, k4, k5, k6, k7⟩ := hq8; have hqc := HCC.out _ hxx.bel; obtain ⟨c0, c1, c2, c3⟩ := hqc; clear hxx)
                    go_simp
                    with_reducible rfl
                  simp only [Act.put, List.setIfInBounds_toArray, List.set_cons_zero, List.set_cons_succ]
                  -- 19: slot 138
                  refine wpG_take (preBelow (w7.heap.size)) (i := 19) (v := ?_) (by kernel_rfl) (some 138) (by kernel_rfl) rfl (by kernel_rfl) (by kernel_rfl) (by kernel_rfl) (fun _ _ _ h => h) (by rfl) (fun w' hw' => ?_) rfl ?_
                  rotate_left
                  · try (have hxx := HK7.out.gr (Below.trans HC.out hw'); have hq8 := cells8 hxx.doc; obtain ⟨k0, k1, k2, k3, k4, k5, k6, k7⟩ := hq8; have hqc := HCC.out _ hxx.bel; obtain ⟨c0, c1, c2, c3⟩ := hqc; clear hxx)
                    go_simp
                    with_reducible rfl
                  simp only [Act.put, List.setIfInBounds_toArray, List.set_cons_zero, List.set_cons_succ]
                  refine wpG_one (i := 21) rfl (by kernel_rfl) (by rfl) ?_
                  refine wp_store_whole (none) 42 (.tmp 17) (.tmp 137) rfl gk [.int .i64 T.all.e, .int .i64 T.all.m, .int .i64 T.own.e, .int .i64 T.own.m, .int .i64 T.b.k, .int .i64 T.b.t, .slice A2 T.es.length C2, .int .i64 T.t] rfl rfl 42 [.int .i64 0, .int .i64 0, .int .i64 0, .int .i64 0, .int .i64 0, .int .i64 0, .slice none 0 0, .int .i64 0] HK.out (by kernel_rfl) rfl ?o1 rfl ?_
                  case o1 => intro u hu; simp only [List.mem_cons, List.not_mem_nil, or_false] at hu; rcases hu with rfl | rfl | rfl | rfl | rfl | rfl | rfl | rfl <;> rfl
                  intro wn h5 ho
                  refine ⟨ho.below _ _ HGB.out (Below.refl _ _), ?_⟩
                  have HE5 : Hid (wn.heap[gk]? = some (.cells #[.int .i64 T.all.e, .int .i64 T.all.m, .int .i64 T.own.e, .int .i64 T.own.m, .int .i64 T.b.k, .int .i64 T.b.t, .slice A2 T.es.length C2, .int .i64 T.t] 42 (0, 0))) := h5
                  have HE6 : Hid (Gr w7 wn) := ho.below _ _ HGB.out HC.out
                  have HE7 : Hid (ER wn (.slice A2 T.es.length C2) T.es) := HER.out.store HK.out no_u8 ho
                  clear h5 ho
                  try simp only [Act.put, List.setIfInBounds_toArray, List.set_cons_zero, List.set_cons_succ]
                  -- 22: slot 18
                  refine wpG_take (preBelow (w7.heap.size)) (i := 22) (v := ?_) (by kernel_rfl) (some 18) (by kernel_rfl) rfl (by kernel_rfl) (by kernel_rfl) (by kernel_rfl) (fun _ _ _ h => h) (by rfl) (fun w' hw' => ?_) rfl ?_
                  rotate_left
                  · try (have hxx := HK7.out.gr (Below.trans HC.out hw'); have hq8 := cells8 hxx.doc; obtain ⟨k0, k1, k2, k3, k4, k5, k6, k7⟩ := hq8; have hqc := HCC.out _ hxx.bel; obtain ⟨c0, c1, c2, c3⟩ := hqc; clear hxx)
                    go_simp
                    with_reducible rfl
                  simp only [Act.put, List.setIfInBounds_toArray, List.set_cons_zero, List.set_cons_succ]
                  refine wpG_done (by kernel_rfl) ?_ _
                  go_wp2_with fail
                  go_meet
                  exact ⟨gk, A2, C2, rfl, rfl, HE5, HE7, HE6, HGB⟩
              case rest =>
                obtain ⟨g15, A2, C2, hs15, hs16, h15, her, hgr, hg15⟩ := hcut
                subst hs15 hs16
                obtain ⟨w8, hw8⟩ : ∃ x, x = wc := ⟨_, rfl⟩
                subst hw8
                have HK8 := Lib.hid (HK7.out.gr hgr.out)
                have HER8 := Lib.hid her.out
                obtain ⟨k0, k1, k2, k3, k4, k5, k6, k7⟩ := cells8 h15.out
                have HD9 : Hid (w8.heap[b9]? = some (.cells ([.int .i64 S.all.e, .int .i64 S.all.m, .int .i64 S.own.e, .int .i64 S.own.m, .int .i64 S.b.k, .int .i64 S.b.t, .slice A S.es.length C, .int .i64 S.t] : List Value).toArray 42 (0, 0))) := HK8.out.doc
                have HI8 : Hid ((Try.prog.info? 42).map (·.size) = some ([.int .i64 T.all.e, .int .i64 T.all.m, .int .i64 T.own.e, .int .i64 T.own.m, .int .i64 T.b.k, .int .i64 T.b.t, .slice A2 T.es.length C2, .int .i64 T.t] : List Value).length) := by
                  show _ = _
                  kernel_rfl
                have HON8 : Hid (∀ u ∈ ([.int .i64 T.all.e, .int .i64 T.all.m, .int .i64 T.own.e, .int .i64 T.own.m, .int .i64 T.b.k, .int .i64 T.b.t, .slice A2 T.es.length C2, .int .i64 T.t] : List Value), u.oneCell' = true) := by
                  intro u hu; simp only [List.mem_cons, List.not_mem_nil, or_false] at hu; rcases hu with rfl | rfl | rfl | rfl | rfl | rfl | rfl | rfl <;> rfl
                clear h15 her hgr hg15 HK7 RA
                go_upto_region 25 with (with_reducible refine wpList_store_whole rfl 42 (.tmp 12) (.tmp 139) rfl b9 [.int .i64 T.all.e, .int .i64 T.all.m, .int .i64 T.own.e, .int .i64 T.own.m, .int .i64 T.b.k, .int .i64 T.b.t, .slice A2 T.es.length C2, .int .i64 T.t] rfl rfl 42 _ HD9.out HI8.out rfl HON8.out ?_)
                intro w9 h9 ho9
                have hne1 : b9 ≠ g2 := by
                  rintro rfl
                  have h1 := HK8.out.doc
                  rw [HK8.out.lim.row] at h1
                  simp at h1
                have hne2 : b9 ≠ b2 := by
                  rintro rfl
                  obtain ⟨a, c, hm⟩ := HK8.out.lim.map.obj
                  rw [HK8.out.doc] at hm
                  cases hm
                have HJ9 : Hid (RJ g2 b2 b9 W w9 T A2 C2) :=
                  ⟨HK8.out.lim.keep (ho9.heap _ HK8.out.lim.lt.1 (Ne.symm hne1)) (ho9.heap _ HK8.out.lim.lt.2 (Ne.symm hne2)), h9, HER8.out.store HD9.out no_u8 ho9, ho9.below _ _ HGE.out.2.2 HK8.out.bel, HGE.out⟩
                clear h9 ho9 hne1 hne2 k0 k1 k2 k3 k4 k5 k6 k7 HK8 HER8 HD9 HI8 HON8
                go_upto_region 25 with fail
                have hxx : (X != X) = false := by simp
                have HC : Hid (Gr w9 w9.drew) := Gr.drew w9
                refine wp_region_G 11 Gr (by kernel_rfl) ?_
                generalize w9.drew = wc at HC ⊢
                -- 0: slot 140
                refine wpG_take preGr (i := 0) (v := ?_) (by kernel_rfl) (some 140) (by kernel_rfl) rfl (by kernel_rfl) (by kernel_rfl) (by kernel_rfl) (fun _ _ _ h => h) (by rfl) (fun w' hw' => ?_) rfl ?_
                rotate_left
                · try (have hxw := HJ9.out.gr (Gr.trans HC.out hw'); have hq8 := cells8 hxw.doc; obtain ⟨k0, k1, k2, k3, k4, k5, k6, k7⟩ := hq8; clear hxw)
                  go_simp
                  with_reducible rfl
                simp only [Act.put, List.setIfInBounds_toArray, List.set_cons_zero, List.set_cons_succ]
                -- 1: slot 141
                refine wpG_take preGr (i := 1) (v := ?_) (by kernel_rfl) (some 141) (by kernel_rfl) rfl (by kernel_rfl) (by kernel_rfl) (by kernel_rfl) (fun _ _ _ h => h) (by rfl) (fun w' hw' => ?_) rfl ?_
                rotate_left
                · try (have hxw := HJ9.out.gr (Gr.trans HC.out hw'); have hq8 := cells8 hxw.doc; obtain ⟨k0, k1, k2, k3, k4, k5, k6, k7⟩ := hq8; clear hxw)
                  go_simp
                  with_reducible rfl
                simp only [Act.put, List.setIfInBounds_toArray, List.set_cons_zero, List.set_cons_succ]
                -- 2: slot 142
                refine wpG_take preGr (i := 2) (v := ?_) (by kernel_rfl) (some 142) (by kernel_rfl) rfl (by kernel_rfl) (by kernel_rfl) (by kernel_rfl) (fun _ _ _ h => h) (by rfl) (fun w' hw' => ?_) rfl ?_
                rotate_left
                · try (have hxw := HJ9.out.gr (Gr.trans HC.out hw'); have hq8 := cells8 hxw.doc; obtain ⟨k0, k1, k2, k3, k4, k5, k6, k7⟩ := hq8; clear hxw)
                  go_simp
                  with_reducible rfl
                simp only [Act.put, List.setIfInBounds_toArray, List.set_cons_zero, List.set_cons_succ]
                -- 3: slot 143
                refine wpG_take preGr (i := 3) (v := ?_) (by kernel_rfl) (some 143) (by kernel_rfl) rfl (by kernel_rfl) (by kernel_rfl) (by kernel_rfl) (fun _ _ _ h => h) (by rfl) (fun w' hw' => ?_) rfl ?_
                rotate_left
                · try (have hxw := HJ9.out.gr (Gr.trans HC.out hw'); have hq8 := cells8 hxw.doc; obtain ⟨k0, k1, k2, k3, k4, k5, k6, k7⟩ := hq8; clear hxw)
                  go_simp
                  with_reducible rfl
                simp only [Act.put, List.setIfInBounds_toArray, List.set_cons_zero, List.set_cons_succ]
                -- 4: slot 144
                refine wpG_take preGr (i := 4) (v := ?_) (by kernel_rfl) (some 144) (by kernel_rfl) rfl (by kernel_rfl) (by kernel_rfl) (by kernel_rfl) (fun _ _ _ h => h) (by rfl) (fun w' hw' => ?_) rfl ?_
                rotate_left
                · try (have hxw := HJ9.out.gr (Gr.trans HC.out hw'); have hq8 := cells8 hxw.doc; obtain ⟨k0, k1, k2, k3, k4, k5, k6, k7⟩ := hq8; clear hxw)
                  go_simp
                  with_reducible rfl
                simp only [Act.put, List.setIfInBounds_toArray, List.set_cons_zero, List.set_cons_succ]
                -- 6: slot 146
                refine wpG_take preGr (i := 6) (v := ?_) (by kernel_rfl) (some 146) (by kernel_rfl) rfl (by kernel_rfl) (by kernel_rfl) (by kernel_rfl) (fun _ _ _ h => h) (by rfl) (fun w' hw' => ?_) rfl ?_
                rotate_left
                · try (have hxw := HJ9.out.gr (Gr.trans HC.out hw'); have hq8 := cells8 hxw.doc; obtain ⟨k0, k1, k2, k3, k4, k5, k6, k7⟩ := hq8; clear hxw)
                  go_simp
                  with_reducible rfl
                simp only [Act.put, List.setIfInBounds_toArray, List.set_cons_zero, List.set_cons_succ]
                -- 7: slot 147
                refine wpG_take preGr (i := 7) (v := ?_) (by kernel_rfl) (some 147) (by kernel_rfl) rfl (by kernel_rfl) (by kernel_rfl) (by kernel_rfl) (fun _ _ _ h => h) (by rfl) (fun w' hw' => ?_) rfl ?_
                rotate_left
                · try (have hxw := HJ9.out.gr (Gr.trans HC.out hw'); have hq8 := cells8 hxw.doc; obtain ⟨k0, k1, k2, k3, k4, k5, k6, k7⟩ := hq8; clear hxw)
                  go_simp
                  with_reducible rfl
                simp only [Act.put, List.setIfInBounds_toArray, List.set_cons_zero, List.set_cons_succ]
                -- 8: slot 148
                refine wpG_take preGr (i := 8) (v := ?_) (by kernel_rfl) (some 148) (by kernel_rfl) rfl (by kernel_rfl) (by kernel_rfl) (by kernel_rfl) (fun _ _ _ h => h) (by rfl) (fun w' hw' => ?_) rfl ?_
                rotate_left
                · try (have hxw := HJ9.out.gr (Gr.trans HC.out hw'); have hq8 := cells8 hxw.doc; obtain ⟨k0, k1, k2, k3, k4, k5, k6, k7⟩ := hq8; clear hxw)
                  go_simp
                  with_reducible rfl
                simp only [Act.put, List.setIfInBounds_toArray, List.set_cons_zero, List.set_cons_succ]
                refine wpG_one (i := 5) rfl (by kernel_rfl) (by rfl) ?_
                go_simp
                refine (len_any g2 b2 wc (HJ9.out.gr HC.out).lim).mono ?_
                rintro e wn ⟨rfl, rfl⟩
                refine ⟨Gr.refl _, ?_⟩
                try simp only [Act.put, List.setIfInBounds_toArray, List.set_cons_zero, List.set_cons_succ]
                -- 9: slot 149
                refine wpG_take preGr (i := 9) (v := ?_) (by kernel_rfl) (some 149) (by kernel_rfl) rfl (by kernel_rfl) (by kernel_rfl) (by kernel_rfl) (fun _ _ _ h => h) (by rfl) (fun w' hw' => ?_) rfl ?_
                rotate_left
                · try (have hxw := HJ9.out.gr (Gr.trans HC.out hw'); have hq8 := cells8 hxw.doc; obtain ⟨k0, k1, k2, k3, k4, k5, k6, k7⟩ := hq8; clear hxw)
                  go_simp
                  with_reducible rfl
                simp only [Act.put, List.setIfInBounds_toArray, List.set_cons_zero, List.set_cons_succ]
                -- 10: slot 150
                refine wpG_take preGr (i := 10) (v := ?_) (by kernel_rfl) (some 150) (by kernel_rfl) rfl (by kernel_rfl) (by kernel_rfl) (by kernel_rfl) (fun _ _ _ h => h) (by rfl) (fun w' hw' => ?_) rfl ?_
                rotate_left
                · try (have hxw := HJ9.out.gr (Gr.trans HC.out hw'); have hq8 := cells8 hxw.doc; obtain ⟨k0, k1, k2, k3, k4, k5, k6, k7⟩ := hq8; clear hxw)
                  go_simp
                  with_reducible rfl
                simp only [Act.put, List.setIfInBounds_toArray, List.set_cons_zero, List.set_cons_succ]
                refine wpG_done (by kernel_rfl) ?_ _
                go_wp2_with fail
                go_roundw
                case rel =>
                  have HJW := HJ9.out.gr HC.out
                  first
                    | exact ⟨i + 1, g2, b2, T, A2, C2, by omega, by omega, by go_num, rfl, HJW⟩
                    | ((repeat apply Exists.intro); exact ⟨⟨i + 1, g2, b2, T, A2, C2, by omega, by omega, by go_num, rfl, HJW⟩, rfl⟩)
                case measure => simp [intOf]; omega
            · go_wp2
              go_ret
              exact ⟨rfl, HJ.out.bel⟩
          · go_wp2
            go_ret
            exact ⟨rfl, HJ.out.bel⟩
      · have HNK := Lib.hid hok
        clear hok
        go_wp2_with fail
        refine (new_no ae am oe om HNK.out w2).mono ?_
        rintro e w3 ⟨rfl, hb⟩
        have HB3 := Lib.hid (HB2.out.trans (hb.mono HB2.out.size))
        clear k0 k1 m0 m1
        obtain ⟨k0, k1⟩ := cells2 (heap_below HG02.out hb)
        obtain ⟨m0, m1⟩ := cells2 (heap_below HG12.out hb)
        clear hb
        go_wp2_with fail
        refine (rnew_no ae am oe om HNK.out w3).mono ?_
        rintro e w4 ⟨rfl, hb⟩
        have HB4 : Hid (Below W.heap.size W (w4.alloc (.cells #[.int .i64 0, .int .i64 0, .int .i64 0, .int .i64 0, .int .i64 0, .int .i64 0, .slice none 0 0, .int .i64 0] 42))) := (HB3.out.trans (hb.mono HB3.out.size)).alloc (Nat.le_trans HB3.out.size hb.size) _
        clear hb k0 k1 m0 m1
        go_upto_region 10 with fail
        generalize w4.alloc (.cells #[.int .i64 0, .int .i64 0, .int .i64 0, .int .i64 0, .int .i64 0, .int .i64 0, .slice none 0 0, .int .i64 0] 42) = w5 at HB4 ⊢
        go_wp2_with fail
        refine (HA.out _).mono ?_
        rintro e w6 ⟨rfl, hb⟩
        have HB6 := Lib.hid (HB4.out.trans (hb.mono HB4.out.size))
        clear hb
        go_wp2
        go_ret
        exact ⟨rfl, HB6.out⟩

theorem own : ownKnob Try.prog.godebug = none := by kernel_rfl
theorem laidOut : laidOutB Try.prog = true := by kernel_rfl
set_option maxRecDepth 100000 in
theorem lifted (os : Os) (started : os.Started) (H : Type) (enc : TypeId × Value → H) :
    ReturnsInHanded {} Try.checked os 10 .any (Rows.bucketLimiterForksSpec.pre6 enc Try.prog Try.f10 Rows.bucketLimiterForksRow.domain false) (Rows.bucketLimiterForksSpec.post enc Try.prog Try.f10 false true false false) := by
  refine returnsInHanded_of_change (C := Try.checked) own started (by kernel_rfl) Try.func10
    (ChangeSpec.witness6 (enc := enc) (C := Try.checked) false ⟨#[], #[.agg #[.int .i64 0, .int .i64 0], .agg #[.int .i64 0, .int .i64 0], .slice none 0 0], []⟩ 8 (by kernel_rfl) (by kernel_rfl) (by kernel_rfl) (by kernel_rfl)) ?_
  intro W base args ds gs before hval0 hW hcnd _
  have hval : ∀ (j : Nat) t v, Try.f10.params[j]? = some t → args[j]? = some v → Value.okWide Try.prog W .any base t v := hval0
  have hW' := hW
  obtain ⟨p, q, hA0, hV, rfl, hfz, hnd⟩ := hW
  have hA : DataW.TrodAll enc Try.prog W 0 (fun _ => true) true Try.f10.params.toList args.toList ds p := hA0
  rw [Try.params10] at hA hval
  obtain ⟨v0, vs0, d0, ds0, p0, q0, hargs, rfl, rfl, h0, r0⟩ := trodAll_cons hA
  obtain ⟨v1, vs1, d1, ds1, p1, q1, rfl, rfl, rfl, h1, r1⟩ := trodAll_cons r0
  obtain ⟨v2, vs2, d2, ds2, p2, q2, rfl, rfl, rfl, h2, r2⟩ := trodAll_cons r1
  obtain ⟨rfl, rfl, rfl⟩ := trodAll_nil r2
  obtain rfl : args = #[v0, v1, v2] := by cases args; simp_all
  obtain ⟨rfl, rfl⟩ := trodVars_none hV
  have k0 := h0
  have lt0 : ∀ x ∈ p0, x.block < W.heap.size := by obtain ⟨m, hm⟩ := k0; exact DataW.trod_lt m _ _ _ hm
  obtain ⟨x0, y0, rfl, wx0, wy0⟩ := open_two Try.underlying23 ⟨rfl, rfl⟩ Try.underlying3 Try.underlying3 ⟨by kernel_rfl, by kernel_rfl, by kernel_rfl⟩ (hval 0 23 v0 rfl rfl) h0
  have k1 := h1
  have lt1 : ∀ x ∈ p1, x.block < W.heap.size := by obtain ⟨m, hm⟩ := k1; exact DataW.trod_lt m _ _ _ hm
  obtain ⟨x1, y1, rfl, wx1, wy1⟩ := open_two Try.underlying23 ⟨rfl, rfl⟩ Try.underlying3 Try.underlying3 ⟨by kernel_rfl, by kernel_rfl, by kernel_rfl⟩ (hval 1 23 v1 rfl rfl) h1
  have k2 := h2
  have lt2 : ∀ x ∈ p2, x.block < W.heap.size := by obtain ⟨m, hm⟩ := k2; exact DataW.trod_lt m _ _ _ hm
  obtain ⟨a2, n2, c2, qs2, rfl, b2⟩ := open_asks Try.underlying36 Try.underlying46 ⟨rfl, rfl, rfl, rfl⟩ Try.underlying5 Try.underlying5 Try.underlying4 Try.underlying3 ⟨by kernel_rfl, by kernel_rfl, by kernel_rfl, by kernel_rfl, by kernel_rfl⟩ (hval 2 36 v2 rfl rfl) h2
  clear hA0 hval0
  refine (walk W x0 y0 wx0 wy0 x1 y1 wx1 wy1 a2 n2 c2 qs2 b2).mono fun e W' ⟨he, bel⟩ => ?_
  subst he
  exact ⟨_, rfl, _, _, _, [], _, [], hW', trodAll_mk1 (shut_bool Try.underlying4 _), (trodAll_cons_mk (Below.trod laidOut (by kernel_rfl) (of_decide_eq_true (by kernel_rfl)) k0 bel lt0) (trodAll_cons_mk (Below.trod laidOut (by kernel_rfl) (of_decide_eq_true (by kernel_rfl)) k1 bel lt1) (trodAll_cons_mk (Below.trod laidOut (by kernel_rfl) (of_decide_eq_true (by kernel_rfl)) k2 bel lt2) trodAll_mk0))), rfl, bel.frame _, fun h => by cases h⟩
theorem over : Rows.bucketLimiterForksRow.holds Try.pinned (OpenSpec.ofChange Rows.bucketLimiterForksSpec) :=
  OpenClaim.holds_of_wide 10 Try.f10 rfl rfl rfl rfl rfl rfl rfl ⟨rfl, rfl, rfl, rfl, rfl⟩ rfl rfl rfl rfl rfl (by kernel_rfl) Try.func10 (by kernel_rfl)
    (of_decide_eq_true (by kernel_rfl)) (by unfold Func.isWrapper; first | (rw [if_pos (by decide +kernel)]; kernel_rfl) | (rw [if_neg (by decide +kernel)]; exact ⟨rfl, rfl⟩))
    (fun os started H enc _ => lifted os started H enc)
/-- The statement. -/
theorem proved : Rows.BucketLimiterForksSaid := over
end Go.Proofs.Ytblnglkjpnpmbaa.bucketLimiterForks
