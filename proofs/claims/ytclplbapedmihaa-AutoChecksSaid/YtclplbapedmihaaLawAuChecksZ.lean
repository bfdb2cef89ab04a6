/-
  For every settings and two automatons (of the rules the first 20, of the options the first 70, each with the first 260 bytes) auto.Check tells whether they may be, auto.New makes of the options what the document makes of them, and auto.Same tells whether both are the same, as the document does (conciergelaw16.AutoChecks answers true). No conditions.
-/
import Derived.Test.YtclplbapedmihaaZAuC
import Derived.Test.YtclplbapedmihaaZFs
import Derived.Test.YtclplbapedmihaaZOp
import Derived.ProofKit
import Derived.OpenShut
import Derived.ChangeOld
namespace Go.Proofs.Ytclplbapedmihaa.autoChecks
set_option maxRecDepth 4000
open Go.ChangeShapes Go.WideShapes Go.ChangeAt Go.RowKit O Ng Au
set_option linter.unusedVariables false
set_option linter.unusedSimpArgs false
set_option maxRecDepth 20000 in
set_option maxHeartbeats 8000000 in
theorem walk (W : World) (a0 : Option Addr) (n0 c0 : Nat) (rs0 : List Ru) (ka0 kb0 kc0 kd0 : Int) (b0 : RR W (.slice a0 n0 c0) n0 rs0) (st1 id1 rq1 : Int) (a1 : Option Addr) (n1 c1 : Nat) (ts1 : List Tg) (ct1 tm1 nk1 : Int) (b1 : TR W (.slice a1 n1 c1) n1 ts1) (st2 id2 rq2 : Int) (a2 : Option Addr) (n2 c2 : Nat) (ts2 : List Tg) (ct2 tm2 nk2 : Int) (b2 : TR W (.slice a2 n2 c2) n2 ts2) :
    Calls Try.prog 3 #[.agg #[.slice a0 n0 c0, .int .i64 ka0, .int .i64 kb0, .int .i64 kc0, .int .i64 kd0], .agg #[.int .i64 st1, .int .i64 id1, .int .i64 rq1, .slice a1 n1 c1, .int .i64 ct1, .int .i64 tm1, .int .i64 nk1], .agg #[.int .i64 st2, .int .i64 id2, .int .i64 rq2, .slice a2 n2 c2, .int .i64 ct2, .int .i64 tm2, .int .i64 nk2]] W fun e w' => e = .returned (.bool true) ∧ Below W.heap.size W w' := by
  have BA : Gr W (((W.alloc (.cells #[.slice a0 n0 c0, .int .i64 ka0, .int .i64 kb0, .int .i64 kc0, .int .i64 kd0] 24)).alloc (.cells #[.int .i64 st1, .int .i64 id1, .int .i64 rq1, .slice a1 n1 c1, .int .i64 ct1, .int .i64 tm1, .int .i64 nk1] 28)).alloc (.cells #[.int .i64 st2, .int .i64 id2, .int .i64 rq2, .slice a2 n2 c2, .int .i64 ct2, .int .i64 tm2, .int .i64 nk2] 28)) := (((Gr.refl W).alloc _).alloc _).alloc _
  obtain ⟨g0, g1, g2⟩ := heap3 W (.cells #[.slice a0 n0 c0, .int .i64 ka0, .int .i64 kb0, .int .i64 kc0, .int .i64 kd0] 24) (.cells #[.int .i64 st1, .int .i64 id1, .int .i64 rq1, .slice a1 n1 c1, .int .i64 ct1, .int .i64 tm1, .int .i64 nk1] 28) (.cells #[.int .i64 st2, .int .i64 id2, .int .i64 rq2, .slice a2 n2 c2, .int .i64 ct2, .int .i64 tm2, .int .i64 nk2] 28)
  obtain ⟨i0, i1, i2, i3, i4⟩ := cells5 g0
  obtain ⟨j0, j1, j2, j3, j4, j5, j6⟩ := cells7 g1
  have HBA := Lib.hid BA
  have G0 := Lib.hid g0
  have G1 := Lib.hid g1
  have G2 := Lib.hid g2
  have LT := Lib.hid (light_any a0 n0 c0 rs0 ka0 kb0 kc0 kd0 st1 id1 rq1 a1 n1 c1 ts1 ct1 tm1 nk1 0 0 none 0 0 [] W (((W.alloc (.cells #[.slice a0 n0 c0, .int .i64 ka0, .int .i64 kb0, .int .i64 kc0, .int .i64 kd0] 24)).alloc (.cells #[.int .i64 st1, .int .i64 id1, .int .i64 rq1, .slice a1 n1 c1, .int .i64 ct1, .int .i64 tm1, .int .i64 nk1] 28)).alloc (.cells #[.int .i64 st2, .int .i64 id2, .int .i64 rq2, .slice a2 n2 c2, .int .i64 ct2, .int .i64 tm2, .int .i64 nk2] 28)) b0 b1 (Bs.nil W) rfl BA)
  have HT2 := Lib.hid b2
  have AW := Lib.hid awake_any
  clear BA g0 g1 g2 b0 b1 b2
  go_enter Try.func3, Try.ntmps3
  go_wp2_with fail
  refine LT.out.mono ?_
  rintro e w1 ⟨ra, rn, rc, rs, ao, n, c, ts, qa, qn, qk, ql, rfl, hrr, ⟨hown, hvs⟩, hn, hm, _, _, hb1⟩
  have HRR := Lib.hid hrr
  have HOWN := Lib.hid (ownsRow_mono hown HBA.out.size)
  have HVS := Lib.hid hvs
  have HNM := Lib.hid (And.intro hn hm)
  have HB1 : Hid (Gr W w1) := Gr.trans HBA.out hb1
  have K0 := Lib.hid (heap_below G0.out hb1)
  have K1 := Lib.hid (heap_below G1.out hb1)
  have K2 := Lib.hid (heap_below G2.out hb1)
  clear hrr hown hvs hn hm hb1 G0 G1 G2 HBA LT i0 i1 i2 i3 i4 j0 j1 j2 j3 j4 j5 j6
  go_wp2_with (refine wpList_store_whole rfl 24 (.tmp 3) (.tmp 17) rfl W.heap.size [.slice ra rn rc, .int .i64 ka0, .int .i64 kb0, .int .i64 kc0, .int .i64 kd0] rfl rfl 24 _ K0.out sizeConf rfl (fun v hv => by simp only [List.mem_cons, List.not_mem_nil, or_false] at hv; rcases hv with rfl | rfl | rfl | rfl | rfl <;> rfl) ?_)
  intro w2 e2 o2
  have M0 := Lib.hid e2
  have M1 := Lib.hid (only_heap K1.out o2 (by omega))
  have M2 := Lib.hid (only_heap K2.out o2 (by omega))
  have HB2 : Hid (Below W.heap.size W w2) := o2.below _ _ (Nat.le_refl _) HB1.out
  have HO2 := Lib.hid (own_off HOWN.out K0.out (show 52 ≠ 24 by decide) o2)
  clear e2 o2 K0 K1 K2 HB1 HOWN
  go_wp2_with (refine wpList_store_whole rfl 28 (.tmp 4) (.tmp 18) rfl (W.heap.size + 1) [.int .i64 st1, .int .i64 id1, .int .i64 rq1, .slice ao n c, .int .i64 ct1, .int .i64 tm1, .int .i64 nk1] rfl rfl 28 _ M1.out sizeAuto rfl (autoC_one (a := ⟨st1, id1, rq1, [], ct1, tm1, nk1⟩) rfl) ?_)
  intro w5 e4 o4
  have N0 := Lib.hid (only_heap M0.out o4 (by omega))
  have N1 := Lib.hid e4
  have N2 := Lib.hid (only_heap M2.out o4 (by omega))
  have HB5 : Hid (Below W.heap.size W w5) := o4.below _ _ (Nat.le_add_right _ _) HB2.out
  have HO5 := Lib.hid (own_off HO2.out M1.out (show 52 ≠ 28 by decide) o4)
  clear e4 o4 M0 M1 M2 HB2 HO2
  have FW := Lib.hid (few_any a2 n2 c2 ts2 W w5 HT2.out HB5.out)
  obtain ⟨k0, k1, k2, k3, k4, k5, k6⟩ := cells7 N2.out
  go_wp2_with fail
  refine FW.out.mono ?_
  rintro e w6 ⟨bo, m, d, us, rfl, howu, hvu, hm70, hm260, hb6⟩
  have R0 := Lib.hid (heap_below N0.out hb6)
  have R1 := Lib.hid (heap_below N1.out hb6)
  have R2 := Lib.hid (heap_below N2.out hb6)
  have HB6 : Hid (Below W.heap.size W w6) := HB5.out.trans (hb6.mono HB5.out.size)
  have HO6 := Lib.hid (ownsRow_below HO5.out hb6)
  have HU6 := Lib.hid (ownsRow_mono howu HB5.out.size)
  have HVU := Lib.hid hvu
  have HMU := Lib.hid (And.intro hm70 hm260)
  clear howu hvu hm70 hm260 hb6 FW k0 k1 k2 k3 k4 k5 k6 N0 N1 N2 HO5 HT2 HB5
  go_wp2_with (refine wpList_store_cell rfl 26 (.tmp 23) (.tmp 22) rfl (W.heap.size + 2) 3 (.slice bo m d) rfl rfl 28 _ R2.out sizeOs2 (by simp) rfl ?_)
  intro w7 e7 o7
  have U0 := Lib.hid (only_heap R0.out o7 (by omega))
  have U1 := Lib.hid (only_heap R1.out o7 (by omega))
  have U2 := Lib.hid e7
  have HB7 : Hid (Below W.heap.size W w7) := o7.below _ _ (Nat.le_add_right _ _) HB6.out
  have HT7 : Hid (TR w7 (.slice ao n c) n ts) := ⟨own_rd (own_off HO6.out R2.out (show 52 ≠ 28 by decide) o7), fun x hx => (HVS.out x hx).below HB7.out⟩
  have HS7 : Hid (TR w7 (.slice bo m d) m us) := ⟨own_rd (own_off HU6.out R2.out (show 52 ≠ 28 by decide) o7), fun x hx => (HVU.out x hx).below HB7.out⟩
  have HRR7 := Lib.hid (HRR.out.below HB7.out)
  have HML : Hid (n ≤ 1000 ∧ ∀ x ∈ ts, x.l.length ≤ 1000000) := ⟨HNM.out.1, fun x hx => by have := HNM.out.2 x hx; omega⟩
  clear e7 o7 R0 R1 R2 HB6 HO6 HU6 HVU HVS HRR HNM
  have RC := Lib.hid (rconf_any ra rn rc rs ka0 kb0 kc0 kd0 w7 HRR7.out)
  have RI := Lib.hid (fun w' (hw : Gr w7 w') => ris_any st1 id1 rq1 ao n c ts ct1 tm1 nk1 w' (HT7.out.below hw) HML.out.1 HML.out.2)
  have CK := Lib.hid (fun w' (hw : Gr w7 w') => check_auto st1 id1 rq1 ao n c ts ct1 tm1 nk1 ra rn rc rs ka0 kb0 kc0 kd0 w' (HT7.out.below hw) HML.out.1 HML.out.2 (HRR7.out.below hw))
  obtain ⟨i0, i1, i2, i3, i4⟩ := cells5 U0.out
  obtain ⟨j0, j1, j2, j3, j4, j5, j6⟩ := cells7 U1.out
  by_cases hC : isC ⟨rs, ka0, kb0, kc0, kd0⟩
  · rw [decide_eq_true hC] at RC
    by_cases hA : isA ⟨st1, id1, rq1, plain ts, ct1, tm1, nk1⟩
    · have CK := Lib.hid (fun w' hw => by have h := CK.out w' hw; rw [if_pos ⟨hC, hA⟩] at h; exact h)
      have HA := Lib.hid hA
      clear hC hA
      go_wp2_with fail
      refine RC.out.mono ?_
      rintro e w8 ⟨rfl, hb⟩
      have HG : Hid (Gr w7 w8) := hb
      clear hb RC
      clear i0 i1 i2 i3 i4 j0 j1 j2 j3 j4 j5 j6
      obtain ⟨i0, i1, i2, i3, i4⟩ := cells5 (heap_below U0.out HG.out)
      obtain ⟨j0, j1, j2, j3, j4, j5, j6⟩ := cells7 (heap_below U1.out HG.out)
      have RI2 := Lib.hid (RI.out w8 HG.out)
      rw [decide_eq_true HA.out] at RI2
      clear RI
      go_wp2_with fail
      refine RI2.out.mono ?_
      rintro e w9 ⟨rfl, hb⟩
      have HG := Lib.hid (Gr.trans HG.out hb)
      clear hb RI2
      have NW := Lib.hid (New_any ao n c ts w9 (HT7.out.below HG.out) HML.out.1 HML.out.2)
      have RN := Lib.hid (fun w' (hw : Gr w9 w') => rNew_any ao n c ts w' ((HT7.out.below HG.out).below hw) HML.out.1 HML.out.2)
      generalize new (plain ts) = x at NW RN
      obtain ⟨⟨xs, xi, xr, xk, xc, xt, xn⟩, xe⟩ := x
      clear i0 i1 i2 i3 i4 j0 j1 j2 j3 j4 j5 j6
      obtain ⟨i0, i1, i2, i3, i4⟩ := cells5 (heap_below U0.out HG.out)
      obtain ⟨j0, j1, j2, j3, j4, j5, j6⟩ := cells7 (heap_below U1.out HG.out)
      go_wp2_with fail
      refine NW.out.mono ?_
      rintro e v1 ⟨av, us1, rfl, hto, hpu, hb⟩
      obtain ⟨na, nc, rfl, _, _⟩ := hto.tr.shape
      have HV1 := Lib.hid (Gr.trans HG.out hb)
      have HW1 : Hid (Gr w9 v1) := hb
      obtain ⟨nn, hnn⟩ : ∃ k, k = us1.length := ⟨_, rfl⟩
      have HTX : Hid (TR v1 (.slice na nn nc) nn us1) := by rw [hnn]; exact hto.tr
      rw [← hnn]
      have HPX : Hid (plain us1 = xk) := hpu
      simp only [autoV, autoC]
      have hal : Gr v1 (v1.alloc (.cells #[.int .i64 xs, .int .i64 xi, .int .i64 xr, .slice na nn nc, .int .i64 xc, .int .i64 xt, .int .i64 xn] 28)) := (Gr.refl _).alloc _
      have HP1 : Hid ((v1.alloc (.cells #[.int .i64 xs, .int .i64 xi, .int .i64 xr, .slice na nn nc, .int .i64 xc, .int .i64 xt, .int .i64 xn] 28)).heap[v1.heap.size]? = some (.cells #[.int .i64 xs, .int .i64 xi, .int .i64 xr, .slice na nn nc, .int .i64 xc, .int .i64 xt, .int .i64 xn] 28 (0, 0))) := heap_alloc_last _ _
      have HV2 := Lib.hid (Gr.trans HV1.out hal)
      have HW2 := Lib.hid (Gr.trans HW1.out hal)
      have HTX := Lib.hid (HTX.out.below hal)
      obtain ⟨p1, hp1⟩ : ∃ g, g = v1.heap.size := ⟨_, rfl⟩
      obtain ⟨v2, hv2⟩ : ∃ x, x = v1.alloc (.cells #[.int .i64 xs, .int .i64 xi, .int .i64 xr, .slice na nn nc, .int .i64 xc, .int .i64 xt, .int .i64 xn] 28) := ⟨_, rfl⟩
      clear hto hpu hb hnn hal HV1 HW1 NW
      go_upto_region 7 with fail
      rw [← hv2, ← hp1] at HP1
      rw [← hv2] at HV2 HW2 HTX
      rw [← hv2, ← hp1]
      clear hp1 hv2
      clear i0 i1 i2 i3 i4 j0 j1 j2 j3 j4 j5 j6
      obtain ⟨j0, j1, j2, j3, j4, j5, j6⟩ := cells7 (heap_below U1.out HV2.out)
      go_wp2_with fail
      refine (RN.out v2 HW2.out).mono ?_
      rintro e v3 ⟨ma, mm, mc, us2, rfl, hty, hpu, hb⟩
      have HV3 := Lib.hid (Gr.trans HV2.out hb)
      have HP1 := Lib.hid (heap_below HP1.out hb)
      have HTX := Lib.hid (HTX.out.below hb)
      have HTY := Lib.hid hty
      have HPY : Hid (plain us2 = xk) := hpu
      simp only [autoV, autoC]
      have hal : Gr v3 (v3.alloc (.cells #[.int .i64 xs, .int .i64 xi, .int .i64 xr, .slice ma mm mc, .int .i64 xc, .int .i64 xt, .int .i64 xn] 28)) := (Gr.refl _).alloc _
      have HP2 : Hid ((v3.alloc (.cells #[.int .i64 xs, .int .i64 xi, .int .i64 xr, .slice ma mm mc, .int .i64 xc, .int .i64 xt, .int .i64 xn] 28)).heap[v3.heap.size]? = some (.cells #[.int .i64 xs, .int .i64 xi, .int .i64 xr, .slice ma mm mc, .int .i64 xc, .int .i64 xt, .int .i64 xn] 28 (0, 0))) := heap_alloc_last _ _
      have HP1 := Lib.hid (heap_below HP1.out hal)
      have HV4 := Lib.hid (Gr.trans HV3.out hal)
      have HTX := Lib.hid (HTX.out.below hal)
      have HTY := Lib.hid (HTY.out.below hal)
      obtain ⟨p2, hp2⟩ : ∃ g, g = v3.heap.size := ⟨_, rfl⟩
      obtain ⟨wB, hv4⟩ : ∃ x, x = v3.alloc (.cells #[.int .i64 xs, .int .i64 xi, .int .i64 xr, .slice ma mm mc, .int .i64 xc, .int .i64 xt, .int .i64 xn] 28) := ⟨_, rfl⟩
      clear hty hpu hb hal HV2 HV3 HW2 RN j0 j1 j2 j3 j4 j5 j6
      go_upto_region 8 with fail
      rw [← hv4, ← hp2] at HP2
      rw [← hv4] at HP1 HV4 HTX HTY
      rw [← hv4, ← hp2]
      clear hp2 hv4
      have U0 := Lib.hid (heap_below U0.out HV4.out)
      have U1 := Lib.hid (heap_below U1.out HV4.out)
      have U2 := Lib.hid (heap_below U2.out HV4.out)
      have CK2 := Lib.hid (fun w' (hw : Gr wB w') => CK.out w' (Gr.trans HV4.out hw))
      have S1 := Lib.hid (fun w' (hw : Gr wB w') => dsame_any xs xi xr xc xt xn xs xi xr xc xt xn na nn nc us1 ma mm mc us2 w' (HTX.out.below hw) (HTY.out.below hw))
      rw [decide_eq_true (show xs = xs ∧ xi = xi ∧ xr = xr ∧ xc = xc ∧ xt = xt ∧ xn = xn ∧ plain us1 = plain us2 from ⟨rfl, rfl, rfl, rfl, rfl, rfl, HPX.out.trans HPY.out.symm⟩)] at S1
      have S2 := Lib.hid (fun w' (hw : Gr wB w') => asame_any st1 id1 rq1 ct1 tm1 nk1 st2 id2 rq2 ct2 tm2 nk2 ao n c ts bo m d us w' ((HT7.out.below HV4.out).below hw) ((HS7.out.below HV4.out).below hw))
      have S3 := Lib.hid (fun w' (hw : Gr wB w') => dsame_any st1 id1 rq1 ct1 tm1 nk1 st2 id2 rq2 ct2 tm2 nk2 ao n c ts bo m d us w' ((HT7.out.below HV4.out).below hw) ((HS7.out.below HV4.out).below hw))
      have S4 := Lib.hid (fun w' (hw : Gr wB w') => asame_any st1 id1 rq1 ct1 tm1 nk1 st1 id1 rq1 ct1 tm1 nk1 ao n c ts ao n c ts w' ((HT7.out.below HV4.out).below hw) ((HT7.out.below HV4.out).below hw))
      rw [decide_eq_true (show st1 = st1 ∧ id1 = id1 ∧ rq1 = rq1 ∧ ct1 = ct1 ∧ tm1 = tm1 ∧ nk1 = nk1 ∧ plain ts = plain ts from ⟨rfl, rfl, rfl, rfl, rfl, rfl, rfl⟩)] at S4
      generalize decide (st1 = st2 ∧ id1 = id2 ∧ rq1 = rq2 ∧ ct1 = ct2 ∧ tm1 = tm2 ∧ nk1 = nk2 ∧ plain ts = plain us) = q at S2 S3
      have HC : Hid (Gr wB wB.drew) := Gr.drew _
      have hqq : (q == q) = true := by simp
      refine wp_region_G 33 Gr (by kernel_rfl) ?_
      generalize wB.drew = wc at HC ⊢
      -- 0: slot 42
      refine wpG_take preGr (i := 0) (v := ?_) (by kernel_rfl) (some 42) (by kernel_rfl) rfl (by kernel_rfl) (by kernel_rfl) (by kernel_rfl) (fun _ _ _ h => h) (by rfl) (fun w' hw' => ?_) rfl ?_
      rotate_left
      · try (have h0 := cells5 (heap_below U0.out (Gr.trans HC.out hw')); obtain ⟨i0, i1, i2, i3, i4⟩ := h0; have h1 := cells7 (heap_below U1.out (Gr.trans HC.out hw')); obtain ⟨j0, j1, j2, j3, j4, j5, j6⟩ := h1; have h2 := cells7 (heap_below U2.out (Gr.trans HC.out hw')); obtain ⟨k0, k1, k2, k3, k4, k5, k6⟩ := h2; have h3 := cells7 (heap_below HP1.out (Gr.trans HC.out hw')); obtain ⟨y0, y1, y2, y3, y4, y5, y6⟩ := h3; have h4 := cells7 (heap_below HP2.out (Gr.trans HC.out hw')); obtain ⟨z0, z1, z2, z3, z4, z5, z6⟩ := h4)
        go_simp
        with_reducible rfl
      simp only [Act.put, List.setIfInBounds_toArray, List.set_cons_zero, List.set_cons_succ]
      -- 1: slot 43
      refine wpG_take preGr (i := 1) (v := ?_) (by kernel_rfl) (some 43) (by kernel_rfl) rfl (by kernel_rfl) (by kernel_rfl) (by kernel_rfl) (fun _ _ _ h => h) (by rfl) (fun w' hw' => ?_) rfl ?_
      rotate_left
      · try (have h0 := cells5 (heap_below U0.out (Gr.trans HC.out hw')); obtain ⟨i0, i1, i2, i3, i4⟩ := h0; have h1 := cells7 (heap_below U1.out (Gr.trans HC.out hw')); obtain ⟨j0, j1, j2, j3, j4, j5, j6⟩ := h1; have h2 := cells7 (heap_below U2.out (Gr.trans HC.out hw')); obtain ⟨k0, k1, k2, k3, k4, k5, k6⟩ := h2; have h3 := cells7 (heap_below HP1.out (Gr.trans HC.out hw')); obtain ⟨y0, y1, y2, y3, y4, y5, y6⟩ := h3; have h4 := cells7 (heap_below HP2.out (Gr.trans HC.out hw')); obtain ⟨z0, z1, z2, z3, z4, z5, z6⟩ := h4)
        go_simp
        with_reducible rfl
      simp only [Act.put, List.setIfInBounds_toArray, List.set_cons_zero, List.set_cons_succ]
      -- 3: slot 45
      refine wpG_take preGr (i := 3) (v := ?_) (by kernel_rfl) (some 45) (by kernel_rfl) rfl (by kernel_rfl) (by kernel_rfl) (by kernel_rfl) (fun _ _ _ h => h) (by rfl) (fun w' hw' => ?_) rfl ?_
      rotate_left
      · try (have h0 := cells5 (heap_below U0.out (Gr.trans HC.out hw')); obtain ⟨i0, i1, i2, i3, i4⟩ := h0; have h1 := cells7 (heap_below U1.out (Gr.trans HC.out hw')); obtain ⟨j0, j1, j2, j3, j4, j5, j6⟩ := h1; have h2 := cells7 (heap_below U2.out (Gr.trans HC.out hw')); obtain ⟨k0, k1, k2, k3, k4, k5, k6⟩ := h2; have h3 := cells7 (heap_below HP1.out (Gr.trans HC.out hw')); obtain ⟨y0, y1, y2, y3, y4, y5, y6⟩ := h3; have h4 := cells7 (heap_below HP2.out (Gr.trans HC.out hw')); obtain ⟨z0, z1, z2, z3, z4, z5, z6⟩ := h4)
        go_simp
        with_reducible rfl
      simp only [Act.put, List.setIfInBounds_toArray, List.set_cons_zero, List.set_cons_succ]
      refine wpG_one (i := 2) rfl (by kernel_rfl) (by rfl) ?_
      go_simp
      refine (CK2.out _ HC.out).mono ?_
      rintro e u2 ⟨rfl, hb⟩
      refine ⟨hb, ?_⟩
      have HC := Lib.hid (Gr.trans HC.out hb)
      clear hb
      try simp only [Act.put, List.setIfInBounds_toArray, List.set_cons_zero, List.set_cons_succ]
      -- 4: slot 46
      refine wpG_take preGr (i := 4) (v := ?_) (by kernel_rfl) (some 46) (by kernel_rfl) rfl (by kernel_rfl) (by kernel_rfl) (by kernel_rfl) (fun _ _ _ h => h) (by rfl) (fun w' hw' => ?_) rfl ?_
      rotate_left
      · try (have h0 := cells5 (heap_below U0.out (Gr.trans HC.out hw')); obtain ⟨i0, i1, i2, i3, i4⟩ := h0; have h1 := cells7 (heap_below U1.out (Gr.trans HC.out hw')); obtain ⟨j0, j1, j2, j3, j4, j5, j6⟩ := h1; have h2 := cells7 (heap_below U2.out (Gr.trans HC.out hw')); obtain ⟨k0, k1, k2, k3, k4, k5, k6⟩ := h2; have h3 := cells7 (heap_below HP1.out (Gr.trans HC.out hw')); obtain ⟨y0, y1, y2, y3, y4, y5, y6⟩ := h3; have h4 := cells7 (heap_below HP2.out (Gr.trans HC.out hw')); obtain ⟨z0, z1, z2, z3, z4, z5, z6⟩ := h4)
        go_simp
        with_reducible rfl
      simp only [Act.put, List.setIfInBounds_toArray, List.set_cons_zero, List.set_cons_succ]
      -- 5: slot 47
      refine wpG_take preGr (i := 5) (v := ?_) (by kernel_rfl) (some 47) (by kernel_rfl) rfl (by kernel_rfl) (by kernel_rfl) (by kernel_rfl) (fun _ _ _ h => h) (by rfl) (fun w' hw' => ?_) rfl ?_
      rotate_left
      · try (have h0 := cells5 (heap_below U0.out (Gr.trans HC.out hw')); obtain ⟨i0, i1, i2, i3, i4⟩ := h0; have h1 := cells7 (heap_below U1.out (Gr.trans HC.out hw')); obtain ⟨j0, j1, j2, j3, j4, j5, j6⟩ := h1; have h2 := cells7 (heap_below U2.out (Gr.trans HC.out hw')); obtain ⟨k0, k1, k2, k3, k4, k5, k6⟩ := h2; have h3 := cells7 (heap_below HP1.out (Gr.trans HC.out hw')); obtain ⟨y0, y1, y2, y3, y4, y5, y6⟩ := h3; have h4 := cells7 (heap_below HP2.out (Gr.trans HC.out hw')); obtain ⟨z0, z1, z2, z3, z4, z5, z6⟩ := h4)
        go_simp
        with_reducible rfl
      simp only [Act.put, List.setIfInBounds_toArray, List.set_cons_zero, List.set_cons_succ]
      -- 6: slot 48
      refine wpG_take preGr (i := 6) (v := ?_) (by kernel_rfl) (some 48) (by kernel_rfl) rfl (by kernel_rfl) (by kernel_rfl) (by kernel_rfl) (fun _ _ _ h => h) (by rfl) (fun w' hw' => ?_) rfl ?_
      rotate_left
      · try (have h0 := cells5 (heap_below U0.out (Gr.trans HC.out hw')); obtain ⟨i0, i1, i2, i3, i4⟩ := h0; have h1 := cells7 (heap_below U1.out (Gr.trans HC.out hw')); obtain ⟨j0, j1, j2, j3, j4, j5, j6⟩ := h1; have h2 := cells7 (heap_below U2.out (Gr.trans HC.out hw')); obtain ⟨k0, k1, k2, k3, k4, k5, k6⟩ := h2; have h3 := cells7 (heap_below HP1.out (Gr.trans HC.out hw')); obtain ⟨y0, y1, y2, y3, y4, y5, y6⟩ := h3; have h4 := cells7 (heap_below HP2.out (Gr.trans HC.out hw')); obtain ⟨z0, z1, z2, z3, z4, z5, z6⟩ := h4)
        go_simp
        with_reducible rfl
      simp only [Act.put, List.setIfInBounds_toArray, List.set_cons_zero, List.set_cons_succ]
      -- 7: slot 49
      refine wpG_take preGr (i := 7) (v := ?_) (by kernel_rfl) (some 49) (by kernel_rfl) rfl (by kernel_rfl) (by kernel_rfl) (by kernel_rfl) (fun _ _ _ h => h) (by rfl) (fun w' hw' => ?_) rfl ?_
      rotate_left
      · try (have h0 := cells5 (heap_below U0.out (Gr.trans HC.out hw')); obtain ⟨i0, i1, i2, i3, i4⟩ := h0; have h1 := cells7 (heap_below U1.out (Gr.trans HC.out hw')); obtain ⟨j0, j1, j2, j3, j4, j5, j6⟩ := h1; have h2 := cells7 (heap_below U2.out (Gr.trans HC.out hw')); obtain ⟨k0, k1, k2, k3, k4, k5, k6⟩ := h2; have h3 := cells7 (heap_below HP1.out (Gr.trans HC.out hw')); obtain ⟨y0, y1, y2, y3, y4, y5, y6⟩ := h3; have h4 := cells7 (heap_below HP2.out (Gr.trans HC.out hw')); obtain ⟨z0, z1, z2, z3, z4, z5, z6⟩ := h4)
        go_simp
        with_reducible rfl
      simp only [Act.put, List.setIfInBounds_toArray, List.set_cons_zero, List.set_cons_succ]
      refine wpG_one (i := 8) rfl (by kernel_rfl) (by rfl) ?_
      go_simp
      refine (S1.out _ HC.out).mono ?_
      rintro e u8 ⟨rfl, hb⟩
      refine ⟨hb, ?_⟩
      have HC := Lib.hid (Gr.trans HC.out hb)
      clear hb
      try simp only [Act.put, List.setIfInBounds_toArray, List.set_cons_zero, List.set_cons_succ]
      -- 9: slot 51
      refine wpG_take preGr (i := 9) (v := ?_) (by kernel_rfl) (some 51) (by kernel_rfl) rfl (by kernel_rfl) (by kernel_rfl) (by kernel_rfl) (fun _ _ _ h => h) (by rfl) (fun w' hw' => ?_) rfl ?_
      rotate_left
      · try (have h0 := cells5 (heap_below U0.out (Gr.trans HC.out hw')); obtain ⟨i0, i1, i2, i3, i4⟩ := h0; have h1 := cells7 (heap_below U1.out (Gr.trans HC.out hw')); obtain ⟨j0, j1, j2, j3, j4, j5, j6⟩ := h1; have h2 := cells7 (heap_below U2.out (Gr.trans HC.out hw')); obtain ⟨k0, k1, k2, k3, k4, k5, k6⟩ := h2; have h3 := cells7 (heap_below HP1.out (Gr.trans HC.out hw')); obtain ⟨y0, y1, y2, y3, y4, y5, y6⟩ := h3; have h4 := cells7 (heap_below HP2.out (Gr.trans HC.out hw')); obtain ⟨z0, z1, z2, z3, z4, z5, z6⟩ := h4)
        go_simp
        with_reducible rfl
      simp only [Act.put, List.setIfInBounds_toArray, List.set_cons_zero, List.set_cons_succ]
      -- 10: slot 52
      refine wpG_take preGr (i := 10) (v := ?_) (by kernel_rfl) (some 52) (by kernel_rfl) rfl (by kernel_rfl) (by kernel_rfl) (by kernel_rfl) (fun _ _ _ h => h) (by rfl) (fun w' hw' => ?_) rfl ?_
      rotate_left
      · try (have h0 := cells5 (heap_below U0.out (Gr.trans HC.out hw')); obtain ⟨i0, i1, i2, i3, i4⟩ := h0; have h1 := cells7 (heap_below U1.out (Gr.trans HC.out hw')); obtain ⟨j0, j1, j2, j3, j4, j5, j6⟩ := h1; have h2 := cells7 (heap_below U2.out (Gr.trans HC.out hw')); obtain ⟨k0, k1, k2, k3, k4, k5, k6⟩ := h2; have h3 := cells7 (heap_below HP1.out (Gr.trans HC.out hw')); obtain ⟨y0, y1, y2, y3, y4, y5, y6⟩ := h3; have h4 := cells7 (heap_below HP2.out (Gr.trans HC.out hw')); obtain ⟨z0, z1, z2, z3, z4, z5, z6⟩ := h4)
        go_simp
        with_reducible rfl
      simp only [Act.put, List.setIfInBounds_toArray, List.set_cons_zero, List.set_cons_succ]
      -- 11: slot 53
      refine wpG_take preGr (i := 11) (v := ?_) (by kernel_rfl) (some 53) (by kernel_rfl) rfl (by kernel_rfl) (by kernel_rfl) (by kernel_rfl) (fun _ _ _ h => h) (by rfl) (fun w' hw' => ?_) rfl ?_
      rotate_left
      · try (have h0 := cells5 (heap_below U0.out (Gr.trans HC.out hw')); obtain ⟨i0, i1, i2, i3, i4⟩ := h0; have h1 := cells7 (heap_below U1.out (Gr.trans HC.out hw')); obtain ⟨j0, j1, j2, j3, j4, j5, j6⟩ := h1; have h2 := cells7 (heap_below U2.out (Gr.trans HC.out hw')); obtain ⟨k0, k1, k2, k3, k4, k5, k6⟩ := h2; have h3 := cells7 (heap_below HP1.out (Gr.trans HC.out hw')); obtain ⟨y0, y1, y2, y3, y4, y5, y6⟩ := h3; have h4 := cells7 (heap_below HP2.out (Gr.trans HC.out hw')); obtain ⟨z0, z1, z2, z3, z4, z5, z6⟩ := h4)
        go_simp
        with_reducible rfl
      simp only [Act.put, List.setIfInBounds_toArray, List.set_cons_zero, List.set_cons_succ]
      -- 12: slot 54
      refine wpG_take preGr (i := 12) (v := ?_) (by kernel_rfl) (some 54) (by kernel_rfl) rfl (by kernel_rfl) (by kernel_rfl) (by kernel_rfl) (fun _ _ _ h => h) (by rfl) (fun w' hw' => ?_) rfl ?_
      rotate_left
      · try (have h0 := cells5 (heap_below U0.out (Gr.trans HC.out hw')); obtain ⟨i0, i1, i2, i3, i4⟩ := h0; have h1 := cells7 (heap_below U1.out (Gr.trans HC.out hw')); obtain ⟨j0, j1, j2, j3, j4, j5, j6⟩ := h1; have h2 := cells7 (heap_below U2.out (Gr.trans HC.out hw')); obtain ⟨k0, k1, k2, k3, k4, k5, k6⟩ := h2; have h3 := cells7 (heap_below HP1.out (Gr.trans HC.out hw')); obtain ⟨y0, y1, y2, y3, y4, y5, y6⟩ := h3; have h4 := cells7 (heap_below HP2.out (Gr.trans HC.out hw')); obtain ⟨z0, z1, z2, z3, z4, z5, z6⟩ := h4)
        go_simp
        with_reducible rfl
      simp only [Act.put, List.setIfInBounds_toArray, List.set_cons_zero, List.set_cons_succ]
      -- 13: slot 55
      refine wpG_take preGr (i := 13) (v := ?_) (by kernel_rfl) (some 55) (by kernel_rfl) rfl (by kernel_rfl) (by kernel_rfl) (by kernel_rfl) (fun _ _ _ h => h) (by rfl) (fun w' hw' => ?_) rfl ?_
      rotate_left
      · try (have h0 := cells5 (heap_below U0.out (Gr.trans HC.out hw')); obtain ⟨i0, i1, i2, i3, i4⟩ := h0; have h1 := cells7 (heap_below U1.out (Gr.trans HC.out hw')); obtain ⟨j0, j1, j2, j3, j4, j5, j6⟩ := h1; have h2 := cells7 (heap_below U2.out (Gr.trans HC.out hw')); obtain ⟨k0, k1, k2, k3, k4, k5, k6⟩ := h2; have h3 := cells7 (heap_below HP1.out (Gr.trans HC.out hw')); obtain ⟨y0, y1, y2, y3, y4, y5, y6⟩ := h3; have h4 := cells7 (heap_below HP2.out (Gr.trans HC.out hw')); obtain ⟨z0, z1, z2, z3, z4, z5, z6⟩ := h4)
        go_simp
        with_reducible rfl
      simp only [Act.put, List.setIfInBounds_toArray, List.set_cons_zero, List.set_cons_succ]
      -- 14: slot 56
      refine wpG_take preGr (i := 14) (v := ?_) (by kernel_rfl) (some 56) (by kernel_rfl) rfl (by kernel_rfl) (by kernel_rfl) (by kernel_rfl) (fun _ _ _ h => h) (by rfl) (fun w' hw' => ?_) rfl ?_
      rotate_left
      · try (have h0 := cells5 (heap_below U0.out (Gr.trans HC.out hw')); obtain ⟨i0, i1, i2, i3, i4⟩ := h0; have h1 := cells7 (heap_below U1.out (Gr.trans HC.out hw')); obtain ⟨j0, j1, j2, j3, j4, j5, j6⟩ := h1; have h2 := cells7 (heap_below U2.out (Gr.trans HC.out hw')); obtain ⟨k0, k1, k2, k3, k4, k5, k6⟩ := h2; have h3 := cells7 (heap_below HP1.out (Gr.trans HC.out hw')); obtain ⟨y0, y1, y2, y3, y4, y5, y6⟩ := h3; have h4 := cells7 (heap_below HP2.out (Gr.trans HC.out hw')); obtain ⟨z0, z1, z2, z3, z4, z5, z6⟩ := h4)
        go_simp
        with_reducible rfl
      simp only [Act.put, List.setIfInBounds_toArray, List.set_cons_zero, List.set_cons_succ]
      -- 15: slot 57
      refine wpG_take preGr (i := 15) (v := ?_) (by kernel_rfl) (some 57) (by kernel_rfl) rfl (by kernel_rfl) (by kernel_rfl) (by kernel_rfl) (fun _ _ _ h => h) (by rfl) (fun w' hw' => ?_) rfl ?_
      rotate_left
      · try (have h0 := cells5 (heap_below U0.out (Gr.trans HC.out hw')); obtain ⟨i0, i1, i2, i3, i4⟩ := h0; have h1 := cells7 (heap_below U1.out (Gr.trans HC.out hw')); obtain ⟨j0, j1, j2, j3, j4, j5, j6⟩ := h1; have h2 := cells7 (heap_below U2.out (Gr.trans HC.out hw')); obtain ⟨k0, k1, k2, k3, k4, k5, k6⟩ := h2; have h3 := cells7 (heap_below HP1.out (Gr.trans HC.out hw')); obtain ⟨y0, y1, y2, y3, y4, y5, y6⟩ := h3; have h4 := cells7 (heap_below HP2.out (Gr.trans HC.out hw')); obtain ⟨z0, z1, z2, z3, z4, z5, z6⟩ := h4)
        go_simp
        with_reducible rfl
      simp only [Act.put, List.setIfInBounds_toArray, List.set_cons_zero, List.set_cons_succ]
      -- 16: slot 58
      refine wpG_take preGr (i := 16) (v := ?_) (by kernel_rfl) (some 58) (by kernel_rfl) rfl (by kernel_rfl) (by kernel_rfl) (by kernel_rfl) (fun _ _ _ h => h) (by rfl) (fun w' hw' => ?_) rfl ?_
      rotate_left
      · try (have h0 := cells5 (heap_below U0.out (Gr.trans HC.out hw')); obtain ⟨i0, i1, i2, i3, i4⟩ := h0; have h1 := cells7 (heap_below U1.out (Gr.trans HC.out hw')); obtain ⟨j0, j1, j2, j3, j4, j5, j6⟩ := h1; have h2 := cells7 (heap_below U2.out (Gr.trans HC.out hw')); obtain ⟨k0, k1, k2, k3, k4, k5, k6⟩ := h2; have h3 := cells7 (heap_below HP1.out (Gr.trans HC.out hw')); obtain ⟨y0, y1, y2, y3, y4, y5, y6⟩ := h3; have h4 := cells7 (heap_below HP2.out (Gr.trans HC.out hw')); obtain ⟨z0, z1, z2, z3, z4, z5, z6⟩ := h4)
        go_simp
        with_reducible rfl
      simp only [Act.put, List.setIfInBounds_toArray, List.set_cons_zero, List.set_cons_succ]
      -- 17: slot 59
      refine wpG_take preGr (i := 17) (v := ?_) (by kernel_rfl) (some 59) (by kernel_rfl) rfl (by kernel_rfl) (by kernel_rfl) (by kernel_rfl) (fun _ _ _ h => h) (by rfl) (fun w' hw' => ?_) rfl ?_
      rotate_left
      · try (have h0 := cells5 (heap_below U0.out (Gr.trans HC.out hw')); obtain ⟨i0, i1, i2, i3, i4⟩ := h0; have h1 := cells7 (heap_below U1.out (Gr.trans HC.out hw')); obtain ⟨j0, j1, j2, j3, j4, j5, j6⟩ := h1; have h2 := cells7 (heap_below U2.out (Gr.trans HC.out hw')); obtain ⟨k0, k1, k2, k3, k4, k5, k6⟩ := h2; have h3 := cells7 (heap_below HP1.out (Gr.trans HC.out hw')); obtain ⟨y0, y1, y2, y3, y4, y5, y6⟩ := h3; have h4 := cells7 (heap_below HP2.out (Gr.trans HC.out hw')); obtain ⟨z0, z1, z2, z3, z4, z5, z6⟩ := h4)
        go_simp
        with_reducible rfl
      simp only [Act.put, List.setIfInBounds_toArray, List.set_cons_zero, List.set_cons_succ]
      -- 19: slot 61
      refine wpG_take preGr (i := 19) (v := ?_) (by kernel_rfl) (some 61) (by kernel_rfl) rfl (by kernel_rfl) (by kernel_rfl) (by kernel_rfl) (fun _ _ _ h => h) (by rfl) (fun w' hw' => ?_) rfl ?_
      rotate_left
      · try (have h0 := cells5 (heap_below U0.out (Gr.trans HC.out hw')); obtain ⟨i0, i1, i2, i3, i4⟩ := h0; have h1 := cells7 (heap_below U1.out (Gr.trans HC.out hw')); obtain ⟨j0, j1, j2, j3, j4, j5, j6⟩ := h1; have h2 := cells7 (heap_below U2.out (Gr.trans HC.out hw')); obtain ⟨k0, k1, k2, k3, k4, k5, k6⟩ := h2; have h3 := cells7 (heap_below HP1.out (Gr.trans HC.out hw')); obtain ⟨y0, y1, y2, y3, y4, y5, y6⟩ := h3; have h4 := cells7 (heap_below HP2.out (Gr.trans HC.out hw')); obtain ⟨z0, z1, z2, z3, z4, z5, z6⟩ := h4)
        go_simp
        with_reducible rfl
      simp only [Act.put, List.setIfInBounds_toArray, List.set_cons_zero, List.set_cons_succ]
      -- 20: slot 62
      refine wpG_take preGr (i := 20) (v := ?_) (by kernel_rfl) (some 62) (by kernel_rfl) rfl (by kernel_rfl) (by kernel_rfl) (by kernel_rfl) (fun _ _ _ h => h) (by rfl) (fun w' hw' => ?_) rfl ?_
      rotate_left
      · try (have h0 := cells5 (heap_below U0.out (Gr.trans HC.out hw')); obtain ⟨i0, i1, i2, i3, i4⟩ := h0; have h1 := cells7 (heap_below U1.out (Gr.trans HC.out hw')); obtain ⟨j0, j1, j2, j3, j4, j5, j6⟩ := h1; have h2 := cells7 (heap_below U2.out (Gr.trans HC.out hw')); obtain ⟨k0, k1, k2, k3, k4, k5, k6⟩ := h2; have h3 := cells7 (heap_below HP1.out (Gr.trans HC.out hw')); obtain ⟨y0, y1, y2, y3, y4, y5, y6⟩ := h3; have h4 := cells7 (heap_below HP2.out (Gr.trans HC.out hw')); obtain ⟨z0, z1, z2, z3, z4, z5, z6⟩ := h4)
        go_simp
        with_reducible rfl
      simp only [Act.put, List.setIfInBounds_toArray, List.set_cons_zero, List.set_cons_succ]
      refine wpG_one (i := 18) rfl (by kernel_rfl) (by rfl) ?_
      go_simp
      refine (S2.out _ HC.out).mono ?_
      rintro e u18 ⟨rfl, hb⟩
      refine ⟨hb, ?_⟩
      have HC := Lib.hid (Gr.trans HC.out hb)
      clear hb
      try simp only [Act.put, List.setIfInBounds_toArray, List.set_cons_zero, List.set_cons_succ]
      refine wpG_one (i := 21) rfl (by kernel_rfl) (by rfl) ?_
      go_simp
      refine (S3.out _ HC.out).mono ?_
      rintro e u21 ⟨rfl, hb⟩
      refine ⟨hb, ?_⟩
      have HC := Lib.hid (Gr.trans HC.out hb)
      clear hb
      try simp only [Act.put, List.setIfInBounds_toArray, List.set_cons_zero, List.set_cons_succ]
      -- 22: slot 64
      refine wpG_take preGr (i := 22) (v := ?_) (by kernel_rfl) (some 64) (by kernel_rfl) rfl (by kernel_rfl) (by kernel_rfl) (by kernel_rfl) (fun _ _ _ h => h) (by rfl) (fun w' hw' => ?_) rfl ?_
      rotate_left
      · try (have h0 := cells5 (heap_below U0.out (Gr.trans HC.out hw')); obtain ⟨i0, i1, i2, i3, i4⟩ := h0; have h1 := cells7 (heap_below U1.out (Gr.trans HC.out hw')); obtain ⟨j0, j1, j2, j3, j4, j5, j6⟩ := h1; have h2 := cells7 (heap_below U2.out (Gr.trans HC.out hw')); obtain ⟨k0, k1, k2, k3, k4, k5, k6⟩ := h2; have h3 := cells7 (heap_below HP1.out (Gr.trans HC.out hw')); obtain ⟨y0, y1, y2, y3, y4, y5, y6⟩ := h3; have h4 := cells7 (heap_below HP2.out (Gr.trans HC.out hw')); obtain ⟨z0, z1, z2, z3, z4, z5, z6⟩ := h4)
        go_simp
        with_reducible rfl
      simp only [Act.put, List.setIfInBounds_toArray, List.set_cons_zero, List.set_cons_succ]
      -- 23: slot 65
      refine wpG_take preGr (i := 23) (v := ?_) (by kernel_rfl) (some 65) (by kernel_rfl) rfl (by kernel_rfl) (by kernel_rfl) (by kernel_rfl) (fun _ _ _ h => h) (by rfl) (fun w' hw' => ?_) rfl ?_
      rotate_left
      · try (have h0 := cells5 (heap_below U0.out (Gr.trans HC.out hw')); obtain ⟨i0, i1, i2, i3, i4⟩ := h0; have h1 := cells7 (heap_below U1.out (Gr.trans HC.out hw')); obtain ⟨j0, j1, j2, j3, j4, j5, j6⟩ := h1; have h2 := cells7 (heap_below U2.out (Gr.trans HC.out hw')); obtain ⟨k0, k1, k2, k3, k4, k5, k6⟩ := h2; have h3 := cells7 (heap_below HP1.out (Gr.trans HC.out hw')); obtain ⟨y0, y1, y2, y3, y4, y5, y6⟩ := h3; have h4 := cells7 (heap_below HP2.out (Gr.trans HC.out hw')); obtain ⟨z0, z1, z2, z3, z4, z5, z6⟩ := h4)
        go_simp
        with_reducible rfl
      simp only [Act.put, List.setIfInBounds_toArray, List.set_cons_zero, List.set_cons_succ]
      -- 24: slot 66
      refine wpG_take preGr (i := 24) (v := ?_) (by kernel_rfl) (some 66) (by kernel_rfl) rfl (by kernel_rfl) (by kernel_rfl) (by kernel_rfl) (fun _ _ _ h => h) (by rfl) (fun w' hw' => ?_) rfl ?_
      rotate_left
      · try (have h0 := cells5 (heap_below U0.out (Gr.trans HC.out hw')); obtain ⟨i0, i1, i2, i3, i4⟩ := h0; have h1 := cells7 (heap_below U1.out (Gr.trans HC.out hw')); obtain ⟨j0, j1, j2, j3, j4, j5, j6⟩ := h1; have h2 := cells7 (heap_below U2.out (Gr.trans HC.out hw')); obtain ⟨k0, k1, k2, k3, k4, k5, k6⟩ := h2; have h3 := cells7 (heap_below HP1.out (Gr.trans HC.out hw')); obtain ⟨y0, y1, y2, y3, y4, y5, y6⟩ := h3; have h4 := cells7 (heap_below HP2.out (Gr.trans HC.out hw')); obtain ⟨z0, z1, z2, z3, z4, z5, z6⟩ := h4)
        go_simp
        with_reducible rfl
      simp only [Act.put, List.setIfInBounds_toArray, List.set_cons_zero, List.set_cons_succ]
      -- 25: slot 67
      refine wpG_take preGr (i := 25) (v := ?_) (by kernel_rfl) (some 67) (by kernel_rfl) rfl (by kernel_rfl) (by kernel_rfl) (by kernel_rfl) (fun _ _ _ h => h) (by rfl) (fun w' hw' => ?_) rfl ?_
      rotate_left
      · try (have h0 := cells5 (heap_below U0.out (Gr.trans HC.out hw')); obtain ⟨i0, i1, i2, i3, i4⟩ := h0; have h1 := cells7 (heap_below U1.out (Gr.trans HC.out hw')); obtain ⟨j0, j1, j2, j3, j4, j5, j6⟩ := h1; have h2 := cells7 (heap_below U2.out (Gr.trans HC.out hw')); obtain ⟨k0, k1, k2, k3, k4, k5, k6⟩ := h2; have h3 := cells7 (heap_below HP1.out (Gr.trans HC.out hw')); obtain ⟨y0, y1, y2, y3, y4, y5, y6⟩ := h3; have h4 := cells7 (heap_below HP2.out (Gr.trans HC.out hw')); obtain ⟨z0, z1, z2, z3, z4, z5, z6⟩ := h4)
        go_simp
        with_reducible rfl
      simp only [Act.put, List.setIfInBounds_toArray, List.set_cons_zero, List.set_cons_succ]
      -- 26: slot 68
      refine wpG_take preGr (i := 26) (v := ?_) (by kernel_rfl) (some 68) (by kernel_rfl) rfl (by kernel_rfl) (by kernel_rfl) (by kernel_rfl) (fun _ _ _ h => h) (by rfl) (fun w' hw' => ?_) rfl ?_
      rotate_left
      · try (have h0 := cells5 (heap_below U0.out (Gr.trans HC.out hw')); obtain ⟨i0, i1, i2, i3, i4⟩ := h0; have h1 := cells7 (heap_below U1.out (Gr.trans HC.out hw')); obtain ⟨j0, j1, j2, j3, j4, j5, j6⟩ := h1; have h2 := cells7 (heap_below U2.out (Gr.trans HC.out hw')); obtain ⟨k0, k1, k2, k3, k4, k5, k6⟩ := h2; have h3 := cells7 (heap_below HP1.out (Gr.trans HC.out hw')); obtain ⟨y0, y1, y2, y3, y4, y5, y6⟩ := h3; have h4 := cells7 (heap_below HP2.out (Gr.trans HC.out hw')); obtain ⟨z0, z1, z2, z3, z4, z5, z6⟩ := h4)
        go_simp
        with_reducible rfl
      simp only [Act.put, List.setIfInBounds_toArray, List.set_cons_zero, List.set_cons_succ]
      refine wpG_one (i := 27) rfl (by kernel_rfl) (by rfl) ?_
      go_simp
      refine (S4.out _ HC.out).mono ?_
      rintro e u27 ⟨rfl, hb⟩
      refine ⟨hb, ?_⟩
      have HC := Lib.hid (Gr.trans HC.out hb)
      clear hb
      try simp only [Act.put, List.setIfInBounds_toArray, List.set_cons_zero, List.set_cons_succ]
      -- 28: slot 70
      refine wpG_take preGr (i := 28) (v := ?_) (by kernel_rfl) (some 70) (by kernel_rfl) rfl (by kernel_rfl) (by kernel_rfl) (by kernel_rfl) (fun _ _ _ h => h) (by rfl) (fun w' hw' => ?_) rfl ?_
      rotate_left
      · try (have h0 := cells5 (heap_below U0.out (Gr.trans HC.out hw')); obtain ⟨i0, i1, i2, i3, i4⟩ := h0; have h1 := cells7 (heap_below U1.out (Gr.trans HC.out hw')); obtain ⟨j0, j1, j2, j3, j4, j5, j6⟩ := h1; have h2 := cells7 (heap_below U2.out (Gr.trans HC.out hw')); obtain ⟨k0, k1, k2, k3, k4, k5, k6⟩ := h2; have h3 := cells7 (heap_below HP1.out (Gr.trans HC.out hw')); obtain ⟨y0, y1, y2, y3, y4, y5, y6⟩ := h3; have h4 := cells7 (heap_below HP2.out (Gr.trans HC.out hw')); obtain ⟨z0, z1, z2, z3, z4, z5, z6⟩ := h4)
        go_simp
        with_reducible rfl
      simp only [Act.put, List.setIfInBounds_toArray, List.set_cons_zero, List.set_cons_succ]
      -- 29: slot 71
      refine wpG_take preGr (i := 29) (v := ?_) (by kernel_rfl) (some 71) (by kernel_rfl) rfl (by kernel_rfl) (by kernel_rfl) (by kernel_rfl) (fun _ _ _ h => h) (by rfl) (fun w' hw' => ?_) rfl ?_
      rotate_left
      · try (have h0 := cells5 (heap_below U0.out (Gr.trans HC.out hw')); obtain ⟨i0, i1, i2, i3, i4⟩ := h0; have h1 := cells7 (heap_below U1.out (Gr.trans HC.out hw')); obtain ⟨j0, j1, j2, j3, j4, j5, j6⟩ := h1; have h2 := cells7 (heap_below U2.out (Gr.trans HC.out hw')); obtain ⟨k0, k1, k2, k3, k4, k5, k6⟩ := h2; have h3 := cells7 (heap_below HP1.out (Gr.trans HC.out hw')); obtain ⟨y0, y1, y2, y3, y4, y5, y6⟩ := h3; have h4 := cells7 (heap_below HP2.out (Gr.trans HC.out hw')); obtain ⟨z0, z1, z2, z3, z4, z5, z6⟩ := h4)
        go_simp
        with_reducible rfl
      simp only [Act.put, List.setIfInBounds_toArray, List.set_cons_zero, List.set_cons_succ]
      refine wpG_one (i := 30) rfl (by kernel_rfl) (by rfl) ?_
      go_simp
      refine (AW.out _).mono ?_
      rintro e u30 ⟨rfl, hb⟩
      refine ⟨hb, ?_⟩
      have HC := Lib.hid (Gr.trans HC.out hb)
      clear hb
      try simp only [Act.put, List.setIfInBounds_toArray, List.set_cons_zero, List.set_cons_succ]
      -- 31: slot 73
      refine wpG_take preGr (i := 31) (v := ?_) (by kernel_rfl) (some 73) (by kernel_rfl) rfl (by kernel_rfl) (by kernel_rfl) (by kernel_rfl) (fun _ _ _ h => h) (by rfl) (fun w' hw' => ?_) rfl ?_
      rotate_left
      · try (have h0 := cells5 (heap_below U0.out (Gr.trans HC.out hw')); obtain ⟨i0, i1, i2, i3, i4⟩ := h0; have h1 := cells7 (heap_below U1.out (Gr.trans HC.out hw')); obtain ⟨j0, j1, j2, j3, j4, j5, j6⟩ := h1; have h2 := cells7 (heap_below U2.out (Gr.trans HC.out hw')); obtain ⟨k0, k1, k2, k3, k4, k5, k6⟩ := h2; have h3 := cells7 (heap_below HP1.out (Gr.trans HC.out hw')); obtain ⟨y0, y1, y2, y3, y4, y5, y6⟩ := h3; have h4 := cells7 (heap_below HP2.out (Gr.trans HC.out hw')); obtain ⟨z0, z1, z2, z3, z4, z5, z6⟩ := h4)
        go_simp
        with_reducible rfl
      simp only [Act.put, List.setIfInBounds_toArray, List.set_cons_zero, List.set_cons_succ]
      -- 32: slot 6
      refine wpG_take preGr (i := 32) (v := ?_) (by kernel_rfl) (some 6) (by kernel_rfl) rfl (by kernel_rfl) (by kernel_rfl) (by kernel_rfl) (fun _ _ _ h => h) (by rfl) (fun w' hw' => ?_) rfl ?_
      rotate_left
      · try (have h0 := cells5 (heap_below U0.out (Gr.trans HC.out hw')); obtain ⟨i0, i1, i2, i3, i4⟩ := h0; have h1 := cells7 (heap_below U1.out (Gr.trans HC.out hw')); obtain ⟨j0, j1, j2, j3, j4, j5, j6⟩ := h1; have h2 := cells7 (heap_below U2.out (Gr.trans HC.out hw')); obtain ⟨k0, k1, k2, k3, k4, k5, k6⟩ := h2; have h3 := cells7 (heap_below HP1.out (Gr.trans HC.out hw')); obtain ⟨y0, y1, y2, y3, y4, y5, y6⟩ := h3; have h4 := cells7 (heap_below HP2.out (Gr.trans HC.out hw')); obtain ⟨z0, z1, z2, z3, z4, z5, z6⟩ := h4)
        go_simp
        with_reducible rfl
      simp only [Act.put, List.setIfInBounds_toArray, List.set_cons_zero, List.set_cons_succ]
      refine wpG_done (by kernel_rfl) ?_ _
      have HBZ := Lib.hid (HB7.out.trans (Below.mono (Gr.trans HV4.out HC.out) HB7.out.size))
      go_wp2
      go_ret
      exact ⟨rfl, HBZ.out⟩
    · have CK := Lib.hid (fun w' hw => by have h := CK.out w' hw; rw [if_neg (fun h => hA h.2)] at h; exact h)
      have HA := Lib.hid hA
      clear hC hA
      go_wp2_with fail
      refine RC.out.mono ?_
      rintro e w8 ⟨rfl, hb⟩
      have HG : Hid (Gr w7 w8) := hb
      clear hb RC
      clear i0 i1 i2 i3 i4 j0 j1 j2 j3 j4 j5 j6
      obtain ⟨i0, i1, i2, i3, i4⟩ := cells5 (heap_below U0.out HG.out)
      obtain ⟨j0, j1, j2, j3, j4, j5, j6⟩ := cells7 (heap_below U1.out HG.out)
      have RI2 := Lib.hid (RI.out w8 HG.out)
      rw [decide_eq_false HA.out] at RI2
      clear RI
      go_wp2_with fail
      refine RI2.out.mono ?_
      rintro e w9 ⟨rfl, hb⟩
      have HG := Lib.hid (Gr.trans HG.out hb)
      clear hb RI2
      have NW := Lib.hid (New_any ao n c ts w9 (HT7.out.below HG.out) HML.out.1 HML.out.2)
      have RN := Lib.hid (fun w' (hw : Gr w9 w') => rNew_any ao n c ts w' ((HT7.out.below HG.out).below hw) HML.out.1 HML.out.2)
      generalize new (plain ts) = x at NW RN
      obtain ⟨⟨xs, xi, xr, xk, xc, xt, xn⟩, xe⟩ := x
      clear i0 i1 i2 i3 i4 j0 j1 j2 j3 j4 j5 j6
      obtain ⟨i0, i1, i2, i3, i4⟩ := cells5 (heap_below U0.out HG.out)
      obtain ⟨j0, j1, j2, j3, j4, j5, j6⟩ := cells7 (heap_below U1.out HG.out)
      go_wp2_with fail
      refine NW.out.mono ?_
      rintro e v1 ⟨av, us1, rfl, hto, hpu, hb⟩
      obtain ⟨na, nc, rfl, _, _⟩ := hto.tr.shape
      have HV1 := Lib.hid (Gr.trans HG.out hb)
      have HW1 : Hid (Gr w9 v1) := hb
      obtain ⟨nn, hnn⟩ : ∃ k, k = us1.length := ⟨_, rfl⟩
      have HTX : Hid (TR v1 (.slice na nn nc) nn us1) := by rw [hnn]; exact hto.tr
      rw [← hnn]
      have HPX : Hid (plain us1 = xk) := hpu
      simp only [autoV, autoC]
      have hal : Gr v1 (v1.alloc (.cells #[.int .i64 xs, .int .i64 xi, .int .i64 xr, .slice na nn nc, .int .i64 xc, .int .i64 xt, .int .i64 xn] 28)) := (Gr.refl _).alloc _
      have HP1 : Hid ((v1.alloc (.cells #[.int .i64 xs, .int .i64 xi, .int .i64 xr, .slice na nn nc, .int .i64 xc, .int .i64 xt, .int .i64 xn] 28)).heap[v1.heap.size]? = some (.cells #[.int .i64 xs, .int .i64 xi, .int .i64 xr, .slice na nn nc, .int .i64 xc, .int .i64 xt, .int .i64 xn] 28 (0, 0))) := heap_alloc_last _ _
      have HV2 := Lib.hid (Gr.trans HV1.out hal)
      have HW2 := Lib.hid (Gr.trans HW1.out hal)
      have HTX := Lib.hid (HTX.out.below hal)
      obtain ⟨p1, hp1⟩ : ∃ g, g = v1.heap.size := ⟨_, rfl⟩
      obtain ⟨v2, hv2⟩ : ∃ x, x = v1.alloc (.cells #[.int .i64 xs, .int .i64 xi, .int .i64 xr, .slice na nn nc, .int .i64 xc, .int .i64 xt, .int .i64 xn] 28) := ⟨_, rfl⟩
      clear hto hpu hb hnn hal HV1 HW1 NW
      go_upto_region 7 with fail
      rw [← hv2, ← hp1] at HP1
      rw [← hv2] at HV2 HW2 HTX
      rw [← hv2, ← hp1]
      clear hp1 hv2
      clear i0 i1 i2 i3 i4 j0 j1 j2 j3 j4 j5 j6
      obtain ⟨j0, j1, j2, j3, j4, j5, j6⟩ := cells7 (heap_below U1.out HV2.out)
      go_wp2_with fail
      refine (RN.out v2 HW2.out).mono ?_
      rintro e v3 ⟨ma, mm, mc, us2, rfl, hty, hpu, hb⟩
      have HV3 := Lib.hid (Gr.trans HV2.out hb)
      have HP1 := Lib.hid (heap_below HP1.out hb)
      have HTX := Lib.hid (HTX.out.below hb)
      have HTY := Lib.hid hty
      have HPY : Hid (plain us2 = xk) := hpu
      simp only [autoV, autoC]
      have hal : Gr v3 (v3.alloc (.cells #[.int .i64 xs, .int .i64 xi, .int .i64 xr, .slice ma mm mc, .int .i64 xc, .int .i64 xt, .int .i64 xn] 28)) := (Gr.refl _).alloc _
      have HP2 : Hid ((v3.alloc (.cells #[.int .i64 xs, .int .i64 xi, .int .i64 xr, .slice ma mm mc, .int .i64 xc, .int .i64 xt, .int .i64 xn] 28)).heap[v3.heap.size]? = some (.cells #[.int .i64 xs, .int .i64 xi, .int .i64 xr, .slice ma mm mc, .int .i64 xc, .int .i64 xt, .int .i64 xn] 28 (0, 0))) := heap_alloc_last _ _
      have HP1 := Lib.hid (heap_below HP1.out hal)
      have HV4 := Lib.hid (Gr.trans HV3.out hal)
      have HTX := Lib.hid (HTX.out.below hal)
      have HTY := Lib.hid (HTY.out.below hal)
      obtain ⟨p2, hp2⟩ : ∃ g, g = v3.heap.size := ⟨_, rfl⟩
      obtain ⟨wB, hv4⟩ : ∃ x, x = v3.alloc (.cells #[.int .i64 xs, .int .i64 xi, .int .i64 xr, .slice ma mm mc, .int .i64 xc, .int .i64 xt, .int .i64 xn] 28) := ⟨_, rfl⟩
      clear hty hpu hb hal HV2 HV3 HW2 RN j0 j1 j2 j3 j4 j5 j6
      go_upto_region 8 with fail
      rw [← hv4, ← hp2] at HP2
      rw [← hv4] at HP1 HV4 HTX HTY
      rw [← hv4, ← hp2]
      clear hp2 hv4
      have U0 := Lib.hid (heap_below U0.out HV4.out)
      have U1 := Lib.hid (heap_below U1.out HV4.out)
      have U2 := Lib.hid (heap_below U2.out HV4.out)
      have CK2 := Lib.hid (fun w' (hw : Gr wB w') => CK.out w' (Gr.trans HV4.out hw))
      have S1 := Lib.hid (fun w' (hw : Gr wB w') => dsame_any xs xi xr xc xt xn xs xi xr xc xt xn na nn nc us1 ma mm mc us2 w' (HTX.out.below hw) (HTY.out.below hw))
      rw [decide_eq_true (show xs = xs ∧ xi = xi ∧ xr = xr ∧ xc = xc ∧ xt = xt ∧ xn = xn ∧ plain us1 = plain us2 from ⟨rfl, rfl, rfl, rfl, rfl, rfl, HPX.out.trans HPY.out.symm⟩)] at S1
      have S2 := Lib.hid (fun w' (hw : Gr wB w') => asame_any st1 id1 rq1 ct1 tm1 nk1 st2 id2 rq2 ct2 tm2 nk2 ao n c ts bo m d us w' ((HT7.out.below HV4.out).below hw) ((HS7.out.below HV4.out).below hw))
      have S3 := Lib.hid (fun w' (hw : Gr wB w') => dsame_any st1 id1 rq1 ct1 tm1 nk1 st2 id2 rq2 ct2 tm2 nk2 ao n c ts bo m d us w' ((HT7.out.below HV4.out).below hw) ((HS7.out.below HV4.out).below hw))
      have S4 := Lib.hid (fun w' (hw : Gr wB w') => asame_any st1 id1 rq1 ct1 tm1 nk1 st1 id1 rq1 ct1 tm1 nk1 ao n c ts ao n c ts w' ((HT7.out.below HV4.out).below hw) ((HT7.out.below HV4.out).below hw))
      rw [decide_eq_true (show st1 = st1 ∧ id1 = id1 ∧ rq1 = rq1 ∧ ct1 = ct1 ∧ tm1 = tm1 ∧ nk1 = nk1 ∧ plain ts = plain ts from ⟨rfl, rfl, rfl, rfl, rfl, rfl, rfl⟩)] at S4
      generalize decide (st1 = st2 ∧ id1 = id2 ∧ rq1 = rq2 ∧ ct1 = ct2 ∧ tm1 = tm2 ∧ nk1 = nk2 ∧ plain ts = plain us) = q at S2 S3
      have HC : Hid (Gr wB wB.drew) := Gr.drew _
      have hqq : (q == q) = true := by simp
      refine wp_region_G 33 Gr (by kernel_rfl) ?_
      generalize wB.drew = wc at HC ⊢
      -- 0: slot 42
      refine wpG_take preGr (i := 0) (v := ?_) (by kernel_rfl) (some 42) (by kernel_rfl) rfl (by kernel_rfl) (by kernel_rfl) (by kernel_rfl) (fun _ _ _ h => h) (by rfl) (fun w' hw' => ?_) rfl ?_
      rotate_left
      · try (have h0 := cells5 (heap_below U0.out (Gr.trans HC.out hw')); obtain ⟨i0, i1, i2, i3, i4⟩ := h0; have h1 := cells7 (heap_below U1.out (Gr.trans HC.out hw')); obtain ⟨j0, j1, j2, j3, j4, j5, j6⟩ := h1; have h2 := cells7 (heap_below U2.out (Gr.trans HC.out hw')); obtain ⟨k0, k1, k2, k3, k4, k5, k6⟩ := h2; have h3 := cells7 (heap_below HP1.out (Gr.trans HC.out hw')); obtain ⟨y0, y1, y2, y3, y4, y5, y6⟩ := h3; have h4 := cells7 (heap_below HP2.out (Gr.trans HC.out hw')); obtain ⟨z0, z1, z2, z3, z4, z5, z6⟩ := h4)
        go_simp
        with_reducible rfl
      simp only [Act.put, List.setIfInBounds_toArray, List.set_cons_zero, List.set_cons_succ]
      -- 1: slot 43
      refine wpG_take preGr (i := 1) (v := ?_) (by kernel_rfl) (some 43) (by kernel_rfl) rfl (by kernel_rfl) (by kernel_rfl) (by kernel_rfl) (fun _ _ _ h => h) (by rfl) (fun w' hw' => ?_) rfl ?_
      rotate_left
      · try (have h0 := cells5 (heap_below U0.out (Gr.trans HC.out hw')); obtain ⟨i0, i1, i2, i3, i4⟩ := h0; have h1 := cells7 (heap_below U1.out (Gr.trans HC.out hw')); obtain ⟨j0, j1, j2, j3, j4, j5, j6⟩ := h1; have h2 := cells7 (heap_below U2.out (Gr.trans HC.out hw')); obtain ⟨k0, k1, k2, k3, k4, k5, k6⟩ := h2; have h3 := cells7 (heap_below HP1.out (Gr.trans HC.out hw')); obtain ⟨y0, y1, y2, y3, y4, y5, y6⟩ := h3; have h4 := cells7 (heap_below HP2.out (Gr.trans HC.out hw')); obtain ⟨z0, z1, z2, z3, z4, z5, z6⟩ := h4)
        go_simp
        with_reducible rfl
      simp only [Act.put, List.setIfInBounds_toArray, List.set_cons_zero, List.set_cons_succ]
      -- 3: slot 45
      refine wpG_take preGr (i := 3) (v := ?_) (by kernel_rfl) (some 45) (by kernel_rfl) rfl (by kernel_rfl) (by kernel_rfl) (by kernel_rfl) (fun _ _ _ h => h) (by rfl) (fun w' hw' => ?_) rfl ?_
      rotate_left
      · try (have h0 := cells5 (heap_below U0.out (Gr.trans HC.out hw')); obtain ⟨i0, i1, i2, i3, i4⟩ := h0; have h1 := cells7 (heap_below U1.out (Gr.trans HC.out hw')); obtain ⟨j0, j1, j2, j3, j4, j5, j6⟩ := h1; have h2 := cells7 (heap_below U2.out (Gr.trans HC.out hw')); obtain ⟨k0, k1, k2, k3, k4, k5, k6⟩ := h2; have h3 := cells7 (heap_below HP1.out (Gr.trans HC.out hw')); obtain ⟨y0, y1, y2, y3, y4, y5, y6⟩ := h3; have h4 := cells7 (heap_below HP2.out (Gr.trans HC.out hw')); obtain ⟨z0, z1, z2, z3, z4, z5, z6⟩ := h4)
        go_simp
        with_reducible rfl
      simp only [Act.put, List.setIfInBounds_toArray, List.set_cons_zero, List.set_cons_succ]
      refine wpG_one (i := 2) rfl (by kernel_rfl) (by rfl) ?_
      go_simp
      refine (CK2.out _ HC.out).mono ?_
      rintro e u2 ⟨rfl, hb⟩
      refine ⟨hb, ?_⟩
      have HC := Lib.hid (Gr.trans HC.out hb)
      clear hb
      try simp only [Act.put, List.setIfInBounds_toArray, List.set_cons_zero, List.set_cons_succ]
      -- 4: slot 46
      refine wpG_take preGr (i := 4) (v := ?_) (by kernel_rfl) (some 46) (by kernel_rfl) rfl (by kernel_rfl) (by kernel_rfl) (by kernel_rfl) (fun _ _ _ h => h) (by rfl) (fun w' hw' => ?_) rfl ?_
      rotate_left
      · try (have h0 := cells5 (heap_below U0.out (Gr.trans HC.out hw')); obtain ⟨i0, i1, i2, i3, i4⟩ := h0; have h1 := cells7 (heap_below U1.out (Gr.trans HC.out hw')); obtain ⟨j0, j1, j2, j3, j4, j5, j6⟩ := h1; have h2 := cells7 (heap_below U2.out (Gr.trans HC.out hw')); obtain ⟨k0, k1, k2, k3, k4, k5, k6⟩ := h2; have h3 := cells7 (heap_below HP1.out (Gr.trans HC.out hw')); obtain ⟨y0, y1, y2, y3, y4, y5, y6⟩ := h3; have h4 := cells7 (heap_below HP2.out (Gr.trans HC.out hw')); obtain ⟨z0, z1, z2, z3, z4, z5, z6⟩ := h4)
        go_simp
        with_reducible rfl
      simp only [Act.put, List.setIfInBounds_toArray, List.set_cons_zero, List.set_cons_succ]
      -- 5: slot 47
      refine wpG_take preGr (i := 5) (v := ?_) (by kernel_rfl) (some 47) (by kernel_rfl) rfl (by kernel_rfl) (by kernel_rfl) (by kernel_rfl) (fun _ _ _ h => h) (by rfl) (fun w' hw' => ?_) rfl ?_
      rotate_left
      · try (have h0 := cells5 (heap_below U0.out (Gr.trans HC.out hw')); obtain ⟨i0, i1, i2, i3, i4⟩ := h0; have h1 := cells7 (heap_below U1.out (Gr.trans HC.out hw')); obtain ⟨j0, j1, j2, j3, j4, j5, j6⟩ := h1; have h2 := cells7 (heap_below U2.out (Gr.trans HC.out hw')); obtain ⟨k0, k1, k2, k3, k4, k5, k6⟩ := h2; have h3 := cells7 (heap_below HP1.out (Gr.trans HC.out hw')); obtain ⟨y0, y1, y2, y3, y4, y5, y6⟩ := h3; have h4 := cells7 (heap_below HP2.out (Gr.trans HC.out hw')); obtain ⟨z0, z1, z2, z3, z4, z5, z6⟩ := h4)
        go_simp
        with_reducible rfl
      simp only [Act.put, List.setIfInBounds_toArray, List.set_cons_zero, List.set_cons_succ]
      -- 6: slot 48
      refine wpG_take preGr (i := 6) (v := ?_) (by kernel_rfl) (some 48) (by kernel_rfl) rfl (by kernel_rfl) (by kernel_rfl) (by kernel_rfl) (fun _ _ _ h => h) (by rfl) (fun w' hw' => ?_) rfl ?_
      rotate_left
      · try (have h0 := cells5 (heap_below U0.out (Gr.trans HC.out hw')); obtain ⟨i0, i1, i2, i3, i4⟩ := h0; have h1 := cells7 (heap_below U1.out (Gr.trans HC.out hw')); obtain ⟨j0, j1, j2, j3, j4, j5, j6⟩ := h1; have h2 := cells7 (heap_below U2.out (Gr.trans HC.out hw')); obtain ⟨k0, k1, k2, k3, k4, k5, k6⟩ := h2; have h3 := cells7 (heap_below HP1.out (Gr.trans HC.out hw')); obtain ⟨y0, y1, y2, y3, y4, y5, y6⟩ := h3; have h4 := cells7 (heap_below HP2.out (Gr.trans HC.out hw')); obtain ⟨z0, z1, z2, z3, z4, z5, z6⟩ := h4)
        go_simp
        with_reducible rfl
      simp only [Act.put, List.setIfInBounds_toArray, List.set_cons_zero, List.set_cons_succ]
      -- 7: slot 49
      refine wpG_take preGr (i := 7) (v := ?_) (by kernel_rfl) (some 49) (by kernel_rfl) rfl (by kernel_rfl) (by kernel_rfl) (by kernel_rfl) (fun _ _ _ h => h) (by rfl) (fun w' hw' => ?_) rfl ?_
      rotate_left
      · try (have h0 := cells5 (heap_below U0.out (Gr.trans HC.out hw')); obtain ⟨i0, i1, i2, i3, i4⟩ := h0; have h1 := cells7 (heap_below U1.out (Gr.trans HC.out hw')); obtain ⟨j0, j1, j2, j3, j4, j5, j6⟩ := h1; have h2 := cells7 (heap_below U2.out (Gr.trans HC.out hw')); obtain ⟨k0, k1, k2, k3, k4, k5, k6⟩ := h2; have h3 := cells7 (heap_below HP1.out (Gr.trans HC.out hw')); obtain ⟨y0, y1, y2, y3, y4, y5, y6⟩ := h3; have h4 := cells7 (heap_below HP2.out (Gr.trans HC.out hw')); obtain ⟨z0, z1, z2, z3, z4, z5, z6⟩ := h4)
        go_simp
        with_reducible rfl
      simp only [Act.put, List.setIfInBounds_toArray, List.set_cons_zero, List.set_cons_succ]
      refine wpG_one (i := 8) rfl (by kernel_rfl) (by rfl) ?_
      go_simp
      refine (S1.out _ HC.out).mono ?_
      rintro e u8 ⟨rfl, hb⟩
      refine ⟨hb, ?_⟩
      have HC := Lib.hid (Gr.trans HC.out hb)
      clear hb
      try simp only [Act.put, List.setIfInBounds_toArray, List.set_cons_zero, List.set_cons_succ]
      -- 9: slot 51
      refine wpG_take preGr (i := 9) (v := ?_) (by kernel_rfl) (some 51) (by kernel_rfl) rfl (by kernel_rfl) (by kernel_rfl) (by kernel_rfl) (fun _ _ _ h => h) (by rfl) (fun w' hw' => ?_) rfl ?_
      rotate_left
      · try (have h0 := cells5 (heap_below U0.out (Gr.trans HC.out hw')); obtain ⟨i0, i1, i2, i3, i4⟩ := h0; have h1 := cells7 (heap_below U1.out (Gr.trans HC.out hw')); obtain ⟨j0, j1, j2, j3, j4, j5, j6⟩ := h1; have h2 := cells7 (heap_below U2.out (Gr.trans HC.out hw')); obtain ⟨k0, k1, k2, k3, k4, k5, k6⟩ := h2; have h3 := cells7 (heap_below HP1.out (Gr.trans HC.out hw')); obtain ⟨y0, y1, y2, y3, y4, y5, y6⟩ := h3; have h4 := cells7 (heap_below HP2.out (Gr.trans HC.out hw')); obtain ⟨z0, z1, z2, z3, z4, z5, z6⟩ := h4)
        go_simp
        with_reducible rfl
      simp only [Act.put, List.setIfInBounds_toArray, List.set_cons_zero, List.set_cons_succ]
      -- 10: slot 52
      refine wpG_take preGr (i := 10) (v := ?_) (by kernel_rfl) (some 52) (by kernel_rfl) rfl (by kernel_rfl) (by kernel_rfl) (by kernel_rfl) (fun _ _ _ h => h) (by rfl) (fun w' hw' => ?_) rfl ?_
      rotate_left
      · try (have h0 := cells5 (heap_below U0.out (Gr.trans HC.out hw')); obtain ⟨i0, i1, i2, i3, i4⟩ := h0; have h1 := cells7 (heap_below U1.out (Gr.trans HC.out hw')); obtain ⟨j0, j1, j2, j3, j4, j5, j6⟩ := h1; have h2 := cells7 (heap_below U2.out (Gr.trans HC.out hw')); obtain ⟨k0, k1, k2, k3, k4, k5, k6⟩ := h2; have h3 := cells7 (heap_below HP1.out (Gr.trans HC.out hw')); obtain ⟨y0, y1, y2, y3, y4, y5, y6⟩ := h3; have h4 := cells7 (heap_below HP2.out (Gr.trans HC.out hw')); obtain ⟨z0, z1, z2, z3, z4, z5, z6⟩ := h4)
        go_simp
        with_reducible rfl
      simp only [Act.put, List.setIfInBounds_toArray, List.set_cons_zero, List.set_cons_succ]
      -- 11: slot 53
      refine wpG_take preGr (i := 11) (v := ?_) (by kernel_rfl) (some 53) (by kernel_rfl) rfl (by kernel_rfl) (by kernel_rfl) (by kernel_rfl) (fun _ _ _ h => h) (by rfl) (fun w' hw' => ?_) rfl ?_
      rotate_left
      · try (have h0 := cells5 (heap_below U0.out (Gr.trans HC.out hw')); obtain ⟨i0, i1, i2, i3, i4⟩ := h0; have h1 := cells7 (heap_below U1.out (Gr.trans HC.out hw')); obtain ⟨j0, j1, j2, j3, j4, j5, j6⟩ := h1; have h2 := cells7 (heap_below U2.out (Gr.trans HC.out hw')); obtain ⟨k0, k1, k2, k3, k4, k5, k6⟩ := h2; have h3 := cells7 (heap_below HP1.out (Gr.trans HC.out hw')); obtain ⟨y0, y1, y2, y3, y4, y5, y6⟩ := h3; have h4 := cells7 (heap_below HP2.out (Gr.trans HC.out hw')); obtain ⟨z0, z1, z2, z3, z4, z5, z6⟩ := h4)
        go_simp
        with_reducible rfl
      simp only [Act.put, List.setIfInBounds_toArray, List.set_cons_zero, List.set_cons_succ]
      -- 12: slot 54
      refine wpG_take preGr (i := 12) (v := ?_) (by kernel_rfl) (some 54) (by kernel_rfl) rfl (by kernel_rfl) (by kernel_rfl) (by kernel_rfl) (fun _ _ _ h => h) (by rfl) (fun w' hw' => ?_) rfl ?_
      rotate_left
      · try (have h0 := cells5 (heap_below U0.out (Gr.trans HC.out hw')); obtain ⟨i0, i1, i2, i3, i4⟩ := h0; have h1 := cells7 (heap_below U1.out (Gr.trans HC.out hw')); obtain ⟨j0, j1, j2, j3, j4, j5, j6⟩ := h1; have h2 := cells7 (heap_below U2.out (Gr.trans HC.out hw')); obtain ⟨k0, k1, k2, k3, k4, k5, k6⟩ := h2; have h3 := cells7 (heap_below HP1.out (Gr.trans HC.out hw')); obtain ⟨y0, y1, y2, y3, y4, y5, y6⟩ := h3; have h4 := cells7 (heap_below HP2.out (Gr.trans HC.out hw')); obtain ⟨z0, z1, z2, z3, z4, z5, z6⟩ := h4)
        go_simp
        with_reducible rfl
      simp only [Act.put, List.setIfInBounds_toArray, List.set_cons_zero, List.set_cons_succ]
      -- 13: slot 55
      refine wpG_take preGr (i := 13) (v := ?_) (by kernel_rfl) (some 55) (by kernel_rfl) rfl (by kernel_rfl) (by kernel_rfl) (by kernel_rfl) (fun _ _ _ h => h) (by rfl) (fun w' hw' => ?_) rfl ?_
      rotate_left
      · try (have h0 := cells5 (heap_below U0.out (Gr.trans HC.out hw')); obtain ⟨i0, i1, i2, i3, i4⟩ := h0; have h1 := cells7 (heap_below U1.out (Gr.trans HC.out hw')); obtain ⟨j0, j1, j2, j3, j4, j5, j6⟩ := h1; have h2 := cells7 (heap_below U2.out (Gr.trans HC.out hw')); obtain ⟨k0, k1, k2, k3, k4, k5, k6⟩ := h2; have h3 := cells7 (heap_below HP1.out (Gr.trans HC.out hw')); obtain ⟨y0, y1, y2, y3, y4, y5, y6⟩ := h3; have h4 := cells7 (heap_below HP2.out (Gr.trans HC.out hw')); obtain ⟨z0, z1, z2, z3, z4, z5, z6⟩ := h4)
        go_simp
        with_reducible rfl
      simp only [Act.put, List.setIfInBounds_toArray, List.set_cons_zero, List.set_cons_succ]
      -- 14: slot 56
      refine wpG_take preGr (i := 14) (v := ?_) (by kernel_rfl) (some 56) (by kernel_rfl) rfl (by kernel_rfl) (by kernel_rfl) (by kernel_rfl) (fun _ _ _ h => h) (by rfl) (fun w' hw' => ?_) rfl ?_
      rotate_left
      · try (have h0 := cells5 (heap_below U0.out (Gr.trans HC.out hw')); obtain ⟨i0, i1, i2, i3, i4⟩ := h0; have h1 := cells7 (heap_below U1.out (Gr.trans HC.out hw')); obtain ⟨j0, j1, j2, j3, j4, j5, j6⟩ := h1; have h2 := cells7 (heap_below U2.out (Gr.trans HC.out hw')); obtain ⟨k0, k1, k2, k3, k4, k5, k6⟩ := h2; have h3 := cells7 (heap_below HP1.out (Gr.trans HC.out hw')); obtain ⟨y0, y1, y2, y3, y4, y5, y6⟩ := h3; have h4 := cells7 (heap_below HP2.out (Gr.trans HC.out hw')); obtain ⟨z0, z1, z2, z3, z4, z5, z6⟩ := h4)
        go_simp
        with_reducible rfl
      simp only [Act.put, List.setIfInBounds_toArray, List.set_cons_zero, List.set_cons_succ]
      -- 15: slot 57
      refine wpG_take preGr (i := 15) (v := ?_) (by kernel_rfl) (some 57) (by kernel_rfl) rfl (by kernel_rfl) (by kernel_rfl) (by kernel_rfl) (fun _ _ _ h => h) (by rfl) (fun w' hw' => ?_) rfl ?_
      rotate_left
      · try (have h0 := cells5 (heap_below U0.out (Gr.trans HC.out hw')); obtain ⟨i0, i1, i2, i3, i4⟩ := h0; have h1 := cells7 (heap_below U1.out (Gr.trans HC.out hw')); obtain ⟨j0, j1, j2, j3, j4, j5, j6⟩ := h1; have h2 := cells7 (heap_below U2.out (Gr.trans HC.out hw')); obtain ⟨k0, k1, k2, k3, k4, k5, k6⟩ := h2; have h3 := cells7 (heap_below HP1.out (Gr.trans HC.out hw')); obtain ⟨y0, y1, y2, y3, y4, y5, y6⟩ := h3; have h4 := cells7 (heap_below HP2.out (Gr.trans HC.out hw')); obtain ⟨z0, z1, z2, z3, z4, z5, z6⟩ := h4)
        go_simp
        with_reducible rfl
      simp only [Act.put, List.setIfInBounds_toArray, List.set_cons_zero, List.set_cons_succ]
      -- 16: slot 58
      refine wpG_take preGr (i := 16) (v := ?_) (by kernel_rfl) (some 58) (by kernel_rfl) rfl (by kernel_rfl) (by kernel_rfl) (by kernel_rfl) (fun _ _ _ h => h) (by rfl) (fun w' hw' => ?_) rfl ?_
      rotate_left
      · try (have h0 := cells5 (heap_below U0.out (Gr.trans HC.out hw')); obtain ⟨i0, i1, i2, i3, i4⟩ := h0; have h1 := cells7 (heap_below U1.out (Gr.trans HC.out hw')); obtain ⟨j0, j1, j2, j3, j4, j5, j6⟩ := h1; have h2 := cells7 (heap_below U2.out (Gr.trans HC.out hw')); obtain ⟨k0, k1, k2, k3, k4, k5, k6⟩ := h2; have h3 := cells7 (heap_below HP1.out (Gr.trans HC.out hw')); obtain ⟨y0, y1, y2, y3, y4, y5, y6⟩ := h3; have h4 := cells7 (heap_below HP2.out (Gr.trans HC.out hw')); obtain ⟨z0, z1, z2, z3, z4, z5, z6⟩ := h4)
        go_simp
        with_reducible rfl
      simp only [Act.put, List.setIfInBounds_toArray, List.set_cons_zero, List.set_cons_succ]
      -- 17: slot 59
      refine wpG_take preGr (i := 17) (v := ?_) (by kernel_rfl) (some 59) (by kernel_rfl) rfl (by kernel_rfl) (by kernel_rfl) (by kernel_rfl) (fun _ _ _ h => h) (by rfl) (fun w' hw' => ?_) rfl ?_
      rotate_left
      · try (have h0 := cells5 (heap_below U0.out (Gr.trans HC.out hw')); obtain ⟨i0, i1, i2, i3, i4⟩ := h0; have h1 := cells7 (heap_below U1.out (Gr.trans HC.out hw')); obtain ⟨j0, j1, j2, j3, j4, j5, j6⟩ := h1; have h2 := cells7 (heap_below U2.out (Gr.trans HC.out hw')); obtain ⟨k0, k1, k2, k3, k4, k5, k6⟩ := h2; have h3 := cells7 (heap_below HP1.out (Gr.trans HC.out hw')); obtain ⟨y0, y1, y2, y3, y4, y5, y6⟩ := h3; have h4 := cells7 (heap_below HP2.out (Gr.trans HC.out hw')); obtain ⟨z0, z1, z2, z3, z4, z5, z6⟩ := h4)
        go_simp
        with_reducible rfl
      simp only [Act.put, List.setIfInBounds_toArray, List.set_cons_zero, List.set_cons_succ]
      -- 19: slot 61
      refine wpG_take preGr (i := 19) (v := ?_) (by kernel_rfl) (some 61) (by kernel_rfl) rfl (by kernel_rfl) (by kernel_rfl) (by kernel_rfl) (fun _ _ _ h => h) (by rfl) (fun w' hw' => ?_) rfl ?_
      rotate_left
      · try (have h0 := cells5 (heap_below U0.out (Gr.trans HC.out hw')); obtain ⟨i0, i1, i2, i3, i4⟩ := h0; have h1 := cells7 (heap_below U1.out (Gr.trans HC.out hw')); obtain ⟨j0, j1, j2, j3, j4, j5, j6⟩ := h1; have h2 := cells7 (heap_below U2.out (Gr.trans HC.out hw')); obtain ⟨k0, k1, k2, k3, k4, k5, k6⟩ := h2; have h3 := cells7 (heap_below HP1.out (Gr.trans HC.out hw')); obtain ⟨y0, y1, y2, y3, y4, y5, y6⟩ := h3; have h4 := cells7 (heap_below HP2.out (Gr.trans HC.out hw')); obtain ⟨z0, z1, z2, z3, z4, z5, z6⟩ := h4)
        go_simp
        with_reducible rfl
      simp only [Act.put, List.setIfInBounds_toArray, List.set_cons_zero, List.set_cons_succ]
      -- 20: slot 62
      refine wpG_take preGr (i := 20) (v := ?_) (by kernel_rfl) (some 62) (by kernel_rfl) rfl (by kernel_rfl) (by kernel_rfl) (by kernel_rfl) (fun _ _ _ h => h) (by rfl) (fun w' hw' => ?_) rfl ?_
      rotate_left
      · try (have h0 := cells5 (heap_below U0.out (Gr.trans HC.out hw')); obtain ⟨i0, i1, i2, i3, i4⟩ := h0; have h1 := cells7 (heap_below U1.out (Gr.trans HC.out hw')); obtain ⟨j0, j1, j2, j3, j4, j5, j6⟩ := h1; have h2 := cells7 (heap_below U2.out (Gr.trans HC.out hw')); obtain ⟨k0, k1, k2, k3, k4, k5, k6⟩ := h2; have h3 := cells7 (heap_below HP1.out (Gr.trans HC.out hw')); obtain ⟨y0, y1, y2, y3, y4, y5, y6⟩ := h3; have h4 := cells7 (heap_below HP2.out (Gr.trans HC.out hw')); obtain ⟨z0, z1, z2, z3, z4, z5, z6⟩ := h4)
        go_simp
        with_reducible rfl
      simp only [Act.put, List.setIfInBounds_toArray, List.set_cons_zero, List.set_cons_succ]
      refine wpG_one (i := 18) rfl (by kernel_rfl) (by rfl) ?_
      go_simp
      refine (S2.out _ HC.out).mono ?_
      rintro e u18 ⟨rfl, hb⟩
      refine ⟨hb, ?_⟩
      have HC := Lib.hid (Gr.trans HC.out hb)
      clear hb
      try simp only [Act.put, List.setIfInBounds_toArray, List.set_cons_zero, List.set_cons_succ]
      refine wpG_one (i := 21) rfl (by kernel_rfl) (by rfl) ?_
      go_simp
      refine (S3.out _ HC.out).mono ?_
      rintro e u21 ⟨rfl, hb⟩
      refine ⟨hb, ?_⟩
      have HC := Lib.hid (Gr.trans HC.out hb)
      clear hb
      try simp only [Act.put, List.setIfInBounds_toArray, List.set_cons_zero, List.set_cons_succ]
      -- 22: slot 64
      refine wpG_take preGr (i := 22) (v := ?_) (by kernel_rfl) (some 64) (by kernel_rfl) rfl (by kernel_rfl) (by kernel_rfl) (by kernel_rfl) (fun _ _ _ h => h) (by rfl) (fun w' hw' => ?_) rfl ?_
      rotate_left
      · try (have h0 := cells5 (heap_below U0.out (Gr.trans HC.out hw')); obtain ⟨i0, i1, i2, i3, i4⟩ := h0; have h1 := cells7 (heap_below U1.out (Gr.trans HC.out hw')); obtain ⟨j0, j1, j2, j3, j4, j5, j6⟩ := h1; have h2 := cells7 (heap_below U2.out (Gr.trans HC.out hw')); obtain ⟨k0, k1, k2, k3, k4, k5, k6⟩ := h2; have h3 := cells7 (heap_below HP1.out (Gr.trans HC.out hw')); obtain ⟨y0, y1, y2, y3, y4, y5, y6⟩ := h3; have h4 := cells7 (heap_below HP2.out (Gr.trans HC.out hw')); obtain ⟨z0, z1, z2, z3, z4, z5, z6⟩ := h4)
        go_simp
        with_reducible rfl
      simp only [Act.put, List.setIfInBounds_toArray, List.set_cons_zero, List.set_cons_succ]
      -- 23: slot 65
      refine wpG_take preGr (i := 23) (v := ?_) (by kernel_rfl) (some 65) (by kernel_rfl) rfl (by kernel_rfl) (by kernel_rfl) (by kernel_rfl) (fun _ _ _ h => h) (by rfl) (fun w' hw' => ?_) rfl ?_
      rotate_left
      · try (have h0 := cells5 (heap_below U0.out (Gr.trans HC.out hw')); obtain ⟨i0, i1, i2, i3, i4⟩ := h0; have h1 := cells7 (heap_below U1.out (Gr.trans HC.out hw')); obtain ⟨j0, j1, j2, j3, j4, j5, j6⟩ := h1; have h2 := cells7 (heap_below U2.out (Gr.trans HC.out hw')); obtain ⟨k0, k1, k2, k3, k4, k5, k6⟩ := h2; have h3 := cells7 (heap_below HP1.out (Gr.trans HC.out hw')); obtain ⟨y0, y1, y2, y3, y4, y5, y6⟩ := h3; have h4 := cells7 (heap_below HP2.out (Gr.trans HC.out hw')); obtain ⟨z0, z1, z2, z3, z4, z5, z6⟩ := h4)
        go_simp
        with_reducible rfl
      simp only [Act.put, List.setIfInBounds_toArray, List.set_cons_zero, List.set_cons_succ]
      -- 24: slot 66
      refine wpG_take preGr (i := 24) (v := ?_) (by kernel_rfl) (some 66) (by kernel_rfl) rfl (by kernel_rfl) (by kernel_rfl) (by kernel_rfl) (fun _ _ _ h => h) (by rfl) (fun w' hw' => ?_) rfl ?_
      rotate_left
      · try (have h0 := cells5 (heap_below U0.out (Gr.trans HC.out hw')); obtain ⟨i0, i1, i2, i3, i4⟩ := h0; have h1 := cells7 (heap_below U1.out (Gr.trans HC.out hw')); obtain ⟨j0, j1, j2, j3, j4, j5, j6⟩ := h1; have h2 := cells7 (heap_below U2.out (Gr.trans HC.out hw')); obtain ⟨k0, k1, k2, k3, k4, k5, k6⟩ := h2; have h3 := cells7 (heap_below HP1.out (Gr.trans HC.out hw')); obtain ⟨y0, y1, y2, y3, y4, y5, y6⟩ := h3; have h4 := cells7 (heap_below HP2.out (Gr.trans HC.out hw')); obtain ⟨z0, z1, z2, z3, z4, z5, z6⟩ := h4)
        go_simp
        with_reducible rfl
      simp only [Act.put, List.setIfInBounds_toArray, List.set_cons_zero, List.set_cons_succ]
      -- 25: slot 67
      refine wpG_take preGr (i := 25) (v := ?_) (by kernel_rfl) (some 67) (by kernel_rfl) rfl (by kernel_rfl) (by kernel_rfl) (by kernel_rfl) (fun _ _ _ h => h) (by rfl) (fun w' hw' => ?_) rfl ?_
      rotate_left
      · try (have h0 := cells5 (heap_below U0.out (Gr.trans HC.out hw')); obtain ⟨i0, i1, i2, i3, i4⟩ := h0; have h1 := cells7 (heap_below U1.out (Gr.trans HC.out hw')); obtain ⟨j0, j1, j2, j3, j4, j5, j6⟩ := h1; have h2 := cells7 (heap_below U2.out (Gr.trans HC.out hw')); obtain ⟨k0, k1, k2, k3, k4, k5, k6⟩ := h2; have h3 := cells7 (heap_below HP1.out (Gr.trans HC.out hw')); obtain ⟨y0, y1, y2, y3, y4, y5, y6⟩ := h3; have h4 := cells7 (heap_below HP2.out (Gr.trans HC.out hw')); obtain ⟨z0, z1, z2, z3, z4, z5, z6⟩ := h4)
        go_simp
        with_reducible rfl
      simp only [Act.put, List.setIfInBounds_toArray, List.set_cons_zero, List.set_cons_succ]
      -- 26: slot 68
      refine wpG_take preGr (i := 26) (v := ?_) (by kernel_rfl) (some 68) (by kernel_rfl) rfl (by kernel_rfl) (by kernel_rfl) (by kernel_rfl) (fun _ _ _ h => h) (by rfl) (fun w' hw' => ?_) rfl ?_
      rotate_left
      · try (have h0 := cells5 (heap_below U0.out (Gr.trans HC.out hw')); obtain ⟨i0, i1, i2, i3, i4⟩ := h0; have h1 := cells7 (heap_below U1.out (Gr.trans HC.out hw')); obtain ⟨j0, j1, j2, j3, j4, j5, j6⟩ := h1; have h2 := cells7 (heap_below U2.out (Gr.trans HC.out hw')); obtain ⟨k0, k1, k2, k3, k4, k5, k6⟩ := h2; have h3 := cells7 (heap_below HP1.out (Gr.trans HC.out hw')); obtain ⟨y0, y1, y2, y3, y4, y5, y6⟩ := h3; have h4 := cells7 (heap_below HP2.out (Gr.trans HC.out hw')); obtain ⟨z0, z1, z2, z3, z4, z5, z6⟩ := h4)
        go_simp
        with_reducible rfl
      simp only [Act.put, List.setIfInBounds_toArray, List.set_cons_zero, List.set_cons_succ]
      refine wpG_one (i := 27) rfl (by kernel_rfl) (by rfl) ?_
      go_simp
      refine (S4.out _ HC.out).mono ?_
      rintro e u27 ⟨rfl, hb⟩
      refine ⟨hb, ?_⟩
      have HC := Lib.hid (Gr.trans HC.out hb)
      clear hb
      try simp only [Act.put, List.setIfInBounds_toArray, List.set_cons_zero, List.set_cons_succ]
      -- 28: slot 70
      refine wpG_take preGr (i := 28) (v := ?_) (by kernel_rfl) (some 70) (by kernel_rfl) rfl (by kernel_rfl) (by kernel_rfl) (by kernel_rfl) (fun _ _ _ h => h) (by rfl) (fun w' hw' => ?_) rfl ?_
      rotate_left
      · try (have h0 := cells5 (heap_below U0.out (Gr.trans HC.out hw')); obtain ⟨i0, i1, i2, i3, i4⟩ := h0; have h1 := cells7 (heap_below U1.out (Gr.trans HC.out hw')); obtain ⟨j0, j1, j2, j3, j4, j5, j6⟩ := h1; have h2 := cells7 (heap_below U2.out (Gr.trans HC.out hw')); obtain ⟨k0, k1, k2, k3, k4, k5, k6⟩ := h2; have h3 := cells7 (heap_below HP1.out (Gr.trans HC.out hw')); obtain ⟨y0, y1, y2, y3, y4, y5, y6⟩ := h3; have h4 := cells7 (heap_below HP2.out (Gr.trans HC.out hw')); obtain ⟨z0, z1, z2, z3, z4, z5, z6⟩ := h4)
        go_simp
        with_reducible rfl
      simp only [Act.put, List.setIfInBounds_toArray, List.set_cons_zero, List.set_cons_succ]
      -- 29: slot 71
      refine wpG_take preGr (i := 29) (v := ?_) (by kernel_rfl) (some 71) (by kernel_rfl) rfl (by kernel_rfl) (by kernel_rfl) (by kernel_rfl) (fun _ _ _ h => h) (by rfl) (fun w' hw' => ?_) rfl ?_
      rotate_left
      · try (have h0 := cells5 (heap_below U0.out (Gr.trans HC.out hw')); obtain ⟨i0, i1, i2, i3, i4⟩ := h0; have h1 := cells7 (heap_below U1.out (Gr.trans HC.out hw')); obtain ⟨j0, j1, j2, j3, j4, j5, j6⟩ := h1; have h2 := cells7 (heap_below U2.out (Gr.trans HC.out hw')); obtain ⟨k0, k1, k2, k3, k4, k5, k6⟩ := h2; have h3 := cells7 (heap_below HP1.out (Gr.trans HC.out hw')); obtain ⟨y0, y1, y2, y3, y4, y5, y6⟩ := h3; have h4 := cells7 (heap_below HP2.out (Gr.trans HC.out hw')); obtain ⟨z0, z1, z2, z3, z4, z5, z6⟩ := h4)
        go_simp
        with_reducible rfl
      simp only [Act.put, List.setIfInBounds_toArray, List.set_cons_zero, List.set_cons_succ]
      refine wpG_one (i := 30) rfl (by kernel_rfl) (by rfl) ?_
      go_simp
      refine (AW.out _).mono ?_
      rintro e u30 ⟨rfl, hb⟩
      refine ⟨hb, ?_⟩
      have HC := Lib.hid (Gr.trans HC.out hb)
      clear hb
      try simp only [Act.put, List.setIfInBounds_toArray, List.set_cons_zero, List.set_cons_succ]
      -- 31: slot 73
      refine wpG_take preGr (i := 31) (v := ?_) (by kernel_rfl) (some 73) (by kernel_rfl) rfl (by kernel_rfl) (by kernel_rfl) (by kernel_rfl) (fun _ _ _ h => h) (by rfl) (fun w' hw' => ?_) rfl ?_
      rotate_left
      · try (have h0 := cells5 (heap_below U0.out (Gr.trans HC.out hw')); obtain ⟨i0, i1, i2, i3, i4⟩ := h0; have h1 := cells7 (heap_below U1.out (Gr.trans HC.out hw')); obtain ⟨j0, j1, j2, j3, j4, j5, j6⟩ := h1; have h2 := cells7 (heap_below U2.out (Gr.trans HC.out hw')); obtain ⟨k0, k1, k2, k3, k4, k5, k6⟩ := h2; have h3 := cells7 (heap_below HP1.out (Gr.trans HC.out hw')); obtain ⟨y0, y1, y2, y3, y4, y5, y6⟩ := h3; have h4 := cells7 (heap_below HP2.out (Gr.trans HC.out hw')); obtain ⟨z0, z1, z2, z3, z4, z5, z6⟩ := h4)
        go_simp
        with_reducible rfl
      simp only [Act.put, List.setIfInBounds_toArray, List.set_cons_zero, List.set_cons_succ]
      -- 32: slot 6
      refine wpG_take preGr (i := 32) (v := ?_) (by kernel_rfl) (some 6) (by kernel_rfl) rfl (by kernel_rfl) (by kernel_rfl) (by kernel_rfl) (fun _ _ _ h => h) (by rfl) (fun w' hw' => ?_) rfl ?_
      rotate_left
      · try (have h0 := cells5 (heap_below U0.out (Gr.trans HC.out hw')); obtain ⟨i0, i1, i2, i3, i4⟩ := h0; have h1 := cells7 (heap_below U1.out (Gr.trans HC.out hw')); obtain ⟨j0, j1, j2, j3, j4, j5, j6⟩ := h1; have h2 := cells7 (heap_below U2.out (Gr.trans HC.out hw')); obtain ⟨k0, k1, k2, k3, k4, k5, k6⟩ := h2; have h3 := cells7 (heap_below HP1.out (Gr.trans HC.out hw')); obtain ⟨y0, y1, y2, y3, y4, y5, y6⟩ := h3; have h4 := cells7 (heap_below HP2.out (Gr.trans HC.out hw')); obtain ⟨z0, z1, z2, z3, z4, z5, z6⟩ := h4)
        go_simp
        with_reducible rfl
      simp only [Act.put, List.setIfInBounds_toArray, List.set_cons_zero, List.set_cons_succ]
      refine wpG_done (by kernel_rfl) ?_ _
      have HBZ := Lib.hid (HB7.out.trans (Below.mono (Gr.trans HV4.out HC.out) HB7.out.size))
      go_wp2
      go_ret
      exact ⟨rfl, HBZ.out⟩
  · rw [decide_eq_false hC] at RC
    have CK := Lib.hid (fun w' hw => by have h := CK.out w' hw; rw [if_neg (fun h => hC h.1)] at h; exact h)
    clear hC RI
    go_wp2_with fail
    refine RC.out.mono ?_
    rintro e w8 ⟨rfl, hb⟩
    have HG : Hid (Gr w7 w8) := hb
    clear hb RC
    have NW := Lib.hid (New_any ao n c ts w8 (HT7.out.below HG.out) HML.out.1 HML.out.2)
    have RN := Lib.hid (fun w' (hw : Gr w8 w') => rNew_any ao n c ts w' ((HT7.out.below HG.out).below hw) HML.out.1 HML.out.2)
    generalize new (plain ts) = x at NW RN
    obtain ⟨⟨xs, xi, xr, xk, xc, xt, xn⟩, xe⟩ := x
    clear i0 i1 i2 i3 i4 j0 j1 j2 j3 j4 j5 j6
    obtain ⟨i0, i1, i2, i3, i4⟩ := cells5 (heap_below U0.out HG.out)
    obtain ⟨j0, j1, j2, j3, j4, j5, j6⟩ := cells7 (heap_below U1.out HG.out)
    go_wp2_with fail
    refine NW.out.mono ?_
    rintro e v1 ⟨av, us1, rfl, hto, hpu, hb⟩
    obtain ⟨na, nc, rfl, _, _⟩ := hto.tr.shape
    have HV1 := Lib.hid (Gr.trans HG.out hb)
    have HW1 : Hid (Gr w8 v1) := hb
    obtain ⟨nn, hnn⟩ : ∃ k, k = us1.length := ⟨_, rfl⟩
    have HTX : Hid (TR v1 (.slice na nn nc) nn us1) := by rw [hnn]; exact hto.tr
    rw [← hnn]
    have HPX : Hid (plain us1 = xk) := hpu
    simp only [autoV, autoC]
    have hal : Gr v1 (v1.alloc (.cells #[.int .i64 xs, .int .i64 xi, .int .i64 xr, .slice na nn nc, .int .i64 xc, .int .i64 xt, .int .i64 xn] 28)) := (Gr.refl _).alloc _
    have HP1 : Hid ((v1.alloc (.cells #[.int .i64 xs, .int .i64 xi, .int .i64 xr, .slice na nn nc, .int .i64 xc, .int .i64 xt, .int .i64 xn] 28)).heap[v1.heap.size]? = some (.cells #[.int .i64 xs, .int .i64 xi, .int .i64 xr, .slice na nn nc, .int .i64 xc, .int .i64 xt, .int .i64 xn] 28 (0, 0))) := heap_alloc_last _ _
    have HV2 := Lib.hid (Gr.trans HV1.out hal)
    have HW2 := Lib.hid (Gr.trans HW1.out hal)
    have HTX := Lib.hid (HTX.out.below hal)
    obtain ⟨p1, hp1⟩ : ∃ g, g = v1.heap.size := ⟨_, rfl⟩
    obtain ⟨v2, hv2⟩ : ∃ x, x = v1.alloc (.cells #[.int .i64 xs, .int .i64 xi, .int .i64 xr, .slice na nn nc, .int .i64 xc, .int .i64 xt, .int .i64 xn] 28) := ⟨_, rfl⟩
    clear hto hpu hb hnn hal HV1 HW1 NW
    go_upto_region 7 with fail
    rw [← hv2, ← hp1] at HP1
    rw [← hv2] at HV2 HW2 HTX
    rw [← hv2, ← hp1]
    clear hp1 hv2
    clear i0 i1 i2 i3 i4 j0 j1 j2 j3 j4 j5 j6
    obtain ⟨j0, j1, j2, j3, j4, j5, j6⟩ := cells7 (heap_below U1.out HV2.out)
    go_wp2_with fail
    refine (RN.out v2 HW2.out).mono ?_
    rintro e v3 ⟨ma, mm, mc, us2, rfl, hty, hpu, hb⟩
    have HV3 := Lib.hid (Gr.trans HV2.out hb)
    have HP1 := Lib.hid (heap_below HP1.out hb)
    have HTX := Lib.hid (HTX.out.below hb)
    have HTY := Lib.hid hty
    have HPY : Hid (plain us2 = xk) := hpu
    simp only [autoV, autoC]
    have hal : Gr v3 (v3.alloc (.cells #[.int .i64 xs, .int .i64 xi, .int .i64 xr, .slice ma mm mc, .int .i64 xc, .int .i64 xt, .int .i64 xn] 28)) := (Gr.refl _).alloc _
    have HP2 : Hid ((v3.alloc (.cells #[.int .i64 xs, .int .i64 xi, .int .i64 xr, .slice ma mm mc, .int .i64 xc, .int .i64 xt, .int .i64 xn] 28)).heap[v3.heap.size]? = some (.cells #[.int .i64 xs, .int .i64 xi, .int .i64 xr, .slice ma mm mc, .int .i64 xc, .int .i64 xt, .int .i64 xn] 28 (0, 0))) := heap_alloc_last _ _
    have HP1 := Lib.hid (heap_below HP1.out hal)
    have HV4 := Lib.hid (Gr.trans HV3.out hal)
    have HTX := Lib.hid (HTX.out.below hal)
    have HTY := Lib.hid (HTY.out.below hal)
    obtain ⟨p2, hp2⟩ : ∃ g, g = v3.heap.size := ⟨_, rfl⟩
    obtain ⟨wB, hv4⟩ : ∃ x, x = v3.alloc (.cells #[.int .i64 xs, .int .i64 xi, .int .i64 xr, .slice ma mm mc, .int .i64 xc, .int .i64 xt, .int .i64 xn] 28) := ⟨_, rfl⟩
    clear hty hpu hb hal HV2 HV3 HW2 RN j0 j1 j2 j3 j4 j5 j6
    go_upto_region 8 with fail
    rw [← hv4, ← hp2] at HP2
    rw [← hv4] at HP1 HV4 HTX HTY
    rw [← hv4, ← hp2]
    clear hp2 hv4
    have U0 := Lib.hid (heap_below U0.out HV4.out)
    have U1 := Lib.hid (heap_below U1.out HV4.out)
    have U2 := Lib.hid (heap_below U2.out HV4.out)
    have CK2 := Lib.hid (fun w' (hw : Gr wB w') => CK.out w' (Gr.trans HV4.out hw))
    have S1 := Lib.hid (fun w' (hw : Gr wB w') => dsame_any xs xi xr xc xt xn xs xi xr xc xt xn na nn nc us1 ma mm mc us2 w' (HTX.out.below hw) (HTY.out.below hw))
    rw [decide_eq_true (show xs = xs ∧ xi = xi ∧ xr = xr ∧ xc = xc ∧ xt = xt ∧ xn = xn ∧ plain us1 = plain us2 from ⟨rfl, rfl, rfl, rfl, rfl, rfl, HPX.out.trans HPY.out.symm⟩)] at S1
    have S2 := Lib.hid (fun w' (hw : Gr wB w') => asame_any st1 id1 rq1 ct1 tm1 nk1 st2 id2 rq2 ct2 tm2 nk2 ao n c ts bo m d us w' ((HT7.out.below HV4.out).below hw) ((HS7.out.below HV4.out).below hw))
    have S3 := Lib.hid (fun w' (hw : Gr wB w') => dsame_any st1 id1 rq1 ct1 tm1 nk1 st2 id2 rq2 ct2 tm2 nk2 ao n c ts bo m d us w' ((HT7.out.below HV4.out).below hw) ((HS7.out.below HV4.out).below hw))
    have S4 := Lib.hid (fun w' (hw : Gr wB w') => asame_any st1 id1 rq1 ct1 tm1 nk1 st1 id1 rq1 ct1 tm1 nk1 ao n c ts ao n c ts w' ((HT7.out.below HV4.out).below hw) ((HT7.out.below HV4.out).below hw))
    rw [decide_eq_true (show st1 = st1 ∧ id1 = id1 ∧ rq1 = rq1 ∧ ct1 = ct1 ∧ tm1 = tm1 ∧ nk1 = nk1 ∧ plain ts = plain ts from ⟨rfl, rfl, rfl, rfl, rfl, rfl, rfl⟩)] at S4
    generalize decide (st1 = st2 ∧ id1 = id2 ∧ rq1 = rq2 ∧ ct1 = ct2 ∧ tm1 = tm2 ∧ nk1 = nk2 ∧ plain ts = plain us) = q at S2 S3
    have HC : Hid (Gr wB wB.drew) := Gr.drew _
    have hqq : (q == q) = true := by simp
    refine wp_region_G 33 Gr (by kernel_rfl) ?_
    generalize wB.drew = wc at HC ⊢
    -- 0: slot 42
    refine wpG_take preGr (i := 0) (v := ?_) (by kernel_rfl) (some 42) (by kernel_rfl) rfl (by kernel_rfl) (by kernel_rfl) (by kernel_rfl) (fun _ _ _ h => h) (by rfl) (fun w' hw' => ?_) rfl ?_
    rotate_left
    · try (have h0 := cells5 (heap_below U0.out (Gr.trans HC.out hw')); obtain ⟨i0, i1, i2, i3, i4⟩ := h0; have h1 := cells7 (heap_below U1.out (Gr.trans HC.out hw')); obtain ⟨j0, j1, j2, j3, j4, j5, j6⟩ := h1; have h2 := cells7 (heap_below U2.out (Gr.trans HC.out hw')); obtain ⟨k0, k1, k2, k3, k4, k5, k6⟩ := h2; have h3 := cells7 (heap_below HP1.out (Gr.trans HC.out hw')); obtain ⟨y0, y1, y2, y3, y4, y5, y6⟩ := h3; have h4 := cells7 (heap_below HP2.out (Gr.trans HC.out hw')); obtain ⟨z0, z1, z2, z3, z4, z5, z6⟩ := h4)
      go_simp
      with_reducible rfl
    simp only [Act.put, List.setIfInBounds_toArray, List.set_cons_zero, List.set_cons_succ]
    -- 1: slot 43
    refine wpG_take preGr (i := 1) (v := ?_) (by kernel_rfl) (some 43) (by kernel_rfl) rfl (by kernel_rfl) (by kernel_rfl) (by kernel_rfl) (fun _ _ _ h => h) (by rfl) (fun w' hw' => ?_) rfl ?_
    rotate_left
    · try (have h0 := cells5 (heap_below U0.out (Gr.trans HC.out hw')); obtain ⟨i0, i1, i2, i3, i4⟩ := h0; have h1 := cells7 (heap_below U1.out (Gr.trans HC.out hw')); obtain ⟨j0, j1, j2, j3, j4, j5, j6⟩ := h1; have h2 := cells7 (heap_below U2.out (Gr.trans HC.out hw')); obtain ⟨k0, k1, k2, k3, k4, k5, k6⟩ := h2; have h3 := cells7 (heap_below HP1.out (Gr.trans HC.out hw')); obtain ⟨y0, y1, y2, y3, y4, y5, y6⟩ := h3; have h4 := cells7 (heap_below HP2.out (Gr.trans HC.out hw')); obtain ⟨z0, z1, z2, z3, z4, z5, z6⟩ := h4)
      go_simp
      with_reducible rfl
    simp only [Act.put, List.setIfInBounds_toArray, List.set_cons_zero, List.set_cons_succ]
    -- 3: slot 45
    refine wpG_take preGr (i := 3) (v := ?_) (by kernel_rfl) (some 45) (by kernel_rfl) rfl (by kernel_rfl) (by kernel_rfl) (by kernel_rfl) (fun _ _ _ h => h) (by rfl) (fun w' hw' => ?_) rfl ?_
    rotate_left
    · try (have h0 := cells5 (heap_below U0.out (Gr.trans HC.out hw')); obtain ⟨i0, i1, i2, i3, i4⟩ := h0; have h1 := cells7 (heap_below U1.out (Gr.trans HC.out hw')); obtain ⟨j0, j1, j2, j3, j4, j5, j6⟩ := h1; have h2 := cells7 (heap_below U2.out (Gr.trans HC.out hw')); obtain ⟨k0, k1, k2, k3, k4, k5, k6⟩ := h2; have h3 := cells7 (heap_below HP1.out (Gr.trans HC.out hw')); obtain ⟨y0, y1, y2, y3, y4, y5, y6⟩ := h3; have h4 := cells7 (heap_below HP2.out (Gr.trans HC.out hw')); obtain ⟨z0, z1, z2, z3, z4, z5, z6⟩ := h4)
      go_simp
      with_reducible rfl
    simp only [Act.put, List.setIfInBounds_toArray, List.set_cons_zero, List.set_cons_succ]
    refine wpG_one (i := 2) rfl (by kernel_rfl) (by rfl) ?_
    go_simp
    refine (CK2.out _ HC.out).mono ?_
    rintro e u2 ⟨rfl, hb⟩
    refine ⟨hb, ?_⟩
    have HC := Lib.hid (Gr.trans HC.out hb)
    clear hb
    try simp only [Act.put, List.setIfInBounds_toArray, List.set_cons_zero, List.set_cons_succ]
    -- 4: slot 46
    refine wpG_take preGr (i := 4) (v := ?_) (by kernel_rfl) (some 46) (by kernel_rfl) rfl (by kernel_rfl) (by kernel_rfl) (by kernel_rfl) (fun _ _ _ h => h) (by rfl) (fun w' hw' => ?_) rfl ?_
    rotate_left
    · try (have h0 := cells5 (heap_below U0.out (Gr.trans HC.out hw')); obtain ⟨i0, i1, i2, i3, i4⟩ := h0; have h1 := cells7 (heap_below U1.out (Gr.trans HC.out hw')); obtain ⟨j0, j1, j2, j3, j4, j5, j6⟩ := h1; have h2 := cells7 (heap_below U2.out (Gr.trans HC.out hw')); obtain ⟨k0, k1, k2, k3, k4, k5, k6⟩ := h2; have h3 := cells7 (heap_below HP1.out (Gr.trans HC.out hw')); obtain ⟨y0, y1, y2, y3, y4, y5, y6⟩ := h3; have h4 := cells7 (heap_below HP2.out (Gr.trans HC.out hw')); obtain ⟨z0, z1, z2, z3, z4, z5, z6⟩ := h4)
      go_simp
      with_reducible rfl
    simp only [Act.put, List.setIfInBounds_toArray, List.set_cons_zero, List.set_cons_succ]
    -- 5: slot 47
    refine wpG_take preGr (i := 5) (v := ?_) (by kernel_rfl) (some 47) (by kernel_rfl) rfl (by kernel_rfl) (by kernel_rfl) (by kernel_rfl) (fun _ _ _ h => h) (by rfl) (fun w' hw' => ?_) rfl ?_
    rotate_left
    · try (have h0 := cells5 (heap_below U0.out (Gr.trans HC.out hw')); obtain ⟨i0, i1, i2, i3, i4⟩ := h0; have h1 := cells7 (heap_below U1.out (Gr.trans HC.out hw')); obtain ⟨j0, j1, j2, j3, j4, j5, j6⟩ := h1; have h2 := cells7 (heap_below U2.out (Gr.trans HC.out hw')); obtain ⟨k0, k1, k2, k3, k4, k5, k6⟩ := h2; have h3 := cells7 (heap_below HP1.out (Gr.trans HC.out hw')); obtain ⟨y0, y1, y2, y3, y4, y5, y6⟩ := h3; have h4 := cells7 (heap_below HP2.out (Gr.trans HC.out hw')); obtain ⟨z0, z1, z2, z3, z4, z5, z6⟩ := h4)
      go_simp
      with_reducible rfl
    simp only [Act.put, List.setIfInBounds_toArray, List.set_cons_zero, List.set_cons_succ]
    -- 6: slot 48
    refine wpG_take preGr (i := 6) (v := ?_) (by kernel_rfl) (some 48) (by kernel_rfl) rfl (by kernel_rfl) (by kernel_rfl) (by kernel_rfl) (fun _ _ _ h => h) (by rfl) (fun w' hw' => ?_) rfl ?_
    rotate_left
    · try (have h0 := cells5 (heap_below U0.out (Gr.trans HC.out hw')); obtain ⟨i0, i1, i2, i3, i4⟩ := h0; have h1 := cells7 (heap_below U1.out (Gr.trans HC.out hw')); obtain ⟨j0, j1, j2, j3, j4, j5, j6⟩ := h1; have h2 := cells7 (heap_below U2.out (Gr.trans HC.out hw')); obtain ⟨k0, k1, k2, k3, k4, k5, k6⟩ := h2; have h3 := cells7 (heap_below HP1.out (Gr.trans HC.out hw')); obtain ⟨y0, y1, y2, y3, y4, y5, y6⟩ := h3; have h4 := cells7 (heap_below HP2.out (Gr.trans HC.out hw')); obtain ⟨z0, z1, z2, z3, z4, z5, z6⟩ := h4)
      go_simp
      with_reducible rfl
    simp only [Act.put, List.setIfInBounds_toArray, List.set_cons_zero, List.set_cons_succ]
    -- 7: slot 49
    refine wpG_take preGr (i := 7) (v := ?_) (by kernel_rfl) (some 49) (by kernel_rfl) rfl (by kernel_rfl) (by kernel_rfl) (by kernel_rfl) (fun _ _ _ h => h) (by rfl) (fun w' hw' => ?_) rfl ?_
    rotate_left
    · try (have h0 := cells5 (heap_below U0.out (Gr.trans HC.out hw')); obtain ⟨i0, i1, i2, i3, i4⟩ := h0; have h1 := cells7 (heap_below U1.out (Gr.trans HC.out hw')); obtain ⟨j0, j1, j2, j3, j4, j5, j6⟩ := h1; have h2 := cells7 (heap_below U2.out (Gr.trans HC.out hw')); obtain ⟨k0, k1, k2, k3, k4, k5, k6⟩ := h2; have h3 := cells7 (heap_below HP1.out (Gr.trans HC.out hw')); obtain ⟨y0, y1, y2, y3, y4, y5, y6⟩ := h3; have h4 := cells7 (heap_below HP2.out (Gr.trans HC.out hw')); obtain ⟨z0, z1, z2, z3, z4, z5, z6⟩ := h4)
      go_simp
      with_reducible rfl
    simp only [Act.put, List.setIfInBounds_toArray, List.set_cons_zero, List.set_cons_succ]
    refine wpG_one (i := 8) rfl (by kernel_rfl) (by rfl) ?_
    go_simp
    refine (S1.out _ HC.out).mono ?_
    rintro e u8 ⟨rfl, hb⟩
    refine ⟨hb, ?_⟩
    have HC := Lib.hid (Gr.trans HC.out hb)
    clear hb
    try simp only [Act.put, List.setIfInBounds_toArray, List.set_cons_zero, List.set_cons_succ]
    -- 9: slot 51
    refine wpG_take preGr (i := 9) (v := ?_) (by kernel_rfl) (some 51) (by kernel_rfl) rfl (by kernel_rfl) (by kernel_rfl) (by kernel_rfl) (fun _ _ _ h => h) (by rfl) (fun w' hw' => ?_) rfl ?_
    rotate_left
    · try (have h0 := cells5 (heap_below U0.out (Gr.trans HC.out hw')); obtain ⟨i0, i1, i2, i3, i4⟩ := h0; have h1 := cells7 (heap_below U1.out (Gr.trans HC.out hw')); obtain ⟨j0, j1, j2, j3, j4, j5, j6⟩ := h1; have h2 := cells7 (heap_below U2.out (Gr.trans HC.out hw')); obtain ⟨k0, k1, k2, k3, k4, k5, k6⟩ := h2; have h3 := cells7 (heap_below HP1.out (Gr.trans HC.out hw')); obtain ⟨y0, y1, y2, y3, y4, y5, y6⟩ := h3; have h4 := cells7 (heap_below HP2.out (Gr.trans HC.out hw')); obtain ⟨z0, z1, z2, z3, z4, z5, z6⟩ := h4)
      go_simp
      with_reducible rfl
    simp only [Act.put, List.setIfInBounds_toArray, List.set_cons_zero, List.set_cons_succ]
    -- 10: slot 52
    refine wpG_take preGr (i := 10) (v := ?_) (by kernel_rfl) (some 52) (by kernel_rfl) rfl (by kernel_rfl) (by kernel_rfl) (by kernel_rfl) (fun _ _ _ h => h) (by rfl) (fun w' hw' => ?_) rfl ?_
    rotate_left
    · try (have h0 := cells5 (heap_below U0.out (Gr.trans HC.out hw')); obtain ⟨i0, i1, i2, i3, i4⟩ := h0; have h1 := cells7 (heap_below U1.out (Gr.trans HC.out hw')); obtain ⟨j0, j1, j2, j3, j4, j5, j6⟩ := h1; have h2 := cells7 (heap_below U2.out (Gr.trans HC.out hw')); obtain ⟨k0, k1, k2, k3, k4, k5, k6⟩ := h2; have h3 := cells7 (heap_below HP1.out (Gr.trans HC.out hw')); obtain ⟨y0, y1, y2, y3, y4, y5, y6⟩ := h3; have h4 := cells7 (heap_below HP2.out (Gr.trans HC.out hw')); obtain ⟨z0, z1, z2, z3, z4, z5, z6⟩ := h4)
      go_simp
      with_reducible rfl
    simp only [Act.put, List.setIfInBounds_toArray, List.set_cons_zero, List.set_cons_succ]
    -- 11: slot 53
    refine wpG_take preGr (i := 11) (v := ?_) (by kernel_rfl) (some 53) (by kernel_rfl) rfl (by kernel_rfl) (by kernel_rfl) (by kernel_rfl) (fun _ _ _ h => h) (by rfl) (fun w' hw' => ?_) rfl ?_
    rotate_left
    · try (have h0 := cells5 (heap_below U0.out (Gr.trans HC.out hw')); obtain ⟨i0, i1, i2, i3, i4⟩ := h0; have h1 := cells7 (heap_below U1.out (Gr.trans HC.out hw')); obtain ⟨j0, j1, j2, j3, j4, j5, j6⟩ := h1; have h2 := cells7 (heap_below U2.out (Gr.trans HC.out hw')); obtain ⟨k0, k1, k2, k3, k4, k5, k6⟩ := h2; have h3 := cells7 (heap_below HP1.out (Gr.trans HC.out hw')); obtain ⟨y0, y1, y2, y3, y4, y5, y6⟩ := h3; have h4 := cells7 (heap_below HP2.out (Gr.trans HC.out hw')); obtain ⟨z0, z1, z2, z3, z4, z5, z6⟩ := h4)
      go_simp
      with_reducible rfl
    simp only [Act.put, List.setIfInBounds_toArray, List.set_cons_zero, List.set_cons_succ]
    -- 12: slot 54
    refine wpG_take preGr (i := 12) (v := ?_) (by kernel_rfl) (some 54) (by kernel_rfl) rfl (by kernel_rfl) (by kernel_rfl) (by kernel_rfl) (fun _ _ _ h => h) (by rfl) (fun w' hw' => ?_) rfl ?_
    rotate_left
    · try (have h0 := cells5 (heap_below U0.out (Gr.trans HC.out hw')); obtain ⟨i0, i1, i2, i3, i4⟩ := h0; have h1 := cells7 (heap_below U1.out (Gr.trans HC.out hw')); obtain ⟨j0, j1, j2, j3, j4, j5, j6⟩ := h1; have h2 := cells7 (heap_below U2.out (Gr.trans HC.out hw')); obtain ⟨k0, k1, k2, k3, k4, k5, k6⟩ := h2; have h3 := cells7 (heap_below HP1.out (Gr.trans HC.out hw')); obtain ⟨y0, y1, y2, y3, y4, y5, y6⟩ := h3; have h4 := cells7 (heap_below HP2.out (Gr.trans HC.out hw')); obtain ⟨z0, z1, z2, z3, z4, z5, z6⟩ := h4)
      go_simp
      with_reducible rfl
    simp only [Act.put, List.setIfInBounds_toArray, List.set_cons_zero, List.set_cons_succ]
    -- 13: slot 55
    refine wpG_take preGr (i := 13) (v := ?_) (by kernel_rfl) (some 55) (by kernel_rfl) rfl (by kernel_rfl) (by kernel_rfl) (by kernel_rfl) (fun _ _ _ h => h) (by rfl) (fun w' hw' => ?_) rfl ?_
    rotate_left
    · try (have h0 := cells5 (heap_below U0.out (Gr.trans HC.out hw')); obtain ⟨i0, i1, i2, i3, i4⟩ := h0; have h1 := cells7 (heap_below U1.out (Gr.trans HC.out hw')); obtain ⟨j0, j1, j2, j3, j4, j5, j6⟩ := h1; have h2 := cells7 (heap_below U2.out (Gr.trans HC.out hw')); obtain ⟨k0, k1, k2, k3, k4, k5, k6⟩ := h2; have h3 := cells7 (heap_below HP1.out (Gr.trans HC.out hw')); obtain ⟨y0, y1, y2, y3, y4, y5, y6⟩ := h3; have h4 := cells7 (heap_below HP2.out (Gr.trans HC.out hw')); obtain ⟨z0, z1, z2, z3, z4, z5, z6⟩ := h4)
      go_simp
      with_reducible rfl
    simp only [Act.put, List.setIfInBounds_toArray, List.set_cons_zero, List.set_cons_succ]
    -- 14: slot 56
    refine wpG_take preGr (i := 14) (v := ?_) (by kernel_rfl) (some 56) (by kernel_rfl) rfl (by kernel_rfl) (by kernel_rfl) (by kernel_rfl) (fun _ _ _ h => h) (by rfl) (fun w' hw' => ?_) rfl ?_
    rotate_left
    · try (have h0 := cells5 (heap_below U0.out (Gr.trans HC.out hw')); obtain ⟨i0, i1, i2, i3, i4⟩ := h0; have h1 := cells7 (heap_below U1.out (Gr.trans HC.out hw')); obtain ⟨j0, j1, j2, j3, j4, j5, j6⟩ := h1; have h2 := cells7 (heap_below U2.out (Gr.trans HC.out hw')); obtain ⟨k0, k1, k2, k3, k4, k5, k6⟩ := h2; have h3 := cells7 (heap_below HP1.out (Gr.trans HC.out hw')); obtain ⟨y0, y1, y2, y3, y4, y5, y6⟩ := h3; have h4 := cells7 (heap_below HP2.out (Gr.trans HC.out hw')); obtain ⟨z0, z1, z2, z3, z4, z5, z6⟩ := h4)
      go_simp
      with_reducible rfl
    simp only [Act.put, List.setIfInBounds_toArray, List.set_cons_zero, List.set_cons_succ]
    -- 15: slot 57
    refine wpG_take preGr (i := 15) (v := ?_) (by kernel_rfl) (some 57) (by kernel_rfl) rfl (by kernel_rfl) (by kernel_rfl) (by kernel_rfl) (fun _ _ _ h => h) (by rfl) (fun w' hw' => ?_) rfl ?_
    rotate_left
    · try (have h0 := cells5 (heap_below U0.out (Gr.trans HC.out hw')); obtain ⟨i0, i1, i2, i3, i4⟩ := h0; have h1 := cells7 (heap_below U1.out (Gr.trans HC.out hw')); obtain ⟨j0, j1, j2, j3, j4, j5, j6⟩ := h1; have h2 := cells7 (heap_below U2.out (Gr.trans HC.out hw')); obtain ⟨k0, k1, k2, k3, k4, k5, k6⟩ := h2; have h3 := cells7 (heap_below HP1.out (Gr.trans HC.out hw')); obtain ⟨y0, y1, y2, y3, y4, y5, y6⟩ := h3; have h4 := cells7 (heap_below HP2.out (Gr.trans HC.out hw')); obtain ⟨z0, z1, z2, z3, z4, z5, z6⟩ := h4)
      go_simp
      with_reducible rfl
    simp only [Act.put, List.setIfInBounds_toArray, List.set_cons_zero, List.set_cons_succ]
    -- 16: slot 58
    refine wpG_take preGr (i := 16) (v := ?_) (by kernel_rfl) (some 58) (by kernel_rfl) rfl (by kernel_rfl) (by kernel_rfl) (by kernel_rfl) (fun _ _ _ h => h) (by rfl) (fun w' hw' => ?_) rfl ?_
    rotate_left
    · try (have h0 := cells5 (heap_below U0.out (Gr.trans HC.out hw')); obtain ⟨i0, i1, i2, i3, i4⟩ := h0; have h1 := cells7 (heap_below U1.out (Gr.trans HC.out hw')); obtain ⟨j0, j1, j2, j3, j4, j5, j6⟩ := h1; have h2 := cells7 (heap_below U2.out (Gr.trans HC.out hw')); obtain ⟨k0, k1, k2, k3, k4, k5, k6⟩ := h2; have h3 := cells7 (heap_below HP1.out (Gr.trans HC.out hw')); obtain ⟨y0, y1, y2, y3, y4, y5, y6⟩ := h3; have h4 := cells7 (heap_below HP2.out (Gr.trans HC.out hw')); obtain ⟨z0, z1, z2, z3, z4, z5, z6⟩ := h4)
      go_simp
      with_reducible rfl
    simp only [Act.put, List.setIfInBounds_toArray, List.set_cons_zero, List.set_cons_succ]
    -- 17: slot 59
    refine wpG_take preGr (i := 17) (v := ?_) (by kernel_rfl) (some 59) (by kernel_rfl) rfl (by kernel_rfl) (by kernel_rfl) (by kernel_rfl) (fun _ _ _ h => h) (by rfl) (fun w' hw' => ?_) rfl ?_
    rotate_left
    · try (have h0 := cells5 (heap_below U0.out (Gr.trans HC.out hw')); obtain ⟨i0, i1, i2, i3, i4⟩ := h0; have h1 := cells7 (heap_below U1.out (Gr.trans HC.out hw')); obtain ⟨j0, j1, j2, j3, j4, j5, j6⟩ := h1; have h2 := cells7 (heap_below U2.out (Gr.trans HC.out hw')); obtain ⟨k0, k1, k2, k3, k4, k5, k6⟩ := h2; have h3 := cells7 (heap_below HP1.out (Gr.trans HC.out hw')); obtain ⟨y0, y1, y2, y3, y4, y5, y6⟩ := h3; have h4 := cells7 (heap_below HP2.out (Gr.trans HC.out hw')); obtain ⟨z0, z1, z2, z3, z4, z5, z6⟩ := h4)
      go_simp
      with_reducible rfl
    simp only [Act.put, List.setIfInBounds_toArray, List.set_cons_zero, List.set_cons_succ]
    -- 19: slot 61
    refine wpG_take preGr (i := 19) (v := ?_) (by kernel_rfl) (some 61) (by kernel_rfl) rfl (by kernel_rfl) (by kernel_rfl) (by kernel_rfl) (fun _ _ _ h => h) (by rfl) (fun w' hw' => ?_) rfl ?_
    rotate_left
    · try (have h0 := cells5 (heap_below U0.out (Gr.trans HC.out hw')); obtain ⟨i0, i1, i2, i3, i4⟩ := h0; have h1 := cells7 (heap_below U1.out (Gr.trans HC.out hw')); obtain ⟨j0, j1, j2, j3, j4, j5, j6⟩ := h1; have h2 := cells7 (heap_below U2.out (Gr.trans HC.out hw')); obtain ⟨k0, k1, k2, k3, k4, k5, k6⟩ := h2; have h3 := cells7 (heap_below HP1.out (Gr.trans HC.out hw')); obtain ⟨y0, y1, y2, y3, y4, y5, y6⟩ := h3; have h4 := cells7 (heap_below HP2.out (Gr.trans HC.out hw')); obtain ⟨z0, z1, z2, z3, z4, z5, z6⟩ := h4)
      go_simp
      with_reducible rfl
    simp only [Act.put, List.setIfInBounds_toArray, List.set_cons_zero, List.set_cons_succ]
    -- 20: slot 62
    refine wpG_take preGr (i := 20) (v := ?_) (by kernel_rfl) (some 62) (by kernel_rfl) rfl (by kernel_rfl) (by kernel_rfl) (by kernel_rfl) (fun _ _ _ h => h) (by rfl) (fun w' hw' => ?_) rfl ?_
    rotate_left
    · try (have h0 := cells5 (heap_below U0.out (Gr.trans HC.out hw')); obtain ⟨i0, i1, i2, i3, i4⟩ := h0; have h1 := cells7 (heap_below U1.out (Gr.trans HC.out hw')); obtain ⟨j0, j1, j2, j3, j4, j5, j6⟩ := h1; have h2 := cells7 (heap_below U2.out (Gr.trans HC.out hw')); obtain ⟨k0, k1, k2, k3, k4, k5, k6⟩ := h2; have h3 := cells7 (heap_below HP1.out (Gr.trans HC.out hw')); obtain ⟨y0, y1, y2, y3, y4, y5, y6⟩ := h3; have h4 := cells7 (heap_below HP2.out (Gr.trans HC.out hw')); obtain ⟨z0, z1, z2, z3, z4, z5, z6⟩ := h4)
      go_simp
      with_reducible rfl
    simp only [Act.put, List.setIfInBounds_toArray, List.set_cons_zero, List.set_cons_succ]
    refine wpG_one (i := 18) rfl (by kernel_rfl) (by rfl) ?_
    go_simp
    refine (S2.out _ HC.out).mono ?_
    rintro e u18 ⟨rfl, hb⟩
    refine ⟨hb, ?_⟩
    have HC := Lib.hid (Gr.trans HC.out hb)
    clear hb
    try simp only [Act.put, List.setIfInBounds_toArray, List.set_cons_zero, List.set_cons_succ]
    refine wpG_one (i := 21) rfl (by kernel_rfl) (by rfl) ?_
    go_simp
    refine (S3.out _ HC.out).mono ?_
    rintro e u21 ⟨rfl, hb⟩
    refine ⟨hb, ?_⟩
    have HC := Lib.hid (Gr.trans HC.out hb)
    clear hb
    try simp only [Act.put, List.setIfInBounds_toArray, List.set_cons_zero, List.set_cons_succ]
    -- 22: slot 64
    refine wpG_take preGr (i := 22) (v := ?_) (by kernel_rfl) (some 64) (by kernel_rfl) rfl (by kernel_rfl) (by kernel_rfl) (by kernel_rfl) (fun _ _ _ h => h) (by rfl) (fun w' hw' => ?_) rfl ?_
    rotate_left
    · try (have h0 := cells5 (heap_below U0.out (Gr.trans HC.out hw')); obtain ⟨i0, i1, i2, i3, i4⟩ := h0; have h1 := cells7 (heap_below U1.out (Gr.trans HC.out hw')); obtain ⟨j0, j1, j2, j3, j4, j5, j6⟩ := h1; have h2 := cells7 (heap_below U2.out (Gr.trans HC.out hw')); obtain ⟨k0, k1, k2, k3, k4, k5, k6⟩ := h2; have h3 := cells7 (heap_below HP1.out (Gr.trans HC.out hw')); obtain ⟨y0, y1, y2, y3, y4, y5, y6⟩ := h3; have h4 := cells7 (heap_below HP2.out (Gr.trans HC.out hw')); obtain ⟨z0, z1, z2, z3, z4, z5, z6⟩ := h4)
      go_simp
      with_reducible rfl
    simp only [Act.put, List.setIfInBounds_toArray, List.set_cons_zero, List.set_cons_succ]
    -- 23: slot 65
    refine wpG_take preGr (i := 23) (v := ?_) (by kernel_rfl) (some 65) (by kernel_rfl) rfl (by kernel_rfl) (by kernel_rfl) (by kernel_rfl) (fun _ _ _ h => h) (by rfl) (fun w' hw' => ?_) rfl ?_
    rotate_left
    · try (have h0 := cells5 (heap_below U0.out (Gr.trans HC.out hw')); obtain ⟨i0, i1, i2, i3, i4⟩ := h0; have h1 := cells7 (heap_below U1.out (Gr.trans HC.out hw')); obtain ⟨j0, j1, j2, j3, j4, j5, j6⟩ := h1; have h2 := cells7 (heap_below U2.out (Gr.trans HC.out hw')); obtain ⟨k0, k1, k2, k3, k4, k5, k6⟩ := h2; have h3 := cells7 (heap_below HP1.out (Gr.trans HC.out hw')); obtain ⟨y0, y1, y2, y3, y4, y5, y6⟩ := h3; have h4 := cells7 (heap_below HP2.out (Gr.trans HC.out hw')); obtain ⟨z0, z1, z2, z3, z4, z5, z6⟩ := h4)
      go_simp
      with_reducible rfl
    simp only [Act.put, List.setIfInBounds_toArray, List.set_cons_zero, List.set_cons_succ]
    -- 24: slot 66
    refine wpG_take preGr (i := 24) (v := ?_) (by kernel_rfl) (some 66) (by kernel_rfl) rfl (by kernel_rfl) (by kernel_rfl) (by kernel_rfl) (fun _ _ _ h => h) (by rfl) (fun w' hw' => ?_) rfl ?_
    rotate_left
    · try (have h0 := cells5 (heap_below U0.out (Gr.trans HC.out hw')); obtain ⟨i0, i1, i2, i3, i4⟩ := h0; have h1 := cells7 (heap_below U1.out (Gr.trans HC.out hw')); obtain ⟨j0, j1, j2, j3, j4, j5, j6⟩ := h1; have h2 := cells7 (heap_below U2.out (Gr.trans HC.out hw')); obtain ⟨k0, k1, k2, k3, k4, k5, k6⟩ := h2; have h3 := cells7 (heap_below HP1.out (Gr.trans HC.out hw')); obtain ⟨y0, y1, y2, y3, y4, y5, y6⟩ := h3; have h4 := cells7 (heap_below HP2.out (Gr.trans HC.out hw')); obtain ⟨z0, z1, z2, z3, z4, z5, z6⟩ := h4)
      go_simp
      with_reducible rfl
    simp only [Act.put, List.setIfInBounds_toArray, List.set_cons_zero, List.set_cons_succ]
    -- 25: slot 67
    refine wpG_take preGr (i := 25) (v := ?_) (by kernel_rfl) (some 67) (by kernel_rfl) rfl (by kernel_rfl) (by kernel_rfl) (by kernel_rfl) (fun _ _ _ h => h) (by rfl) (fun w' hw' => ?_) rfl ?_
    rotate_left
    · try (have h0 := cells5 (heap_below U0.out (Gr.trans HC.out hw')); obtain ⟨i0, i1, i2, i3, i4⟩ := h0; have h1 := cells7 (heap_below U1.out (Gr.trans HC.out hw')); obtain ⟨j0, j1, j2, j3, j4, j5, j6⟩ := h1; have h2 := cells7 (heap_below U2.out (Gr.trans HC.out hw')); obtain ⟨k0, k1, k2, k3, k4, k5, k6⟩ := h2; have h3 := cells7 (heap_below HP1.out (Gr.trans HC.out hw')); obtain ⟨y0, y1, y2, y3, y4, y5, y6⟩ := h3; have h4 := cells7 (heap_below HP2.out (Gr.trans HC.out hw')); obtain ⟨z0, z1, z2, z3, z4, z5, z6⟩ := h4)
      go_simp
      with_reducible rfl
    simp only [Act.put, List.setIfInBounds_toArray, List.set_cons_zero, List.set_cons_succ]
    -- 26: slot 68
    refine wpG_take preGr (i := 26) (v := ?_) (by kernel_rfl) (some 68) (by kernel_rfl) rfl (by kernel_rfl) (by kernel_rfl) (by kernel_rfl) (fun _ _ _ h => h) (by rfl) (fun w' hw' => ?_) rfl ?_
    rotate_left
    · try (have h0 := cells5 (heap_below U0.out (Gr.trans HC.out hw')); obtain ⟨i0, i1, i2, i3, i4⟩ := h0; have h1 := cells7 (heap_below U1.out (Gr.trans HC.out hw')); obtain ⟨j0, j1, j2, j3, j4, j5, j6⟩ := h1; have h2 := cells7 (heap_below U2.out (Gr.trans HC.out hw')); obtain ⟨k0, k1, k2, k3, k4, k5, k6⟩ := h2; have h3 := cells7 (heap_below HP1.out (Gr.trans HC.out hw')); obtain ⟨y0, y1, y2, y3, y4, y5, y6⟩ := h3; have h4 := cells7 (heap_below HP2.out (Gr.trans HC.out hw')); obtain ⟨z0, z1, z2, z3, z4, z5, z6⟩ := h4)
      go_simp
      with_reducible rfl
    simp only [Act.put, List.setIfInBounds_toArray, List.set_cons_zero, List.set_cons_succ]
    refine wpG_one (i := 27) rfl (by kernel_rfl) (by rfl) ?_
    go_simp
    refine (S4.out _ HC.out).mono ?_
    rintro e u27 ⟨rfl, hb⟩
    refine ⟨hb, ?_⟩
    have HC := Lib.hid (Gr.trans HC.out hb)
    clear hb
    try simp only [Act.put, List.setIfInBounds_toArray, List.set_cons_zero, List.set_cons_succ]
    -- 28: slot 70
    refine wpG_take preGr (i := 28) (v := ?_) (by kernel_rfl) (some 70) (by kernel_rfl) rfl (by kernel_rfl) (by kernel_rfl) (by kernel_rfl) (fun _ _ _ h => h) (by rfl) (fun w' hw' => ?_) rfl ?_
    rotate_left
    · try (have h0 := cells5 (heap_below U0.out (Gr.trans HC.out hw')); obtain ⟨i0, i1, i2, i3, i4⟩ := h0; have h1 := cells7 (heap_below U1.out (Gr.trans HC.out hw')); obtain ⟨j0, j1, j2, j3, j4, j5, j6⟩ := h1; have h2 := cells7 (heap_below U2.out (Gr.trans HC.out hw')); obtain ⟨k0, k1, k2, k3, k4, k5, k6⟩ := h2; have h3 := cells7 (heap_below HP1.out (Gr.trans HC.out hw')); obtain ⟨y0, y1, y2, y3, y4, y5, y6⟩ := h3; have h4 := cells7 (heap_below HP2.out (Gr.trans HC.out hw')); obtain ⟨z0, z1, z2, z3, z4, z5, z6⟩ := h4)
      go_simp
      with_reducible rfl
    simp only [Act.put, List.setIfInBounds_toArray, List.set_cons_zero, List.set_cons_succ]
    -- 29: slot 71
    refine wpG_take preGr (i := 29) (v := ?_) (by kernel_rfl) (some 71) (by kernel_rfl) rfl (by kernel_rfl) (by kernel_rfl) (by kernel_rfl) (fun _ _ _ h => h) (by rfl) (fun w' hw' => ?_) rfl ?_
    rotate_left
    · try (have h0 := cells5 (heap_below U0.out (Gr.trans HC.out hw')); obtain ⟨i0, i1, i2, i3, i4⟩ := h0; have h1 := cells7 (heap_below U1.out (Gr.trans HC.out hw')); obtain ⟨j0, j1, j2, j3, j4, j5, j6⟩ := h1; have h2 := cells7 (heap_below U2.out (Gr.trans HC.out hw')); obtain ⟨k0, k1, k2, k3, k4, k5, k6⟩ := h2; have h3 := cells7 (heap_below HP1.out (Gr.trans HC.out hw')); obtain ⟨y0, y1, y2, y3, y4, y5, y6⟩ := h3; have h4 := cells7 (heap_below HP2.out (Gr.trans HC.out hw')); obtain ⟨z0, z1, z2, z3, z4, z5, z6⟩ := h4)
      go_simp
      with_reducible rfl
    simp only [Act.put, List.setIfInBounds_toArray, List.set_cons_zero, List.set_cons_succ]
    refine wpG_one (i := 30) rfl (by kernel_rfl) (by rfl) ?_
    go_simp
    refine (AW.out _).mono ?_
    rintro e u30 ⟨rfl, hb⟩
    refine ⟨hb, ?_⟩
    have HC := Lib.hid (Gr.trans HC.out hb)
    clear hb
    try simp only [Act.put, List.setIfInBounds_toArray, List.set_cons_zero, List.set_cons_succ]
    -- 31: slot 73
    refine wpG_take preGr (i := 31) (v := ?_) (by kernel_rfl) (some 73) (by kernel_rfl) rfl (by kernel_rfl) (by kernel_rfl) (by kernel_rfl) (fun _ _ _ h => h) (by rfl) (fun w' hw' => ?_) rfl ?_
    rotate_left
    · try (have h0 := cells5 (heap_below U0.out (Gr.trans HC.out hw')); obtain ⟨i0, i1, i2, i3, i4⟩ := h0; have h1 := cells7 (heap_below U1.out (Gr.trans HC.out hw')); obtain ⟨j0, j1, j2, j3, j4, j5, j6⟩ := h1; have h2 := cells7 (heap_below U2.out (Gr.trans HC.out hw')); obtain ⟨k0, k1, k2, k3, k4, k5, k6⟩ := h2; have h3 := cells7 (heap_below HP1.out (Gr.trans HC.out hw')); obtain ⟨y0, y1, y2, y3, y4, y5, y6⟩ := h3; have h4 := cells7 (heap_below HP2.out (Gr.trans HC.out hw')); obtain ⟨z0, z1, z2, z3, z4, z5, z6⟩ := h4)
      go_simp
      with_reducible rfl
    simp only [Act.put, List.setIfInBounds_toArray, List.set_cons_zero, List.set_cons_succ]
    -- 32: slot 6
    refine wpG_take preGr (i := 32) (v := ?_) (by kernel_rfl) (some 6) (by kernel_rfl) rfl (by kernel_rfl) (by kernel_rfl) (by kernel_rfl) (fun _ _ _ h => h) (by rfl) (fun w' hw' => ?_) rfl ?_
    rotate_left
    · try (have h0 := cells5 (heap_below U0.out (Gr.trans HC.out hw')); obtain ⟨i0, i1, i2, i3, i4⟩ := h0; have h1 := cells7 (heap_below U1.out (Gr.trans HC.out hw')); obtain ⟨j0, j1, j2, j3, j4, j5, j6⟩ := h1; have h2 := cells7 (heap_below U2.out (Gr.trans HC.out hw')); obtain ⟨k0, k1, k2, k3, k4, k5, k6⟩ := h2; have h3 := cells7 (heap_below HP1.out (Gr.trans HC.out hw')); obtain ⟨y0, y1, y2, y3, y4, y5, y6⟩ := h3; have h4 := cells7 (heap_below HP2.out (Gr.trans HC.out hw')); obtain ⟨z0, z1, z2, z3, z4, z5, z6⟩ := h4)
      go_simp
      with_reducible rfl
    simp only [Act.put, List.setIfInBounds_toArray, List.set_cons_zero, List.set_cons_succ]
    refine wpG_done (by kernel_rfl) ?_ _
    have HBZ := Lib.hid (HB7.out.trans (Below.mono (Gr.trans HV4.out HC.out) HB7.out.size))
    go_wp2
    go_ret
    exact ⟨rfl, HBZ.out⟩

theorem own : ownKnob Try.prog.godebug = none := by kernel_rfl
theorem laidOut : laidOutB Try.prog = true := by kernel_rfl
set_option maxRecDepth 100000 in
theorem lifted (os : Os) (started : os.Started) (H : Type) (enc : TypeId × Value → H) :
    ReturnsInHanded {} Try.checked os 3 .any (Rows.autoChecksSpec.pre6 enc Try.prog Try.f3 Rows.autoChecksRow.domain false) (Rows.autoChecksSpec.post enc Try.prog Try.f3 false true false false) := by
  refine returnsInHanded_of_change (C := Try.checked) own started (by kernel_rfl) Try.func3
    (ChangeSpec.witness6 (enc := enc) (C := Try.checked) false ⟨#[], #[.agg #[.slice none 0 0, .int .i64 0, .int .i64 0, .int .i64 0, .int .i64 0], .agg #[.int .i64 0, .int .i64 0, .int .i64 0, .slice none 0 0, .int .i64 0, .int .i64 0, .int .i64 0], .agg #[.int .i64 0, .int .i64 0, .int .i64 0, .slice none 0 0, .int .i64 0, .int .i64 0, .int .i64 0]], []⟩ 8 (by kernel_rfl) (by kernel_rfl) (by kernel_rfl) (by kernel_rfl)) ?_
  intro W base args ds gs before hval0 hW hcnd _
  have hval : ∀ (j : Nat) t v, Try.f3.params[j]? = some t → args[j]? = some v → Value.okWide Try.prog W .any base t v := hval0
  have hW' := hW
  obtain ⟨p, q, hA0, hV, rfl, hfz, hnd⟩ := hW
  have hA : DataW.TrodAll enc Try.prog W 0 (fun _ => true) true Try.f3.params.toList args.toList ds p := hA0
  rw [Try.params3] at hA hval
  obtain ⟨v0, vs0, d0, ds0, p0, q0, hargs, rfl, rfl, h0, r0⟩ := trodAll_cons hA
  obtain ⟨v1, vs1, d1, ds1, p1, q1, rfl, rfl, rfl, h1, r1⟩ := trodAll_cons r0
  obtain ⟨v2, vs2, d2, ds2, p2, q2, rfl, rfl, rfl, h2, r2⟩ := trodAll_cons r1
  obtain ⟨rfl, rfl, rfl⟩ := trodAll_nil r2
  obtain rfl : args = #[v0, v1, v2] := by cases args; simp_all
  obtain ⟨rfl, rfl⟩ := trodVars_none hV
  have k0 := h0
  have lt0 : ∀ x ∈ p0, x.block < W.heap.size := by obtain ⟨m, hm⟩ := k0; exact DataW.trod_lt m _ _ _ hm
  obtain ⟨a0, n0, c0, rs0, ka0, kb0, kc0, kd0, rfl, b0⟩ := Au.open_aconf Try.underlying24 ⟨rfl, rfl, rfl, rfl, rfl⟩ Try.underlying22 Try.underlying68 ⟨rfl, rfl, rfl, rfl, rfl, rfl, rfl⟩ Try.underlying3 Try.underlying3 Try.underlying66 Try.underlying3 Try.underlying3 Try.underlying3 Try.underlying4 ⟨by kernel_rfl, by kernel_rfl, by kernel_rfl, by kernel_rfl, by kernel_rfl, by kernel_rfl, by kernel_rfl, by kernel_rfl⟩ Try.underlying3 Try.underlying3 Try.underlying3 Try.underlying3 ⟨by kernel_rfl, by kernel_rfl, by kernel_rfl, by kernel_rfl, by kernel_rfl, by kernel_rfl⟩ (hval 0 24 v0 rfl rfl) h0
  have k1 := h1
  have lt1 : ∀ x ∈ p1, x.block < W.heap.size := by obtain ⟨m, hm⟩ := k1; exact DataW.trod_lt m _ _ _ hm
  obtain ⟨st1, id1, rq1, a1, n1, c1, ts1, ct1, tm1, nk1, rfl, b1⟩ := Au.open_auto Try.underlying28 ⟨rfl, rfl, rfl, rfl, rfl, rfl, rfl⟩ Try.underlying26 Try.underlying52 ⟨rfl, rfl⟩ Try.underlying3 Try.underlying29 Try.underlying5 ⟨by kernel_rfl, by kernel_rfl, by kernel_rfl, by kernel_rfl⟩ Try.underlying25 Try.underlying3 Try.underlying3 Try.underlying3 Try.underlying3 Try.underlying3 ⟨by kernel_rfl, by kernel_rfl, by kernel_rfl, by kernel_rfl, by kernel_rfl, by kernel_rfl, by kernel_rfl, by kernel_rfl⟩ (hval 1 28 v1 rfl rfl) h1
  have k2 := h2
  have lt2 : ∀ x ∈ p2, x.block < W.heap.size := by obtain ⟨m, hm⟩ := k2; exact DataW.trod_lt m _ _ _ hm
  obtain ⟨st2, id2, rq2, a2, n2, c2, ts2, ct2, tm2, nk2, rfl, b2⟩ := Au.open_auto Try.underlying28 ⟨rfl, rfl, rfl, rfl, rfl, rfl, rfl⟩ Try.underlying26 Try.underlying52 ⟨rfl, rfl⟩ Try.underlying3 Try.underlying29 Try.underlying5 ⟨by kernel_rfl, by kernel_rfl, by kernel_rfl, by kernel_rfl⟩ Try.underlying25 Try.underlying3 Try.underlying3 Try.underlying3 Try.underlying3 Try.underlying3 ⟨by kernel_rfl, by kernel_rfl, by kernel_rfl, by kernel_rfl, by kernel_rfl, by kernel_rfl, by kernel_rfl, by kernel_rfl⟩ (hval 2 28 v2 rfl rfl) h2
  clear hA0 hval0
  refine (walk W a0 n0 c0 rs0 ka0 kb0 kc0 kd0 b0 st1 id1 rq1 a1 n1 c1 ts1 ct1 tm1 nk1 b1 st2 id2 rq2 a2 n2 c2 ts2 ct2 tm2 nk2 b2).mono fun e W' ⟨he, bel⟩ => ?_
  subst he
  exact ⟨_, rfl, _, _, _, [], _, [], hW', trodAll_mk1 (shut_bool Try.underlying4 _), (trodAll_cons_mk (Below.trod laidOut (by kernel_rfl) (of_decide_eq_true (by kernel_rfl)) k0 bel lt0) (trodAll_cons_mk (Below.trod laidOut (by kernel_rfl) (of_decide_eq_true (by kernel_rfl)) k1 bel lt1) (trodAll_cons_mk (Below.trod laidOut (by kernel_rfl) (of_decide_eq_true (by kernel_rfl)) k2 bel lt2) trodAll_mk0))), rfl, bel.frame _, fun h => by cases h⟩
theorem over : Rows.autoChecksRow.holds Try.pinned (OpenSpec.ofChange Rows.autoChecksSpec) :=
  OpenClaim.holds_of_wide 3 Try.f3 rfl rfl rfl rfl rfl rfl rfl ⟨rfl, rfl, rfl, rfl, rfl⟩ rfl rfl rfl rfl rfl (by kernel_rfl) Try.func3 (by kernel_rfl)
    (of_decide_eq_true (by kernel_rfl)) (by unfold Func.isWrapper; first | (rw [if_pos (by decide +kernel)]; kernel_rfl) | (rw [if_neg (by decide +kernel)]; exact ⟨rfl, rfl⟩))
    (fun os started H enc _ => lifted os started H enc)
/-- The statement. -/
theorem proved : Rows.AutoChecksSaid := over
end Go.Proofs.Ytclplbapedmihaa.autoChecks
