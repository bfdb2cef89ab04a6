/-
  For every settings and automaton (of the rules the first 20, of the options the first 70, each with the first 260 bytes) where nothing comes but the clock all timers end, behind so many requests as are left, and one more (conciergelaw16.AutoEnds answers true). No conditions.
-/
import Derived.Test.YtclplbapedmihaaZAuC
import Derived.Test.YtclplbapedmihaaZAuB
import Derived.Test.YtclplbapedmihaaZFs
import Derived.Test.YtclplbapedmihaaZOp
import Derived.ProofKit
import Derived.OpenShut
import Derived.ChangeOld
namespace Go.Proofs.Ytclplbapedmihaa.autoEnds
set_option maxRecDepth 4000
open Go.ChangeShapes Go.WideShapes Go.ChangeAt Go.RowKit O Ng Au
set_option linter.unusedVariables false
set_option linter.unusedSimpArgs false
theorem tmo_ask (c : Cfg) (a : Aut) (t : Int) : (tmo c a t).1.ask = a.ask := by
  unfold tmo
  split
  · rfl
  · generalize (if 0 < a.count then (5 : Int) else 6) = e
    by_cases h : fine c a t ∧ (Fs.stp a.st e).2.2 = 0
    · rw [doE_yes h.1 h.2]
      have := (acts_mid h.1.1 h.1.2.2 (Fs.stp a.st e).2.1 QC.zero QC.zero (Fs.stp a.st e).2.1 _ (isA_mid (c := c) h.1.2.1 (Fs.stp a.st e).1)).1.ask
      show (rest _ _).ask = _
      unfold rest
      split
      · exact this
      · exact this
    · rw [doE_no h]
set_option maxRecDepth 20000 in
set_option maxHeartbeats 8000000 in
theorem walk (W : World) (a0 : Option Addr) (n0 c0 : Nat) (rs0 : List Ru) (ka0 kb0 kc0 kd0 : Int) (b0 : RR W (.slice a0 n0 c0) n0 rs0) (st1 id1 rq1 : Int) (a1 : Option Addr) (n1 c1 : Nat) (ts1 : List Tg) (ct1 tm1 nk1 : Int) (b1 : TR W (.slice a1 n1 c1) n1 ts1) :
    Calls Try.prog 4 #[.agg #[.slice a0 n0 c0, .int .i64 ka0, .int .i64 kb0, .int .i64 kc0, .int .i64 kd0], .agg #[.int .i64 st1, .int .i64 id1, .int .i64 rq1, .slice a1 n1 c1, .int .i64 ct1, .int .i64 tm1, .int .i64 nk1]] W fun e w' => e = .returned (.bool true) ∧ Below W.heap.size W w' := by
  have BA : Gr W ((W.alloc (.cells #[.slice a0 n0 c0, .int .i64 ka0, .int .i64 kb0, .int .i64 kc0, .int .i64 kd0] 24)).alloc (.cells #[.int .i64 st1, .int .i64 id1, .int .i64 rq1, .slice a1 n1 c1, .int .i64 ct1, .int .i64 tm1, .int .i64 nk1] 28)) := ((Gr.refl W).alloc _).alloc _
  have g0 := heap2_0' W (.cells #[.slice a0 n0 c0, .int .i64 ka0, .int .i64 kb0, .int .i64 kc0, .int .i64 kd0] 24) (.cells #[.int .i64 st1, .int .i64 id1, .int .i64 rq1, .slice a1 n1 c1, .int .i64 ct1, .int .i64 tm1, .int .i64 nk1] 28)
  have g1 := heap2_1' W (.cells #[.slice a0 n0 c0, .int .i64 ka0, .int .i64 kb0, .int .i64 kc0, .int .i64 kd0] 24) (.cells #[.int .i64 st1, .int .i64 id1, .int .i64 rq1, .slice a1 n1 c1, .int .i64 ct1, .int .i64 tm1, .int .i64 nk1] 28)
  obtain ⟨i0, i1, i2, i3, i4⟩ := cells5 g0
  obtain ⟨j0, j1, j2, j3, j4, j5, j6⟩ := cells7 g1
  have HBA := Lib.hid BA
  have G0 := Lib.hid g0
  have G1 := Lib.hid g1
  have LT := Lib.hid (light_any a0 n0 c0 rs0 ka0 kb0 kc0 kd0 st1 id1 rq1 a1 n1 c1 ts1 ct1 tm1 nk1 0 0 none 0 0 [] W ((W.alloc (.cells #[.slice a0 n0 c0, .int .i64 ka0, .int .i64 kb0, .int .i64 kc0, .int .i64 kd0] 24)).alloc (.cells #[.int .i64 st1, .int .i64 id1, .int .i64 rq1, .slice a1 n1 c1, .int .i64 ct1, .int .i64 tm1, .int .i64 nk1] 28)) b0 b1 (Bs.nil W) rfl BA)
  have AW := Lib.hid awake_any
  clear BA g0 g1 b0 b1
  go_enter Try.func4, Try.ntmps4
  go_wp2_with fail
  refine LT.out.mono ?_
  rintro e w1 ⟨ra, rn, rc, rs, ao, n, c, ts, qa, qn, qk, ql, rfl, hrr, ⟨hown, hvs⟩, hn, hm, _, _, hb1⟩
  have HRR := Lib.hid hrr
  have HOWN := Lib.hid (ownsRow_mono hown HBA.out.size)
  have HVS := Lib.hid hvs
  have HNM := Lib.hid (And.intro hn hm)
  have HB1 : Hid (Gr W w1) := Gr.trans HBA.out hb1
  have K0 := Lib.hid (heap_below G0.out hb1)
  have K1 := Lib.hid (heap_below G1.out hb1)
  clear hrr hown hvs hn hm hb1 G0 G1 HBA LT i0 i1 i2 i3 i4 j0 j1 j2 j3 j4 j5 j6
  go_wp2_with (refine wpList_store_whole rfl 24 (.tmp 2) (.tmp 15) rfl W.heap.size [.slice ra rn rc, .int .i64 ka0, .int .i64 kb0, .int .i64 kc0, .int .i64 kd0] rfl rfl 24 _ K0.out sizeConf rfl (fun v hv => by simp only [List.mem_cons, List.not_mem_nil, or_false] at hv; rcases hv with rfl | rfl | rfl | rfl | rfl <;> rfl) ?_)
  intro w2 e2 o2
  have M0 := Lib.hid e2
  have M1 := Lib.hid (only_heap K1.out o2 (by omega))
  have HB2 : Hid (Below W.heap.size W w2) := o2.below _ _ (Nat.le_refl _) HB1.out
  have HO2 := Lib.hid (own_off HOWN.out K0.out (show 52 ≠ 24 by decide) o2)
  clear e2 o2 K0 K1 HB1 HOWN
  go_wp2_with (refine wpList_store_whole rfl 28 (.tmp 3) (.tmp 16) rfl (W.heap.size + 1) [.int .i64 st1, .int .i64 id1, .int .i64 rq1, .slice ao n c, .int .i64 ct1, .int .i64 tm1, .int .i64 nk1] rfl rfl 28 _ M1.out sizeAuto rfl (autoC_one (a := ⟨st1, id1, rq1, [], ct1, tm1, nk1⟩) rfl) ?_)
  intro w5 e4 o4
  have N0 := Lib.hid (only_heap M0.out o4 (by omega))
  have N1 := Lib.hid e4
  have HB5 : Hid (Below W.heap.size W w5) := o4.below _ _ (Nat.le_add_right _ _) HB2.out
  have HO5 := Lib.hid (own_off HO2.out M1.out (show 52 ≠ 28 by decide) o4)
  clear e4 o4 M0 M1 HB2 HO2
  have HT7 : Hid (TR w5 (.slice ao n c) n ts) := ⟨own_rd HO5.out, fun x hx => (HVS.out x hx).below HB5.out⟩
  have RC := Lib.hid (rconf_any ra rn rc rs ka0 kb0 kc0 kd0 w5 (HRR.out.below HB5.out))
  have RI := Lib.hid (fun w' (hw : Gr w5 w') => ris_any st1 id1 rq1 ao n c ts ct1 tm1 nk1 w' (HT7.out.below hw) HNM.out.1 (fun x hx => by have := HNM.out.2 x hx; omega))
  obtain ⟨i0, i1, i2, i3, i4⟩ := cells5 N0.out
  obtain ⟨j0, j1, j2, j3, j4, j5, j6⟩ := cells7 N1.out
  by_cases hC : isC ⟨rs, ka0, kb0, kc0, kd0⟩
  · rw [decide_eq_true hC] at RC
    have HC := Lib.hid hC
    clear hC
    go_wp2_with fail
    refine RC.out.mono ?_
    rintro e w8 ⟨rfl, hb⟩
    have HG5 : Hid (Gr w5 w8) := hb
    have HG := Lib.hid (HB5.out.trans (Below.mono hb HB5.out.size))
    have X1 := Lib.hid (heap_below N1.out hb)
    have RI2 := Lib.hid (RI.out w8 hb)
    clear hb RC RI i0 i1 i2 i3 i4 j0 j1 j2 j3 j4 j5 j6
    obtain ⟨j0, j1, j2, j3, j4, j5, j6⟩ := cells7 X1.out
    by_cases hA : isA ⟨st1, id1, rq1, plain ts, ct1, tm1, nk1⟩
    · rw [decide_eq_true hA] at RI2
      have HA := Lib.hid hA
      clear hA
      go_wp2_with fail
      refine RI2.out.mono ?_
      rintro e wk ⟨rfl, hb⟩
      have HG5 := Lib.hid (Gr.trans HG5.out hb)
      have HG := Lib.hid (HG.out.trans (Below.mono hb HG.out.size))
      have X1 := Lib.hid (heap_below X1.out hb)
      have X0 := Lib.hid (heap_below N0.out HG5.out)
      clear hb RI2 j0 j1 j2 j3 j4 j5 j6
      obtain ⟨j0, j1, j2, j3, j4, j5, j6⟩ := cells7 X1.out
      by_cases hb9 : 549755813888 < tm1
      · go_wp2_with fail
        refine (AW.out _).mono ?_
        rintro e w21 ⟨rfl, hb⟩
        have HZ := Lib.hid (HG.out.trans (hb.mono HG.out.size))
        clear hb
        go_wp2_with fail
        go_ret
        exact ⟨rfl, HZ.out⟩
      · go_wp2_with fail
        have HCT : Hid (0 ≤ ct1 ∧ ct1 ≤ 1000) := HA.out.2.2.2.2.1
        have hct0 := HCT.out.1
        have hct1 := HCT.out.2
        have HS0 : Hid (TR wk (.slice ao n c) n ts) := HT7.out.below HG5.out
        have HI0 : Hid (isA ⟨st1, id1, rq1, plain ts, ct1, tm1, nk1⟩ ∧ n ≤ 1000) := ⟨HA.out, HNM.out.1⟩
        have HK0 : Hid ((tm1 ≠ 0 → ct1 + (0 : Nat) ≤ ct1) ∧ tm1 ≤ 549755813888 + (0 : Nat) * 1048576) := ⟨fun _ => by omega, by omega⟩
        have HCC := X0
        clear j0 j1 j2 j3 j4 j5 j6 hb9
        go_loopw [6] (fun iv wr => ∃ (k : Nat) (s i r : Int) (a : Option Addr) (n d : Nat) (us : List Tg) (ct tm nk : Int), iv = .int .i64 (k : Int) ∧ (k : Int) ≤ ct1 + 1 ∧ Hid (wr.heap[W.heap.size + 1]? = some (.cells #[.int .i64 s, .int .i64 i, .int .i64 r, .slice a n d, .int .i64 ct, .int .i64 tm, .int .i64 nk] 28 (0, 0))) ∧ Hid (TR wr (.slice a n d) n us) ∧ Hid (isA ⟨s, i, r, plain us, ct, tm, nk⟩ ∧ n ≤ 1000) ∧ Hid ((tm ≠ 0 → ct + k ≤ ct1) ∧ tm ≤ 549755813888 + k * 1048576) ∧ Hid (Below W.heap.size W wr) ∧ Hid (wr.heap[W.heap.size]? = wk.heap[W.heap.size]?)) (fun iv _ => ct1.toNat + 1 - (intOf iv).toNat)
        case atStart => exact ⟨0, _, _, _, _, _, _, ts, _, _, _, rfl, by omega, X1, HS0, HI0, HK0, HG, rfl⟩
        case round =>
          obtain ⟨k, s, i, r, a, n, d, us, ct, tm, nk, rfl, hk, HX1, HT, HI, HK, HB, HCK0⟩ := hrel
          have HCK : Hid (wk.heap[W.heap.size]? = wr.heap[W.heap.size]?) := HCK0.symm
          have HX0 : Hid (wr.heap[W.heap.size]? = _) := HCK0.trans X0.out
          have HCC : Hid (wr.heap[W.heap.size]? = _) := HX0
          have HLE : Hid ((k : Int) ≤ 1001) := by show _ ≤ _; omega
          obtain ⟨i0, i1, i2, i3, i4⟩ := cells5 HX0.out
          obtain ⟨j0, j1, j2, j3, j4, j5, j6⟩ := cells7 HX1.out
          by_cases hkl : (k : Int) ≤ ct1
          · by_cases ht : tm = 0
            · subst ht
              have HTF : Hid (Fs.timed s = false) := by
                have h := timer_timed HI.out.1
                exact Bool.eq_false_iff.2 (fun hh => absurd rfl (h.2 hh))
              have RT := Lib.hid (Fs.rTimed_any s wr)
              rw [HTF.out] at RT
              go_wp2_with fail
              refine RT.out.mono ?_
              rintro e w20 ⟨rfl, rfl⟩
              go_wp2_with fail
              refine (AW.out _).mono ?_
              rintro e w21 ⟨rfl, hb⟩
              have HZ := Lib.hid (HB.out.trans (hb.mono HB.out.size))
              clear hb
              go_wp2_with fail
              go_ret
              exact ⟨rfl, HZ.out⟩
            · have htb : (tm == 0) = false := by simp [ht]
              have htd : decide (tm = 0) = false := decide_eq_false ht
              by_cases hn : 0 < ct
              · skip
                obtain ⟨f1, f2, f3⟩ := tmo_more HC.out HI.out.1 ht (show tm ≤ topT by unfold topT; have := HK.out.2; have := HLE.out; omega) hn
                have hxa := tmo_is (c := ⟨rs, ka0, kb0, kc0, kd0⟩) (t := tm) HI.out.1
                have hxp : (tmo ⟨rs, ka0, kb0, kc0, kd0⟩ ⟨s, i, r, plain us, ct, tm, nk⟩ tm).1.ask = plain us := tmo_ask _ _ _
                have TM := Timeout_any ra rn rc rs ka0 kb0 kc0 kd0 s i r a n d us ct tm nk tm wr (HRR.out.below HB.out) HT.out HI.out.2 (small_row (isA_small HI.out.1)).1
                generalize tmo ⟨rs, ka0, kb0, kc0, kd0⟩ ⟨s, i, r, plain us, ct, tm, nk⟩ tm = x at f1 f2 f3 hxa hxp TM
                obtain ⟨⟨xs, xi, xr, xk, xc, xt, xn⟩, xo, xl⟩ := x
                have HTM := Lib.hid TM
                have HXA := Lib.hid hxa
                have HXP : Hid (xk = plain us) := hxp
                have HW := Lib.hid HC.out.2.2.2.2
                have hl : xo.length = 1 := f1
                have g1 : xc = ct - 1 := f2
                have g2 : xt = tm + kd0 := f3
                have htp := (HI.out.1.2.2.2.2.2.2.1 ((timer_timed HI.out.1).1 ht)).1
                have htp2 : 1 ≤ tm := htp
                have hkd : 1 ≤ kd0 ∧ kd0 ≤ 1048576 := HW.out
                have h5 : ¬ ct ≤ xc := by omega
                have h6 : ¬ xt = 0 := by omega
                have h6b : (xt != 0) = true := by simp [h6]
                have HNEXT : Hid ((xt ≠ 0 → xc + (k + 1 : Nat) ≤ ct1) ∧ xt ≤ 549755813888 + (k + 1 : Nat) * 1048576) := ⟨fun _ => by have := HK.out.1 ht; omega, by have := HK.out.2; omega⟩
                clear f1 f2 f3 hxa hxp TM g1 g2 htp htp2 hkd
                go_wp2_with fail
                refine HTM.out.mono ?_
                rintro e v1 ⟨av, ov, dv, rfl, hd⟩
                obtain ⟨us2, hto, hpu⟩ := hd.ask
                obtain ⟨os, hco, hpo⟩ := hd.out
                have hdn := hd.done.ar
                obtain ⟨ba, bc, rfl, _, _⟩ := hto.tr.shape
                obtain ⟨oa, oc, rfl, _, _⟩ := hco.cr.shape
                obtain ⟨da, dc, rfl, _, _⟩ := hdn.shape
                have hol : os.length = xo.length := by rw [← plainC_length, hpo]
                rw [hol, hl]
                obtain ⟨bn, hbn⟩ : ∃ b, b = us2.length := ⟨_, rfl⟩
                have HTO : Hid (TO v1 wr.heap.size (.slice ba us2.length bc) us2) := hto
                have HPU : Hid (plain us2 = plain us) := hpu.trans HXP.out
                have HBN : Hid (bn = us2.length) := hbn
                rw [← hbn]
                have HV1 : Hid (Gr wr v1) := hd.old
                simp only [autoV, autoC]
                clear hd hto hpu hco hpo hdn hol hl hbn HTM j0 j1 j2 j3 j4 j5 j6 i0 i1 i2 i3 i4
                have hal : Gr v1 (v1.alloc (.cells #[.int .i64 xs, .int .i64 xi, .int .i64 xr, .slice ba bn bc, .int .i64 xc, .int .i64 xt, .int .i64 xn] 28)) := (Gr.refl _).alloc _
                have HP : Hid ((v1.alloc (.cells #[.int .i64 xs, .int .i64 xi, .int .i64 xr, .slice ba bn bc, .int .i64 xc, .int .i64 xt, .int .i64 xn] 28)).heap[v1.heap.size]? = some (.cells #[.int .i64 xs, .int .i64 xi, .int .i64 xr, .slice ba bn bc, .int .i64 xc, .int .i64 xt, .int .i64 xn] 28 (0, 0))) := heap_alloc_last _ _
                have HV2 := Lib.hid (Gr.trans HV1.out hal)
                have HTO := Lib.hid (HTO.out.below hal)
                have HPLT : Hid (W.heap.size + 1 < v1.heap.size) := Nat.lt_of_lt_of_le (Array.getElem?_eq_some_iff.1 HX1.out).1 HV1.out.size
                obtain ⟨p, hp⟩ : ∃ g, g = v1.heap.size := ⟨_, rfl⟩
                obtain ⟨v2, hv2⟩ : ∃ x, x = v1.alloc (.cells #[.int .i64 xs, .int .i64 xi, .int .i64 xr, .slice ba bn bc, .int .i64 xc, .int .i64 xt, .int .i64 xn] 28) := ⟨_, rfl⟩
                clear HV1 hal
                go_upto_region 10 with fail
                rw [← hv2, ← hp] at HP
                rw [← hv2] at HV2 HTO
                rw [← hp] at HPLT
                rw [← hv2, ← hp]
                clear hp hv2
                have HLN : Hid (bn ≤ 1000 ∧ (∀ x ∈ us2, x.l.length ≤ 1000) ∧ isA ⟨xs, xi, xr, plain us2, xc, xt, xn⟩) := by
                  refine ⟨?_, (small_row (by rw [HPU.out]; exact isA_small HI.out.1)).1, ?_⟩
                  · have h1 := congrArg List.length HPU.out
                    rw [plain_length, plain_length] at h1
                    have h2 := HT.out.len
                    have h3 := HI.out.2
                    have h4 := HBN.out
                    omega
                  · rw [HPU.out, ← HXP.out]
                    exact HXA.out
                have HT2 : Hid (TR v2 (.slice ba bn bc) bn us2) := by
                  have h := HTO.out.tr
                  rw [← HBN.out] at h
                  exact h
                have RI := Lib.hid (ris_any xs xi xr ba bn bc us2 xc xt xn v2 HT2.out HLN.out.1 (fun x hx => by have := HLN.out.2.1 x hx; omega))
                rw [decide_eq_true HLN.out.2.2] at RI
                obtain ⟨y0, y1, y2, y3, y4, y5, y6⟩ := cells7 HP.out
                go_wp2_with fail
                refine RI.out.mono ?_
                rintro e v3 ⟨rfl, hb⟩
                have HV3 := Lib.hid (Gr.trans HV2.out hb)
                have HP := Lib.hid (heap_below HP.out hb)
                have HTO := Lib.hid (HTO.out.below hb)
                have HX3 := Lib.hid (heap_below HX1.out HV3.out)
                clear hb RI HT2 HV2 y0 y1 y2 y3 y4 y5 y6
                obtain ⟨y0, y1, y2, y3, y4, y5, y6⟩ := cells7 HP.out
                obtain ⟨j0, j1, j2, j3, j4, j5, j6⟩ := cells7 HX3.out
                go_wp2_with (refine wpList_store_whole rfl 28 (.tmp 3) (.tmp 80) rfl (W.heap.size + 1) [.int .i64 xs, .int .i64 xi, .int .i64 xr, .slice ba bn bc, .int .i64 xc, .int .i64 xt, .int .i64 xn] rfl rfl 28 _ HX3.out sizeAuto rfl (autoC_one (a := ⟨xs, xi, xr, [], xc, xt, xn⟩) rfl) ?_)
                intro v4 g4 o4
                have H4 := Lib.hid g4
                have HB4 : Hid (Below W.heap.size W v4) := o4.below _ _ (Nat.le_add_right _ _) (HB.out.trans (Below.mono HV3.out HB.out.size))
                have HT4 : Hid (TR v4 (.slice ba bn bc) bn us2) := by
                  have h := (TO.off HTO.out HX3.out (by decide) (by decide) o4).tr
                  rw [← HBN.out] at h
                  exact h
                have HC4 : Hid (v4.heap[W.heap.size]? = wk.heap[W.heap.size]?) := by
                  exact (o4.heap _ (Array.getElem?_eq_some_iff.1 (heap_below HCC.out HV3.out)).1 (by omega)).trans ((heap_below HCC.out HV3.out).trans X0.out.symm)
                have hkk : ((k + 1 : Nat) : Int) ≤ ct1 + 1 := by omega
                clear g4 o4 y0 y1 y2 y3 y4 y5 y6 j0 j1 j2 j3 j4 j5 j6
                go_wp2_with fail
                go_roundw
                case rel =>
                  first
                    | exact ⟨k + 1, _, _, _, _, _, _, us2, _, _, _, by go_num, hkk, H4, HT4, ⟨HLN.out.2.2, HLN.out.1⟩, HNEXT, HB4, HC4⟩
                    | ((repeat apply Exists.intro); exact ⟨⟨k + 1, _, _, _, _, _, _, us2, _, _, _, by go_num, hkk, H4, HT4, ⟨HLN.out.2.2, HLN.out.1⟩, HNEXT, HB4, HC4⟩, rfl⟩)
                case measure => simp [intOf]; omega
              · skip
                obtain ⟨f1, f2, f3⟩ := tmo_last HC.out HI.out.1 ht (show tm ≤ topT by unfold topT; have := HK.out.2; have := HLE.out; omega) hn
                have hxa := tmo_is (c := ⟨rs, ka0, kb0, kc0, kd0⟩) (t := tm) HI.out.1
                have hxp : (tmo ⟨rs, ka0, kb0, kc0, kd0⟩ ⟨s, i, r, plain us, ct, tm, nk⟩ tm).1.ask = plain us := tmo_ask _ _ _
                have TM := Timeout_any ra rn rc rs ka0 kb0 kc0 kd0 s i r a n d us ct tm nk tm wr (HRR.out.below HB.out) HT.out HI.out.2 (small_row (isA_small HI.out.1)).1
                generalize tmo ⟨rs, ka0, kb0, kc0, kd0⟩ ⟨s, i, r, plain us, ct, tm, nk⟩ tm = x at f1 f2 f3 hxa hxp TM
                obtain ⟨⟨xs, xi, xr, xk, xc, xt, xn⟩, xo, xl⟩ := x
                have HTM := Lib.hid TM
                have HXA := Lib.hid hxa
                have HXP : Hid (xk = plain us) := hxp
                have hl : xo.length = 0 := by rw [show xo = [] from f1]; rfl
                have g2 : xt = 0 := f2
                subst g2
                have HNEXT : Hid (((0 : Int) ≠ 0 → xc + (k + 1 : Nat) ≤ ct1) ∧ (0 : Int) ≤ 549755813888 + (k + 1 : Nat) * 1048576) := ⟨fun h => absurd rfl h, by omega⟩
                clear f1 f2 f3 hxa hxp TM
                go_wp2_with fail
                refine HTM.out.mono ?_
                rintro e v1 ⟨av, ov, dv, rfl, hd⟩
                obtain ⟨us2, hto, hpu⟩ := hd.ask
                obtain ⟨os, hco, hpo⟩ := hd.out
                have hdn := hd.done.ar
                obtain ⟨ba, bc, rfl, _, _⟩ := hto.tr.shape
                obtain ⟨oa, oc, rfl, _, _⟩ := hco.cr.shape
                obtain ⟨da, dc, rfl, _, _⟩ := hdn.shape
                have hol : os.length = xo.length := by rw [← plainC_length, hpo]
                rw [hol, hl]
                obtain ⟨bn, hbn⟩ : ∃ b, b = us2.length := ⟨_, rfl⟩
                have HTO : Hid (TO v1 wr.heap.size (.slice ba us2.length bc) us2) := hto
                have HPU : Hid (plain us2 = plain us) := hpu.trans HXP.out
                have HBN : Hid (bn = us2.length) := hbn
                rw [← hbn]
                have HV1 : Hid (Gr wr v1) := hd.old
                simp only [autoV, autoC]
                clear hd hto hpu hco hpo hdn hol hl hbn HTM j0 j1 j2 j3 j4 j5 j6 i0 i1 i2 i3 i4
                have hal : Gr v1 (v1.alloc (.cells #[.int .i64 xs, .int .i64 xi, .int .i64 xr, .slice ba bn bc, .int .i64 xc, .int .i64 0, .int .i64 xn] 28)) := (Gr.refl _).alloc _
                have HP : Hid ((v1.alloc (.cells #[.int .i64 xs, .int .i64 xi, .int .i64 xr, .slice ba bn bc, .int .i64 xc, .int .i64 0, .int .i64 xn] 28)).heap[v1.heap.size]? = some (.cells #[.int .i64 xs, .int .i64 xi, .int .i64 xr, .slice ba bn bc, .int .i64 xc, .int .i64 0, .int .i64 xn] 28 (0, 0))) := heap_alloc_last _ _
                have HV2 := Lib.hid (Gr.trans HV1.out hal)
                have HTO := Lib.hid (HTO.out.below hal)
                have HPLT : Hid (W.heap.size + 1 < v1.heap.size) := Nat.lt_of_lt_of_le (Array.getElem?_eq_some_iff.1 HX1.out).1 HV1.out.size
                obtain ⟨p, hp⟩ : ∃ g, g = v1.heap.size := ⟨_, rfl⟩
                obtain ⟨v2, hv2⟩ : ∃ x, x = v1.alloc (.cells #[.int .i64 xs, .int .i64 xi, .int .i64 xr, .slice ba bn bc, .int .i64 xc, .int .i64 0, .int .i64 xn] 28) := ⟨_, rfl⟩
                clear HV1 hal
                go_upto_region 10 with fail
                rw [← hv2, ← hp] at HP
                rw [← hv2] at HV2 HTO
                rw [← hp] at HPLT
                rw [← hv2, ← hp]
                clear hp hv2
                have HLN : Hid (bn ≤ 1000 ∧ (∀ x ∈ us2, x.l.length ≤ 1000) ∧ isA ⟨xs, xi, xr, plain us2, xc, 0, xn⟩) := by
                  refine ⟨?_, (small_row (by rw [HPU.out]; exact isA_small HI.out.1)).1, ?_⟩
                  · have h1 := congrArg List.length HPU.out
                    rw [plain_length, plain_length] at h1
                    have h2 := HT.out.len
                    have h3 := HI.out.2
                    have h4 := HBN.out
                    omega
                  · rw [HPU.out, ← HXP.out]
                    exact HXA.out
                have HT2 : Hid (TR v2 (.slice ba bn bc) bn us2) := by
                  have h := HTO.out.tr
                  rw [← HBN.out] at h
                  exact h
                have RI := Lib.hid (ris_any xs xi xr ba bn bc us2 xc 0 xn v2 HT2.out HLN.out.1 (fun x hx => by have := HLN.out.2.1 x hx; omega))
                rw [decide_eq_true HLN.out.2.2] at RI
                obtain ⟨y0, y1, y2, y3, y4, y5, y6⟩ := cells7 HP.out
                go_wp2_with fail
                refine RI.out.mono ?_
                rintro e v3 ⟨rfl, hb⟩
                have HV3 := Lib.hid (Gr.trans HV2.out hb)
                have HP := Lib.hid (heap_below HP.out hb)
                have HTO := Lib.hid (HTO.out.below hb)
                have HX3 := Lib.hid (heap_below HX1.out HV3.out)
                clear hb RI HT2 HV2 y0 y1 y2 y3 y4 y5 y6
                obtain ⟨y0, y1, y2, y3, y4, y5, y6⟩ := cells7 HP.out
                obtain ⟨j0, j1, j2, j3, j4, j5, j6⟩ := cells7 HX3.out
                go_wp2_with (refine wpList_store_whole rfl 28 (.tmp 3) (.tmp 80) rfl (W.heap.size + 1) [.int .i64 xs, .int .i64 xi, .int .i64 xr, .slice ba bn bc, .int .i64 xc, .int .i64 0, .int .i64 xn] rfl rfl 28 _ HX3.out sizeAuto rfl (autoC_one (a := ⟨xs, xi, xr, [], xc, 0, xn⟩) rfl) ?_)
                intro v4 g4 o4
                have H4 := Lib.hid g4
                have HB4 : Hid (Below W.heap.size W v4) := o4.below _ _ (Nat.le_add_right _ _) (HB.out.trans (Below.mono HV3.out HB.out.size))
                have HT4 : Hid (TR v4 (.slice ba bn bc) bn us2) := by
                  have h := (TO.off HTO.out HX3.out (by decide) (by decide) o4).tr
                  rw [← HBN.out] at h
                  exact h
                have HC4 : Hid (v4.heap[W.heap.size]? = wk.heap[W.heap.size]?) := by
                  exact (o4.heap _ (Array.getElem?_eq_some_iff.1 (heap_below HCC.out HV3.out)).1 (by omega)).trans ((heap_below HCC.out HV3.out).trans X0.out.symm)
                have hkk : ((k + 1 : Nat) : Int) ≤ ct1 + 1 := by omega
                clear g4 o4 y0 y1 y2 y3 y4 y5 y6 j0 j1 j2 j3 j4 j5 j6
                go_wp2_with fail
                go_roundw
                case rel =>
                  first
                    | exact ⟨k + 1, _, _, _, _, _, _, us2, _, _, _, by go_num, hkk, H4, HT4, ⟨HLN.out.2.2, HLN.out.1⟩, HNEXT, HB4, HC4⟩
                    | ((repeat apply Exists.intro); exact ⟨⟨k + 1, _, _, _, _, _, _, us2, _, _, _, by go_num, hkk, H4, HT4, ⟨HLN.out.2.2, HLN.out.1⟩, HNEXT, HB4, HC4⟩, rfl⟩)
                case measure => simp [intOf]; omega
          · have ht : tm = 0 := by
              by_cases h : tm = 0
              · exact h
              · have := HK.out.1 h
                have := HI.out.1.2.2.2.2.1.1
                have h9 : 0 ≤ ct := this
                omega
            subst ht
            have HTF : Hid (Fs.timed s = false) := by
              have h := timer_timed HI.out.1
              exact Bool.eq_false_iff.2 (fun hh => absurd rfl (h.2 hh))
            have RT := Lib.hid (Fs.rTimed_any s wr)
            rw [HTF.out] at RT
            go_wp2_with fail
            refine RT.out.mono ?_
            rintro e w20 ⟨rfl, rfl⟩
            go_wp2_with fail
            refine (AW.out _).mono ?_
            rintro e w21 ⟨rfl, hb⟩
            have HZ := Lib.hid (HB.out.trans (hb.mono HB.out.size))
            clear hb
            go_wp2_with fail
            go_ret
            exact ⟨rfl, HZ.out⟩
    · rw [decide_eq_false hA] at RI2
      clear hA
      go_wp2_with fail
      refine RI2.out.mono ?_
      rintro e wk ⟨rfl, hb⟩
      have HG := Lib.hid (HG.out.trans (Below.mono hb HG.out.size))
      clear hb RI2 j0 j1 j2 j3 j4 j5 j6
      go_wp2_with fail
      refine (AW.out _).mono ?_
      rintro e w21 ⟨rfl, hb⟩
      have HZ := Lib.hid (HG.out.trans (hb.mono HG.out.size))
      clear hb
      go_wp2_with fail
      go_ret
      exact ⟨rfl, HZ.out⟩
  · rw [decide_eq_false hC] at RC
    clear hC
    go_wp2_with fail
    refine RC.out.mono ?_
    rintro e w8 ⟨rfl, hb⟩
    have HG := Lib.hid (HB5.out.trans (Below.mono hb HB5.out.size))
    clear hb RC RI i0 i1 i2 i3 i4 j0 j1 j2 j3 j4 j5 j6
    go_wp2_with fail
    refine (AW.out _).mono ?_
    rintro e w21 ⟨rfl, hb⟩
    have HZ := Lib.hid (HG.out.trans (hb.mono HG.out.size))
    clear hb
    go_wp2_with fail
    go_ret
    exact ⟨rfl, HZ.out⟩
theorem own : ownKnob Try.prog.godebug = none := by kernel_rfl
theorem laidOut : laidOutB Try.prog = true := by kernel_rfl
set_option maxRecDepth 100000 in
theorem lifted (os : Os) (started : os.Started) (H : Type) (enc : TypeId × Value → H) :
    ReturnsInHanded {} Try.checked os 4 .any (Rows.autoEndsSpec.pre6 enc Try.prog Try.f4 Rows.autoEndsRow.domain false) (Rows.autoEndsSpec.post enc Try.prog Try.f4 false true false false) := by
  refine returnsInHanded_of_change (C := Try.checked) own started (by kernel_rfl) Try.func4
    (ChangeSpec.witness6 (enc := enc) (C := Try.checked) false ⟨#[], #[.agg #[.slice none 0 0, .int .i64 0, .int .i64 0, .int .i64 0, .int .i64 0], .agg #[.int .i64 0, .int .i64 0, .int .i64 0, .slice none 0 0, .int .i64 0, .int .i64 0, .int .i64 0]], []⟩ 8 (by kernel_rfl) (by kernel_rfl) (by kernel_rfl) (by kernel_rfl)) ?_
  intro W base args ds gs before hval0 hW hcnd _
  have hval : ∀ (j : Nat) t v, Try.f4.params[j]? = some t → args[j]? = some v → Value.okWide Try.prog W .any base t v := hval0
  have hW' := hW
  obtain ⟨p, q, hA0, hV, rfl, hfz, hnd⟩ := hW
  have hA : DataW.TrodAll enc Try.prog W 0 (fun _ => true) true Try.f4.params.toList args.toList ds p := hA0
  rw [Try.params4] at hA hval
  obtain ⟨v0, vs0, d0, ds0, p0, q0, hargs, rfl, rfl, h0, r0⟩ := trodAll_cons hA
  obtain ⟨v1, vs1, d1, ds1, p1, q1, rfl, rfl, rfl, h1, r1⟩ := trodAll_cons r0
  obtain ⟨rfl, rfl, rfl⟩ := trodAll_nil r1
  obtain rfl : args = #[v0, v1] := by cases args; simp_all
  obtain ⟨rfl, rfl⟩ := trodVars_none hV
  have k0 := h0
  have lt0 : ∀ x ∈ p0, x.block < W.heap.size := by obtain ⟨m, hm⟩ := k0; exact DataW.trod_lt m _ _ _ hm
  obtain ⟨a0, n0, c0, rs0, ka0, kb0, kc0, kd0, rfl, b0⟩ := Au.open_aconf Try.underlying24 ⟨rfl, rfl, rfl, rfl, rfl⟩ Try.underlying22 Try.underlying68 ⟨rfl, rfl, rfl, rfl, rfl, rfl, rfl⟩ Try.underlying3 Try.underlying3 Try.underlying66 Try.underlying3 Try.underlying3 Try.underlying3 Try.underlying4 ⟨by kernel_rfl, by kernel_rfl, by kernel_rfl, by kernel_rfl, by kernel_rfl, by kernel_rfl, by kernel_rfl, by kernel_rfl⟩ Try.underlying3 Try.underlying3 Try.underlying3 Try.underlying3 ⟨by kernel_rfl, by kernel_rfl, by kernel_rfl, by kernel_rfl, by kernel_rfl, by kernel_rfl⟩ (hval 0 24 v0 rfl rfl) h0
  have k1 := h1
  have lt1 : ∀ x ∈ p1, x.block < W.heap.size := by obtain ⟨m, hm⟩ := k1; exact DataW.trod_lt m _ _ _ hm
  obtain ⟨st1, id1, rq1, a1, n1, c1, ts1, ct1, tm1, nk1, rfl, b1⟩ := Au.open_auto Try.underlying28 ⟨rfl, rfl, rfl, rfl, rfl, rfl, rfl⟩ Try.underlying26 Try.underlying52 ⟨rfl, rfl⟩ Try.underlying3 Try.underlying29 Try.underlying5 ⟨by kernel_rfl, by kernel_rfl, by kernel_rfl, by kernel_rfl⟩ Try.underlying25 Try.underlying3 Try.underlying3 Try.underlying3 Try.underlying3 Try.underlying3 ⟨by kernel_rfl, by kernel_rfl, by kernel_rfl, by kernel_rfl, by kernel_rfl, by kernel_rfl, by kernel_rfl, by kernel_rfl⟩ (hval 1 28 v1 rfl rfl) h1
  clear hA0 hval0
  refine (walk W a0 n0 c0 rs0 ka0 kb0 kc0 kd0 b0 st1 id1 rq1 a1 n1 c1 ts1 ct1 tm1 nk1 b1).mono fun e W' ⟨he, bel⟩ => ?_
  subst he
  exact ⟨_, rfl, _, _, _, [], _, [], hW', trodAll_mk1 (shut_bool Try.underlying4 _), (trodAll_cons_mk (Below.trod laidOut (by kernel_rfl) (of_decide_eq_true (by kernel_rfl)) k0 bel lt0) (trodAll_cons_mk (Below.trod laidOut (by kernel_rfl) (of_decide_eq_true (by kernel_rfl)) k1 bel lt1) trodAll_mk0)), rfl, bel.frame _, fun h => by cases h⟩
theorem over : Rows.autoEndsRow.holds Try.pinned (OpenSpec.ofChange Rows.autoEndsSpec) :=
  OpenClaim.holds_of_wide 4 Try.f4 rfl rfl rfl rfl rfl rfl rfl ⟨rfl, rfl, rfl, rfl, rfl⟩ rfl rfl rfl rfl rfl (by kernel_rfl) Try.func4 (by kernel_rfl)
    (of_decide_eq_true (by kernel_rfl)) (by unfold Func.isWrapper; first | (rw [if_pos (by decide +kernel)]; kernel_rfl) | (rw [if_neg (by decide +kernel)]; exact ⟨rfl, rfl⟩))
    (fun os started H enc _ => lifted os started H enc)
/-- The statement. -/
theorem proved : Rows.AutoEndsSaid := over
end Go.Proofs.Ytclplbapedmihaa.autoEnds
