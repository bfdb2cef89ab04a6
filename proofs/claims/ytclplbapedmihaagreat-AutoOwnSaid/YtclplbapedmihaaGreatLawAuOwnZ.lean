/-
  For every settings, automaton, packet, tick and byte (of the rules the first 20, of the options the first 70, each with the first 260 bytes, of the packet's data the first 1500 bytes) what auto.Packet was handed is as it was, also where all that went out is written over (conciergelaw16.AutoOwn answers true). No conditions.
-/
import Derived.Test.YtclplbapedmihaaGreatZAuC
import Derived.Test.YtclplbapedmihaaGreatZAuD
import Derived.Test.YtclplbapedmihaaGreatZAuE
import Derived.Test.YtclplbapedmihaaGreatZNgB
import Derived.Test.YtclplbapedmihaaGreatZFs
import Derived.Test.YtclplbapedmihaaGreatZOp
import Derived.Test.YtclplbapedmihaaGreatZCp
import Derived.ProofKit
import Derived.OpenShut
import Derived.ChangeOld
namespace Go.Proofs.YtclplbapedmihaaGreat.autoOwn
set_option maxRecDepth 4000
open Go.ChangeShapes Go.WideShapes Go.ChangeAt Go.RowKit O Ng Au
set_option linter.unusedVariables false
set_option linter.unusedSimpArgs false
theorem kept_row {wk wr : World} {p base n : Nat} {v : Value} {xs : List Value} (h : wk.ownsRow base 69 2 v n xs) {cs : Array Value} {fr : Nat × Nat} (hp : wk.heap[p]? = some (.cells cs 28 fr)) (hk : ∀ b, b < wk.heap.size → b ≠ p → wr.heap[b]? = wk.heap[b]?) : wr.ownsRow base 69 2 v n xs := by
  refine ⟨h.1, ?_⟩
  rcases h.2 with h' | ⟨k, cap, cur, h1, h2, h3, h4⟩
  · exact .inl h'
  · refine .inr ⟨k, cap, cur, h1, h2, ?_, h4⟩
    rw [hk k (Array.getElem?_eq_some_iff.1 h3).1 (fun e1 => own_ne_cell h hp (by decide) (by rw [h1, e1]; rfl))]
    exact h3
set_option maxRecDepth 20000 in
set_option maxHeartbeats 8000000 in
theorem walk (W : World) (a0 : Option Addr) (n0 c0 : Nat) (rs0 : List Ru) (ka0 kb0 kc0 kd0 : Int) (b0 : RR W (.slice a0 n0 c0) n0 rs0) (st1 id1 rq1 : Int) (a1 : Option Addr) (n1 c1 : Nat) (ts1 : List Tg) (ct1 tm1 nk1 : Int) (b1 : TR W (.slice a1 n1 c1) n1 ts1) (C2 S2 : Int) (a2 : Option Addr) (n2 c2 : Nat) (l2 : List UInt8) (hn2 : l2.length = n2) (b2 : Bs W (.slice a2 n2 c2) l2) (a3 : Int) (w3 : (Lit.int .i64 a3).wf = true) (x4 : Int) (w4 : (Lit.int .u8 x4).wf = true) :
    Calls Tryz.prog 9 #[.agg #[.slice a0 n0 c0, .int .i64 ka0, .int .i64 kb0, .int .i64 kc0, .int .i64 kd0], .agg #[.int .i64 st1, .int .i64 id1, .int .i64 rq1, .slice a1 n1 c1, .int .i64 ct1, .int .i64 tm1, .int .i64 nk1], .agg #[.int .i64 C2, .int .i64 S2, .slice a2 n2 c2], .int .i64 a3, .int .u8 x4] W fun e w' => e = .returned (.bool true) ∧ Below W.heap.size W w' := by
  have BA : Gr W (((W.alloc (.cells #[.slice a0 n0 c0, .int .i64 ka0, .int .i64 kb0, .int .i64 kc0, .int .i64 kd0] 24)).alloc (.cells #[.int .i64 st1, .int .i64 id1, .int .i64 rq1, .slice a1 n1 c1, .int .i64 ct1, .int .i64 tm1, .int .i64 nk1] 28)).alloc (.cells #[.int .i64 C2, .int .i64 S2, .slice a2 n2 c2] 32)) := (((Gr.refl W).alloc _).alloc _).alloc _
  obtain ⟨g0, g1, g2⟩ := heap3 W (.cells #[.slice a0 n0 c0, .int .i64 ka0, .int .i64 kb0, .int .i64 kc0, .int .i64 kd0] 24) (.cells #[.int .i64 st1, .int .i64 id1, .int .i64 rq1, .slice a1 n1 c1, .int .i64 ct1, .int .i64 tm1, .int .i64 nk1] 28) (.cells #[.int .i64 C2, .int .i64 S2, .slice a2 n2 c2] 32)
  obtain ⟨i0, i1, i2, i3, i4⟩ := cells5 g0
  obtain ⟨j0, j1, j2, j3, j4, j5, j6⟩ := cells7 g1
  obtain ⟨q0, q1, q2⟩ := cells3 g2
  have HBA := Lib.hid BA
  have G0 := Lib.hid g0
  have G1 := Lib.hid g1
  have G2 := Lib.hid g2
  have LT := Lib.hid (light_any a0 n0 c0 rs0 ka0 kb0 kc0 kd0 st1 id1 rq1 a1 n1 c1 ts1 ct1 tm1 nk1 C2 S2 a2 n2 c2 l2 W (((W.alloc (.cells #[.slice a0 n0 c0, .int .i64 ka0, .int .i64 kb0, .int .i64 kc0, .int .i64 kd0] 24)).alloc (.cells #[.int .i64 st1, .int .i64 id1, .int .i64 rq1, .slice a1 n1 c1, .int .i64 ct1, .int .i64 tm1, .int .i64 nk1] 28)).alloc (.cells #[.int .i64 C2, .int .i64 S2, .slice a2 n2 c2] 32)) b0 b1 b2 hn2 BA)
  obtain ⟨X, rfl⟩ := u8_of_wf w4
  have AW := Lib.hid awake_any
  clear w4 BA g0 g1 g2 b0 b1 b2 hn2 w3
  go_enter Tryz.func9, Tryz.ntmps9
  go_wp2_with fail
  refine LT.out.mono ?_
  rintro e w1 ⟨ra, rn, rc, rs, ao, n, c, ts, qa, qn, qk, ql, rfl, hrr, ⟨hown, hvs⟩, hn, hm, hq, hqn, hb1⟩
  have HRR := Lib.hid hrr
  have HOWN := Lib.hid (ownsRow_mono hown HBA.out.size)
  have HVS := Lib.hid hvs
  have HNM := Lib.hid (And.intro hn hm)
  have HQ := Lib.hid (And.intro hq hqn)
  have HB1 : Hid (Gr W w1) := Gr.trans HBA.out hb1
  have K0 := Lib.hid (heap_below G0.out hb1)
  have K1 := Lib.hid (heap_below G1.out hb1)
  have K2 := Lib.hid (heap_below G2.out hb1)
  clear hrr hown hvs hn hm hq hqn hb1 G0 G1 G2 HBA LT i0 i1 i2 i3 i4 j0 j1 j2 j3 j4 j5 j6 q0 q1 q2
  go_wp2_with (refine wpList_store_whole rfl 24 (.tmp 5) (.tmp 25) rfl W.heap.size [.slice ra rn rc, .int .i64 ka0, .int .i64 kb0, .int .i64 kc0, .int .i64 kd0] rfl rfl 24 _ K0.out sizeConf rfl (fun v hv => by simp only [List.mem_cons, List.not_mem_nil, or_false] at hv; rcases hv with rfl | rfl | rfl | rfl | rfl <;> rfl) ?_)
  intro w2 e2 o2
  have M0 := Lib.hid e2
  have M1 := Lib.hid (only_heap K1.out o2 (by omega))
  have M2 := Lib.hid (only_heap K2.out o2 (by omega))
  have HB2 : Hid (Below W.heap.size W w2) := o2.below _ _ (Nat.le_refl _) HB1.out
  have HO2 := Lib.hid (own_off HOWN.out K0.out (show 69 ≠ 24 by decide) o2)
  clear e2 o2 K0 K1 K2 HB1 HOWN
  go_wp2_with (refine wpList_store_whole rfl 28 (.tmp 6) (.tmp 26) rfl (W.heap.size + 1) [.int .i64 st1, .int .i64 id1, .int .i64 rq1, .slice ao n c, .int .i64 ct1, .int .i64 tm1, .int .i64 nk1] rfl rfl 28 _ M1.out sizeAuto rfl (autoC_one (a := ⟨st1, id1, rq1, [], ct1, tm1, nk1⟩) rfl) ?_)
  intro w4 e4 o4
  have N0 := Lib.hid (only_heap M0.out o4 (by omega))
  have N1 := Lib.hid e4
  have N2 := Lib.hid (only_heap M2.out o4 (by omega))
  have HB4 : Hid (Below W.heap.size W w4) := o4.below _ _ (Nat.le_add_right _ _) HB2.out
  have HO4 := Lib.hid (own_off HO2.out M1.out (show 69 ≠ 28 by decide) o4)
  clear e4 o4 M0 M1 M2 HB2 HO2
  go_wp2_with (refine wpList_store_whole rfl 32 (.tmp 7) (.tmp 27) rfl (W.heap.size + 2) [.int .i64 C2, .int .i64 S2, .slice qa qn qk] rfl rfl 32 _ N2.out sizeC rfl (one_ctl _ _ rfl) ?_)
  intro w7 e5 o5
  have U0 := Lib.hid (only_heap N0.out o5 (by omega))
  have U1 := Lib.hid (only_heap N1.out o5 (by omega))
  have U2 := Lib.hid e5
  have HB7 : Hid (Below W.heap.size W w7) := o5.below _ _ (Nat.le_add_right _ _) HB4.out
  have HO5 := Lib.hid (own_off HO4.out N2.out (show 69 ≠ 32 by decide) o5)
  have HT7 : Hid (TR w7 (.slice ao n c) n ts) := ⟨own_rd HO5.out, fun x hx => (HVS.out x hx).below HB7.out⟩
  clear e5 o5 N0 N1 N2 HB4 HO4
  have HLT : Hid (W.heap.size + 2 < w7.heap.size) := (Array.getElem?_eq_some_iff.1 U2.out).1
  have hal : Gr w7 (w7.alloc (.cells #[.int .i64 st1, .int .i64 id1, .int .i64 rq1, .slice none 0 0, .int .i64 ct1, .int .i64 tm1, .int .i64 nk1] 28)) := (Gr.refl _).alloc _
  have HB8 : Hid (Below W.heap.size W (w7.alloc (.cells #[.int .i64 st1, .int .i64 id1, .int .i64 rq1, .slice none 0 0, .int .i64 ct1, .int .i64 tm1, .int .i64 nk1] 28))) := HB7.out.trans (Below.mono hal HB7.out.size)
  have HP8 : Hid ((w7.alloc (.cells #[.int .i64 st1, .int .i64 id1, .int .i64 rq1, .slice none 0 0, .int .i64 ct1, .int .i64 tm1, .int .i64 nk1] 28)).heap[w7.heap.size]? = some (.cells #[.int .i64 st1, .int .i64 id1, .int .i64 rq1, .slice none 0 0, .int .i64 ct1, .int .i64 tm1, .int .i64 nk1] 28 (0, 0))) := heap_alloc_last _ _
  have V0 := Lib.hid (heap_below U0.out hal)
  have V1 := Lib.hid (heap_below U1.out hal)
  have V2 := Lib.hid (heap_below U2.out hal)
  have HO8 := Lib.hid (ownsRow_below HO5.out hal)
  obtain ⟨j0, j1, j2, j3, j4, j5, j6⟩ := cells7 U1.out
  obtain ⟨p, hp⟩ : ∃ g, g = w7.heap.size := ⟨_, rfl⟩
  obtain ⟨wk, hwk⟩ : ∃ x, x = w7.alloc (.cells #[.int .i64 st1, .int .i64 id1, .int .i64 rq1, .slice none 0 0, .int .i64 ct1, .int .i64 tm1, .int .i64 nk1] 28) := ⟨_, rfl⟩
  have HN := Lib.hid HT7.out.len
  clear U0 U1 U2 HO5 HT7 hal HB7
  go_upto_region 3 with fail
  rw [← hwk, ← hp] at HP8
  rw [← hwk] at HB8 V0 V1 V2 HO8
  rw [← hp] at HLT
  rw [← hwk, ← hp]
  clear hp hwk j0 j1 j2 j3 j4 j5 j6
  have HPK : Hid (p < wk.heap.size ∧ W.heap.size ≤ wk.heap.size) := ⟨(Array.getElem?_eq_some_iff.1 HP8.out).1, HB8.out.size⟩
  obtain ⟨i0, hi, hz0, hz1, hz2⟩ := info_parts infoT
  obtain ⟨i5, hi5, hy0, hy1, hy2⟩ := info_parts info5
  go_upto_region 4 with fail
  go_loopw [12] (fun iv wr => ∃ (k : Nat) (us : List Tg) (lv : Value), k ≤ n ∧ iv = .int .i64 (k : Int) ∧ Hid (wr.heap[p]? = some (.cells #[.int .i64 st1, .int .i64 id1, .int .i64 rq1, lv, .int .i64 ct1, .int .i64 tm1, .int .i64 nk1] 28 (0, 0))) ∧ Hid (TO wr wk.heap.size lv us) ∧ Hid (plain us = (plain ts).take k) ∧ Hid (Below W.heap.size W wr) ∧ Hid (wk.heap.size ≤ wr.heap.size ∧ ∀ b, b < wk.heap.size → b ≠ p → wr.heap[b]? = wk.heap[b]?)) (fun iv _ => n - (intOf iv).toNat)
  case atStart => exact ⟨0, [], _, Nat.zero_le _, rfl, HP8, (TO.nil _ _), rfl, HB8, Nat.le_refl _, fun _ _ _ => rfl⟩
  case round =>
    obtain ⟨k, us, lv, hk, rfl, HP, HTO, HUS, HB, HKP⟩ := hrel
    have HTR : Hid (TR wr (.slice ao n c) n ts) := ⟨own_rd (kept_row HO8.out HP8.out HKP.out.2), fun x hx => (HVS.out x hx).below HB.out⟩
    have X1 : Hid (wr.heap[W.heap.size + 1]? = _) := (HKP.out.2 _ (by have := HPK.out; have := HLT.out; omega) (by have := HLT.out; omega)).trans V1.out
    obtain ⟨j0, j1, j2, j3, j4, j5, j6⟩ := cells7 X1.out
    have hnm : n ≤ 1000 := HNM.out.1
    by_cases hlt : k < n
    · obtain ⟨b, o, rfl, hbl, hc⟩ := HTR.out.cells (by omega)
      have k1 : k < ts.length := by have := HN.out; omega
      obtain ⟨hc0, hc1⟩ := hc k k1
      have HV := Lib.hid (HTR.out.val k k1)
      obtain ⟨A, L, C, hv, hL, hLC, hCm⟩ := HV.out.sl
      rw [hv] at hc1
      obtain ⟨T, hT⟩ : ∃ T, T = ts[k].typ := ⟨_, rfl⟩
      rw [← hT] at hc0
      obtain ⟨l, hlq⟩ : ∃ l, l = ts[k].l := ⟨_, rfl⟩
      have HBS : Hid (Bs wr (.slice A L C) l) := by show Bs _ _ _; rw [hlq, ← hv]; exact HV.out
      have hll : l.length = L := by rw [hlq]; exact hL
      have hL1 : L ≤ 1000 := by rw [← hll, hlq]; exact HNM.out.2 _ (List.getElem_mem _)
      have HNEXT : Hid ((plain ts).take (k + 1) = (plain ts).take k ++ [(T, l)]) := by
        show _ = _
        rw [List.take_succ_eq_append_getElem (by rw [plain_length]; omega), plain_get _ _ (by omega), hT, hlq]
      have HC0 := Lib.hid hc0
      have HC1 := Lib.hid hc1
      have hul : us.length = k := by rw [← plain_length, HUS.out, List.length_take, plain_length]; omega
      have HUL := Lib.hid hul
      have HTO2 : Hid (wr.ownsRow wk.heap.size 69 2 lv k (flat us)) := by have := HTO.out.own; rwa [hul] at this
      have hkn2 : (k : Int) < (n : Int) := by omega
      have HLL := Lib.hid hll
      have HBN := Lib.hid (And.intro HB.out.size HKP.out.1)
      have HHB := Lib.hid (And.intro hbl (And.intro (Array.getElem?_eq_some_iff.1 X1.out).1 (Array.getElem?_eq_some_iff.1 HP.out).1))
      obtain ⟨y0, y1, y2, y3, y4, y5, y6⟩ := cells7 HP.out
      have HJ3 := Lib.hid j3
      have HY3 := Lib.hid y3
      unfold maxLen at hCm
      clear hv hL hT hc hc0 hc1 hlq hul hll hbl y0 y1 y2 y3 y4 y5 y6
      go_upto_region 6 with fail
      clear j0 j1 j2 j3 j4 j5 j6
      refine wp_region_G 18 (Below (wr.heap.size)) (by kernel_rfl) ?_
      -- 0: slot 48
      refine wpG_take (preBelow (wr.heap.size)) (i := 0) (v := ?_) (by kernel_rfl) (some 48) (by kernel_rfl) rfl (by kernel_rfl) (by kernel_rfl) (by kernel_rfl) (fun _ _ _ h => h) (by rfl) (fun w' hw' => ?_) rfl ?_
      rotate_left
      · try have g0 := cellB ((Below.refl _ wr).drew.trans hw') HHB.out.1 HC0.out
        try have g1 := cellB ((Below.refl _ wr).drew.trans hw') HHB.out.1 HC1.out
        try have g2 := cellB ((Below.refl _ wr).drew.trans hw') HHB.out.2.1 HJ3.out
        try have g3 := cellB ((Below.refl _ wr).drew.trans hw') HHB.out.2.2 HY3.out
        go_simp
        with_reducible rfl
      simp only [Act.put, List.setIfInBounds_toArray, List.set_cons_zero, List.set_cons_succ]
      -- 1: slot 49
      refine wpG_take (preBelow (wr.heap.size)) (i := 1) (v := ?_) (by kernel_rfl) (some 49) (by kernel_rfl) rfl (by kernel_rfl) (by kernel_rfl) (by kernel_rfl) (fun _ _ _ h => h) (by rfl) (fun w' hw' => ?_) rfl ?_
      rotate_left
      · try have g0 := cellB ((Below.refl _ wr).drew.trans hw') HHB.out.1 HC0.out
        try have g1 := cellB ((Below.refl _ wr).drew.trans hw') HHB.out.1 HC1.out
        try have g2 := cellB ((Below.refl _ wr).drew.trans hw') HHB.out.2.1 HJ3.out
        try have g3 := cellB ((Below.refl _ wr).drew.trans hw') HHB.out.2.2 HY3.out
        go_simp
        with_reducible rfl
      simp only [Act.put, List.setIfInBounds_toArray, List.set_cons_zero, List.set_cons_succ]
      -- 2: slot 50
      refine wpG_take (preBelow (wr.heap.size)) (i := 2) (v := ?_) (by kernel_rfl) (some 50) (by kernel_rfl) rfl (by kernel_rfl) (by kernel_rfl) (by kernel_rfl) (fun _ _ _ h => h) (by rfl) (fun w' hw' => ?_) rfl ?_
      rotate_left
      · try have g0 := cellB ((Below.refl _ wr).drew.trans hw') HHB.out.1 HC0.out
        try have g1 := cellB ((Below.refl _ wr).drew.trans hw') HHB.out.1 HC1.out
        try have g2 := cellB ((Below.refl _ wr).drew.trans hw') HHB.out.2.1 HJ3.out
        try have g3 := cellB ((Below.refl _ wr).drew.trans hw') HHB.out.2.2 HY3.out
        go_simp
        with_reducible rfl
      simp only [Act.put, List.setIfInBounds_toArray, List.set_cons_zero, List.set_cons_succ]
      -- 3: slot 51
      refine wpG_take (preBelow (wr.heap.size)) (i := 3) (v := ?_) (by kernel_rfl) (some 51) (by kernel_rfl) rfl (by kernel_rfl) (by kernel_rfl) (by kernel_rfl) (fun _ _ _ h => h) (by rfl) (fun w' hw' => ?_) rfl ?_
      rotate_left
      · try have g0 := cellB ((Below.refl _ wr).drew.trans hw') HHB.out.1 HC0.out
        try have g1 := cellB ((Below.refl _ wr).drew.trans hw') HHB.out.1 HC1.out
        try have g2 := cellB ((Below.refl _ wr).drew.trans hw') HHB.out.2.1 HJ3.out
        try have g3 := cellB ((Below.refl _ wr).drew.trans hw') HHB.out.2.2 HY3.out
        go_simp
        with_reducible rfl
      simp only [Act.put, List.setIfInBounds_toArray, List.set_cons_zero, List.set_cons_succ]
      -- 4: slot 52
      refine wpG_take (preBelow (wr.heap.size)) (i := 4) (v := ?_) (by kernel_rfl) (some 52) (by kernel_rfl) rfl (by kernel_rfl) (by kernel_rfl) (by kernel_rfl) (fun _ _ _ h => h) (by rfl) (fun w' hw' => ?_) rfl ?_
      rotate_left
      · try have g0 := cellB ((Below.refl _ wr).drew.trans hw') HHB.out.1 HC0.out
        try have g1 := cellB ((Below.refl _ wr).drew.trans hw') HHB.out.1 HC1.out
        try have g2 := cellB ((Below.refl _ wr).drew.trans hw') HHB.out.2.1 HJ3.out
        try have g3 := cellB ((Below.refl _ wr).drew.trans hw') HHB.out.2.2 HY3.out
        go_simp
        with_reducible rfl
      simp only [Act.put, List.setIfInBounds_toArray, List.set_cons_zero, List.set_cons_succ]
      -- 5: slot 53
      refine wpG_take (preBelow (wr.heap.size)) (i := 5) (v := ?_) (by kernel_rfl) (some 53) (by kernel_rfl) rfl (by kernel_rfl) (by kernel_rfl) (by kernel_rfl) (fun _ _ _ h => h) (by rfl) (fun w' hw' => ?_) rfl ?_
      rotate_left
      · try have g0 := cellB ((Below.refl _ wr).drew.trans hw') HHB.out.1 HC0.out
        try have g1 := cellB ((Below.refl _ wr).drew.trans hw') HHB.out.1 HC1.out
        try have g2 := cellB ((Below.refl _ wr).drew.trans hw') HHB.out.2.1 HJ3.out
        try have g3 := cellB ((Below.refl _ wr).drew.trans hw') HHB.out.2.2 HY3.out
        go_simp
        with_reducible rfl
      simp only [Act.put, List.setIfInBounds_toArray, List.set_cons_zero, List.set_cons_succ]
      -- 6: slot 54
      refine wpG_take (preBelow (wr.heap.size)) (i := 6) (v := ?_) (by kernel_rfl) (some 54) (by kernel_rfl) rfl (by kernel_rfl) (by kernel_rfl) (by kernel_rfl) (fun _ _ _ h => h) (by rfl) (fun w' hw' => ?_) rfl ?_
      rotate_left
      · try have g0 := cellB ((Below.refl _ wr).drew.trans hw') HHB.out.1 HC0.out
        try have g1 := cellB ((Below.refl _ wr).drew.trans hw') HHB.out.1 HC1.out
        try have g2 := cellB ((Below.refl _ wr).drew.trans hw') HHB.out.2.1 HJ3.out
        try have g3 := cellB ((Below.refl _ wr).drew.trans hw') HHB.out.2.2 HY3.out
        go_simp
        with_reducible rfl
      simp only [Act.put, List.setIfInBounds_toArray, List.set_cons_zero, List.set_cons_succ]
      -- 7: slot 55
      refine wpG_take (preBelow (wr.heap.size)) (i := 7) (v := ?_) (by kernel_rfl) (some 55) (by kernel_rfl) rfl (by kernel_rfl) (by kernel_rfl) (by kernel_rfl) (fun _ _ _ h => h) (by rfl) (fun w' hw' => ?_) rfl ?_
      rotate_left
      · try have g0 := cellB ((Below.refl _ wr).drew.trans hw') HHB.out.1 HC0.out
        try have g1 := cellB ((Below.refl _ wr).drew.trans hw') HHB.out.1 HC1.out
        try have g2 := cellB ((Below.refl _ wr).drew.trans hw') HHB.out.2.1 HJ3.out
        try have g3 := cellB ((Below.refl _ wr).drew.trans hw') HHB.out.2.2 HY3.out
        go_simp
        with_reducible rfl
      simp only [Act.put, List.setIfInBounds_toArray, List.set_cons_zero, List.set_cons_succ]
      -- 9: slot 57
      refine wpG_take (preBelow (wr.heap.size)) (i := 9) (v := ?_) (by kernel_rfl) (some 57) (by kernel_rfl) rfl (by kernel_rfl) (by kernel_rfl) (by kernel_rfl) (fun _ _ _ h => h) (by rfl) (fun w' hw' => ?_) rfl ?_
      rotate_left
      · try have g0 := cellB ((Below.refl _ wr).drew.trans hw') HHB.out.1 HC0.out
        try have g1 := cellB ((Below.refl _ wr).drew.trans hw') HHB.out.1 HC1.out
        try have g2 := cellB ((Below.refl _ wr).drew.trans hw') HHB.out.2.1 HJ3.out
        try have g3 := cellB ((Below.refl _ wr).drew.trans hw') HHB.out.2.2 HY3.out
        go_simp
        with_reducible rfl
      simp only [Act.put, List.setIfInBounds_toArray, List.set_cons_zero, List.set_cons_succ]
      -- 10: slot 58
      refine wpG_take (preBelow (wr.heap.size)) (i := 10) (v := ?_) (by kernel_rfl) (some 58) (by kernel_rfl) rfl (by kernel_rfl) (by kernel_rfl) (by kernel_rfl) (fun _ _ _ h => h) (by rfl) (fun w' hw' => ?_) rfl ?_
      rotate_left
      · try have g0 := cellB ((Below.refl _ wr).drew.trans hw') HHB.out.1 HC0.out
        try have g1 := cellB ((Below.refl _ wr).drew.trans hw') HHB.out.1 HC1.out
        try have g2 := cellB ((Below.refl _ wr).drew.trans hw') HHB.out.2.1 HJ3.out
        try have g3 := cellB ((Below.refl _ wr).drew.trans hw') HHB.out.2.2 HY3.out
        go_simp
        with_reducible rfl
      simp only [Act.put, List.setIfInBounds_toArray, List.set_cons_zero, List.set_cons_succ]
      -- 11: slot 59
      refine wpG_take (preBelow (wr.heap.size)) (i := 11) (v := ?_) (by kernel_rfl) (some 59) (by kernel_rfl) rfl (by kernel_rfl) (by kernel_rfl) (by kernel_rfl) (fun _ _ _ h => h) (by rfl) (fun w' hw' => ?_) rfl ?_
      rotate_left
      · try have g0 := cellB ((Below.refl _ wr).drew.trans hw') HHB.out.1 HC0.out
        try have g1 := cellB ((Below.refl _ wr).drew.trans hw') HHB.out.1 HC1.out
        try have g2 := cellB ((Below.refl _ wr).drew.trans hw') HHB.out.2.1 HJ3.out
        try have g3 := cellB ((Below.refl _ wr).drew.trans hw') HHB.out.2.2 HY3.out
        go_simp
        with_reducible rfl
      simp only [Act.put, List.setIfInBounds_toArray, List.set_cons_zero, List.set_cons_succ]
      -- 12: slot 60
      refine wpG_take (preBelow (wr.heap.size)) (i := 12) (v := ?_) (by kernel_rfl) (some 60) (by kernel_rfl) rfl (by kernel_rfl) (by kernel_rfl) (by kernel_rfl) (fun _ _ _ h => h) (by rfl) (fun w' hw' => ?_) rfl ?_
      rotate_left
      · try have g0 := cellB ((Below.refl _ wr).drew.trans hw') HHB.out.1 HC0.out
        try have g1 := cellB ((Below.refl _ wr).drew.trans hw') HHB.out.1 HC1.out
        try have g2 := cellB ((Below.refl _ wr).drew.trans hw') HHB.out.2.1 HJ3.out
        try have g3 := cellB ((Below.refl _ wr).drew.trans hw') HHB.out.2.2 HY3.out
        go_simp
        with_reducible rfl
      simp only [Act.put, List.setIfInBounds_toArray, List.set_cons_zero, List.set_cons_succ]
      -- 13: slot 61
      refine wpG_take (preBelow (wr.heap.size)) (i := 13) (v := ?_) (by kernel_rfl) (some 61) (by kernel_rfl) rfl (by kernel_rfl) (by kernel_rfl) (by kernel_rfl) (fun _ _ _ h => h) (by rfl) (fun w' hw' => ?_) rfl ?_
      rotate_left
      · try have g0 := cellB ((Below.refl _ wr).drew.trans hw') HHB.out.1 HC0.out
        try have g1 := cellB ((Below.refl _ wr).drew.trans hw') HHB.out.1 HC1.out
        try have g2 := cellB ((Below.refl _ wr).drew.trans hw') HHB.out.2.1 HJ3.out
        try have g3 := cellB ((Below.refl _ wr).drew.trans hw') HHB.out.2.2 HY3.out
        go_simp
        with_reducible rfl
      simp only [Act.put, List.setIfInBounds_toArray, List.set_cons_zero, List.set_cons_succ]
      -- 14: slot 62
      refine wpG_take (preBelow (wr.heap.size)) (i := 14) (v := ?_) (by kernel_rfl) (some 62) (by kernel_rfl) rfl (by kernel_rfl) (by kernel_rfl) (by kernel_rfl) (fun _ _ _ h => h) (by rfl) (fun w' hw' => ?_) rfl ?_
      rotate_left
      · try have g0 := cellB ((Below.refl _ wr).drew.trans hw') HHB.out.1 HC0.out
        try have g1 := cellB ((Below.refl _ wr).drew.trans hw') HHB.out.1 HC1.out
        try have g2 := cellB ((Below.refl _ wr).drew.trans hw') HHB.out.2.1 HJ3.out
        try have g3 := cellB ((Below.refl _ wr).drew.trans hw') HHB.out.2.2 HY3.out
        go_simp
        with_reducible rfl
      simp only [Act.put, List.setIfInBounds_toArray, List.set_cons_zero, List.set_cons_succ]
      refine wpG_one (i := 8) rfl (by kernel_rfl) (by rfl) ?_
      go_simp
      refine ⟨(Below.refl wr.heap.size wr.drew).alloc (show wr.heap.size ≤ wr.drew.heap.size from Nat.le_refl _) _, ?_⟩
      have HBD : Hid (Below wr.heap.size wr (wr.alloc (.cells #[] 5)).drew) := ((Below.refl _ wr).alloc (Nat.le_refl _) _).drew
      have HMADE : Hid ((wr.alloc (.cells #[] 5)).drew.ownsRow wr.heap.size 5 1 (.slice (some ⟨wr.heap.size, 0, none⟩) 0 0) 0 []) := (World.ownsRow_made _ _ _ (Nat.le_refl _) (Nat.zero_le _) rfl : (wr.alloc (.cells #[] 5)).ownsRow wr.heap.size 5 1 (.slice (some ⟨wr.heap.size, 0, none⟩) 0 0) 0 [])
      generalize (wr.alloc (.cells #[] 5)).drew = wm at HBD HMADE ⊢
      try simp only [Act.put, List.setIfInBounds_toArray, List.set_cons_zero, List.set_cons_succ]
      refine wpG_one (i := 15) rfl (by kernel_rfl) (by rfl) ?_
      refine wp_append_rd _ (some 63) (.tmp 56) (.tmp 62) 30 rfl wr.heap.size 5 i5 (.int .u8 0) 1 1 Tryz.underlying30 hi5 hy0 hy1 hy2 rfl (by decide) _ 0 [] rfl HMADE.out _ L (l.map u8v) rfl ?_ (oneCell_u8 l) (by omega) (by decide) HBD.out.size rfl ?_
      · have := HBS.out.below HBD.out
        unfold Bs at this
        rwa [HLL.out] at this
      intro v3 w3 ho3 hb3
      have HBD3 : Hid (Below wr.heap.size wr w3) := HBD.out.trans hb3
      have HO3 : Hid (OwnB w3 wr.heap.size 5 v3 l) := by
        show World.ownsRow _ _ _ _ _ _ _
        rw [HLL.out]
        simpa using ho3
      obtain ⟨A3, L3, C3, ev, hL3, _, _⟩ := HO3.out.bs.sl
      subst ev
      refine ⟨hb3, ?_⟩
      clear ho3 hb3 hL3 HBD HMADE
      try simp only [Act.put, List.setIfInBounds_toArray, List.set_cons_zero, List.set_cons_succ]
      -- 16: slot 64
      refine wpG_take (preBelow (wr.heap.size)) (i := 16) (v := ?_) (by kernel_rfl) (some 64) (by kernel_rfl) rfl (by kernel_rfl) (by kernel_rfl) (by kernel_rfl) (fun _ _ _ h => h) (by rfl) (fun w' hw' => ?_) rfl ?_
      rotate_left
      · refine Eq.trans (build_run (P := Tryz.prog) 69 [(0, .tmp 55), (1, .tmp 63)] ?_ #[.int .i64 T, .slice A3 L3 C3] ?_) ?_
        · rfl
        · exact builtT T A3 L3 C3
        · with_reducible rfl
      simp only [Act.put, List.setIfInBounds_toArray, List.set_cons_zero, List.set_cons_succ]
      refine wpG_one (i := 17) rfl (by kernel_rfl) (by rfl) ?_
      go_simp
      refine ⟨(Below.refl _ _).alloc HBD3.out.size _, ?_⟩
      have hal : Gr w3 (w3.alloc (.cells #[.int .i64 T, .slice A3 L3 C3] 69)) := (Gr.refl _).alloc _
      have HBD4 : Hid (Below wr.heap.size wr (w3.alloc (.cells #[.int .i64 T, .slice A3 L3 C3] 69))) := HBD3.out.alloc HBD3.out.size _
      have HB4 := Lib.hid (HB.out.trans (HBD4.out.mono HBN.out.1))
      have HROW4 := Lib.hid (ownsRow_below HTO2.out HBD4.out)
      have HVALS4 : Hid (∀ t ∈ us, OwnB (w3.alloc (.cells #[.int .i64 T, .slice A3 L3 C3] 69)) wk.heap.size 5 t.val t.l) := fun t ht => (HTO.out.vals t ht).below HBD4.out
      have HO4 := Lib.hid ((HO3.out.below hal).mono (base' := wk.heap.size) HBN.out.2)
      have HRD := Lib.hid (rd_new w3 [.int .i64 T, .slice A3 L3 C3] 69 1 2 rfl (by decide))
      have HSZ4 : Hid (wk.heap.size ≤ (w3.alloc (.cells #[.int .i64 T, .slice A3 L3 C3] 69)).heap.size) := Nat.le_trans HBN.out.2 HBD4.out.size
      clear hal
      try simp only [Act.put, List.setIfInBounds_toArray, List.set_cons_zero, List.set_cons_succ]
      refine wpG_tail (i := 18) (by decide) rfl (by kernel_rfl) (by rfl) ?_
      refine wp_append_gr _ (some 66) (.tmp 49) (.tmp 65) 26 rfl wk.heap.size 69 i0 _ 2 32 Tryz.underlying26 hi hz0 hz1 hz2 rfl (by decide) _ _ _ rfl HROW4.out _ 1 _ rfl HRD.out (one_tag T rfl) (by omega) (by decide) HSZ4.out rfl ?_
      intro v' wo ho' hg'
      have HTO5 : Hid (TO wo wk.heap.size v' (us ++ [⟨T, .slice A3 L3 C3, l⟩])) := TO.more (w := w3.alloc (.cells #[.int .i64 T, .slice A3 L3 C3] 69)) ⟨by rw [HUL.out]; exact HROW4.out, HVALS4.out⟩ HO4.out (by rw [HUL.out]; exact ho') hg'
      have hgb := grown_below HROW4.out HSZ4.out hg'
      have HB5 : Hid (Below W.heap.size W wo) := HB4.out.trans (hgb.mono HPK.out.2)
      have HK5 : Hid (wk.heap.size ≤ wo.heap.size ∧ ∀ b, b < wk.heap.size → wo.heap[b]? = wr.heap[b]?) := ⟨Nat.le_trans HSZ4.out hgb.size, fun b hb => (hgb.block b hb).trans (HBD4.out.block b (Nat.lt_of_lt_of_le hb HBN.out.2))⟩
      have HP5 : Hid (wo.heap[p]? = _) := (HK5.out.2 p HPK.out.1).trans HP.out
      have H1V : Hid (v'.oneCell' = true) := own_one ho'
      clear ho' hg' hgb
      try simp only [Act.put, List.setIfInBounds_toArray, List.set_cons_zero, List.set_cons_succ]
      refine wpG_tail (i := 19) (by decide) rfl (by kernel_rfl) (by rfl) ?_
      go_simp
      try simp only [Act.put, List.setIfInBounds_toArray, List.set_cons_zero, List.set_cons_succ]
      refine wpG_tail (i := 20) (by decide) rfl (by kernel_rfl) (by rfl) ?_
      refine wp_store_cell (none) 26 (.tmp 67) (.tmp 66) rfl p 3 v' rfl rfl 28 _ HP5.out sizeOs2 (by simp) H1V.out rfl ?_
      intro w6 h6 ho6
      have H6 : Hid (w6.heap[p]? = some (.cells #[.int .i64 st1, .int .i64 id1, .int .i64 rq1, v', .int .i64 ct1, .int .i64 tm1, .int .i64 nk1] 28 (0, 0))) := h6
      have HTO6 := Lib.hid (TO.off HTO5.out HP5.out (by decide) (by decide) ho6)
      have HB6 : Hid (Below W.heap.size W w6) := ho6.below _ _ (by have := HLT.out; omega) HB5.out
      have HK6 : Hid (wk.heap.size ≤ w6.heap.size ∧ ∀ b, b < wk.heap.size → b ≠ p → w6.heap[b]? = wk.heap[b]?) := ⟨Nat.le_trans HK5.out.1 ho6.size, fun b hb hne => (ho6.heap b (Nat.lt_of_lt_of_le hb HK5.out.1) hne).trans ((HK5.out.2 b hb).trans (HKP.out.2 b hb hne))⟩
      clear h6 ho6
      try simp only [Act.put, List.setIfInBounds_toArray, List.set_cons_zero, List.set_cons_succ]
      refine wpG_done (by kernel_rfl) ?_ _
      have HU6 : Hid (plain (us ++ [(⟨T, .slice A3 L3 C3, l⟩ : Tg)]) = (plain ts).take (k + 1)) := by
        show _ = _
        rw [HNEXT.out, plain_append, HUS.out]; rfl
      have hle : k + 1 ≤ n := by omega
      go_wp2
      go_roundw
      case rel =>
        first | exact ⟨k + 1, _, _, hle, by go_num, H6, HTO6, HU6, HB6, HK6⟩ | ((repeat apply Exists.intro); exact ⟨⟨k + 1, _, _, hle, by go_num, H6, HTO6, HU6, HB6, HK6⟩, rfl⟩)
      case measure => simp [intOf]; omega
    · obtain rfl : k = n := by omega
      have HPE : Hid (plain ts = plain us) := by
        show _ = _
        rw [HUS.out, List.take_of_length_le (by rw [plain_length]; have := HN.out; omega)]
      obtain ⟨ka, kc, rfl, _, _⟩ := HTO.out.tr.shape
      have HKT := Lib.hid HTO.out.tr
      obtain ⟨m, hm⟩ : ∃ m, m = us.length := ⟨_, rfl⟩
      rw [← hm] at HKT HP
      obtain ⟨wA, hwA⟩ : ∃ x, x = wr := ⟨_, rfl⟩
      subst hwA
      have X0 : Hid (wA.heap[W.heap.size]? = _) := (HKP.out.2 _ (by have := HPK.out; have := HLT.out; omega) (by have := HLT.out; omega)).trans V0.out
      have X2 : Hid (wA.heap[W.heap.size + 2]? = _) := (HKP.out.2 _ (by have := HPK.out; have := HLT.out; omega) (by have := HLT.out; omega)).trans V2.out
      have HQA := Lib.hid (HQ.out.1.below HB.out)
      have s1 := run_string_of (P := Tryz.prog) 30 9 5 Tryz.underlying30 Tryz.underlying5 Tryz.underlying9 HQA.out
      obtain ⟨i0', i1, i2, i3, i4⟩ := cells5 X0.out
      obtain ⟨q0, q1, q2⟩ := cells3 X2.out
      have pa := Packet_any ra rn rc rs ka0 kb0 kc0 kd0 st1 id1 rq1 ao k c ts ct1 tm1 nk1 C2 S2 qa qn qk ql a3 wA (HRR.out.below HB.out) HTR.out HNM.out.1 HNM.out.2 HQA.out (by have := HQ.out.2; omega) HQ.out.2.1
      generalize pack (⟨rs, ka0, kb0, kc0, kd0⟩ : Cfg) (⟨st1, id1, rq1, plain ts, ct1, tm1, nk1⟩ : Aut) (⟨C2, S2, ql⟩ : QC) a3 = x at pa
      obtain ⟨⟨⟨xs, xi, xr, xk, xc, xt, xn⟩, xo, xl⟩, ok⟩ := x
      have PA := Lib.hid pa
      clear pa HTO HUS HKP V0 V1 V2 HO8 HVS hm
      go_wp2_with fail
      refine PA.out.mono ?_
      rintro e v1 ⟨av, ov, dv, rfl, hd⟩
      obtain ⟨ba, bn, bc, rfl⟩ := hd.said.av
      obtain ⟨da, dc, rfl⟩ := hd.said.dv
      obtain ⟨os, hco, hpo⟩ := hd.out
      obtain ⟨oa, oc, rfl, _, _⟩ := hco.cr.shape
      have HV1 : Hid (Below wA.heap.size wA v1) := hd.old
      simp only [autoV, autoC]
      have hal : Gr v1 (v1.alloc (.cells #[.int .i64 xs, .int .i64 xi, .int .i64 xr, .slice ba bn bc, .int .i64 xc, .int .i64 xt, .int .i64 xn] 28)) := (Gr.refl _).alloc _
      have HV2 : Hid (Below wA.heap.size wA (v1.alloc (.cells #[.int .i64 xs, .int .i64 xi, .int .i64 xr, .slice ba bn bc, .int .i64 xc, .int .i64 xt, .int .i64 xn] 28))) := HV1.out.trans (Below.mono hal HV1.out.size)
      have HM0 : Hid (MC (v1.alloc (.cells #[.int .i64 xs, .int .i64 xi, .int .i64 xr, .slice ba bn bc, .int .i64 xc, .int .i64 xt, .int .i64 xn] 28)) (v1.alloc (.cells #[.int .i64 xs, .int .i64 xi, .int .i64 xr, .slice ba bn bc, .int .i64 xc, .int .i64 xt, .int .i64 xn] 28)) wA.heap.size (.slice oa os.length oc) os) := MC.start ⟨ownsRow_below hco.own hal, fun t ht => by have := hco.vals t ht; simp only [if_true] at this ⊢; exact OwnB.below this hal⟩
      obtain ⟨B0, hB0⟩ : ∃ g, g = wA.heap.size := ⟨_, rfl⟩
      rw [← hB0] at HM0
      have HB0 := Lib.hid hB0
      obtain ⟨N, hN⟩ : ∃ N, N = os.length := ⟨_, rfl⟩
      have HNN := Lib.hid hN
      rw [← hN] at HM0 ⊢
      have hNm : N ≤ 9223372036854775807 := by
        obtain ⟨_, _, es, h1, h2⟩ := hco.cr.shape
        simp only [Value.slice.injEq] at es
        unfold maxLen at h2
        omega
      obtain ⟨vs, hvs⟩ : ∃ x, x = v1.alloc (.cells #[.int .i64 xs, .int .i64 xi, .int .i64 xr, .slice ba bn bc, .int .i64 xc, .int .i64 xt, .int .i64 xn] 28) := ⟨_, rfl⟩
      clear hd hco hpo PA HV1 hal hB0 hN i0' i1 i2 i3 i4 j0 j1 j2 j3 j4 j5 j6 q0 q1 q2 s1
      go_upto_region 9 with fail
      rw [← hvs] at HM0 HV2 ⊢
      clear hvs
      go_upto_region 10 with fail
      go_loopw [18] (fun iv wr2 => ∃ i : Nat, i ≤ N ∧ iv = .int .i64 (i : Int) ∧ Hid (MC vs wr2 B0 (.slice oa N oc) os)) (fun iv _ => N - (intOf iv).toNat)
      case atStart => exact ⟨0, Nat.zero_le _, rfl, HM0⟩
      case round =>
        clear HM0
        obtain ⟨i, hiN, rfl, HM⟩ := hrel
        by_cases hlt : i < N
        · have hiu : i < os.length := by rw [← HNN.out]; exact hlt
          obtain ⟨wo, hwo⟩ : ∃ x, x = wr := ⟨_, rfl⟩
          subst hwo
          obtain ⟨lt0, hlt0⟩ := HM.out.vals os[i] (List.getElem_mem _)
          obtain ⟨A, L, C, hv, hL, _, hCm⟩ := hlt0.bs.sl
          have HVI := Lib.hid hv
          have hLm : L ≤ 9223372036854775807 := by
            have h := hlt0
            rw [hv] at h
            exact own_max h
          have hin2 : (i : Int) < (N : Int) := by omega
          clear hv hL hCm hlt0
          go_wp2
          go_loopw [19] (fun kv wr3 => ∃ k : Nat, k ≤ L ∧ kv = .int .i64 (k : Int) ∧ Hid (MC vs wr3 B0 (.slice oa N oc) os)) (fun kv _ => L - (intOf kv).toNat)
          case atStart => exact ⟨0, Nat.zero_le _, rfl, HM⟩
          case round =>
            clear HM
            obtain ⟨k', hkL, rfl, HM⟩ := hrel
            obtain ⟨b, o, rfl, hc⟩ := HM.out.cells (by omega)
            have k1 := hc i hiu
            rw [HVI.out] at k1
            clear hc
            by_cases hlt2 : k' < L
            · obtain ⟨g, rfl⟩ : ∃ g, A = some ⟨g, 0, none⟩ := by
                obtain ⟨lt, hlt3⟩ := HM.out.vals os[i] (List.getElem_mem _)
                rw [HVI.out] at hlt3
                obtain ⟨g, h, _, _⟩ := own_at hlt3 (by omega)
                exact ⟨g, h⟩
              obtain ⟨⟨z, hz⟩, hf⟩ := HM.out.byte (List.getElem_mem hiu) HVI.out hlt2
              have HNX := Lib.hid (HM.out.step (k := k') (List.getElem_mem hiu) HVI.out X)
              clear HM
              go_wp2
              go_roundw
              case rel => first | exact ⟨k' + 1, by omega, by go_num, HNX⟩ | ((repeat apply Exists.intro); exact ⟨⟨k' + 1, by omega, by go_num, HNX⟩, rfl⟩)
              case measure => simp [intOf]; omega
            · obtain rfl : L = k' := by omega
              have HNX := Lib.hid HM.out
              clear HM
              go_wp2
              go_roundw
              case rel => first | exact ⟨i + 1, by omega, by go_num, HNX⟩ | ((repeat apply Exists.intro); exact ⟨⟨i + 1, by omega, by go_num, HNX⟩, rfl⟩)
              case measure => simp [intOf]; omega
        · obtain rfl : N = i := by omega
          obtain ⟨wf, hwf⟩ : ∃ x, x = wr := ⟨_, rfl⟩
          subst hwf
          have HLOW : Hid (Below wA.heap.size vs wf) := by
            have h := HM.out.low
            rw [HB0.out] at h
            exact h
          have HBA : Hid (Below wA.heap.size wA wf) := HV2.out.trans HLOW.out
          have HBF : Hid (Below W.heap.size W wf) := HB.out.trans (HBA.out.mono HB.out.size)
          have SM := Lib.hid (rsame_auto ⟨st1, id1, rq1, plain ts, ct1, tm1, nk1⟩ ao k c ts ka m kc us wf (HTR.out.below HBA.out) (HKT.out.below HBA.out) HPE.out)
          obtain ⟨j0, j1, j2, j3, j4, j5, j6⟩ := cells7 (heap_below X1.out HBA.out)
          obtain ⟨y0, y1, y2, y3, y4, y5, y6⟩ := cells7 (heap_below HP.out HBA.out)
          have YQ := Lib.hid (heap_below X2.out HBA.out)
          have HQF := Lib.hid (HQA.out.below HBA.out)
          clear HM HLOW HV2
          go_wp2_with fail
          refine SM.out.mono ?_
          rintro e w10 ⟨rfl, hb10⟩
          have HG10 : Hid (Gr wf w10) := hb10
          have s2 := run_string_of (P := Tryz.prog) 30 9 5 Tryz.underlying30 Tryz.underlying5 Tryz.underlying9 (HQF.out.below hb10)
          obtain ⟨q0, q1, q2⟩ := cells3 (heap_below YQ.out hb10)
          clear hb10 j0 j1 j2 j3 j4 j5 j6 y0 y1 y2 y3 y4 y5 y6
          go_wp2_with fail
          refine (AW.out w10).mono ?_
          rintro e w12 ⟨rfl, hb12⟩
          have HB12 := Lib.hid (HBF.out.trans (Below.mono (HG10.out.trans hb12) HBF.out.size))
          clear hb12
          go_wp2_with fail
          go_ret
          exact ⟨by simp, HB12.out⟩

theorem own : ownKnob Tryz.prog.godebug = none := by kernel_rfl
theorem laidOut : laidOutB Tryz.prog = true := by kernel_rfl
set_option maxRecDepth 100000 in
theorem lifted (os : Os) (started : os.Started) (H : Type) (enc : TypeId × Value → H) :
    ReturnsInHanded {} Tryz.checked os 9 .any (Rows.autoOwnSpec.pre6 enc Tryz.prog Tryz.f9 Rows.autoOwnRow.domain false) (Rows.autoOwnSpec.post enc Tryz.prog Tryz.f9 false true false false) := by
  refine returnsInHanded_of_change (C := Tryz.checked) own started (by kernel_rfl) Tryz.func9
    (ChangeSpec.witness6 (enc := enc) (C := Tryz.checked) false ⟨#[], #[.agg #[.slice none 0 0, .int .i64 0, .int .i64 0, .int .i64 0, .int .i64 0], .agg #[.int .i64 0, .int .i64 0, .int .i64 0, .slice none 0 0, .int .i64 0, .int .i64 0, .int .i64 0], .agg #[.int .i64 0, .int .i64 0, .slice none 0 0], .int .i64 0, .int .u8 0], []⟩ 8 (by kernel_rfl) (by kernel_rfl) (by kernel_rfl) (by kernel_rfl)) ?_
  intro W base args ds gs before hval0 hW hcnd _
  have hval : ∀ (j : Nat) t v, Tryz.f9.params[j]? = some t → args[j]? = some v → Value.okWide Tryz.prog W .any base t v := hval0
  have hW' := hW
  obtain ⟨p, q, hA0, hV, rfl, hfz, hnd⟩ := hW
  have hA : DataW.TrodAll enc Tryz.prog W 0 (fun _ => true) true Tryz.f9.params.toList args.toList ds p := hA0
  rw [Tryz.params9] at hA hval
  obtain ⟨v0, vs0, d0, ds0, p0, q0, hargs, rfl, rfl, h0, r0⟩ := trodAll_cons hA
  obtain ⟨v1, vs1, d1, ds1, p1, q1, rfl, rfl, rfl, h1, r1⟩ := trodAll_cons r0
  obtain ⟨v2, vs2, d2, ds2, p2, q2, rfl, rfl, rfl, h2, r2⟩ := trodAll_cons r1
  obtain ⟨v3, vs3, d3, ds3, p3, q3, rfl, rfl, rfl, h3, r3⟩ := trodAll_cons r2
  obtain ⟨v4, vs4, d4, ds4, p4, q4, rfl, rfl, rfl, h4, r4⟩ := trodAll_cons r3
  obtain ⟨rfl, rfl, rfl⟩ := trodAll_nil r4
  obtain rfl : args = #[v0, v1, v2, v3, v4] := by cases args; simp_all
  obtain ⟨rfl, rfl⟩ := trodVars_none hV
  have k0 := h0
  have lt0 : ∀ x ∈ p0, x.block < W.heap.size := by obtain ⟨m, hm⟩ := k0; exact DataW.trod_lt m _ _ _ hm
  obtain ⟨a0, n0, c0, rs0, ka0, kb0, kc0, kd0, rfl, b0⟩ := Au.open_aconf Tryz.underlying24 ⟨rfl, rfl, rfl, rfl, rfl⟩ Tryz.underlying22 Tryz.underlying101 ⟨rfl, rfl, rfl, rfl, rfl, rfl, rfl⟩ Tryz.underlying3 Tryz.underlying3 Tryz.underlying99 Tryz.underlying3 Tryz.underlying3 Tryz.underlying3 Tryz.underlying4 ⟨by kernel_rfl, by kernel_rfl, by kernel_rfl, by kernel_rfl, by kernel_rfl, by kernel_rfl, by kernel_rfl, by kernel_rfl⟩ Tryz.underlying3 Tryz.underlying3 Tryz.underlying3 Tryz.underlying3 ⟨by kernel_rfl, by kernel_rfl, by kernel_rfl, by kernel_rfl, by kernel_rfl, by kernel_rfl⟩ (hval 0 24 v0 rfl rfl) h0
  have k1 := h1
  have lt1 : ∀ x ∈ p1, x.block < W.heap.size := by obtain ⟨m, hm⟩ := k1; exact DataW.trod_lt m _ _ _ hm
  obtain ⟨st1, id1, rq1, a1, n1, c1, ts1, ct1, tm1, nk1, rfl, b1⟩ := Au.open_auto Tryz.underlying28 ⟨rfl, rfl, rfl, rfl, rfl, rfl, rfl⟩ Tryz.underlying26 Tryz.underlying69 ⟨rfl, rfl⟩ Tryz.underlying3 Tryz.underlying30 Tryz.underlying5 ⟨by kernel_rfl, by kernel_rfl, by kernel_rfl, by kernel_rfl⟩ Tryz.underlying25 Tryz.underlying3 Tryz.underlying3 Tryz.underlying3 Tryz.underlying3 Tryz.underlying3 ⟨by kernel_rfl, by kernel_rfl, by kernel_rfl, by kernel_rfl, by kernel_rfl, by kernel_rfl, by kernel_rfl, by kernel_rfl⟩ (hval 1 28 v1 rfl rfl) h1
  have k2 := h2
  have lt2 : ∀ x ∈ p2, x.block < W.heap.size := by obtain ⟨m, hm⟩ := k2; exact DataW.trod_lt m _ _ _ hm
  obtain ⟨C2, S2, a2, n2, c2, l2, rfl, hn2, b2⟩ := open_ctl Tryz.underlying32 ⟨rfl, rfl, rfl⟩ Tryz.underlying3 Tryz.underlying3 Tryz.underlying30 Tryz.underlying5 ⟨by kernel_rfl, by kernel_rfl, by kernel_rfl, by kernel_rfl, by kernel_rfl⟩ (hval 2 32 v2 rfl rfl) h2
  have k3 := h3
  have lt3 : ∀ x ∈ p3, x.block < W.heap.size := by obtain ⟨m, hm⟩ := k3; exact DataW.trod_lt m _ _ _ hm
  obtain ⟨a3, rfl, rfl, rfl, w3⟩ := open_int Tryz.underlying3 (hval 3 3 v3 rfl rfl) h3
  have k4 := h4
  have lt4 : ∀ x ∈ p4, x.block < W.heap.size := by obtain ⟨m, hm⟩ := k4; exact DataW.trod_lt m _ _ _ hm
  obtain ⟨a4, rfl, rfl, rfl, w4⟩ := open_int Tryz.underlying5 (hval 4 5 v4 rfl rfl) h4
  clear hA0 hval0
  refine (walk W a0 n0 c0 rs0 ka0 kb0 kc0 kd0 b0 st1 id1 rq1 a1 n1 c1 ts1 ct1 tm1 nk1 b1 C2 S2 a2 n2 c2 l2 hn2 b2 a3 w3 a4 w4).mono fun e W' ⟨he, bel⟩ => ?_
  subst he
  exact ⟨_, rfl, _, _, _, [], _, [], hW', trodAll_mk1 (shut_bool Tryz.underlying4 _), (trodAll_cons_mk (Below.trod laidOut (by kernel_rfl) (of_decide_eq_true (by kernel_rfl)) k0 bel lt0) (trodAll_cons_mk (Below.trod laidOut (by kernel_rfl) (of_decide_eq_true (by kernel_rfl)) k1 bel lt1) (trodAll_cons_mk (Below.trod laidOut (by kernel_rfl) (of_decide_eq_true (by kernel_rfl)) k2 bel lt2) (trodAll_cons_mk (Below.trod laidOut (by kernel_rfl) (of_decide_eq_true (by kernel_rfl)) k3 bel lt3) (trodAll_cons_mk (Below.trod laidOut (by kernel_rfl) (of_decide_eq_true (by kernel_rfl)) k4 bel lt4) trodAll_mk0))))), rfl, bel.frame _, fun h => by cases h⟩
theorem over : Rows.autoOwnRow.holds Tryz.pinned (OpenSpec.ofChange Rows.autoOwnSpec) :=
  OpenClaim.holds_of_wide 9 Tryz.f9 rfl rfl rfl rfl rfl rfl rfl ⟨rfl, rfl, rfl, rfl, rfl⟩ rfl rfl rfl rfl rfl (by kernel_rfl) Tryz.func9 (by kernel_rfl)
    (of_decide_eq_true (by kernel_rfl)) (by unfold Func.isWrapper; first | (rw [if_pos (by decide +kernel)]; kernel_rfl) | (rw [if_neg (by decide +kernel)]; exact ⟨rfl, rfl⟩))
    (fun os started H enc _ => lifted os started H enc)
/-- The statement. -/
theorem proved : Rows.AutoOwnSaid := over
end Go.Proofs.YtclplbapedmihaaGreat.autoOwn
