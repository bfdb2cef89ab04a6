/-
  For every settings, automaton, packet and tick (of the rules the first 20, of the options the first 70, each with the first 260 bytes, of the packet's data the first 1500 bytes) auto.Packet lets a Configure-Ack, -Nak or -Reject go that does not bear the last request's number: the automaton is the same, nothing goes out, nothing is done (conciergelaw16.AutoStale answers true). No conditions.
-/
import Derived.Test.YtclplbapedmihaaGreatZAuC
import Derived.Test.YtclplbapedmihaaGreatZOp
import Derived.Test.YtclplbapedmihaaGreatZCp
import Derived.ProofKit
import Derived.OpenShut
import Derived.ChangeOld
namespace Go.Proofs.YtclplbapedmihaaGreat.autoStale
set_option maxRecDepth 4000
open Go.ChangeShapes Go.WideShapes Go.ChangeAt Go.RowKit O Ng Au
set_option linter.unusedVariables false
set_option linter.unusedSimpArgs false
set_option maxRecDepth 20000 in
set_option maxHeartbeats 4000000 in
theorem walk (W : World) (a0 : Option Addr) (n0 c0 : Nat) (rs0 : List Ru) (ka0 kb0 kc0 kd0 : Int) (b0 : RR W (.slice a0 n0 c0) n0 rs0) (st1 id1 rq1 : Int) (a1 : Option Addr) (n1 c1 : Nat) (ts1 : List Tg) (ct1 tm1 nk1 : Int) (b1 : TR W (.slice a1 n1 c1) n1 ts1) (C2 S2 : Int) (a2 : Option Addr) (n2 c2 : Nat) (l2 : List UInt8) (hn2 : l2.length = n2) (b2 : Bs W (.slice a2 n2 c2) l2) (a3 : Int) (w3 : (Lit.int .i64 a3).wf = true) :
    Calls Tryz.prog 7 #[.agg #[.slice a0 n0 c0, .int .i64 ka0, .int .i64 kb0, .int .i64 kc0, .int .i64 kd0], .agg #[.int .i64 st1, .int .i64 id1, .int .i64 rq1, .slice a1 n1 c1, .int .i64 ct1, .int .i64 tm1, .int .i64 nk1], .agg #[.int .i64 C2, .int .i64 S2, .slice a2 n2 c2], .int .i64 a3] W fun e w' => e = .returned (.bool true) ∧ Below W.heap.size W w' := by
  have BA : Gr W (((W.alloc (.cells #[.slice a0 n0 c0, .int .i64 ka0, .int .i64 kb0, .int .i64 kc0, .int .i64 kd0] 24)).alloc (.cells #[.int .i64 st1, .int .i64 id1, .int .i64 rq1, .slice a1 n1 c1, .int .i64 ct1, .int .i64 tm1, .int .i64 nk1] 28)).alloc (.cells #[.int .i64 C2, .int .i64 S2, .slice a2 n2 c2] 32)) := (((Gr.refl W).alloc _).alloc _).alloc _
  obtain ⟨g0, g1, g2⟩ := heap3 W (.cells #[.slice a0 n0 c0, .int .i64 ka0, .int .i64 kb0, .int .i64 kc0, .int .i64 kd0] 24) (.cells #[.int .i64 st1, .int .i64 id1, .int .i64 rq1, .slice a1 n1 c1, .int .i64 ct1, .int .i64 tm1, .int .i64 nk1] 28) (.cells #[.int .i64 C2, .int .i64 S2, .slice a2 n2 c2] 32)
  obtain ⟨i0, i1, i2, i3, i4⟩ := cells5 g0
  obtain ⟨j0, j1, j2, j3, j4, j5, j6⟩ := cells7 g1
  obtain ⟨q0, q1, q2⟩ := cells3 g2
  have HBA := Lib.hid BA
  have G0 := Lib.hid g0
  have G1 := Lib.hid g1
  have G2 := Lib.hid g2
  have LT := Lib.hid (light_any a0 n0 c0 rs0 ka0 kb0 kc0 kd0 st1 id1 rq1 a1 n1 c1 ts1 ct1 tm1 nk1 C2 S2 a2 n2 c2 l2 W (((W.alloc (.cells #[.slice a0 n0 c0, .int .i64 ka0, .int .i64 kb0, .int .i64 kc0, .int .i64 kd0] 24)).alloc (.cells #[.int .i64 st1, .int .i64 id1, .int .i64 rq1, .slice a1 n1 c1, .int .i64 ct1, .int .i64 tm1, .int .i64 nk1] 28)).alloc (.cells #[.int .i64 C2, .int .i64 S2, .slice a2 n2 c2] 32)) b0 b1 b2 hn2 BA)
  have AW := Lib.hid awake_any
  clear BA g0 g1 g2 b0 b1 b2 hn2 w3
  go_enter Tryz.func7, Tryz.ntmps7
  go_wp2_with fail
  refine LT.out.mono ?_
  rintro e w1 ⟨ra, rn, rc, rs, ao, n, c, ts, qa, qn, qk, ql, rfl, hrr, ⟨hown, hvs⟩, hn, hm, hq, hqn, hb1⟩
  have HRR := Lib.hid hrr
  have HOWN := Lib.hid (ownsRow_mono hown HBA.out.size)
  have HVS := Lib.hid hvs
  have HNM := Lib.hid (And.intro hn hm)
  have HQ := Lib.hid (And.intro hq hqn)
  have HB1 : Hid (Gr W w1) := Gr.trans HBA.out hb1
  have K0 := Lib.hid (heap_below G0.out hb1)
  have K1 := Lib.hid (heap_below G1.out hb1)
  have K2 := Lib.hid (heap_below G2.out hb1)
  clear hrr hown hvs hn hm hq hqn hb1 G0 G1 G2 HBA LT i0 i1 i2 i3 i4 j0 j1 j2 j3 j4 j5 j6 q0 q1 q2
  go_wp2_with (refine wpList_store_whole rfl 24 (.tmp 4) (.tmp 18) rfl W.heap.size [.slice ra rn rc, .int .i64 ka0, .int .i64 kb0, .int .i64 kc0, .int .i64 kd0] rfl rfl 24 _ K0.out sizeConf rfl (fun v hv => by simp only [List.mem_cons, List.not_mem_nil, or_false] at hv; rcases hv with rfl | rfl | rfl | rfl | rfl <;> rfl) ?_)
  intro w2 e2 o2
  have M0 := Lib.hid e2
  have M1 := Lib.hid (only_heap K1.out o2 (by omega))
  have M2 := Lib.hid (only_heap K2.out o2 (by omega))
  have HB2 : Hid (Below W.heap.size W w2) := o2.below _ _ (Nat.le_refl _) HB1.out
  have HO2 := Lib.hid (own_off HOWN.out K0.out (show 69 ≠ 24 by decide) o2)
  clear e2 o2 K0 K1 K2 HB1 HOWN
  go_wp2_with (refine wpList_store_whole rfl 28 (.tmp 5) (.tmp 19) rfl (W.heap.size + 1) [.int .i64 st1, .int .i64 id1, .int .i64 rq1, .slice ao n c, .int .i64 ct1, .int .i64 tm1, .int .i64 nk1] rfl rfl 28 _ M1.out sizeAuto rfl (autoC_one (a := ⟨st1, id1, rq1, [], ct1, tm1, nk1⟩) rfl) ?_)
  intro w4 e4 o4
  have N0 := Lib.hid (only_heap M0.out o4 (by omega))
  have N1 := Lib.hid e4
  have N2 := Lib.hid (only_heap M2.out o4 (by omega))
  have HB4 : Hid (Below W.heap.size W w4) := o4.below _ _ (Nat.le_add_right _ _) HB2.out
  have HO4 := Lib.hid (own_off HO2.out M1.out (show 69 ≠ 28 by decide) o4)
  clear e4 o4 M0 M1 M2 HB2 HO2
  go_wp2_with (refine wpList_store_whole rfl 32 (.tmp 6) (.tmp 20) rfl (W.heap.size + 2) [.int .i64 C2, .int .i64 S2, .slice qa qn qk] rfl rfl 32 _ N2.out sizeC rfl (one_ctl _ _ rfl) ?_)
  intro w5 e5 o5
  have R0 := Lib.hid (only_heap N0.out o5 (by omega))
  have R1 := Lib.hid (only_heap N1.out o5 (by omega))
  have R2 := Lib.hid e5
  have HB5 : Hid (Below W.heap.size W w5) := o5.below _ _ (Nat.le_add_right _ _) HB4.out
  have HO5 := Lib.hid (own_off HO4.out N2.out (show 69 ≠ 32 by decide) o5)
  clear e5 o5 N0 N1 N2 HB4 HO4
  obtain ⟨q0, q1, q2⟩ := cells3 R2.out
  obtain ⟨K, hK⟩ : ∃ K, K = wrap64 (2 + wrap64 ((IntKind.u64.wrap C2).tmod 3)) := ⟨_, rfl⟩
  go_upto_region 2 with fail
  go_wp2_with (refine wpList_store_cell rfl 3 (.tmp 27) (.tmp 26) rfl (W.heap.size + 2) 0 (.int .i64 K) rfl ?q9 32 _ R2.out sizeI (by simp) rfl ?_)
  case q9 => first | rfl | simp [go_sem, hK]
  intro w6 e6 o6
  rw [← hK] at e6
  have HK : Hid (2 ≤ K ∧ K ≤ 4) := by
    have h3 : 0 ≤ (IntKind.u64.wrap C2).tmod 3 ∧ (IntKind.u64.wrap C2).tmod 3 < 3 := by
      have h0 : 0 ≤ IntKind.u64.wrap C2 := by unfold IntKind.wrap; simp only [IntKind.signed, IntKind.bits]; exact Int.emod_nonneg _ (by decide)
      have := Int.tmod_lt_of_pos (IntKind.u64.wrap C2) (show (0 : Int) < 3 by decide)
      have := Int.tmod_nonneg 3 h0
      omega
    have e1 := wrap_in (n := (IntKind.u64.wrap C2).tmod 3) (by omega) (by omega)
    rw [e1] at hK
    rw [wrap_in (by omega) (by omega)] at hK
    constructor <;> omega
  have P2 := Lib.hid e6
  have P0 := Lib.hid (only_heap R0.out o6 (by omega))
  have P1 := Lib.hid (only_heap R1.out o6 (by omega))
  have HB6 : Hid (Below W.heap.size W w6) := o6.below _ _ (Nat.le_add_right _ _) HB5.out
  have HT6 : Hid (TR w6 (.slice ao n c) n ts) := ⟨own_rd (own_off HO5.out R2.out (show 69 ≠ 32 by decide) o6), fun x hx => (HVS.out x hx).below HB6.out⟩
  clear e6 o6 R0 R1 R2 HB5 HO5 q0 q1 q2 HVS
  have PK := Lib.hid (fun h => stale (c := ⟨rs, ka0, kb0, kc0, kd0⟩) (a := ⟨st1, id1, rq1, plain ts, ct1, tm1, nk1⟩) (q := ⟨K, S2, ql⟩) (t := a3) HK.out h)
  have PA := Lib.hid (Packet_any ra rn rc rs ka0 kb0 kc0 kd0 st1 id1 rq1 ao n c ts ct1 tm1 nk1 K S2 qa qn qk ql a3 w6 (HRR.out.below HB6.out) HT6.out HNM.out.1 HNM.out.2 (HQ.out.1.below HB6.out) (by have := HQ.out.2; omega) HQ.out.2.1)
  obtain ⟨i0, i1, i2, i3, i4⟩ := cells5 P0.out
  obtain ⟨j0, j1, j2, j3, j4, j5, j6⟩ := cells7 P1.out
  obtain ⟨q0, q1, q2⟩ := cells3 P2.out
  clear hK
  by_cases hx : S2 = rq1
  · subst hx
    clear PA PK P0 P1 P2 HRR HNM HQ HT6
    go_wp2_with fail
    refine (AW.out w6).mono ?_
    rintro e w7 ⟨rfl, hb7⟩
    have HB7 : Hid (Below W.heap.size W w7) := HB6.out.trans (hb7.mono HB6.out.size)
    clear hb7
    go_wp2_with fail
    go_ret
    exact ⟨rfl, HB7.out⟩
  · have hxb : (S2 == rq1) = false := by simp [hx]
    have hxd : decide (S2 = rq1) = false := decide_eq_false hx
    have PE := Lib.hid (PK.out hx)
    clear hx PK
    go_wp2_with fail
    refine PA.out.mono ?_
    rintro e w7 ⟨av, ov, dv, rfl, hd⟩
    rw [PE.out] at hd ⊢
    obtain ⟨us, hto, hpu⟩ := hd.ask
    obtain ⟨os, hco, hpo⟩ := hd.out
    have hdn := hd.done.ar
    obtain ⟨bo, d, rfl, _, _⟩ := hto.tr.shape
    obtain ⟨oa, oc, rfl, _, _⟩ := hco.cr.shape
    obtain ⟨da, dc, rfl, _, _⟩ := hdn.shape
    have hol : os.length = 0 := by rw [← plainC_length, hpo]; rfl
    have HB7 : Hid (Below W.heap.size W w7) := HB6.out.trans (hd.old.mono HB6.out.size)
    have Q1 := Lib.hid (heap_below P1.out hd.old)
    have HT7 := Lib.hid (HT6.out.below hd.old)
    have HU7 := Lib.hid hto.tr
    have HPU : Hid (plain ts = plain us) := hpu.symm
    simp only [autoV, autoC, List.length_nil]
    rw [hol]
    clear hto hpu hco hpo hdn hd PA P0 P1 P2 HRR HNM HQ HT6 PE HK HB6 i0 i1 i2 i3 i4 j0 j1 j2 j3 j4 j5 j6 q0 q1 q2 hxb hxd hol
    have hal : Gr w7 (w7.alloc (.cells #[.int .i64 st1, .int .i64 id1, .int .i64 rq1, .slice bo us.length d, .int .i64 ct1, .int .i64 tm1, .int .i64 nk1] 28)) := (Gr.refl _).alloc _
    have HBX : Hid (Below W.heap.size W (w7.alloc (.cells #[.int .i64 st1, .int .i64 id1, .int .i64 rq1, .slice bo us.length d, .int .i64 ct1, .int .i64 tm1, .int .i64 nk1] 28))) := HB7.out.trans (Below.mono hal HB7.out.size)
    have HA : Hid ((w7.alloc (.cells #[.int .i64 st1, .int .i64 id1, .int .i64 rq1, .slice bo us.length d, .int .i64 ct1, .int .i64 tm1, .int .i64 nk1] 28)).heap[w7.heap.size]? = some (.cells #[.int .i64 st1, .int .i64 id1, .int .i64 rq1, .slice bo us.length d, .int .i64 ct1, .int .i64 tm1, .int .i64 nk1] 28 (0, 0))) := heap_alloc_last _ _
    have Q1' := Lib.hid (heap_below Q1.out hal)
    have SM := Lib.hid (rsame_auto ⟨st1, id1, rq1, plain ts, ct1, tm1, nk1⟩ ao n c ts bo us.length d us _ (HT7.out.below hal) (HU7.out.below hal) HPU.out)
    obtain ⟨g2, hg2⟩ : ∃ g, g = w7.heap.size := ⟨_, rfl⟩
    obtain ⟨wq, hwq⟩ : ∃ x, x = w7.alloc (.cells #[.int .i64 st1, .int .i64 id1, .int .i64 rq1, .slice bo us.length d, .int .i64 ct1, .int .i64 tm1, .int .i64 nk1] 28) := ⟨_, rfl⟩
    clear Q1 HT7 HU7 HPU HB7 hal
    go_upto_region 6 with fail
    rw [← hwq, ← hg2] at HA
    rw [← hwq] at HBX Q1' SM
    rw [← hwq, ← hg2]
    clear hg2 hwq
    obtain ⟨j0, j1, j2, j3, j4, j5, j6⟩ := cells7 Q1'.out
    obtain ⟨k0, k1, k2, k3, k4, k5, k6⟩ := cells7 HA.out
    go_wp2_with fail
    refine SM.out.mono ?_
    rintro e w8 ⟨rfl, hb8⟩
    have HB8 : Hid (Below W.heap.size W w8) := HBX.out.trans (hb8.mono HBX.out.size)
    clear hb8 HBX j0 j1 j2 j3 j4 j5 j6 k0 k1 k2 k3 k4 k5 k6 HA Q1' SM
    go_wp2_with fail
    refine (AW.out w8).mono ?_
    rintro e w9 ⟨rfl, hb9⟩
    have HB9 : Hid (Below W.heap.size W w9) := HB8.out.trans (hb9.mono HB8.out.size)
    clear hb9
    go_wp2_with fail
    go_ret
    exact ⟨rfl, HB9.out⟩

theorem own : ownKnob Tryz.prog.godebug = none := by kernel_rfl
theorem laidOut : laidOutB Tryz.prog = true := by kernel_rfl
set_option maxRecDepth 100000 in
theorem lifted (os : Os) (started : os.Started) (H : Type) (enc : TypeId × Value → H) :
    ReturnsInHanded {} Tryz.checked os 7 .any (Rows.autoStaleSpec.pre6 enc Tryz.prog Tryz.f7 Rows.autoStaleRow.domain false) (Rows.autoStaleSpec.post enc Tryz.prog Tryz.f7 false true false false) := by
  refine returnsInHanded_of_change (C := Tryz.checked) own started (by kernel_rfl) Tryz.func7
    (ChangeSpec.witness6 (enc := enc) (C := Tryz.checked) false ⟨#[], #[.agg #[.slice none 0 0, .int .i64 0, .int .i64 0, .int .i64 0, .int .i64 0], .agg #[.int .i64 0, .int .i64 0, .int .i64 0, .slice none 0 0, .int .i64 0, .int .i64 0, .int .i64 0], .agg #[.int .i64 0, .int .i64 0, .slice none 0 0], .int .i64 0], []⟩ 8 (by kernel_rfl) (by kernel_rfl) (by kernel_rfl) (by kernel_rfl)) ?_
  intro W base args ds gs before hval0 hW hcnd _
  have hval : ∀ (j : Nat) t v, Tryz.f7.params[j]? = some t → args[j]? = some v → Value.okWide Tryz.prog W .any base t v := hval0
  have hW' := hW
  obtain ⟨p, q, hA0, hV, rfl, hfz, hnd⟩ := hW
  have hA : DataW.TrodAll enc Tryz.prog W 0 (fun _ => true) true Tryz.f7.params.toList args.toList ds p := hA0
  rw [Tryz.params7] at hA hval
  obtain ⟨v0, vs0, d0, ds0, p0, q0, hargs, rfl, rfl, h0, r0⟩ := trodAll_cons hA
  obtain ⟨v1, vs1, d1, ds1, p1, q1, rfl, rfl, rfl, h1, r1⟩ := trodAll_cons r0
  obtain ⟨v2, vs2, d2, ds2, p2, q2, rfl, rfl, rfl, h2, r2⟩ := trodAll_cons r1
  obtain ⟨v3, vs3, d3, ds3, p3, q3, rfl, rfl, rfl, h3, r3⟩ := trodAll_cons r2
  obtain ⟨rfl, rfl, rfl⟩ := trodAll_nil r3
  obtain rfl : args = #[v0, v1, v2, v3] := by cases args; simp_all
  obtain ⟨rfl, rfl⟩ := trodVars_none hV
  have k0 := h0
  have lt0 : ∀ x ∈ p0, x.block < W.heap.size := by obtain ⟨m, hm⟩ := k0; exact DataW.trod_lt m _ _ _ hm
  obtain ⟨a0, n0, c0, rs0, ka0, kb0, kc0, kd0, rfl, b0⟩ := Au.open_aconf Tryz.underlying24 ⟨rfl, rfl, rfl, rfl, rfl⟩ Tryz.underlying22 Tryz.underlying101 ⟨rfl, rfl, rfl, rfl, rfl, rfl, rfl⟩ Tryz.underlying3 Tryz.underlying3 Tryz.underlying99 Tryz.underlying3 Tryz.underlying3 Tryz.underlying3 Tryz.underlying4 ⟨by kernel_rfl, by kernel_rfl, by kernel_rfl, by kernel_rfl, by kernel_rfl, by kernel_rfl, by kernel_rfl, by kernel_rfl⟩ Tryz.underlying3 Tryz.underlying3 Tryz.underlying3 Tryz.underlying3 ⟨by kernel_rfl, by kernel_rfl, by kernel_rfl, by kernel_rfl, by kernel_rfl, by kernel_rfl⟩ (hval 0 24 v0 rfl rfl) h0
  have k1 := h1
  have lt1 : ∀ x ∈ p1, x.block < W.heap.size := by obtain ⟨m, hm⟩ := k1; exact DataW.trod_lt m _ _ _ hm
  obtain ⟨st1, id1, rq1, a1, n1, c1, ts1, ct1, tm1, nk1, rfl, b1⟩ := Au.open_auto Tryz.underlying28 ⟨rfl, rfl, rfl, rfl, rfl, rfl, rfl⟩ Tryz.underlying26 Tryz.underlying69 ⟨rfl, rfl⟩ Tryz.underlying3 Tryz.underlying30 Tryz.underlying5 ⟨by kernel_rfl, by kernel_rfl, by kernel_rfl, by kernel_rfl⟩ Tryz.underlying25 Tryz.underlying3 Tryz.underlying3 Tryz.underlying3 Tryz.underlying3 Tryz.underlying3 ⟨by kernel_rfl, by kernel_rfl, by kernel_rfl, by kernel_rfl, by kernel_rfl, by kernel_rfl, by kernel_rfl, by kernel_rfl⟩ (hval 1 28 v1 rfl rfl) h1
  have k2 := h2
  have lt2 : ∀ x ∈ p2, x.block < W.heap.size := by obtain ⟨m, hm⟩ := k2; exact DataW.trod_lt m _ _ _ hm
  obtain ⟨C2, S2, a2, n2, c2, l2, rfl, hn2, b2⟩ := open_ctl Tryz.underlying32 ⟨rfl, rfl, rfl⟩ Tryz.underlying3 Tryz.underlying3 Tryz.underlying30 Tryz.underlying5 ⟨by kernel_rfl, by kernel_rfl, by kernel_rfl, by kernel_rfl, by kernel_rfl⟩ (hval 2 32 v2 rfl rfl) h2
  have k3 := h3
  have lt3 : ∀ x ∈ p3, x.block < W.heap.size := by obtain ⟨m, hm⟩ := k3; exact DataW.trod_lt m _ _ _ hm
  obtain ⟨a3, rfl, rfl, rfl, w3⟩ := open_int Tryz.underlying3 (hval 3 3 v3 rfl rfl) h3
  clear hA0 hval0
  refine (walk W a0 n0 c0 rs0 ka0 kb0 kc0 kd0 b0 st1 id1 rq1 a1 n1 c1 ts1 ct1 tm1 nk1 b1 C2 S2 a2 n2 c2 l2 hn2 b2 a3 w3).mono fun e W' ⟨he, bel⟩ => ?_
  subst he
  exact ⟨_, rfl, _, _, _, [], _, [], hW', trodAll_mk1 (shut_bool Tryz.underlying4 _), (trodAll_cons_mk (Below.trod laidOut (by kernel_rfl) (of_decide_eq_true (by kernel_rfl)) k0 bel lt0) (trodAll_cons_mk (Below.trod laidOut (by kernel_rfl) (of_decide_eq_true (by kernel_rfl)) k1 bel lt1) (trodAll_cons_mk (Below.trod laidOut (by kernel_rfl) (of_decide_eq_true (by kernel_rfl)) k2 bel lt2) (trodAll_cons_mk (Below.trod laidOut (by kernel_rfl) (of_decide_eq_true (by kernel_rfl)) k3 bel lt3) trodAll_mk0)))), rfl, bel.frame _, fun h => by cases h⟩
theorem over : Rows.autoStaleRow.holds Tryz.pinned (OpenSpec.ofChange Rows.autoStaleSpec) :=
  OpenClaim.holds_of_wide 7 Tryz.f7 rfl rfl rfl rfl rfl rfl rfl ⟨rfl, rfl, rfl, rfl, rfl⟩ rfl rfl rfl rfl rfl (by kernel_rfl) Tryz.func7 (by kernel_rfl)
    (of_decide_eq_true (by kernel_rfl)) (by unfold Func.isWrapper; first | (rw [if_pos (by decide +kernel)]; kernel_rfl) | (rw [if_neg (by decide +kernel)]; exact ⟨rfl, rfl⟩))
    (fun os started H enc _ => lifted os started H enc)
/-- The statement. -/
theorem proved : Rows.AutoStaleSaid := over
end Go.Proofs.YtclplbapedmihaaGreat.autoStale
