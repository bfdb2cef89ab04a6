/-
  For every settings, automaton and tick (of the rules the first 20, of the options the first 70, each with the first 260 bytes) auto.Timeout makes of the automaton what the document's Timeout makes of it, sends what it sends, does what it does (conciergelaw16.AutoTimeouts answers true). No conditions.
-/
import Derived.Test.YtclplbapedmihaaGreatZAuC
import Derived.Test.YtclplbapedmihaaGreatZAuD
import Derived.Test.YtclplbapedmihaaGreatZFs
import Derived.Test.YtclplbapedmihaaGreatZOp
import Derived.Test.YtclplbapedmihaaGreatZCp
import Derived.ProofKit
import Derived.OpenShut
import Derived.ChangeOld
namespace Go.Proofs.YtclplbapedmihaaGreat.autoTimeouts
set_option maxRecDepth 4000
open Go.ChangeShapes Go.WideShapes Go.ChangeAt Go.RowKit O Ng Au
set_option linter.unusedVariables false
set_option linter.unusedSimpArgs false
set_option maxRecDepth 20000 in
set_option maxHeartbeats 8000000 in
theorem walk (W : World) (a0 : Option Addr) (n0 c0 : Nat) (rs0 : List Ru) (ka0 kb0 kc0 kd0 : Int) (b0 : RR W (.slice a0 n0 c0) n0 rs0) (st1 id1 rq1 : Int) (a1 : Option Addr) (n1 c1 : Nat) (ts1 : List Tg) (ct1 tm1 nk1 : Int) (b1 : TR W (.slice a1 n1 c1) n1 ts1) (a2 : Int) (w2 : (Lit.int .i64 a2).wf = true) :
    Calls Tryz.prog 5 #[.agg #[.slice a0 n0 c0, .int .i64 ka0, .int .i64 kb0, .int .i64 kc0, .int .i64 kd0], .agg #[.int .i64 st1, .int .i64 id1, .int .i64 rq1, .slice a1 n1 c1, .int .i64 ct1, .int .i64 tm1, .int .i64 nk1], .int .i64 a2] W fun e w' => e = .returned (.bool true) ∧ Below W.heap.size W w' := by
  have BA : Gr W ((W.alloc (.cells #[.slice a0 n0 c0, .int .i64 ka0, .int .i64 kb0, .int .i64 kc0, .int .i64 kd0] 24)).alloc (.cells #[.int .i64 st1, .int .i64 id1, .int .i64 rq1, .slice a1 n1 c1, .int .i64 ct1, .int .i64 tm1, .int .i64 nk1] 28)) := ((Gr.refl W).alloc _).alloc _
  have g0 := heap2_0' W (.cells #[.slice a0 n0 c0, .int .i64 ka0, .int .i64 kb0, .int .i64 kc0, .int .i64 kd0] 24) (.cells #[.int .i64 st1, .int .i64 id1, .int .i64 rq1, .slice a1 n1 c1, .int .i64 ct1, .int .i64 tm1, .int .i64 nk1] 28)
  have g1 := heap2_1' W (.cells #[.slice a0 n0 c0, .int .i64 ka0, .int .i64 kb0, .int .i64 kc0, .int .i64 kd0] 24) (.cells #[.int .i64 st1, .int .i64 id1, .int .i64 rq1, .slice a1 n1 c1, .int .i64 ct1, .int .i64 tm1, .int .i64 nk1] 28)
  obtain ⟨i0, i1, i2, i3, i4⟩ := cells5 g0
  obtain ⟨j0, j1, j2, j3, j4, j5, j6⟩ := cells7 g1
  have HBA := Lib.hid BA
  have G0 := Lib.hid g0
  have G1 := Lib.hid g1
  have LT := Lib.hid (light_any a0 n0 c0 rs0 ka0 kb0 kc0 kd0 st1 id1 rq1 a1 n1 c1 ts1 ct1 tm1 nk1 0 0 none 0 0 [] W ((W.alloc (.cells #[.slice a0 n0 c0, .int .i64 ka0, .int .i64 kb0, .int .i64 kc0, .int .i64 kd0] 24)).alloc (.cells #[.int .i64 st1, .int .i64 id1, .int .i64 rq1, .slice a1 n1 c1, .int .i64 ct1, .int .i64 tm1, .int .i64 nk1] 28)) b0 b1 (Bs.nil W) rfl BA)
  have AW := Lib.hid awake_any
  clear BA g0 g1 b0 b1 w2
  go_enter Tryz.func5, Tryz.ntmps5
  go_wp2_with fail
  refine LT.out.mono ?_
  rintro e w1 ⟨ra, rn, rc, rs, ao, n, c, ts, qa, qn, qk, ql, rfl, hrr, ⟨hown, hvs⟩, hn, hm, _, _, hb1⟩
  have HRR := Lib.hid hrr
  have HOWN := Lib.hid (ownsRow_mono hown HBA.out.size)
  have HVS := Lib.hid hvs
  have HNM := Lib.hid (And.intro hn hm)
  have HB1 : Hid (Gr W w1) := Gr.trans HBA.out hb1
  have K0 := Lib.hid (heap_below G0.out hb1)
  have K1 := Lib.hid (heap_below G1.out hb1)
  clear hrr hown hvs hn hm hb1 G0 G1 HBA LT i0 i1 i2 i3 i4 j0 j1 j2 j3 j4 j5 j6
  go_wp2_with (refine wpList_store_whole rfl 24 (.tmp 3) (.tmp 18) rfl W.heap.size [.slice ra rn rc, .int .i64 ka0, .int .i64 kb0, .int .i64 kc0, .int .i64 kd0] rfl rfl 24 _ K0.out sizeConf rfl (fun v hv => by simp only [List.mem_cons, List.not_mem_nil, or_false] at hv; rcases hv with rfl | rfl | rfl | rfl | rfl <;> rfl) ?_)
  intro w2 e2 o2
  have M0 := Lib.hid e2
  have M1 := Lib.hid (only_heap K1.out o2 (by omega))
  have HB2 : Hid (Below W.heap.size W w2) := o2.below _ _ (Nat.le_refl _) HB1.out
  have HO2 := Lib.hid (own_off HOWN.out K0.out (show 69 ≠ 24 by decide) o2)
  clear e2 o2 K0 K1 HB1 HOWN
  go_wp2_with (refine wpList_store_whole rfl 28 (.tmp 4) (.tmp 19) rfl (W.heap.size + 1) [.int .i64 st1, .int .i64 id1, .int .i64 rq1, .slice ao n c, .int .i64 ct1, .int .i64 tm1, .int .i64 nk1] rfl rfl 28 _ M1.out sizeAuto rfl (autoC_one (a := ⟨st1, id1, rq1, [], ct1, tm1, nk1⟩) rfl) ?_)
  intro w7 e4 o4
  have U0 := Lib.hid (only_heap M0.out o4 (by omega))
  have U1 := Lib.hid e4
  have HB7 : Hid (Below W.heap.size W w7) := o4.below _ _ (Nat.le_add_right _ _) HB2.out
  have HO4 := Lib.hid (own_off HO2.out M1.out (show 69 ≠ 28 by decide) o4)
  have HT7 : Hid (TR w7 (.slice ao n c) n ts) := ⟨own_rd HO4.out, fun x hx => (HVS.out x hx).below HB7.out⟩
  clear e4 o4 M0 M1 HB2 HO2 HO4
  have da := Timeout_any ra rn rc rs ka0 kb0 kc0 kd0 st1 id1 rq1 ao n c ts ct1 tm1 nk1 a2 w7 (HRR.out.below HB7.out) HT7.out HNM.out.1 HNM.out.2
  have rd := fun (w' : World) (hw : Below w7.heap.size w7 w') => rTimeout_any ra rn rc rs ka0 kb0 kc0 kd0 st1 id1 rq1 ao n c ts ct1 tm1 nk1 a2 w' ((HRR.out.below HB7.out).below hw) (HT7.out.below hw) HNM.out.1 HNM.out.2
  have hlen := tmo_short (⟨rs, ka0, kb0, kc0, kd0⟩ : Cfg) (⟨st1, id1, rq1, plain ts, ct1, tm1, nk1⟩ : Aut) a2
  generalize tmo (⟨rs, ka0, kb0, kc0, kd0⟩ : Cfg) (⟨st1, id1, rq1, plain ts, ct1, tm1, nk1⟩ : Aut) a2 = x at da rd hlen
  obtain ⟨⟨xs, xi, xr, xk, xc, xt, xn⟩, xo, xl⟩ := x
  have DA := Lib.hid da
  have RD := Lib.hid rd
  have HLEN : Hid (xl.length ≤ 65534) := hlen
  clear da rd hlen HRR HVS HNM HT7
  obtain ⟨i0, i1, i2, i3, i4⟩ := cells5 U0.out
  obtain ⟨j0, j1, j2, j3, j4, j5, j6⟩ := cells7 U1.out
  go_wp2_with fail
  refine DA.out.mono ?_
  rintro e v1 ⟨av, ov, dv, rfl, hd⟩
  have HS1 := Lib.hid hd.said
  have HV1 : Hid (Below w7.heap.size w7 v1) := hd.old
  obtain ⟨ba, bn, bc, rfl⟩ := hd.said.av
  obtain ⟨oa, oc, rfl⟩ := hd.said.ov
  obtain ⟨da, dc, rfl⟩ := hd.said.dv
  simp only [autoV, autoC]
  clear hd DA
  have hal : Gr v1 (v1.alloc (.cells #[.int .i64 xs, .int .i64 xi, .int .i64 xr, .slice ba bn bc, .int .i64 xc, .int .i64 xt, .int .i64 xn] 28)) := (Gr.refl _).alloc _
  have HV2 : Hid (Below w7.heap.size w7 (v1.alloc (.cells #[.int .i64 xs, .int .i64 xi, .int .i64 xr, .slice ba bn bc, .int .i64 xc, .int .i64 xt, .int .i64 xn] 28))) := HV1.out.trans (Below.mono hal HV1.out.size)
  have HA : Hid ((v1.alloc (.cells #[.int .i64 xs, .int .i64 xi, .int .i64 xr, .slice ba bn bc, .int .i64 xc, .int .i64 xt, .int .i64 xn] 28)).heap[v1.heap.size]? = some (.cells #[.int .i64 xs, .int .i64 xi, .int .i64 xr, .slice ba bn bc, .int .i64 xc, .int .i64 xt, .int .i64 xn] 28 (0, 0))) := heap_alloc_last _ _
  have HS2 := Lib.hid (HS1.out.below hal)
  obtain ⟨p1, hp1⟩ : ∃ g, g = v1.heap.size := ⟨_, rfl⟩
  obtain ⟨v2, hv2⟩ : ∃ x, x = v1.alloc (.cells #[.int .i64 xs, .int .i64 xi, .int .i64 xr, .slice ba bn bc, .int .i64 xc, .int .i64 xt, .int .i64 xn] 28) := ⟨_, rfl⟩
  clear HV1 HS1 hal
  go_upto_region 3 with fail
  rw [← hv2, ← hp1] at HA
  rw [← hv2] at HV2 HS2
  rw [← hv2, ← hp1]
  clear hp1 hv2
  have RD2 := Lib.hid (RD.out v2 HV2.out)
  have f0 := heap_below U0.out HV2.out
  have f1 := heap_below U1.out HV2.out
  clear i0 i1 i2 i3 i4 j0 j1 j2 j3 j4 j5 j6 U0 U1
  obtain ⟨i0, i1, i2, i3, i4⟩ := cells5 f0
  obtain ⟨j0, j1, j2, j3, j4, j5, j6⟩ := cells7 f1
  clear f0 f1
  clear RD
  go_wp2_with fail
  refine RD2.out.mono ?_
  rintro e v3 ⟨ov, dv, rfl, hd⟩
  have HS3 := Lib.hid hd.said
  have HV3 : Hid (Below w7.heap.size w7 v3) := HV2.out.trans (hd.old.mono HV2.out.size)
  have HS4 := Lib.hid (HS2.out.below hd.old)
  have HA3 := Lib.hid (heap_below HA.out hd.old)
  obtain ⟨ob, od, rfl⟩ := hd.said.ov
  obtain ⟨db, dd, rfl⟩ := hd.said.dv
  try simp only [autoV, autoC]
  clear hd RD2 HA HV2 HS2
  clear i0 i1 i2 i3 i4 j0 j1 j2 j3 j4 j5 j6
  have hal : Gr v3 (v3.alloc (.cells #[.int .i64 xs, .int .i64 xi, .int .i64 xr, .slice ao n c, .int .i64 xc, .int .i64 xt, .int .i64 xn] 28)) := (Gr.refl _).alloc _
  have HV5 : Hid (Below w7.heap.size w7 (v3.alloc (.cells #[.int .i64 xs, .int .i64 xi, .int .i64 xr, .slice ao n c, .int .i64 xc, .int .i64 xt, .int .i64 xn] 28))) := HV3.out.trans (Below.mono hal HV3.out.size)
  have HB3 : Hid ((v3.alloc (.cells #[.int .i64 xs, .int .i64 xi, .int .i64 xr, .slice ao n c, .int .i64 xc, .int .i64 xt, .int .i64 xn] 28)).heap[v3.heap.size]? = some (.cells #[.int .i64 xs, .int .i64 xi, .int .i64 xr, .slice ao n c, .int .i64 xc, .int .i64 xt, .int .i64 xn] 28 (0, 0))) := heap_alloc_last _ _
  have HA5 := Lib.hid (heap_below HA3.out hal)
  have HS5 := Lib.hid (HS3.out.below hal)
  have HS6 := Lib.hid (HS4.out.below hal)
  obtain ⟨p2, hp2⟩ : ∃ g, g = v3.heap.size := ⟨_, rfl⟩
  obtain ⟨v5, hv5⟩ : ∃ x, x = v3.alloc (.cells #[.int .i64 xs, .int .i64 xi, .int .i64 xr, .slice ao n c, .int .i64 xc, .int .i64 xt, .int .i64 xn] 28) := ⟨_, rfl⟩
  clear HV3 HS3 HS4 HA3 hal
  go_upto_region 4 with fail
  rw [← hv5, ← hp2] at HB3
  rw [← hv5] at HV5 HA5 HS5 HS6
  rw [← hv5, ← hp2]
  clear hp2 hv5
  have SA1 := Lib.hid (HS6.out.same HS5.out)
  obtain ⟨y0, y1, y2, y3, y4, y5, y6⟩ := cells7 HA5.out
  obtain ⟨z0, z1, z2, z3, z4, z5, z6⟩ := cells7 HB3.out
  go_wp2_with fail
  refine SA1.out.mono ?_
  rintro e v6 ⟨rfl, hb6⟩
  have HV6 : Hid (Below w7.heap.size w7 v6) := HV5.out.trans (hb6.mono HV5.out.size)
  have SA2 := Lib.hid ((HS6.out.below hb6).outs (HS5.out.below hb6))
  have HS7 := Lib.hid (HS6.out.below hb6)
  have HS8 := Lib.hid (HS5.out.below hb6)
  clear hb6 HV5 HS5 HS6 SA1 HA5 HB3 y0 y1 y2 y3 y4 y5 y6 z0 z1 z2 z3 z4 z5 z6
  go_wp2_with fail
  refine SA2.out.mono ?_
  rintro e v7 ⟨rfl, hb7⟩
  have HV7 : Hid (Below w7.heap.size w7 v7) := HV6.out.trans (hb7.mono HV6.out.size)
  have SA3 := Lib.hid ((HS7.out.below hb7).deeds (HS8.out.below hb7) HLEN.out)
  clear hb7 HV6 HS7 HS8 SA2
  go_wp2_with fail
  refine SA3.out.mono ?_
  rintro e v8 ⟨rfl, hb8⟩
  have HV8 : Hid (Below w7.heap.size w7 v8) := HV7.out.trans (hb8.mono HV7.out.size)
  clear hb8 HV7 SA3
  go_wp2_with fail
  refine (AW.out v8).mono ?_
  rintro e v9 ⟨rfl, hb9⟩
  have HV9 : Hid (Below W.heap.size W v9) := HB7.out.trans ((HV8.out.trans (hb9.mono HV8.out.size)).mono HB7.out.size)
  clear hb9
  go_wp2_with fail
  go_ret
  exact ⟨by simp, HV9.out⟩

theorem own : ownKnob Tryz.prog.godebug = none := by kernel_rfl
theorem laidOut : laidOutB Tryz.prog = true := by kernel_rfl
set_option maxRecDepth 100000 in
theorem lifted (os : Os) (started : os.Started) (H : Type) (enc : TypeId × Value → H) :
    ReturnsInHanded {} Tryz.checked os 5 .any (Rows.autoTimeoutsSpec.pre6 enc Tryz.prog Tryz.f5 Rows.autoTimeoutsRow.domain false) (Rows.autoTimeoutsSpec.post enc Tryz.prog Tryz.f5 false true false false) := by
  refine returnsInHanded_of_change (C := Tryz.checked) own started (by kernel_rfl) Tryz.func5
    (ChangeSpec.witness6 (enc := enc) (C := Tryz.checked) false ⟨#[], #[.agg #[.slice none 0 0, .int .i64 0, .int .i64 0, .int .i64 0, .int .i64 0], .agg #[.int .i64 0, .int .i64 0, .int .i64 0, .slice none 0 0, .int .i64 0, .int .i64 0, .int .i64 0], .int .i64 0], []⟩ 8 (by kernel_rfl) (by kernel_rfl) (by kernel_rfl) (by kernel_rfl)) ?_
  intro W base args ds gs before hval0 hW hcnd _
  have hval : ∀ (j : Nat) t v, Tryz.f5.params[j]? = some t → args[j]? = some v → Value.okWide Tryz.prog W .any base t v := hval0
  have hW' := hW
  obtain ⟨p, q, hA0, hV, rfl, hfz, hnd⟩ := hW
  have hA : DataW.TrodAll enc Tryz.prog W 0 (fun _ => true) true Tryz.f5.params.toList args.toList ds p := hA0
  rw [Tryz.params5] at hA hval
  obtain ⟨v0, vs0, d0, ds0, p0, q0, hargs, rfl, rfl, h0, r0⟩ := trodAll_cons hA
  obtain ⟨v1, vs1, d1, ds1, p1, q1, rfl, rfl, rfl, h1, r1⟩ := trodAll_cons r0
  obtain ⟨v2, vs2, d2, ds2, p2, q2, rfl, rfl, rfl, h2, r2⟩ := trodAll_cons r1
  obtain ⟨rfl, rfl, rfl⟩ := trodAll_nil r2
  obtain rfl : args = #[v0, v1, v2] := by cases args; simp_all
  obtain ⟨rfl, rfl⟩ := trodVars_none hV
  have k0 := h0
  have lt0 : ∀ x ∈ p0, x.block < W.heap.size := by obtain ⟨m, hm⟩ := k0; exact DataW.trod_lt m _ _ _ hm
  obtain ⟨a0, n0, c0, rs0, ka0, kb0, kc0, kd0, rfl, b0⟩ := Au.open_aconf Tryz.underlying24 ⟨rfl, rfl, rfl, rfl, rfl⟩ Tryz.underlying22 Tryz.underlying101 ⟨rfl, rfl, rfl, rfl, rfl, rfl, rfl⟩ Tryz.underlying3 Tryz.underlying3 Tryz.underlying99 Tryz.underlying3 Tryz.underlying3 Tryz.underlying3 Tryz.underlying4 ⟨by kernel_rfl, by kernel_rfl, by kernel_rfl, by kernel_rfl, by kernel_rfl, by kernel_rfl, by kernel_rfl, by kernel_rfl⟩ Tryz.underlying3 Tryz.underlying3 Tryz.underlying3 Tryz.underlying3 ⟨by kernel_rfl, by kernel_rfl, by kernel_rfl, by kernel_rfl, by kernel_rfl, by kernel_rfl⟩ (hval 0 24 v0 rfl rfl) h0
  have k1 := h1
  have lt1 : ∀ x ∈ p1, x.block < W.heap.size := by obtain ⟨m, hm⟩ := k1; exact DataW.trod_lt m _ _ _ hm
  obtain ⟨st1, id1, rq1, a1, n1, c1, ts1, ct1, tm1, nk1, rfl, b1⟩ := Au.open_auto Tryz.underlying28 ⟨rfl, rfl, rfl, rfl, rfl, rfl, rfl⟩ Tryz.underlying26 Tryz.underlying69 ⟨rfl, rfl⟩ Tryz.underlying3 Tryz.underlying30 Tryz.underlying5 ⟨by kernel_rfl, by kernel_rfl, by kernel_rfl, by kernel_rfl⟩ Tryz.underlying25 Tryz.underlying3 Tryz.underlying3 Tryz.underlying3 Tryz.underlying3 Tryz.underlying3 ⟨by kernel_rfl, by kernel_rfl, by kernel_rfl, by kernel_rfl, by kernel_rfl, by kernel_rfl, by kernel_rfl, by kernel_rfl⟩ (hval 1 28 v1 rfl rfl) h1
  have k2 := h2
  have lt2 : ∀ x ∈ p2, x.block < W.heap.size := by obtain ⟨m, hm⟩ := k2; exact DataW.trod_lt m _ _ _ hm
  obtain ⟨a2, rfl, rfl, rfl, w2⟩ := open_int Tryz.underlying3 (hval 2 3 v2 rfl rfl) h2
  clear hA0 hval0
  refine (walk W a0 n0 c0 rs0 ka0 kb0 kc0 kd0 b0 st1 id1 rq1 a1 n1 c1 ts1 ct1 tm1 nk1 b1 a2 w2).mono fun e W' ⟨he, bel⟩ => ?_
  subst he
  exact ⟨_, rfl, _, _, _, [], _, [], hW', trodAll_mk1 (shut_bool Tryz.underlying4 _), (trodAll_cons_mk (Below.trod laidOut (by kernel_rfl) (of_decide_eq_true (by kernel_rfl)) k0 bel lt0) (trodAll_cons_mk (Below.trod laidOut (by kernel_rfl) (of_decide_eq_true (by kernel_rfl)) k1 bel lt1) (trodAll_cons_mk (Below.trod laidOut (by kernel_rfl) (of_decide_eq_true (by kernel_rfl)) k2 bel lt2) trodAll_mk0))), rfl, bel.frame _, fun h => by cases h⟩
theorem over : Rows.autoTimeoutsRow.holds Tryz.pinned (OpenSpec.ofChange Rows.autoTimeoutsSpec) :=
  OpenClaim.holds_of_wide 5 Tryz.f5 rfl rfl rfl rfl rfl rfl rfl ⟨rfl, rfl, rfl, rfl, rfl⟩ rfl rfl rfl rfl rfl (by kernel_rfl) Tryz.func5 (by kernel_rfl)
    (of_decide_eq_true (by kernel_rfl)) (by unfold Func.isWrapper; first | (rw [if_pos (by decide +kernel)]; kernel_rfl) | (rw [if_neg (by decide +kernel)]; exact ⟨rfl, rfl⟩))
    (fun os started H enc _ => lifted os started H enc)
/-- The statement. -/
theorem proved : Rows.AutoTimeoutsSaid := over
end Go.Proofs.YtclplbapedmihaaGreat.autoTimeouts
