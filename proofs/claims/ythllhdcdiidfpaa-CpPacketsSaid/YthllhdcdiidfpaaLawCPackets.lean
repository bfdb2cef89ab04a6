/-
  For every row of bytes and every control packet (the first 1600 bytes of each row) cp.Decode and cp.Encode tell what the document tells: the packet, the bytes, the same errors (conciergelaw07.CpPackets answers true). No conditions.
-/
import Derived.Test.YthllhdcdiidfpaaCpN
import Derived.Test.YthllhdcdiidfpaaCpJ
import Derived.Test.YthllhdcdiidfpaaCpI
import Derived.Test.YthllhdcdiidfpaaCpL
import Derived.Test.YthllhdcdiidfpaaOpenQ
import Derived.ProofKit
import Derived.OpenShut
import Derived.ChangeOld
namespace Go.Proofs.Ythllhdcdiidfpaa.cpPackets
open Go.ChangeShapes Go.WideShapes Go.ChangeAt Go.RowKit
set_option linter.unusedVariables false
set_option linter.unusedSimpArgs false

set_option maxRecDepth 20000 in
set_option maxHeartbeats 4000000 in
theorem walk (W : World) (a0 : Option Addr) (n0 c0 : Nat) (l0 : List UInt8) (hn0 : l0.length = n0) (b0 : Bs W (.slice a0 n0 c0) l0) (C1 S1 : Int) (a1 : Option Addr) (n1 c1 : Nat) (l1 : List UInt8) (hn1 : l1.length = n1) (b1 : Bs W (.slice a1 n1 c1) l1) :
    Calls Try.prog 4 #[.slice a0 n0 c0, .agg #[.int .i64 C1, .int .i64 S1, .slice a1 n1 c1]] W fun e w' => e = .returned (.bool true) ∧ Below W.heap.size W w' := by
  obtain ⟨m0, x0, hm0, hx0, u0, hc0⟩ := cut7_in hn0 b0
  obtain ⟨m1, x1, hm1, hx1, u1, hc1⟩ := cut7_in hn1 b1
  have HC0 := Lib.hid hc0
  have HC1 := Lib.hid hc1
  have HX0 := Lib.hid hx0
  have HX1 := Lib.hid hx1
  have HB0 : Hid (Below W.heap.size W (W.alloc (.cells #[.int .i64 C1, .int .i64 S1, .slice a1 n1 c1] 39))) := (Below.refl _ _).alloc (Nat.le_refl _) _
  have HG0 : Hid ((W.alloc (.cells #[.int .i64 C1, .int .i64 S1, .slice a1 n1 c1] 39)).heap[W.heap.size]? = some (.cells #[.int .i64 C1, .int .i64 S1, .slice a1 n1 c1] 39)) := heap_alloc_last _ _
  have HU0 := Lib.hid u0
  have HU1 := Lib.hid u1
  have AW := Lib.hid awake_any
  obtain ⟨wq, hwq⟩ : ∃ x, x = W.alloc (.cells #[.int .i64 C1, .int .i64 S1, .slice a1 n1 c1] 39) := ⟨_, rfl⟩
  clear hn0 b0 u0 hc0 hx0 hn1 b1 u1 hc1 hx1
  go_enter Try.func4, Try.ntmps4
  go_wp2_with fail
  rw [← hwq] at HB0 HG0 ⊢
  clear hwq
  refine wp_region_G 5 Gr (by kernel_rfl) ?_
  -- 0: slot 13
  refine wpG_take preGr (i := 0) (v := ?_) (by kernel_rfl) (some 13) (by kernel_rfl) rfl (by kernel_rfl) (by kernel_rfl) (by kernel_rfl) (fun _ _ _ h => h) (by rfl) (fun w' hw' => ?_) rfl ?_
  rotate_left
  · try have g1 := (cells3 (heap_below HG0.out ((Gr.drew wq).trans hw'))).2.2
    go_simp
    with_reducible rfl
  simp only [Act.put, List.setIfInBounds_toArray, List.set_cons_zero, List.set_cons_succ]
  -- 2: slot 15
  refine wpG_take preGr (i := 2) (v := ?_) (by kernel_rfl) (some 15) (by kernel_rfl) rfl (by kernel_rfl) (by kernel_rfl) (by kernel_rfl) (fun _ _ _ h => h) (by rfl) (fun w' hw' => ?_) rfl ?_
  rotate_left
  · try have g1 := (cells3 (heap_below HG0.out ((Gr.drew wq).trans hw'))).2.2
    go_simp
    with_reducible rfl
  simp only [Act.put, List.setIfInBounds_toArray, List.set_cons_zero, List.set_cons_succ]
  -- 3: slot 16
  refine wpG_take preGr (i := 3) (v := ?_) (by kernel_rfl) (some 16) (by kernel_rfl) rfl (by kernel_rfl) (by kernel_rfl) (by kernel_rfl) (fun _ _ _ h => h) (by rfl) (fun w' hw' => ?_) rfl ?_
  rotate_left
  · try have g1 := (cells3 (heap_below HG0.out ((Gr.drew wq).trans hw'))).2.2
    go_simp
    with_reducible rfl
  simp only [Act.put, List.setIfInBounds_toArray, List.set_cons_zero, List.set_cons_succ]
  refine wpG_one (i := 1) rfl (by kernel_rfl) (by rfl) ?_
  go_simp
  refine (HC0.out _).mono ?_
  rintro e w' ⟨rfl, rfl⟩
  refine ⟨Gr.refl _, ?_⟩
  try simp only [Act.put, List.setIfInBounds_toArray, List.set_cons_zero, List.set_cons_succ]
  refine wpG_one (i := 4) rfl (by kernel_rfl) (by rfl) ?_
  go_simp
  refine (HC1.out _).mono ?_
  rintro e w' ⟨rfl, rfl⟩
  refine ⟨Gr.refl _, ?_⟩
  try simp only [Act.put, List.setIfInBounds_toArray, List.set_cons_zero, List.set_cons_succ]
  refine wpG_tail (i := 5) (by decide) rfl (by kernel_rfl) (by rfl) ?_
  go_simp
  try simp only [Act.put, List.setIfInBounds_toArray, List.set_cons_zero, List.set_cons_succ]
  refine wpG_tail (i := 6) (by decide) rfl (by kernel_rfl) (by rfl) ?_
  go_simp
  try simp only [Act.put, List.setIfInBounds_toArray, List.set_cons_zero, List.set_cons_succ]
  refine wpG_tail (i := 7) (by decide) rfl (by kernel_rfl) (by rfl) ?_
  refine wp_store_cell (none) 22 (.tmp 18) (.tmp 17) rfl W.heap.size 2 (.slice a1 m1 c1) rfl rfl 39 [.int .i64 C1, .int .i64 S1, .slice a1 n1 c1] (show wq.drew.heap[W.heap.size]? = some (.cells #[.int .i64 C1, .int .i64 S1, .slice a1 n1 c1] 39) from HG0.out) (by kernel_rfl) (by simp) rfl rfl ?_
  intro w1 hg1 ho1
  have HG1 : Hid (w1.heap[W.heap.size]? = some (.cells #[.int .i64 C1, .int .i64 S1, .slice a1 m1 c1] 39 (0, 0))) := hg1
  have HB1 := Lib.hid (ho1.below _ _ (Nat.le_refl _) HB0.out.drew)
  clear hg1 ho1
  try simp only [Act.put, List.setIfInBounds_toArray, List.set_cons_zero, List.set_cons_succ]
  refine wpG_done (by kernel_rfl) ?_ _
  obtain ⟨r, hr⟩ : ∃ r, r = cdec x0 := ⟨_, rfl⟩
  have HRR := Lib.hid hr
  have D1 := Lib.hid (cdecode_any a0 m0 c0 x0 HX0.out w1 (HU0.out.below HB1.out) (by omega))
  rw [← hr] at D1
  clear hr
  go_wp2_with fail
  refine D1.out.mono ?_
  rintro e w2 ⟨A2, L2, C2, rfl, hown2, hb2⟩
  have hE2 : Below w2.heap.size w2 (w2.alloc (.cells #[.int .i64 r.1.c, .int .i64 r.1.i, .slice A2 L2 C2] 39)) := (Below.refl _ _).alloc (Nat.le_refl _) _
  have hB2 := hb2.trans (hE2.mono hb2.size)
  have HB2 := Lib.hid (HB1.out.trans (hB2.mono HB1.out.size))
  have HG2 := Lib.hid (heap_below HG1.out hB2)
  have HP2 : Hid ((w2.alloc (.cells #[.int .i64 r.1.c, .int .i64 r.1.i, .slice A2 L2 C2] 39)).heap[w2.heap.size]? = some (.cells #[.int .i64 r.1.c, .int .i64 r.1.i, .slice A2 L2 C2] 39 (0, 0))) := heap_alloc_last _ _
  have HQ2 := Lib.hid (hown2.bs.below hE2)
  have D2 := Lib.hid (rcdecode_any a0 m0 c0 x0 HX0.out _ (HU0.out.below HB2.out) (by omega))
  rw [← HRR.out] at D2
  clear hown2 hb2 hE2 hB2 D1 HG1 HB1 HG0 HB0
  go_wp2_with fail
  refine D2.out.mono ?_
  rintro e w3 ⟨A3, L3, C3, rfl, hown3, hb3⟩
  have hE3 : Below w3.heap.size w3 (w3.alloc (.cells #[.int .i64 r.1.c, .int .i64 r.1.i, .slice A3 L3 C3] 39)) := (Below.refl _ _).alloc (Nat.le_refl _) _
  have hB3 := hb3.trans (hE3.mono hb3.size)
  have HB3 := Lib.hid (HB2.out.trans (hB3.mono HB2.out.size))
  have HG3 := Lib.hid (heap_below HG2.out hB3)
  have HP3 := Lib.hid (heap_below HP2.out hB3)
  have HR3 : Hid ((w3.alloc (.cells #[.int .i64 r.1.c, .int .i64 r.1.i, .slice A3 L3 C3] 39)).heap[w3.heap.size]? = some (.cells #[.int .i64 r.1.c, .int .i64 r.1.i, .slice A3 L3 C3] 39 (0, 0))) := heap_alloc_last _ _
  have hq2 := HQ2.out.below hB3
  have hq3 := hown3.bs.below hE3
  obtain rfl : L3 = L2 := by
    obtain ⟨_, _, _, e1, h1, _, _⟩ := hq2.sl
    obtain ⟨_, _, _, e2, h2, _, _⟩ := hq3.sl
    simp only [Value.slice.injEq] at e1 e2
    rw [e1.2.1, e2.2.1, ← h1, ← h2]
  have HQ3 := Lib.hid hq2
  have HQ3' := Lib.hid hq3
  have J1 := Lib.hid (cencode_any C1 S1 a1 m1 c1 x1 HX1.out _ (HU1.out.below HB3.out) (by omega))
  obtain ⟨E, hEE⟩ : ∃ E, E = cencE ⟨C1, S1, x1⟩ := ⟨_, rfl⟩
  obtain ⟨B, hBB⟩ : ∃ B, B = cencB ⟨C1, S1, x1⟩ := ⟨_, rfl⟩
  have HEE := Lib.hid hEE
  have HBB := Lib.hid hBB
  rw [← hEE, ← hBB] at J1
  obtain ⟨k0, k1, k2⟩ := cells3 HG3.out
  clear hown3 hb3 hE3 hB3 D2 hq2 hq3 hEE hBB HQ2 HP2 HG2
  go_wp2_with fail
  refine J1.out.mono ?_
  rintro e w4 ⟨v4, rfl, hown4, hb4⟩
  have HB4 := Lib.hid (HB3.out.trans (hb4.mono HB3.out.size))
  have HG4 := Lib.hid (heap_below HG3.out hb4)
  have HP4 := Lib.hid (heap_below HP3.out hb4)
  have HR4 := Lib.hid (heap_below HR3.out hb4)
  have HQ4 := Lib.hid (HQ3.out.below hb4)
  have HQ4' := Lib.hid (HQ3'.out.below hb4)
  have HV4 := Lib.hid hown4.bs
  have J2 := Lib.hid (rcencode_any C1 S1 a1 m1 c1 x1 HX1.out w4 (HU1.out.below HB4.out) (by omega))
  rw [← HEE.out, ← HBB.out] at J2
  obtain ⟨A4, L4, C4, ev, _, _, _⟩ := hown4.bs.sl
  subst ev
  clear hown4 hb4 J1 k0 k1 k2 HQ3 HQ3' HG3 HP3 HR3
  obtain ⟨k0, k1, k2⟩ := cells3 HG4.out
  go_wp2_with fail
  refine J2.out.mono ?_
  rintro e w5 ⟨v5, rfl, hown5, hb5⟩
  have HB5 := Lib.hid (HB4.out.trans (hb5.mono HB4.out.size))
  have HP5 := Lib.hid (heap_below HP4.out hb5)
  have HR5 := Lib.hid (heap_below HR4.out hb5)
  obtain ⟨A5, L5, C5, ev, _, _, _⟩ := hown5.bs.sl
  subst ev
  have HV5 := Lib.hid (HV4.out.below hb5)
  have HV5' := Lib.hid hown5.bs
  have SM := Lib.hid (csame_true r.1.c r.1.i A2 A3 L3 C2 C3 _ w5 (HQ4.out.below hb5) (HQ4'.out.below hb5))
  clear hown5 hb5 J2 k0 k1 k2
  obtain ⟨p0, p1, p2⟩ := cells3 HP5.out
  obtain ⟨q0, q1, q2⟩ := cells3 HR5.out
  go_wp2_with fail
  refine SM.out.mono ?_
  rintro e w6 ⟨rfl, hb6⟩
  have HB6 := Lib.hid (HB5.out.trans (hb6.mono HB5.out.size))
  have s1 := run_string_of (P := Try.prog) 22 9 5 Try.underlying22 Try.underlying5 Try.underlying9 (HV5.out.below hb6)
  have s2 := run_string_of (P := Try.prog) 22 9 5 Try.underlying22 Try.underlying5 Try.underlying9 (HV5'.out.below hb6)
  clear hb6 SM p0 p1 p2 q0 q1 q2
  go_wp2_with fail
  refine (AW.out w6).mono ?_
  rintro e w7 ⟨rfl, hb7⟩
  have HB7 := Lib.hid (HB6.out.trans (hb7.mono HB6.out.size))
  clear hb7
  go_wp2
  go_ret
  exact ⟨by simp, HB7.out⟩

theorem own : ownKnob Try.prog.godebug = none := by kernel_rfl
theorem laidOut : laidOutB Try.prog = true := by kernel_rfl
set_option maxRecDepth 100000 in
theorem lifted (os : Os) (started : os.Started) (H : Type) (enc : TypeId × Value → H) :
    ReturnsInHanded {} Try.checked os 4 .any (Rows.cpPacketsSpec.pre6 enc Try.prog Try.f4 Rows.cpPacketsRow.domain false) (Rows.cpPacketsSpec.post enc Try.prog Try.f4 false true false false) := by
  refine returnsInHanded_of_change (C := Try.checked) own started (by kernel_rfl) Try.func4
    (ChangeSpec.witness6 (enc := enc) (C := Try.checked) false ⟨#[], #[.slice none 0 0, .agg #[.int .i64 0, .int .i64 0, .slice none 0 0]], []⟩ 8 (by kernel_rfl) (by kernel_rfl) (by kernel_rfl) (by kernel_rfl)) ?_
  intro W base args ds gs before hval0 hW hcnd _
  have hval : ∀ (j : Nat) t v, Try.f4.params[j]? = some t → args[j]? = some v → Value.okWide Try.prog W .any base t v := hval0
  have hW' := hW
  obtain ⟨p, q, hA0, hV, rfl, hfz, hnd⟩ := hW
  have hA : DataW.TrodAll enc Try.prog W 0 (fun _ => true) true Try.f4.params.toList args.toList ds p := hA0
  rw [Try.params4] at hA hval
  obtain ⟨v0, vs0, d0, ds0, p0, q0, hargs, rfl, rfl, h0, r0⟩ := trodAll_cons hA
  obtain ⟨v1, vs1, d1, ds1, p1, q1, rfl, rfl, rfl, h1, r1⟩ := trodAll_cons r0
  obtain ⟨rfl, rfl, rfl⟩ := trodAll_nil r1
  obtain rfl : args = #[v0, v1] := by cases args; simp_all
  obtain ⟨rfl, rfl⟩ := trodVars_none hV
  have k0 := h0
  have lt0 : ∀ x ∈ p0, x.block < W.heap.size := by obtain ⟨m, hm⟩ := k0; exact DataW.trod_lt m _ _ _ hm
  obtain ⟨a0, n0, c0, l0, rfl, hn0, b0⟩ := open_bytes Try.underlying22 Try.underlying5 (by kernel_rfl) (hval 0 22 v0 rfl rfl) h0
  have k1 := h1
  have lt1 : ∀ x ∈ p1, x.block < W.heap.size := by obtain ⟨m, hm⟩ := k1; exact DataW.trod_lt m _ _ _ hm
  obtain ⟨C1, S1, a1, n1, c1, l1, rfl, hn1, b1⟩ := open_ctl Try.underlying39 ⟨rfl, rfl, rfl⟩ Try.underlying3 Try.underlying3 Try.underlying22 Try.underlying5 ⟨by kernel_rfl, by kernel_rfl, by kernel_rfl, by kernel_rfl, by kernel_rfl⟩ (hval 1 39 v1 rfl rfl) h1
  clear hA0 hval0
  refine (walk W a0 n0 c0 l0 hn0 b0 C1 S1 a1 n1 c1 l1 hn1 b1).mono fun e W' ⟨he, bel⟩ => ?_
  subst he
  exact ⟨_, rfl, _, _, _, [], _, [], hW', trodAll_mk1 (shut_bool Try.underlying4 _), (trodAll_cons_mk (Below.trod laidOut (by kernel_rfl) (of_decide_eq_true (by kernel_rfl)) k0 bel lt0) (trodAll_cons_mk (Below.trod laidOut (by kernel_rfl) (of_decide_eq_true (by kernel_rfl)) k1 bel lt1) trodAll_mk0)), rfl, bel.frame _, fun h => by cases h⟩
theorem over : Rows.cpPacketsRow.holds Try.pinned (OpenSpec.ofChange Rows.cpPacketsSpec) :=
  OpenClaim.holds_of_wide 4 Try.f4 rfl rfl rfl rfl rfl rfl rfl ⟨rfl, rfl, rfl, rfl, rfl⟩ rfl rfl rfl rfl rfl (by kernel_rfl) Try.func4 (by kernel_rfl)
    (of_decide_eq_true (by kernel_rfl)) (by unfold Func.isWrapper; first | (rw [if_pos (by decide +kernel)]; kernel_rfl) | (rw [if_neg (by decide +kernel)]; exact ⟨rfl, rfl⟩))
    (fun os started H enc _ => lifted os started H enc)
/-- The statement. -/
theorem proved : Rows.CpPacketsSaid := over
end Go.Proofs.Ythllhdcdiidfpaa.cpPackets
