/-
  For every packet and every row of bytes (the payload's and the row's first 1600 bytes) pppoe.Encode and pppoe.Decode tell what the document tells: the bytes, the packet, the same errors (conciergelaw06.PppoeCodes answers true). No conditions.
-/
import Derived.Test.YtcpeglljcipcbaaPpS
import Derived.Test.YtcpeglljcipcbaaPpB
import Derived.Test.YtcpeglljcipcbaaPpD
import Derived.Test.YtcpeglljcipcbaaPpN
import Derived.Test.YtcpeglljcipcbaaOpenP
import Derived.ProofKit
import Derived.OpenShut
import Derived.ChangeOld
namespace Go.Proofs.Ytcpeglljcipcbaa.pppoeCodes
open Go.ChangeShapes Go.WideShapes Go.ChangeAt Go.RowKit
set_option linter.unusedVariables false
set_option linter.unusedSimpArgs false

set_option maxRecDepth 20000 in
set_option maxHeartbeats 4000000 in
theorem walk (W : World) (C0 S0 : Int) (a0 : Option Addr) (n0 c0 : Nat) (l0 : List UInt8) (hn0 : l0.length = n0) (b0 : Bs W (.slice a0 n0 c0) l0) (a1 : Option Addr) (n1 c1 : Nat) (l1 : List UInt8) (hn1 : l1.length = n1) (b1 : Bs W (.slice a1 n1 c1) l1) :
    Calls Try.prog 3 #[.agg #[.int .i64 C0, .int .i64 S0, .slice a0 n0 c0], .slice a1 n1 c1] W fun e w' => e = .returned (.bool true) ∧ Below W.heap.size W w' := by
  obtain ⟨m0, x0, hm0, hx0, u0, hc0⟩ := cut6_in hn0 b0
  obtain ⟨m1, x1, hm1, hx1, u1, hc1⟩ := cut6_in hn1 b1
  have HC0 := Lib.hid hc0
  have HC1 := Lib.hid hc1
  have HX0 := Lib.hid hx0
  have HX1 := Lib.hid hx1
  have HB1 : Hid (Below W.heap.size W (W.alloc (.cells #[.int .i64 C0, .int .i64 S0, .slice a0 m0 c0] 24))) := (Below.refl _ _).alloc (Nat.le_refl _) _
  have HG1 : Hid ((W.alloc (.cells #[.int .i64 C0, .int .i64 S0, .slice a0 m0 c0] 24)).heap[W.heap.size]? = some (.cells #[.int .i64 C0, .int .i64 S0, .slice a0 m0 c0] 24)) := heap_alloc_last _ _
  have HU0 := Lib.hid u0
  have HU1 := Lib.hid u1
  have AW := Lib.hid awake_any
  clear hn0 b0 u0 hc0 hx0 hn1 b1 u1 hc1 hx1
  go_enter Try.func3, Try.ntmps3
  go_wp2_with fail
  refine (HC0.out _).mono ?_
  rintro e w' ⟨rfl, rfl⟩
  go_wp2_with fail
  refine (HC1.out _).mono ?_
  rintro e w' ⟨rfl, rfl⟩
  go_wp2_with fail
  refine (pencode_any C0 S0 a0 m0 c0 x0 HX0.out _ (HU0.out.below HB1.out) (by omega)).mono ?_
  rintro e w2 ⟨v2, rfl, hown2, hb2⟩
  obtain ⟨k, hk⟩ : ∃ k, k = pencE ⟨C0, S0, x0⟩ := ⟨_, rfl⟩
  obtain ⟨ks, hks⟩ : ∃ ks, ks = pencB ⟨C0, S0, x0⟩ := ⟨_, rfl⟩
  rw [← hks] at hown2
  rw [← hk]
  have HKK := Lib.hid hk
  have HKS := Lib.hid hks
  have HB2 := Lib.hid (HB1.out.trans (hb2.mono HB1.out.size))
  have HG2 := Lib.hid (heap_below HG1.out hb2)
  have HV2 := Lib.hid hown2.bs
  obtain ⟨A2, L2, C2, ev, _, _, _⟩ := hown2.bs.sl
  subst ev
  obtain ⟨k0, k1, k2⟩ := cells3 HG2.out
  clear hown2 hb2 hk hks
  go_wp2_with fail
  refine (rpencode_any C0 S0 a0 m0 c0 x0 HX0.out w2 (HU0.out.below HB2.out) (by omega)).mono ?_
  rintro e w3 ⟨v3, rfl, hown3, hb3⟩
  rw [← HKS.out] at hown3
  rw [← HKK.out]
  have HB3 := Lib.hid (HB2.out.trans (hb3.mono HB2.out.size))
  have HV23 := Lib.hid (HV2.out.below hb3)
  have HV3 := Lib.hid hown3.bs
  obtain ⟨A3, L3, C3, ev, _, _, _⟩ := hown3.bs.sl
  subst ev
  clear hown3 hb3 k0 k1 k2
  obtain ⟨r, hr⟩ : ∃ r, r = pdec x1 := ⟨_, rfl⟩
  have HRR := Lib.hid hr
  have D1 := Lib.hid (pdecode_any a1 m1 c1 x1 HX1.out w3 (HU1.out.below HB3.out) (by omega))
  rw [← hr] at D1
  clear hr
  go_wp2_with fail
  refine D1.out.mono ?_
  rintro e w4 ⟨A4, L4, C4, rfl, hown4, hb4⟩
  have hE4 : Below w4.heap.size w4 (w4.alloc (.cells #[.int .i64 r.1.c, .int .i64 r.1.s, .slice A4 L4 C4] 24)) := (Below.refl _ _).alloc (Nat.le_refl _) _
  have hB4 := hb4.trans (hE4.mono hb4.size)
  have HB4 := Lib.hid (HB3.out.trans (hB4.mono HB3.out.size))
  have HG4 : Hid ((w4.alloc (.cells #[.int .i64 r.1.c, .int .i64 r.1.s, .slice A4 L4 C4] 24)).heap[w4.heap.size]? = some (.cells #[.int .i64 r.1.c, .int .i64 r.1.s, .slice A4 L4 C4] 24 (0, 0))) := heap_alloc_last _ _
  have HV24 := Lib.hid (HV23.out.below hB4)
  have HV34 := Lib.hid (HV3.out.below hB4)
  have HQ4 := Lib.hid (hown4.bs.below hE4)
  have D2 := Lib.hid (rpdecode_any a1 m1 c1 x1 HX1.out _ (HU1.out.below HB4.out) (by omega))
  rw [← HRR.out] at D2
  clear hown4 hb4 hE4 hB4 D1
  go_wp2_with fail
  refine D2.out.mono ?_
  rintro e w5 ⟨A5, L5, C5, rfl, hown5, hb5⟩
  have hE5 : Below w5.heap.size w5 (w5.alloc (.cells #[.int .i64 r.1.c, .int .i64 r.1.s, .slice A5 L5 C5] 24)) := (Below.refl _ _).alloc (Nat.le_refl _) _
  have hB5 := hb5.trans (hE5.mono hb5.size)
  have HB5 := Lib.hid (HB4.out.trans (hB5.mono HB4.out.size))
  have HG5 := Lib.hid (heap_below HG4.out hB5)
  obtain ⟨q0, q1, q2⟩ := cells3 HG5.out
  have hq4 := HQ4.out.below hB5
  have hq5 := hown5.bs.below hE5
  obtain rfl : L5 = L4 := by
    obtain ⟨_, _, _, e1, h1, _, _⟩ := hq4.sl
    obtain ⟨_, _, _, e2, h2, _, _⟩ := hq5.sl
    simp only [Value.slice.injEq] at e1 e2
    rw [e1.2.1, e2.2.1, ← h1, ← h2]
  have SM := Lib.hid (psame_true r.1.c r.1.s A4 A5 L5 C4 C5 _ _ hq4 hq5)
  have s1 := run_string_of (P := Try.prog) 22 9 5 Try.underlying22 Try.underlying5 Try.underlying9 (HV24.out.below hB5)
  have s2 := run_string_of (P := Try.prog) 22 9 5 Try.underlying22 Try.underlying5 Try.underlying9 (HV34.out.below hB5)
  clear hown5 hb5 hE5 hB5 hq4 hq5 D2
  go_wp2_with fail
  refine SM.out.mono ?_
  rintro e w6 ⟨rfl, hb6⟩
  have HB6 := Lib.hid (HB5.out.trans (hb6.mono HB5.out.size))
  clear hb6 SM s1 s2 q0 q1 q2
  go_wp2_with fail
  refine (AW.out w6).mono ?_
  rintro e w7 ⟨rfl, hb7⟩
  have HB7 := Lib.hid (HB6.out.trans (hb7.mono HB6.out.size))
  clear hb7
  go_wp2
  go_ret
  exact ⟨by simp, HB7.out⟩

theorem own : ownKnob Try.prog.godebug = none := by kernel_rfl
theorem laidOut : laidOutB Try.prog = true := by kernel_rfl
set_option maxRecDepth 100000 in
theorem lifted (os : Os) (started : os.Started) (H : Type) (enc : TypeId × Value → H) :
    ReturnsInHanded {} Try.checked os 3 .any (Rows.pppoeCodesSpec.pre6 enc Try.prog Try.f3 Rows.pppoeCodesRow.domain false) (Rows.pppoeCodesSpec.post enc Try.prog Try.f3 false true false false) := by
  refine returnsInHanded_of_change (C := Try.checked) own started (by kernel_rfl) Try.func3
    (ChangeSpec.witness6 (enc := enc) (C := Try.checked) false ⟨#[], #[.agg #[.int .i64 0, .int .i64 0, .slice none 0 0], .slice none 0 0], []⟩ 8 (by kernel_rfl) (by kernel_rfl) (by kernel_rfl) (by kernel_rfl)) ?_
  intro W base args ds gs before hval0 hW hcnd _
  have hval : ∀ (j : Nat) t v, Try.f3.params[j]? = some t → args[j]? = some v → Value.okWide Try.prog W .any base t v := hval0
  have hW' := hW
  obtain ⟨p, q, hA0, hV, rfl, hfz, hnd⟩ := hW
  have hA : DataW.TrodAll enc Try.prog W 0 (fun _ => true) true Try.f3.params.toList args.toList ds p := hA0
  rw [Try.params3] at hA hval
  obtain ⟨v0, vs0, d0, ds0, p0, q0, hargs, rfl, rfl, h0, r0⟩ := trodAll_cons hA
  obtain ⟨v1, vs1, d1, ds1, p1, q1, rfl, rfl, rfl, h1, r1⟩ := trodAll_cons r0
  obtain ⟨rfl, rfl, rfl⟩ := trodAll_nil r1
  obtain rfl : args = #[v0, v1] := by cases args; simp_all
  obtain ⟨rfl, rfl⟩ := trodVars_none hV
  have k0 := h0
  have lt0 : ∀ x ∈ p0, x.block < W.heap.size := by obtain ⟨m, hm⟩ := k0; exact DataW.trod_lt m _ _ _ hm
  obtain ⟨C0, S0, a0, n0, c0, l0, rfl, hn0, b0⟩ := open_pppoe Try.underlying24 ⟨rfl, rfl, rfl⟩ Try.underlying3 Try.underlying3 Try.underlying22 Try.underlying5 ⟨by kernel_rfl, by kernel_rfl, by kernel_rfl, by kernel_rfl, by kernel_rfl⟩ (hval 0 24 v0 rfl rfl) h0
  have k1 := h1
  have lt1 : ∀ x ∈ p1, x.block < W.heap.size := by obtain ⟨m, hm⟩ := k1; exact DataW.trod_lt m _ _ _ hm
  obtain ⟨a1, n1, c1, l1, rfl, hn1, b1⟩ := open_bytes Try.underlying22 Try.underlying5 (by kernel_rfl) (hval 1 22 v1 rfl rfl) h1
  clear hA0 hval0
  refine (walk W C0 S0 a0 n0 c0 l0 hn0 b0 a1 n1 c1 l1 hn1 b1).mono fun e W' ⟨he, bel⟩ => ?_
  subst he
  exact ⟨_, rfl, _, _, _, [], _, [], hW', trodAll_mk1 (shut_bool Try.underlying4 _), (trodAll_cons_mk (Below.trod laidOut (by kernel_rfl) (of_decide_eq_true (by kernel_rfl)) k0 bel lt0) (trodAll_cons_mk (Below.trod laidOut (by kernel_rfl) (of_decide_eq_true (by kernel_rfl)) k1 bel lt1) trodAll_mk0)), rfl, bel.frame _, fun h => by cases h⟩
theorem over : Rows.pppoeCodesRow.holds Try.pinned (OpenSpec.ofChange Rows.pppoeCodesSpec) :=
  OpenClaim.holds_of_wide 3 Try.f3 rfl rfl rfl rfl rfl rfl rfl ⟨rfl, rfl, rfl, rfl, rfl⟩ rfl rfl rfl rfl rfl (by kernel_rfl) Try.func3 (by kernel_rfl)
    (of_decide_eq_true (by kernel_rfl)) (by unfold Func.isWrapper; first | (rw [if_pos (by decide +kernel)]; kernel_rfl) | (rw [if_neg (by decide +kernel)]; exact ⟨rfl, rfl⟩))
    (fun os started H enc _ => lifted os started H enc)
/-- The statement. -/
theorem proved : Rows.PppoeCodesSaid := over
end Go.Proofs.Ytcpeglljcipcbaa.pppoeCodes
