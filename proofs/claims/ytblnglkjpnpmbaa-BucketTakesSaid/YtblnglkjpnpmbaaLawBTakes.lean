/-
  For every rate, every bucket and every tick bucket.Take hands back the bucket, and the answer, that the document says (conciergelaw10.BucketTakes answers true). No condition.
-/
import Derived.Test.YtblnglkjpnpmbaaBkB
import Derived.Test.YtblnglkjpnpmbaaBkC
import Derived.Test.YtblnglkjpnpmbaaBkD
import Derived.Test.YtblnglkjpnpmbaaOpenB
import Derived.ProofKit
import Derived.OpenShut
import Derived.ChangeOld
namespace Go.Proofs.Ytblnglkjpnpmbaa.bucketTakes
open Go.ChangeShapes Go.WideShapes Go.ChangeAt Go.RowKit
open Go.Proofs.Ytblnglkjpnpmbaa.Bk
set_option linter.unusedVariables false
set_option linter.unusedSimpArgs false

set_option maxHeartbeats 1000000 in
theorem walk (W : World) (re rm : Int) (wre : (Lit.int .i64 re).wf = true) (wrm : (Lit.int .i64 rm).wf = true) (k t : Int) (wk : (Lit.int .i64 k).wf = true) (wt : (Lit.int .i64 t).wf = true) (s : Int) (ws : (Lit.int .i64 s).wf = true) :
    Calls Try.prog 4 #[.agg #[.int .i64 re, .int .i64 rm], .agg #[.int .i64 k, .int .i64 t], .int .i64 s] W fun e w' => e = .returned (.bool true) ∧ Below W.heap.size W w' := by
  have HB : Hid (Below W.heap.size W ((W.alloc (.cells #[.int .i64 re, .int .i64 rm] 23)).alloc (.cells #[.int .i64 k, .int .i64 t] 25))) := boxed_two _ _ _
  have HG0 : Hid (((W.alloc (.cells #[.int .i64 re, .int .i64 rm] 23)).alloc (.cells #[.int .i64 k, .int .i64 t] 25)).heap[W.heap.size]? = some (.cells #[.int .i64 re, .int .i64 rm] 23 (0, 0))) := boxed_0 _ _ _
  have HG1 : Hid (((W.alloc (.cells #[.int .i64 re, .int .i64 rm] 23)).alloc (.cells #[.int .i64 k, .int .i64 t] 25)).heap[W.heap.size + 1]? = some (.cells #[.int .i64 k, .int .i64 t] 25 (0, 0))) := boxed_1 _ _ _
  have HS := Lib.hid (fun w => take_any re rm k t s w)
  have HR := Lib.hid (fun w => rtake_any re rm k t s w)
  have HA := Lib.hid (fun w => awake_any w)
  obtain ⟨⟨⟨a, b⟩, c⟩, hx⟩ : ∃ x, x = takB ⟨re, rm⟩ ⟨k, t⟩ s := ⟨_, rfl⟩
  rw [← hx] at HS HR
  have HE : ∀ w, (binOp .eql 25 (.agg #[.int .i64 a, .int .i64 b]) (.agg #[.int .i64 a, .int .i64 b])).run Try.prog w = .ok (.bool true) w := fun w => by rw [eql_bk]; simp
  clear hx wre wrm wk wt ws
  go_enter Try.func4, Try.ntmps4
  go_wp2_with fail
  generalize ((W.alloc (.cells #[.int .i64 re, .int .i64 rm] 23)).alloc (.cells #[.int .i64 k, .int .i64 t] 25)) = w1 at HB HG0 HG1 ⊢
  refine (HS.out _).mono ?_
  rintro e w2 ⟨rfl, hb⟩
  have HB2 : Hid (Below W.heap.size W (w2.alloc (.cells #[.int .i64 a, .int .i64 b] 25))) := (HB.out.trans (hb.mono HB.out.size)).alloc (Nat.le_trans HB.out.size hb.size) _
  have HG02 : Hid ((w2.alloc (.cells #[.int .i64 a, .int .i64 b] 25)).heap[W.heap.size]? = some (.cells #[.int .i64 re, .int .i64 rm] 23 (0, 0))) := heap_below (heap_below HG0.out hb) ((Below.refl _ _).alloc (Nat.le_refl _) _)
  have HG12 : Hid ((w2.alloc (.cells #[.int .i64 a, .int .i64 b] 25)).heap[W.heap.size + 1]? = some (.cells #[.int .i64 k, .int .i64 t] 25 (0, 0))) := heap_below (heap_below HG1.out hb) ((Below.refl _ _).alloc (Nat.le_refl _) _)
  have HG22 : Hid ((w2.alloc (.cells #[.int .i64 a, .int .i64 b] 25)).heap[w2.heap.size]? = some (.cells #[.int .i64 a, .int .i64 b] 25 (0, 0))) := heap_alloc_last _ _
  clear hb HB HG0 HG1
  obtain ⟨k0, k1⟩ := cells2 HG02.out
  obtain ⟨m0, m1⟩ := cells2 HG12.out
  go_wp2_with fail
  generalize w2.alloc (.cells #[.int .i64 a, .int .i64 b] 25) = w3 at HB2 HG02 HG12 HG22 ⊢
  refine (HR.out _).mono ?_
  rintro e w4 ⟨rfl, hb⟩
  have HB4 : Hid (Below W.heap.size W (w4.alloc (.cells #[.int .i64 a, .int .i64 b] 25))) := (HB2.out.trans (hb.mono HB2.out.size)).alloc (Nat.le_trans HB2.out.size hb.size) _
  have HG24 : Hid ((w4.alloc (.cells #[.int .i64 a, .int .i64 b] 25)).heap[w2.heap.size]? = some (.cells #[.int .i64 a, .int .i64 b] 25 (0, 0))) := heap_below (heap_below HG22.out hb) ((Below.refl _ _).alloc (Nat.le_refl _) _)
  have HG44 : Hid ((w4.alloc (.cells #[.int .i64 a, .int .i64 b] 25)).heap[w4.heap.size]? = some (.cells #[.int .i64 a, .int .i64 b] 25 (0, 0))) := heap_alloc_last _ _
  clear hb HB2 HG02 HG12 HG22 k0 k1 m0 m1
  obtain ⟨k0, k1⟩ := cells2 HG24.out
  obtain ⟨m0, m1⟩ := cells2 HG44.out
  go_wp2_with fail
  generalize w4.alloc (.cells #[.int .i64 a, .int .i64 b] 25) = w5 at HB4 HG24 HG44 ⊢
  refine (HA.out _).mono ?_
  rintro e w6 ⟨rfl, hb⟩
  have HB6 := Lib.hid (HB4.out.trans (hb.mono HB4.out.size))
  clear hb k0 k1 m0 m1
  go_wp2
  go_ret
  exact ⟨by simp, HB6.out⟩

theorem own : ownKnob Try.prog.godebug = none := by kernel_rfl
theorem laidOut : laidOutB Try.prog = true := by kernel_rfl
set_option maxRecDepth 100000 in
theorem lifted (os : Os) (started : os.Started) (H : Type) (enc : TypeId × Value → H) :
    ReturnsInHanded {} Try.checked os 4 .any (Rows.bucketTakesSpec.pre6 enc Try.prog Try.f4 Rows.bucketTakesRow.domain false) (Rows.bucketTakesSpec.post enc Try.prog Try.f4 false true false false) := by
  refine returnsInHanded_of_change (C := Try.checked) own started (by kernel_rfl) Try.func4
    (ChangeSpec.witness6 (enc := enc) (C := Try.checked) false ⟨#[], #[.agg #[.int .i64 0, .int .i64 0], .agg #[.int .i64 0, .int .i64 0], .int .i64 0], []⟩ 8 (by kernel_rfl) (by kernel_rfl) (by kernel_rfl) (by kernel_rfl)) ?_
  intro W base args ds gs before hval0 hW hcnd _
  have hval : ∀ (j : Nat) t v, Try.f4.params[j]? = some t → args[j]? = some v → Value.okWide Try.prog W .any base t v := hval0
  have hW' := hW
  obtain ⟨p, q, hA0, hV, rfl, hfz, hnd⟩ := hW
  have hA : DataW.TrodAll enc Try.prog W 0 (fun _ => true) true Try.f4.params.toList args.toList ds p := hA0
  rw [Try.params4] at hA hval
  obtain ⟨v0, vs0, d0, ds0, p0, q0, hargs, rfl, rfl, h0, r0⟩ := trodAll_cons hA
  obtain ⟨v1, vs1, d1, ds1, p1, q1, rfl, rfl, rfl, h1, r1⟩ := trodAll_cons r0
  obtain ⟨v2, vs2, d2, ds2, p2, q2, rfl, rfl, rfl, h2, r2⟩ := trodAll_cons r1
  obtain ⟨rfl, rfl, rfl⟩ := trodAll_nil r2
  obtain rfl : args = #[v0, v1, v2] := by cases args; simp_all
  obtain ⟨rfl, rfl⟩ := trodVars_none hV
  have k0 := h0
  have lt0 : ∀ x ∈ p0, x.block < W.heap.size := by obtain ⟨m, hm⟩ := k0; exact DataW.trod_lt m _ _ _ hm
  obtain ⟨x0, y0, rfl, wx0, wy0⟩ := open_two Try.underlying23 ⟨rfl, rfl⟩ Try.underlying3 Try.underlying3 ⟨by kernel_rfl, by kernel_rfl, by kernel_rfl⟩ (hval 0 23 v0 rfl rfl) h0
  have k1 := h1
  have lt1 : ∀ x ∈ p1, x.block < W.heap.size := by obtain ⟨m, hm⟩ := k1; exact DataW.trod_lt m _ _ _ hm
  obtain ⟨x1, y1, rfl, wx1, wy1⟩ := open_two Try.underlying25 ⟨rfl, rfl⟩ Try.underlying3 Try.underlying3 ⟨by kernel_rfl, by kernel_rfl, by kernel_rfl⟩ (hval 1 25 v1 rfl rfl) h1
  have k2 := h2
  have lt2 : ∀ x ∈ p2, x.block < W.heap.size := by obtain ⟨m, hm⟩ := k2; exact DataW.trod_lt m _ _ _ hm
  obtain ⟨a2, rfl, rfl, rfl, w2⟩ := open_int Try.underlying3 (hval 2 3 v2 rfl rfl) h2
  clear hA0 hval0
  refine (walk W x0 y0 wx0 wy0 x1 y1 wx1 wy1 a2 w2).mono fun e W' ⟨he, bel⟩ => ?_
  subst he
  exact ⟨_, rfl, _, _, _, [], _, [], hW', trodAll_mk1 (shut_bool Try.underlying4 _), (trodAll_cons_mk (Below.trod laidOut (by kernel_rfl) (of_decide_eq_true (by kernel_rfl)) k0 bel lt0) (trodAll_cons_mk (Below.trod laidOut (by kernel_rfl) (of_decide_eq_true (by kernel_rfl)) k1 bel lt1) (trodAll_cons_mk (Below.trod laidOut (by kernel_rfl) (of_decide_eq_true (by kernel_rfl)) k2 bel lt2) trodAll_mk0))), rfl, bel.frame _, fun h => by cases h⟩
theorem over : Rows.bucketTakesRow.holds Try.pinned (OpenSpec.ofChange Rows.bucketTakesSpec) :=
  OpenClaim.holds_of_wide 4 Try.f4 rfl rfl rfl rfl rfl rfl rfl ⟨rfl, rfl, rfl, rfl, rfl⟩ rfl rfl rfl rfl rfl (by kernel_rfl) Try.func4 (by kernel_rfl)
    (of_decide_eq_true (by kernel_rfl)) (by unfold Func.isWrapper; first | (rw [if_pos (by decide +kernel)]; kernel_rfl) | (rw [if_neg (by decide +kernel)]; exact ⟨rfl, rfl⟩))
    (fun os started H enc _ => lifted os started H enc)
/-- The statement. -/
theorem proved : Rows.BucketTakesSaid := over
end Go.Proofs.Ytblnglkjpnpmbaa.bucketTakes
