/-
  For every type, size and number the option that opts.Make makes has that type, that many bytes, and that number (conciergelaw08.OptsMade answers true). No conditions.
-/
import Derived.Test.YteemcckfhadkhaaOpN
import Derived.ProofKit
import Derived.OpenShut
import Derived.ChangeOld
namespace Go.Proofs.Yteemcckfhadkhaa.optsMade
open Go.ChangeShapes Go.WideShapes Go.ChangeAt Go.RowKit O
set_option linter.unusedVariables false
set_option linter.unusedSimpArgs false

set_option maxRecDepth 20000 in
set_option maxHeartbeats 4000000 in
theorem walk (W : World) (a0 : Int) (w0 : (Lit.int .u8 a0).wf = true) (a1 : Int) (w1 : (Lit.int .u8 a1).wf = true) (a2 : Int) (w2 : (Lit.int .u32 a2).wf = true) :
    Calls Try.prog 7 #[.int .u8 a0, .int .u8 a1, .int .u32 a2] W fun e w' => e = .returned (.bool true) ∧ Below W.heap.size W w' := by
  have AW := Lib.hid awake_any
  have h0 : 0 ≤ a0 ∧ a0 ≤ 255 := by simpa [Lit.wf, IntKind.min, IntKind.max, IntKind.signed, IntKind.bits] using w0
  have h1 : 0 ≤ a1 ∧ a1 ≤ 255 := by simpa [Lit.wf, IntKind.min, IntKind.max, IntKind.signed, IntKind.bits] using w1
  have h2 : 0 ≤ a2 ∧ a2 ≤ 4294967295 := by simpa [Lit.wf, IntKind.min, IntKind.max, IntKind.signed, IntKind.bits] using w2
  obtain ⟨X, rfl⟩ : ∃ X : Nat, a0 = (X : Int) := ⟨a0.toNat, by omega⟩
  obtain ⟨Y, rfl⟩ : ∃ Y : Nat, a1 = (Y : Int) := ⟨a1.toNat, by omega⟩
  obtain ⟨V, rfl⟩ : ∃ V : Nat, a2 = (V : Int) := ⟨a2.toNat, by omega⟩
  have hX : X < 256 := by omega
  have hY : Y < 256 := by omega
  have hV : V < 4294967296 := by omega
  clear w0 w1 w2 h0 h1 h2
  obtain ⟨r, hr⟩ : ∃ r, r = Y % 4 := ⟨_, rfl⟩
  have hr4 : (Y : Int) % 4 = (r : Int) := by omega
  obtain ⟨k, hk⟩ : ∃ k : Nat, (1 : Int) + (r : Int) = (k : Int) := ⟨1 + r, by omega⟩
  have hk1 : 1 ≤ k ∧ k ≤ 4 := by omega
  clear hr
  go_enter Try.func7, Try.ntmps7
  go_wp2
  go_loopw [8, 9] (fun vv iv wr => ∃ j m : Nat, k ≤ j ∧ j ≤ 4 ∧ iv = .int .i64 j ∧ vv = .int .i64 m ∧ m = V / 256 ^ (j - k) ∧ W = wr) (fun _ iv _ => 4 - (intOf iv).toNat)
  case atStart => exact ⟨k, V, Nat.le_refl _, hk1.2, rfl, rfl, by simp, rfl⟩
  case round =>
    obtain ⟨j, m, hkj, hj4, rfl, rfl, hm, rfl⟩ := hrel
    have HM := Lib.hid hm
    have hm32 : m < 4294967296 := by rw [hm]; exact Nat.lt_of_le_of_lt (Nat.div_le_self _ _) hV
    clear hm
    by_cases hlt : j < 4
    · clear hk hr4
      go_wp2
      go_roundw
      case rel =>
        refine ⟨j + 1, m / 256, by omega, by omega, by go_num, by go_num, by rw [HM.out, pow_step, show j + 1 - k = j - k + 1 by omega], trivial⟩
      case measure => simp [intOf]; omega
    · obtain rfl : j = 4 := by omega
      have hmk : m < 256 ^ k := by
        rw [HM.out]
        apply Nat.div_lt_of_lt_mul
        have : 256 ^ (4 - k) * 256 ^ k = 4294967296 := by
          rw [← Nat.pow_add, show 4 - k + k = 4 by omega]
        omega
      have HOK : Hid (makOk (X : Int) (k : Int) (m : Int)) := by
        refine ⟨by omega, by omega, by omega, by omega, by omega, ?_⟩
        rw [Int.toNat_natCast]
        exact Int.ofNat_lt.2 hmk
      have HMK := Lib.hid hmk
      have MK := Lib.hid (make_any (X : Int) (k : Int) (m : Int) W)
      clear hmk hk hr4
      go_wp2_with fail
      refine MK.out.mono ?_
      rintro e w1 (⟨_, v1, rfl, hown1, hb1⟩ | ⟨hno, _⟩)
      · rw [Int.toNat_natCast, Int.toNat_natCast] at hown1
        obtain ⟨A2, L2, C2, ev, hL2, _, _⟩ := hown1.bs.sl
        rw [putL_length] at hL2
        subst hL2
        subst ev
        have HB1 := Lib.hid hb1
        have hq : Gr w1 (w1.alloc (.cells #[.int .i64 (X : Int), .slice A2 k C2] 36)) := (Gr.refl _).alloc _
        have HB2 := Lib.hid (HB1.out.trans (Below.mono hq HB1.out.size))
        have HG2 : Hid ((w1.alloc (.cells #[.int .i64 (X : Int), .slice A2 k C2] 36)).heap[w1.heap.size]? = some (.cells #[.int .i64 (X : Int), .slice A2 k C2] 36 (0, 0))) := heap_alloc_last _ _
        have NU := Lib.hid (number_any (X : Int) A2 k C2 (putL m k) (putL_length _ _) (w1.alloc (.cells #[.int .i64 (X : Int), .slice A2 k C2] 36)) (hown1.bs.below hq) (by omega))
        obtain ⟨k0, k1⟩ := copy_cells HG2.out
        have en : numN (putL m k) = m := by
          unfold numN
          rw [putL_length, if_pos hk1]
          exact takeN_putL m k HMK.out
        have eo : numOk (putL m k) = true := by
          unfold numOk
          rw [putL_length]
          exact decide_eq_true hk1
        have EN := Lib.hid en
        have EO := Lib.hid eo
        clear hown1 hb1 hq en eo MK
        go_wp2_with fail
        refine NU.out.mono ?_
        rintro e w3 ⟨rfl, hb3⟩
        rw [EN.out, EO.out]
        have HB3 := Lib.hid (HB2.out.trans (hb3.mono HB2.out.size))
        have HG3 := Lib.hid (heap_below HG2.out hb3)
        clear hb3 k0 k1 NU
        obtain ⟨k0, k1⟩ := copy_cells HG3.out
        go_wp2_with fail
        refine (AW.out w3).mono ?_
        rintro e w4 ⟨rfl, hb4⟩
        have HB4 := Lib.hid (HB3.out.trans (hb4.mono HB3.out.size))
        clear hb4 k0 k1
        go_wp2
        go_ret
        exact ⟨rfl, HB4.out⟩
      · exact absurd HOK.out hno

theorem own : ownKnob Try.prog.godebug = none := by kernel_rfl
theorem laidOut : laidOutB Try.prog = true := by kernel_rfl
set_option maxRecDepth 100000 in
theorem lifted (os : Os) (started : os.Started) (H : Type) (enc : TypeId × Value → H) :
    ReturnsInHanded {} Try.checked os 7 .any (Rows.optsMadeSpec.pre6 enc Try.prog Try.f7 Rows.optsMadeRow.domain false) (Rows.optsMadeSpec.post enc Try.prog Try.f7 false true false false) := by
  refine returnsInHanded_of_change (C := Try.checked) own started (by kernel_rfl) Try.func7
    (ChangeSpec.witness6 (enc := enc) (C := Try.checked) false ⟨#[], #[.int .u8 0, .int .u8 0, .int .u32 0], []⟩ 8 (by kernel_rfl) (by kernel_rfl) (by kernel_rfl) (by kernel_rfl)) ?_
  intro W base args ds gs before hval0 hW hcnd _
  have hval : ∀ (j : Nat) t v, Try.f7.params[j]? = some t → args[j]? = some v → Value.okWide Try.prog W .any base t v := hval0
  have hW' := hW
  obtain ⟨p, q, hA0, hV, rfl, hfz, hnd⟩ := hW
  have hA : DataW.TrodAll enc Try.prog W 0 (fun _ => true) true Try.f7.params.toList args.toList ds p := hA0
  rw [Try.params7] at hA hval
  obtain ⟨v0, vs0, d0, ds0, p0, q0, hargs, rfl, rfl, h0, r0⟩ := trodAll_cons hA
  obtain ⟨v1, vs1, d1, ds1, p1, q1, rfl, rfl, rfl, h1, r1⟩ := trodAll_cons r0
  obtain ⟨v2, vs2, d2, ds2, p2, q2, rfl, rfl, rfl, h2, r2⟩ := trodAll_cons r1
  obtain ⟨rfl, rfl, rfl⟩ := trodAll_nil r2
  obtain rfl : args = #[v0, v1, v2] := by cases args; simp_all
  obtain ⟨rfl, rfl⟩ := trodVars_none hV
  have k0 := h0
  have lt0 : ∀ x ∈ p0, x.block < W.heap.size := by obtain ⟨m, hm⟩ := k0; exact DataW.trod_lt m _ _ _ hm
  obtain ⟨a0, rfl, rfl, rfl, w0⟩ := open_int Try.underlying5 (hval 0 5 v0 rfl rfl) h0
  have k1 := h1
  have lt1 : ∀ x ∈ p1, x.block < W.heap.size := by obtain ⟨m, hm⟩ := k1; exact DataW.trod_lt m _ _ _ hm
  obtain ⟨a1, rfl, rfl, rfl, w1⟩ := open_int Try.underlying5 (hval 1 5 v1 rfl rfl) h1
  have k2 := h2
  have lt2 : ∀ x ∈ p2, x.block < W.heap.size := by obtain ⟨m, hm⟩ := k2; exact DataW.trod_lt m _ _ _ hm
  obtain ⟨a2, rfl, rfl, rfl, w2⟩ := open_int Try.underlying46 (hval 2 46 v2 rfl rfl) h2
  clear hA0 hval0
  refine (walk W a0 w0 a1 w1 a2 w2).mono fun e W' ⟨he, bel⟩ => ?_
  subst he
  exact ⟨_, rfl, _, _, _, [], _, [], hW', trodAll_mk1 (shut_bool Try.underlying4 _), (trodAll_cons_mk (Below.trod laidOut (by kernel_rfl) (of_decide_eq_true (by kernel_rfl)) k0 bel lt0) (trodAll_cons_mk (Below.trod laidOut (by kernel_rfl) (of_decide_eq_true (by kernel_rfl)) k1 bel lt1) (trodAll_cons_mk (Below.trod laidOut (by kernel_rfl) (of_decide_eq_true (by kernel_rfl)) k2 bel lt2) trodAll_mk0))), rfl, bel.frame _, fun h => by cases h⟩
theorem over : Rows.optsMadeRow.holds Try.pinned (OpenSpec.ofChange Rows.optsMadeSpec) :=
  OpenClaim.holds_of_wide 7 Try.f7 rfl rfl rfl rfl rfl rfl rfl ⟨rfl, rfl, rfl, rfl, rfl⟩ rfl rfl rfl rfl rfl (by kernel_rfl) Try.func7 (by kernel_rfl)
    (of_decide_eq_true (by kernel_rfl)) (by unfold Func.isWrapper; first | (rw [if_pos (by decide +kernel)]; kernel_rfl) | (rw [if_neg (by decide +kernel)]; exact ⟨rfl, rfl⟩))
    (fun os started H enc _ => lifted os started H enc)
/-- The statement. -/
theorem proved : Rows.OptsMadeSaid := over
end Go.Proofs.Yteemcckfhadkhaa.optsMade
