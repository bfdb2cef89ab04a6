/-
  Numbers that nobody made are none: whatever they are asked they tell ErrNil or zero values (conciergelaw11.IdsNobody answers true). No condition.
-/
import Derived.Test.YtpafcabcnkmadaaIdX
import Derived.Test.YtpafcabcnkmadaaOpenI
import Derived.ProofKit
import Derived.OpenShut
import Derived.ChangeOld
namespace Go.Proofs.Ytpafcabcnkmadaa.idsNobody
open Go.ChangeShapes Go.WideShapes Go.ChangeAt Go.RowKit
open Go.Proofs.Ytpafcabcnkmadaa.Id
set_option linter.unusedVariables false
set_option linter.unusedSimpArgs false

set_option maxRecDepth 20000 in
set_option maxHeartbeats 8000000 in
theorem walk (W : World) (k id t : Int) (wk : (Lit.int .i64 k).wf = true) (wid : (Lit.int .i64 id).wf = true) (wt : (Lit.int .i64 t).wf = true) :
    Calls Try.prog 8 #[.agg #[.int .i64 k, .int .i64 id, .int .i64 t]] W fun e w' => e = .returned (.bool true) ∧ Below W.heap.size W w' := by
  have HB : Hid (Below W.heap.size W (W.alloc (.cells #[.int .i64 k, .int .i64 id, .int .i64 t] 29))) := (Below.refl _ _).alloc (Nat.le_refl _) _
  have HG : Hid ((W.alloc (.cells #[.int .i64 k, .int .i64 id, .int .i64 t] 29)).heap[W.heap.size]? = some (.cells #[.int .i64 k, .int .i64 id, .int .i64 t] 29 (0, 0))) := heap_alloc_last _ _
  have HA := Lib.hid (fun w => awake_any w)
  clear wk wid wt
  go_enter Try.func8, Try.ntmps8
  go_upto_region 2 with fail
  generalize (W.alloc (.cells #[.int .i64 k, .int .i64 id, .int .i64 t] 29)) = w0 at HB HG ⊢
  go_upto_region 3 with fail
  have HW0 : Hid (Below W.heap.size W ((w0.alloc (.cells #[.int .i64 0, .int .i64 0, .int .i64 0, .slice none 0 0, .int .i64 0, .int .i64 0, .slice none 0 0, .int .i64 0, .int .i64 0, .slice none 0 0, .bool false] 63)).alloc (.cells #[.pointer none, .pointer (some ⟨w0.heap.size, 0, none⟩)] 32))) := (HB.out.alloc HB.out.size _).alloc (Nat.le_trans HB.out.size (by simp)) _
  have HZ0 : Hid (((w0.alloc (.cells #[.int .i64 0, .int .i64 0, .int .i64 0, .slice none 0 0, .int .i64 0, .int .i64 0, .slice none 0 0, .int .i64 0, .int .i64 0, .slice none 0 0, .bool false] 63)).alloc (.cells #[.pointer none, .pointer (some ⟨w0.heap.size, 0, none⟩)] 32)).heap[w0.heap.size]? = some (.cells #[.int .i64 0, .int .i64 0, .int .i64 0, .slice none 0 0, .int .i64 0, .int .i64 0, .slice none 0 0, .int .i64 0, .int .i64 0, .slice none 0 0, .bool false] 63 (0, 0))) := heap2_0' _ _ _
  have HP0 : Hid (((w0.alloc (.cells #[.int .i64 0, .int .i64 0, .int .i64 0, .slice none 0 0, .int .i64 0, .int .i64 0, .slice none 0 0, .int .i64 0, .int .i64 0, .slice none 0 0, .bool false] 63)).alloc (.cells #[.pointer none, .pointer (some ⟨w0.heap.size, 0, none⟩)] 32)).heap[w0.heap.size + 1]? = some (.cells #[.pointer none, .pointer (some ⟨w0.heap.size, 0, none⟩)] 32 (0, 0))) := heap2_1' _ _ _
  have HG0 : Hid (((w0.alloc (.cells #[.int .i64 0, .int .i64 0, .int .i64 0, .slice none 0 0, .int .i64 0, .int .i64 0, .slice none 0 0, .int .i64 0, .int .i64 0, .slice none 0 0, .bool false] 63)).alloc (.cells #[.pointer none, .pointer (some ⟨w0.heap.size, 0, none⟩)] 32)).heap[W.heap.size]? = some (.cells #[.int .i64 k, .int .i64 id, .int .i64 t] 29 (0, 0))) := heap_below HG.out (((Below.refl _ _).alloc (Nat.le_refl _) _).alloc (by simp) _)
  generalize ((w0.alloc (.cells #[.int .i64 0, .int .i64 0, .int .i64 0, .slice none 0 0, .int .i64 0, .int .i64 0, .slice none 0 0, .int .i64 0, .int .i64 0, .slice none 0 0, .bool false] 63)).alloc (.cells #[.pointer none, .pointer (some ⟨w0.heap.size, 0, none⟩)] 32)) = w1 at HW0 HZ0 HP0 HG0 ⊢
  obtain ⟨gz, hgz⟩ : ∃ b, b = w0.heap.size := ⟨_, rfl⟩
  rw [← hgz] at HZ0 HP0 ⊢
  clear hgz HB HG
  go_loopw [13] (fun iv wr => ∃ i : Nat, i ≤ 2 ∧ iv = .int .i64 (i : Int) ∧ Below w1.heap.size w1 wr) (fun iv _ => 2 - (intOf iv).toNat)
  case atStart => exact ⟨0, by omega, rfl, Below.refl _ _⟩
  case round =>
    obtain ⟨i, hi, rfl, hb⟩ := hrel
    have HBR := Lib.hid hb
    clear hb
    by_cases hlt : i < 2
    · have hz : ∃ v, NoAl w1 v ∧ w1.cell? ⟨gz + 1, i, none⟩ = some v := by
        obtain ⟨p0, p1⟩ := copy_cells HP0.out
        rcases Nat.lt_or_ge i 1 with h1 | h1
        · obtain rfl : i = 0 := by omega
          exact ⟨_, .inl rfl, p0⟩
        · obtain rfl : i = 1 := by omega
          exact ⟨_, .inr ⟨gz, rfl, HZ0.out⟩, p1⟩
      obtain ⟨v, hno, hc⟩ := hz
      have HNO := Lib.hid hno
      have hcr := cell_gr HBR.out hc
      have hi2 : (i : Int) < 2 := by omega
      obtain ⟨e0, e1, e2⟩ := cells3 (heap_gr HBR.out HG0.out)
      have HT := Lib.hid (no_take (HNO.out.gr HBR.out) t)
      have HGV := Lib.hid (no_give (HNO.out.gr HBR.out) id t)
      have HFR := Lib.hid (no_free (HNO.out.gr HBR.out) t)
      clear hno hc
      go_wp2_with fail
      refine HT.out.mono ?_
      rintro e w2 ⟨rfl, rfl⟩
      go_wp2_with fail
      refine HGV.out.mono ?_
      rintro e w2 ⟨rfl, rfl⟩
      go_wp2_with fail
      refine HFR.out.mono ?_
      rintro e w2 ⟨rfl, hb⟩
      have HB2 : Hid (Below w1.heap.size w1 w2) := HBR.out.trans (Below.mono hb HBR.out.size)
      clear hb HT HGV HFR e0 e1 e2 hcr
      obtain ⟨e0, e1, e2⟩ := cells3 (heap_gr HB2.out HG0.out)
      go_wp2_with fail
      refine (no_taken (HNO.out.gr HB2.out)).mono ?_
      rintro e w3 ⟨rfl, rfl⟩
      go_wp2_with fail
      refine (no_resting (HNO.out.gr HB2.out)).mono ?_
      rintro e w3 ⟨rfl, rfl⟩
      go_wp2_with fail
      refine (no_len (HNO.out.gr HB2.out)).mono ?_
      rintro e w3 ⟨rfl, rfl⟩
      go_wp2_with fail
      refine (no_has (HNO.out.gr HB2.out) id).mono ?_
      rintro e w3 ⟨rfl, hb⟩
      have HB3 : Hid (Below w1.heap.size w1 w3) := HB2.out.trans (Below.mono hb HB2.out.size)
      clear hb e0 e1 e2
      go_wp2_with fail
      refine (no_fork (HNO.out.gr HB3.out)).mono ?_
      rintro e w4 ⟨rfl, rfl⟩
      go_wp2_with fail
      go_roundw
      case rel =>
        have hle : i + 1 ≤ 2 := by omega
        first
          | exact ⟨i + 1, hle, by go_num, HB3.out⟩
          | ((repeat apply Exists.intro); exact ⟨⟨i + 1, hle, by go_num, HB3.out⟩, rfl⟩)
      case measure => simp [intOf]; omega
    · have hi2 : ¬ (i : Int) < 2 := by omega
      have hie : i = 2 := by omega
      subst hie
      go_wp2_with fail
      refine (HA.out _).mono ?_
      rintro e w2 ⟨rfl, hb⟩
      have HB2 : Hid (Below W.heap.size W w2) := HW0.out.trans (Below.mono (HBR.out.trans (Below.mono hb HBR.out.size)) HW0.out.size)
      clear hb
      go_wp2
      go_ret
      exact ⟨rfl, HB2.out⟩

theorem own : ownKnob Try.prog.godebug = none := by kernel_rfl
theorem laidOut : laidOutB Try.prog = true := by kernel_rfl
set_option maxRecDepth 100000 in
theorem lifted (os : Os) (started : os.Started) (H : Type) (enc : TypeId × Value → H) :
    ReturnsInHanded {} Try.checked os 8 .any (Rows.idsNobodySpec.pre6 enc Try.prog Try.f8 Rows.idsNobodyRow.domain false) (Rows.idsNobodySpec.post enc Try.prog Try.f8 false true false false) := by
  refine returnsInHanded_of_change (C := Try.checked) own started (by kernel_rfl) Try.func8
    (ChangeSpec.witness6 (enc := enc) (C := Try.checked) false ⟨#[], #[.agg #[.int .i64 0, .int .i64 0, .int .i64 0]], []⟩ 8 (by kernel_rfl) (by kernel_rfl) (by kernel_rfl) (by kernel_rfl)) ?_
  intro W base args ds gs before hval0 hW hcnd _
  have hval : ∀ (j : Nat) t v, Try.f8.params[j]? = some t → args[j]? = some v → Value.okWide Try.prog W .any base t v := hval0
  have hW' := hW
  obtain ⟨p, q, hA0, hV, rfl, hfz, hnd⟩ := hW
  have hA : DataW.TrodAll enc Try.prog W 0 (fun _ => true) true Try.f8.params.toList args.toList ds p := hA0
  rw [Try.params8] at hA hval
  obtain ⟨v0, vs0, d0, ds0, p0, q0, hargs, rfl, rfl, h0, r0⟩ := trodAll_cons hA
  obtain ⟨rfl, rfl, rfl⟩ := trodAll_nil r0
  obtain rfl : args = #[v0] := by cases args; simp_all
  obtain ⟨rfl, rfl⟩ := trodVars_none hV
  have k0 := h0
  have lt0 : ∀ x ∈ p0, x.block < W.heap.size := by obtain ⟨m, hm⟩ := k0; exact DataW.trod_lt m _ _ _ hm
  obtain ⟨x0, y0, z0, rfl, wx0, wy0, wz0⟩ := open_op Try.underlying29 ⟨rfl, rfl, rfl⟩ Try.underlying3 Try.underlying3 Try.underlying3 ⟨by kernel_rfl, by kernel_rfl, by kernel_rfl, by kernel_rfl⟩ (hval 0 29 v0 rfl rfl) h0
  clear hA0 hval0
  refine (walk W x0 y0 z0 wx0 wy0 wz0).mono fun e W' ⟨he, bel⟩ => ?_
  subst he
  exact ⟨_, rfl, _, _, _, [], _, [], hW', trodAll_mk1 (shut_bool Try.underlying4 _), (trodAll_cons_mk (Below.trod laidOut (by kernel_rfl) (of_decide_eq_true (by kernel_rfl)) k0 bel lt0) trodAll_mk0), rfl, bel.frame _, fun h => by cases h⟩
theorem over : Rows.idsNobodyRow.holds Try.pinned (OpenSpec.ofChange Rows.idsNobodySpec) :=
  OpenClaim.holds_of_wide 8 Try.f8 rfl rfl rfl rfl rfl rfl rfl ⟨rfl, rfl, rfl, rfl, rfl⟩ rfl rfl rfl rfl rfl (by kernel_rfl) Try.func8 (by kernel_rfl)
    (of_decide_eq_true (by kernel_rfl)) (by unfold Func.isWrapper; first | (rw [if_pos (by decide +kernel)]; kernel_rfl) | (rw [if_neg (by decide +kernel)]; exact ⟨rfl, rfl⟩))
    (fun os started H enc _ => lifted os started H enc)
/-- The statement. -/
theorem proved : Rows.IdsNobodySaid := over
end Go.Proofs.Ytpafcabcnkmadaa.idsNobody
