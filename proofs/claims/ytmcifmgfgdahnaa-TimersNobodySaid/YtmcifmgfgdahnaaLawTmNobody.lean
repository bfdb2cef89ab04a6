/-
  Timers that nobody made are none: whatever they are asked they tell ErrNil or zero values (conciergelaw13.TimersNobody answers true). No condition.
-/
import Derived.Test.YtmcifmgfgdahnaaTmR
import Derived.Test.YtmcifmgfgdahnaaOpenI
import Derived.ProofKit
import Derived.OpenShut
import Derived.ChangeOld
namespace Go.Proofs.Ytmcifmgfgdahnaa.timersNobody
open Go.ChangeShapes Go.WideShapes Go.ChangeAt Go.RowKit
open Go.Proofs.Ytmcifmgfgdahnaa.Tm
open Go.Proofs.Ytmcifmgfgdahnaa.Id (Tr)
set_option linter.unusedVariables false
set_option linter.unusedSimpArgs false

set_option maxRecDepth 20000 in
set_option maxHeartbeats 8000000 in
theorem walk (W : World) (k id t : Int) (wk : (Lit.int .i64 k).wf = true) (wid : (Lit.int .i64 id).wf = true) (wt : (Lit.int .i64 t).wf = true) :
    Calls Try.prog 5 #[.agg #[.int .i64 k, .int .i64 id, .int .i64 t]] W fun e w' => e = .returned (.bool true) ∧ Below W.heap.size W w' := by
  have HB : Hid (Below W.heap.size W (W.alloc (.cells #[.int .i64 k, .int .i64 id, .int .i64 t] 28))) := (Below.refl _ _).alloc (Nat.le_refl _) _
  have HG : Hid ((W.alloc (.cells #[.int .i64 k, .int .i64 id, .int .i64 t] 28)).heap[W.heap.size]? = some (.cells #[.int .i64 k, .int .i64 id, .int .i64 t] 28 (0, 0))) := heap_alloc_last _ _
  have HA := Lib.hid (fun w => awake_any w)
  clear wk wid wt
  go_enter Try.func5, Try.ntmps5
  go_upto_region 2 with fail
  generalize (W.alloc (.cells #[.int .i64 k, .int .i64 id, .int .i64 t] 28)) = w0 at HB HG ⊢
  go_upto_region 3 with fail
  have HW0 : Hid (Below W.heap.size W ((w0.alloc (.cells #[.pointer none] 51)).alloc (.cells #[.pointer none, .pointer (some ⟨w0.heap.size, 0, none⟩)] 23))) := (HB.out.alloc HB.out.size _).alloc (Nat.le_trans HB.out.size (by simp)) _
  have HZ0 : Hid (((w0.alloc (.cells #[.pointer none] 51)).alloc (.cells #[.pointer none, .pointer (some ⟨w0.heap.size, 0, none⟩)] 23)).heap[w0.heap.size]? = some (.cells #[.pointer none] 51 (0, 0))) := heap2_0' _ _ _
  have HP0 : Hid (((w0.alloc (.cells #[.pointer none] 51)).alloc (.cells #[.pointer none, .pointer (some ⟨w0.heap.size, 0, none⟩)] 23)).heap[w0.heap.size + 1]? = some (.cells #[.pointer none, .pointer (some ⟨w0.heap.size, 0, none⟩)] 23 (0, 0))) := heap2_1' _ _ _
  have HG0 : Hid (((w0.alloc (.cells #[.pointer none] 51)).alloc (.cells #[.pointer none, .pointer (some ⟨w0.heap.size, 0, none⟩)] 23)).heap[W.heap.size]? = some (.cells #[.int .i64 k, .int .i64 id, .int .i64 t] 28 (0, 0))) := heap_below HG.out (((Below.refl _ _).alloc (Nat.le_refl _) _).alloc (by simp) _)
  generalize ((w0.alloc (.cells #[.pointer none] 51)).alloc (.cells #[.pointer none, .pointer (some ⟨w0.heap.size, 0, none⟩)] 23)) = w1 at HW0 HZ0 HP0 HG0 ⊢
  obtain ⟨gz, hgz⟩ : ∃ b, b = w0.heap.size := ⟨_, rfl⟩
  rw [← hgz] at HZ0 HP0 ⊢
  clear hgz HB HG
  go_loopw [13] (fun iv wr => ∃ i : Nat, i ≤ 2 ∧ iv = .int .i64 (i : Int) ∧ Below w1.heap.size w1 wr) (fun iv _ => 2 - (intOf iv).toNat)
  case atStart => exact ⟨0, by omega, rfl, Below.refl _ _⟩
  case round =>
    obtain ⟨i, hi, rfl, hb⟩ := hrel
    have HBR := Lib.hid hb
    clear hb
    by_cases hlt : i < 2
    · have hz : ∃ v, NoT w1 v ∧ w1.cell? ⟨gz + 1, i, none⟩ = some v := by
        obtain ⟨p0, p1⟩ := copy_cells HP0.out
        rcases Nat.lt_or_ge i 1 with h1 | h1
        · obtain rfl : i = 0 := by omega
          exact ⟨_, .inl rfl, p0⟩
        · obtain rfl : i = 1 := by omega
          exact ⟨_, .inr ⟨gz, rfl, HZ0.out⟩, p1⟩
      obtain ⟨v, hno, hc⟩ := hz
      have HNO := Lib.hid hno
      have hcr := cell_gr HBR.out hc
      have hi2 : (i : Int) < 2 := by omega
      have HN := Lib.hid (next_no wr (HNO.out.gr HBR.out))
      clear hno hc
      go_wp2_with fail
      refine HN.out.mono ?_
      rintro e w2 ⟨rfl, hb⟩
      have HB2 : Hid (Below w1.heap.size w1 w2) := HBR.out.trans (Below.mono hb HBR.out.size)
      clear hb HN hcr
      have HB3 : Hid (Below w1.heap.size w1 (w2.alloc (.cells #[.int .i64 0, .int .i64 0] 40))) := HB2.out.alloc HB2.out.size _
      have HD3 : Hid ((w2.alloc (.cells #[.int .i64 0, .int .i64 0] 40)).heap[w2.heap.size]? = some (.cells #[.int .i64 0, .int .i64 0] 40 (0, 0))) := heap_alloc_last _ _
      go_upto_region 6 with fail
      generalize w2.alloc (.cells #[.int .i64 0, .int .i64 0] 40) = w3 at HB3 HD3 ⊢
      obtain ⟨e0, e1, e2⟩ := cells3 (heap_gr HB3.out HG0.out)
      obtain ⟨d0, d1⟩ := copy_cells HD3.out
      have HS := Lib.hid (set_no id t w3 (HNO.out.gr HB3.out))
      have HP := Lib.hid (stop_no id w3 (HNO.out.gr HB3.out))
      have HU := Lib.hid (due_no t w3 (HNO.out.gr HB3.out))
      go_wp2_with fail
      refine HS.out.mono ?_
      rintro e w4 ⟨rfl, rfl⟩
      go_wp2_with fail
      refine HP.out.mono ?_
      rintro e w4 ⟨rfl, rfl⟩
      go_wp2_with fail
      refine HU.out.mono ?_
      rintro e w4 ⟨rfl, hb⟩
      have HB4 : Hid (Below w1.heap.size w1 w4) := HB3.out.trans (Below.mono hb HB3.out.size)
      clear hb HS HP HU e0 e1 e2 d0 d1 HD3
      go_wp2_with fail
      refine (all_no w4 (HNO.out.gr HB4.out)).mono ?_
      rintro e w5 ⟨rfl, rfl⟩
      go_wp2_with fail
      refine (len_no w4 (HNO.out.gr HB4.out)).mono ?_
      rintro e w5 ⟨rfl, rfl⟩
      go_wp2_with fail
      refine (fork_no w4 (HNO.out.gr HB4.out)).mono ?_
      rintro e w5 ⟨rfl, rfl⟩
      go_wp2_with fail
      go_roundw
      case rel =>
        have hle : i + 1 ≤ 2 := by omega
        first
          | exact ⟨i + 1, hle, by go_num, HB4.out⟩
          | ((repeat apply Exists.intro); exact ⟨⟨i + 1, hle, by go_num, HB4.out⟩, rfl⟩)
      case measure => simp [intOf]; omega
    · have hi2 : ¬ (i : Int) < 2 := by omega
      have hie : i = 2 := by omega
      subst hie
      go_wp2_with fail
      refine (HA.out _).mono ?_
      rintro e w2 ⟨rfl, hb⟩
      have HB2 : Hid (Below W.heap.size W w2) := HW0.out.trans (Below.mono (HBR.out.trans (Below.mono hb HBR.out.size)) HW0.out.size)
      clear hb
      go_wp2
      go_ret
      exact ⟨rfl, HB2.out⟩

theorem own : ownKnob Try.prog.godebug = none := by kernel_rfl
theorem laidOut : laidOutB Try.prog = true := by kernel_rfl
set_option maxRecDepth 100000 in
theorem lifted (os : Os) (started : os.Started) (H : Type) (enc : TypeId × Value → H) :
    ReturnsInHanded {} Try.checked os 5 .any (Rows.timersNobodySpec.pre6 enc Try.prog Try.f5 Rows.timersNobodyRow.domain false) (Rows.timersNobodySpec.post enc Try.prog Try.f5 false true false false) := by
  refine returnsInHanded_of_change (C := Try.checked) own started (by kernel_rfl) Try.func5
    (ChangeSpec.witness6 (enc := enc) (C := Try.checked) false ⟨#[], #[.agg #[.int .i64 0, .int .i64 0, .int .i64 0]], []⟩ 8 (by kernel_rfl) (by kernel_rfl) (by kernel_rfl) (by kernel_rfl)) ?_
  intro W base args ds gs before hval0 hW hcnd _
  have hval : ∀ (j : Nat) t v, Try.f5.params[j]? = some t → args[j]? = some v → Value.okWide Try.prog W .any base t v := hval0
  have hW' := hW
  obtain ⟨p, q, hA0, hV, rfl, hfz, hnd⟩ := hW
  have hA : DataW.TrodAll enc Try.prog W 0 (fun _ => true) true Try.f5.params.toList args.toList ds p := hA0
  rw [Try.params5] at hA hval
  obtain ⟨v0, vs0, d0, ds0, p0, q0, hargs, rfl, rfl, h0, r0⟩ := trodAll_cons hA
  obtain ⟨rfl, rfl, rfl⟩ := trodAll_nil r0
  obtain rfl : args = #[v0] := by cases args; simp_all
  obtain ⟨rfl, rfl⟩ := trodVars_none hV
  have k0 := h0
  have lt0 : ∀ x ∈ p0, x.block < W.heap.size := by obtain ⟨m, hm⟩ := k0; exact DataW.trod_lt m _ _ _ hm
  obtain ⟨x0, y0, z0, rfl, wx0, wy0, wz0⟩ := open_op Try.underlying28 ⟨rfl, rfl, rfl⟩ Try.underlying3 Try.underlying3 Try.underlying3 ⟨by kernel_rfl, by kernel_rfl, by kernel_rfl, by kernel_rfl⟩ (hval 0 28 v0 rfl rfl) h0
  clear hA0 hval0
  refine (walk W x0 y0 z0 wx0 wy0 wz0).mono fun e W' ⟨he, bel⟩ => ?_
  subst he
  exact ⟨_, rfl, _, _, _, [], _, [], hW', trodAll_mk1 (shut_bool Try.underlying4 _), (trodAll_cons_mk (Below.trod laidOut (by kernel_rfl) (of_decide_eq_true (by kernel_rfl)) k0 bel lt0) trodAll_mk0), rfl, bel.frame _, fun h => by cases h⟩
theorem over : Rows.timersNobodyRow.holds Try.pinned (OpenSpec.ofChange Rows.timersNobodySpec) :=
  OpenClaim.holds_of_wide 5 Try.f5 rfl rfl rfl rfl rfl rfl rfl ⟨rfl, rfl, rfl, rfl, rfl⟩ rfl rfl rfl rfl rfl (by kernel_rfl) Try.func5 (by kernel_rfl)
    (of_decide_eq_true (by kernel_rfl)) (by unfold Func.isWrapper; first | (rw [if_pos (by decide +kernel)]; kernel_rfl) | (rw [if_neg (by decide +kernel)]; exact ⟨rfl, rfl⟩))
    (fun os started H enc _ => lifted os started H enc)
/-- The statement. -/
theorem proved : Rows.TimersNobodySaid := over
end Go.Proofs.Ytmcifmgfgdahnaa.timersNobody
