/-
  For any first number and any count all numbers are taken, rising, and then none is (conciergelaw11.IdsAll answers true). No condition.
-/
import Derived.Test.YtpafcabcnkmadaaIdW
import Derived.Test.YtpafcabcnkmadaaOpenI
import Derived.ProofKit
import Derived.OpenShut
import Derived.ChangeOld
namespace Go.Proofs.Ytpafcabcnkmadaa.idsAll
open Go.ChangeShapes Go.WideShapes Go.ChangeAt Go.RowKit
open Go.Proofs.Ytpafcabcnkmadaa.Id
set_option linter.unusedVariables false
set_option linter.unusedSimpArgs false

theorem free_none {S : Al} (h1 : S.row = []) (h2 : S.rest = []) (t : Int) : free S t = 0 := by
  unfold free
  rw [h1, h2]
  split <;> rfl
set_option maxRecDepth 20000 in
set_option maxHeartbeats 4000000 in
theorem walk (W : World) (a0 : Int) (w0 : (Lit.int .u16 a0).wf = true) (a1 : Int) (w1 : (Lit.int .u8 a1).wf = true) :
    Calls Try.prog 4 #[.int .u16 a0, .int .u8 a1] W fun e w' => e = .returned (.bool true) ∧ Below W.heap.size W w' := by
  have h0 : 0 ≤ a0 ∧ a0 ≤ 65535 := by simpa [Lit.wf, IntKind.min, IntKind.max, IntKind.signed, IntKind.bits] using w0
  have h1 : 0 ≤ a1 ∧ a1 ≤ 255 := by simpa [Lit.wf, IntKind.min, IntKind.max, IntKind.signed, IntKind.bits] using w1
  have hr : 0 ≤ a0 % 60000 ∧ a0 % 60000 ≤ 59999 := by omega
  have x0 : wrap64 a0 = a0 := wrap64_in (by omega) (by omega)
  have x1 : wrap64 a1 = a1 := wrap64_in (by omega) (by omega)
  have x2 : a0.tmod 60000 = a0 % 60000 := Int.tmod_eq_emod_of_nonneg h0.1
  obtain ⟨F, hF⟩ : ∃ F, 1 + a0 % 60000 = F := ⟨_, rfl⟩
  obtain ⟨T, hT⟩ : ∃ T, F + a1 = T := ⟨_, rfl⟩
  have x3 : wrap64 (1 + a0 % 60000) = F := by rw [wrap64_in (by omega) (by omega), hF]
  have x4 : wrap64 (F + a1) = T := by rw [wrap64_in (by omega) (by omega), hT]
  have hset : okSet F T 0 := by unfold okSet topT; omega
  have HA := Lib.hid (fun w => awake_any w)
  have HN := Lib.hid (new_la W F T 0 W hset (Below.refl _ _))
  have HL : Hid (0 ≤ a1 ∧ a1 ≤ 255 ∧ F + a1 = T ∧ 1 ≤ F ∧ F ≤ 60000) := ⟨h1.1, h1.2, hT, by omega, by omega⟩
  clear hr w0 w1
  go_enter Try.func4, Try.ntmps4
  go_wp2_with fail
  refine HN.out.mono ?_
  rintro e w1 ⟨g, rfl, m1, hla, _⟩
  have HS : Hid (∃ m S, LA W g m w1 S ∧ S.rest = [] ∧ S.row = numbers (F + (0 : Nat)) T) := ⟨m1, _, hla, rfl, by simp [born]⟩
  clear hla HN h0 x0 x2 x3 x4 hset hF hT
  go_wp2_with fail
  go_loopw [8] (fun iv wr => ∃ i : Nat, (i : Int) ≤ a1 + 1 ∧ iv = .int .i64 (i : Int) ∧ ∃ m S, LA W g m wr S ∧ S.rest = [] ∧ S.row = numbers (F + (i : Int)) T) (fun iv _ => (a1 + 1 - intOf iv).toNat)
  case atStart => exact ⟨0, by omega, rfl, HS.out⟩
  case round =>
    clear HS
    obtain ⟨i, hin, rfl, m, S, hla, hre, hro⟩ := hrel
    have HLA := Lib.hid hla
    have HRE := Lib.hid hre
    have HRO := Lib.hid hro
    clear hla hre hro
    by_cases hlt : (i : Int) ≤ a1
    · have hti : okT (i : Int) := by unfold okT topT; omega
      have hT := take_rising HRE.out HRO.out (by have := HL.out; omega) hti
      have HT := take_la HLA.out (i : Int)
      rw [hT] at HT
      have HTT := Lib.hid HT
      have x5 : wrap64 (F + (i : Int)) = F + (i : Int) := wrap64_in (by have := HL.out; omega) (by have := HL.out; omega)
      have x6 : wrap64 ((i : Int) + 1) = (i : Int) + 1 := wrap64_in (by omega) (by omega)
      clear hti hT HT
      go_wp2_with fail
      refine HTT.out.mono ?_
      rintro e w2 ⟨rfl, m2, h2⟩
      have HL2 := Lib.hid h2
      have HH := has_la HL2.out (F + (i : Int))
      simp only [List.mem_append, List.mem_singleton, or_true, decide_true] at HH
      have HH2 := Lib.hid HH
      clear h2 HH HTT
      go_wp2_with fail
      refine HH2.out.mono ?_
      rintro e w3 ⟨rfl, h3⟩
      have HL3 := Lib.hid h3
      clear h3 HH2 HL2
      go_wp2_with fail
      go_roundw
      case rel =>
        have hle : ((i + 1 : Nat) : Int) ≤ a1 + 1 := by omega
        have e3 : F + ((i + 1 : Nat) : Int) = F + (i : Int) + 1 := by omega
        first
          | exact ⟨i + 1, hle, by go_num, m2, _, HL3.out, HRE.out, by rw [e3]⟩
          | ((repeat apply Exists.intro); exact ⟨⟨i + 1, hle, by go_num, m2, _, HL3.out, HRE.out, by rw [e3]⟩, rfl⟩)
      case measure => simp [intOf]; omega
    · have hro : S.row = [] := by rw [HRO.out, numbers_nil]; have := HL.out; omega
      have hT := take_none HRE.out hro (t := 0) (by decide)
      have HT := take_la HLA.out 0
      rw [hT] at HT
      have HTT := Lib.hid HT
      have HFR := Lib.hid (free_none hro HRE.out 0)
      clear hT HT hro
      go_wp2_with fail
      refine HTT.out.mono ?_
      rintro e w2 ⟨rfl, m2, h2⟩
      have HL2 := Lib.hid h2
      have HF := free_la HL2.out 0
      rw [HFR.out] at HF
      have HF2 := Lib.hid HF
      clear h2 HF HTT
      go_wp2_with fail
      refine HF2.out.mono ?_
      rintro e w3 ⟨rfl, h3⟩
      have HL3 := Lib.hid h3
      clear h3 HF2 HL2
      go_wp2_with fail
      refine (HA.out _).mono ?_
      rintro e w4 ⟨rfl, hb⟩
      have HL4 := Lib.hid (HL3.out.gr hb)
      clear hb HL3
      go_wp2
      go_ret
      exact ⟨rfl, HL4.out.low⟩

theorem own : ownKnob Try.prog.godebug = none := by kernel_rfl
theorem laidOut : laidOutB Try.prog = true := by kernel_rfl
set_option maxRecDepth 100000 in
theorem lifted (os : Os) (started : os.Started) (H : Type) (enc : TypeId × Value → H) :
    ReturnsInHanded {} Try.checked os 4 .any (Rows.idsAllSpec.pre6 enc Try.prog Try.f4 Rows.idsAllRow.domain false) (Rows.idsAllSpec.post enc Try.prog Try.f4 false true false false) := by
  refine returnsInHanded_of_change (C := Try.checked) own started (by kernel_rfl) Try.func4
    (ChangeSpec.witness6 (enc := enc) (C := Try.checked) false ⟨#[], #[.int .u16 0, .int .u8 0], []⟩ 8 (by kernel_rfl) (by kernel_rfl) (by kernel_rfl) (by kernel_rfl)) ?_
  intro W base args ds gs before hval0 hW hcnd _
  have hval : ∀ (j : Nat) t v, Try.f4.params[j]? = some t → args[j]? = some v → Value.okWide Try.prog W .any base t v := hval0
  have hW' := hW
  obtain ⟨p, q, hA0, hV, rfl, hfz, hnd⟩ := hW
  have hA : DataW.TrodAll enc Try.prog W 0 (fun _ => true) true Try.f4.params.toList args.toList ds p := hA0
  rw [Try.params4] at hA hval
  obtain ⟨v0, vs0, d0, ds0, p0, q0, hargs, rfl, rfl, h0, r0⟩ := trodAll_cons hA
  obtain ⟨v1, vs1, d1, ds1, p1, q1, rfl, rfl, rfl, h1, r1⟩ := trodAll_cons r0
  obtain ⟨rfl, rfl, rfl⟩ := trodAll_nil r1
  obtain rfl : args = #[v0, v1] := by cases args; simp_all
  obtain ⟨rfl, rfl⟩ := trodVars_none hV
  have k0 := h0
  have lt0 : ∀ x ∈ p0, x.block < W.heap.size := by obtain ⟨m, hm⟩ := k0; exact DataW.trod_lt m _ _ _ hm
  obtain ⟨a0, rfl, rfl, rfl, w0⟩ := open_int Try.underlying31 (hval 0 31 v0 rfl rfl) h0
  have k1 := h1
  have lt1 : ∀ x ∈ p1, x.block < W.heap.size := by obtain ⟨m, hm⟩ := k1; exact DataW.trod_lt m _ _ _ hm
  obtain ⟨a1, rfl, rfl, rfl, w1⟩ := open_int Try.underlying5 (hval 1 5 v1 rfl rfl) h1
  clear hA0 hval0
  refine (walk W a0 w0 a1 w1).mono fun e W' ⟨he, bel⟩ => ?_
  subst he
  exact ⟨_, rfl, _, _, _, [], _, [], hW', trodAll_mk1 (shut_bool Try.underlying4 _), (trodAll_cons_mk (Below.trod laidOut (by kernel_rfl) (of_decide_eq_true (by kernel_rfl)) k0 bel lt0) (trodAll_cons_mk (Below.trod laidOut (by kernel_rfl) (of_decide_eq_true (by kernel_rfl)) k1 bel lt1) trodAll_mk0)), rfl, bel.frame _, fun h => by cases h⟩
theorem over : Rows.idsAllRow.holds Try.pinned (OpenSpec.ofChange Rows.idsAllSpec) :=
  OpenClaim.holds_of_wide 4 Try.f4 rfl rfl rfl rfl rfl rfl rfl ⟨rfl, rfl, rfl, rfl, rfl⟩ rfl rfl rfl rfl rfl (by kernel_rfl) Try.func4 (by kernel_rfl)
    (of_decide_eq_true (by kernel_rfl)) (by unfold Func.isWrapper; first | (rw [if_pos (by decide +kernel)]; kernel_rfl) | (rw [if_neg (by decide +kernel)]; exact ⟨rfl, rfl⟩))
    (fun os started H enc _ => lifted os started H enc)
/-- The statement. -/
theorem proved : Rows.IdsAllSaid := over
end Go.Proofs.Ytpafcabcnkmadaa.idsAll
