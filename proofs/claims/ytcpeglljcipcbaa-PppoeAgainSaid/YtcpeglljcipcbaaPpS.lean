/-
  The laws' example: a session's end, and a question.
-/
import Derived.Test.YtcpeglljcipcbaaPpR
import Derived.Test.YtcpeglljcipcbaaPpG
import Derived.Test.YtcpeglljcipcbaaPpA
namespace Go.Proofs.Ytcpeglljcipcbaa
open Go.RowKit
set_option linter.unusedVariables false
set_option linter.unusedSimpArgs false

def q10 : List UInt8 := [1, 1, 0, 1, 120, 1, 3, 0, 1, 117]
def t10 : List PT := [((257 : Int), [120]), (259, [117])]
theorem enc10 : encE t10 = 0 := by decide +kernel
theorem wire10 : wireT t10 = q10 := by decide +kernel
theorem dec10 : dec q10 = (t10, 0) := by rw [← wire10]; exact dec_wire enc10
theorem cli10 : cliP ⟨9, 0, q10⟩ = (⟨9, 0, ⟨#[120]⟩, [117], [], true, false, []⟩, 0) := by
  unfold cliP
  rw [dec10]
  rfl
theorem bt10 : (#[.int .u8 1, .int .u8 1, .int .u8 0, .int .u8 1, .int .u8 120, .int .u8 1, .int .u8 3, .int .u8 0, .int .u8 1, .int .u8 117] : Array Value) = (q10.map u8v).toArray := by kernel_rfl
theorem term258 : termP 258 = (⟨167, 258, []⟩, 0) := rfl
theorem penc258 : pencE ⟨167, 258, []⟩ = 0 := by decide +kernel
theorem pwire258 : wireP ⟨167, 258, []⟩ = [17, 167, 1, 2, 0, 0] := by decide +kernel

set_option maxRecDepth 20000 in
set_option maxHeartbeats 1000000 in
theorem awake_any (w : World) : Calls Try.prog 15 #[] w fun e w' => e = .returned (.bool true) ∧ Below w.heap.size w w' := by
  have TM := Lib.hid (terminate_any 258 w)
  go_enter Try.func15, Try.ntmps15
  go_wp2_with fail
  refine TM.out.mono ?_
  rintro e w1 ⟨A1, L1, C1, rfl, hown1, hb1⟩
  rw [term258] at hown1 ⊢
  obtain rfl : L1 = 0 := by
    obtain ⟨_, _, _, ev, hL1, _, _⟩ := hown1.bs.sl
    simp only [Value.slice.injEq] at ev
    obtain ⟨_, e2, _⟩ := ev
    rw [e2]; exact hL1.symm
  have HB1 := Lib.hid hb1
  have hE := (Below.refl w1.heap.size w1).alloc (Nat.le_refl _) (.cells #[.int .i64 167, .int .i64 258, .slice A1 0 C1] 24)
  have HB2 := Lib.hid (hb1.trans (hE.mono hb1.size))
  have EN := Lib.hid (pencode_any 167 258 A1 0 C1 [] rfl _ (hown1.bs.below hE) (by decide))
  clear TM hown1 hb1 hE
  go_wp2_with fail
  refine EN.out.mono ?_
  rintro e w3 ⟨v3, rfl, hown3, hb3⟩
  rw [pencB_yes penc258, pwire258] at hown3
  rw [penc258]
  obtain ⟨A3, L3, C3, ev, hL3, _, _⟩ := hown3.bs.sl
  obtain rfl : L3 = 6 := hL3.symm
  subst ev
  have HB3 := Lib.hid (HB2.out.trans (hb3.mono HB2.out.size))
  have hE := (Below.refl w3.heap.size w3).alloc (Nat.le_refl _) (.cells #[.int .u8 1, .int .u8 1, .int .u8 0, .int .u8 1, .int .u8 120, .int .u8 1, .int .u8 3, .int .u8 0, .int .u8 1, .int .u8 117] 5 (10, 11))
  have HV4 := Lib.hid (hown3.bs.below hE)
  have HB4 := Lib.hid (HB3.out.trans (hE.mono HB3.out.size))
  have hbs4 : Bs (w3.alloc (.cells #[.int .u8 1, .int .u8 1, .int .u8 0, .int .u8 1, .int .u8 120, .int .u8 1, .int .u8 3, .int .u8 0, .int .u8 1, .int .u8 117] 5 (10, 11))) (.slice (some ⟨w3.heap.size, 0, none⟩) 10 10) q10 := by
    have h := rd_newm w3 (q10.map u8v) 5 (10, 11) 10 1 rfl (by decide)
    rw [← bt10] at h
    exact Bs.of_rd h rfl
  have kc := Lib.run_convert_bytes_const (P := Try.prog) w3 22 5 #[.int .u8 1, .int .u8 1, .int .u8 0, .int .u8 1, .int .u8 120, .int .u8 1, .int .u8 3, .int .u8 0, .int .u8 1, .int .u8 117] 10 10 Try.underlying22 Try.underlying5
  have CL := Lib.hid (client_any 9 0 _ 10 10 q10 rfl _ hbs4 (by decide))
  clear EN hown3 hb3 hE hL3 hbs4
  go_wp2_with fail
  refine CL.out.mono ?_
  rintro e w5 ⟨d, rfl, hpl, hdo, hb5⟩
  rw [cli10] at hpl
  rw [cli10]
  have HB5 := Lib.hid (HB4.out.trans (hb5.mono HB4.out.size))
  obtain ⟨dc, ds, dv, ua, un, uc, ul, ra, rn, rc, rl, hu, hr, ka, kn, kc, kl⟩ := d
  obtain rfl : dc = 9 := congrArg DD.c hpl
  obtain rfl : ds = 0 := congrArg DD.s hpl
  obtain rfl : dv = ⟨#[120]⟩ := congrArg DD.v hpl
  obtain rfl : ul = [117] := congrArg DD.ul hpl
  obtain rfl : hu = true := congrArg DD.hu hpl
  obtain rfl : hr = false := congrArg DD.hr hpl
  have s1 := run_string_of (P := Try.prog) 22 9 5 Try.underlying22 Try.underlying5 Try.underlying9 ((HV4.out.below hb5).below ((Below.refl w5.heap.size w5).alloc (Nat.le_refl _) (.cells #[.int .i64 9, .int .i64 0, .string ⟨#[120]⟩, .slice ua un uc, .slice ra rn rc, .bool true, .bool false, .slice ka kn kc] 36)))
  have s2 := run_string_of (P := Try.prog) 22 9 5 Try.underlying22 Try.underlying5 Try.underlying9 (hdo.u.bs.below ((Below.refl w5.heap.size w5).alloc (Nat.le_refl _) (.cells #[.int .i64 9, .int .i64 0, .string ⟨#[120]⟩, .slice ua un uc, .slice ra rn rc, .bool true, .bool false, .slice ka kn kc] 36)))
  have HB6 := Lib.hid (HB5.out.trans (((Below.refl w5.heap.size w5).alloc (Nat.le_refl _) (.cells #[.int .i64 9, .int .i64 0, .string ⟨#[120]⟩, .slice ua un uc, .slice ra rn rc, .bool true, .bool false, .slice ka kn kc] 36)).mono HB5.out.size))
  clear hpl hdo hb5 CL HV4
  go_wp2
  go_ret
  exact ⟨rfl, HB6.out⟩
end Go.Proofs.Ytcpeglljcipcbaa
