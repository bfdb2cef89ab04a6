/-
  For every row of options (the first 70, each with the first 260 bytes of its data) opts.Encode tells the bytes that the document tells, and the same error; for every row of bytes (its first 1500) opts.Decode tells the options that the document tells, and the same error (conciergelaw08.OptsCodes answers true). No conditions.
-/
import Derived.Test.YteemcckfhadkhaaOpN
import Derived.Test.YteemcckfhadkhaaOpD
import Derived.Test.YteemcckfhadkhaaOpG
import Derived.Test.YteemcckfhadkhaaOpB
import Derived.Test.YteemcckfhadkhaaOpK
import Derived.Test.YteemcckfhadkhaaOpenO
import Derived.ProofKit
import Derived.OpenShut
import Derived.ChangeOld
namespace Go.Proofs.Yteemcckfhadkhaa.optsCodes
open Go.ChangeShapes Go.WideShapes Go.ChangeAt Go.RowKit O
set_option linter.unusedVariables false
set_option linter.unusedSimpArgs false

set_option maxRecDepth 20000 in
set_option maxHeartbeats 4000000 in
theorem walk (W : World) (a0 : Option Addr) (n0 c0 : Nat) (ts0 : List Tg) (b0 : TR W (.slice a0 n0 c0) n0 ts0) (a1 : Option Addr) (n1 c1 : Nat) (l1 : List UInt8) (hn1 : l1.length = n1) (b1 : Bs W (.slice a1 n1 c1) l1) :
    Calls Try.prog 3 #[.slice a0 n0 c0, .slice a1 n1 c1] W fun e w' => e = .returned (.bool true) ∧ Below W.heap.size W w' := by
  have AW := Lib.hid awake_any
  have FW := Lib.hid (few_any a0 n0 c0 ts0 W b0)
  have hlen := fewT_len ts0
  have hsm : ∀ x ∈ fewT ts0, x.l.length ≤ 1000000 := fun x hx => Nat.le_trans (fewT_small ts0 x hx) (by decide)
  obtain ⟨m, x, hm, hx, u0, hc0⟩ := cut_in hn1 b1
  have HC0 := Lib.hid hc0
  have HX := Lib.hid hx
  have HU := Lib.hid u0
  clear b0 hn1 b1 u0 hc0 hx
  go_enter Try.func3, Try.ntmps3
  go_wp2_with fail
  refine FW.out.mono ?_
  rintro e w1 ⟨a2, c2, rfl, htr, hb1⟩
  generalize fewT ts0 = ts at htr hlen hsm ⊢
  obtain ⟨n, hn⟩ : ∃ n, n = ts.length := ⟨_, rfl⟩
  rw [← hn] at htr ⊢
  have HB1 := Lib.hid hb1
  have HT1 := Lib.hid htr
  have E1 := Lib.hid (encode_any a2 n c2 ts w1 HT1.out (by omega) hsm)
  have E2 : Hid (∀ w', Below w1.heap.size w1 w' → Calls Try.prog 13 #[.slice a2 n c2] w' (EncR (plain ts) w')) := fun w' hw' => rencode_any a2 n c2 ts w' (HT1.out.below hw') (by omega) hsm
  clear hb1 htr hsm hn
  go_wp2_with fail
  refine (HC0.out _).mono ?_
  rintro e w1' ⟨rfl, rfl⟩
  go_wp2_with fail
  refine E1.out.mono ?_
  rintro e w2 ⟨v2, rfl, hown2, hb2⟩
  have HB2 := Lib.hid (HB1.out.trans (hb2.mono HB1.out.size))
  have E3 := Lib.hid (E2.out w2 hb2)
  have HV2 := Lib.hid hown2.bs
  obtain ⟨A2, L2, C2, ev, _, _, _⟩ := hown2.bs.sl
  subst ev
  clear hown2 hb2
  go_wp2_with fail
  refine E3.out.mono ?_
  rintro e w3 ⟨v3, rfl, hown3, hb3⟩
  have HB3 := Lib.hid (HB2.out.trans (hb3.mono HB2.out.size))
  obtain ⟨A3, L3, C3, ev, _, _, _⟩ := hown3.bs.sl
  subst ev
  have HV3 := Lib.hid (HV2.out.below hb3)
  have HR3 := Lib.hid hown3.bs
  generalize encE (plain ts) = k at *
  generalize encB (plain ts) = q at HV3 HR3
  clear hown3 hb3 HV2
  go_wp2_with fail
  refine (decode_any a1 m c1 x HX.out w3 (HU.out.below HB3.out) (by omega)).mono ?_
  rintro e w4 ⟨v4, rfl, ⟨us, hus, hto⟩, hb4⟩
  have HB4 := Lib.hid (HB3.out.trans (hb4.mono HB3.out.size))
  obtain ⟨a4, c4, ev, _, _⟩ := hto.tr.shape
  subst ev
  have HT4 := Lib.hid hto.tr
  have HUS := Lib.hid hus
  have HV4 := Lib.hid (HV3.out.below hb4)
  have HR4 := Lib.hid (HR3.out.below hb4)
  clear hto hus hb4
  go_wp2_with fail
  refine (rdecode_any a1 m c1 x HX.out w4 (HU.out.below HB4.out) (by omega)).mono ?_
  rintro e w5 ⟨v5, rfl, ⟨vs, hvs, hto⟩, hb5⟩
  have HB5 := Lib.hid (HB4.out.trans (hb5.mono HB4.out.size))
  obtain ⟨a5, c5, ev, _, _⟩ := hto.tr.shape
  subst ev
  have HT5 := Lib.hid (HT4.out.below hb5)
  have HR5 := Lib.hid hto.tr
  have hE : decide (plain us = plain vs) = true := decide_eq_true (by rw [HUS.out, hvs])
  have SM := Lib.hid (rsame_any a4 a5 _ _ c4 c5 us vs w5 HT5.out HR5.out)
  rw [hE] at SM
  have s1 := run_string_of (P := Try.prog) 23 9 5 Try.underlying23 Try.underlying5 Try.underlying9 (HV4.out.below hb5)
  have s2 := run_string_of (P := Try.prog) 23 9 5 Try.underlying23 Try.underlying5 Try.underlying9 (HR4.out.below hb5)
  generalize (dec x).2 = g
  clear hto hvs hb5 hE
  go_wp2_with fail
  refine SM.out.mono ?_
  rintro e w6 ⟨rfl, hb6⟩
  have HB6 := Lib.hid (HB5.out.trans (hb6.mono HB5.out.size))
  clear hb6 s1 s2
  go_wp2_with fail
  refine (AW.out w6).mono ?_
  rintro e w7 ⟨rfl, hb7⟩
  have HB7 := Lib.hid (HB6.out.trans (hb7.mono HB6.out.size))
  clear hb7
  go_wp2
  go_ret
  exact ⟨rfl, HB7.out⟩

theorem own : ownKnob Try.prog.godebug = none := by kernel_rfl
theorem laidOut : laidOutB Try.prog = true := by kernel_rfl
set_option maxRecDepth 100000 in
theorem lifted (os : Os) (started : os.Started) (H : Type) (enc : TypeId × Value → H) :
    ReturnsInHanded {} Try.checked os 3 .any (Rows.optsCodesSpec.pre6 enc Try.prog Try.f3 Rows.optsCodesRow.domain false) (Rows.optsCodesSpec.post enc Try.prog Try.f3 false true false false) := by
  refine returnsInHanded_of_change (C := Try.checked) own started (by kernel_rfl) Try.func3
    (ChangeSpec.witness6 (enc := enc) (C := Try.checked) false ⟨#[], #[.slice none 0 0, .slice none 0 0], []⟩ 8 (by kernel_rfl) (by kernel_rfl) (by kernel_rfl) (by kernel_rfl)) ?_
  intro W base args ds gs before hval0 hW hcnd _
  have hval : ∀ (j : Nat) t v, Try.f3.params[j]? = some t → args[j]? = some v → Value.okWide Try.prog W .any base t v := hval0
  have hW' := hW
  obtain ⟨p, q, hA0, hV, rfl, hfz, hnd⟩ := hW
  have hA : DataW.TrodAll enc Try.prog W 0 (fun _ => true) true Try.f3.params.toList args.toList ds p := hA0
  rw [Try.params3] at hA hval
  obtain ⟨v0, vs0, d0, ds0, p0, q0, hargs, rfl, rfl, h0, r0⟩ := trodAll_cons hA
  obtain ⟨v1, vs1, d1, ds1, p1, q1, rfl, rfl, rfl, h1, r1⟩ := trodAll_cons r0
  obtain ⟨rfl, rfl, rfl⟩ := trodAll_nil r1
  obtain rfl : args = #[v0, v1] := by cases args; simp_all
  obtain ⟨rfl, rfl⟩ := trodVars_none hV
  have k0 := h0
  have lt0 : ∀ x ∈ p0, x.block < W.heap.size := by obtain ⟨m, hm⟩ := k0; exact DataW.trod_lt m _ _ _ hm
  obtain ⟨a0, n0, c0, ts0, rfl, b0⟩ := O.open_opts Try.underlying22 Try.underlying36 ⟨rfl, rfl⟩ Try.underlying3 Try.underlying23 Try.underlying5 ⟨by kernel_rfl, by kernel_rfl, by kernel_rfl, by kernel_rfl⟩ (hval 0 22 v0 rfl rfl) h0
  have k1 := h1
  have lt1 : ∀ x ∈ p1, x.block < W.heap.size := by obtain ⟨m, hm⟩ := k1; exact DataW.trod_lt m _ _ _ hm
  obtain ⟨a1, n1, c1, l1, rfl, hn1, b1⟩ := open_bytes Try.underlying23 Try.underlying5 (by kernel_rfl) (hval 1 23 v1 rfl rfl) h1
  clear hA0 hval0
  refine (walk W a0 n0 c0 ts0 b0 a1 n1 c1 l1 hn1 b1).mono fun e W' ⟨he, bel⟩ => ?_
  subst he
  exact ⟨_, rfl, _, _, _, [], _, [], hW', trodAll_mk1 (shut_bool Try.underlying4 _), (trodAll_cons_mk (Below.trod laidOut (by kernel_rfl) (of_decide_eq_true (by kernel_rfl)) k0 bel lt0) (trodAll_cons_mk (Below.trod laidOut (by kernel_rfl) (of_decide_eq_true (by kernel_rfl)) k1 bel lt1) trodAll_mk0)), rfl, bel.frame _, fun h => by cases h⟩
theorem over : Rows.optsCodesRow.holds Try.pinned (OpenSpec.ofChange Rows.optsCodesSpec) :=
  OpenClaim.holds_of_wide 3 Try.f3 rfl rfl rfl rfl rfl rfl rfl ⟨rfl, rfl, rfl, rfl, rfl⟩ rfl rfl rfl rfl rfl (by kernel_rfl) Try.func3 (by kernel_rfl)
    (of_decide_eq_true (by kernel_rfl)) (by unfold Func.isWrapper; first | (rw [if_pos (by decide +kernel)]; kernel_rfl) | (rw [if_neg (by decide +kernel)]; exact ⟨rfl, rfl⟩))
    (fun os started H enc _ => lifted os started H enc)
/-- The statement. -/
theorem proved : Rows.OptsCodesSaid := over
end Go.Proofs.Yteemcckfhadkhaa.optsCodes
