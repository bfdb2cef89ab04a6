/-
  For every row of bytes (its first 1600) tags.Decode tells the tags that the document tells, and the same error (conciergelaw05.TagsDecodes answers true). No conditions.
-/
import Derived.Test.YtlpafphlecajhaaTagK
import Derived.Test.YtlpafphlecajhaaTagJ
import Derived.Test.YtlpafphlecajhaaTagG
import Derived.ProofKit
import Derived.OpenShut
import Derived.ChangeOld
namespace Go.Proofs.Ytlpafphlecajhaa.tagsDecodes
open Go.ChangeShapes Go.WideShapes Go.ChangeAt Go.RowKit
set_option linter.unusedVariables false
set_option linter.unusedSimpArgs false

set_option maxRecDepth 20000 in
set_option maxHeartbeats 4000000 in
theorem walk (W : World) (a0 : Option Addr) (n0 c0 : Nat) (l0 : List UInt8) (hn0 : l0.length = n0) (b0 : Bs W (.slice a0 n0 c0) l0) :
    Calls Try.prog 5 #[.slice a0 n0 c0] W fun e w' => e = .returned (.bool true) ∧ Below W.heap.size W w' := by
  obtain ⟨m, x, hm, hx, u0, hc0⟩ := cut_in hn0 b0
  have HC0 := Lib.hid hc0
  have HX := Lib.hid hx
  have HU := Lib.hid u0
  have AW := Lib.hid awake_any
  clear hn0 b0 u0 hc0 hx
  go_enter Try.func5, Try.ntmps5
  go_wp2_with fail
  refine (HC0.out _).mono ?_
  rintro e w' ⟨rfl, rfl⟩
  go_wp2_with fail
  refine (decode_any a0 m c0 x HX.out W HU.out (by omega)).mono ?_
  rintro e w1 ⟨v1, rfl, ⟨ts, hts, hto⟩, hb1⟩
  have HB1 := Lib.hid hb1
  obtain ⟨a1, c1, ev, _, _⟩ := hto.tr.shape
  subst ev
  have HT1 := Lib.hid hto.tr
  have HTS := Lib.hid hts
  clear hto hts hb1
  go_wp2_with fail
  refine (rdecode_any a0 m c0 x HX.out w1 (HU.out.below HB1.out) (by omega)).mono ?_
  rintro e w2 ⟨v2, rfl, ⟨us, hus, hto⟩, hb2⟩
  have HB2 := Lib.hid (HB1.out.trans (hb2.mono HB1.out.size))
  obtain ⟨a2, c2, ev, _, _⟩ := hto.tr.shape
  subst ev
  have HT2 := Lib.hid (HT1.out.below hb2)
  have HR2 := Lib.hid hto.tr
  have HE : Hid (plain ts = plain us) := by show _ = _; rw [HTS.out, hus]
  generalize (dec x).2 = k
  clear hto hus hb2
  go_wp2_with fail
  refine (same_true a1 a2 _ _ c1 c2 ts us w2 HT2.out HR2.out HE.out).mono ?_
  rintro e w3 ⟨rfl, hb3⟩
  have HB3 := Lib.hid (HB2.out.trans (hb3.mono HB2.out.size))
  clear hb3
  go_wp2_with fail
  refine (AW.out w3).mono ?_
  rintro e w4 ⟨rfl, hb4⟩
  have HB4 := Lib.hid (HB3.out.trans (hb4.mono HB3.out.size))
  clear hb4
  go_wp2
  go_ret
  exact ⟨rfl, HB4.out⟩

theorem own : ownKnob Try.prog.godebug = none := by kernel_rfl
theorem laidOut : laidOutB Try.prog = true := by kernel_rfl
set_option maxRecDepth 100000 in
theorem lifted (os : Os) (started : os.Started) (H : Type) (enc : TypeId × Value → H) :
    ReturnsInHanded {} Try.checked os 5 .any (Rows.tagsDecodesSpec.pre6 enc Try.prog Try.f5 Rows.tagsDecodesRow.domain false) (Rows.tagsDecodesSpec.post enc Try.prog Try.f5 false true false false) := by
  refine returnsInHanded_of_change (C := Try.checked) own started (by kernel_rfl) Try.func5
    (ChangeSpec.witness6 (enc := enc) (C := Try.checked) false ⟨#[], #[.slice none 0 0], []⟩ 8 (by kernel_rfl) (by kernel_rfl) (by kernel_rfl) (by kernel_rfl)) ?_
  intro W base args ds gs before hval0 hW hcnd _
  have hval : ∀ (j : Nat) t v, Try.f5.params[j]? = some t → args[j]? = some v → Value.okWide Try.prog W .any base t v := hval0
  have hW' := hW
  obtain ⟨p, q, hA0, hV, rfl, hfz, hnd⟩ := hW
  have hA : DataW.TrodAll enc Try.prog W 0 (fun _ => true) true Try.f5.params.toList args.toList ds p := hA0
  rw [Try.params5] at hA hval
  obtain ⟨v0, vs0, d0, ds0, p0, q0, hargs, rfl, rfl, h0, r0⟩ := trodAll_cons hA
  obtain ⟨rfl, rfl, rfl⟩ := trodAll_nil r0
  obtain rfl : args = #[v0] := by cases args; simp_all
  obtain ⟨rfl, rfl⟩ := trodVars_none hV
  have k0 := h0
  have lt0 : ∀ x ∈ p0, x.block < W.heap.size := by obtain ⟨m, hm⟩ := k0; exact DataW.trod_lt m _ _ _ hm
  obtain ⟨a0, n0, c0, l0, rfl, hn0, b0⟩ := open_bytes Try.underlying24 Try.underlying5 (by kernel_rfl) (hval 0 24 v0 rfl rfl) h0
  clear hA0 hval0
  refine (walk W a0 n0 c0 l0 hn0 b0).mono fun e W' ⟨he, bel⟩ => ?_
  subst he
  exact ⟨_, rfl, _, _, _, [], _, [], hW', trodAll_mk1 (shut_bool Try.underlying4 _), (trodAll_cons_mk (Below.trod laidOut (by kernel_rfl) (of_decide_eq_true (by kernel_rfl)) k0 bel lt0) trodAll_mk0), rfl, bel.frame _, fun h => by cases h⟩
theorem over : Rows.tagsDecodesRow.holds Try.pinned (OpenSpec.ofChange Rows.tagsDecodesSpec) :=
  OpenClaim.holds_of_wide 5 Try.f5 rfl rfl rfl rfl rfl rfl rfl ⟨rfl, rfl, rfl, rfl, rfl⟩ rfl rfl rfl rfl rfl (by kernel_rfl) Try.func5 (by kernel_rfl)
    (of_decide_eq_true (by kernel_rfl)) (by unfold Func.isWrapper; first | (rw [if_pos (by decide +kernel)]; kernel_rfl) | (rw [if_neg (by decide +kernel)]; exact ⟨rfl, rfl⟩))
    (fun os started H enc _ => lifted os started H enc)
/-- The statement. -/
theorem proved : Rows.TagsDecodesSaid := over
end Go.Proofs.Ytlpafphlecajhaa.tagsDecodes
