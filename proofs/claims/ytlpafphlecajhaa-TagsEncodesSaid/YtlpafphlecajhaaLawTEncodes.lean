/-
  For every row of tags (the first 70, each with the first 1600 bytes of its value) tags.Encode tells the bytes that the document tells, and the same error (conciergelaw05.TagsEncodes answers true). No conditions.
-/
import Derived.Test.YtlpafphlecajhaaTagK
import Derived.Test.YtlpafphlecajhaaTagF
import Derived.Test.YtlpafphlecajhaaTagG
import Derived.Test.YtlpafphlecajhaaOpenT
import Derived.ProofKit
import Derived.OpenShut
import Derived.ChangeOld
namespace Go.Proofs.Ytlpafphlecajhaa.tagsEncodes
open Go.ChangeShapes Go.WideShapes Go.ChangeAt Go.RowKit
set_option linter.unusedVariables false
set_option linter.unusedSimpArgs false

set_option maxRecDepth 20000 in
set_option maxHeartbeats 4000000 in
theorem walk (W : World) (a0 : Option Addr) (n0 c0 : Nat) (ts0 : List Tg) (b0 : TR W (.slice a0 n0 c0) n0 ts0) :
    Calls Try.prog 3 #[.slice a0 n0 c0] W fun e w' => e = .returned (.bool true) ∧ Below W.heap.size W w' := by
  have AW := Lib.hid awake_any
  have FW := Lib.hid (few_any a0 n0 c0 ts0 W b0)
  have hlen := fewT_len ts0
  have hsm : ∀ x ∈ fewT ts0, x.l.length ≤ 1000000 := fun x hx => Nat.le_trans (fewT_small ts0 x hx) (by decide)
  clear b0
  go_enter Try.func3, Try.ntmps3
  go_wp2_with fail
  refine FW.out.mono ?_
  rintro e w1 ⟨a1, c1, rfl, htr, hb1⟩
  generalize fewT ts0 = ts at htr hlen hsm ⊢
  obtain ⟨n, hn⟩ : ∃ n, n = ts.length := ⟨_, rfl⟩
  rw [← hn] at htr ⊢
  have HB1 := Lib.hid hb1
  have HT1 := Lib.hid htr
  have E1 := Lib.hid (encode_any a1 n c1 ts w1 HT1.out (by omega) hsm)
  have E2 : Hid (∀ w', Below w1.heap.size w1 w' → Calls Try.prog 11 #[.slice a1 n c1] w' (EncR (plain ts) w')) := fun w' hw' => rencode_any a1 n c1 ts w' (HT1.out.below hw') (by omega) hsm
  clear hb1 htr hsm hn
  go_wp2_with fail
  refine E1.out.mono ?_
  rintro e w2 ⟨v2, rfl, hown2, hb2⟩
  have HB2 := Lib.hid (HB1.out.trans (hb2.mono HB1.out.size))
  have E3 := Lib.hid (E2.out w2 hb2)
  have HV2 := Lib.hid hown2.bs
  obtain ⟨A2, L2, C2, ev, _, _, _⟩ := hown2.bs.sl
  subst ev
  clear hown2 hb2
  go_wp2_with fail
  refine E3.out.mono ?_
  rintro e w3 ⟨v3, rfl, hown3, hb3⟩
  have HB3 := Lib.hid (HB2.out.trans (hb3.mono HB2.out.size))
  obtain ⟨A3, L3, C3, ev, _, _, _⟩ := hown3.bs.sl
  subst ev
  have s1 := run_string_of (P := Try.prog) 24 9 5 Try.underlying24 Try.underlying5 Try.underlying9 (HV2.out.below hb3)
  have s2 := run_string_of (P := Try.prog) 24 9 5 Try.underlying24 Try.underlying5 Try.underlying9 hown3.bs
  generalize encE (plain ts) = k
  generalize encB (plain ts) = q at s1 s2
  clear hown3 hb3
  go_wp2_with fail
  refine (AW.out w3).mono ?_
  rintro e w4 ⟨rfl, hb4⟩
  have HB4 := Lib.hid (HB3.out.trans (hb4.mono HB3.out.size))
  clear hb4
  go_wp2
  go_ret
  exact ⟨rfl, HB4.out⟩

theorem own : ownKnob Try.prog.godebug = none := by kernel_rfl
theorem laidOut : laidOutB Try.prog = true := by kernel_rfl
set_option maxRecDepth 100000 in
theorem lifted (os : Os) (started : os.Started) (H : Type) (enc : TypeId × Value → H) :
    ReturnsInHanded {} Try.checked os 3 .any (Rows.tagsEncodesSpec.pre6 enc Try.prog Try.f3 Rows.tagsEncodesRow.domain false) (Rows.tagsEncodesSpec.post enc Try.prog Try.f3 false true false false) := by
  refine returnsInHanded_of_change (C := Try.checked) own started (by kernel_rfl) Try.func3
    (ChangeSpec.witness6 (enc := enc) (C := Try.checked) false ⟨#[], #[.slice none 0 0], []⟩ 8 (by kernel_rfl) (by kernel_rfl) (by kernel_rfl) (by kernel_rfl)) ?_
  intro W base args ds gs before hval0 hW hcnd _
  have hval : ∀ (j : Nat) t v, Try.f3.params[j]? = some t → args[j]? = some v → Value.okWide Try.prog W .any base t v := hval0
  have hW' := hW
  obtain ⟨p, q, hA0, hV, rfl, hfz, hnd⟩ := hW
  have hA : DataW.TrodAll enc Try.prog W 0 (fun _ => true) true Try.f3.params.toList args.toList ds p := hA0
  rw [Try.params3] at hA hval
  obtain ⟨v0, vs0, d0, ds0, p0, q0, hargs, rfl, rfl, h0, r0⟩ := trodAll_cons hA
  obtain ⟨rfl, rfl, rfl⟩ := trodAll_nil r0
  obtain rfl : args = #[v0] := by cases args; simp_all
  obtain ⟨rfl, rfl⟩ := trodVars_none hV
  have k0 := h0
  have lt0 : ∀ x ∈ p0, x.block < W.heap.size := by obtain ⟨m, hm⟩ := k0; exact DataW.trod_lt m _ _ _ hm
  obtain ⟨a0, n0, c0, ts0, rfl, b0⟩ := open_tags Try.underlying22 Try.underlying34 ⟨rfl, rfl⟩ Try.underlying3 Try.underlying24 Try.underlying5 ⟨by kernel_rfl, by kernel_rfl, by kernel_rfl, by kernel_rfl⟩ (hval 0 22 v0 rfl rfl) h0
  clear hA0 hval0
  refine (walk W a0 n0 c0 ts0 b0).mono fun e W' ⟨he, bel⟩ => ?_
  subst he
  exact ⟨_, rfl, _, _, _, [], _, [], hW', trodAll_mk1 (shut_bool Try.underlying4 _), (trodAll_cons_mk (Below.trod laidOut (by kernel_rfl) (of_decide_eq_true (by kernel_rfl)) k0 bel lt0) trodAll_mk0), rfl, bel.frame _, fun h => by cases h⟩
theorem over : Rows.tagsEncodesRow.holds Try.pinned (OpenSpec.ofChange Rows.tagsEncodesSpec) :=
  OpenClaim.holds_of_wide 3 Try.f3 rfl rfl rfl rfl rfl rfl rfl ⟨rfl, rfl, rfl, rfl, rfl⟩ rfl rfl rfl rfl rfl (by kernel_rfl) Try.func3 (by kernel_rfl)
    (of_decide_eq_true (by kernel_rfl)) (by unfold Func.isWrapper; first | (rw [if_pos (by decide +kernel)]; kernel_rfl) | (rw [if_neg (by decide +kernel)]; exact ⟨rfl, rfl⟩))
    (fun os started H enc _ => lifted os started H enc)
/-- The statement. -/
theorem proved : Rows.TagsEncodesSaid := over
end Go.Proofs.Ytlpafphlecajhaa.tagsEncodes
