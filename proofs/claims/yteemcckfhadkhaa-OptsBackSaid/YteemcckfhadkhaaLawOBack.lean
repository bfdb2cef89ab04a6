/-
  For every row of options (the first 70, each with the first 260 bytes of its data) that is encoded opts.Decode of its bytes tells these options; for every row of bytes (its first 1500) that is decoded opts.Encode of its options tells these bytes (conciergelaw08.OptsBack answers true). No conditions.
-/
import Derived.Test.YteemcckfhadkhaaOpN
import Derived.Test.YteemcckfhadkhaaOpB
import Derived.Test.YteemcckfhadkhaaOpK
import Derived.Test.YteemcckfhadkhaaOpenO
import Derived.ProofKit
import Derived.OpenShut
import Derived.ChangeOld
import Derived.Deep.DeepCutAuto
namespace Go.Proofs.Yteemcckfhadkhaa.optsBack
open Go.ChangeShapes Go.WideShapes Go.ChangeAt Go.RowKit O
set_option linter.unusedVariables false
set_option linter.unusedSimpArgs false

set_option maxRecDepth 20000 in
set_option maxHeartbeats 8000000 in
theorem walk (W : World) (a0 : Option Addr) (n0 c0 : Nat) (ts0 : List Tg) (b0 : TR W (.slice a0 n0 c0) n0 ts0) (a1 : Option Addr) (n1 c1 : Nat) (l1 : List UInt8) (hn1 : l1.length = n1) (b1 : Bs W (.slice a1 n1 c1) l1) :
    Calls Try.prog 6 #[.slice a0 n0 c0, .slice a1 n1 c1] W fun e w' => e = .returned (.bool true) ∧ Below W.heap.size W w' := by
  have AW := Lib.hid awake_any
  have FW := Lib.hid (few_any a0 n0 c0 ts0 W b0)
  have hlen := fewT_len ts0
  have hsm : ∀ x ∈ fewT ts0, x.l.length ≤ 1000000 := fun x hx => Nat.le_trans (fewT_small ts0 x hx) (by decide)
  obtain ⟨m, x, hm, hx, u0, hc0⟩ := cut_in hn1 b1
  have HC0 := Lib.hid hc0
  have HX := Lib.hid hx
  have HU := Lib.hid u0
  clear b0 hn1 b1 u0 hc0 hx
  go_enter Try.func6, Try.ntmps6
  go_wp2_with fail
  refine FW.out.mono ?_
  rintro e w1 ⟨a2, c2, rfl, htr, hb1⟩
  generalize fewT ts0 = ts at htr hlen hsm ⊢
  obtain ⟨n, hn⟩ : ∃ n, n = ts.length := ⟨_, rfl⟩
  rw [← hn] at htr ⊢
  have HB1 := Lib.hid hb1
  have HT1 := Lib.hid htr
  have E1 := Lib.hid (encode_any a2 n c2 ts w1 HT1.out (by omega) hsm)
  clear hb1 htr hsm hn FW
  go_wp2_with fail
  refine (HC0.out _).mono ?_
  rintro e w1' ⟨rfl, rfl⟩
  go_wp2_with fail
  refine E1.out.mono ?_
  rintro e w2 ⟨v2, rfl, hown2, hb2⟩
  have HB2 := Lib.hid (HB1.out.trans (hb2.mono HB1.out.size))
  have HT2 := Lib.hid (HT1.out.below hb2)
  have HV2 := Lib.hid hown2.bs
  obtain ⟨A2, L2, C2, ev, hL2, _, _⟩ := hown2.bs.sl
  subst ev
  have HL2 := Lib.hid hL2
  obtain ⟨E, hEE⟩ : ∃ E, E = encE (plain ts) := ⟨_, rfl⟩
  rw [← hEE]
  have HEE := Lib.hid hEE
  clear hown2 hb2 hL2 hEE E1
  go_wp2_with fail
  refine (AW.out w2).mono ?_
  rintro e w3 ⟨rfl, hb3⟩
  have HB3 := Lib.hid (HB2.out.trans (hb3.mono HB2.out.size))
  have HT3 := Lib.hid (HT2.out.below hb3)
  have HV3 := Lib.hid (HV2.out.below hb3)
  clear hb3 HV2 HT2
  go_upto_if 25 with fail
  go_cut [25] (fun _ wx => Hid (Below W.heap.size W wx))
  case first =>
    by_cases hz : E = 0
    · have hz' : (E == 0) = true := by rw [hz]; rfl
      have hE0 : encE (plain ts) = 0 := by rw [← HEE.out]; exact hz
      have HDW := Lib.hid (dec_wire hE0)
      have hb : encB (plain ts) = wireT (plain ts) := encB_yes hE0
      have HEB := Lib.hid hb
      have hLs : L2 ≤ 1488 := by rw [← HL2.out]; exact encB_le _
      have DC := Lib.hid (decode_any A2 L2 C2 _ HL2.out w3 HV3.out (by omega))
      clear hz hE0 hb
      go_wp2_with fail
      refine DC.out.mono ?_
      rintro e w4 ⟨v4, rfl, ⟨us, hus, hto⟩, hb4⟩
      rw [HEB.out, HDW.out] at hus
      rw [HEB.out, HDW.out]
      have HB4 := Lib.hid (HB3.out.trans (hb4.mono HB3.out.size))
      obtain ⟨a4, c4, ev, _, _⟩ := hto.tr.shape
      subst ev
      have SM := rsame_any a4 a2 _ n c4 c2 us ts w4 hto.tr (HT3.out.below hb4)
      rw [decide_eq_true hus] at SM
      have HSM := Lib.hid SM
      clear hus hto hb4 SM DC
      go_wp2_with fail
      refine HSM.out.mono ?_
      rintro e w5 ⟨rfl, hb5⟩
      have HB5 := Lib.hid (HB4.out.trans (hb5.mono HB4.out.size))
      clear hb5
      go_wp2_with fail
      go_meet
      exact HB5.out
    · have hz' : (E == 0) = false := by simpa using hz
      clear hz
      go_wp2_with fail
      go_meet
      exact HB3.out
  case rest =>
    have HB5 := Lib.hid hcut.out
    have DC := Lib.hid (decode_any a1 m c1 x HX.out wc (HU.out.below HB5.out) (by omega))
    clear hcut HEE HB3 HT3 HV3 HL2
    go_wp2_with fail
    refine DC.out.mono ?_
    rintro e w6 ⟨v6, rfl, ⟨us, hus, hto⟩, hb6⟩
    have HB6 := Lib.hid (HB5.out.trans (hb6.mono HB5.out.size))
    obtain ⟨a6, c6, ev, _, _⟩ := hto.tr.shape
    obtain ⟨g, hg⟩ : ∃ g, g = (dec x).2 := ⟨_, rfl⟩
    rw [← hg]
    by_cases hz : g = 0
    · have hz' : (g != 0) = false := by rw [hz]; rfl
      have hd : dec x = (plain us, 0) := by rw [hus, ← hz, hg]
      obtain ⟨he, hw⟩ := dec_again hd
      obtain ⟨hf1, hf2⟩ := dec_few hd
      rw [plain_length] at hf1
      obtain ⟨N, hN⟩ : ∃ N, N = us.length := ⟨_, rfl⟩
      rw [← hN] at ev
      subst ev
      have EC := encode_any a6 N c6 us w6 (by have h := hto.tr; rwa [← hN] at h) (by omega) (fun y hy => Nat.le_trans (hf2 y.plain (List.mem_map.2 ⟨_, hy, rfl⟩)).2.2 (by decide))
      have HEC := Lib.hid EC
      have HE := Lib.hid he
      have HEB : Hid (encB (plain us) = x) := by show _ = _; rw [encB_yes he, hw]
      have HU6 := Lib.hid (HU.out.below HB6.out)
      clear hd he hw hf1 hf2 hN EC hus hto hb6 hg hz DC
      go_wp2_with fail
      refine HEC.out.mono ?_
      rintro e w7 ⟨v7, rfl, hown7, hb7⟩
      rw [HEB.out] at hown7
      rw [HE.out]
      have HB7 := Lib.hid (HB6.out.trans (hb7.mono HB6.out.size))
      obtain ⟨A7, L7, C7, ev, _, _, _⟩ := hown7.bs.sl
      subst ev
      have s1 := run_string_of (P := Try.prog) 23 9 5 Try.underlying23 Try.underlying5 Try.underlying9 hown7.bs
      have s2 := run_string_of (P := Try.prog) 23 9 5 Try.underlying23 Try.underlying5 Try.underlying9 (HU6.out.below hb7)
      clear hown7 hb7
      go_wp2
      go_ret
      exact ⟨rfl, HB7.out⟩
    · have hz' : (g != 0) = true := by rw [bne_iff_ne]; exact hz
      have hnil : (dec x).1 = [] := dec_err (by rw [← hg]; exact hz)
      have h0 : us.length = 0 := by rw [← plain_length, hus, hnil]; rfl
      rw [h0] at ev
      subst ev
      clear hus hto hb6 hg hz hnil h0 DC
      go_wp2
      go_ret
      exact ⟨rfl, HB6.out⟩

theorem own : ownKnob Try.prog.godebug = none := by kernel_rfl
theorem laidOut : laidOutB Try.prog = true := by kernel_rfl
set_option maxRecDepth 100000 in
theorem lifted (os : Os) (started : os.Started) (H : Type) (enc : TypeId × Value → H) :
    ReturnsInHanded {} Try.checked os 6 .any (Rows.optsBackSpec.pre6 enc Try.prog Try.f6 Rows.optsBackRow.domain false) (Rows.optsBackSpec.post enc Try.prog Try.f6 false true false false) := by
  refine returnsInHanded_of_change (C := Try.checked) own started (by kernel_rfl) Try.func6
    (ChangeSpec.witness6 (enc := enc) (C := Try.checked) false ⟨#[], #[.slice none 0 0, .slice none 0 0], []⟩ 8 (by kernel_rfl) (by kernel_rfl) (by kernel_rfl) (by kernel_rfl)) ?_
  intro W base args ds gs before hval0 hW hcnd _
  have hval : ∀ (j : Nat) t v, Try.f6.params[j]? = some t → args[j]? = some v → Value.okWide Try.prog W .any base t v := hval0
  have hW' := hW
  obtain ⟨p, q, hA0, hV, rfl, hfz, hnd⟩ := hW
  have hA : DataW.TrodAll enc Try.prog W 0 (fun _ => true) true Try.f6.params.toList args.toList ds p := hA0
  rw [Try.params6] at hA hval
  obtain ⟨v0, vs0, d0, ds0, p0, q0, hargs, rfl, rfl, h0, r0⟩ := trodAll_cons hA
  obtain ⟨v1, vs1, d1, ds1, p1, q1, rfl, rfl, rfl, h1, r1⟩ := trodAll_cons r0
  obtain ⟨rfl, rfl, rfl⟩ := trodAll_nil r1
  obtain rfl : args = #[v0, v1] := by cases args; simp_all
  obtain ⟨rfl, rfl⟩ := trodVars_none hV
  have k0 := h0
  have lt0 : ∀ x ∈ p0, x.block < W.heap.size := by obtain ⟨m, hm⟩ := k0; exact DataW.trod_lt m _ _ _ hm
  obtain ⟨a0, n0, c0, ts0, rfl, b0⟩ := O.open_opts Try.underlying22 Try.underlying36 ⟨rfl, rfl⟩ Try.underlying3 Try.underlying23 Try.underlying5 ⟨by kernel_rfl, by kernel_rfl, by kernel_rfl, by kernel_rfl⟩ (hval 0 22 v0 rfl rfl) h0
  have k1 := h1
  have lt1 : ∀ x ∈ p1, x.block < W.heap.size := by obtain ⟨m, hm⟩ := k1; exact DataW.trod_lt m _ _ _ hm
  obtain ⟨a1, n1, c1, l1, rfl, hn1, b1⟩ := open_bytes Try.underlying23 Try.underlying5 (by kernel_rfl) (hval 1 23 v1 rfl rfl) h1
  clear hA0 hval0
  refine (walk W a0 n0 c0 ts0 b0 a1 n1 c1 l1 hn1 b1).mono fun e W' ⟨he, bel⟩ => ?_
  subst he
  exact ⟨_, rfl, _, _, _, [], _, [], hW', trodAll_mk1 (shut_bool Try.underlying4 _), (trodAll_cons_mk (Below.trod laidOut (by kernel_rfl) (of_decide_eq_true (by kernel_rfl)) k0 bel lt0) (trodAll_cons_mk (Below.trod laidOut (by kernel_rfl) (of_decide_eq_true (by kernel_rfl)) k1 bel lt1) trodAll_mk0)), rfl, bel.frame _, fun h => by cases h⟩
theorem over : Rows.optsBackRow.holds Try.pinned (OpenSpec.ofChange Rows.optsBackSpec) :=
  OpenClaim.holds_of_wide 6 Try.f6 rfl rfl rfl rfl rfl rfl rfl ⟨rfl, rfl, rfl, rfl, rfl⟩ rfl rfl rfl rfl rfl (by kernel_rfl) Try.func6 (by kernel_rfl)
    (of_decide_eq_true (by kernel_rfl)) (by unfold Func.isWrapper; first | (rw [if_pos (by decide +kernel)]; kernel_rfl) | (rw [if_neg (by decide +kernel)]; exact ⟨rfl, rfl⟩))
    (fun os started H enc _ => lifted os started H enc)
/-- The statement. -/
theorem proved : Rows.OptsBackSaid := over
end Go.Proofs.Yteemcckfhadkhaa.optsBack
