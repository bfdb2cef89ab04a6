/-
  For every two rows of options (the first 20 of each, each with the first 20 bytes of its data) and every code nego.Learn tells the options that the document tells, and whether anything was learned (conciergelaw15.NegoLearns answers true). No conditions.
-/
import Derived.Test.YtbldcjngccmhpaaNgT
import Derived.Test.YtbldcjngccmhpaaNgV
import Derived.Test.YtbldcjngccmhpaaNgW
import Derived.Test.YtbldcjngccmhpaaOpenN
import Derived.ProofKit
import Derived.OpenShut
import Derived.ChangeOld
namespace Go.Proofs.Ytbldcjngccmhpaa.negoLearns
open Go.ChangeShapes Go.WideShapes Go.ChangeAt Go.RowKit O Ng
set_option linter.unusedVariables false
set_option linter.unusedSimpArgs false

set_option maxRecDepth 20000 in
set_option maxHeartbeats 4000000 in
theorem walk (W : World) (a0 : Option Addr) (n0 c0 : Nat) (ts0 : List Tg) (b0 : TR W (.slice a0 n0 c0) n0 ts0) (i0 : ∀ x ∈ ts0, I64 x.typ) (a1 : Int) (w1 : (Lit.int .i64 a1).wf = true) (a2 : Option Addr) (n2 c2 : Nat) (ts2 : List Tg) (b2 : TR W (.slice a2 n2 c2) n2 ts2) (i2 : ∀ x ∈ ts2, I64 x.typ) :
    Calls Try.prog 4 #[.slice a0 n0 c0, .int .i64 a1, .slice a2 n2 c2] W fun e w' => e = .returned (.bool true) ∧ Below W.heap.size W w' := by
  have AW := Lib.hid awake_any
  have OP := Lib.hid (opts_any a0 n0 c0 ts0 W b0 i0)
  have HB2' := Lib.hid b2
  have HI2' := Lib.hid i2
  clear b0 b2 i0 i2 w1
  go_enter Try.func4, Try.ntmps4
  go_wp2_with fail
  refine OP.out.mono ?_
  rintro e w2 ⟨a4, n, c4, qs, rfl, htr, hn20, hlen, hi, hb2⟩
  have HB2 := Lib.hid hb2
  have HQ2 := Lib.hid htr
  have HQL : Hid (∀ x ∈ qs, x.l.length ≤ 1000) := fun x hx => Nat.le_trans (hlen x hx) (by decide)
  have HQI := Lib.hid hi
  have hn : n ≤ 1000 := by omega
  have OP2 := Lib.hid (opts_any a2 n2 c2 ts2 w2 (HB2'.out.below hb2) HI2'.out)
  clear hb2 htr hlen hi OP HB2' HI2'
  go_wp2_with fail
  refine OP2.out.mono ?_
  rintro e w3 ⟨a5, m, c5, ts, rfl, htr, hm20, hlen, hi, hb3⟩
  have HB3 := Lib.hid (HB2.out.trans (hb3.mono HB2.out.size))
  have HQ3 := Lib.hid (HQ2.out.below hb3)
  have HT3 := Lib.hid htr
  have hm : m ≤ 1000 := by omega
  have L1 := Lib.hid (learn_any a4 n c4 qs a1 a5 m c5 ts w3 HQ3.out htr hn hm HQL.out (fun x hx => Nat.le_trans (hlen x hx) (by decide)) HQI.out hi)
  clear hb3 htr hlen hi OP2 HQ2 HB2
  go_wp2_with fail
  refine L1.out.mono ?_
  rintro e w4 ⟨v4, us4, rfl, hp4, hto4, hb4⟩
  obtain ⟨x4, y4, ev, _, _⟩ := hto4.tr.shape
  subst ev
  have HP4 := Lib.hid hp4
  have HB4 := Lib.hid (HB3.out.trans (hb4.mono HB3.out.size))
  have HU4 := Lib.hid hto4.tr
  have L2 := Lib.hid (rlearn_any a4 n c4 qs a1 a5 m c5 ts w4 (HQ3.out.below hb4) (HT3.out.below hb4) hn hm)
  clear hp4 hto4 hb4 L1 HQ3 HT3 HB3
  obtain ⟨K, hK⟩ : ∃ K, K = (lrn (plain qs) a1 (plain ts)).2 := ⟨_, rfl⟩
  have HK := Lib.hid hK
  rw [← hK]
  clear hK
  obtain ⟨N4, hN4⟩ : ∃ N, N = us4.length := ⟨_, rfl⟩
  rw [← hN4] at HU4 ⊢
  clear hN4
  go_wp2_with fail
  refine L2.out.mono ?_
  rintro e w5 ⟨x5, N5, y5, us5, rfl, hp5, htr5, hb5⟩
  rw [← HK.out]
  have HB5 := Lib.hid (HB4.out.trans (hb5.mono HB4.out.size))
  have SM := rsame_any x4 x5 N4 N5 y4 y5 us4 us5 w5 (HU4.out.below hb5) htr5
  rw [decide_eq_true (HP4.out.trans hp5.symm)] at SM
  have HSM := Lib.hid SM
  clear hp5 htr5 hb5 SM L2 HU4
  go_wp2_with fail
  refine HSM.out.mono ?_
  rintro e w6 ⟨rfl, hb6⟩
  have HB6 := Lib.hid (HB5.out.trans (hb6.mono HB5.out.size))
  clear hb6
  go_wp2_with fail
  refine (AW.out w6).mono ?_
  rintro e w7 ⟨rfl, hb7⟩
  have HB7 := Lib.hid (HB6.out.trans (hb7.mono HB6.out.size))
  clear hb7
  go_wp2
  go_ret
  exact ⟨rfl, HB7.out⟩

theorem own : ownKnob Try.prog.godebug = none := by kernel_rfl
theorem laidOut : laidOutB Try.prog = true := by kernel_rfl
set_option maxRecDepth 100000 in
theorem lifted (os : Os) (started : os.Started) (H : Type) (enc : TypeId × Value → H) :
    ReturnsInHanded {} Try.checked os 4 .any (Rows.negoLearnsSpec.pre6 enc Try.prog Try.f4 Rows.negoLearnsRow.domain false) (Rows.negoLearnsSpec.post enc Try.prog Try.f4 false true false false) := by
  refine returnsInHanded_of_change (C := Try.checked) own started (by kernel_rfl) Try.func4
    (ChangeSpec.witness6 (enc := enc) (C := Try.checked) false ⟨#[], #[.slice none 0 0, .int .i64 0, .slice none 0 0], []⟩ 8 (by kernel_rfl) (by kernel_rfl) (by kernel_rfl) (by kernel_rfl)) ?_
  intro W base args ds gs before hval0 hW hcnd _
  have hval : ∀ (j : Nat) t v, Try.f4.params[j]? = some t → args[j]? = some v → Value.okWide Try.prog W .any base t v := hval0
  have hW' := hW
  obtain ⟨p, q, hA0, hV, rfl, hfz, hnd⟩ := hW
  have hA : DataW.TrodAll enc Try.prog W 0 (fun _ => true) true Try.f4.params.toList args.toList ds p := hA0
  rw [Try.params4] at hA hval
  obtain ⟨v0, vs0, d0, ds0, p0, q0, hargs, rfl, rfl, h0, r0⟩ := trodAll_cons hA
  obtain ⟨v1, vs1, d1, ds1, p1, q1, rfl, rfl, rfl, h1, r1⟩ := trodAll_cons r0
  obtain ⟨v2, vs2, d2, ds2, p2, q2, rfl, rfl, rfl, h2, r2⟩ := trodAll_cons r1
  obtain ⟨rfl, rfl, rfl⟩ := trodAll_nil r2
  obtain rfl : args = #[v0, v1, v2] := by cases args; simp_all
  obtain ⟨rfl, rfl⟩ := trodVars_none hV
  have k0 := h0
  have lt0 : ∀ x ∈ p0, x.block < W.heap.size := by obtain ⟨m, hm⟩ := k0; exact DataW.trod_lt m _ _ _ hm
  obtain ⟨a0, n0, c0, ts0, rfl, b0, i0⟩ := Ng.open_optw Try.underlying23 Try.underlying42 ⟨rfl, rfl⟩ Try.underlying3 Try.underlying40 Try.underlying5 ⟨by kernel_rfl, by kernel_rfl, by kernel_rfl, by kernel_rfl⟩ (hval 0 23 v0 rfl rfl) h0
  have k1 := h1
  have lt1 : ∀ x ∈ p1, x.block < W.heap.size := by obtain ⟨m, hm⟩ := k1; exact DataW.trod_lt m _ _ _ hm
  obtain ⟨a1, rfl, rfl, rfl, w1⟩ := open_int Try.underlying3 (hval 1 3 v1 rfl rfl) h1
  have k2 := h2
  have lt2 : ∀ x ∈ p2, x.block < W.heap.size := by obtain ⟨m, hm⟩ := k2; exact DataW.trod_lt m _ _ _ hm
  obtain ⟨a2, n2, c2, ts2, rfl, b2, i2⟩ := Ng.open_optw Try.underlying23 Try.underlying42 ⟨rfl, rfl⟩ Try.underlying3 Try.underlying40 Try.underlying5 ⟨by kernel_rfl, by kernel_rfl, by kernel_rfl, by kernel_rfl⟩ (hval 2 23 v2 rfl rfl) h2
  clear hA0 hval0
  refine (walk W a0 n0 c0 ts0 b0 i0 a1 w1 a2 n2 c2 ts2 b2 i2).mono fun e W' ⟨he, bel⟩ => ?_
  subst he
  exact ⟨_, rfl, _, _, _, [], _, [], hW', trodAll_mk1 (shut_bool Try.underlying4 _), (trodAll_cons_mk (Below.trod laidOut (by kernel_rfl) (of_decide_eq_true (by kernel_rfl)) k0 bel lt0) (trodAll_cons_mk (Below.trod laidOut (by kernel_rfl) (of_decide_eq_true (by kernel_rfl)) k1 bel lt1) (trodAll_cons_mk (Below.trod laidOut (by kernel_rfl) (of_decide_eq_true (by kernel_rfl)) k2 bel lt2) trodAll_mk0))), rfl, bel.frame _, fun h => by cases h⟩
theorem over : Rows.negoLearnsRow.holds Try.pinned (OpenSpec.ofChange Rows.negoLearnsSpec) :=
  OpenClaim.holds_of_wide 4 Try.f4 rfl rfl rfl rfl rfl rfl rfl ⟨rfl, rfl, rfl, rfl, rfl⟩ rfl rfl rfl rfl rfl (by kernel_rfl) Try.func4 (by kernel_rfl)
    (of_decide_eq_true (by kernel_rfl)) (by unfold Func.isWrapper; first | (rw [if_pos (by decide +kernel)]; kernel_rfl) | (rw [if_neg (by decide +kernel)]; exact ⟨rfl, rfl⟩))
    (fun os started H enc _ => lifted os started H enc)
/-- The statement. -/
theorem proved : Rows.NegoLearnsSaid := over
end Go.Proofs.Ytbldcjngccmhpaa.negoLearns
