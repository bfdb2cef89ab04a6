/-
  For every two rows of options (the first 70 of each, each with the first 260 bytes of its data) and every type opts.Find tells the option that the document tells, and opts.Same tells what the document tells (conciergelaw08.OptsFinds answers true). No conditions.
-/
import Derived.Test.YteemcckfhadkhaaOpN
import Derived.Test.YteemcckfhadkhaaOpB
import Derived.Test.YteemcckfhadkhaaOpJ
import Derived.Test.YteemcckfhadkhaaOpK
import Derived.Test.YteemcckfhadkhaaOpenO
import Derived.ProofKit
import Derived.OpenShut
import Derived.ChangeOld
namespace Go.Proofs.Yteemcckfhadkhaa.optsFinds
open Go.ChangeShapes Go.WideShapes Go.ChangeAt Go.RowKit O
set_option linter.unusedVariables false
set_option linter.unusedSimpArgs false

set_option maxRecDepth 20000 in
set_option maxHeartbeats 4000000 in
theorem walk (W : World) (a0 : Option Addr) (n0 c0 : Nat) (ts0 : List Tg) (b0 : TR W (.slice a0 n0 c0) n0 ts0) (a1 : Option Addr) (n1 c1 : Nat) (ts1 : List Tg) (b1 : TR W (.slice a1 n1 c1) n1 ts1) (a2 : Int) (w2 : (Lit.int .i64 a2).wf = true) :
    Calls Try.prog 5 #[.slice a0 n0 c0, .slice a1 n1 c1, .int .i64 a2] W fun e w' => e = .returned (.bool true) ∧ Below W.heap.size W w' := by
  have AW := Lib.hid awake_any
  have FW := Lib.hid (few_any a0 n0 c0 ts0 W b0)
  have hlen := fewT_len ts0
  have hsm : ∀ x ∈ fewT ts0, x.l.length ≤ 140737488351232 := fun x hx => Nat.le_trans (fewT_small ts0 x hx) (by decide)
  have HB1' := Lib.hid b1
  clear b0 b1 w2
  go_enter Try.func5, Try.ntmps5
  go_wp2_with fail
  refine FW.out.mono ?_
  rintro e w1 ⟨a3, c3, rfl, htr, hb1⟩
  generalize fewT ts0 = ts at htr hlen hsm ⊢
  obtain ⟨n, hn⟩ : ∃ n, n = ts.length := ⟨_, rfl⟩
  rw [← hn] at htr ⊢
  have HB1 := Lib.hid hb1
  have HT1 := Lib.hid htr
  have HSM := Lib.hid hsm
  have hn70 : n ≤ 1000 := by omega
  have FW2 := Lib.hid (few_any a1 n1 c1 ts1 w1 (HB1'.out.below HB1.out))
  clear hb1 htr hsm hn FW
  go_wp2_with fail
  refine FW2.out.mono ?_
  rintro e w2 ⟨a4, c4, rfl, htr, hb2⟩
  generalize fewT ts1 = us at htr ⊢
  obtain ⟨m, hm⟩ : ∃ m, m = us.length := ⟨_, rfl⟩
  rw [← hm] at htr ⊢
  have HB2 := Lib.hid (HB1.out.trans (hb2.mono HB1.out.size))
  have HT2 := Lib.hid (HT1.out.below hb2)
  have HU2 := Lib.hid htr
  have F1 := Lib.hid (find_any a3 n c3 ts a2 w2 HT2.out hn70 HSM.out)
  clear hb2 htr hm FW2
  go_wp2_with fail
  refine F1.out.mono ?_
  rintro e w3 ⟨v3, rfl, hown3, hb3⟩
  obtain ⟨A3, L3, K3, ev, _, _, _⟩ := hown3.bs.sl
  subst ev
  obtain ⟨K, hK⟩ : ∃ K, K = findK ts a2 := ⟨_, rfl⟩
  obtain ⟨q, hq⟩ : ∃ q, q = (findT ts a2).isSome := ⟨_, rfl⟩
  rw [← hK, ← hq]
  have HK := Lib.hid hK
  have HQ := Lib.hid hq
  have HB3 := Lib.hid (HB2.out.trans (hb3.mono HB2.out.size))
  have hg : Gr w3 (w3.alloc (.cells #[.int .i64 K, .slice A3 L3 K3] 36)) := (Gr.refl _).alloc _
  have HB4 := Lib.hid (HB3.out.trans (Below.mono hg HB3.out.size))
  have HO4 := Lib.hid (hown3.bs.below hg)
  have HT4 := Lib.hid ((HT2.out.below hb3).below hg)
  have HU4 := Lib.hid ((HU2.out.below hb3).below hg)
  have HG4 : Hid ((w3.alloc (.cells #[.int .i64 K, .slice A3 L3 K3] 36)).heap[w3.heap.size]? = some (.cells #[.int .i64 K, .slice A3 L3 K3] 36 (0, 0))) := heap_alloc_last _ _
  have F2 := Lib.hid (rfind_any a3 n c3 ts a2 (w3.alloc (.cells #[.int .i64 K, .slice A3 L3 K3] 36)) HT4.out hn70)
  clear hown3 hb3 hg hK hq F1
  go_wp2_with fail
  refine F2.out.mono ?_
  rintro e w5 ⟨v5, rfl, hbs5, hb5⟩
  obtain ⟨A5, L5, K5, ev, _, _, _⟩ := hbs5.sl
  subst ev
  rw [← HK.out, ← HQ.out]
  have HB5 := Lib.hid (HB4.out.trans (hb5.mono HB4.out.size))
  have hg : Gr w5 (w5.alloc (.cells #[.int .i64 K, .slice A5 L5 K5] 36)) := (Gr.refl _).alloc _
  have HB6 := Lib.hid (HB5.out.trans (Below.mono hg HB5.out.size))
  have HT6 := Lib.hid ((HT4.out.below hb5).below hg)
  have HU6 := Lib.hid ((HU4.out.below hb5).below hg)
  have hg7 := heap_gr hg (heap_below HG4.out hb5)
  have hg8 : (w5.alloc (.cells #[.int .i64 K, .slice A5 L5 K5] 36)).heap[w5.heap.size]? = some (.cells #[.int .i64 K, .slice A5 L5 K5] 36 (0, 0)) := heap_alloc_last _ _
  obtain ⟨k0, k1⟩ := copy_cells hg7
  obtain ⟨k2, k3⟩ := copy_cells hg8
  have ON := one_any K K A3 A5 L3 L5 K3 K5 _ _ _ ((HO4.out.below hb5).below hg) (hbs5.below hg)
  rw [decide_eq_true rfl] at ON
  have HON := Lib.hid ON
  clear hbs5 hb5 hg hg7 hg8 ON F2
  go_wp2_with fail
  refine HON.out.mono ?_
  rintro e w7 ⟨rfl, hb7⟩
  have HB7 := Lib.hid (HB6.out.trans (hb7.mono HB6.out.size))
  have HT7 := Lib.hid (HT6.out.below hb7)
  have HU7 := Lib.hid (HU6.out.below hb7)
  have S1 := Lib.hid (same_any a3 a4 n m c3 c4 ts us w7 HT7.out HU7.out)
  have S2 : Hid (∀ w', Gr w7 w' → Calls Try.prog 16 #[.slice a3 n c3, .slice a4 m c4] w' fun e w'' => e = .returned (.bool (decide (plain ts = plain us))) ∧ Below w'.heap.size w' w'') := fun w' hw' => rsame_any a3 a4 n m c3 c4 ts us w' (HT7.out.below hw') (HU7.out.below hw')
  generalize decide (plain ts = plain us) = p at S1 S2
  clear hb7 k0 k1 k2 k3
  go_wp2_with fail
  refine S1.out.mono ?_
  rintro e w8 ⟨rfl, hb8⟩
  have HB8 := Lib.hid (HB7.out.trans (hb8.mono HB7.out.size))
  have HT8 := Lib.hid (HT7.out.below hb8)
  have S3 := Lib.hid (S2.out w8 hb8)
  clear hb8 S1
  go_wp2_with fail
  refine S3.out.mono ?_
  rintro e w9 ⟨rfl, hb9⟩
  have HB9 := Lib.hid (HB8.out.trans (hb9.mono HB8.out.size))
  have HT9 := Lib.hid (HT8.out.below hb9)
  have SL := same_any a3 a3 n n c3 c3 ts ts w9 HT9.out HT9.out
  rw [decide_eq_true rfl] at SL
  have HSL := Lib.hid SL
  clear hb9 SL S2 S3
  go_wp2_with fail
  refine HSL.out.mono ?_
  rintro e w10 ⟨rfl, hb10⟩
  have HB10 := Lib.hid (HB9.out.trans (hb10.mono HB9.out.size))
  clear hb10
  go_wp2_with fail
  refine (AW.out w10).mono ?_
  rintro e w11 ⟨rfl, hb11⟩
  have HB11 := Lib.hid (HB10.out.trans (hb11.mono HB10.out.size))
  clear hb11
  go_wp2
  go_ret
  exact ⟨rfl, HB11.out⟩

theorem own : ownKnob Try.prog.godebug = none := by kernel_rfl
theorem laidOut : laidOutB Try.prog = true := by kernel_rfl
set_option maxRecDepth 100000 in
theorem lifted (os : Os) (started : os.Started) (H : Type) (enc : TypeId × Value → H) :
    ReturnsInHanded {} Try.checked os 5 .any (Rows.optsFindsSpec.pre6 enc Try.prog Try.f5 Rows.optsFindsRow.domain false) (Rows.optsFindsSpec.post enc Try.prog Try.f5 false true false false) := by
  refine returnsInHanded_of_change (C := Try.checked) own started (by kernel_rfl) Try.func5
    (ChangeSpec.witness6 (enc := enc) (C := Try.checked) false ⟨#[], #[.slice none 0 0, .slice none 0 0, .int .i64 0], []⟩ 8 (by kernel_rfl) (by kernel_rfl) (by kernel_rfl) (by kernel_rfl)) ?_
  intro W base args ds gs before hval0 hW hcnd _
  have hval : ∀ (j : Nat) t v, Try.f5.params[j]? = some t → args[j]? = some v → Value.okWide Try.prog W .any base t v := hval0
  have hW' := hW
  obtain ⟨p, q, hA0, hV, rfl, hfz, hnd⟩ := hW
  have hA : DataW.TrodAll enc Try.prog W 0 (fun _ => true) true Try.f5.params.toList args.toList ds p := hA0
  rw [Try.params5] at hA hval
  obtain ⟨v0, vs0, d0, ds0, p0, q0, hargs, rfl, rfl, h0, r0⟩ := trodAll_cons hA
  obtain ⟨v1, vs1, d1, ds1, p1, q1, rfl, rfl, rfl, h1, r1⟩ := trodAll_cons r0
  obtain ⟨v2, vs2, d2, ds2, p2, q2, rfl, rfl, rfl, h2, r2⟩ := trodAll_cons r1
  obtain ⟨rfl, rfl, rfl⟩ := trodAll_nil r2
  obtain rfl : args = #[v0, v1, v2] := by cases args; simp_all
  obtain ⟨rfl, rfl⟩ := trodVars_none hV
  have k0 := h0
  have lt0 : ∀ x ∈ p0, x.block < W.heap.size := by obtain ⟨m, hm⟩ := k0; exact DataW.trod_lt m _ _ _ hm
  obtain ⟨a0, n0, c0, ts0, rfl, b0⟩ := O.open_opts Try.underlying22 Try.underlying36 ⟨rfl, rfl⟩ Try.underlying3 Try.underlying23 Try.underlying5 ⟨by kernel_rfl, by kernel_rfl, by kernel_rfl, by kernel_rfl⟩ (hval 0 22 v0 rfl rfl) h0
  have k1 := h1
  have lt1 : ∀ x ∈ p1, x.block < W.heap.size := by obtain ⟨m, hm⟩ := k1; exact DataW.trod_lt m _ _ _ hm
  obtain ⟨a1, n1, c1, ts1, rfl, b1⟩ := O.open_opts Try.underlying22 Try.underlying36 ⟨rfl, rfl⟩ Try.underlying3 Try.underlying23 Try.underlying5 ⟨by kernel_rfl, by kernel_rfl, by kernel_rfl, by kernel_rfl⟩ (hval 1 22 v1 rfl rfl) h1
  have k2 := h2
  have lt2 : ∀ x ∈ p2, x.block < W.heap.size := by obtain ⟨m, hm⟩ := k2; exact DataW.trod_lt m _ _ _ hm
  obtain ⟨a2, rfl, rfl, rfl, w2⟩ := open_int Try.underlying3 (hval 2 3 v2 rfl rfl) h2
  clear hA0 hval0
  refine (walk W a0 n0 c0 ts0 b0 a1 n1 c1 ts1 b1 a2 w2).mono fun e W' ⟨he, bel⟩ => ?_
  subst he
  exact ⟨_, rfl, _, _, _, [], _, [], hW', trodAll_mk1 (shut_bool Try.underlying4 _), (trodAll_cons_mk (Below.trod laidOut (by kernel_rfl) (of_decide_eq_true (by kernel_rfl)) k0 bel lt0) (trodAll_cons_mk (Below.trod laidOut (by kernel_rfl) (of_decide_eq_true (by kernel_rfl)) k1 bel lt1) (trodAll_cons_mk (Below.trod laidOut (by kernel_rfl) (of_decide_eq_true (by kernel_rfl)) k2 bel lt2) trodAll_mk0))), rfl, bel.frame _, fun h => by cases h⟩
theorem over : Rows.optsFindsRow.holds Try.pinned (OpenSpec.ofChange Rows.optsFindsSpec) :=
  OpenClaim.holds_of_wide 5 Try.f5 rfl rfl rfl rfl rfl rfl rfl ⟨rfl, rfl, rfl, rfl, rfl⟩ rfl rfl rfl rfl rfl (by kernel_rfl) Try.func5 (by kernel_rfl)
    (of_decide_eq_true (by kernel_rfl)) (by unfold Func.isWrapper; first | (rw [if_pos (by decide +kernel)]; kernel_rfl) | (rw [if_neg (by decide +kernel)]; exact ⟨rfl, rfl⟩))
    (fun os started H enc _ => lifted os started H enc)
/-- The statement. -/
theorem proved : Rows.OptsFindsSaid := over
end Go.Proofs.Yteemcckfhadkhaa.optsFinds
