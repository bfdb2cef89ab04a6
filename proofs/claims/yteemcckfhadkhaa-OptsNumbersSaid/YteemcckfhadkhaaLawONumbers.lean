/-
  For every option (the first 300 bytes of its data) opts.Number tells what the document tells, and for every type, size and number opts.Make tells the option that the document tells, and the same error (conciergelaw08.OptsNumbers answers true). No conditions.
-/
import Derived.Test.YteemcckfhadkhaaOpN
import Derived.Test.YteemcckfhadkhaaOpB
import Derived.Test.YteemcckfhadkhaaOpenO
import Derived.Test.YteemcckfhadkhaaOpenQ
import Derived.ProofKit
import Derived.OpenShut
import Derived.ChangeOld
import Derived.Deep.DeepCutAuto
namespace Go.Proofs.Yteemcckfhadkhaa.optsNumbers
open Go.ChangeShapes Go.WideShapes Go.ChangeAt Go.RowKit O
set_option linter.unusedVariables false
set_option linter.unusedSimpArgs false

set_option maxRecDepth 20000 in
set_option maxHeartbeats 4000000 in
theorem walk (W : World) (C0 : Int) (a0 : Option Addr) (n0 c0 : Nat) (l0 : List UInt8) (hn0 : l0.length = n0) (b0 : Bs W (.slice a0 n0 c0) l0) (a1 : Int) (w1 : (Lit.int .i64 a1).wf = true) (a2 : Int) (w2 : (Lit.int .i64 a2).wf = true) (a3 : Int) (w3 : (Lit.int .i64 a3).wf = true) :
    Calls Try.prog 4 #[.agg #[.int .i64 C0, .slice a0 n0 c0], .int .i64 a1, .int .i64 a2, .int .i64 a3] W fun e w' => e = .returned (.bool true) ∧ Below W.heap.size W w' := by
  have h63 : a3 ≤ 9223372036854775807 := by simp [Lit.wf, IntKind.bits, IntKind.signed] at w3; omega
  have AW := Lib.hid awake_any
  obtain ⟨_, _, es, hc, hcm⟩ := b0.shape
  simp only [Value.slice.injEq] at es
  obtain ⟨rfl, z0, rfl⟩ := es
  rw [hn0] at hc
  unfold maxLen at hcm
  obtain ⟨m, hm⟩ : ∃ m, m = min n0 300 := ⟨_, rfl⟩
  have hu := b0.upto hn0 m (by omega)
  obtain ⟨x, hx⟩ : ∃ x, x = l0.take m := ⟨_, rfl⟩
  rw [← hx] at hu
  have hxl : x.length = m := by rw [hx, List.length_take]; omega
  have HU := Lib.hid hu
  have HX := Lib.hid hxl
  have hm300 : m ≤ 300 := by omega
  have HG0 : Hid ((W.alloc (.cells #[.int .i64 C0, .slice a0 n0 c0] 36)).heap[W.heap.size]? = some (.cells #[.int .i64 C0, .slice a0 n0 c0] 36 (0, 0))) := heap_alloc_last _ _
  have HB0 : Hid (Below W.heap.size W (W.alloc (.cells #[.int .i64 C0, .slice a0 n0 c0] 36))) := (Below.refl _ _).alloc (Nat.le_refl _) _
  have HM := Lib.hid hm
  clear hu hx hxl b0 z0 hn0 w1 w2 w3 hm
  go_enter Try.func4, Try.ntmps4
  go_upto_if 20 with fail
  go_cut [20] (fun _ wx => Hid (Below W.heap.size W wx ∧ wx.heap[W.heap.size]? = some (.cells #[.int .i64 C0, .slice a0 m c0] 36 (0, 0))))
  case first =>
    by_cases h : n0 ≤ 300
    · obtain rfl : n0 = m := by have := HM.out; omega
      clear HM
      go_wp2_with fail
      go_meet
      exact ⟨HB0.out, HG0.out⟩
    · obtain rfl : m = 300 := by have := HM.out; omega
      clear HM
      go_wp2_with (refine wpList_store_cell rfl 23 (.tmp 24) (.tmp 23) rfl W.heap.size 1 (.slice a0 300 c0) rfl rfl 36 [.int .i64 C0, .slice a0 n0 c0] HG0.out (by kernel_rfl) (by simp) rfl ?_)
      intro w3 h3 ho3
      have H3 := Lib.hid h3
      have HB3 : Hid (Below W.heap.size W w3) := ho3.below _ _ (Nat.le_refl _) HB0.out
      clear h3 ho3
      go_wp2_with fail
      go_meet
      exact ⟨HB3.out, H3.out⟩
  case rest =>
    have HB1 := Lib.hid hcut.out.1
    have HG1 := Lib.hid hcut.out.2
    have N1 := Lib.hid (number_any C0 a0 m c0 x HX.out wc (HU.out.below HB1.out) (by omega))
    obtain ⟨k0, k1⟩ := copy_cells HG1.out
    clear hcut HG0 HB0 hc hcm
    go_wp2_with fail
    refine N1.out.mono ?_
    rintro e w2 ⟨rfl, hb2⟩
    have HB2 := Lib.hid (HB1.out.trans (hb2.mono HB1.out.size))
    have HG2 := Lib.hid (heap_below HG1.out hb2)
    have N2 := Lib.hid (rnumber_any C0 a0 m c0 x HX.out w2 (HU.out.below HB2.out))
    clear hb2 k0 k1 N1
    obtain ⟨k0, k1⟩ := copy_cells HG2.out
    go_wp2_with fail
    refine N2.out.mono ?_
    rintro e w3 ⟨rfl, hb3⟩
    have HB3 := Lib.hid (HB2.out.trans (hb3.mono HB2.out.size))
    have M1 := Lib.hid (make_any a1 a2 a3 w3)
    clear hb3 k0 k1 N2
    go_wp2_with fail
    refine M1.out.mono ?_
    rintro e w4 (⟨hok, v4, rfl, hown4, hb4⟩ | ⟨hno, rfl, hb4⟩)
    · have HOK := Lib.hid hok
      obtain ⟨A2, L2, K2, ev, _, _, _⟩ := hown4.bs.sl
      subst ev
      have HB4 := Lib.hid (HB3.out.trans (hb4.mono HB3.out.size))
      have HO4 := Lib.hid hown4.bs
      have hq : Gr w4 (w4.alloc (.cells #[.int .i64 a1, .slice A2 L2 K2] 36)) := (Gr.refl _).alloc _
      have HB5 := Lib.hid (HB4.out.trans (Below.mono hq HB4.out.size))
      have HO5 := Lib.hid (HO4.out.below hq)
      have HG5 : Hid ((w4.alloc (.cells #[.int .i64 a1, .slice A2 L2 K2] 36)).heap[w4.heap.size]? = some (.cells #[.int .i64 a1, .slice A2 L2 K2] 36 (0, 0))) := heap_alloc_last _ _
      have M2 := Lib.hid (rmake_any a1 a2 a3 (w4.alloc (.cells #[.int .i64 a1, .slice A2 L2 K2] 36)) h63)
      clear hok hown4 hb4 hq M1
      go_wp2_with fail
      refine M2.out.mono ?_
      rintro e w6 (⟨_, v6, rfl, hown6, hb6⟩ | ⟨hno, _⟩)
      · obtain ⟨A3, L3, K3, ev, _, _, _⟩ := hown6.bs.sl
        subst ev
        have HB6 := Lib.hid (HB5.out.trans (hb6.mono HB5.out.size))
        have hq : Gr w6 (w6.alloc (.cells #[.int .i64 a1, .slice A3 L3 K3] 36)) := (Gr.refl _).alloc _
        have HB7 := Lib.hid (HB6.out.trans (Below.mono hq HB6.out.size))
        have HO7 := Lib.hid ((HO5.out.below hb6).below hq)
        have HR7 := Lib.hid (hown6.bs.below hq)
        have hg7 := heap_gr hq (heap_below HG5.out hb6)
        have hg8 : (w6.alloc (.cells #[.int .i64 a1, .slice A3 L3 K3] 36)).heap[w6.heap.size]? = some (.cells #[.int .i64 a1, .slice A3 L3 K3] 36 (0, 0)) := heap_alloc_last _ _
        obtain ⟨k0, k1⟩ := copy_cells hg7
        obtain ⟨k2, k3⟩ := copy_cells hg8
        have ON := one_any a1 a1 A2 A3 L2 L3 K2 K3 _ _ _ HO7.out HR7.out
        rw [decide_eq_true rfl] at ON
        have HON := Lib.hid ON
        clear hown6 hb6 hq hg7 hg8 ON M2
        go_wp2_with fail
        refine HON.out.mono ?_
        rintro e w8 ⟨rfl, hb8⟩
        have HB8 := Lib.hid (HB7.out.trans (hb8.mono HB7.out.size))
        clear hb8 k0 k1 k2 k3
        go_wp2_with fail
        refine (AW.out w8).mono ?_
        rintro e w9 ⟨rfl, hb9⟩
        have HB9 := Lib.hid (HB8.out.trans (hb9.mono HB8.out.size))
        clear hb9
        go_wp2
        go_ret
        exact ⟨rfl, HB9.out⟩
      · exact absurd HOK.out hno
    · have HNO := Lib.hid hno
      have HB4 := Lib.hid (HB3.out.trans (hb4.mono HB3.out.size))
      have hq : Gr w4 (w4.alloc (.cells #[.int .i64 0, .slice none 0 0] 36)) := (Gr.refl _).alloc _
      have HB5 := Lib.hid (HB4.out.trans (Below.mono hq HB4.out.size))
      have HG5 : Hid ((w4.alloc (.cells #[.int .i64 0, .slice none 0 0] 36)).heap[w4.heap.size]? = some (.cells #[.int .i64 0, .slice none 0 0] 36)) := heap_alloc_last _ _
      have M2 := Lib.hid (rmake_any a1 a2 a3 (w4.alloc (.cells #[.int .i64 0, .slice none 0 0] 36)) h63)
      clear hno hb4 hq M1
      go_wp2_with fail
      refine M2.out.mono ?_
      rintro e w6 (⟨hok, _⟩ | ⟨_, rfl, hb6⟩)
      · exact absurd hok HNO.out
      · have HB6 := Lib.hid (HB5.out.trans (hb6.mono HB5.out.size))
        have hq : Gr w6 (w6.alloc (.cells #[.int .i64 0, .slice none 0 0] 36)) := (Gr.refl _).alloc _
        have HB7 := Lib.hid (HB6.out.trans (Below.mono hq HB6.out.size))
        have hg7 := heap_gr hq (heap_below HG5.out hb6)
        have hg8 : (w6.alloc (.cells #[.int .i64 0, .slice none 0 0] 36)).heap[w6.heap.size]? = some (.cells #[.int .i64 0, .slice none 0 0] 36) := heap_alloc_last _ _
        obtain ⟨k0, k1⟩ := copy_cells hg7
        obtain ⟨k2, k3⟩ := copy_cells hg8
        have ON := one_any 0 0 none none 0 0 0 0 [] [] (w6.alloc (.cells #[.int .i64 0, .slice none 0 0] 36)) (Bs.nil _) (Bs.nil _)
        rw [decide_eq_true rfl] at ON
        have HON := Lib.hid ON
        clear hb6 hq hg7 hg8 ON M2
        go_wp2_with fail
        refine HON.out.mono ?_
        rintro e w8 ⟨rfl, hb8⟩
        have HB8 := Lib.hid (HB7.out.trans (hb8.mono HB7.out.size))
        clear hb8 k0 k1 k2 k3
        go_wp2_with fail
        refine (AW.out w8).mono ?_
        rintro e w9 ⟨rfl, hb9⟩
        have HB9 := Lib.hid (HB8.out.trans (hb9.mono HB8.out.size))
        clear hb9
        go_wp2
        go_ret
        exact ⟨rfl, HB9.out⟩

theorem own : ownKnob Try.prog.godebug = none := by kernel_rfl
theorem laidOut : laidOutB Try.prog = true := by kernel_rfl
set_option maxRecDepth 100000 in
theorem lifted (os : Os) (started : os.Started) (H : Type) (enc : TypeId × Value → H) :
    ReturnsInHanded {} Try.checked os 4 .any (Rows.optsNumbersSpec.pre6 enc Try.prog Try.f4 Rows.optsNumbersRow.domain false) (Rows.optsNumbersSpec.post enc Try.prog Try.f4 false true false false) := by
  refine returnsInHanded_of_change (C := Try.checked) own started (by kernel_rfl) Try.func4
    (ChangeSpec.witness6 (enc := enc) (C := Try.checked) false ⟨#[], #[.agg #[.int .i64 0, .slice none 0 0], .int .i64 0, .int .i64 0, .int .i64 0], []⟩ 8 (by kernel_rfl) (by kernel_rfl) (by kernel_rfl) (by kernel_rfl)) ?_
  intro W base args ds gs before hval0 hW hcnd _
  have hval : ∀ (j : Nat) t v, Try.f4.params[j]? = some t → args[j]? = some v → Value.okWide Try.prog W .any base t v := hval0
  have hW' := hW
  obtain ⟨p, q, hA0, hV, rfl, hfz, hnd⟩ := hW
  have hA : DataW.TrodAll enc Try.prog W 0 (fun _ => true) true Try.f4.params.toList args.toList ds p := hA0
  rw [Try.params4] at hA hval
  obtain ⟨v0, vs0, d0, ds0, p0, q0, hargs, rfl, rfl, h0, r0⟩ := trodAll_cons hA
  obtain ⟨v1, vs1, d1, ds1, p1, q1, rfl, rfl, rfl, h1, r1⟩ := trodAll_cons r0
  obtain ⟨v2, vs2, d2, ds2, p2, q2, rfl, rfl, rfl, h2, r2⟩ := trodAll_cons r1
  obtain ⟨v3, vs3, d3, ds3, p3, q3, rfl, rfl, rfl, h3, r3⟩ := trodAll_cons r2
  obtain ⟨rfl, rfl, rfl⟩ := trodAll_nil r3
  obtain rfl : args = #[v0, v1, v2, v3] := by cases args; simp_all
  obtain ⟨rfl, rfl⟩ := trodVars_none hV
  have k0 := h0
  have lt0 : ∀ x ∈ p0, x.block < W.heap.size := by obtain ⟨m, hm⟩ := k0; exact DataW.trod_lt m _ _ _ hm
  obtain ⟨C0, a0, n0, c0, l0, rfl, hn0, b0⟩ := open_ppp Try.underlying36 ⟨rfl, rfl⟩ Try.underlying3 Try.underlying23 Try.underlying5 ⟨by kernel_rfl, by kernel_rfl, by kernel_rfl, by kernel_rfl⟩ (hval 0 36 v0 rfl rfl) h0
  have k1 := h1
  have lt1 : ∀ x ∈ p1, x.block < W.heap.size := by obtain ⟨m, hm⟩ := k1; exact DataW.trod_lt m _ _ _ hm
  obtain ⟨a1, rfl, rfl, rfl, w1⟩ := open_int Try.underlying3 (hval 1 3 v1 rfl rfl) h1
  have k2 := h2
  have lt2 : ∀ x ∈ p2, x.block < W.heap.size := by obtain ⟨m, hm⟩ := k2; exact DataW.trod_lt m _ _ _ hm
  obtain ⟨a2, rfl, rfl, rfl, w2⟩ := open_int Try.underlying3 (hval 2 3 v2 rfl rfl) h2
  have k3 := h3
  have lt3 : ∀ x ∈ p3, x.block < W.heap.size := by obtain ⟨m, hm⟩ := k3; exact DataW.trod_lt m _ _ _ hm
  obtain ⟨a3, rfl, rfl, rfl, w3⟩ := open_int Try.underlying3 (hval 3 3 v3 rfl rfl) h3
  clear hA0 hval0
  refine (walk W C0 a0 n0 c0 l0 hn0 b0 a1 w1 a2 w2 a3 w3).mono fun e W' ⟨he, bel⟩ => ?_
  subst he
  exact ⟨_, rfl, _, _, _, [], _, [], hW', trodAll_mk1 (shut_bool Try.underlying4 _), (trodAll_cons_mk (Below.trod laidOut (by kernel_rfl) (of_decide_eq_true (by kernel_rfl)) k0 bel lt0) (trodAll_cons_mk (Below.trod laidOut (by kernel_rfl) (of_decide_eq_true (by kernel_rfl)) k1 bel lt1) (trodAll_cons_mk (Below.trod laidOut (by kernel_rfl) (of_decide_eq_true (by kernel_rfl)) k2 bel lt2) (trodAll_cons_mk (Below.trod laidOut (by kernel_rfl) (of_decide_eq_true (by kernel_rfl)) k3 bel lt3) trodAll_mk0)))), rfl, bel.frame _, fun h => by cases h⟩
theorem over : Rows.optsNumbersRow.holds Try.pinned (OpenSpec.ofChange Rows.optsNumbersSpec) :=
  OpenClaim.holds_of_wide 4 Try.f4 rfl rfl rfl rfl rfl rfl rfl ⟨rfl, rfl, rfl, rfl, rfl⟩ rfl rfl rfl rfl rfl (by kernel_rfl) Try.func4 (by kernel_rfl)
    (of_decide_eq_true (by kernel_rfl)) (by unfold Func.isWrapper; first | (rw [if_pos (by decide +kernel)]; kernel_rfl) | (rw [if_neg (by decide +kernel)]; exact ⟨rfl, rfl⟩))
    (fun os started H enc _ => lifted os started H enc)
/-- The statement. -/
theorem proved : Rows.OptsNumbersSaid := over
end Go.Proofs.Yteemcckfhadkhaa.optsNumbers
