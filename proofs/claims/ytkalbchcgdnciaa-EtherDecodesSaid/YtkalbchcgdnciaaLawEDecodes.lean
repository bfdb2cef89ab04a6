/-
  For every row of bytes (its first 1600) ether.Decode tells the frame that the document tells, and the same error (conciergelaw04.EtherDecodes answers true). No conditions.
-/
import Derived.Test.YtkalbchcgdnciaaEthJ
import Derived.Test.YtkalbchcgdnciaaEthE
import Derived.ProofKit
import Derived.OpenShut
import Derived.ChangeOld
namespace Go.Proofs.Ytkalbchcgdnciaa.etherDecodes
open Go.ChangeShapes Go.WideShapes Go.ChangeAt Go.RowKit
set_option linter.unusedVariables false
set_option linter.unusedSimpArgs false

set_option maxRecDepth 20000 in
set_option maxHeartbeats 4000000 in
theorem walk (W : World) (a0 : Option Addr) (n0 c0 : Nat) (l0 : List UInt8) (hn0 : l0.length = n0) (b0 : Bs W (.slice a0 n0 c0) l0) :
    Calls Try.prog 4 #[.slice a0 n0 c0] W fun e w' => e = .returned (.bool true) ∧ Below W.heap.size W w' := by
  obtain ⟨m, x, hm, hx, u0, hc0⟩ := cut_in hn0 b0
  have HC0 := Lib.hid hc0
  have HX := Lib.hid hx
  have HU := Lib.hid u0
  have hDD := decD_length x
  have hDS := decS_length x
  have HDD := Lib.hid hDD
  have HDS := Lib.hid hDS
  have AW := Lib.hid awake_any
  clear hn0 b0 u0 hc0 hx hDD hDS
  go_enter Try.func4, Try.ntmps4
  go_wp2_with fail
  refine (HC0.out _).mono ?_
  rintro e w' ⟨rfl, rfl⟩
  go_wp2_with fail
  refine (decode_any a0 m c0 x HX.out W HU.out (by omega)).mono ?_
  rintro e w1 ⟨v1, rfl, hown1, hb1⟩
  have HB1 := Lib.hid hb1
  obtain ⟨a1, c1, ev, _, _⟩ := (hown1.bs).shape
  subst ev
  have HP1 := Lib.hid hown1.bs
  have HL1 := Lib.hid (ethL_length (decT x) (.slice a1 (decP x).length c1) HDD.out HDS.out)
  have HO1 := Lib.hid (ethL_one (decD x) (decS x) (decT x) (.slice a1 (decP x).length c1) rfl)
  have HE1 := Lib.hid (size26e (decT x) (.slice a1 (decP x).length c1) HDD.out HDS.out)
  have HN1 : Hid ((ethL (decD x) (decS x) (decT x) (.slice a1 (decP x).length c1)).length = ethZ.length) := HL1
  have HZ1 : Hid ((w1.alloc (.cells #[.int .u8 0, .int .u8 0, .int .u8 0, .int .u8 0, .int .u8 0, .int .u8 0, .int .u8 0, .int .u8 0, .int .u8 0, .int .u8 0, .int .u8 0, .int .u8 0, .int .i64 0, .slice none 0 0] 26)).heap[w1.heap.size]? = some (.cells ethZ.toArray 26 (0, 0))) := heap_alloc_last _ _
  clear hown1 hb1
  go_wp2_with (with_reducible refine wpList_store_whole rfl 26 (.tmp 3) (.tmp 12) rfl w1.heap.size _ rfl rfl 26 ethZ HZ1.out HE1.out HN1.out HO1.out ?_)
  intro w2 h2 ho2
  have hb2 : Below w1.heap.size w1 w2 := ho2.below _ _ (Nat.le_refl _) ((Below.refl _ _).alloc (Nat.le_refl _) _)
  have HB2 := Lib.hid (HB1.out.trans (hb2.mono HB1.out.size))
  have HP2 := Lib.hid (HP1.out.below hb2)
  have HG2 := Lib.hid h2
  clear h2 ho2 hb2
  go_wp2_with fail
  refine (rdecode_any a0 m c0 x HX.out w2 (HU.out.below HB2.out) (by omega)).mono ?_
  rintro e w3 ⟨v3, rfl, hown3, hb3⟩
  have HB3 := Lib.hid (HB2.out.trans (hb3.mono HB2.out.size))
  have HP3 := Lib.hid (HP2.out.below hb3)
  have HG3 := Lib.hid (heap_below HG2.out hb3)
  have HS3 := Lib.hid (Nat.lt_of_lt_of_le (Array.getElem?_eq_some_iff.1 HG2.out).1 hb3.size)
  obtain ⟨a3, c3, ev, _, _⟩ := (hown3.bs).shape
  subst ev
  have HQ3 := Lib.hid hown3.bs
  have HL3 := Lib.hid (ethL_length (decT x) (.slice a3 (decP x).length c3) HDD.out HDS.out)
  have HO3 := Lib.hid (ethL_one (decD x) (decS x) (decT x) (.slice a3 (decP x).length c3) rfl)
  have HE3 := Lib.hid (size26e (decT x) (.slice a3 (decP x).length c3) HDD.out HDS.out)
  have HN3 : Hid ((ethL (decD x) (decS x) (decT x) (.slice a3 (decP x).length c3)).length = ethZ.length) := HL3
  have HZ3 : Hid ((w3.alloc (.cells #[.int .u8 0, .int .u8 0, .int .u8 0, .int .u8 0, .int .u8 0, .int .u8 0, .int .u8 0, .int .u8 0, .int .u8 0, .int .u8 0, .int .u8 0, .int .u8 0, .int .i64 0, .slice none 0 0] 26)).heap[w3.heap.size]? = some (.cells ethZ.toArray 26 (0, 0))) := heap_alloc_last _ _
  clear hown3 hb3
  go_wp2_with (with_reducible refine wpList_store_whole rfl 26 (.tmp 5) (.tmp 17) rfl w3.heap.size _ rfl rfl 26 ethZ HZ3.out HE3.out HN3.out HO3.out ?_)
  intro w4 h4 ho4
  have hb4 : Below w3.heap.size w3 w4 := ho4.below _ _ (Nat.le_refl _) ((Below.refl _ _).alloc (Nat.le_refl _) _)
  have HB4 := Lib.hid (HB3.out.trans (hb4.mono HB3.out.size))
  have HP4 := Lib.hid (HP3.out.below hb4)
  have HQ4 := Lib.hid (HQ3.out.below hb4)
  have HG4 := Lib.hid (heap_below HG3.out hb4)
  have HK4 := Lib.hid h4
  have HA1 := Lib.hid (size26l (decT x) (.slice a1 (decP x).length c1) HDD.out HDS.out)
  have HA3 := Lib.hid (size26l (decT x) (.slice a3 (decP x).length c3) HDD.out HDS.out)
  clear h4 ho4 hb4
  go_wp2_with (first | (with_reducible refine wpList_load_row rfl 26 (.tmp 3) rfl w1.heap.size rfl 26 _ (0, 0) _ HG4.out Try.underlying26 rfl HA1.out ?_) | (with_reducible refine wpList_load_row rfl 26 (.tmp 5) rfl w3.heap.size rfl 26 _ (0, 0) _ HK4.out Try.underlying26 rfl HA3.out ?_))
  refine (same_true (decD x) (decS x) (decT x) a1 a3 (decP x).length c1 c3 (decP x) HDD.out HDS.out rfl w4 HP4.out HQ4.out).mono ?_
  rintro e w5 ⟨rfl, hb5⟩
  have HB5 := Lib.hid (HB4.out.trans (hb5.mono HB4.out.size))
  clear hb5
  go_wp2_with fail
  refine (AW.out w5).mono ?_
  rintro e w6 ⟨rfl, hb6⟩
  have HB6 := Lib.hid (HB5.out.trans (hb6.mono HB5.out.size))
  clear hb6
  go_wp2
  go_ret
  exact ⟨rfl, HB6.out⟩

theorem own : ownKnob Try.prog.godebug = none := by kernel_rfl
theorem laidOut : laidOutB Try.prog = true := by kernel_rfl
set_option maxRecDepth 100000 in
theorem lifted (os : Os) (started : os.Started) (H : Type) (enc : TypeId × Value → H) :
    ReturnsInHanded {} Try.checked os 4 .any (Rows.etherDecodesSpec.pre6 enc Try.prog Try.f4 Rows.etherDecodesRow.domain false) (Rows.etherDecodesSpec.post enc Try.prog Try.f4 false true false false) := by
  refine returnsInHanded_of_change (C := Try.checked) own started (by kernel_rfl) Try.func4
    (ChangeSpec.witness6 (enc := enc) (C := Try.checked) false ⟨#[], #[.slice none 0 0], []⟩ 8 (by kernel_rfl) (by kernel_rfl) (by kernel_rfl) (by kernel_rfl)) ?_
  intro W base args ds gs before hval0 hW hcnd _
  have hval : ∀ (j : Nat) t v, Try.f4.params[j]? = some t → args[j]? = some v → Value.okWide Try.prog W .any base t v := hval0
  have hW' := hW
  obtain ⟨p, q, hA0, hV, rfl, hfz, hnd⟩ := hW
  have hA : DataW.TrodAll enc Try.prog W 0 (fun _ => true) true Try.f4.params.toList args.toList ds p := hA0
  rw [Try.params4] at hA hval
  obtain ⟨v0, vs0, d0, ds0, p0, q0, hargs, rfl, rfl, h0, r0⟩ := trodAll_cons hA
  obtain ⟨rfl, rfl, rfl⟩ := trodAll_nil r0
  obtain rfl : args = #[v0] := by cases args; simp_all
  obtain ⟨rfl, rfl⟩ := trodVars_none hV
  have k0 := h0
  have lt0 : ∀ x ∈ p0, x.block < W.heap.size := by obtain ⟨m, hm⟩ := k0; exact DataW.trod_lt m _ _ _ hm
  obtain ⟨a0, n0, c0, l0, rfl, hn0, b0⟩ := open_bytes Try.underlying24 Try.underlying5 (by kernel_rfl) (hval 0 24 v0 rfl rfl) h0
  clear hA0 hval0
  refine (walk W a0 n0 c0 l0 hn0 b0).mono fun e W' ⟨he, bel⟩ => ?_
  subst he
  exact ⟨_, rfl, _, _, _, [], _, [], hW', trodAll_mk1 (shut_bool Try.underlying4 _), (trodAll_cons_mk (Below.trod laidOut (by kernel_rfl) (of_decide_eq_true (by kernel_rfl)) k0 bel lt0) trodAll_mk0), rfl, bel.frame _, fun h => by cases h⟩
theorem over : Rows.etherDecodesRow.holds Try.pinned (OpenSpec.ofChange Rows.etherDecodesSpec) :=
  OpenClaim.holds_of_wide 4 Try.f4 rfl rfl rfl rfl rfl rfl rfl ⟨rfl, rfl, rfl, rfl, rfl⟩ rfl rfl rfl rfl rfl (by kernel_rfl) Try.func4 (by kernel_rfl)
    (of_decide_eq_true (by kernel_rfl)) (by unfold Func.isWrapper; first | (rw [if_pos (by decide +kernel)]; kernel_rfl) | (rw [if_neg (by decide +kernel)]; exact ⟨rfl, rfl⟩))
    (fun os started H enc _ => lifted os started H enc)
/-- The statement. -/
theorem proved : Rows.EtherDecodesSaid := over
end Go.Proofs.Ytkalbchcgdnciaa.etherDecodes
