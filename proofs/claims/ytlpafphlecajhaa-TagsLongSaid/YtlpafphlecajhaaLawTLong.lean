/-
  Whatever lengths come, tags.Encode of one tag of so many zero bytes tells what the document tells: its bytes, or the error (conciergelaw05.TagsLong answers true). No conditions.
-/
import Derived.Test.YtlpafphlecajhaaTagK
import Derived.Test.YtlpafphlecajhaaTagF
import Derived.ProofKit
import Derived.OpenShut
import Derived.ChangeOld
namespace Go.Proofs.Ytlpafphlecajhaa.tagsLong
open Go.ChangeShapes Go.WideShapes Go.ChangeAt Go.RowKit
set_option linter.unusedVariables false
set_option linter.unusedSimpArgs false

set_option maxRecDepth 20000 in
set_option maxHeartbeats 4000000 in
theorem walk (W : World) (p0 : Int) (w0 : (Lit.int .u16 p0).wf = true) (q0 : Int) (w1 : (Lit.int .u8 q0).wf = true) :
    Calls Try.prog 4 #[.int .u16 p0, .int .u8 q0] W fun e w' => e = .returned (.bool true) ∧ Below W.heap.size W w' := by
  have h16 : 0 ≤ p0 ∧ p0 ≤ 65535 := by simpa [Lit.wf, IntKind.min, IntKind.max, IntKind.signed, IntKind.bits] using w0
  have h8 : 0 ≤ q0 ∧ q0 ≤ 255 := by simpa [Lit.wf, IntKind.min, IntKind.max, IntKind.signed, IntKind.bits] using w1
  obtain ⟨p, rfl⟩ : ∃ p : Nat, p0 = (p : Int) := ⟨p0.toNat, by omega⟩
  obtain ⟨q, rfl⟩ : ∃ q : Nat, q0 = (q : Int) := ⟨q0.toNat, by omega⟩
  obtain ⟨j0, hj, hy0, hy1, hy2⟩ := info_parts info5
  have AW := Lib.hid awake_any
  obtain ⟨K, hK⟩ : ∃ K : Nat, (p : Int) + (q : Int) * 256 = (K : Int) := ⟨p + q * 256, by omega⟩
  have HK := Lib.hid hK
  have hK2 : K ≤ 200000 := by omega
  clear hK w0 w1
  go_enter Try.func4, Try.ntmps4
  go_wp2_with (at_make; refine wpList_make_full _ rfl _ _ 24 rfl W.heap.size 5 j0 (.int .u8 0) 1 Try.underlying24 hj hy0 hy1 _ _ _ _ K rfl rfl HK.out HK.out ?c1 ?c2 ?c3 ?_)
  case c1 => rw [hy2]; omega
  case c2 => unfold maxLen; omega
  case c3 => simp
  intro w1 hown hg
  have hb : Below W.heap.size W w1 := (Below.refl _ _).grown hg (Nat.le_refl _) (fun _ h => by cases h)
  have hz : (madeCells #[.int .u8 0] K).toList = (List.replicate K (0 : UInt8)).map u8v := by
    rw [List.map_replicate]
    exact toList_madeCells_one (.int .u8 0) K
  rw [hz] at hown
  have hl : (List.replicate K (0 : UInt8)).length = K := by simp
  have hbs : Bs w1 (.slice (some ⟨W.heap.size, 0, none⟩) K K) (List.replicate K 0) := by
    unfold Bs
    rw [hl]
    exact own_rd hown
  have HL := Lib.hid hl
  clear hz hown hg hl
  generalize List.replicate K (0 : UInt8) = x at hbs HL
  have ht := TR.one (t := 1) hbs
  have HB1 := Lib.hid hb
  have HBS := Lib.hid hbs
  have hba : Below w1.heap.size w1 (w1.alloc (.cells #[.int .i64 1, .slice (some ⟨W.heap.size, 0, none⟩) K K] 34)) := (Below.refl _ _).alloc (Nat.le_refl _) _
  have HBA := Lib.hid (HB1.out.trans (hba.mono HB1.out.size))
  have HE1 := Lib.hid (encode_any _ 1 1 _ _ ht (by decide) (by intro y hy; rw [List.mem_singleton.1 hy]; show x.length ≤ 1000000; rw [HL.out]; omega))
  have HBS1 := Lib.hid (hbs.below hba)
  clear hb hbs ht hba
  go_wp2_with fail
  refine HE1.out.mono ?_
  rintro e w2 ⟨v2, rfl, hown2, hb2⟩
  have HB2 := Lib.hid (HBA.out.trans (hb2.mono HBA.out.size))
  have hbs2 := HBS1.out.below hb2
  have HV2 := Lib.hid hown2.bs
  obtain ⟨A2, L2, C2, ev, _, _, _⟩ := hown2.bs.sl
  subst ev
  have ht := TR.one (t := 1) hbs2
  have hba : Below w2.heap.size w2 (w2.alloc (.cells #[.int .i64 1, .slice (some ⟨W.heap.size, 0, none⟩) K K] 34)) := (Below.refl _ _).alloc (Nat.le_refl _) _
  have HBB := Lib.hid (HB2.out.trans (hba.mono HB2.out.size))
  have HE2 := Lib.hid (rencode_any _ 1 1 _ _ ht (by decide) (by intro y hy; rw [List.mem_singleton.1 hy]; show x.length ≤ 1000000; rw [HL.out]; omega))
  have HV3 := Lib.hid (HV2.out.below hba)
  clear hown2 hb2 hbs2 ht hba
  go_wp2_with fail
  refine HE2.out.mono ?_
  rintro e w3 ⟨v3, rfl, hown3, hb3⟩
  have HB3 := Lib.hid (HBB.out.trans (hb3.mono HBB.out.size))
  obtain ⟨A3, L3, C3, ev, _, _, _⟩ := hown3.bs.sl
  subst ev
  have s1 := run_string_of (P := Try.prog) 24 9 5 Try.underlying24 Try.underlying5 Try.underlying9 (HV3.out.below hb3)
  have s2 := run_string_of (P := Try.prog) 24 9 5 Try.underlying24 Try.underlying5 Try.underlying9 hown3.bs
  have e1 : plain [(⟨1, .slice (some ⟨W.heap.size, 0, none⟩) K K, x⟩ : Tg)] = [(1, x)] := rfl
  rw [e1] at s1 s2 ⊢
  generalize encE [(1, x)] = k
  generalize encB [(1, x)] = y at s1 s2
  clear hown3 hb3 e1
  go_wp2_with fail
  refine (AW.out w3).mono ?_
  rintro e w4 ⟨rfl, hb4⟩
  have HB4 := Lib.hid (HB3.out.trans (hb4.mono HB3.out.size))
  clear hb4
  go_wp2
  go_ret
  exact ⟨rfl, HB4.out⟩

theorem own : ownKnob Try.prog.godebug = none := by kernel_rfl
theorem laidOut : laidOutB Try.prog = true := by kernel_rfl
set_option maxRecDepth 100000 in
theorem lifted (os : Os) (started : os.Started) (H : Type) (enc : TypeId × Value → H) :
    ReturnsInHanded {} Try.checked os 4 .any (Rows.tagsLongSpec.pre6 enc Try.prog Try.f4 Rows.tagsLongRow.domain false) (Rows.tagsLongSpec.post enc Try.prog Try.f4 false true false false) := by
  refine returnsInHanded_of_change (C := Try.checked) own started (by kernel_rfl) Try.func4
    (ChangeSpec.witness6 (enc := enc) (C := Try.checked) false ⟨#[], #[.int .u16 0, .int .u8 0], []⟩ 8 (by kernel_rfl) (by kernel_rfl) (by kernel_rfl) (by kernel_rfl)) ?_
  intro W base args ds gs before hval0 hW hcnd _
  have hval : ∀ (j : Nat) t v, Try.f4.params[j]? = some t → args[j]? = some v → Value.okWide Try.prog W .any base t v := hval0
  have hW' := hW
  obtain ⟨p, q, hA0, hV, rfl, hfz, hnd⟩ := hW
  have hA : DataW.TrodAll enc Try.prog W 0 (fun _ => true) true Try.f4.params.toList args.toList ds p := hA0
  rw [Try.params4] at hA hval
  obtain ⟨v0, vs0, d0, ds0, p0, q0, hargs, rfl, rfl, h0, r0⟩ := trodAll_cons hA
  obtain ⟨v1, vs1, d1, ds1, p1, q1, rfl, rfl, rfl, h1, r1⟩ := trodAll_cons r0
  obtain ⟨rfl, rfl, rfl⟩ := trodAll_nil r1
  obtain rfl : args = #[v0, v1] := by cases args; simp_all
  obtain ⟨rfl, rfl⟩ := trodVars_none hV
  have k0 := h0
  have lt0 : ∀ x ∈ p0, x.block < W.heap.size := by obtain ⟨m, hm⟩ := k0; exact DataW.trod_lt m _ _ _ hm
  obtain ⟨a0, rfl, rfl, rfl, w0⟩ := open_int Try.underlying32 (hval 0 32 v0 rfl rfl) h0
  have k1 := h1
  have lt1 : ∀ x ∈ p1, x.block < W.heap.size := by obtain ⟨m, hm⟩ := k1; exact DataW.trod_lt m _ _ _ hm
  obtain ⟨a1, rfl, rfl, rfl, w1⟩ := open_int Try.underlying5 (hval 1 5 v1 rfl rfl) h1
  clear hA0 hval0
  refine (walk W a0 w0 a1 w1).mono fun e W' ⟨he, bel⟩ => ?_
  subst he
  exact ⟨_, rfl, _, _, _, [], _, [], hW', trodAll_mk1 (shut_bool Try.underlying4 _), (trodAll_cons_mk (Below.trod laidOut (by kernel_rfl) (of_decide_eq_true (by kernel_rfl)) k0 bel lt0) (trodAll_cons_mk (Below.trod laidOut (by kernel_rfl) (of_decide_eq_true (by kernel_rfl)) k1 bel lt1) trodAll_mk0)), rfl, bel.frame _, fun h => by cases h⟩
theorem over : Rows.tagsLongRow.holds Try.pinned (OpenSpec.ofChange Rows.tagsLongSpec) :=
  OpenClaim.holds_of_wide 4 Try.f4 rfl rfl rfl rfl rfl rfl rfl ⟨rfl, rfl, rfl, rfl, rfl⟩ rfl rfl rfl rfl rfl (by kernel_rfl) Try.func4 (by kernel_rfl)
    (of_decide_eq_true (by kernel_rfl)) (by unfold Func.isWrapper; first | (rw [if_pos (by decide +kernel)]; kernel_rfl) | (rw [if_neg (by decide +kernel)]; exact ⟨rfl, rfl⟩))
    (fun os started H enc _ => lifted os started H enc)
/-- The statement. -/
theorem proved : Rows.TagsLongSaid := over
end Go.Proofs.Ytlpafphlecajhaa.tagsLong
