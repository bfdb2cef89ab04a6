/-
  A payload of 1499 or 1500 bytes may be, one of 1501 bytes is too long, for ether.Encode and for ether.Decode (conciergelaw04.EtherEnds answers true, whatever byte comes). No conditions.
-/
import Derived.Test.YtkalbchcgdnciaaEthJ
import Derived.ProofKit
import Derived.OpenShut
import Derived.ChangeOld
namespace Go.Proofs.Ytkalbchcgdnciaa.etherEnds
open Go.ChangeShapes Go.WideShapes Go.ChangeAt Go.RowKit
set_option linter.unusedVariables false
set_option linter.unusedSimpArgs false

def zeros (n : Nat) : List UInt8 := List.replicate n 0
theorem zeros_map (n : Nat) : (zeros n).map u8v = List.replicate n (Value.int .u8 0) := by unfold zeros; rw [List.map_replicate]; rfl
theorem zeros_length (n : Nat) : (zeros n).length = n := by simp [zeros]
/-- Zeros, and an 8 at place 12. -/
def rawL (m : Nat) : List UInt8 := (zeros m).set 12 8
theorem rawL_length (m : Nat) : (rawL m).length = m := by simp [rawL, zeros_length]
theorem rawL_map (m : Nat) : (List.replicate m (Value.int .u8 0)).set 12 (.int .u8 8) = (rawL m).map u8v := by
  unfold rawL
  rw [List.map_set, zeros_map]
  rfl
theorem rawL_typ (m : Nat) (h : 14 ≤ m) : typN (rawL m) = 2048 := by
  rw [typN_eq _ (by rw [rawL_length]; exact h)]
  simp [rawL, zeros]
theorem rawL_dchk (m n : Nat) (h : m = 14 + n) : dchk (rawL m) = chk 34916 n := by
  rw [dchk_long (by rw [rawL_length]; omega), rawL_typ m (by omega), rawL_length]
  have : m - 14 = n := by omega
  rw [this]
  unfold chk
  rw [if_neg (show ¬ (((2048 : Nat) : Int) < 1536 ∨ 65535 < ((2048 : Nat) : Int)) by omega), if_neg (show ¬ ((34916 : Int) < 1536 ∨ (65535 : Int) < 34916) by omega)]
theorem row_bs {w : World} {g n : Nat} {l : List UInt8} {t : TypeId} {fr : Nat × Nat} (h : w.heap[g]? = some (.cells (l.map u8v).toArray t fr)) (hn : l.length = n) (hm : n ≤ maxLen) : Bs w (.slice (some ⟨g, 0, none⟩) n n) l := by
  unfold Bs
  rw [hn]
  exact rd_mid h n (by simpa using hn) hm (fun j u hu => by rw [Nat.zero_add]; exact hu)

set_option maxRecDepth 20000 in
set_option maxHeartbeats 4000000 in
theorem walk (W : World) (a0 : Int) (w0 : (Lit.int .u8 a0).wf = true) :
    Calls Try.prog 7 #[.int .u8 a0] W fun e w' => e = .returned (.bool true) ∧ Below W.heap.size W w' := by
  obtain ⟨i0, hi, hz0, hz1, hz2⟩ := info_parts info5
  obtain ⟨z, rfl⟩ := u8_of_wf w0
  obtain ⟨y, hy⟩ : ∃ y, y = z.toNat := ⟨_, rfl⟩
  have hy8 : y < 256 := by rw [hy]; exact UInt8.toNat_lt z
  rw [← hy]
  obtain ⟨k, hk⟩ : ∃ k, k = y % 3 := ⟨_, rfl⟩
  have hk3 : k < 3 := by omega
  have hmod : (y : Int) % 3 = (k : Int) := by omega
  obtain ⟨N, hN⟩ : ∃ N, N = 1499 + k := ⟨_, rfl⟩
  have hNi : 1499 + (k : Int) = (N : Int) := by omega
  obtain ⟨M, hM⟩ : ∃ M, M = 14 + N := ⟨_, rfl⟩
  have hMi : 14 + (N : Int) = (M : Int) := by omega
  have HM := Lib.hid hM
  have HN := Lib.hid hN
  have AW := Lib.hid awake_any
  have l1 : 1499 ≤ N := by omega
  have l2 : N ≤ 1501 := by omega
  have l3 : 1513 ≤ M := by omega
  have l4 : M ≤ 1515 := by omega
  clear w0 hy hk hN hM
  go_enter Try.func7, Try.ntmps7
  go_wp2_with (at_make; refine wpList_make_cap _ rfl _ _ 24 rfl W.heap.size 5 i0 (.int .u8 0) Try.underlying24 hi hz0 hz1 rfl _ _ _ _ N N rfl rfl rfl rfl ?a3 ?a4 ?a5 ?a6 ?_)
  case a3 => omega
  case a4 => rw [hz2]; omega
  case a5 => unfold maxLen; omega
  case a6 => exact Nat.le_refl _
  intro w1 hown1 hb1
  have HG1 := Lib.hid (own_row hown1)
  have HB1 := Lib.hid hb1
  have HV1 : Hid (Bs w1 (.slice (some ⟨W.heap.size, 0, none⟩) N N) (zeros N)) := row_bs (by rw [zeros_map]; exact HG1.out) (zeros_length N) (by unfold maxLen; omega)
  clear hown1 hb1
  go_wp2_with fail
  change Calls Try.prog 10 #[.agg (ethL z6 z6 34916 (.slice (some ⟨W.heap.size, 0, none⟩) N N)).toArray] _ _
  refine (encode_any z6 z6 34916 _ N N (zeros N) rfl rfl (zeros_length N) w1 HV1.out).mono ?_
  rintro e w2 ⟨v2, rfl, hown2, hb2⟩
  rw [zeros_length]
  have HB2 := Lib.hid (HB1.out.trans (hb2.mono HB1.out.size))
  have HV2 := Lib.hid hown2.bs
  clear hown2 hb2
  obtain ⟨p, hp⟩ : ∃ p, p = (encL z6 z6 34916 (zeros N)).length := ⟨_, rfl⟩
  obtain ⟨a2, c2, ev, hc2, hm2⟩ := HV2.out.shape
  rw [← hp] at ev
  subst ev
  have HP := Lib.hid hp
  clear hp hc2 hm2 HV2
  obtain ⟨r, hr⟩ : ∃ r, r = chk 34916 N := ⟨_, rfl⟩
  rw [← hr]
  have HR := Lib.hid hr
  clear hr
  go_wp2_with (at_make; refine wpList_make_cap _ rfl _ _ 24 rfl w2.heap.size 5 i0 (.int .u8 0) Try.underlying24 hi hz0 hz1 rfl _ _ _ _ M M rfl rfl rfl rfl ?d3 ?d4 ?d5 ?d6 ?_)
  case d3 => omega
  case d4 => rw [hz2]; omega
  case d5 => unfold maxLen; omega
  case d6 => exact Nat.le_refl _
  intro w3 hown3 hb3
  have HG3 := Lib.hid (own_row hown3)
  have HB3 := Lib.hid (HB2.out.trans (hb3.mono HB2.out.size))
  have F1 : Hid ((Try.prog.info? 5).map (·.size) = some 1) := by show _ = _; kernel_rfl
  have HL3 : Hid (12 < (List.replicate M (Value.int .u8 0)).length) := by show _ < _; rw [List.length_replicate]; omega
  have i12 : (12 : Int) < (M : Int) := by omega
  have hs2 : W.heap.size ≤ w2.heap.size := HB2.out.size
  clear hown3 hb3
  go_wp2_with (with_reducible refine wpList_store_cell rfl 5 (.tmp 26) (.const (.int .u8 8)) rfl w2.heap.size 12 (.int .u8 8) rfl rfl 5 _ HG3.out F1.out HL3.out rfl ?_)
  intro w4 h4 ho4
  rw [rawL_map] at h4
  have HB4 := Lib.hid (ho4.below _ _ hs2 HB3.out)
  have HV4 := Lib.hid (row_bs h4 (rawL_length M) (by unfold maxLen; omega))
  clear h4 ho4
  go_wp2_with fail
  refine (decode_any _ M M (rawL M) (rawL_length M) w4 HV4.out (by omega)).mono ?_
  rintro e w5 ⟨v5, rfl, hown5, hb5⟩
  rw [rawL_dchk M N HM.out, ← HR.out]
  have HB5 := Lib.hid (HB4.out.trans (hb5.mono HB4.out.size))
  obtain ⟨q, hq⟩ : ∃ q, q = (decP (rawL M)).length := ⟨_, rfl⟩
  obtain ⟨a5, c5, ev, hc5, hm5⟩ := (hown5.bs).shape
  rw [← hq] at ev
  subst ev
  have HQ := Lib.hid hq
  have h13 := ethL_13 (decT (rawL M)) (.slice a5 q c5) (decD_length (rawL M)) (decS_length (rawL M))
  have HLE := Lib.hid (ethL_length (decT (rawL M)) (.slice a5 q c5) (decD_length (rawL M)) (decS_length (rawL M)))
  have HONE := Lib.hid (ethL_one (decD (rawL M)) (decS (rawL M)) (decT (rawL M)) (.slice a5 q c5) rfl)
  generalize ethL (decD (rawL M)) (decS (rawL M)) (decT (rawL M)) (.slice a5 q c5) = E at h13 HLE HONE ⊢
  have HZ : Hid ((w5.alloc (.cells #[.int .u8 0, .int .u8 0, .int .u8 0, .int .u8 0, .int .u8 0, .int .u8 0, .int .u8 0, .int .u8 0, .int .u8 0, .int .u8 0, .int .u8 0, .int .u8 0, .int .i64 0, .slice none 0 0] 26)).heap[w5.heap.size]? = some (.cells ethZ.toArray 26 (0, 0))) := heap_alloc_last _ _
  have HSE : Hid ((Try.prog.info? 26).map (·.size) = some E.length) := by show _ = _; rw [HLE.out]; exact size26
  have HNE : Hid (E.length = ethZ.length) := HLE
  clear hown5 hb5 hq hc5 hm5
  go_wp2_with (with_reducible refine wpList_store_whole rfl 26 (.tmp 8) (.tmp 30) rfl w5.heap.size E rfl rfl 26 ethZ HZ.out HSE.out HNE.out HONE.out ?_)
  intro w6 h6 ho6
  have hb6 : Below w5.heap.size w5 w6 := ho6.below _ _ (Nat.le_refl _) ((Below.refl _ _).alloc (Nat.le_refl _) _)
  have HB6 := Lib.hid (HB5.out.trans (hb6.mono HB5.out.size))
  have hc13 : w6.cell? ⟨w5.heap.size, 13, none⟩ = some (.slice a5 q c5) := by rw [cell_of_row _ _ _ _ _ _ h6]; simpa using h13
  clear h6 ho6 hb6 h13
  by_cases h2 : k = 2
  · subst h2
    have e1 : r = 2 := by rw [HR.out]; exact chk_long (by omega) (by have := HN.out; omega)
    have e2 : q = 0 := by
      rw [HQ.out]
      unfold decP
      rw [if_neg (by rw [rawL_dchk M N HM.out, ← HR.out, e1]; decide)]
      rfl
    have e3 : p = 0 := by
      rw [HP.out]
      unfold encL
      rw [if_neg (by rw [zeros_length, ← HR.out, e1]; decide)]
      rfl
    subst e1 e2 e3
    go_wp2_with fail
    refine (AW.out _).mono ?_
    rintro e w7 ⟨rfl, hb7⟩
    have HB7 := Lib.hid (HB6.out.trans (hb7.mono HB6.out.size))
    clear hb7
    go_wp2
    go_ret
    exact ⟨rfl, HB7.out⟩
  · have e1 : r = 0 := by rw [HR.out]; exact chk_of (by have := HN.out; omega)
    have e2 : q = N := by
      rw [HQ.out]
      unfold decP
      rw [if_pos (by rw [rawL_dchk M N HM.out, ← HR.out, e1]), List.length_drop, rawL_length, HM.out]
      omega
    have e3 : p = M := by
      rw [HP.out]
      unfold encL
      rw [if_pos (by rw [zeros_length, ← HR.out, e1]), wireL_length _ _ rfl rfl, zeros_length, HM.out]
    have hne : ((k : Int) == 2) = false := by rw [beq_eq_false_iff_ne]; omega
    subst e1 e2 e3
    clear h2
    go_wp2_with fail
    refine (AW.out _).mono ?_
    rintro e w7 ⟨rfl, hb7⟩
    have HB7 := Lib.hid (HB6.out.trans (hb7.mono HB6.out.size))
    clear hb7
    go_wp2
    go_ret
    exact ⟨rfl, HB7.out⟩

theorem own : ownKnob Try.prog.godebug = none := by kernel_rfl
theorem laidOut : laidOutB Try.prog = true := by kernel_rfl
set_option maxRecDepth 100000 in
theorem lifted (os : Os) (started : os.Started) (H : Type) (enc : TypeId × Value → H) :
    ReturnsInHanded {} Try.checked os 7 .any (Rows.etherEndsSpec.pre6 enc Try.prog Try.f7 Rows.etherEndsRow.domain false) (Rows.etherEndsSpec.post enc Try.prog Try.f7 false true false false) := by
  refine returnsInHanded_of_change (C := Try.checked) own started (by kernel_rfl) Try.func7
    (ChangeSpec.witness6 (enc := enc) (C := Try.checked) false ⟨#[], #[.int .u8 0], []⟩ 8 (by kernel_rfl) (by kernel_rfl) (by kernel_rfl) (by kernel_rfl)) ?_
  intro W base args ds gs before hval0 hW hcnd _
  have hval : ∀ (j : Nat) t v, Try.f7.params[j]? = some t → args[j]? = some v → Value.okWide Try.prog W .any base t v := hval0
  have hW' := hW
  obtain ⟨p, q, hA0, hV, rfl, hfz, hnd⟩ := hW
  have hA : DataW.TrodAll enc Try.prog W 0 (fun _ => true) true Try.f7.params.toList args.toList ds p := hA0
  rw [Try.params7] at hA hval
  obtain ⟨v0, vs0, d0, ds0, p0, q0, hargs, rfl, rfl, h0, r0⟩ := trodAll_cons hA
  obtain ⟨rfl, rfl, rfl⟩ := trodAll_nil r0
  obtain rfl : args = #[v0] := by cases args; simp_all
  obtain ⟨rfl, rfl⟩ := trodVars_none hV
  have k0 := h0
  have lt0 : ∀ x ∈ p0, x.block < W.heap.size := by obtain ⟨m, hm⟩ := k0; exact DataW.trod_lt m _ _ _ hm
  obtain ⟨a0, rfl, rfl, rfl, w0⟩ := open_int Try.underlying5 (hval 0 5 v0 rfl rfl) h0
  clear hA0 hval0
  refine (walk W a0 w0).mono fun e W' ⟨he, bel⟩ => ?_
  subst he
  exact ⟨_, rfl, _, _, _, [], _, [], hW', trodAll_mk1 (shut_bool Try.underlying4 _), (trodAll_cons_mk (Below.trod laidOut (by kernel_rfl) (of_decide_eq_true (by kernel_rfl)) k0 bel lt0) trodAll_mk0), rfl, bel.frame _, fun h => by cases h⟩
theorem over : Rows.etherEndsRow.holds Try.pinned (OpenSpec.ofChange Rows.etherEndsSpec) :=
  OpenClaim.holds_of_wide 7 Try.f7 rfl rfl rfl rfl rfl rfl rfl ⟨rfl, rfl, rfl, rfl, rfl⟩ rfl rfl rfl rfl rfl (by kernel_rfl) Try.func7 (by kernel_rfl)
    (of_decide_eq_true (by kernel_rfl)) (by unfold Func.isWrapper; first | (rw [if_pos (by decide +kernel)]; kernel_rfl) | (rw [if_neg (by decide +kernel)]; exact ⟨rfl, rfl⟩))
    (fun os started H enc _ => lifted os started H enc)
/-- The statement. -/
theorem proved : Rows.EtherEndsSaid := over
end Go.Proofs.Ytkalbchcgdnciaa.etherEnds
