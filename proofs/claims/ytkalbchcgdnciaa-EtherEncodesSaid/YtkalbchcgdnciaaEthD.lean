/-
  ether.Decode, whatever comes.
-/
import Derived.Test.YtkalbchcgdnciaaEthB
import Derived.Test.YtkalbchcgdnciaaTake
import Derived.IntWalk
namespace Go.Proofs.Ytkalbchcgdnciaa
open Go.RowKit
set_option linter.unusedVariables false
set_option linter.unusedSimpArgs false

def z6 : List UInt8 := [0, 0, 0, 0, 0, 0]
theorem z6_length : z6.length = 6 := rfl
/-- The cells of no frame. -/
def ethZ : List Value := ethL z6 z6 0 (.slice none 0 0)
theorem ethZ_length : ethZ.length = 14 := rfl
theorem ethZ_one : ∀ u ∈ ethZ, u.oneCell' = true := ethL_one _ _ _ _ rfl
theorem size26z : (Try.prog.info? 26).map (·.size) = some ethZ.length := by rw [ethZ_length]; exact size26
theorem size26e {D S : List UInt8} (t : Int) (v : Value) (hD : D.length = 6) (hS : S.length = 6) : (Try.prog.info? 26).map (·.size) = some (ethL D S t v).length := by rw [ethL_length t v hD hS]; exact size26
theorem splice_D {D S D' : List UInt8} (t : Int) (v : Value) (hD : D.length = 6) (hD' : D'.length = 6) : splice (ethL D S t v) 0 (D'.map u8v) = ethL D' S t v := by
  unfold splice ethL
  rw [List.take_zero, List.nil_append, List.length_map, hD', Nat.zero_add, List.drop_left' (by simpa using hD)]
theorem splice_S {D S S' : List UInt8} (t : Int) (v : Value) (hD : D.length = 6) (hS : S.length = 6) (hS' : S'.length = 6) : splice (ethL D S t v) 6 (S'.map u8v) = ethL D S' t v := by
  unfold splice ethL
  have e : D.map u8v ++ (S.map u8v ++ [.int .i64 t, v]) = (D.map u8v ++ S.map u8v) ++ [.int .i64 t, v] := (List.append_assoc _ _ _).symm
  rw [List.length_map, hS', List.take_left' (by simpa using hD), e, List.drop_left' (by simp [hD, hS])]
theorem low6 {g : Nat} {w w' : World} (h : Only g w w') {B : Nat} (hB : B ≤ g) : Below B w w' := h.below B w hB (Below.refl _ _)
/-- What Decode tells: to whom, of whom, which type, which payload. -/
def decD (b : List UInt8) : List UInt8 := if dchk b = 0 then b.take 6 else z6
def decS (b : List UInt8) : List UInt8 := if dchk b = 0 then (b.drop 6).take 6 else z6
def decT (b : List UInt8) : Int := if dchk b = 0 then (typN b : Int) else 0
def decP (b : List UInt8) : List UInt8 := if dchk b = 0 then b.drop 14 else []
def DecR (b : List UInt8) (w : World) (e : Ending) (w' : World) : Prop :=
  ∃ v, e = .returned (.tuple #[.agg (ethL (decD b) (decS b) (decT b) v).toArray, .int .i64 (dchk b)]) ∧ OwnB w' w.heap.size 5 v (decP b) ∧ Below w.heap.size w w'
theorem decD_length (b : List UInt8) : (decD b).length = 6 := by
  unfold decD; split
  · rename_i h; have := dchk_zero h; rw [List.length_take]; omega
  · rfl
theorem decS_length (b : List UInt8) : (decS b).length = 6 := by
  unfold decS; split
  · rename_i h; have := dchk_zero h; rw [List.length_take, List.length_drop]; omega
  · rfl
theorem DecR.none {b : List UInt8} {w w' : World} {k : Int} {r : Value} (hk : k = dchk b) (h : dchk b ≠ 0) (hr : r = .agg ethZ.toArray) (hb : Below w.heap.size w w') : DecR b w (.returned (.tuple #[r, .int .i64 k])) w' := by
  subst hk hr
  refine ⟨.slice Option.none 0 0, ?_, ?_, hb⟩
  · unfold decD decS decT; rw [if_neg h, if_neg h, if_neg h]; rfl
  · unfold decP; rw [if_neg h]; exact OwnB.nil _ _ _
theorem DecR.some {b : List UInt8} {w w' : World} {k : Int} {v r : Value} (hk : k = dchk b) (h : dchk b = 0) (hr : r = .agg (ethL (b.take 6) ((b.drop 6).take 6) (typN b) v).toArray) (ho : OwnB w' w.heap.size 5 v (b.drop 14)) (hb : Below w.heap.size w w') : DecR b w (.returned (.tuple #[r, .int .i64 k])) w' := by
  subst hk hr
  refine ⟨v, ?_, ?_, hb⟩
  · unfold decD decS decT; rw [if_pos h, if_pos h, if_pos h]
  · unfold decP; rw [if_pos h]; exact ho
theorem row_mid {w : World} {b o : Nat} {l : List UInt8} (h : ∀ j (hj : j < l.length), w.cell? ⟨b, o + j, none⟩ = some (.int .u8 (l[j].toNat : Int))) (k m : Nat) (hk : k + m ≤ l.length) (hm : m ≤ maxLen) : Bs w (.slice (some ⟨b, o + k, none⟩) m m) ((l.drop k).take m) := by
  have hl : ((l.drop k).take m).length = m := by rw [List.length_take, List.length_drop]; omega
  unfold Bs
  rw [hl]
  refine ⟨by simp; omega, _, m, rfl, Nat.le_refl _, hm, (fun h => by cases h), fun ad had j u hu => ?_⟩
  obtain rfl := Option.some.inj had
  rw [Addr.add_lit]
  have hj := (List.getElem?_eq_some_iff.1 hu).1
  rw [List.length_map, hl] at hj
  have := h (k + j) (by omega)
  rw [show o + k + j = o + (k + j) by omega, this]
  simp [List.getElem?_take, hj, show k + j < l.length by omega] at hu
  rw [← hu, u8v]

theorem bs_pre {w : World} {ad : Addr} {n c : Nat} {L D : List UInt8} (h : Bs w (.slice (some ad) n c) L) (hD : ∀ (j : Nat) (u : UInt8), D[j]? = some u → L[j]? = some u) : 0 < (D.map u8v).length → ∃ ad', some ad = some ad' ∧ ∀ j v, (D.map u8v)[j]? = some v → w.cell? (ad'.add j) = some v := by
  intro _
  refine ⟨ad, rfl, fun j v hv => ?_⟩
  obtain ⟨h0, ao, cap, e, h1, h2, h3, h4⟩ := h
  simp only [Value.slice.injEq] at e
  refine h4 ad e.1.symm j v ?_
  rw [List.getElem?_map, Option.map_eq_some_iff] at hv ⊢
  obtain ⟨u, hu, rfl⟩ := hv
  exact ⟨u, hD j u hu, rfl⟩
theorem take_get {l : List UInt8} {k : Nat} (j : Nat) (u : UInt8) (h : (l.take k)[j]? = some u) : l[j]? = some u := by
  rw [List.getElem?_take] at h
  split at h
  · exact h
  · cases h

set_option maxHeartbeats 1000000 in
theorem decode_any (a : Option Addr) (n c : Nat) (l : List UInt8) (hn : l.length = n) (w : World) (hb : Bs w (.slice a n c) l) (hr : n ≤ 140737488351232) :
    Calls Try.prog 15 #[.slice a n c] w (DecR l w) := by
  obtain ⟨i0, hi, hz0, hz1, hz2⟩ := info_parts info5
  obtain ⟨_, _, es0, hc0, hm0⟩ := hb.shape
  simp only [Value.slice.injEq] at es0
  obtain ⟨rfl, z0, rfl⟩ := es0
  clear z0
  have BA : Below w.heap.size w (w.alloc (.cells ethZ.toArray 26)) := (Below.refl _ _).alloc (Nat.le_refl _) _
  have HBA := Lib.hid BA
  have HG : Hid ((w.alloc (.cells ethZ.toArray 26)).heap[w.heap.size]? = some (.cells ethZ.toArray 26 (0, 0))) := heap_alloc_last _ _
  have HN := Lib.hid hn
  by_cases h14 : n < 14
  · have hk : (6 : Int) = dchk l := (dchk_short (by omega)).symm
    have HK := Lib.hid hk
    clear hk hn hb BA
    go_enter Try.func15, Try.ntmps15
    go_wp2
    refine bodyPost_ret (v := .tuple #[.agg ethZ.toArray, .int .i64 6]) (results_cell_tmp_row (P := Try.prog) (fn := Try.f15) rfl _ _ w.heap.size 26 _ (0, 0) _ rfl HG.out Try.underlying26 rfl (by rw [List.size_toArray]; exact size26z)) rfl ?_
    exact DecR.none HK.out (by rw [← HK.out]; decide) rfl HBA.out
  · obtain ⟨b, o, rfl, hbl, hcell⟩ := hb.cells (by omega)
    have hs3 : ∀ w', (Instr.slice 24 (.slice (some ⟨b, o, none⟩) n c) none (some (.int .i64 14)) (some (.int .i64 14))).run Try.prog w' = .ok (.slice (some ⟨b, o, none⟩) 14 14) w' := fun w' => by
      rw [run_slice_hm w' 24 _ n c (by rw [elem_of Try.underlying24]; exact Try.underlying24) .i64 .i64 14 14 (by omega) (by omega) (by omega), elem_of Try.underlying24, run_sizeOf hi hz1]
      simp [Result.andThen, sliced, Addr.add]
    have hs6 : ∀ w', (Instr.slice 24 (.slice (some ⟨b, o, none⟩) 14 14) (some (.int .i64 6)) none none).run Try.prog w' = .ok (.slice (some ⟨b, o + 6, none⟩) 8 8) w' := fun w' => by
      rw [run_slice_l w' 24 _ 14 14 (by rw [elem_of Try.underlying24]; exact Try.underlying24) .i64 6 (by omega) (by omega), elem_of Try.underlying24, run_sizeOf hi hz1]
      simp [Result.andThen, sliced, Addr.add]
    have hs12 : ∀ w', (Instr.slice 24 (.slice (some ⟨b, o + 6, none⟩) 8 8) (some (.int .i64 6)) none none).run Try.prog w' = .ok (.slice (some ⟨b, o + 12, none⟩) 2 2) w' := fun w' => by
      rw [run_slice_l w' 24 _ 8 8 (by rw [elem_of Try.underlying24]; exact Try.underlying24) .i64 6 (by omega) (by omega), elem_of Try.underlying24, run_sizeOf hi hz1]
      simp [Result.andThen, sliced, Addr.add]
    have hb1 : Rd w 1 (.slice (some ⟨b, o, none⟩) n c) n (l.map u8v) := by
      have := hb
      unfold Bs at this
      rw [hn] at this
      exact this
    obtain ⟨ao, hs14, hrd⟩ := slice_from (P := Try.prog) Try.underlying24 hi hz1 hb1 .i64 14 14 rfl (by omega)
    have hsl := sl23
    have HP : Hid (Bs w (.slice ao (n - 14) (c - 14)) (l.drop 14)) := by
      have := hrd
      rw [drop_u8] at this
      exact Bs.of_rd this rfl
    have R0 := Lib.hid (row_mid hcell 0 14 (by omega) (by decide))
    have R6 := Lib.hid (row_mid hcell 6 8 (by omega) (by decide))
    have R12 := Lib.hid (row_mid hcell 12 2 (by omega) (by decide))
    have BB : Below w.heap.size w ((w.alloc (.cells #[.int .u8 0, .int .u8 0, .int .u8 0, .int .u8 0, .int .u8 0, .int .u8 0, .int .u8 0, .int .u8 0, .int .u8 0, .int .u8 0, .int .u8 0, .int .u8 0, .int .i64 0, .slice none 0 0] 26)).alloc (.cells #[.int .u8 0, .int .u8 0, .int .u8 0, .int .u8 0, .int .u8 0, .int .u8 0, .int .u8 0, .int .u8 0, .int .u8 0, .int .u8 0, .int .u8 0, .int .u8 0, .int .i64 0, .slice none 0 0] 26)) := ((Below.refl _ _).alloc (Nat.le_refl _) _).alloc (by simp) _
    have HBB := Lib.hid BB
    have HGA : Hid (((w.alloc (.cells #[.int .u8 0, .int .u8 0, .int .u8 0, .int .u8 0, .int .u8 0, .int .u8 0, .int .u8 0, .int .u8 0, .int .u8 0, .int .u8 0, .int .u8 0, .int .u8 0, .int .i64 0, .slice none 0 0] 26)).alloc (.cells #[.int .u8 0, .int .u8 0, .int .u8 0, .int .u8 0, .int .u8 0, .int .u8 0, .int .u8 0, .int .u8 0, .int .u8 0, .int .u8 0, .int .u8 0, .int .u8 0, .int .i64 0, .slice none 0 0] 26)).heap[w.heap.size]? = some (.cells ethZ.toArray 26 (0, 0))) := by
      show _ = _
      rw [Below.heap_alloc _ _ _ (by simp), heap_alloc_last]; rfl
    have HGB : Hid (((w.alloc (.cells #[.int .u8 0, .int .u8 0, .int .u8 0, .int .u8 0, .int .u8 0, .int .u8 0, .int .u8 0, .int .u8 0, .int .u8 0, .int .u8 0, .int .u8 0, .int .u8 0, .int .i64 0, .slice none 0 0] 26)).alloc (.cells #[.int .u8 0, .int .u8 0, .int .u8 0, .int .u8 0, .int .u8 0, .int .u8 0, .int .u8 0, .int .u8 0, .int .u8 0, .int .u8 0, .int .u8 0, .int .u8 0, .int .i64 0, .slice none 0 0] 26)).heap[w.heap.size + 1]? = some (.cells (ethL z6 z6 0 (.slice none 0 0)).toArray 26 (0, 0))) := by
      show _ = _
      have := heap_alloc_last (w.alloc (.cells #[.int .u8 0, .int .u8 0, .int .u8 0, .int .u8 0, .int .u8 0, .int .u8 0, .int .u8 0, .int .u8 0, .int .u8 0, .int .u8 0, .int .u8 0, .int .u8 0, .int .i64 0, .slice none 0 0] 26)) (.cells #[.int .u8 0, .int .u8 0, .int .u8 0, .int .u8 0, .int .u8 0, .int .u8 0, .int .u8 0, .int .u8 0, .int .u8 0, .int .u8 0, .int .u8 0, .int .u8 0, .int .i64 0, .slice none 0 0] 26)
      rw [World.size_alloc] at this
      rw [this]; rfl
    have F1 : Hid ((Try.prog.info? 5).map (·.size) = some 1) := by show _ = _; kernel_rfl
    obtain ⟨D, hDe⟩ : ∃ D, D = l.take 6 := ⟨_, rfl⟩
    obtain ⟨S, hSe⟩ : ∃ S, S = (l.drop 6).take 6 := ⟨_, rfl⟩
    have hD : D.length = 6 := by rw [hDe, List.length_take]; omega
    have hS : S.length = 6 := by rw [hSe, List.length_take, List.length_drop]; omega
    have HDe := Lib.hid hDe
    have HSe := Lib.hid hSe
    have HD := Lib.hid hD
    have HS := Lib.hid hS
    have FD : Hid ((D.map u8v).length = Nat.min 14 6) := by show _ = _; rw [List.length_map, hD]; rfl
    have FS : Hid ((S.map u8v).length = Nat.min 8 6) := by show _ = _; rw [List.length_map, hS]; rfl
    have FP := Lib.hid (bs_pre (D := D) (R0.out.below BB) (by
      intro j u hu
      rw [hDe] at hu
      rw [List.drop_zero, List.getElem?_take]
      have hj := (List.getElem?_eq_some_iff.1 hu).1
      rw [List.length_take] at hj
      rw [if_pos (by omega)]
      exact take_get j u hu))
    have FF : Hid (0 + (D.map u8v).length ≤ (ethL z6 z6 0 (.slice none 0 0)).length) := by show _ ≤ _; rw [List.length_map, hD]; decide
    clear hrd hcell hb hb1 hn BA BB hS hDe hSe
    go_enter Try.func15, Try.ntmps15
    go_wp2_with (with_reducible refine wpList_copy_only rfl (.tmp 18) (.tmp 19) 24 24 rfl 5 Try.underlying24 F1.out (w.heap.size + 1) 0 6 6 _ _ _ rfl rfl (ethL z6 z6 0 (.slice none 0 0)) 26 HGB.out (D.map u8v) FD.out FP.out FF.out (oneCell_u8 _) ?_)
    intro w1 h1 ho1
    rw [splice_D _ _ z6_length HD.out] at h1
    have HG1 := Lib.hid h1
    have HGA1 : Hid (w1.heap[w.heap.size]? = some (.cells ethZ.toArray 26 (0, 0))) := by
      show _ = _
      rw [ho1.heap _ (by simp; omega) (by omega)]; exact HGA.out
    have HB1 := Lib.hid (ho1.below _ _ (by omega) HBB.out)
    have hS := HS.out
    have FP1 := Lib.hid (bs_pre (D := S) (R6.out.below HB1.out) (by
      intro j u hu
      rw [HSe.out] at hu
      have hj := (List.getElem?_eq_some_iff.1 hu).1
      rw [List.length_take] at hj
      rw [List.getElem?_take, if_pos (by omega)]
      exact take_get j u hu))
    have FF1 : Hid (6 + (S.map u8v).length ≤ (ethL D z6 0 (.slice none 0 0)).length) := by show _ ≤ _; rw [List.length_map, hS, ethL_length _ _ HD.out z6_length]; decide
    clear h1 ho1 hD
    go_wp2_with (with_reducible refine wpList_copy_only rfl (.tmp 24) (.tmp 25) 24 24 rfl 5 Try.underlying24 F1.out (w.heap.size + 1) 6 6 6 _ _ _ rfl rfl (ethL D z6 0 (.slice none 0 0)) 26 HG1.out (S.map u8v) FS.out FP1.out FF1.out (oneCell_u8 _) ?_)
    intro w2 h2 ho2
    rw [splice_S _ _ HD.out z6_length HS.out] at h2
    have HG2 := Lib.hid h2
    have HGA2 : Hid (w2.heap[w.heap.size]? = some (.cells ethZ.toArray 26 (0, 0))) := by
      show _ = _
      rw [ho2.heap _ (Array.getElem?_eq_some_iff.1 HGA1.out).1 (by omega)]; exact HGA1.out
    have HB2 := Lib.hid (ho2.below _ _ (by omega) HB1.out)
    have T2 := Lib.hid (take_yes w2 _ 2 2 _ 2 (by rw [List.length_take, List.length_drop, HN.out]; omega) (R12.out.below HB2.out) (by decide) (by decide) (by decide) (by decide))
    obtain ⟨K, hK⟩ : ∃ K, K = typN l := ⟨_, rfl⟩
    have e2 : takeN ((l.drop 12).take 2) 2 = K := by rw [hK]; unfold typN takeN; rw [List.take_take]; rfl
    rw [e2] at T2
    have hK16 : K < 65536 := by rw [hK]; exact typN_lt l (by rw [HN.out]; omega)
    have HK := Lib.hid hK
    have HW : Hid (IntKind.i64.wrap (K : Int) = (K : Int)) := IntWalk.i64_in _ (by omega)
    clear h2 ho2 hS e2 hK
    go_wp2_with fail
    refine T2.out.mono ?_
    rintro e w3 ⟨v3, rfl, hown3, hb3⟩
    have HG3 := Lib.hid (heap_below HG2.out hb3)
    have HGA3 := Lib.hid (heap_below HGA2.out hb3)
    have HB3 := Lib.hid (HB2.out.trans (hb3.mono HB2.out.size))
    clear hown3 hb3
    go_wp2
    refine wp_region_G 6 (Below (w.heap.size)) (by kernel_rfl) ?_
    -- 0: slot 34
    refine wpG_take (preBelow (w.heap.size)) (i := 0) (v := ?_) (by kernel_rfl) (some 34) (by kernel_rfl) rfl (by kernel_rfl) (by kernel_rfl) (by kernel_rfl) (fun _ _ _ h => h) (by rfl) (fun w' hw' => ?_) rfl ?_
    rotate_left
    · go_simp
      with_reducible rfl
    simp only [Act.put, List.setIfInBounds_toArray, List.set_cons_zero, List.set_cons_succ]
    -- 1: slot 35
    refine wpG_take (preBelow (w.heap.size)) (i := 1) (v := ?_) (by kernel_rfl) (some 35) (by kernel_rfl) rfl (by kernel_rfl) (by kernel_rfl) (by kernel_rfl) (fun _ _ _ h => h) (by rfl) (fun w' hw' => ?_) rfl ?_
    rotate_left
    · go_simp
      with_reducible rfl
    simp only [Act.put, List.setIfInBounds_toArray, List.set_cons_zero, List.set_cons_succ]
    -- 2: slot 36
    refine wpG_take (preBelow (w.heap.size)) (i := 2) (v := ?_) (by kernel_rfl) (some 36) (by kernel_rfl) rfl (by kernel_rfl) (by kernel_rfl) (by kernel_rfl) (fun _ _ _ h => h) (by rfl) (fun w' hw' => ?_) rfl ?_
    rotate_left
    · go_simp
      with_reducible rfl
    simp only [Act.put, List.setIfInBounds_toArray, List.set_cons_zero, List.set_cons_succ]
    -- 3: slot 37
    refine wpG_take (preBelow (w.heap.size)) (i := 3) (v := ?_) (by kernel_rfl) (some 37) (by kernel_rfl) rfl (by kernel_rfl) (by kernel_rfl) (by kernel_rfl) (fun _ _ _ h => h) (by rfl) (fun w' hw' => ?_) rfl ?_
    rotate_left
    · go_simp
      with_reducible rfl
    simp only [Act.put, List.setIfInBounds_toArray, List.set_cons_zero, List.set_cons_succ]
    -- 4: slot 38
    refine wpG_take (preBelow (w.heap.size)) (i := 4) (v := ?_) (by kernel_rfl) (some 38) (by kernel_rfl) rfl (by kernel_rfl) (by kernel_rfl) (by kernel_rfl) (fun _ _ _ h => h) (by rfl) (fun w' hw' => ?_) rfl ?_
    rotate_left
    · go_simp
      with_reducible rfl
    simp only [Act.put, List.setIfInBounds_toArray, List.set_cons_zero, List.set_cons_succ]
    refine wpG_one (i := 5) rfl (by kernel_rfl) (by rfl) ?_
    refine wp_store_cell (none) 3 (.tmp 38) (.tmp 35) rfl (w.heap.size + 1) 12 (.int .i64 (IntKind.i64.wrap (K : Int))) rfl rfl 26 (ethL D S 0 (.slice none 0 0)) (show w3.drew.heap[w.heap.size + 1]? = _ by rw [heap_drew]; exact HG3.out) (by kernel_rfl) (by rw [ethL_length _ _ HD.out HS.out]; decide) rfl rfl ?_
    intro w4 h4 ho4
    rw [HW.out, ethL_set12 _ _ _ HD.out HS.out] at h4
    have HG4 := Lib.hid h4
    have HGA4 : Hid (w4.heap[w.heap.size]? = some (.cells ethZ.toArray 26 (0, 0))) := by
      show _ = _
      rw [ho4.heap _ (show w.heap.size < w3.drew.heap.size from (Array.getElem?_eq_some_iff.1 HGA3.out).1) (by omega), heap_drew]; exact HGA3.out
    have HB4 := Lib.hid (ho4.below _ _ (by omega) ((Below.drew HB3.out)))
    refine ⟨ho4.below _ _ (by omega) (Below.refl _ _), ?_⟩
    clear h4 ho4
    try simp only [Act.put, List.setIfInBounds_toArray, List.set_cons_zero, List.set_cons_succ]
    refine wpG_tail (i := 6) (by decide) rfl (by kernel_rfl) (by rfl) ?_
    go_simp
    try simp only [Act.put, List.setIfInBounds_toArray, List.set_cons_zero, List.set_cons_succ]
    refine wpG_tail (i := 7) (by decide) rfl (by kernel_rfl) (by rfl) ?_
    refine wp_store_cell (none) 24 (.tmp 39) (.tmp 37) rfl (w.heap.size + 1) 13 (.slice ao (n - 14) (c - 14)) rfl rfl 26 _ HG4.out (by kernel_rfl) (by rw [ethL_length _ _ HD.out HS.out]; decide) rfl rfl ?_
    intro w5 h5 ho5
    rw [ethL_set13 _ _ _ HD.out HS.out] at h5
    have HG5 := Lib.hid h5
    have HGA5 : Hid (w5.heap[w.heap.size]? = some (.cells ethZ.toArray 26 (0, 0))) := by
      show _ = _
      rw [ho5.heap _ (Array.getElem?_eq_some_iff.1 HGA4.out).1 (by omega)]; exact HGA4.out
    have HB5 := Lib.hid (ho5.below _ _ (by omega) HB4.out)
    clear h5 ho5
    try simp only [Act.put, List.setIfInBounds_toArray, List.set_cons_zero, List.set_cons_succ]
    refine wpG_done (by kernel_rfl) ?_ _
    have HSZ := Lib.hid (size26l (K : Int) (.slice ao (n - 14) (c - 14)) HD.out HS.out)
    go_wp2_with (with_reducible refine wpList_load_row rfl 26 (.tmp 5) rfl (w.heap.size + 1) rfl 26 _ (0, 0) _ HG5.out Try.underlying26 rfl HSZ.out ?_)
    refine (check_any D S K ao (n - 14) (c - 14) HD.out HS.out (by unfold maxLen; omega) w5).mono ?_
    rintro e w6 ⟨rfl, hb6⟩
    have HG6 := Lib.hid (heap_below HG5.out hb6)
    have HGA6 := Lib.hid (heap_below HGA5.out hb6)
    have HB6 := Lib.hid (HB5.out.trans (hb6.mono HB5.out.size))
    obtain ⟨k, hk⟩ : ∃ k, k = chk (K : Int) (n - 14) := ⟨_, rfl⟩
    have HKD : Hid (k = dchk l) := by show _ = _; rw [dchk_long (by rw [HN.out]; omega), ← HK.out, HN.out]; exact hk
    rw [← hk]
    clear hb6 hk
    by_cases h0 : k = 0
    · have HK0 : Hid (dchk l = 0) := by show _ = _; rw [← HKD.out]; exact h0
      subst h0
      have HP6 : Hid (Bs w6 (.slice ao (n - 14) (c - 14)) (l.drop 14)) := HP.out.below HB6.out
      have c13 := cell13 HD.out HS.out HG6.out
      have hl14 : (l.drop 14).length = n - 14 := by rw [List.length_drop, HN.out]
      have CL := Lib.hid (clone_any w6 ao (n - 14) (c - 14) (l.drop 14) hl14 HP6.out (by omega))
      clear hl14
      go_wp2_with fail
      refine CL.out.mono ?_
      rintro e w7 ⟨v7, rfl, hown7, hb7⟩
      have HG7 := Lib.hid (heap_below HG6.out hb7)
      have HGA7 := Lib.hid (heap_below HGA6.out hb7)
      have HB7 := Lib.hid (HB6.out.trans (hb7.mono HB6.out.size))
      have HO7 := Lib.hid hown7
      have hs6' : w.heap.size + 1 < w6.heap.size := (Array.getElem?_eq_some_iff.1 HG6.out).1
      have H1C : Hid (v7.oneCell' = true) := by
        obtain ⟨_, _, ev, _⟩ := (hown7.bs).shape
        show _ = _
        rw [ev]; rfl
      clear hown7 hb7 c13
      go_wp2_with (with_reducible refine wpList_store_cell rfl 24 (.tmp 49) (.tmp 48) rfl (w.heap.size + 1) 13 v7 rfl rfl 26 _ HG7.out ?a1 ?a2 H1C.out ?_)
      case a1 => kernel_rfl
      case a2 => rw [ethL_length _ _ HD.out HS.out]; decide
      intro w8 h8 ho8
      rw [ethL_set13 _ _ _ HD.out HS.out] at h8
      have HG8 := Lib.hid h8
      have HGA8 : Hid (w8.heap[w.heap.size]? = some (.cells ethZ.toArray 26 (0, 0))) := by
        show _ = _
        rw [ho8.heap _ (Array.getElem?_eq_some_iff.1 HGA7.out).1 (by omega)]; exact HGA7.out
      have HB8 := Lib.hid (ho8.below _ _ (by omega) HB7.out)
      have HO8 : Hid (OwnB w8 w6.heap.size 5 v7 (l.drop 14)) := HO7.out.only ho8 hs6'
      clear h8 ho8
      have HSZ8 := Lib.hid (size26l (K : Int) v7 HD.out HS.out)
      have HSZ9 := Lib.hid (size26e (K : Int) v7 HD.out HS.out)
      go_wp2_with (first | (with_reducible refine wpList_load_row rfl 26 (.tmp 5) rfl (w.heap.size + 1) rfl 26 _ (0, 0) _ HG8.out Try.underlying26 rfl HSZ8.out ?_) | (with_reducible refine wpList_store_whole rfl 26 (.tmp 2) (.tmp 50) rfl w.heap.size (ethL D S (K : Int) v7) rfl rfl 26 ethZ HGA8.out HSZ9.out ?b1 ?b2 ?_))
      case b1 => rw [ethL_length _ _ HD.out HS.out]; rfl
      case b2 => exact ethL_one _ _ _ _ H1C.out
      intro w9 h9 ho9
      have H9 := Lib.hid h9
      have HB9 := Lib.hid (ho9.below _ _ (Nat.le_refl _) HB8.out)
      have HO9 : Hid (OwnB w9 w.heap.size 5 v7 (l.drop 14)) := (HO8.out.only ho9 (by omega)).mono (by omega)
      clear h9 ho9
      go_wp2
      refine bodyPost_ret (v := .tuple #[.agg (ethL D S (K : Int) v7).toArray, .int .i64 0]) (results_cell_tmp_row (P := Try.prog) (fn := Try.f15) rfl _ _ w.heap.size 26 _ (0, 0) _ rfl H9.out Try.underlying26 rfl HSZ8.out) rfl ?_
      exact DecR.some HK0.out.symm HK0.out (by rw [HDe.out, HSe.out, HK.out]) HO9.out HB9.out
    · have hne : (k != 0) = true := by simpa using h0
      have HK0 : Hid (dchk l ≠ 0) := by show _ ≠ _; rw [← HKD.out]; exact h0
      clear h0
      go_wp2_with (with_reducible refine wpList_store_whole rfl 26 (.tmp 2) (.tmp 44) rfl w.heap.size ethZ rfl rfl 26 ethZ HGA6.out size26z rfl ethZ_one ?_)
      intro w9 h9 ho9
      have H9 := Lib.hid h9
      have HB9 := Lib.hid (ho9.below _ _ (Nat.le_refl _) HB6.out)
      clear h9 ho9
      go_wp2
      refine bodyPost_ret (v := .tuple #[.agg ethZ.toArray, .int .i64 k]) (results_cell_tmp_row (P := Try.prog) (fn := Try.f15) rfl _ _ w.heap.size 26 _ (0, 0) _ rfl H9.out Try.underlying26 rfl (by rw [List.size_toArray]; exact size26z)) rfl ?_
      exact DecR.none HKD.out HK0.out rfl HB9.out
end Go.Proofs.Ytkalbchcgdnciaa
