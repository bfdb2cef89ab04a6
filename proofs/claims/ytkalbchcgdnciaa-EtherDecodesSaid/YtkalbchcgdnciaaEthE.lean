/-
  The document's Decode, whatever comes.
-/
import Derived.Test.YtkalbchcgdnciaaEthD
namespace Go.Proofs.Ytkalbchcgdnciaa
open Go.RowKit
set_option linter.unusedVariables false
set_option linter.unusedSimpArgs false

theorem ethL_setD {D S : List UInt8} (t : Int) (v : Value) (i : Nat) (x : UInt8) (hD : D.length = 6) (hi : i < 6) : (ethL D S t v).set i (.int .u8 (x.toNat : Int)) = ethL (D.set i x) S t v := by
  unfold ethL
  rw [List.set_append_left _ _ (by simp; omega), List.map_set]
  rfl
theorem ethL_setS {D S : List UInt8} (t : Int) (v : Value) (i : Nat) (x : UInt8) (hD : D.length = 6) (hS : S.length = 6) (hi : i < 6) : (ethL D S t v).set (6 + i) (.int .u8 (x.toNat : Int)) = ethL D (S.set i x) t v := by
  unfold ethL
  rw [List.set_append_right _ _ (by simp; omega), List.set_append_left _ _ (by simp; omega), List.map_set, List.length_map, hD, Nat.add_sub_cancel_left]
  rfl
/-- The first k bytes of l, and zeros behind them. -/
def mixL (l : List UInt8) (k : Nat) : List UInt8 := l.take k ++ z6.drop k
theorem mixL_zero (l : List UInt8) : mixL l 0 = z6 := by simp [mixL]
theorem mixL_six (l : List UInt8) : mixL l 6 = l.take 6 := by simp [mixL, z6]
theorem mixL_length (l : List UInt8) (k : Nat) (hl : 6 ≤ l.length) (hk : k ≤ 6) : (mixL l k).length = 6 := by simp [mixL, z6_length]; omega
theorem mixL_step (l : List UInt8) (k : Nat) (hk : k < 6) (hl : k < l.length) : (mixL l k).set k l[k] = mixL l (k + 1) := by
  have h1 : (l.take k).length = k := by rw [List.length_take]; omega
  unfold mixL
  rw [List.set_append_right _ _ (by omega), h1, Nat.sub_self, List.drop_eq_getElem_cons (by rw [z6_length]; omega), List.set_cons_zero, List.take_succ_eq_append_getElem hl, List.append_assoc]
  rfl
/-- What the loop holds. -/
def DL (w wr : World) (l : List UInt8) (K : Nat) (k : Nat) : Prop :=
  wr.heap[w.heap.size + 1]? = some (.cells (ethL (mixL l k) (mixL (l.drop 6) k) (K : Int) (.slice none 0 0)).toArray 26 (0, 0)) ∧ wr.heap[w.heap.size]? = some (.cells ethZ.toArray 26 (0, 0)) ∧ Below w.heap.size w wr

set_option maxRecDepth 20000 in
set_option maxHeartbeats 1000000 in
theorem rdecode_any (a : Option Addr) (n c : Nat) (l : List UInt8) (hn : l.length = n) (w : World) (hb : Bs w (.slice a n c) l) (hr : n ≤ 140737488351232) :
    Calls Try.prog 16 #[.slice a n c] w (DecR l w) := by
  obtain ⟨i0, hi, hz0, hz1, hz2⟩ := info_parts info5
  obtain ⟨_, _, es0, hc0, hm0⟩ := hb.shape
  simp only [Value.slice.injEq] at es0
  obtain ⟨rfl, z0, rfl⟩ := es0
  clear z0
  have BA : Below w.heap.size w (w.alloc (.cells ethZ.toArray 26)) := (Below.refl _ _).alloc (Nat.le_refl _) _
  have HBA := Lib.hid BA
  have HG : Hid ((w.alloc (.cells ethZ.toArray 26)).heap[w.heap.size]? = some (.cells ethZ.toArray 26 (0, 0))) := heap_alloc_last _ _
  have HN := Lib.hid hn
  by_cases h14 : n < 14
  · have hk : (6 : Int) = dchk l := (dchk_short (by omega)).symm
    have HK := Lib.hid hk
    clear hk hn hb BA
    go_enter Try.func16, Try.ntmps16
    go_wp2
    refine bodyPost_ret (v := .tuple #[.agg ethZ.toArray, .int .i64 6]) (results_cell_tmp_row (P := Try.prog) (fn := Try.f16) rfl _ _ w.heap.size 26 _ (0, 0) _ rfl HG.out Try.underlying26 rfl (by rw [List.size_toArray]; exact size26z)) rfl ?_
    exact DecR.none HK.out (by rw [← HK.out]; decide) rfl HBA.out
  · obtain ⟨b, o, rfl, hbl, hcell⟩ := hb.cells (by omega)
    have hb1 : Rd w 1 (.slice (some ⟨b, o, none⟩) n c) n (l.map u8v) := by
      have := hb
      unfold Bs at this
      rw [hn] at this
      exact this
    obtain ⟨ao, hs14, hrd⟩ := slice_from (P := Try.prog) Try.underlying24 hi hz1 hb1 .i64 14 14 rfl (by omega)
    rw [drop_u8] at hrd
    have HP := Lib.hid hrd
    obtain ⟨x, hx⟩ : ∃ x, x = l[12].toNat := ⟨_, rfl⟩
    obtain ⟨y, hy⟩ : ∃ y, y = l[13].toNat := ⟨_, rfl⟩
    have hx8 : x < 256 := by rw [hx]; exact UInt8.toNat_lt _
    have hy8 : y < 256 := by rw [hy]; exact UInt8.toNat_lt _
    have hK : typN l = 256 * x + y := by rw [typN_eq l (by omega), hx, hy]
    have c12 : ∀ w', Gr w w' → w'.cell? ⟨b, o + 12, none⟩ = some (.int .u8 (x : Int)) := fun w' hw' => by rw [hx]; exact cell_gr hw' (hcell 12 (by omega))
    have c13 : ∀ w', Gr w w' → w'.cell? ⟨b, o + 13, none⟩ = some (.int .u8 (y : Int)) := fun w' hw' => by rw [hy]; exact cell_gr hw' (hcell 13 (by omega))
    have HC12 := Lib.hid c12
    have HC13 := Lib.hid c13
    have HK := Lib.hid hK
    have HCELL := Lib.hid hcell
    have W3 : IntKind.i64.wrap (x : Int) = (x : Int) := IntWalk.i64_in _ (by omega)
    have W4 : IntKind.i64.wrap (y : Int) = (y : Int) := IntWalk.i64_in _ (by omega)
    have W1 : IntKind.i64.wrap (256 * (x : Int)) = 256 * (x : Int) := IntWalk.i64_in _ (by omega)
    have W2 : IntKind.i64.wrap (256 * (x : Int) + (y : Int)) = 256 * (x : Int) + (y : Int) := IntWalk.i64_in _ (by omega)
    have i12 : (12 : Int) < (n : Int) := by omega
    have i13 : (13 : Int) < (n : Int) := by omega
    have HGA : Hid ((((w.alloc (.cells #[.int .u8 0, .int .u8 0, .int .u8 0, .int .u8 0, .int .u8 0, .int .u8 0, .int .u8 0, .int .u8 0, .int .u8 0, .int .u8 0, .int .u8 0, .int .u8 0, .int .i64 0, .slice none 0 0] 26)).alloc (.cells #[.int .u8 0, .int .u8 0, .int .u8 0, .int .u8 0, .int .u8 0, .int .u8 0, .int .u8 0, .int .u8 0, .int .u8 0, .int .u8 0, .int .u8 0, .int .u8 0, .int .i64 0, .slice none 0 0] 26)).drew).heap[w.heap.size]? = some (.cells ethZ.toArray 26 (0, 0))) := by
      show _ = _
      rw [heap_drew, Below.heap_alloc _ _ _ (by simp), heap_alloc_last]; rfl
    have HGB : Hid ((((w.alloc (.cells #[.int .u8 0, .int .u8 0, .int .u8 0, .int .u8 0, .int .u8 0, .int .u8 0, .int .u8 0, .int .u8 0, .int .u8 0, .int .u8 0, .int .u8 0, .int .u8 0, .int .i64 0, .slice none 0 0] 26)).alloc (.cells #[.int .u8 0, .int .u8 0, .int .u8 0, .int .u8 0, .int .u8 0, .int .u8 0, .int .u8 0, .int .u8 0, .int .u8 0, .int .u8 0, .int .u8 0, .int .u8 0, .int .i64 0, .slice none 0 0] 26)).drew).heap[w.heap.size + 1]? = some (.cells ethZ.toArray 26 (0, 0))) := by
      show _ = _
      have := heap_alloc_last (w.alloc (.cells #[.int .u8 0, .int .u8 0, .int .u8 0, .int .u8 0, .int .u8 0, .int .u8 0, .int .u8 0, .int .u8 0, .int .u8 0, .int .u8 0, .int .u8 0, .int .u8 0, .int .i64 0, .slice none 0 0] 26)) (.cells #[.int .u8 0, .int .u8 0, .int .u8 0, .int .u8 0, .int .u8 0, .int .u8 0, .int .u8 0, .int .u8 0, .int .u8 0, .int .u8 0, .int .u8 0, .int .u8 0, .int .i64 0, .slice none 0 0] 26)
      rw [World.size_alloc] at this
      rw [heap_drew, this]; rfl
    have HBB : Hid (Below w.heap.size w (((w.alloc (.cells #[.int .u8 0, .int .u8 0, .int .u8 0, .int .u8 0, .int .u8 0, .int .u8 0, .int .u8 0, .int .u8 0, .int .u8 0, .int .u8 0, .int .u8 0, .int .u8 0, .int .i64 0, .slice none 0 0] 26)).alloc (.cells #[.int .u8 0, .int .u8 0, .int .u8 0, .int .u8 0, .int .u8 0, .int .u8 0, .int .u8 0, .int .u8 0, .int .u8 0, .int .u8 0, .int .u8 0, .int .u8 0, .int .i64 0, .slice none 0 0] 26)).drew)) := (((Below.refl _ _).alloc (Nat.le_refl _) _).alloc (by simp) _).drew
    have GA : Hid (Gr w ((w.alloc (.cells #[.int .u8 0, .int .u8 0, .int .u8 0, .int .u8 0, .int .u8 0, .int .u8 0, .int .u8 0, .int .u8 0, .int .u8 0, .int .u8 0, .int .u8 0, .int .u8 0, .int .i64 0, .slice none 0 0] 26)).drew)) := ((Gr.refl w).alloc _).trans (Gr.drew _)
    clear c12 c13 hx hy hK hrd hb hb1 hcell BA hn
    go_enter Try.func16, Try.ntmps16
    go_wp2
    refine wp_region_G 12 Gr (by kernel_rfl) ?_
    -- 0: slot 10
    refine wpG_take preGr (i := 0) (v := ?_) (by kernel_rfl) (some 10) (by kernel_rfl) rfl (by kernel_rfl) (by kernel_rfl) (by kernel_rfl) (fun _ _ _ h => h) (by rfl) (fun w' hw' => ?_) rfl ?_
    rotate_left
    · have c12 := HC12.out w' (GA.out.trans hw')
      have c13 := HC13.out w' (GA.out.trans hw')
      go_simp
      with_reducible rfl
    simp only [Act.put, List.setIfInBounds_toArray, List.set_cons_zero, List.set_cons_succ]
    -- 1: slot 11
    refine wpG_take preGr (i := 1) (v := ?_) (by kernel_rfl) (some 11) (by kernel_rfl) rfl (by kernel_rfl) (by kernel_rfl) (by kernel_rfl) (fun _ _ _ h => h) (by rfl) (fun w' hw' => ?_) rfl ?_
    rotate_left
    · have c12 := HC12.out w' (GA.out.trans hw')
      have c13 := HC13.out w' (GA.out.trans hw')
      go_simp
      with_reducible rfl
    simp only [Act.put, List.setIfInBounds_toArray, List.set_cons_zero, List.set_cons_succ]
    -- 2: slot 12
    refine wpG_take preGr (i := 2) (v := ?_) (by kernel_rfl) (some 12) (by kernel_rfl) rfl (by kernel_rfl) (by kernel_rfl) (by kernel_rfl) (fun _ _ _ h => h) (by rfl) (fun w' hw' => ?_) rfl ?_
    rotate_left
    · have c12 := HC12.out w' (GA.out.trans hw')
      have c13 := HC13.out w' (GA.out.trans hw')
      go_simp
      with_reducible rfl
    simp only [Act.put, List.setIfInBounds_toArray, List.set_cons_zero, List.set_cons_succ]
    -- 3: slot 13
    refine wpG_take preGr (i := 3) (v := ?_) (by kernel_rfl) (some 13) (by kernel_rfl) rfl (by kernel_rfl) (by kernel_rfl) (by kernel_rfl) (fun _ _ _ h => h) (by rfl) (fun w' hw' => ?_) rfl ?_
    rotate_left
    · have c12 := HC12.out w' (GA.out.trans hw')
      have c13 := HC13.out w' (GA.out.trans hw')
      go_simp
      with_reducible rfl
    simp only [Act.put, List.setIfInBounds_toArray, List.set_cons_zero, List.set_cons_succ]
    -- 4: slot 14
    refine wpG_take preGr (i := 4) (v := ?_) (by kernel_rfl) (some 14) (by kernel_rfl) rfl (by kernel_rfl) (by kernel_rfl) (by kernel_rfl) (fun _ _ _ h => h) (by rfl) (fun w' hw' => ?_) rfl ?_
    rotate_left
    · have c12 := HC12.out w' (GA.out.trans hw')
      have c13 := HC13.out w' (GA.out.trans hw')
      go_simp
      with_reducible rfl
    simp only [Act.put, List.setIfInBounds_toArray, List.set_cons_zero, List.set_cons_succ]
    -- 5: slot 15
    refine wpG_take preGr (i := 5) (v := ?_) (by kernel_rfl) (some 15) (by kernel_rfl) rfl (by kernel_rfl) (by kernel_rfl) (by kernel_rfl) (fun _ _ _ h => h) (by rfl) (fun w' hw' => ?_) rfl ?_
    rotate_left
    · have c12 := HC12.out w' (GA.out.trans hw')
      have c13 := HC13.out w' (GA.out.trans hw')
      go_simp
      with_reducible rfl
    simp only [Act.put, List.setIfInBounds_toArray, List.set_cons_zero, List.set_cons_succ]
    -- 6: slot 16
    refine wpG_take preGr (i := 6) (v := ?_) (by kernel_rfl) (some 16) (by kernel_rfl) rfl (by kernel_rfl) (by kernel_rfl) (by kernel_rfl) (fun _ _ _ h => h) (by rfl) (fun w' hw' => ?_) rfl ?_
    rotate_left
    · have c12 := HC12.out w' (GA.out.trans hw')
      have c13 := HC13.out w' (GA.out.trans hw')
      go_simp
      with_reducible rfl
    simp only [Act.put, List.setIfInBounds_toArray, List.set_cons_zero, List.set_cons_succ]
    -- 7: slot 17
    refine wpG_take preGr (i := 7) (v := ?_) (by kernel_rfl) (some 17) (by kernel_rfl) rfl (by kernel_rfl) (by kernel_rfl) (by kernel_rfl) (fun _ _ _ h => h) (by rfl) (fun w' hw' => ?_) rfl ?_
    rotate_left
    · have c12 := HC12.out w' (GA.out.trans hw')
      have c13 := HC13.out w' (GA.out.trans hw')
      go_simp
      with_reducible rfl
    simp only [Act.put, List.setIfInBounds_toArray, List.set_cons_zero, List.set_cons_succ]
    -- 8: slot 18
    refine wpG_take preGr (i := 8) (v := ?_) (by kernel_rfl) (some 18) (by kernel_rfl) rfl (by kernel_rfl) (by kernel_rfl) (by kernel_rfl) (fun _ _ _ h => h) (by rfl) (fun w' hw' => ?_) rfl ?_
    rotate_left
    · have c12 := HC12.out w' (GA.out.trans hw')
      have c13 := HC13.out w' (GA.out.trans hw')
      go_simp
      with_reducible rfl
    simp only [Act.put, List.setIfInBounds_toArray, List.set_cons_zero, List.set_cons_succ]
    -- 9: slot 19
    refine wpG_take preGr (i := 9) (v := ?_) (by kernel_rfl) (some 19) (by kernel_rfl) rfl (by kernel_rfl) (by kernel_rfl) (by kernel_rfl) (fun _ _ _ h => h) (by rfl) (fun w' hw' => ?_) rfl ?_
    rotate_left
    · have c12 := HC12.out w' (GA.out.trans hw')
      have c13 := HC13.out w' (GA.out.trans hw')
      go_simp
      with_reducible rfl
    simp only [Act.put, List.setIfInBounds_toArray, List.set_cons_zero, List.set_cons_succ]
    -- 10: slot 20
    refine wpG_take preGr (i := 10) (v := ?_) (by kernel_rfl) (some 20) (by kernel_rfl) rfl (by kernel_rfl) (by kernel_rfl) (by kernel_rfl) (fun _ _ _ h => h) (by rfl) (fun w' hw' => ?_) rfl ?_
    rotate_left
    · have c12 := HC12.out w' (GA.out.trans hw')
      have c13 := HC13.out w' (GA.out.trans hw')
      go_simp
      with_reducible rfl
    simp only [Act.put, List.setIfInBounds_toArray, List.set_cons_zero, List.set_cons_succ]
    refine wpG_one (i := 11) rfl (by kernel_rfl) (by rfl) ?_
    go_simp
    refine ⟨(Gr.refl _).alloc _, ?_⟩
    try simp only [Act.put, List.setIfInBounds_toArray, List.set_cons_zero, List.set_cons_succ]
    refine wpG_tail (i := 12) (by decide) rfl (by kernel_rfl) (by rfl) ?_
    refine wp_store_whole (none) 26 (.tmp 4) (.tmp 20) rfl (w.heap.size + 1) (ethL z6 z6 (256 * (x : Int) + (y : Int)) (.slice none 0 0)) rfl rfl 26 ethZ HGB.out (size26e _ _ z6_length z6_length) rfl (ethL_one _ _ _ _ rfl) rfl ?_
    intro w1 h1 ho1
    try simp only [Act.put, List.setIfInBounds_toArray, List.set_cons_zero, List.set_cons_succ]
    refine wpG_done (by kernel_rfl) ?_ _
    obtain ⟨K, hKe⟩ : ∃ K, K = 256 * x + y := ⟨_, rfl⟩
    have e1 : 256 * (x : Int) + (y : Int) = (K : Int) := by rw [hKe]; omega
    have HKE : Hid (K = typN l) := by show _ = _; rw [HK.out]; exact hKe
    have hK16 : K < 65536 := by omega
    rw [e1] at h1
    have HG1 := Lib.hid h1
    have HGA1 : Hid (w1.heap[w.heap.size]? = some (.cells ethZ.toArray 26 (0, 0))) := by
      show _ = _
      rw [ho1.heap _ (Array.getElem?_eq_some_iff.1 HGA.out).1 (by omega)]; exact HGA.out
    have HB1 := Lib.hid (ho1.below _ _ (by omega) HBB.out)
    have t12 := cell12 z6_length z6_length HG1.out
    rw [e1]
    clear h1 ho1 W1 W2 W3 W4 hKe e1 GA HC12 HC13 HBB HGB HGA
    by_cases h15 : K < 1536
    · have HK0 : Hid ((40 : Int) = dchk l) := by show _ = _; rw [dchk_long (by rw [HN.out]; omega), ← HKE.out, chk_type (by omega)]
      go_wp2_with (with_reducible refine wpList_store_whole rfl 26 (.tmp 2) (.tmp 24) rfl w.heap.size ethZ rfl rfl 26 ethZ HGA1.out size26z rfl ethZ_one ?_)
      intro w9 h9 ho9
      have H9 := Lib.hid h9
      have HB9 := Lib.hid (ho9.below _ _ (Nat.le_refl _) HB1.out)
      clear h9 ho9
      go_wp2
      refine bodyPost_ret (v := .tuple #[.agg ethZ.toArray, .int .i64 40]) (results_cell_tmp_row (P := Try.prog) (fn := Try.f16) rfl _ _ w.heap.size 26 _ (0, 0) _ rfl H9.out Try.underlying26 rfl (by rw [List.size_toArray]; exact size26z)) rfl ?_
      exact DecR.none HK0.out (by rw [← HK0.out]; decide) rfl HB9.out
    · by_cases hlong : 1514 < n
      · have HK0 : Hid ((2 : Int) = dchk l) := by show _ = _; rw [dchk_long (by rw [HN.out]; omega), ← HKE.out, HN.out, chk_long (by omega) (by omega)]
        go_wp2_with (with_reducible refine wpList_store_whole rfl 26 (.tmp 2) (.tmp 28) rfl w.heap.size ethZ rfl rfl 26 ethZ HGA1.out size26z rfl ethZ_one ?_)
        intro w9 h9 ho9
        have H9 := Lib.hid h9
        have HB9 := Lib.hid (ho9.below _ _ (Nat.le_refl _) HB1.out)
        clear h9 ho9
        go_wp2
        refine bodyPost_ret (v := .tuple #[.agg ethZ.toArray, .int .i64 2]) (results_cell_tmp_row (P := Try.prog) (fn := Try.f16) rfl _ _ w.heap.size 26 _ (0, 0) _ rfl H9.out Try.underlying26 rfl (by rw [List.size_toArray]; exact size26z)) rfl ?_
        exact DecR.none HK0.out (by rw [← HK0.out]; decide) rfl HB9.out
      · have HK0 : Hid (dchk l = 0) := by show _ = _; rw [dchk_long (by rw [HN.out]; omega), ← HKE.out, HN.out]; exact chk_of (by omega)
        have HL : Hid (DL w w1 l K 0) := ⟨by rw [mixL_zero, mixL_zero]; exact HG1.out, HGA1.out, HB1.out⟩
        have hl6 : 14 ≤ l.length := by rw [HN.out]; omega
        have HL6 := Lib.hid hl6
        clear hl6 HG1 HGA1 HB1
        go_wp2
        go_loopw [5] (fun iv wr => ∃ k : Nat, k ≤ 6 ∧ iv = .int .i64 (k : Int) ∧ Hid (DL w wr l K k)) (fun iv _ => 6 - (intOf iv).toNat)
        case atStart => exact ⟨0, by omega, rfl, HL⟩
        case round =>
          clear HL t12
          obtain ⟨k, hk, rfl, HL⟩ := hrel
          by_cases hlt : k < 6
          · have hk14 : k < l.length := by have := HL6.out; omega
            have hk20 : 6 + k < l.length := by have := HL6.out; omega
            have hl6 : 6 ≤ l.length := by have := HL6.out; omega
            have hlS : 6 ≤ (l.drop 6).length := by have := HL6.out; rw [List.length_drop]; omega
            have g1 := HL.out.1
            have g2 := HL.out.2.1
            have g3 := HL.out.2.2
            have M1 := Lib.hid (mixL_length l k hl6 hk)
            have M2 := Lib.hid (mixL_length (l.drop 6) k hlS hk)
            have d0 : wr.cell? ⟨b, o + k, none⟩ = some (.int .u8 (l[k].toNat : Int)) := by
              rw [g3.cell (World.block_lt_of_cell? w _ (HCELL.out k hk14))]; exact HCELL.out k hk14
            obtain ⟨p, hp⟩ : ∃ p, p = l[k] := ⟨_, rfl⟩
            obtain ⟨q, hq⟩ : ∃ q, q = l[6 + k] := ⟨_, rfl⟩
            rw [← hp] at d0
            have E1 : Hid ((mixL l k).set k p = mixL l (k + 1)) := by show _ = _; rw [hp]; exact mixL_step l k hlt hk14
            have E2 : Hid ((mixL (l.drop 6) k).set k q = mixL (l.drop 6) (k + 1)) := by
              show _ = _
              have hk8 : k < (l.drop 6).length := by rw [List.length_drop]; omega
              have := mixL_step (l.drop 6) k hlt hk8
              rw [List.getElem_drop] at this
              rw [hq]; exact this
            have hp8 := UInt8.toNat_lt p
            have hq8 := UInt8.toNat_lt q
            have in0 : (k : Int) < (n : Int) := by omega
            have in6 : 6 + (k : Int) < (n : Int) := by omega
            have HG1 := Lib.hid g1
            have HGA1 := Lib.hid g2
            have HB1 := Lib.hid g3
            have F1 : Hid ((Try.prog.info? 5).map (·.size) = some 1) := by show _ = _; kernel_rfl
            have L1 : Hid (k < (ethL (mixL l k) (mixL (l.drop 6) k) (K : Int) (.slice none 0 0)).length) := by show _ < _; rw [ethL_length _ _ M1.out M2.out]; omega
            have D1 : Hid (wr.cell? ⟨b, o + (6 + k), none⟩ = some (.int .u8 (q.toNat : Int))) := by
              show _ = _
              rw [g3.cell (World.block_lt_of_cell? w _ (HCELL.out (6 + k) hk20)), hq]; exact HCELL.out (6 + k) hk20
            have hbw : b < wr.heap.size := Nat.lt_of_lt_of_le hbl g3.size
            clear hp hq g1 g2 g3 hl6 hlS HL
            go_wp2_with (with_reducible refine wpList_store_cell rfl 5 (.tmp 39) (.tmp 37) rfl (w.heap.size + 1) k (.int .u8 (p.toNat : Int)) rfl rfl 26 _ HG1.out F1.out L1.out rfl ?_)
            intro w2 h2 ho2
            rw [ethL_setD _ _ _ _ M1.out hlt, E1.out] at h2
            have HG2 := Lib.hid h2
            have HGA2 : Hid (w2.heap[w.heap.size]? = some (.cells ethZ.toArray 26 (0, 0))) := by
              show _ = _
              rw [ho2.heap _ (Array.getElem?_eq_some_iff.1 HGA1.out).1 (by omega)]; exact HGA1.out
            have HB2 := Lib.hid (ho2.below _ _ (by omega) HB1.out)
            have d1 : w2.cell? ⟨b, o + (6 + k), none⟩ = some (.int .u8 (q.toNat : Int)) := ho2.cell (show b ≠ w.heap.size + 1 by omega) D1.out
            have M3 := Lib.hid (mixL_length l (k + 1) (by have := HL6.out; omega) (by omega))
            have L2 : Hid (6 + k < (ethL (mixL l (k + 1)) (mixL (l.drop 6) k) (K : Int) (.slice none 0 0)).length) := by show _ < _; rw [ethL_length _ _ M3.out M2.out]; omega
            clear h2 ho2 d0
            go_wp2_with (with_reducible refine wpList_store_cell rfl 5 (.tmp 47) (.tmp 45) rfl (w.heap.size + 1) (6 + k) (.int .u8 (q.toNat : Int)) rfl rfl 26 _ HG2.out F1.out L2.out rfl ?_)
            intro w3 h3 ho3
            rw [ethL_setS _ _ _ _ M3.out M2.out hlt, E2.out] at h3
            have HL3 : Hid (DL w w3 l K (k + 1)) := ⟨h3, by
              rw [ho3.heap _ (Array.getElem?_eq_some_iff.1 HGA2.out).1 (by omega)]; exact HGA2.out, ho3.below _ _ (by omega) HB2.out⟩
            clear h3 ho3 d1
            go_wp2
            go_roundw
            case rel => exact ⟨k + 1, by omega, by go_num, HL3⟩
            case measure => simp [intOf]; omega
          · obtain rfl : k = 6 := by omega
            have g1 := HL.out.1
            have g2 := HL.out.2.1
            have g3 := HL.out.2.2
            rw [mixL_six, mixL_six] at g1
            obtain ⟨D, hDe⟩ : ∃ D, D = l.take 6 := ⟨_, rfl⟩
            obtain ⟨S, hSe⟩ : ∃ S, S = (l.drop 6).take 6 := ⟨_, rfl⟩
            rw [← hDe, ← hSe] at g1
            have hD : D.length = 6 := by have := HL6.out; rw [hDe, List.length_take]; omega
            have hS : S.length = 6 := by have := HL6.out; rw [hSe, List.length_take, List.length_drop]; omega
            have HDe := Lib.hid hDe
            have HSe := Lib.hid hSe
            have HD := Lib.hid hD
            have HS := Lib.hid hS
            have HG1 := Lib.hid g1
            have HGA1 := Lib.hid g2
            have HB1 := Lib.hid g3
            have hs1 : w.heap.size + 2 ≤ wr.heap.size := (Array.getElem?_eq_some_iff.1 g1).1
            have hb3 := (Below.refl wr.heap.size wr).alloc (Nat.le_refl _) (.cells #[] 5)
            have HB3 := Lib.hid (HB1.out.trans (hb3.mono HB1.out.size))
            have HG3 := Lib.hid (heap_below HG1.out hb3)
            have HGA3 := Lib.hid (heap_below HGA1.out hb3)
            have HS3 := Lib.hid (Nat.le_trans hs1 hb3.size)
            have HO3 : Hid ((wr.alloc (.cells #[] 5)).ownsRow (w.heap.size + 2) 5 1 (.slice (some ⟨wr.heap.size, 0, none⟩) 0 0) 0 []) := World.ownsRow_made _ _ _ hs1 (Nat.zero_le _) rfl
            obtain ⟨X, hX⟩ : ∃ X, X = l.drop 14 := ⟨_, rfl⟩
            have HX := Lib.hid hX
            have HXL : Hid (X.length = n - 14) := by show _ = _; rw [hX, List.length_drop, HN.out]
            have HV3 : Hid (Rd (wr.alloc (.cells #[] 5)) 1 (.slice ao (n - 14) (c - 14)) (n - 14) (X.map u8v)) := by rw [hX]; exact HP.out.below HB3.out
            clear hb3 g1 g2 g3 hDe hSe hD hS hs1 hX HL
            go_wp2_with (at_builtin; refine wpList_append_rd _ rfl _ _ 24 rfl (w.heap.size + 2) 5 i0 (.int .u8 0) 1 1 Try.underlying24 hi hz0 hz1 hz2 rfl (by decide) _ _ _ rfl HO3.out _ _ _ rfl HV3.out (oneCell_u8 _) ?c1 (by decide) HS3.out ?_)
            case c1 => omega
            intro v7 w7 hown7 hb7
            have HG7 : Hid (w7.heap[w.heap.size + 1]? = some (.cells (ethL D S (K : Int) (.slice none 0 0)).toArray 26 (0, 0))) := by
              show _ = _
              rw [hb7.block _ (by omega)]; exact HG3.out
            have HGA7 : Hid (w7.heap[w.heap.size]? = some (.cells ethZ.toArray 26 (0, 0))) := by
              show _ = _
              rw [hb7.block _ (by omega)]; exact HGA3.out
            have HB7 := Lib.hid (HB3.out.trans (hb7.mono (by omega)))
            have HO7 : Hid (OwnB w7 (w.heap.size + 2) 5 v7 X) := by
              show OwnB _ _ _ _ _
              unfold OwnB
              rw [HXL.out]
              exact hown7
            have H1C : Hid (v7.oneCell' = true) := by
              obtain ⟨_, _, ev, _⟩ := (HO7.out.bs).shape
              show _ = _
              rw [ev]; rfl
            have F2 : Hid ((Try.prog.info? 24).map (·.size) = some 1) := by show _ = _; kernel_rfl
            have L2 : Hid (13 < (ethL D S (K : Int) (.slice none 0 0)).length) := by show _ < _; rw [ethL_length _ _ HD.out HS.out]; decide
            clear hown7 hb7
            go_wp2_with (with_reducible refine wpList_store_cell rfl 24 (.tmp 52) (.tmp 51) rfl (w.heap.size + 1) 13 v7 rfl rfl 26 _ HG7.out F2.out L2.out H1C.out ?_)
            intro w8 h8 ho8
            rw [ethL_set13 _ _ _ HD.out HS.out] at h8
            have HG8 := Lib.hid h8
            have HGA8 : Hid (w8.heap[w.heap.size]? = some (.cells ethZ.toArray 26 (0, 0))) := by
              show _ = _
              rw [ho8.heap _ (Array.getElem?_eq_some_iff.1 HGA7.out).1 (by omega)]; exact HGA7.out
            have HB8 := Lib.hid (ho8.below _ _ (by omega) HB7.out)
            have HO8 := Lib.hid (HO7.out.only ho8 (by omega))
            clear h8 ho8
            have HSZ8 := Lib.hid (size26l (K : Int) v7 HD.out HS.out)
            have HSZ9 := Lib.hid (size26e (K : Int) v7 HD.out HS.out)
            have HNE : Hid ((ethL D S (K : Int) v7).length = ethZ.length) := by show _ = _; rw [ethL_length _ _ HD.out HS.out]; rfl
            have HON := Lib.hid (ethL_one D S (K : Int) v7 H1C.out)
            go_wp2_with (first | (with_reducible refine wpList_load_row rfl 26 (.tmp 4) rfl (w.heap.size + 1) rfl 26 _ (0, 0) _ HG8.out Try.underlying26 rfl HSZ8.out ?_) | (with_reducible refine wpList_store_whole rfl 26 (.tmp 2) (.tmp 53) rfl w.heap.size (ethL D S (K : Int) v7) rfl rfl 26 ethZ HGA8.out HSZ9.out HNE.out HON.out ?_))
            intro w9 h9 ho9
            have H9 := Lib.hid h9
            have HB9 := Lib.hid (ho9.below _ _ (Nat.le_refl _) HB8.out)
            have HO9 : Hid (OwnB w9 w.heap.size 5 v7 (l.drop 14)) := by
              show OwnB _ _ _ _ _
              rw [← HX.out]
              exact (HO8.out.only ho9 (by omega)).mono (by omega)
            clear h9 ho9
            go_wp2
            refine bodyPost_ret (v := .tuple #[.agg (ethL D S (K : Int) v7).toArray, .int .i64 0]) (results_cell_tmp_row (P := Try.prog) (fn := Try.f16) rfl _ _ w.heap.size 26 _ (0, 0) _ rfl H9.out Try.underlying26 rfl HSZ8.out) rfl ?_
            exact DecR.some HK0.out.symm HK0.out (by rw [HDe.out, HSe.out, HKE.out]) HO9.out HB9.out
end Go.Proofs.Ytkalbchcgdnciaa
