import Derived.Test.YtjlacialbfhjcaaDoorShaA
namespace Go.Proofs.YtjlacialbfhjcaaDoor
open Go.RowKit
set_option linter.unusedVariables false
set_option linter.unusedSimpArgs false

theorem u32_or256 (m b : Nat) (hm : m < 16777216) (hb : b < 256) : bits .or .u32 ((m : Int) * 256) (b : Int) = ((m * 256 + b : Nat) : Int) := by
  have e : ((m : Int) * 256) = ((m * 256 : Nat) : Int) := by omega
  rw [e, u32_or_nat _ _ (by omega) (by omega)]
  congr 1
  have := Nat.two_pow_add_eq_or_of_lt (i := 8) (show b < 2 ^ 8 by omega) m
  rw [show m * 256 = 2 ^ 8 * m from by omega, ← this]
theorem word4_iv (l : List UInt8) (i : Nat) (h : i + 4 ≤ l.length) : iv (word4 l i) = ((takeN (l.drop i) 4 : Nat) : Int) := by
  have := takeN_lt (l.drop i) 4 (by rw [List.length_drop]; omega)
  exact iv_mk _ (by simpa using this)
theorem word_any (l : List UInt8) (hl : l.length = 64) (z : Int) (i : Nat) (hz : z = (i : Int)) (hi : i + 4 ≤ 64) (w : World) :
    Calls Tryd.prog 60 #[.agg (l.map u8v).toArray, .int .i64 z] w fun e w' => e = .returned (u32v (word4 l i)) ∧ Below w.heap.size w w' := by
  subst hz
  have hcell : ∀ k (hk : i + k < l.length), (w.alloc (.cells (l.map u8v).toArray 69)).cell? ⟨w.heap.size, i + k, none⟩ = some (.int .u8 (l[i + k].toNat : Int)) := fun k hk => by
    rw [World.cell?_alloc_new]
    simp [u8v, hk]
  have H := Lib.hid hcell
  have HL := Lib.hid hl
  have hw4 := Lib.hid (word4_iv l i (by omega))
  have hbel : Below w.heap.size w (w.alloc (.cells (l.map u8v).toArray 69)) := (Below.refl _ _).alloc (Nat.le_refl _) _
  have HB := Lib.hid hbel
  clear hcell hl hbel
  unfold u32v
  go_enter Tryd.func60, Tryd.ntmps60
  go_wp2
  go_loop [5, 7] (fun n t => ∃ k : Nat, k ≤ 4 ∧ t = .int .i64 k ∧ n = .int .u32 ((takeN (l.drop i) k : Nat) : Int)) (fun _ t => 4 - (intOf t).toNat)
  case atStart => exact ⟨0, Nat.zero_le _, rfl, by simp [takeN]⟩
  case round =>
    obtain ⟨k, hk, rfl, rfl⟩ := hrel
    by_cases hlt : k < 4
    · have hc := H.out k (by have := HL.out; omega)
      have hb := UInt8.toNat_lt (l[i + k]'(by have := HL.out; omega))
      have ht : takeN (l.drop i) k < 16777216 := Nat.lt_of_lt_of_le (takeN_lt (l.drop i) k (by have := HL.out; rw [List.length_drop]; omega)) (Nat.le_trans (Nat.pow_le_pow_right (by omega) (show k ≤ 3 by omega)) (by decide))
      have hs : takeN (l.drop i) (k + 1) = takeN (l.drop i) k * 256 + (l[i + k]'(by have := HL.out; omega)).toNat := by
        rw [takeN_succ _ _ (by have := HL.out; rw [List.length_drop]; omega), List.getElem_drop]
      have HS := Lib.hid hs
      have ho := u32_or256 (takeN (l.drop i) k) (l[i + k]'(by have := HL.out; omega)).toNat ht hb
      clear hs
      go_wp2
      go_round
      case rel => exact ⟨k + 1, by omega, by go_num, by rw [HS.out]; go_num⟩
      case measure => simp [intOf]; omega
    · obtain rfl : k = 4 := by omega
      go_wp2
      go_ret
      exact ⟨ret_int hw4.out.symm, HB.out⟩
theorem size8 : (Tryd.prog.info? 78).map (·.size) = some 8 := by kernel_rfl
theorem size64w : (Tryd.prog.info? 87).map (·.size) = some 64 := by kernel_rfl
theorem size64b : (Tryd.prog.info? 69).map (·.size) = some 64 := by kernel_rfl
theorem begin_any (w : World) :
    Calls Tryd.prog 49 #[] w fun e w' => e = .returned (.agg (st0.list.map u32v).toArray) ∧ Below w.heap.size w w' := by
  go_enter Tryd.func49, Tryd.ntmps49
  go_wp2
  exact bodyPost_ret (v := .agg (st0.list.map u32v).toArray) (results_cell_row Tryd.results49 _ _ w.heap.size 78 _ (0, 0) _ rfl (heap_alloc_last _ _) Tryd.underlying78 rfl size8) rfl ⟨rfl, (Below.refl _ _).alloc (Nat.le_refl _) _⟩
/-- A row of words of which the first k are known. -/
def wpad (l : List UInt8) (k : Nat) : List Value := (wL l k).map u32v ++ List.replicate (64 - k) (.int .u32 0)
theorem wpad_length (l : List UInt8) (k : Nat) (h : k ≤ 64) : (wpad l k).length = 64 := by simp [wpad, wL_length]; omega
theorem wpad_get (l : List UInt8) (k j : Nat) (h : j < k) : (wpad l k)[j]? = some (u32v ((wL l k).getD j 0)) := by
  unfold wpad
  rw [List.getElem?_append_left (by simp [wL_length, h])]
  simp [wL_length, h]
theorem wpad_set (l : List UInt8) (k : Nat) (h : k < 64) (x : UInt32) (hx : x = if k < 16 then word4 l (4 * k) else wNext (wL l k)) : (wpad l k).set k (u32v x) = wpad l (k + 1) := by
  subst hx
  unfold wpad
  rw [wL]
  rw [List.set_append_right _ _ (by simp [wL_length])]
  simp only [List.length_map, wL_length, Nat.sub_self]
  rw [show 64 - k = (64 - (k + 1)) + 1 by omega, List.replicate_succ, List.set_cons_zero, List.map_append, List.append_assoc]
  rfl
theorem wpad_full (l : List UInt8) : wpad l 64 = (wL l 64).map u32v := by simp [wpad]
/-- What holds in schedule's loops, k words known. -/
def SchI (w wr : World) (l : List UInt8) (k : Nat) : Prop :=
  Below w.heap.size w wr ∧ wr.heap[w.heap.size]? = some (.cells (l.map u8v).toArray 69 (0, 0)) ∧
  (∃ cs, wr.heap[w.heap.size + 1]? = some (.cells cs 87 (0, 0)) ∧ cs.size = 64) ∧ wr.heap[w.heap.size + 1 + 1]? = some (.cells (wpad l k).toArray 87 (0, 0))
theorem SchI.below {w wr w1 : World} {l : List UInt8} {k : Nat} (h : SchI w wr l k) (hb : Below wr.heap.size wr w1) : SchI w w1 l k := by
  obtain ⟨h1, h2, ⟨cs, h3, h4⟩, h5⟩ := h
  exact ⟨h1.trans (hb.mono h1.size), heap_below h2 hb, ⟨cs, heap_below h3 hb, h4⟩, heap_below h5 hb⟩
theorem SchI.set {w wr : World} {l : List UInt8} {k : Nat} (h : SchI w wr l k) (hk : k < 64) (x : UInt32) (hx : x = if k < 16 then word4 l (4 * k) else wNext (wL l k)) :
    SchI w (wr.setCell ⟨w.heap.size + 1 + 1, k, none⟩ (u32v x)) l (k + 1) := by
  obtain ⟨h1, h2, ⟨cs, h3, h4⟩, h5⟩ := h
  refine ⟨h1.setCell (by show w.heap.size ≤ w.heap.size + 1 + 1; omega) _, ?_, ⟨cs, ?_, h4⟩, ?_⟩
  · rw [heap_setCell_other _ _ _ _ (by show _ ≠ w.heap.size + 1 + 1; omega)]; exact h2
  · rw [heap_setCell_other _ _ _ _ (by show _ ≠ w.heap.size + 1 + 1; omega)]; exact h3
  · rw [heap_setCell_same _ _ _ _ _ _ h5, ← wpad_set l k hk x hx]; simp
theorem SchI.get {w wr : World} {l : List UInt8} {k : Nat} (h : SchI w wr l k) (j : Nat) (hj : j < k) : wr.cell? ⟨w.heap.size + 1 + 1, j, none⟩ = some (u32v ((wL l k).getD j 0)) := by
  obtain ⟨h1, h2, ⟨cs, h3, h4⟩, h5⟩ := h
  rw [cell_of_row _ _ _ _ _ _ h5]; simpa using wpad_get l k j hj
theorem SchI.at {w wr : World} {l : List UInt8} {k : Nat} (h : SchI w wr l k) (hk : k ≤ 64) (j : Nat) (hj : j < 64) : ∃ u, wr.cell? ⟨w.heap.size + 1 + 1, j, none⟩ = some u := by
  obtain ⟨h1, h2, ⟨cs, h3, h4⟩, h5⟩ := h
  rw [cell_of_row _ _ _ _ _ _ h5]
  exact ⟨(wpad l k)[j]'(by rw [wpad_length l k hk]; exact hj), by simp⟩
theorem SchI.free {w wr : World} {l : List UInt8} {k : Nat} (h : SchI w wr l k) (j : Nat) : wr.frozen? ⟨w.heap.size + 1 + 1, j, none⟩ = false := frozen_of_row _ _ _ _ _ h.2.2.2
theorem SchI.start (w : World) (l : List UInt8) : SchI w (((w.alloc (.cells (l.map u8v).toArray 69)).alloc (.cells (List.replicate 64 (Value.int .u32 0)).toArray 87)).alloc (.cells (List.replicate 64 (Value.int .u32 0)).toArray 87)) l 0 := by
  refine ⟨(((Below.refl _ _).alloc (Nat.le_refl _) _).alloc (by simp) _).alloc (by simp; omega) _, ?_, ⟨(List.replicate 64 (Value.int .u32 0)).toArray, ?_, ?_⟩, ?_⟩
  · rw [Below.heap_alloc _ _ _ (by simp; omega), Below.heap_alloc _ _ _ (by simp), heap_alloc_last]
  · rw [Below.heap_alloc _ _ _ (by simp)]
    have := heap_alloc_last (w.alloc (.cells (l.map u8v).toArray 69)) (.cells (List.replicate 64 (Value.int .u32 0)).toArray 87)
    simpa using this
  · simp
  · have := heap_alloc_last ((w.alloc (.cells (l.map u8v).toArray 69)).alloc (.cells (List.replicate 64 (Value.int .u32 0)).toArray 87)) (.cells (List.replicate 64 (Value.int .u32 0)).toArray 87)
    simpa [wpad, wL] using this
theorem SchI.next {w wr : World} {l : List UInt8} {k : Nat} (h : SchI w wr l (k + 16)) (hk : k < 48) :
    SchI w (wr.setCell ⟨w.heap.size + 1 + 1, k + 16, none⟩ (.int .u32 (iv ((wL l (k + 16))[k]?.getD 0 + sS0 ((wL l (k + 16))[k + 1]?.getD 0) + (wL l (k + 16))[k + 9]?.getD 0 + sS1 ((wL l (k + 16))[k + 14]?.getD 0))))).drew.drew.drew l (k + 1 + 16) := by
  rw [show k + 1 + 16 = k + 16 + 1 by omega]
  exact (((h.set (by omega) _ (by
    rw [if_neg (by omega), wNext, wL_length, show k + 16 - 16 = k by omega, show k + 16 - 15 = k + 1 by omega, show k + 16 - 7 = k + 9 by omega, show k + 16 - 2 = k + 14 by omega]
    simp only [List.getD_eq_getElem?_getD])).below (Gr.drew _)).below (Gr.drew _)).below (Gr.drew _)
set_option maxHeartbeats 1000000 in
theorem schedule_any (l : List UInt8) (hl : l.length = 64) (w : World) :
    Calls Tryd.prog 56 #[.agg (l.map u8v).toArray] w fun e w' => e = .returned (.agg ((wL l 64).map u32v).toArray) ∧ Below w.heap.size w w' := by
  have HL := Lib.hid hl
  have hsz : (Tryd.prog.info? 69).map (·.size) = some (l.map u8v).length := by rw [List.length_map, hl]; exact size64b
  have HSZ := Lib.hid hsz
  clear hsz
  have HS0 := Lib.hid (blend_s0)
  have HS1 := Lib.hid (blend_s1)
  clear hl
  go_enter Tryd.func56, Tryd.ntmps56
  go_wp2
  go_loopw [4, 6] (fun i4 i6 wr => ∃ k : Nat, k ≤ 16 ∧ i6 = .int .i64 k ∧ Hid (SchI w wr l k)) (fun _ i6 _ => 16 - (intOf i6).toNat)
  case atStart =>
    exact ⟨0, by omega, rfl, SchI.start w l⟩
  case round =>
    obtain ⟨k, hk, rfl, HR⟩ := hrel
    by_cases hlt : k < 16
    · have hload : wr.rangeAt w.heap.size 0 (l.map u8v) := range_of_row HR.out.2.1
      have HLOAD := Lib.hid hload
      clear hload
      go_wp2_with (first | (with_reducible refine wpList_load_mid rfl 69 (.tmp 1) rfl w.heap.size 0 rfl (l.map u8v) _ HLOAD.out Tryd.underlying69 rfl HSZ.out ?_) | fail)
      refine (word_any l HL.out _ (4 * k) (by omega) (by omega) wr).mono ?_
      rintro e w1 ⟨rfl, hb1⟩
      have HR1 := Lib.hid (HR.out.below hb1)
      obtain ⟨u, hu⟩ := HR1.out.at (by omega) k (by omega)
      have hf := HR1.out.free k
      go_wp2
      go_roundw
      case rel => exact ⟨k + 1, by omega, by go_num, HR1.out.set (by omega) _ (by rw [if_pos hlt])⟩
      case measure => simp [intOf]; omega
    · obtain rfl : k = 16 := by omega
      go_wp2
      go_loopw [5, 16] (fun i5 i16 wr => ∃ k : Nat, k ≤ 48 ∧ i16 = .int .i64 k ∧ Hid (SchI w wr l (k + 16))) (fun _ i16 _ => 48 - (intOf i16).toNat)
      case atStart => exact ⟨0, by omega, rfl, HR⟩
      case round =>
        clear HR hk
        obtain ⟨k, hk, rfl, HR⟩ := hrel
        by_cases hlt2 : k < 48
        · have c0 : ∀ w', Gr wr.drew w' → w'.cell? ⟨w.heap.size + 1 + 1, k, none⟩ = some (u32v ((wL l (k + 16)).getD k 0)) := fun w' hg => cell_gr hg (by rw [World.cell?_drew]; exact HR.out.get k (by omega))
          have c1 : ∀ w', Gr wr.drew w' → w'.cell? ⟨w.heap.size + 1 + 1, k + 1, none⟩ = some (u32v ((wL l (k + 16)).getD (k + 1) 0)) := fun w' hg => cell_gr hg (by rw [World.cell?_drew]; exact HR.out.get (k + 1) (by omega))
          have c9 : ∀ w', Gr wr.drew w' → w'.cell? ⟨w.heap.size + 1 + 1, k + 9, none⟩ = some (u32v ((wL l (k + 16)).getD (k + 9) 0)) := fun w' hg => cell_gr hg (by rw [World.cell?_drew]; exact HR.out.get (k + 9) (by omega))
          have c14 : ∀ w', Gr wr.drew w' → w'.cell? ⟨w.heap.size + 1 + 1, k + 14, none⟩ = some (u32v ((wL l (k + 16)).getD (k + 14) 0)) := fun w' hg => cell_gr hg (by rw [World.cell?_drew]; exact HR.out.get (k + 14) (by omega))
          have e1 : IntKind.i64.wrap ((k : Int) + 1) = (k : Int) + 1 := IntWalk.i64_in _ (by omega)
          have e9 : IntKind.i64.wrap ((k : Int) + 9) = (k : Int) + 9 := IntWalk.i64_in _ (by omega)
          have e14 : IntKind.i64.wrap ((k : Int) + 14) = (k : Int) + 14 := IntWalk.i64_in _ (by omega)
          have e16 : IntKind.i64.wrap ((k : Int) + 16) = (k : Int) + 16 := IntWalk.i64_in _ (by omega)
          have t1 : ((k : Int) + 1).toNat = k + 1 := by omega
          have t9 : ((k : Int) + 9).toNat = k + 9 := by omega
          have t14 : ((k : Int) + 14).toNat = k + 14 := by omega
          have t16 : ((k : Int) + 16).toNat = k + 16 := by omega
          have p1 : 0 ≤ (k : Int) + 1 := by omega
          have p9 : 0 ≤ (k : Int) + 9 := by omega
          have p14 : 0 ≤ (k : Int) + 14 := by omega
          have p16 : 0 ≤ (k : Int) + 16 := by omega
          have q0 : (k : Int) < 64 := by omega
          have q1 : (k : Int) + 1 < 64 := by omega
          have q9 : (k : Int) + 9 < 64 := by omega
          have q14 : (k : Int) + 14 < 64 := by omega
          have q16 : (k : Int) + 16 < 64 := by omega
          obtain ⟨u, hu⟩ := HR.out.at (by omega) (k + 16) (by omega)
          have hf := HR.out.free (k + 16)
          have wAnd := w_and; have wOr := w_or; have wXor := w_xor; have wNot := w_not; have wAdd := w_add
          go_wp2
          refine wp_region_G 23 Gr (by kernel_rfl) ?_
          -- 0: slot 19
          refine wpG_take preGr (i := 0) (v := ?_) (by kernel_rfl) (some 19) (by kernel_rfl) rfl (by kernel_rfl) (by kernel_rfl) (by kernel_rfl) (fun _ _ _ h => h) (by rfl) (fun w' hw' => ?_) rfl ?_
          rotate_left
          · go_simp
            with_reducible rfl
          simp only [Act.put, List.setIfInBounds_toArray, List.set_cons_zero, List.set_cons_succ]
          -- 1: slot 20
          refine wpG_take preGr (i := 1) (v := ?_) (by kernel_rfl) (some 20) (by kernel_rfl) rfl (by kernel_rfl) (by kernel_rfl) (by kernel_rfl) (fun _ _ _ h => h) (by rfl) (fun w' hw' => ?_) rfl ?_
          rotate_left
          · go_simp
            with_reducible rfl
          simp only [Act.put, List.setIfInBounds_toArray, List.set_cons_zero, List.set_cons_succ]
          -- 2: slot 21
          refine wpG_take preGr (i := 2) (v := ?_) (by kernel_rfl) (some 21) (by kernel_rfl) rfl (by kernel_rfl) (by kernel_rfl) (by kernel_rfl) (fun _ _ _ h => h) (by rfl) (fun w' hw' => ?_) rfl ?_
          rotate_left
          · go_simp
            with_reducible rfl
          simp only [Act.put, List.setIfInBounds_toArray, List.set_cons_zero, List.set_cons_succ]
          -- 3: slot 22
          refine wpG_take preGr (i := 3) (v := ?_) (by kernel_rfl) (some 22) (by kernel_rfl) rfl (by kernel_rfl) (by kernel_rfl) (by kernel_rfl) (fun _ _ _ h => h) (by rfl) (fun w' hw' => ?_) rfl ?_
          rotate_left
          · go_simp
            with_reducible rfl
          simp only [Act.put, List.setIfInBounds_toArray, List.set_cons_zero, List.set_cons_succ]
          -- 4: slot 23
          refine wpG_take preGr (i := 4) (v := ?_) (by kernel_rfl) (some 23) (by kernel_rfl) rfl (by kernel_rfl) (by kernel_rfl) (by kernel_rfl) (fun _ _ _ h => h) (by rfl) (fun w' hw' => ?_) rfl ?_
          rotate_left
          · go_simp
            with_reducible rfl
          simp only [Act.put, List.setIfInBounds_toArray, List.set_cons_zero, List.set_cons_succ]
          -- 5: slot 24
          refine wpG_take preGr (i := 5) (v := ?_) (by kernel_rfl) (some 24) (by kernel_rfl) rfl (by kernel_rfl) (by kernel_rfl) (by kernel_rfl) (fun _ _ _ h => h) (by rfl) (fun w' hw' => ?_) rfl ?_
          rotate_left
          · go_simp
            with_reducible rfl
          simp only [Act.put, List.setIfInBounds_toArray, List.set_cons_zero, List.set_cons_succ]
          -- 6: slot 25
          refine wpG_take preGr (i := 6) (v := ?_) (by kernel_rfl) (some 25) (by kernel_rfl) rfl (by kernel_rfl) (by kernel_rfl) (by kernel_rfl) (fun _ _ _ h => h) (by rfl) (fun w' hw' => ?_) rfl ?_
          rotate_left
          · go_simp
            with_reducible rfl
          simp only [Act.put, List.setIfInBounds_toArray, List.set_cons_zero, List.set_cons_succ]
          -- 7: slot 26
          refine wpG_take preGr (i := 7) (v := ?_) (by kernel_rfl) (some 26) (by kernel_rfl) rfl (by kernel_rfl) (by kernel_rfl) (by kernel_rfl) (fun _ _ _ h => h) (by rfl) (fun w' hw' => ?_) rfl ?_
          rotate_left
          · go_simp
            with_reducible rfl
          simp only [Act.put, List.setIfInBounds_toArray, List.set_cons_zero, List.set_cons_succ]
          -- 8: slot 27
          refine wpG_take preGr (i := 8) (v := ?_) (by kernel_rfl) (some 27) (by kernel_rfl) rfl (by kernel_rfl) (by kernel_rfl) (by kernel_rfl) (fun _ _ _ h => h) (by rfl) (fun w' hw' => ?_) rfl ?_
          rotate_left
          · go_simp
            with_reducible rfl
          simp only [Act.put, List.setIfInBounds_toArray, List.set_cons_zero, List.set_cons_succ]
          -- 11: slot 30
          refine wpG_take preGr (i := 11) (v := ?_) (by kernel_rfl) (some 30) (by kernel_rfl) rfl (by kernel_rfl) (by kernel_rfl) (by kernel_rfl) (fun _ _ _ h => h) (by rfl) (fun w' hw' => ?_) rfl ?_
          rotate_left
          · go_simp
            with_reducible rfl
          simp only [Act.put, List.setIfInBounds_toArray, List.set_cons_zero, List.set_cons_succ]
          -- 12: slot 31
          refine wpG_take preGr (i := 12) (v := ?_) (by kernel_rfl) (some 31) (by kernel_rfl) rfl (by kernel_rfl) (by kernel_rfl) (by kernel_rfl) (fun _ _ _ h => h) (by rfl) (fun w' hw' => ?_) rfl ?_
          rotate_left
          · go_simp
            with_reducible rfl
          simp only [Act.put, List.setIfInBounds_toArray, List.set_cons_zero, List.set_cons_succ]
          -- 13: slot 32
          refine wpG_take preGr (i := 13) (v := ?_) (by kernel_rfl) (some 32) (by kernel_rfl) rfl (by kernel_rfl) (by kernel_rfl) (by kernel_rfl) (fun _ _ _ h => h) (by rfl) (fun w' hw' => ?_) rfl ?_
          rotate_left
          · go_simp
            with_reducible rfl
          simp only [Act.put, List.setIfInBounds_toArray, List.set_cons_zero, List.set_cons_succ]
          -- 14: slot 33
          refine wpG_take preGr (i := 14) (v := ?_) (by kernel_rfl) (some 33) (by kernel_rfl) rfl (by kernel_rfl) (by kernel_rfl) (by kernel_rfl) (fun _ _ _ h => h) (by rfl) (fun w' hw' => ?_) rfl ?_
          rotate_left
          · go_simp
            with_reducible rfl
          simp only [Act.put, List.setIfInBounds_toArray, List.set_cons_zero, List.set_cons_succ]
          -- 16: slot 35
          refine wpG_take preGr (i := 16) (v := ?_) (by kernel_rfl) (some 35) (by kernel_rfl) rfl (by kernel_rfl) (by kernel_rfl) (by kernel_rfl) (fun _ _ _ h => h) (by rfl) (fun w' hw' => ?_) rfl ?_
          rotate_left
          · go_simp
            with_reducible rfl
          simp only [Act.put, List.setIfInBounds_toArray, List.set_cons_zero, List.set_cons_succ]
          -- 17: slot 36
          refine wpG_take preGr (i := 17) (v := ?_) (by kernel_rfl) (some 36) (by kernel_rfl) rfl (by kernel_rfl) (by kernel_rfl) (by kernel_rfl) (fun _ _ _ h => h) (by rfl) (fun w' hw' => ?_) rfl ?_
          rotate_left
          · go_simp
            with_reducible rfl
          simp only [Act.put, List.setIfInBounds_toArray, List.set_cons_zero, List.set_cons_succ]
          -- 18: slot 37
          refine wpG_take preGr (i := 18) (v := ?_) (by kernel_rfl) (some 37) (by kernel_rfl) rfl (by kernel_rfl) (by kernel_rfl) (by kernel_rfl) (fun _ _ _ h => h) (by rfl) (fun w' hw' => ?_) rfl ?_
          rotate_left
          · go_simp
            with_reducible rfl
          simp only [Act.put, List.setIfInBounds_toArray, List.set_cons_zero, List.set_cons_succ]
          -- 19: slot 38
          refine wpG_take preGr (i := 19) (v := ?_) (by kernel_rfl) (some 38) (by kernel_rfl) rfl (by kernel_rfl) (by kernel_rfl) (by kernel_rfl) (fun _ _ _ h => h) (by rfl) (fun w' hw' => ?_) rfl ?_
          rotate_left
          · go_simp
            with_reducible rfl
          simp only [Act.put, List.setIfInBounds_toArray, List.set_cons_zero, List.set_cons_succ]
          refine wpG_one (i := 9) rfl (by kernel_rfl) (by rfl) ?_
          go_simp
          refine (HS0.out _ _).mono ?_
          rintro e w' ⟨rfl, rfl⟩
          refine ⟨Gr.drew _, ?_⟩
          try simp only [Act.put, List.setIfInBounds_toArray, List.set_cons_zero, List.set_cons_succ]
          -- 10: slot 29
          refine wpG_take preGr (i := 10) (v := ?_) (by kernel_rfl) (some 29) (by kernel_rfl) rfl (by kernel_rfl) (by kernel_rfl) (by kernel_rfl) (fun _ _ _ h => h) (by rfl) (fun w' hw' => ?_) rfl ?_
          rotate_left
          · go_simp
            with_reducible rfl
          simp only [Act.put, List.setIfInBounds_toArray, List.set_cons_zero, List.set_cons_succ]
          -- 15: slot 34
          refine wpG_take preGr (i := 15) (v := ?_) (by kernel_rfl) (some 34) (by kernel_rfl) rfl (by kernel_rfl) (by kernel_rfl) (by kernel_rfl) (fun _ _ _ h => h) (by rfl) (fun w' hw' => ?_) rfl ?_
          rotate_left
          · go_simp
            with_reducible rfl
          simp only [Act.put, List.setIfInBounds_toArray, List.set_cons_zero, List.set_cons_succ]
          refine wpG_one (i := 20) rfl (by kernel_rfl) (by rfl) ?_
          go_simp
          refine (HS1.out _ _).mono ?_
          rintro e w' ⟨rfl, rfl⟩
          refine ⟨Gr.drew _, ?_⟩
          try simp only [Act.put, List.setIfInBounds_toArray, List.set_cons_zero, List.set_cons_succ]
          -- 21: slot 40
          refine wpG_take preGr (i := 21) (v := ?_) (by kernel_rfl) (some 40) (by kernel_rfl) rfl (by kernel_rfl) (by kernel_rfl) (by kernel_rfl) (fun _ _ _ h => h) (by rfl) (fun w' hw' => ?_) rfl ?_
          rotate_left
          · go_simp
            with_reducible rfl
          simp only [Act.put, List.setIfInBounds_toArray, List.set_cons_zero, List.set_cons_succ]
          -- 22: slot 41
          refine wpG_take preGr (i := 22) (v := ?_) (by kernel_rfl) (some 41) (by kernel_rfl) rfl (by kernel_rfl) (by kernel_rfl) (by kernel_rfl) (fun _ _ _ h => h) (by rfl) (fun w' hw' => ?_) rfl ?_
          rotate_left
          · go_simp
            with_reducible rfl
          simp only [Act.put, List.setIfInBounds_toArray, List.set_cons_zero, List.set_cons_succ]
          refine wpG_tail (i := 23) (by decide) rfl (by kernel_rfl) (by rfl) ?_
          go_simp
          try simp only [Act.put, List.setIfInBounds_toArray, List.set_cons_zero, List.set_cons_succ]
          refine wpG_done (by kernel_rfl) ?_ _
          go_wp2
          go_roundw
          case rel =>
            repeat apply Exists.intro
            refine ⟨⟨k + 1, by omega, by go_num, ?_⟩, rfl⟩
            exact HR.out.next hlt2
          case measure => simp [intOf]; omega
        · obtain rfl : k = 48 := by omega
          obtain ⟨g1, g2, ⟨cs, g3, g3'⟩, g4⟩ := HR.out
          have hrow : wr.rangeAt (w.heap.size + 1 + 1) 0 (wpad l 64) := range_of_row g4
          have HROW := Lib.hid hrow
          have G3 := Lib.hid g3
          have HB := Lib.hid g1
          clear hrow g4 g2 g3 g1
          go_wp2_with (first | (with_reducible refine wpList_load_mid rfl 87 (.tmp 3) rfl (w.heap.size + 1 + 1) 0 rfl (wpad l 64) _ HROW.out Tryd.underlying87 rfl (by rw [wpad_length l 64 (by omega)]; exact size64w) ?_) | (with_reducible refine wpList_store_row rfl 87 (.tmp 2) (.tmp 43) rfl (w.heap.size + 1) (wpad l 64).toArray rfl rfl 87 cs G3.out ?a1 ?a2 ?a3 ?_))
          case a1 => rw [List.size_toArray, wpad_length l 64 (by omega)]; exact size64w
          case a2 => simp [wpad_length, g3']
          case a3 => rw [wpad_full]; exact all_oneCell_toArray (by intro v hv; obtain ⟨x, _, rfl⟩ := List.mem_map.1 hv; rfl)
          intro w2 h1 h2 _
          have hb2 := Lib.hid (h2 _ _ (by omega) HB.out)
          have H1 := Lib.hid h1
          clear h1 h2
          go_wp2
          refine bodyPost_ret (v := .agg ((wL l 64).map u32v).toArray) (results_cell_row Tryd.results56 _ _ (w.heap.size + 1) 87 _ (0, 0) _ rfl (by rw [H1.out, wpad_full]) Tryd.underlying87 rfl (by rw [List.size_toArray, List.length_map, wL_length]; exact size64w)) rfl ?_
          exact ⟨rfl, hb2.out⟩
end Go.Proofs.YtjlacialbfhjcaaDoor
