/-
  places: newPlaces, has, put, drop, first, count.
-/
import Derived.Test.YtoemghinolekgaaDoorPlM
import Derived.Laws.ShiftsVarLaws
namespace Go.Proofs.YtoemghinolekgaaDoor.Pl
open Go.RowKit
open Go.Proofs.YtoemghinolekgaaDoor.Id (Tr Tr.refl Tr.gr Tr.only blk own_blk IR)
set_option linter.unusedVariables false
set_option linter.unusedSimpArgs false

theorem infoU : (Tryd.prog.info? 70).map (fun i => (i.zero, i.size, i.bytes)) = some (some (.int .u64 0), 1, 8) := by kernel_rfl
theorem newPlaces_any (n : Nat) (hn : n ≤ 65536) (w : World) :
    Calls Tryd.prog 28 #[.int .i64 n] w fun e w' => ∃ v, e = .returned v ∧ (v ≠ .slice none 0 0) ∧ w'.ownsRow w.heap.size 70 1 v ((n + 63) / 64) (words (List.replicate ((n + 63) / 64) 0)) ∧ Below w.heap.size w w' := by
  obtain ⟨i0, hi, hz0, hz1, hz2⟩ := info_parts infoU
  have x1 : wrap64 ((n : Int) + 64) = (n : Int) + 64 := wrap64_in (by omega) (by omega)
  have x2 : wrap64 ((n : Int) + 64 - 1) = (n : Int) + 64 - 1 := wrap64_in (by omega) (by omega)
  have x3 : ((n : Int) + 64 - 1).tdiv 64 = (((n + 63) / 64 : Nat) : Int) := by rw [Int.tdiv_eq_ediv_of_nonneg (by omega)]; omega
  obtain ⟨N, hN⟩ : ∃ N, N = (n + 63) / 64 := ⟨_, rfl⟩
  rw [← hN] at x3 ⊢
  have HB2 : Hid (i0.bytes * N ≤ 281474976710656) := by show _ ≤ _; rw [hz2]; omega
  have HB3 : Hid (N ≤ maxLen) := by show _ ≤ _; unfold maxLen; omega
  have x4 : wrap64 (N : Int) = (N : Int) := wrap64_in (by omega) (by omega)
  clear hN hn
  go_enter Tryd.func28, Tryd.ntmps28
  go_wp2_with (with_reducible refine wpList_make_cap _ rfl (.tmp 6) (.tmp 6) 58 rfl w.heap.size 70 i0 (.int .u64 0) Tryd.underlying58 hi hz0 hz1 rfl .i64 .i64 (wrap64 (N : Int)) (wrap64 (N : Int)) N N rfl rfl x4 x4 (Nat.le_refl _) HB2.out HB3.out (Nat.le_refl _) ?_)
  intro w1 ho hb
  have HO := Lib.hid ho
  have HB := Lib.hid hb
  clear ho hb
  go_wp2
  go_ret
  refine ⟨_, rfl, (fun h => by cases h), ?_, HB.out⟩
  have := HO.out
  simpa [words] using this
theorem bit_int (x r : Nat) (hx : x < 18446744073709551616) : (bits BinOp.and IntKind.u64 ((x : Int) / 2 ^ r) 1 == 1) = x.testBit r := by
  have e : ((x : Int) / 2 ^ r) = ((x / 2 ^ r : Nat) : Int) := by simp
  have hl : x / 2 ^ r < 18446744073709551616 := Nat.lt_of_le_of_lt (Nat.div_le_self _ _) hx
  have a := bits_and_u64_nat (x / 2 ^ r) 1 hl (by decide)
  rw [show ((1 : Nat) : Int) = 1 by rfl] at a
  rw [e, a, Nat.and_one_is_mod, Nat.testBit_eq_decide_div_mod_eq]
  have h2 := Nat.mod_two_eq_zero_or_one (x / 2 ^ r)
  rcases h2 with h2 | h2 <;> rw [h2] <;> rfl
/-- Is the place one of them? -/
theorem has_any (i : Nat) (hi : (i : Int) ≤ 9223372036854775807) {v : Value} {ws : List Nat} (w : World) (h : WAt w v ws) :
    Calls Tryd.prog 45 #[v, .int .i64 i] w fun e w' => e = .returned (.bool (bitW ws i)) ∧ w = w' := by
  obtain ⟨b, cap, cur, rfl, h1, h2, h3, h4, h5, h6, h7, h8⟩ := h.at
  clear h5
  have x1 : (i : Int).tdiv 64 = ((i / 64 : Nat) : Int) := by rw [Int.tdiv_eq_ediv_of_nonneg (by omega)]; omega
  obtain ⟨q, hq⟩ : ∃ q, q = i / 64 := ⟨_, rfl⟩
  rw [← hq] at x1
  have x3 : wrap64 (q : Int) = (q : Int) := wrap64_in (by omega) (by omega)
  by_cases hlt : q < ws.length
  · have hc := h8 q hlt
    have hw := h.ok.at q
    have hbit : bitW ws i = (ws.getD q 0).testBit (i % 64) := by unfold bitW; rw [hq]
    rw [hbit]
    obtain ⟨x, hx⟩ : ∃ x, x = ws.getD q 0 := ⟨_, rfl⟩
    rw [← hx] at hc hw ⊢
    obtain ⟨n, hn⟩ : ∃ n, n = ws.length := ⟨_, rfl⟩
    rw [← hn] at hlt h4 ⊢
    have hb := bit_int x (i % 64) hw
    clear h h1 h2 h3 h6 h7 h8 hbit hx hn hq hw
    go_enter Tryd.func45, Tryd.ntmps45
    go_wp2
    go_ret
    exact ⟨rfl, rfl⟩
  · have hbit : bitW ws i = false := bitW_out (by rw [← hq]; omega)
    rw [hbit]
    obtain ⟨n, hn⟩ : ∃ n, n = ws.length := ⟨_, rfl⟩
    rw [← hn] at hlt ⊢
    clear h h1 h2 h3 h4 h6 h7 h8 hbit hn hq
    go_enter Tryd.func45, Tryd.ntmps45
    go_wp2
    go_ret
    exact ⟨rfl, rfl⟩
theorem sizeU : (Tryd.prog.info? 70).map (·.size) = some 1 := by kernel_rfl
theorem two_wrap (r : Nat) (hr : r < 64) : IntKind.u64.wrap ((2 : Int) ^ r) = ((2 ^ r : Nat) : Int) := by
  have h2 : 2 ^ r < 18446744073709551616 := (Nat.pow_lt_pow_iff_right (a := 2) (n := r) (m := 64) (by decide)).2 hr
  rw [show (2 : Int) ^ r = ((2 ^ r : Nat) : Int) by simp, wrap_nat _ h2]
theorem put_any (i : Nat) {v : Value} {ws : List Nat} (hi : i / 64 < ws.length) (w : World) (h : WAt w v ws) :
    Calls Tryd.prog 29 #[v, .int .i64 i] w fun e w' => e = .returned (.tuple #[]) ∧ WAt w' v (putW ws i) ∧ Tr (blk v) w w' := by
  obtain ⟨b, cap, cur, rfl, h1, h2, h3, h4, h5, h6, h7, h8⟩ := h.at
  have HH := Lib.hid h
  have H5 := Lib.hid h5
  clear h5
  have hfew := h.few
  have x1 : (i : Int).tdiv 64 = ((i / 64 : Nat) : Int) := by rw [Int.tdiv_eq_ediv_of_nonneg (by omega)]; omega
  obtain ⟨q, hq⟩ : ∃ q, q = i / 64 := ⟨_, rfl⟩
  rw [← hq] at x1 hi
  have x3 : wrap64 (q : Int) = (q : Int) := wrap64_in (by omega) (by omega)
  have x4 : IntKind.i64.wrap (q : Int) = (q : Int) := IntWalk.i64_in _ (by omega)
  have hc := h8 q hi
  have hw := h.ok.at q
  obtain ⟨x, hx⟩ : ∃ x, x = ws.getD q 0 := ⟨_, rfl⟩
  rw [← hx] at hc hw
  have x2 : (i : Int).tmod 64 = ((i % 64 : Nat) : Int) := by rw [Int.tmod_eq_emod_of_nonneg (by omega)]; omega
  have hs := two_wrap (i % 64) (Nat.mod_lt _ (by decide))
  obtain ⟨z, hz⟩ : ∃ z, z = 2 ^ (i % 64) := ⟨_, rfl⟩
  have hzl : z < 18446744073709551616 := by rw [hz]; exact two_pow_lt i
  rw [← hz] at hs
  obtain ⟨y, hy⟩ : ∃ y, y = x ||| z := ⟨_, rfl⟩
  have hyl : y < 18446744073709551616 := by rw [hy]; exact Nat.or_lt_two_pow (n := 64) hw hzl
  have HPUT : Hid (putW ws i = ws.set q y) := by show _ = _; rw [hy, hx, hq, hz]; rfl
  have ey : bits BinOp.or IntKind.u64 (x : Int) (z : Int) = (y : Int) := by rw [bits_or_u64_nat _ _ hw hzl, hy]
  obtain ⟨r, hr⟩ : ∃ r, r = i % 64 := ⟨_, rfl⟩
  rw [← hr] at x2 hs
  have hr64 : (r : Int) < 64 := by omega
  obtain ⟨n, hn⟩ : ∃ n, n = ws.length := ⟨_, rfl⟩
  have HN := Lib.hid hn
  rw [← hn] at hi h4 ⊢
  have HFIT : Hid (q < cur.length) := by show _ < _; omega
  have HC1 := Lib.hid hc
  have H3 := Lib.hid h3
  have H7 := Lib.hid h7
  have HR : Hid (1 ≤ b ∧ ws.length ≤ cap ∧ cur.length = cap ∧ y < 18446744073709551616) := ⟨h1, by omega, h6, hyl⟩
  clear h h1 h2 h3 h6 h7 h8 hx hn hq hw hy hyl hfew hc hz hzl hr
  go_enter Tryd.func29, Tryd.ntmps29
  have HC : Hid (Gr w w.drew) := Gr.drew w
  refine wp_region_G 10 Gr (by kernel_rfl) ?_
  generalize w.drew = wc at HC ⊢
  -- 0: slot 4
  refine wpG_take preGr (i := 0) (v := ?_) (by kernel_rfl) (some 4) (by kernel_rfl) rfl (by kernel_rfl) (by kernel_rfl) (by kernel_rfl) (fun _ _ _ h => h) (by rfl) (fun w' hw' => ?_) rfl ?_
  rotate_left
  · try (have hc := cell_gr (Gr.trans HC.out hw') HC1.out)
    go_simp
    with_reducible rfl
  simp only [Act.put, List.setIfInBounds_toArray, List.set_cons_zero, List.set_cons_succ]
  -- 1: slot 5
  refine wpG_take preGr (i := 1) (v := ?_) (by kernel_rfl) (some 5) (by kernel_rfl) rfl (by kernel_rfl) (by kernel_rfl) (by kernel_rfl) (fun _ _ _ h => h) (by rfl) (fun w' hw' => ?_) rfl ?_
  rotate_left
  · try (have hc := cell_gr (Gr.trans HC.out hw') HC1.out)
    go_simp
    with_reducible rfl
  simp only [Act.put, List.setIfInBounds_toArray, List.set_cons_zero, List.set_cons_succ]
  -- 2: slot 6
  refine wpG_take preGr (i := 2) (v := ?_) (by kernel_rfl) (some 6) (by kernel_rfl) rfl (by kernel_rfl) (by kernel_rfl) (by kernel_rfl) (fun _ _ _ h => h) (by rfl) (fun w' hw' => ?_) rfl ?_
  rotate_left
  · try (have hc := cell_gr (Gr.trans HC.out hw') HC1.out)
    go_simp
    with_reducible rfl
  simp only [Act.put, List.setIfInBounds_toArray, List.set_cons_zero, List.set_cons_succ]
  -- 3: slot 7
  refine wpG_take preGr (i := 3) (v := ?_) (by kernel_rfl) (some 7) (by kernel_rfl) rfl (by kernel_rfl) (by kernel_rfl) (by kernel_rfl) (fun _ _ _ h => h) (by rfl) (fun w' hw' => ?_) rfl ?_
  rotate_left
  · try (have hc := cell_gr (Gr.trans HC.out hw') HC1.out)
    go_simp
    with_reducible rfl
  simp only [Act.put, List.setIfInBounds_toArray, List.set_cons_zero, List.set_cons_succ]
  -- 4: slot 8
  refine wpG_take preGr (i := 4) (v := ?_) (by kernel_rfl) (some 8) (by kernel_rfl) rfl (by kernel_rfl) (by kernel_rfl) (by kernel_rfl) (fun _ _ _ h => h) (by rfl) (fun w' hw' => ?_) rfl ?_
  rotate_left
  · try (have hc := cell_gr (Gr.trans HC.out hw') HC1.out)
    go_simp
    with_reducible rfl
  simp only [Act.put, List.setIfInBounds_toArray, List.set_cons_zero, List.set_cons_succ]
  -- 5: slot 9
  refine wpG_take preGr (i := 5) (v := ?_) (by kernel_rfl) (some 9) (by kernel_rfl) rfl (by kernel_rfl) (by kernel_rfl) (by kernel_rfl) (fun _ _ _ h => h) (by rfl) (fun w' hw' => ?_) rfl ?_
  rotate_left
  · try (have hc := cell_gr (Gr.trans HC.out hw') HC1.out)
    go_simp
    with_reducible rfl
  simp only [Act.put, List.setIfInBounds_toArray, List.set_cons_zero, List.set_cons_succ]
  -- 6: slot 10
  refine wpG_take preGr (i := 6) (v := ?_) (by kernel_rfl) (some 10) (by kernel_rfl) rfl (by kernel_rfl) (by kernel_rfl) (by kernel_rfl) (fun _ _ _ h => h) (by rfl) (fun w' hw' => ?_) rfl ?_
  rotate_left
  · try (have hc := cell_gr (Gr.trans HC.out hw') HC1.out)
    go_simp
    with_reducible rfl
  simp only [Act.put, List.setIfInBounds_toArray, List.set_cons_zero, List.set_cons_succ]
  -- 7: slot 11
  refine wpG_take preGr (i := 7) (v := ?_) (by kernel_rfl) (some 11) (by kernel_rfl) rfl (by kernel_rfl) (by kernel_rfl) (by kernel_rfl) (fun _ _ _ h => h) (by rfl) (fun w' hw' => ?_) rfl ?_
  rotate_left
  · try (have hc := cell_gr (Gr.trans HC.out hw') HC1.out)
    go_simp
    with_reducible rfl
  simp only [Act.put, List.setIfInBounds_toArray, List.set_cons_zero, List.set_cons_succ]
  -- 8: slot 12
  refine wpG_take preGr (i := 8) (v := ?_) (by kernel_rfl) (some 12) (by kernel_rfl) rfl (by kernel_rfl) (by kernel_rfl) (by kernel_rfl) (fun _ _ _ h => h) (by rfl) (fun w' hw' => ?_) rfl ?_
  rotate_left
  · try (have hc := cell_gr (Gr.trans HC.out hw') HC1.out)
    go_simp
    with_reducible rfl
  simp only [Act.put, List.setIfInBounds_toArray, List.set_cons_zero, List.set_cons_succ]
  -- 9: slot 13
  refine wpG_take preGr (i := 9) (v := ?_) (by kernel_rfl) (some 13) (by kernel_rfl) rfl (by kernel_rfl) (by kernel_rfl) (by kernel_rfl) (fun _ _ _ h => h) (by rfl) (fun w' hw' => ?_) rfl ?_
  rotate_left
  · try (have hc := cell_gr (Gr.trans HC.out hw') HC1.out)
    go_simp
    with_reducible rfl
  simp only [Act.put, List.setIfInBounds_toArray, List.set_cons_zero, List.set_cons_succ]
  refine wpG_tail (i := 10) (by decide) rfl (by kernel_rfl) (by rfl) ?_
  refine wp_store_cell (none) 70 (.tmp 13) (.tmp 12) rfl b q (.int .u64 (y : Int)) rfl rfl 70 cur (heap_gr HC.out H3.out) sizeU HFIT.out rfl rfl ?_
  intro w3 h3 ho3
  have HW3 := Lib.hid h3
  have HO3 := Lib.hid ho3
  clear h3 ho3
  try simp only [Act.put, List.setIfInBounds_toArray, List.set_cons_zero, List.set_cons_succ]
  refine wpG_done (by kernel_rfl) ?_ _
  go_wp2
  go_end0
  have hd := HH.out
  have h7 := H7.out
  have hr := HR.out
  rw [← HN.out] at hd
  have ht : Tr [b] w w3 := (Tr.gr (K := [b]) HC.out).trans (Tr.only HO3.out (by simp)) (fun i hi => .inl hi)
  rw [HPUT.out, HN.out]
  rw [HN.out] at hd
  exact ⟨rfl, hd.put hr.1 hr.2.1 H5.out hr.2.2.1 h7 hr.2.2.2 HW3.out, ht⟩
theorem drop_any (i : Nat) {v : Value} {ws : List Nat} (hi : i / 64 < ws.length) (w : World) (h : WAt w v ws) :
    Calls Tryd.prog 30 #[v, .int .i64 i] w fun e w' => e = .returned (.tuple #[]) ∧ WAt w' v (dropW ws i) ∧ Tr (blk v) w w' := by
  obtain ⟨b, cap, cur, rfl, h1, h2, h3, h4, h5, h6, h7, h8⟩ := h.at
  have HH := Lib.hid h
  have H5 := Lib.hid h5
  clear h5
  have hfew := h.few
  have x1 : (i : Int).tdiv 64 = ((i / 64 : Nat) : Int) := by rw [Int.tdiv_eq_ediv_of_nonneg (by omega)]; omega
  obtain ⟨q, hq⟩ : ∃ q, q = i / 64 := ⟨_, rfl⟩
  rw [← hq] at x1 hi
  have x3 : wrap64 (q : Int) = (q : Int) := wrap64_in (by omega) (by omega)
  have x4 : IntKind.i64.wrap (q : Int) = (q : Int) := IntWalk.i64_in _ (by omega)
  have hc := h8 q hi
  have hw := h.ok.at q
  obtain ⟨x, hx⟩ : ∃ x, x = ws.getD q 0 := ⟨_, rfl⟩
  rw [← hx] at hc hw
  have x2 : (i : Int).tmod 64 = ((i % 64 : Nat) : Int) := by rw [Int.tmod_eq_emod_of_nonneg (by omega)]; omega
  have hs := two_wrap (i % 64) (Nat.mod_lt _ (by decide))
  obtain ⟨z, hz⟩ : ∃ z, z = 2 ^ (i % 64) := ⟨_, rfl⟩
  have hzl : z < 18446744073709551616 := by rw [hz]; exact two_pow_lt i
  rw [← hz] at hs
  obtain ⟨y, hy⟩ : ∃ y, y = x &&& (18446744073709551615 - z) := ⟨_, rfl⟩
  have hyl : y < 18446744073709551616 := by rw [hy]; exact Nat.lt_of_le_of_lt Nat.and_le_left hw
  have HPUT : Hid (dropW ws i = ws.set q y) := by show _ = _; rw [hy, hx, hq, hz]; rfl
  have ey : bits BinOp.andNot IntKind.u64 (x : Int) (z : Int) = (y : Int) := by rw [u64_andNot_nat _ _ hw hzl, hy]
  obtain ⟨r, hr⟩ : ∃ r, r = i % 64 := ⟨_, rfl⟩
  rw [← hr] at x2 hs
  have hr64 : (r : Int) < 64 := by omega
  obtain ⟨n, hn⟩ : ∃ n, n = ws.length := ⟨_, rfl⟩
  have HN := Lib.hid hn
  rw [← hn] at hi h4 ⊢
  have HFIT : Hid (q < cur.length) := by show _ < _; omega
  have HC1 := Lib.hid hc
  have H3 := Lib.hid h3
  have H7 := Lib.hid h7
  have HR : Hid (1 ≤ b ∧ ws.length ≤ cap ∧ cur.length = cap ∧ y < 18446744073709551616) := ⟨h1, by omega, h6, hyl⟩
  clear h h1 h2 h3 h6 h7 h8 hx hn hq hw hy hyl hfew hc hz hzl hr
  go_enter Tryd.func30, Tryd.ntmps30
  have HC : Hid (Gr w w.drew) := Gr.drew w
  refine wp_region_G 10 Gr (by kernel_rfl) ?_
  generalize w.drew = wc at HC ⊢
  -- 0: slot 4
  refine wpG_take preGr (i := 0) (v := ?_) (by kernel_rfl) (some 4) (by kernel_rfl) rfl (by kernel_rfl) (by kernel_rfl) (by kernel_rfl) (fun _ _ _ h => h) (by rfl) (fun w' hw' => ?_) rfl ?_
  rotate_left
  · try (have hc := cell_gr (Gr.trans HC.out hw') HC1.out)
    go_simp
    with_reducible rfl
  simp only [Act.put, List.setIfInBounds_toArray, List.set_cons_zero, List.set_cons_succ]
  -- 1: slot 5
  refine wpG_take preGr (i := 1) (v := ?_) (by kernel_rfl) (some 5) (by kernel_rfl) rfl (by kernel_rfl) (by kernel_rfl) (by kernel_rfl) (fun _ _ _ h => h) (by rfl) (fun w' hw' => ?_) rfl ?_
  rotate_left
  · try (have hc := cell_gr (Gr.trans HC.out hw') HC1.out)
    go_simp
    with_reducible rfl
  simp only [Act.put, List.setIfInBounds_toArray, List.set_cons_zero, List.set_cons_succ]
  -- 2: slot 6
  refine wpG_take preGr (i := 2) (v := ?_) (by kernel_rfl) (some 6) (by kernel_rfl) rfl (by kernel_rfl) (by kernel_rfl) (by kernel_rfl) (fun _ _ _ h => h) (by rfl) (fun w' hw' => ?_) rfl ?_
  rotate_left
  · try (have hc := cell_gr (Gr.trans HC.out hw') HC1.out)
    go_simp
    with_reducible rfl
  simp only [Act.put, List.setIfInBounds_toArray, List.set_cons_zero, List.set_cons_succ]
  -- 3: slot 7
  refine wpG_take preGr (i := 3) (v := ?_) (by kernel_rfl) (some 7) (by kernel_rfl) rfl (by kernel_rfl) (by kernel_rfl) (by kernel_rfl) (fun _ _ _ h => h) (by rfl) (fun w' hw' => ?_) rfl ?_
  rotate_left
  · try (have hc := cell_gr (Gr.trans HC.out hw') HC1.out)
    go_simp
    with_reducible rfl
  simp only [Act.put, List.setIfInBounds_toArray, List.set_cons_zero, List.set_cons_succ]
  -- 4: slot 8
  refine wpG_take preGr (i := 4) (v := ?_) (by kernel_rfl) (some 8) (by kernel_rfl) rfl (by kernel_rfl) (by kernel_rfl) (by kernel_rfl) (fun _ _ _ h => h) (by rfl) (fun w' hw' => ?_) rfl ?_
  rotate_left
  · try (have hc := cell_gr (Gr.trans HC.out hw') HC1.out)
    go_simp
    with_reducible rfl
  simp only [Act.put, List.setIfInBounds_toArray, List.set_cons_zero, List.set_cons_succ]
  -- 5: slot 9
  refine wpG_take preGr (i := 5) (v := ?_) (by kernel_rfl) (some 9) (by kernel_rfl) rfl (by kernel_rfl) (by kernel_rfl) (by kernel_rfl) (fun _ _ _ h => h) (by rfl) (fun w' hw' => ?_) rfl ?_
  rotate_left
  · try (have hc := cell_gr (Gr.trans HC.out hw') HC1.out)
    go_simp
    with_reducible rfl
  simp only [Act.put, List.setIfInBounds_toArray, List.set_cons_zero, List.set_cons_succ]
  -- 6: slot 10
  refine wpG_take preGr (i := 6) (v := ?_) (by kernel_rfl) (some 10) (by kernel_rfl) rfl (by kernel_rfl) (by kernel_rfl) (by kernel_rfl) (fun _ _ _ h => h) (by rfl) (fun w' hw' => ?_) rfl ?_
  rotate_left
  · try (have hc := cell_gr (Gr.trans HC.out hw') HC1.out)
    go_simp
    with_reducible rfl
  simp only [Act.put, List.setIfInBounds_toArray, List.set_cons_zero, List.set_cons_succ]
  -- 7: slot 11
  refine wpG_take preGr (i := 7) (v := ?_) (by kernel_rfl) (some 11) (by kernel_rfl) rfl (by kernel_rfl) (by kernel_rfl) (by kernel_rfl) (fun _ _ _ h => h) (by rfl) (fun w' hw' => ?_) rfl ?_
  rotate_left
  · try (have hc := cell_gr (Gr.trans HC.out hw') HC1.out)
    go_simp
    with_reducible rfl
  simp only [Act.put, List.setIfInBounds_toArray, List.set_cons_zero, List.set_cons_succ]
  -- 8: slot 12
  refine wpG_take preGr (i := 8) (v := ?_) (by kernel_rfl) (some 12) (by kernel_rfl) rfl (by kernel_rfl) (by kernel_rfl) (by kernel_rfl) (fun _ _ _ h => h) (by rfl) (fun w' hw' => ?_) rfl ?_
  rotate_left
  · try (have hc := cell_gr (Gr.trans HC.out hw') HC1.out)
    go_simp
    with_reducible rfl
  simp only [Act.put, List.setIfInBounds_toArray, List.set_cons_zero, List.set_cons_succ]
  -- 9: slot 13
  refine wpG_take preGr (i := 9) (v := ?_) (by kernel_rfl) (some 13) (by kernel_rfl) rfl (by kernel_rfl) (by kernel_rfl) (by kernel_rfl) (fun _ _ _ h => h) (by rfl) (fun w' hw' => ?_) rfl ?_
  rotate_left
  · try (have hc := cell_gr (Gr.trans HC.out hw') HC1.out)
    go_simp
    with_reducible rfl
  simp only [Act.put, List.setIfInBounds_toArray, List.set_cons_zero, List.set_cons_succ]
  refine wpG_tail (i := 10) (by decide) rfl (by kernel_rfl) (by rfl) ?_
  refine wp_store_cell (none) 70 (.tmp 13) (.tmp 12) rfl b q (.int .u64 (y : Int)) rfl rfl 70 cur (heap_gr HC.out H3.out) sizeU HFIT.out rfl rfl ?_
  intro w3 h3 ho3
  have HW3 := Lib.hid h3
  have HO3 := Lib.hid ho3
  clear h3 ho3
  try simp only [Act.put, List.setIfInBounds_toArray, List.set_cons_zero, List.set_cons_succ]
  refine wpG_done (by kernel_rfl) ?_ _
  go_wp2
  go_end0
  have hd := HH.out
  have h7 := H7.out
  have hr := HR.out
  rw [← HN.out] at hd
  have ht : Tr [b] w w3 := (Tr.gr (K := [b]) HC.out).trans (Tr.only HO3.out (by simp)) (fun i hi => .inl hi)
  rw [HPUT.out, HN.out]
  rw [HN.out] at hd
  exact ⟨rfl, hd.put hr.1 hr.2.1 H5.out hr.2.2.1 h7 hr.2.2.2 HW3.out, ht⟩
/-- The lowest of them. -/
theorem first_any {v : Value} {ws : List Nat} (w : World) (h : WAt w v ws) (hl : Laid w) :
    Calls Tryd.prog 46 #[v] w fun e w' => e = .returned (.tuple #[.int .i64 (((eachW ws).head?.getD 0 : Nat) : Int), .bool ((eachW ws).head?.isSome)]) ∧ w = w' := by
  obtain ⟨b, cap, cur, rfl, h1, h2, h3, h4, h5, h6, h7, h8⟩ := h.at
  have hfew := h.few
  have HOK := Lib.hid h.ok
  have HL := Lib.hid hl
  have H8 := Lib.hid h8
  obtain ⟨n, hn⟩ : ∃ n, n = ws.length := ⟨_, rfl⟩
  have HN := Lib.hid hn
  rw [← hn] at hfew h4 ⊢
  clear h h1 h2 h3 h5 h6 h7 h8 hl hn
  go_enter Tryd.func46, Tryd.ntmps46
  go_wp2_with fail
  go_loopw [8] (fun iv wr => ∃ i : Nat, i ≤ n ∧ iv = .int .i64 (i : Int) ∧ w = wr ∧ ∀ k, (hk : k < i) → (hk2 : k < ws.length) → ws[k] = 0) (fun iv _ => n - (intOf iv).toNat)
  case atStart => exact ⟨0, Nat.zero_le _, rfl, rfl, fun k hk => by omega⟩
  case round =>
    obtain ⟨i, hin, rfl, rfl, hno⟩ := hrel
    have HNO := Lib.hid hno
    clear hno
    by_cases hlt : i < n
    · have hil : i < ws.length := by rw [← HN.out]; exact hlt
      have hc := H8.out i hil
      have hgd : ws.getD i 0 = ws[i] := by simp [List.getD_eq_getElem?_getD, hil]
      have hxl := HOK.out.at i
      have hf := fun h0 hx => eachW_first i hil (fun j hj hji => HNO.out j hji hj) h0 hx
      rw [hgd] at hc hxl
      obtain ⟨x, hx⟩ : ∃ x, x = ws[i] := ⟨_, rfl⟩
      rw [← hx] at hc hxl hf
      by_cases h0 : x = 0
      · have hx2 : ((x : Int) != 0) = false := by rw [h0]; rfl
        have HNO2 : Hid (∀ k, (hk : k < i + 1) → (hk2 : k < ws.length) → ws[k] = 0) := fun k hk hk2 => by
          by_cases e : k = i
          · subst e; rw [← hx]; exact h0
          · exact HNO.out k (by omega) hk2
        have hle : i + 1 ≤ n := by omega
        clear hf hgd hx h0 hxl
        go_wp2_with fail
        go_roundw
        case rel =>
          first
            | exact ⟨i + 1, hle, by go_num, trivial, HNO2.out⟩
            | exact ⟨i + 1, hle, by go_num, rfl, HNO2.out⟩
            | ((repeat apply Exists.intro); exact ⟨⟨i + 1, hle, by go_num, rfl, HNO2.out⟩, rfl⟩)
        case measure => simp [intOf]; omega
      · have hx2 : ((x : Int) != 0) = true := by simp; omega
        have hf2 := hf h0 hxl
        have HT := Lib.hid (tz_any x h0 hxl w HL.out)
        have hc64 := (Lib.lowest_bit 64 x h0 hxl).2
        obtain ⟨c, hc2⟩ : ∃ c, c = Lib.ctz 64 x := ⟨_, rfl⟩
        rw [← hc2] at hc64 hf2 HT
        have x1 : wrap64 ((i : Int) * 64) = (i : Int) * 64 := wrap64_in (by omega) (by omega)
        have x2 : wrap64 ((i : Int) * 64 + (c : Int)) = ((64 * i + c : Nat) : Int) := by rw [wrap64_in (by omega) (by omega)]; omega
        have HF : Hid ((eachW ws).head? = some (64 * i + c)) := hf2
        clear hf hf2 hgd hx hxl hc2 hc64
        go_wp2_with fail
        refine HT.out.mono ?_
        rintro e w' ⟨rfl, rfl⟩
        go_wp2_with fail
        go_ret2
        exact ⟨by rw [HF.out]; show Ending.returned (.tuple #[.int .i64 (wrap64 ((i : Int) * 64 + (c : Int))), .bool true]) = _; rw [x2]; rfl, rfl⟩
    · have HE : Hid (eachW ws = []) := eachW_none fun j hj => HNO.out j (by have := HN.out; omega) hj
      go_wp2_with fail
      go_ret2
      exact ⟨by rw [HE.out]; rfl, rfl⟩
/-- How many there are. -/
theorem count_any {v : Value} {ws : List Nat} (w : World) (h : WAt w v ws) :
    Calls Tryd.prog 44 #[v] w fun e w' => e = .returned (.int .i64 ((eachW ws).length : Nat)) ∧ w = w' := by
  obtain ⟨b, cap, cur, rfl, h1, h2, h3, h4, h5, h6, h7, h8⟩ := h.at
  have hfew := h.few
  have HOK := Lib.hid h.ok
  have H8 := Lib.hid h8
  obtain ⟨n, hn⟩ : ∃ n, n = ws.length := ⟨_, rfl⟩
  have HN := Lib.hid hn
  rw [← hn] at hfew h4 ⊢
  clear h h1 h2 h3 h5 h6 h7 h8 hn
  go_enter Tryd.func44, Tryd.ntmps44
  go_wp2_with fail
  go_loopw [3, 8] (fun sv iv wr => ∃ i : Nat, i ≤ n ∧ iv = .int .i64 (i : Int) ∧ sv = .int .i64 ((eachW (ws.take i)).length : Nat) ∧ w = wr) (fun _ iv _ => n - (intOf iv).toNat)
  case atStart => exact ⟨0, Nat.zero_le _, rfl, rfl, rfl⟩
  case round =>
    obtain ⟨i, hin, rfl, rfl, rfl⟩ := hrel
    by_cases hlt : i < n
    · have hil : i < ws.length := by rw [← HN.out]; exact hlt
      have hc := H8.out i hil
      have hgd : ws.getD i 0 = ws[i] := by simp [List.getD_eq_getElem?_getD, hil]
      have hxl := HOK.out.at i
      have hf := count_take_succ ws i hil
      have hcl := count_le (ws.take i)
      rw [List.length_take] at hcl
      rw [hgd] at hc hxl
      have hpl : pop ws[i] ≤ 64 := bitsL_le _
      have HT := Lib.hid (ones_any ws[i] hxl w)
      obtain ⟨x, hx⟩ : ∃ x, x = ws[i] := ⟨_, rfl⟩
      rw [← hx] at hc hf HT hpl
      obtain ⟨s, hs⟩ : ∃ s, s = (eachW (ws.take i)).length := ⟨_, rfl⟩
      rw [← hs] at hf hcl
      have hs65 : s ≤ 65536 := by omega
      have HS := Lib.hid hs
      obtain ⟨p, hp⟩ : ∃ p, p = pop x := ⟨_, rfl⟩
      rw [← hp] at hf HT hpl
      have x1 : wrap64 ((s : Int) + (p : Int)) = ((s + p : Nat) : Int) := by rw [wrap64_in (by omega) (by omega)]; omega
      have HF := Lib.hid hf
      have hle : i + 1 ≤ n := by omega
      rw [← hs]
      clear hgd hx hxl hcl hpl hf hs hp hs65
      go_wp2_with fail
      refine HT.out.mono ?_
      rintro e w' ⟨rfl, rfl⟩
      go_wp2_with fail
      go_roundw
      case rel =>
        first
          | exact ⟨i + 1, hle, by go_num, by rw [HF.out, ← x1], trivial⟩
          | exact ⟨i + 1, hle, by go_num, by rw [HF.out, ← x1], rfl⟩
          | ((repeat apply Exists.intro); exact ⟨⟨i + 1, hle, by go_num, by rw [HF.out, ← x1], rfl⟩, rfl⟩)
      case measure => simp [intOf]; omega
    · have HE : Hid (ws.take i = ws) := by show _ = _; rw [List.take_of_length_le]; have := HN.out; omega
      rw [HE.out]
      obtain ⟨s, hs⟩ : ∃ s, s = (eachW ws).length := ⟨_, rfl⟩
      rw [← hs]
      have HS := Lib.hid hs
      clear hs
      go_wp2_with fail
      go_ret
      exact ⟨by rw [← HS.out]; rfl, rfl⟩
end Go.Proofs.YtoemghinolekgaaDoor.Pl
