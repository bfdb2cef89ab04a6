/-
  opts.each: the function that is ranged over: what it hands to each round.
-/
import Derived.Test.YteemcckfhadkhaaOpA
import Derived.Test.YteemcckfhadkhaaTake
import Derived.Test.YteemcckfhadkhaaOnly
import Derived.Test.YteemcckfhadkhaaRng
import Derived.RangeFuncNested
import Derived.Shelf.Abstract
import Derived.WalkKit
import Derived.OwnWalkIn
import Derived.TacticsInMore
import Derived.LoopNIn
import Derived.LoopIn
namespace Go.Proofs.Yteemcckfhadkhaa.O
open Go.RowKit Go.Shelf
set_option linter.unusedVariables false
set_option linter.unusedSimpArgs false
attribute [local go_sem] Oper.semAt_some

/-- What a round is handed: an option, and whether it is whole. -/
abbrev El := Tg × Bool
def encE2 (x : El) : Array Value := #[.agg #[.int .i64 x.1.typ, x.1.val], .bool x.2]
def optsOf (xs : List El) : List Tg := xs.map Prod.fst
theorem optsOf_snoc (xs : List El) (x : El) : optsOf (xs ++ [x]) = optsOf xs ++ [x.1] := by simp [optsOf]
theorem optsOf_length (xs : List El) : (optsOf xs).length = xs.length := by simp [optsOf]
/-- What is left when these have been handed over. -/
def Left (l : List UInt8) (xs : List El) (r : List UInt8) : Prop := xs.length ≤ 64 → decL [] l = decL (plain (optsOf xs)) r
theorem Left.zero (l : List UInt8) : Left l [] l := fun _ => rfl
theorem Left.next {l r : List UInt8} {xs : List El} (h : Left l xs r) (hf : fok r) (v : Value) : Left l (xs ++ [(⟨(bN r 0 : Int), v, (r.drop 2).take (bN r 1 - 2)⟩, true)]) (r.drop (bN r 1)) := fun hn => by
  rw [List.length_append] at hn
  simp only [List.length_cons, List.length_nil] at hn
  rw [h (by omega), decL_next _ _ hf (by rw [plain_length, optsOf_length]; omega), optsOf_snoc, plain_append]
  rfl
/-- What a round knows of what it is handed. -/
structure Good (l : List UInt8) (base : Nat) (xs : List El) (x : El) (V : World) : Prop where
  whole : x.2 = true → OwnB V base 5 x.1.val x.1.l ∧ (xs.length = 64 → decL [] l = ([], 3))
  torn : x.2 = false → x.1 = ⟨0, .slice none 0 0, []⟩ ∧ (xs.length ≤ 64 → decL [] l = ([], 80))
def AllCame (l : List UInt8) (xs : List El) : Prop := (∀ x ∈ xs, x.2 = true) → xs.length ≤ 64 → decL [] l = (plain (optsOf xs), 0)

theorem each_any (a : Option Addr) (n c : Nat) (w : World) :
    Calls Try.prog 28 #[.slice a n c] w fun e w' => e = .returned (.func (.func 37) #[] #[.pointer (some ⟨w.heap.size, 0, none⟩)]) ∧ w' = w.alloc (.cells #[.slice a n c] 23) := by
  go_enter Try.func28, Try.ntmps28
  go_wp2
  go_ret
  exact ⟨rfl, rfl⟩

set_option maxRecDepth 100000 in
set_option maxHeartbeats 4000000 in
theorem each1_in (lp B0 bx : Nat) (w0 W : World) (a : Option Addr) (n c : Nat) (l : List UInt8) (hn : l.length = n) (hb : Bs w0 (.slice a n c) l) (hW : Below w0.heap.size w0 W) (hB0 : w0.heap.size ≤ B0) (hr : n ≤ 140737488351232)
    (J Jx : List El → World → Prop) (hJ : ∀ xs A B, J xs A → Gr A B → J xs B)
    (hY : ∀ xs x V, J xs V → Good l w0.heap.size xs x V → YieldAt Fence.wide 0 Try.prog lp (encE2 x) V fun e V' => (e = .returned (.bool true) ∧ J (xs ++ [x]) V' ∧ Below B0 V V') ∨ (e = .returned (.bool false) ∧ Jx (xs ++ [x]) V'))
    (hbox : W.heap[bx]? = some (.cells #[.slice a n c] 23 (0, 0))) (h0 : J [] W) :
    CallsIn Fence.wide 0 Try.prog 37 #[.func (.yield lp) #[] #[], .pointer (some ⟨bx, 0, none⟩)] W fun e V => (∃ v, e = .returned v) ∧ ((∃ xs, AllCame l xs ∧ J xs V) ∨ (∃ xs, Jx xs V)) := by
  obtain ⟨i0, hi, hz0, hz1, hz2⟩ := info_parts info5
  have HJ := Lib.hid hJ
  have HY := Lib.hid hY
  have H0 := Lib.hid h0
  have HW := Lib.hid hW
  have HBS := Lib.hid hb
  have HN := Lib.hid hn
  have kbx := cell1 hbox
  clear hJ hY h0 hW hb hn hbox
  refine callsIn_of_wp Try.func37 rfl trivial ?_ rfl
  simp only [Try.ntmps37, List.size_toArray, List.length_cons, List.length_nil, Nat.reduceAdd, Nat.reduceSub, Array.replicate_succ, Array.replicate_zero, List.push_toArray, List.append_toArray, List.nil_append, List.cons_append]
  gi_wp2
  gi_loopw [3] (fun rv wr => ∃ (m : Nat) (a' : Option Addr) (c' : Nat) (r : List UInt8) (xs : List El), rv = .slice a' m c' ∧ m ≤ n ∧ r.length = m ∧ Hid (Bs w0 (.slice a' m c') r) ∧ Hid (Left l xs r) ∧ Hid (J xs wr) ∧ Hid (Below w0.heap.size w0 wr)) (fun rv _ => slen rv)
  case atStart => exact ⟨n, a, c, l, [], rfl, Nat.le_refl _, HN.out, HBS, Left.zero l, H0, HW⟩
  case round =>
    obtain ⟨m, a', c', r, xs, rfl, hmn, hrm, HB, HLE, HJX, HLOW⟩ := hrel
    have HRM := Lib.hid hrm
    clear hrm
    by_cases h0 : m = 0
    · subst h0
      have HA : Hid (AllCame l xs) := fun _ hx => by
        rw [HLE.out hx]
        exact decL_nil _ _ HRM.out
      gi_wp2
      go_end0
      exact ⟨⟨_, rfl⟩, .inl ⟨xs, HA.out, HJX.out⟩⟩
    have hm0 : 0 < m := by omega
    have SO := Lib.hid (sizeOf_any a' m c' r HRM.out wr (HB.out.below HLOW.out))
    by_cases hf : fok r
    · have HF := Lib.hid hf
      have e1 : decide (fok r) = true := decide_eq_true hf
      rw [e1] at SO
      obtain ⟨K, hK⟩ : ∃ K, K = bN r 1 := ⟨_, rfl⟩
      have HK := Lib.hid hK
      have hK2 : 2 ≤ K := by rw [hK]; exact hf.2.1
      have hKm : K ≤ m := by have := hf.2.2; rw [← hK, HRM.out] at this; exact this
      clear e1 hf hK
      have hKr := HF.out.2.2
      obtain ⟨b, o, rfl, hbl, hcell⟩ := HB.out.cells (by rw [HRM.out]; omega)
      have hc0 := hcell 0 (by rw [HRM.out]; omega)
      rw [← bN_get r 0 (by rw [HRM.out]; omega), Nat.add_zero] at hc0
      have hT8 := bN_lt r 0
      obtain ⟨T, hT⟩ : ∃ T, T = bN r 0 := ⟨_, rfl⟩
      rw [← hT] at hc0 hT8
      have HT := Lib.hid hT
      have HC0 := Lib.hid (cell_gr HLOW.out hc0)
      obtain ⟨_, _, es0, hcc, hcm⟩ := HB.out.shape
      simp only [Value.slice.injEq] at es0
      obtain ⟨rfl, z0, rfl⟩ := es0
      rw [HRM.out] at hcc
      clear z0 hT hc0 hcell hKr
      unfold maxLen at hcm
      have hb1 : Rd w0 1 (.slice (some ⟨b, o, none⟩) m c') m (r.map u8v) := by
        have := HB.out
        unfold Bs at this
        rw [HRM.out] at this
        exact this
      obtain ⟨a5, hs5, hr5⟩ := slice_range (P := Try.prog) Try.underlying23 hi hz1 hb1 .i64 .i64 2 K 2 K rfl rfl hK2 hKm
      obtain ⟨a6, hs6, hr6⟩ := slice_from (P := Try.prog) Try.underlying23 hi hz1 hb1 .i64 K K rfl hKm
      rw [drop_u8, take_u8'] at hr5
      rw [drop_u8] at hr6
      have HS6 : Hid (Bs w0 (.slice a6 (m - K) (c' - K)) (r.drop K)) := Bs.of_rd hr6 rfl
      have HS5 : Hid (Bs w0 (.slice a5 (K - 2) (c' - 2)) ((r.drop 2).take (K - 2))) := Bs.of_rd hr5 rfl
      have hl5 : ((r.drop 2).take (K - 2)).length = K - 2 := by rw [List.length_take, List.length_drop, HRM.out]; omega
      have HL5 := Lib.hid hl5
      have CL : Hid (∀ w', Gr wr w' → Calls Try.prog 34 #[.slice a5 (K - 2) (c' - 2)] w' fun e w2 => ∃ v, e = .returned v ∧ OwnB w2 w'.heap.size 5 v ((r.drop 2).take (K - 2)) ∧ Below w'.heap.size w' w2) := fun w' hw' =>
        clone_any w' a5 (K - 2) (c' - 2) _ HL5.out (HS5.out.below (HLOW.out.trans (Below.mono hw' HLOW.out.size))) (by omega)
      have W1 : IntKind.i64.wrap (T : Int) = (T : Int) := IntWalk.i64_in _ (by omega)
      have hlow := HLOW.out.size
      clear hb1 hr5 hr6 hl5
      gi_wp2_with (refine ⟨trivial, rfl, ?_⟩; refine (callsIn_wide.2 SO.out).mono ?_; rintro e w1 ⟨⟨k, rfl, hk⟩, rfl⟩; obtain rfl : K = k := ((hk HF.out).trans HK.out.symm).symm; clear hk)
      refine wpIn_wide.2 ?_
      have HC : Hid (Gr wr wr.drew) := Gr.drew wr
      have hm0' : (0 : Int) < (m : Int) := by omega
      clear SO
      refine wp_region_G 10 Gr (by kernel_rfl) ?_
      generalize wr.drew = wc at HC ⊢
      -- 0: slot 21
      refine wpG_take preGr (i := 0) (v := ?_) (by kernel_rfl) (some 21) (by kernel_rfl) rfl (by kernel_rfl) (by kernel_rfl) (by kernel_rfl) (fun _ _ _ h => h) (by rfl) (fun w' hw' => ?_) rfl ?_
      rotate_left
      · try have g0 := cell_gr (Gr.trans HC.out hw') HC0.out
        go_simp
        with_reducible rfl
      simp only [Act.put, List.setIfInBounds_toArray, List.set_cons_zero, List.set_cons_succ]
      -- 1: slot 22
      refine wpG_take preGr (i := 1) (v := ?_) (by kernel_rfl) (some 22) (by kernel_rfl) rfl (by kernel_rfl) (by kernel_rfl) (by kernel_rfl) (fun _ _ _ h => h) (by rfl) (fun w' hw' => ?_) rfl ?_
      rotate_left
      · try have g0 := cell_gr (Gr.trans HC.out hw') HC0.out
        go_simp
        with_reducible rfl
      simp only [Act.put, List.setIfInBounds_toArray, List.set_cons_zero, List.set_cons_succ]
      -- 2: slot 23
      refine wpG_take preGr (i := 2) (v := ?_) (by kernel_rfl) (some 23) (by kernel_rfl) rfl (by kernel_rfl) (by kernel_rfl) (by kernel_rfl) (fun _ _ _ h => h) (by rfl) (fun w' hw' => ?_) rfl ?_
      rotate_left
      · try have g0 := cell_gr (Gr.trans HC.out hw') HC0.out
        go_simp
        with_reducible rfl
      simp only [Act.put, List.setIfInBounds_toArray, List.set_cons_zero, List.set_cons_succ]
      -- 3: slot 24
      refine wpG_take preGr (i := 3) (v := ?_) (by kernel_rfl) (some 24) (by kernel_rfl) rfl (by kernel_rfl) (by kernel_rfl) (by kernel_rfl) (fun _ _ _ h => h) (by rfl) (fun w' hw' => ?_) rfl ?_
      rotate_left
      · try have g0 := cell_gr (Gr.trans HC.out hw') HC0.out
        go_simp
        with_reducible rfl
      simp only [Act.put, List.setIfInBounds_toArray, List.set_cons_zero, List.set_cons_succ]
      -- 4: slot 25
      refine wpG_take preGr (i := 4) (v := ?_) (by kernel_rfl) (some 25) (by kernel_rfl) rfl (by kernel_rfl) (by kernel_rfl) (by kernel_rfl) (fun _ _ _ h => h) (by rfl) (fun w' hw' => ?_) rfl ?_
      rotate_left
      · try have g0 := cell_gr (Gr.trans HC.out hw') HC0.out
        go_simp
        with_reducible rfl
      simp only [Act.put, List.setIfInBounds_toArray, List.set_cons_zero, List.set_cons_succ]
      -- 5: slot 26
      refine wpG_take preGr (i := 5) (v := ?_) (by kernel_rfl) (some 26) (by kernel_rfl) rfl (by kernel_rfl) (by kernel_rfl) (by kernel_rfl) (fun _ _ _ h => h) (by rfl) (fun w' hw' => ?_) rfl ?_
      rotate_left
      · try have g0 := cell_gr (Gr.trans HC.out hw') HC0.out
        go_simp
        with_reducible rfl
      simp only [Act.put, List.setIfInBounds_toArray, List.set_cons_zero, List.set_cons_succ]
      -- 6: slot 27
      refine wpG_take preGr (i := 6) (v := ?_) (by kernel_rfl) (some 27) (by kernel_rfl) rfl (by kernel_rfl) (by kernel_rfl) (by kernel_rfl) (fun _ _ _ h => h) (by rfl) (fun w' hw' => ?_) rfl ?_
      rotate_left
      · try have g0 := cell_gr (Gr.trans HC.out hw') HC0.out
        go_simp
        with_reducible rfl
      simp only [Act.put, List.setIfInBounds_toArray, List.set_cons_zero, List.set_cons_succ]
      refine wpG_two (i := 7) (j := 9) rfl rfl (by kernel_rfl) (by rfl) (by rfl) ?_ ?_
      · go_simp
        refine (CL.out _ HC.out).mono ?_
        rintro e w3 ⟨v3, rfl, hown3, hb3⟩
        obtain ⟨A3, L3, C3, ev, hL3, _, _⟩ := hown3.bs.sl
        rw [HL5.out] at hL3
        subst hL3
        subst ev
        refine ⟨hb3, ?_⟩
        have HC' : Hid (Gr wr w3) := Gr.trans HC.out hb3
        have HO := Lib.hid (hown3.mono (base' := w0.heap.size) (Nat.le_trans hlow HC.out.size))
        try have HZ' := Lib.hid (heap_gr hb3 HZ.out)
        try clear HZ
        try (have HZ := HZ'; clear HZ')
        clear HC hown3 hb3
        have HC := HC'
        clear HC'
        obtain ⟨wc, hwc⟩ : ∃ x, x = w3 := ⟨_, rfl⟩
        subst hwc
        try simp only [Act.put, List.setIfInBounds_toArray, List.set_cons_zero, List.set_cons_succ]
        -- 8: slot 29
        refine wpG_take preGr (i := 8) (v := ?_) (by kernel_rfl) (some 29) (by kernel_rfl) rfl (by kernel_rfl) (by kernel_rfl) (by kernel_rfl) (fun _ _ _ h => h) (by rfl) (fun w' hw' => ?_) rfl ?_
        rotate_left
        · refine Eq.trans (build_run (P := Try.prog) 36 [(0, .tmp 24), (1, .tmp 28)] ?_ #[.int .i64 T, .slice A3 (K - 2) C3] ?_) ?_
          · rfl
          · exact builtT T A3 (K - 2) C3
          · with_reducible rfl
        simp only [Act.put, List.setIfInBounds_toArray, List.set_cons_zero, List.set_cons_succ]
        refine wpG_one (i := 9) rfl (by kernel_rfl) (by rfl) ?_
        go_simp
        refine ⟨(Gr.refl _).alloc _, ?_⟩
        obtain ⟨g, hg⟩ : ∃ g, g = wc.heap.size := ⟨_, rfl⟩
        have HZ : Hid ((wc.alloc (.cells #[.int .i64 0, .slice none 0 0] 36)).heap[g]? = some (.cells #[.int .i64 0, .slice none 0 0] 36)) := by show _ = _; rw [hg]; exact heap_alloc_last _ _
        have HGL : Hid (wr.heap.size ≤ g) := by show _ ≤ _; rw [hg]; exact HC.out.size
        have HC' : Hid (Gr wr (wc.alloc (.cells #[.int .i64 0, .slice none 0 0] 36))) := HC.out.alloc _
        try have HO' := Lib.hid (HO.out.below ((Gr.refl wc).alloc (.cells #[.int .i64 0, .slice none 0 0] 36)))
        try clear HO
        try (have HO := HO'; clear HO')
        clear HC
        rw [← hg]
        clear hg
        first
          | generalize wc.alloc (.cells #[.int .i64 0, .slice none 0 0] 36) = wd at HC' HZ HO ⊢
          | generalize wc.alloc (.cells #[.int .i64 0, .slice none 0 0] 36) = wd at HC' HZ ⊢
        have HC := HC'
        clear HC'
        obtain ⟨wc, hwc⟩ : ∃ x, x = wd := ⟨_, rfl⟩
        subst hwc
        try simp only [Act.put, List.setIfInBounds_toArray, List.set_cons_zero, List.set_cons_succ]
        refine wpG_tail (i := 10) (by decide) rfl (by kernel_rfl) (by rfl) ?_
        refine wp_store_whole (none) 36 (.tmp 6) (.tmp 29) rfl g [.int .i64 T, .slice A3 (K - 2) C3] rfl rfl 36 [.int .i64 0, .slice none 0 0] HZ.out sizeT rfl (one_tag _ rfl) rfl ?_
        intro w4 h4 ho4
        have H4 := Lib.hid h4
        have HC4 : Hid (Gr wr w4) := ho4.below _ _ HGL.out HC.out
        have HO4 : Hid (OwnB w4 w0.heap.size 5 (.slice A3 (K - 2) C3) ((r.drop 2).take (K - 2))) := HO.out.off ho4 (fun k hk e => own_ne_cell HO.out HZ.out (by decide) (by rw [hk, e]))
        clear h4 ho4 HC HO HZ HGL
        try simp only [Act.put, List.setIfInBounds_toArray, List.set_cons_zero, List.set_cons_succ]
        refine wpG_done (by kernel_rfl) ?_ _
        have HLE2 : Hid (Left l (xs ++ [((⟨(T : Int), .slice A3 (K - 2) C3, (r.drop 2).take (K - 2)⟩ : Tg), true)]) (r.drop K)) := by
          have := HLE.out.next HF.out (.slice A3 (K - 2) C3)
          rw [← HT.out, ← HK.out] at this
          exact this
        have HX : Hid (Good l w0.heap.size xs ((⟨(T : Int), .slice A3 (K - 2) C3, (r.drop 2).take (K - 2)⟩ : Tg), true) w4) := ⟨fun _ => ⟨HO4.out, fun h64 => by
          rw [HLE.out (by omega)]
          exact decL_many _ _ HF.out (by rw [plain_length, optsOf_length]; exact h64)⟩, fun h => (by cases h)⟩
        have hl2 : (r.drop K).length = m - K := by rw [List.length_drop, HRM.out]
        have HL2 := Lib.hid hl2
        have HLOW4 := Lib.hid (HLOW.out.trans (Below.mono HC4.out HLOW.out.size))
        obtain ⟨fn, tmps, assign, body, hy, hR⟩ := HY.out xs _ w4 (HJ.out _ _ _ HJX.out HC4.out) HX.out
        dsimp only [encE2] at hy
        obtain ⟨k0, k1⟩ := copy_cells H4.out
        clear hl2 W1 hm0'
        gi_wp2
        refine ⟨rfl, hR.mono ?_⟩
        rintro e w5 (⟨rfl, hj5, hb5⟩ | ⟨rfl, hx5⟩)
        · have HJ5 := Lib.hid hj5
          have HLOW5 := Lib.hid (HLOW4.out.trans (hb5.mono hB0))
          clear hj5 hb5 k0 k1 hy hR
          gi_wp2
          go_roundw
          case rel =>
            have hle : m - K ≤ n := by omega
            first | exact ⟨m - K, a6, c' - K, r.drop K, _, rfl, hle, HL2.out, HS6, HLE2, HJ5, HLOW5⟩ | ((repeat apply Exists.intro); exact ⟨⟨m - K, a6, c' - K, r.drop K, _, rfl, hle, HL2.out, HS6, HLE2, HJ5, HLOW5⟩, rfl⟩)
          case measure => simp [slen]; omega
        · have HX5 := Lib.hid hx5
          clear hx5 k0 k1 hy hR
          gi_wp2
          refine bodyPost_ret (results_none rfl _ _ _) rfl ?_
          exact ⟨⟨_, rfl⟩, .inr ⟨_, HX5.out⟩⟩
      · go_simp
        refine ⟨(Gr.refl _).alloc _, ?_⟩
        obtain ⟨g, hg⟩ : ∃ g, g = wc.heap.size := ⟨_, rfl⟩
        have HZ : Hid ((wc.alloc (.cells #[.int .i64 0, .slice none 0 0] 36)).heap[g]? = some (.cells #[.int .i64 0, .slice none 0 0] 36)) := by show _ = _; rw [hg]; exact heap_alloc_last _ _
        have HGL : Hid (wr.heap.size ≤ g) := by show _ ≤ _; rw [hg]; exact HC.out.size
        have HC' : Hid (Gr wr (wc.alloc (.cells #[.int .i64 0, .slice none 0 0] 36))) := HC.out.alloc _
        try have HO' := Lib.hid (HO.out.below ((Gr.refl wc).alloc (.cells #[.int .i64 0, .slice none 0 0] 36)))
        try clear HO
        try (have HO := HO'; clear HO')
        clear HC
        rw [← hg]
        clear hg
        first
          | generalize wc.alloc (.cells #[.int .i64 0, .slice none 0 0] 36) = wd at HC' HZ HO ⊢
          | generalize wc.alloc (.cells #[.int .i64 0, .slice none 0 0] 36) = wd at HC' HZ ⊢
        have HC := HC'
        clear HC'
        obtain ⟨wc, hwc⟩ : ∃ x, x = wd := ⟨_, rfl⟩
        subst hwc
        try simp only [Act.put, List.setIfInBounds_toArray, List.set_cons_zero, List.set_cons_succ]
        refine wpG_one (i := 7) rfl (by kernel_rfl) (by rfl) ?_
        go_simp
        refine (CL.out _ HC.out).mono ?_
        rintro e w3 ⟨v3, rfl, hown3, hb3⟩
        obtain ⟨A3, L3, C3, ev, hL3, _, _⟩ := hown3.bs.sl
        rw [HL5.out] at hL3
        subst hL3
        subst ev
        refine ⟨hb3, ?_⟩
        have HC' : Hid (Gr wr w3) := Gr.trans HC.out hb3
        have HO := Lib.hid (hown3.mono (base' := w0.heap.size) (Nat.le_trans hlow HC.out.size))
        try have HZ' := Lib.hid (heap_gr hb3 HZ.out)
        try clear HZ
        try (have HZ := HZ'; clear HZ')
        clear HC hown3 hb3
        have HC := HC'
        clear HC'
        obtain ⟨wc, hwc⟩ : ∃ x, x = w3 := ⟨_, rfl⟩
        subst hwc
        try simp only [Act.put, List.setIfInBounds_toArray, List.set_cons_zero, List.set_cons_succ]
        -- 8: slot 29
        refine wpG_take preGr (i := 8) (v := ?_) (by kernel_rfl) (some 29) (by kernel_rfl) rfl (by kernel_rfl) (by kernel_rfl) (by kernel_rfl) (fun _ _ _ h => h) (by rfl) (fun w' hw' => ?_) rfl ?_
        rotate_left
        · refine Eq.trans (build_run (P := Try.prog) 36 [(0, .tmp 24), (1, .tmp 28)] ?_ #[.int .i64 T, .slice A3 (K - 2) C3] ?_) ?_
          · rfl
          · exact builtT T A3 (K - 2) C3
          · with_reducible rfl
        simp only [Act.put, List.setIfInBounds_toArray, List.set_cons_zero, List.set_cons_succ]
        refine wpG_tail (i := 10) (by decide) rfl (by kernel_rfl) (by rfl) ?_
        refine wp_store_whole (none) 36 (.tmp 6) (.tmp 29) rfl g [.int .i64 T, .slice A3 (K - 2) C3] rfl rfl 36 [.int .i64 0, .slice none 0 0] HZ.out sizeT rfl (one_tag _ rfl) rfl ?_
        intro w4 h4 ho4
        have H4 := Lib.hid h4
        have HC4 : Hid (Gr wr w4) := ho4.below _ _ HGL.out HC.out
        have HO4 : Hid (OwnB w4 w0.heap.size 5 (.slice A3 (K - 2) C3) ((r.drop 2).take (K - 2))) := HO.out.off ho4 (fun k hk e => own_ne_cell HO.out HZ.out (by decide) (by rw [hk, e]))
        clear h4 ho4 HC HO HZ HGL
        try simp only [Act.put, List.setIfInBounds_toArray, List.set_cons_zero, List.set_cons_succ]
        refine wpG_done (by kernel_rfl) ?_ _
        have HLE2 : Hid (Left l (xs ++ [((⟨(T : Int), .slice A3 (K - 2) C3, (r.drop 2).take (K - 2)⟩ : Tg), true)]) (r.drop K)) := by
          have := HLE.out.next HF.out (.slice A3 (K - 2) C3)
          rw [← HT.out, ← HK.out] at this
          exact this
        have HX : Hid (Good l w0.heap.size xs ((⟨(T : Int), .slice A3 (K - 2) C3, (r.drop 2).take (K - 2)⟩ : Tg), true) w4) := ⟨fun _ => ⟨HO4.out, fun h64 => by
          rw [HLE.out (by omega)]
          exact decL_many _ _ HF.out (by rw [plain_length, optsOf_length]; exact h64)⟩, fun h => (by cases h)⟩
        have hl2 : (r.drop K).length = m - K := by rw [List.length_drop, HRM.out]
        have HL2 := Lib.hid hl2
        have HLOW4 := Lib.hid (HLOW.out.trans (Below.mono HC4.out HLOW.out.size))
        obtain ⟨fn, tmps, assign, body, hy, hR⟩ := HY.out xs _ w4 (HJ.out _ _ _ HJX.out HC4.out) HX.out
        dsimp only [encE2] at hy
        obtain ⟨k0, k1⟩ := copy_cells H4.out
        clear hl2 W1 hm0'
        gi_wp2
        refine ⟨rfl, hR.mono ?_⟩
        rintro e w5 (⟨rfl, hj5, hb5⟩ | ⟨rfl, hx5⟩)
        · have HJ5 := Lib.hid hj5
          have HLOW5 := Lib.hid (HLOW4.out.trans (hb5.mono hB0))
          clear hj5 hb5 k0 k1 hy hR
          gi_wp2
          go_roundw
          case rel =>
            have hle : m - K ≤ n := by omega
            first | exact ⟨m - K, a6, c' - K, r.drop K, _, rfl, hle, HL2.out, HS6, HLE2, HJ5, HLOW5⟩ | ((repeat apply Exists.intro); exact ⟨⟨m - K, a6, c' - K, r.drop K, _, rfl, hle, HL2.out, HS6, HLE2, HJ5, HLOW5⟩, rfl⟩)
          case measure => simp [slen]; omega
        · have HX5 := Lib.hid hx5
          clear hx5 k0 k1 hy hR
          gi_wp2
          refine bodyPost_ret (results_none rfl _ _ _) rfl ?_
          exact ⟨⟨_, rfl⟩, .inr ⟨_, HX5.out⟩⟩
    · have e1 : decide (fok r) = false := decide_eq_false hf
      rw [e1] at SO
      have hd : xs.length ≤ 64 → decL [] l = ([], 80) := fun hx => by
        rw [HLE.out hx]
        exact decL_bad _ _ (by rw [HRM.out]; omega) hf
      have HX : Hid (Good l w0.heap.size xs ((⟨0, .slice none 0 0, []⟩ : Tg), false) wr) := ⟨fun h => (by cases h), fun _ => ⟨rfl, hd⟩⟩
      obtain ⟨fn, tmps, assign, body, hy, hR⟩ := HY.out xs _ wr HJX.out HX.out
      dsimp only [encE2] at hy
      clear e1 hf hd
      gi_wp2_with (refine ⟨trivial, rfl, ?_⟩; refine (callsIn_wide.2 SO.out).mono ?_; rintro e w1 ⟨⟨k, rfl, hk⟩, rfl⟩; clear hk)
      refine ⟨rfl, hR.mono ?_⟩
      rintro e w5 (⟨rfl, hj5, hb5⟩ | ⟨rfl, hx5⟩)
      · have HJ5 := Lib.hid hj5
        clear hj5 hb5 hy hR
        gi_wp2
        refine bodyPost_ret (results_none rfl _ _ _) rfl ?_
        refine ⟨⟨_, rfl⟩, .inl ⟨_, fun h => ?_, HJ5.out⟩⟩
        have := h _ (List.mem_append.2 (.inr (List.mem_singleton.2 rfl)))
        cases this
      · have HX5 := Lib.hid hx5
        clear hx5 hy hR
        gi_wp2
        refine bodyPost_ret (results_none rfl _ _ _) rfl ?_
        exact ⟨⟨_, rfl⟩, .inr ⟨_, HX5.out⟩⟩
end Go.Proofs.Yteemcckfhadkhaa.O
