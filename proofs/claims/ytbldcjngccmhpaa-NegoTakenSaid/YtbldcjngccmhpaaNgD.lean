/-
  Whether a rule takes an option that fits it (nego's rule.takes), the option that a rule takes before all others (rule.good).
-/
import Derived.Test.YtbldcjngccmhpaaNgC
import Derived.Test.YtbldcjngccmhpaaTake
namespace Go.Proofs.Ytbldcjngccmhpaa.Ng
open Go.RowKit
set_option linter.unusedVariables false
set_option linter.unusedSimpArgs false
theorem sizeMayBe_zero (w : World) : Calls Try.prog 67 #[.int .i64 0] w fun e w' => e = .returned (.bool false) ∧ w = w' := by
  go_enter Try.func67, Try.ntmps67
  go_wp2
  go_ret
  exact ⟨rfl, rfl⟩
theorem take_zero (w : World) (a : Option Addr) (n c : Nat) : Calls Try.prog 58 #[.slice a n c, .int .i64 0] w fun e w' => e = .returned (.tuple #[.int .u64 0, .slice none 0 0, .bool false]) ∧ w = w' := by
  go_enter Try.func58, Try.ntmps58
  go_wp2_with (go_at_call 67; refine (sizeMayBe_zero _).mono ?_; rintro e w' ⟨rfl, rfl⟩)
  go_ret3
  exact ⟨tup3 rfl, rfl⟩
theorem put_zero (w : World) (n : Int) : Calls Try.prog 60 #[.int .u64 n, .int .i64 0] w fun e w' => e = .returned (.slice none 0 0) ∧ w = w' := by
  go_enter Try.func60, Try.ntmps60
  go_wp2_with (go_at_call 67; refine (sizeMayBe_zero _).mono ?_; rintro e w' ⟨rfl, rfl⟩)
  go_ret
  exact ⟨rfl, rfl⟩
theorem putL_zero (n : Nat) : putL n 0 = [] := by simp [putL]
theorem put_small (n size : Nat) (w : World) (h1 : size ≤ 4) (hn : n < 18446744073709551616) :
    Calls Try.prog 60 #[.int .u64 n, .int .i64 size] w fun e w' => ∃ v, e = .returned v ∧ OwnB w' w.heap.size 5 v (putL n size) ∧ Below w.heap.size w w' := by
  by_cases h0 : size = 0
  · subst h0
    refine (put_zero w n).mono ?_
    rintro e w' ⟨rfl, rfl⟩
    exact ⟨_, rfl, by rw [putL_zero]; exact OwnB.nil _ _ _, Below.refl _ _⟩
  · exact put_yes n size w (by omega) (by omega) hn
theorem take_small (w : World) (a : Option Addr) (n c : Nat) (l : List UInt8) (hn : l.length = n) (h : Bs w (.slice a n c) l) (h4 : n ≤ 4) :
    Calls Try.prog 58 #[.slice a n c, .int .i64 n] w fun e w' => ∃ a' n' c' b, e = .returned (.tuple #[.int .u64 (takeN l n : Nat), .slice a' n' c', .bool b]) ∧ Below w.heap.size w w' := by
  by_cases h0 : n = 0
  · subst h0
    refine (take_zero w a 0 c).mono ?_
    rintro e w' ⟨rfl, rfl⟩
    exact ⟨none, 0, 0, false, by rw [takeN_zero]; rfl, Below.refl _ _⟩
  · refine (take_yes w a n c l n hn h (by omega) (by omega) (Nat.le_refl _) (by omega)).mono ?_
    rintro e w' ⟨v, rfl, ho, hb⟩
    obtain ⟨A, L, C, ev, _⟩ := ho.bs.sl
    subst ev
    exact ⟨A, L, C, true, rfl, hb⟩
theorem takeN_lt4 (l : List UInt8) (h : l.length ≤ 4) : takeN l l.length < 4294967296 := by
  match l, h with
  | [], _ => rw [List.length_nil, takeN_zero]; omega
  | [a], h => rw [List.length_singleton, takeN_eq1 _ (by simp)]; have := bN_lt [a] 0; omega
  | [a, b], h => rw [show [a, b].length = 2 from rfl, takeN_eq2 _ (by simp)]; have := bN_lt [a, b] 0; have := bN_lt [a, b] 1; omega
  | [a, b, c], h =>
    rw [show [a, b, c].length = 3 from rfl, takeN_succ _ 2 (by simp), takeN_eq2 _ (by simp)]
    have := bN_lt [a, b, c] 0; have := bN_lt [a, b, c] 1
    have := UInt8.toNat_lt c
    simp only [List.getElem_cons_succ, List.getElem_cons_zero]
    omega
  | [a, b, c, d], h =>
    rw [show [a, b, c, d].length = 4 from rfl, takeN_succ _ 3 (by simp), takeN_succ _ 2 (by simp), takeN_eq2 _ (by simp)]
    have := bN_lt [a, b, c, d] 0; have := bN_lt [a, b, c, d] 1
    have := UInt8.toNat_lt c
    have := UInt8.toNat_lt d
    simp only [List.getElem_cons_succ, List.getElem_cons_zero]
    omega

set_option maxRecDepth 20000 in
set_option maxHeartbeats 2000000 in
theorem takes_any (r : Ru) (T : Int) (a : Option Addr) (n c : Nat) (l : List UInt8) (hn : l.length = n) (w : World) (hb : Bs w (.slice a n c) l) (hk : 1 ≤ r.kind ∧ r.kind ≤ 4) (hs : r.size = n) (h4 : n ≤ 4) :
    Calls Try.prog 42 #[.agg #[.int .i64 r.typ, .int .i64 r.size, .int .i64 r.kind, .int .i64 r.low, .int .i64 r.high, .int .i64 r.good, .bool r.must], .agg #[.int .i64 T, .slice a n c]] w fun e w' => e = .returned (.bool (takes r (num (T, l)))) ∧ Below w.heap.size w w' := by
  rw [hs]
  have HS := Lib.hid hs
  have hal : Gr w ((w.alloc (.cells #[.int .i64 r.typ, .int .i64 n, .int .i64 r.kind, .int .i64 r.low, .int .i64 r.high, .int .i64 r.good, .bool r.must] 56)).alloc (.cells #[.int .i64 T, .slice a n c] 42)) := ((Gr.refl w).alloc _).alloc _
  have HAL := Lib.hid hal
  have hg0 : ((w.alloc (.cells #[.int .i64 r.typ, .int .i64 n, .int .i64 r.kind, .int .i64 r.low, .int .i64 r.high, .int .i64 r.good, .bool r.must] 56)).alloc (.cells #[.int .i64 T, .slice a n c] 42)).heap[w.heap.size]? = some (.cells #[.int .i64 r.typ, .int .i64 n, .int .i64 r.kind, .int .i64 r.low, .int .i64 r.high, .int .i64 r.good, .bool r.must] 56) := heap2_0' _ _ _
  have HG0 := Lib.hid hg0
  obtain ⟨k0, k1, k2, k3, k4, k5, k6⟩ := cells7 hg0
  have hg1 : ((w.alloc (.cells #[.int .i64 r.typ, .int .i64 n, .int .i64 r.kind, .int .i64 r.low, .int .i64 r.high, .int .i64 r.good, .bool r.must] 56)).alloc (.cells #[.int .i64 T, .slice a n c] 42)).heap[w.heap.size + 1]? = some (.cells #[.int .i64 T, .slice a n c] 42) := heap2_1' _ _ _
  obtain ⟨j0, j1⟩ := copy_cells hg1
  have hlt : takeN l n < 4294967296 := by have := takeN_lt4 l (by omega); rwa [hn] at this
  have TK := Lib.hid (take_small ((w.alloc (.cells #[.int .i64 r.typ, .int .i64 n, .int .i64 r.kind, .int .i64 r.low, .int .i64 r.high, .int .i64 r.good, .bool r.must] 56)).alloc (.cells #[.int .i64 T, .slice a n c] 42)) a n c l hn (hb.below hal) h4)
  have HNUM : Hid (num (T, l) = (takeN l n : Int)) := by
    show num (T, l) = _
    unfold num
    rw [hn]
  obtain ⟨N, hN⟩ : ∃ N, N = takeN l n := ⟨_, rfl⟩
  rw [← hN] at TK HNUM hlt
  have HW : Hid (IntKind.i64.wrap (N : Int) = (N : Int)) := by
    show _ = _
    rw [IntKind.wrap_i64]; omega
  have HK := Lib.hid hk
  clear hal hg0 hg1 hb hn hs h4 hN hlt hk
  go_enter Try.func42, Try.ntmps42
  go_wp2_with fail
  refine TK.out.mono ?_
  rintro e w2 ⟨a', n', c', b, rfl, hb2⟩
  have HG2 := Lib.hid (heap_below HG0.out hb2)
  have HB2 : Hid (Below w.heap.size w w2) := HAL.out.trans hb2
  have HSZ := Lib.hid (show w.heap.size ≤ w2.heap.size from HB2.out.size)
  clear hb2 k0 k1 k2 k3 k4 k5 k6 j0 j1 TK HG0 HAL
  go_upto_region 2 with fail
  refine wp_region_G 8 Gr (by kernel_rfl) ?_
  -- 0: slot 17
  refine wpG_take preGr (i := 0) (v := ?_) (by kernel_rfl) (some 17) (by kernel_rfl) rfl (by kernel_rfl) (by kernel_rfl) (by kernel_rfl) (fun _ _ _ h => h) (by rfl) (fun w' hw' => ?_) rfl ?_
  rotate_left
  · obtain ⟨g0, g1, g2, g3, g4, g5, g6⟩ := cells7 (heap_gr ((Gr.drew w2).trans hw') HG2.out)
    have hw64 := HW.out
    go_simp
    with_reducible rfl
  simp only [Act.put, List.setIfInBounds_toArray, List.set_cons_zero, List.set_cons_succ]
  -- 1: slot 18
  refine wpG_take preGr (i := 1) (v := ?_) (by kernel_rfl) (some 18) (by kernel_rfl) rfl (by kernel_rfl) (by kernel_rfl) (by kernel_rfl) (fun _ _ _ h => h) (by rfl) (fun w' hw' => ?_) rfl ?_
  rotate_left
  · obtain ⟨g0, g1, g2, g3, g4, g5, g6⟩ := cells7 (heap_gr ((Gr.drew w2).trans hw') HG2.out)
    have hw64 := HW.out
    go_simp
    with_reducible rfl
  simp only [Act.put, List.setIfInBounds_toArray, List.set_cons_zero, List.set_cons_succ]
  -- 3: slot 20
  refine wpG_take preGr (i := 3) (v := ?_) (by kernel_rfl) (some 20) (by kernel_rfl) rfl (by kernel_rfl) (by kernel_rfl) (by kernel_rfl) (fun _ _ _ h => h) (by rfl) (fun w' hw' => ?_) rfl ?_
  rotate_left
  · obtain ⟨g0, g1, g2, g3, g4, g5, g6⟩ := cells7 (heap_gr ((Gr.drew w2).trans hw') HG2.out)
    have hw64 := HW.out
    go_simp
    with_reducible rfl
  simp only [Act.put, List.setIfInBounds_toArray, List.set_cons_zero, List.set_cons_succ]
  -- 4: slot 21
  refine wpG_take preGr (i := 4) (v := ?_) (by kernel_rfl) (some 21) (by kernel_rfl) rfl (by kernel_rfl) (by kernel_rfl) (by kernel_rfl) (fun _ _ _ h => h) (by rfl) (fun w' hw' => ?_) rfl ?_
  rotate_left
  · obtain ⟨g0, g1, g2, g3, g4, g5, g6⟩ := cells7 (heap_gr ((Gr.drew w2).trans hw') HG2.out)
    have hw64 := HW.out
    go_simp
    with_reducible rfl
  simp only [Act.put, List.setIfInBounds_toArray, List.set_cons_zero, List.set_cons_succ]
  -- 5: slot 22
  refine wpG_take preGr (i := 5) (v := ?_) (by kernel_rfl) (some 22) (by kernel_rfl) rfl (by kernel_rfl) (by kernel_rfl) (by kernel_rfl) (fun _ _ _ h => h) (by rfl) (fun w' hw' => ?_) rfl ?_
  rotate_left
  · obtain ⟨g0, g1, g2, g3, g4, g5, g6⟩ := cells7 (heap_gr ((Gr.drew w2).trans hw') HG2.out)
    have hw64 := HW.out
    go_simp
    with_reducible rfl
  simp only [Act.put, List.setIfInBounds_toArray, List.set_cons_zero, List.set_cons_succ]
  refine wpG_one (i := 2) rfl (by kernel_rfl) (by rfl) ?_
  go_simp
  refine (kindOf_any _ _).mono ?_
  rintro e w3 ⟨(⟨k, rfl, hk1, hk2, hk3⟩ | ⟨rfl, hno⟩), rfl⟩
  rotate_left
  · exact absurd HK.out hno
  have HK3 := Lib.hid (hk3 r N w2.drew rfl)
  rw [HS.out] at HK3
  clear hk3
  refine ⟨Gr.refl _, ?_⟩
  try simp only [Act.put, List.setIfInBounds_toArray, List.set_cons_zero, List.set_cons_succ]
  refine wpG_one (i := 6) rfl (by kernel_rfl) (by rfl) ?_
  go_simp
  refine HK3.out.mono ?_
  rintro e w3 ⟨rfl, hb3⟩
  refine ⟨hb3, ?_⟩
  have HB3 := Lib.hid (HB2.out.trans (((Gr.drew w2).trans hb3).mono HSZ.out))
  clear hb3
  try simp only [Act.put, List.setIfInBounds_toArray, List.set_cons_zero, List.set_cons_succ]
  -- 7: slot 4
  refine wpG_take preGr (i := 7) (v := ?_) (by kernel_rfl) (some 4) (by kernel_rfl) rfl (by kernel_rfl) (by kernel_rfl) (by kernel_rfl) (fun _ _ _ h => h) (by rfl) (fun w' hw' => ?_) rfl ?_
  rotate_left
  · go_simp
    with_reducible rfl
  simp only [Act.put, List.setIfInBounds_toArray, List.set_cons_zero, List.set_cons_succ]
  refine wpG_done (by kernel_rfl) ?_ _
  go_wp2
  go_ret
  exact ⟨by rw [HNUM.out]; rfl, HB3.out⟩

set_option maxRecDepth 20000 in
set_option maxHeartbeats 2000000 in
theorem good_any (r : Ru) (w : World) (hr : isR r) :
    Calls Try.prog 45 #[.agg #[.int .i64 r.typ, .int .i64 r.size, .int .i64 r.kind, .int .i64 r.low, .int .i64 r.high, .int .i64 r.good, .bool r.must]] w fun e w' => ∃ v, e = .returned (.agg #[.int .i64 r.typ, v]) ∧ OwnB w' w.heap.size 5 v (goodO r).2 ∧ Below w.heap.size w w' := by
  obtain ⟨n, hn⟩ : ∃ n : Nat, r.size = (n : Int) := ⟨r.size.toNat, by have := hr.2.2.1; omega⟩
  obtain ⟨N, hN⟩ : ∃ N : Nat, r.good = (N : Int) := ⟨r.good.toNat, by have := hr.2.2.2.2.2.2.2.2.2.1; omega⟩
  have h4 : n ≤ 4 := by have := hr.2.2.2.1; omega
  have hlt : N < 4294967296 := by
    have h1 := hr.2.2.2.2.2.2.2.2.2.2.1
    rcases lim_cases ⟨hr.2.2.1, hr.2.2.2.1⟩ with ⟨_, e⟩ | ⟨_, e⟩ | ⟨_, e⟩ | ⟨_, e⟩ | ⟨_, e⟩ <;> omega
  have e2 : (goodO r).2 = putL N n := by
    show putL r.good.toNat r.size.toNat = _
    rw [hn, hN]; rfl
  rw [e2, hn, hN]
  have hal : Gr w ((w.alloc (.cells #[.int .i64 r.typ, .int .i64 n, .int .i64 r.kind, .int .i64 r.low, .int .i64 r.high, .int .i64 N, .bool r.must] 56)).alloc (.cells #[.int .i64 0, .slice none 0 0] 42)) := ((Gr.refl w).alloc _).alloc _
  have HAL := Lib.hid hal
  have HG0 : Hid (((w.alloc (.cells #[.int .i64 r.typ, .int .i64 n, .int .i64 r.kind, .int .i64 r.low, .int .i64 r.high, .int .i64 N, .bool r.must] 56)).alloc (.cells #[.int .i64 0, .slice none 0 0] 42)).heap[w.heap.size]? = some (.cells #[.int .i64 r.typ, .int .i64 n, .int .i64 r.kind, .int .i64 r.low, .int .i64 r.high, .int .i64 N, .bool r.must] 56)) := heap2_0' _ _ _
  have HG1 : Hid (((w.alloc (.cells #[.int .i64 r.typ, .int .i64 n, .int .i64 r.kind, .int .i64 r.low, .int .i64 r.high, .int .i64 N, .bool r.must] 56)).alloc (.cells #[.int .i64 0, .slice none 0 0] 42)).heap[w.heap.size + 1]? = some (.cells #[.int .i64 0, .slice none 0 0] 42)) := heap2_1' _ _ _
  have HW : Hid (IntKind.u64.wrap (N : Int) = (N : Int)) := by
    show _ = _
    rw [IntKind.wrap_u64]; omega
  have PU : Hid (∀ w', Calls Try.prog 60 #[.int .u64 N, .int .i64 n] w' fun e w3 => ∃ v, e = .returned v ∧ OwnB w3 w'.heap.size 5 v (putL N n) ∧ Below w'.heap.size w' w3) := fun w' => put_small N n w' h4 (by omega)
  have HL : Hid ((putL N n).length = n) := by show _ = _; rw [putL_length]
  clear hal hr hn hN h4 hlt e2
  go_enter Try.func45, Try.ntmps45
  go_upto_region 1 with fail
  obtain ⟨wq, hwq⟩ : ∃ wq, wq = ((w.alloc (.cells #[.int .i64 r.typ, .int .i64 n, .int .i64 r.kind, .int .i64 r.low, .int .i64 r.high, .int .i64 N, .bool r.must] 56)).alloc (.cells #[.int .i64 0, .slice none 0 0] 42)) := ⟨_, rfl⟩
  rw [← hwq]
  rw [← hwq] at HAL HG0 HG1
  clear hwq
  refine wp_region_G 9 Gr (by kernel_rfl) ?_
  -- 0: slot 3
  refine wpG_take preGr (i := 0) (v := ?_) (by kernel_rfl) (some 3) (by kernel_rfl) rfl (by kernel_rfl) (by kernel_rfl) (by kernel_rfl) (fun _ _ _ h => h) (by rfl) (fun w' hw' => ?_) rfl ?_
  rotate_left
  · obtain ⟨g0, g1, g2, g3, g4, g5, g6⟩ := cells7 (heap_gr ((Gr.drew wq).trans hw') HG0.out)
    have hw64 := HW.out
    go_simp
    with_reducible rfl
  simp only [Act.put, List.setIfInBounds_toArray, List.set_cons_zero, List.set_cons_succ]
  -- 1: slot 4
  refine wpG_take preGr (i := 1) (v := ?_) (by kernel_rfl) (some 4) (by kernel_rfl) rfl (by kernel_rfl) (by kernel_rfl) (by kernel_rfl) (fun _ _ _ h => h) (by rfl) (fun w' hw' => ?_) rfl ?_
  rotate_left
  · obtain ⟨g0, g1, g2, g3, g4, g5, g6⟩ := cells7 (heap_gr ((Gr.drew wq).trans hw') HG0.out)
    have hw64 := HW.out
    go_simp
    with_reducible rfl
  simp only [Act.put, List.setIfInBounds_toArray, List.set_cons_zero, List.set_cons_succ]
  -- 2: slot 5
  refine wpG_take preGr (i := 2) (v := ?_) (by kernel_rfl) (some 5) (by kernel_rfl) rfl (by kernel_rfl) (by kernel_rfl) (by kernel_rfl) (fun _ _ _ h => h) (by rfl) (fun w' hw' => ?_) rfl ?_
  rotate_left
  · obtain ⟨g0, g1, g2, g3, g4, g5, g6⟩ := cells7 (heap_gr ((Gr.drew wq).trans hw') HG0.out)
    have hw64 := HW.out
    go_simp
    with_reducible rfl
  simp only [Act.put, List.setIfInBounds_toArray, List.set_cons_zero, List.set_cons_succ]
  -- 3: slot 6
  refine wpG_take preGr (i := 3) (v := ?_) (by kernel_rfl) (some 6) (by kernel_rfl) rfl (by kernel_rfl) (by kernel_rfl) (by kernel_rfl) (fun _ _ _ h => h) (by rfl) (fun w' hw' => ?_) rfl ?_
  rotate_left
  · obtain ⟨g0, g1, g2, g3, g4, g5, g6⟩ := cells7 (heap_gr ((Gr.drew wq).trans hw') HG0.out)
    have hw64 := HW.out
    go_simp
    with_reducible rfl
  simp only [Act.put, List.setIfInBounds_toArray, List.set_cons_zero, List.set_cons_succ]
  -- 4: slot 7
  refine wpG_take preGr (i := 4) (v := ?_) (by kernel_rfl) (some 7) (by kernel_rfl) rfl (by kernel_rfl) (by kernel_rfl) (by kernel_rfl) (fun _ _ _ h => h) (by rfl) (fun w' hw' => ?_) rfl ?_
  rotate_left
  · obtain ⟨g0, g1, g2, g3, g4, g5, g6⟩ := cells7 (heap_gr ((Gr.drew wq).trans hw') HG0.out)
    have hw64 := HW.out
    go_simp
    with_reducible rfl
  simp only [Act.put, List.setIfInBounds_toArray, List.set_cons_zero, List.set_cons_succ]
  -- 5: slot 8
  refine wpG_take preGr (i := 5) (v := ?_) (by kernel_rfl) (some 8) (by kernel_rfl) rfl (by kernel_rfl) (by kernel_rfl) (by kernel_rfl) (fun _ _ _ h => h) (by rfl) (fun w' hw' => ?_) rfl ?_
  rotate_left
  · obtain ⟨g0, g1, g2, g3, g4, g5, g6⟩ := cells7 (heap_gr ((Gr.drew wq).trans hw') HG0.out)
    have hw64 := HW.out
    go_simp
    with_reducible rfl
  simp only [Act.put, List.setIfInBounds_toArray, List.set_cons_zero, List.set_cons_succ]
  -- 6: slot 9
  refine wpG_take preGr (i := 6) (v := ?_) (by kernel_rfl) (some 9) (by kernel_rfl) rfl (by kernel_rfl) (by kernel_rfl) (by kernel_rfl) (fun _ _ _ h => h) (by rfl) (fun w' hw' => ?_) rfl ?_
  rotate_left
  · obtain ⟨g0, g1, g2, g3, g4, g5, g6⟩ := cells7 (heap_gr ((Gr.drew wq).trans hw') HG0.out)
    have hw64 := HW.out
    go_simp
    with_reducible rfl
  simp only [Act.put, List.setIfInBounds_toArray, List.set_cons_zero, List.set_cons_succ]
  refine wpG_one (i := 7) rfl (by kernel_rfl) (by rfl) ?_
  go_simp
  refine (PU.out _).mono ?_
  rintro e w3 ⟨v3, rfl, hown3, hb3⟩
  obtain ⟨A3, L3, C3, ev, hL3, _, _⟩ := hown3.bs.sl
  subst ev
  refine ⟨hb3, ?_⟩
  have hq3 : Gr wq w3 := (Gr.drew wq).trans hb3
  have HB3 := Lib.hid (HAL.out.trans hq3)
  have HG3 := Lib.hid (heap_gr hq3 HG1.out)
  have HO3 := Lib.hid (hown3.mono (base' := w.heap.size) (show w.heap.size ≤ wq.drew.heap.size from HAL.out.size))
  clear hown3 hb3 hq3 hL3
  try simp only [Act.put, List.setIfInBounds_toArray, List.set_cons_zero, List.set_cons_succ]
  -- 8: slot 11
  refine wpG_take preGr (i := 8) (v := ?_) (by kernel_rfl) (some 11) (by kernel_rfl) rfl (by kernel_rfl) (by kernel_rfl) (by kernel_rfl) (fun _ _ _ h => h) (by rfl) (fun w' hw' => ?_) rfl ?_
  rotate_left
  · refine Eq.trans (build_run (P := Try.prog) 42 [(0, .tmp 4), (1, .tmp 10)] ?_ #[.int .i64 r.typ, .slice A3 L3 C3] ?_) ?_
    · rfl
    · exact O.builtT r.typ A3 L3 C3
    · with_reducible rfl
  simp only [Act.put, List.setIfInBounds_toArray, List.set_cons_zero, List.set_cons_succ]
  refine wpG_tail (i := 9) (by decide) rfl (by kernel_rfl) (by rfl) ?_
  refine wp_store_whole (none) 42 (.tmp 2) (.tmp 11) rfl (w.heap.size + 1) [.int .i64 r.typ, .slice A3 L3 C3] rfl rfl 42 [.int .i64 0, .slice none 0 0] HG3.out O.sizeT rfl (O.one_tag _ rfl) rfl ?_
  intro w4 h4 ho4
  have H4 := Lib.hid h4
  have HB4 : Hid (Below w.heap.size w w4) := ho4.below _ _ (Nat.le_succ _) HB3.out
  have HO4 := Lib.hid (HO3.out.off ho4 (fun q hq e => own_ne_cell HO3.out HG3.out (by decide) (by rw [hq, e])))
  clear h4 ho4
  try simp only [Act.put, List.setIfInBounds_toArray, List.set_cons_zero, List.set_cons_succ]
  refine wpG_done (by kernel_rfl) ?_ _
  go_wp2
  refine bodyPost_ret (v := .agg #[.int .i64 r.typ, .slice A3 L3 C3]) (results_cell_row (P := Try.prog) (fn := Try.f45) rfl _ _ (w.heap.size + 1) 42 _ (0, 0) _ rfl H4.out Try.underlying42 rfl (by kernel_rfl)) rfl ?_
  exact ⟨_, rfl, HO4.out, HB4.out⟩
end Go.Proofs.Ytbldcjngccmhpaa.Ng
