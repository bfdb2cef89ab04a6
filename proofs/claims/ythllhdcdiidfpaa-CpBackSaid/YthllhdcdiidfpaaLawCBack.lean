/-
  For every protocol with its bytes, every control packet, and every two rows of bytes (the first 1600 bytes of each): what was joined is split, and what was encoded is decoded, whatever stands behind it; what was split and decoded is joined and encoded as it was; what is told is one's own (conciergelaw07.CpBack answers true). No conditions.
-/
import Derived.Test.YthllhdcdiidfpaaCpN
import Derived.Test.YthllhdcdiidfpaaCpL
import Derived.Test.YthllhdcdiidfpaaOpenQ
import Derived.Test.YthllhdcdiidfpaaFlip
import Derived.ProofKit
import Derived.OpenShut
import Derived.ChangeOld
import Derived.Deep.DeepCutAuto
namespace Go.Proofs.Ythllhdcdiidfpaa.cpBack
open Go.ChangeShapes Go.WideShapes Go.ChangeAt Go.RowKit
set_option linter.unusedVariables false
set_option linter.unusedSimpArgs false

theorem same_len {w w' : World} {A A' : Option Addr} {L L' C C' : Nat} {l : List UInt8} (h : Bs w (.slice A L C) l) (h' : Bs w' (.slice A' L' C') l) : L' = L := by
  obtain ⟨_, _, _, e1, h1, _, _⟩ := h.sl
  obtain ⟨_, _, _, e2, h2, _, _⟩ := h'.sl
  simp only [Value.slice.injEq] at e1 e2
  rw [e1.2.1, e2.2.1, ← h1, ← h2]
theorem slen_eq {w : World} {A : Option Addr} {L C : Nat} {l : List UInt8} (h : Bs w (.slice A L C) l) : l.length = L := by
  obtain ⟨_, _, _, e1, h1, _, _⟩ := h.sl
  simp only [Value.slice.injEq] at e1
  rw [e1.2.1, ← h1]

theorem heap_low {w w' : World} {B g : Nat} {o : Obj} (h : w.heap[g]? = some o) (hb : Below B w w') (hg : g < B) : w'.heap[g]? = some o := by
  rw [hb.block g hg]; exact h

set_option maxRecDepth 100000 in
set_option maxHeartbeats 8000000 in
theorem walk (W : World) (C0 : Int) (a0 : Option Addr) (n0 c0 : Nat) (l0 : List UInt8) (hn0 : l0.length = n0) (b0 : Bs W (.slice a0 n0 c0) l0) (C1 S1 : Int) (a1 : Option Addr) (n1 c1 : Nat) (l1 : List UInt8) (hn1 : l1.length = n1) (b1 : Bs W (.slice a1 n1 c1) l1)
    (a2 : Option Addr) (n2 c2 : Nat) (l2 : List UInt8) (hn2 : l2.length = n2) (b2 : Bs W (.slice a2 n2 c2) l2) (a3 : Option Addr) (n3 c3 : Nat) (l3 : List UInt8) (hn3 : l3.length = n3) (b3 : Bs W (.slice a3 n3 c3) l3) :
    Calls Try.prog 6 #[.agg #[.int .i64 C0, .slice a0 n0 c0], .agg #[.int .i64 C1, .int .i64 S1, .slice a1 n1 c1], .slice a2 n2 c2, .slice a3 n3 c3] W fun e w' => e = .returned (.bool true) ∧ Below W.heap.size W w' := by
  obtain ⟨i0, hi, hz0, hz1, hz2⟩ := info_parts info5
  obtain ⟨m0, x0, hm0, hx0, u0, hc0⟩ := cut7_in hn0 b0
  obtain ⟨m1, x1, hm1, hx1, u1, hc1⟩ := cut7_in hn1 b1
  obtain ⟨m2, x2, hm2, hx2, u2, hc2⟩ := cut7_in hn2 b2
  obtain ⟨m3, x3, hm3, hx3, u3, hc3⟩ := cut7_in hn3 b3
  have HC0 := Lib.hid hc0
  have HC1 := Lib.hid hc1
  have HC2 := Lib.hid hc2
  have HC3 := Lib.hid hc3
  have HX0 := Lib.hid hx0
  have HX1 := Lib.hid hx1
  have HX2 := Lib.hid hx2
  have HX3 := Lib.hid hx3
  have HB0 : Hid (Below W.heap.size W ((W.alloc (.cells #[.int .i64 C0, .slice a0 n0 c0] 24)).alloc (.cells #[.int .i64 C1, .int .i64 S1, .slice a1 n1 c1] 39))) := ((Below.refl _ _).alloc (Nat.le_refl _) _).alloc (by simp) _
  have HG0 : Hid (((W.alloc (.cells #[.int .i64 C0, .slice a0 n0 c0] 24)).alloc (.cells #[.int .i64 C1, .int .i64 S1, .slice a1 n1 c1] 39)).heap[W.heap.size]? = some (.cells #[.int .i64 C0, .slice a0 n0 c0] 24)) := heap2_0' _ _ _
  have HP0 : Hid (((W.alloc (.cells #[.int .i64 C0, .slice a0 n0 c0] 24)).alloc (.cells #[.int .i64 C1, .int .i64 S1, .slice a1 n1 c1] 39)).heap[W.heap.size + 1]? = some (.cells #[.int .i64 C1, .int .i64 S1, .slice a1 n1 c1] 39)) := heap2_1' _ _ _
  have HU0 := Lib.hid u0
  have HU1 := Lib.hid u1
  have HU2 := Lib.hid u2
  have HU3 := Lib.hid u3
  have AW := Lib.hid awake_any
  obtain ⟨wq, hwq⟩ : ∃ x, x = (W.alloc (.cells #[.int .i64 C0, .slice a0 n0 c0] 24)).alloc (.cells #[.int .i64 C1, .int .i64 S1, .slice a1 n1 c1] 39) := ⟨_, rfl⟩
  clear hn0 b0 u0 hc0 hx0 hn1 b1 u1 hc1 hx1 hn2 b2 u2 hc2 hx2 hn3 b3 u3 hc3 hx3
  go_enter Try.func6, Try.ntmps6
  go_wp2_with fail
  rw [← hwq] at HB0 HG0 HP0 ⊢
  clear hwq
  refine wp_region_G 11 Gr (by kernel_rfl) ?_
  -- 0: slot 28
  refine wpG_take preGr (i := 0) (v := ?_) (by kernel_rfl) (some 28) (by kernel_rfl) rfl (by kernel_rfl) (by kernel_rfl) (by kernel_rfl) (fun _ _ _ h => h) (by rfl) (fun w' hw' => ?_) rfl ?_
  rotate_left
  · try have g1 := (cells2 (heap_below HG0.out ((Gr.drew wq).trans hw'))).2
    try have g2 := (cells3 (heap_below HP0.out ((Gr.drew wq).trans hw'))).2.2
    go_simp
    with_reducible rfl
  simp only [Act.put, List.setIfInBounds_toArray, List.set_cons_zero, List.set_cons_succ]
  -- 1: slot 29
  refine wpG_take preGr (i := 1) (v := ?_) (by kernel_rfl) (some 29) (by kernel_rfl) rfl (by kernel_rfl) (by kernel_rfl) (by kernel_rfl) (fun _ _ _ h => h) (by rfl) (fun w' hw' => ?_) rfl ?_
  rotate_left
  · try have g1 := (cells2 (heap_below HG0.out ((Gr.drew wq).trans hw'))).2
    try have g2 := (cells3 (heap_below HP0.out ((Gr.drew wq).trans hw'))).2.2
    go_simp
    with_reducible rfl
  simp only [Act.put, List.setIfInBounds_toArray, List.set_cons_zero, List.set_cons_succ]
  -- 3: slot 31
  refine wpG_take preGr (i := 3) (v := ?_) (by kernel_rfl) (some 31) (by kernel_rfl) rfl (by kernel_rfl) (by kernel_rfl) (by kernel_rfl) (fun _ _ _ h => h) (by rfl) (fun w' hw' => ?_) rfl ?_
  rotate_left
  · try have g1 := (cells2 (heap_below HG0.out ((Gr.drew wq).trans hw'))).2
    try have g2 := (cells3 (heap_below HP0.out ((Gr.drew wq).trans hw'))).2.2
    go_simp
    with_reducible rfl
  simp only [Act.put, List.setIfInBounds_toArray, List.set_cons_zero, List.set_cons_succ]
  -- 4: slot 32
  refine wpG_take preGr (i := 4) (v := ?_) (by kernel_rfl) (some 32) (by kernel_rfl) rfl (by kernel_rfl) (by kernel_rfl) (by kernel_rfl) (fun _ _ _ h => h) (by rfl) (fun w' hw' => ?_) rfl ?_
  rotate_left
  · try have g1 := (cells2 (heap_below HG0.out ((Gr.drew wq).trans hw'))).2
    try have g2 := (cells3 (heap_below HP0.out ((Gr.drew wq).trans hw'))).2.2
    go_simp
    with_reducible rfl
  simp only [Act.put, List.setIfInBounds_toArray, List.set_cons_zero, List.set_cons_succ]
  -- 6: slot 34
  refine wpG_take preGr (i := 6) (v := ?_) (by kernel_rfl) (some 34) (by kernel_rfl) rfl (by kernel_rfl) (by kernel_rfl) (by kernel_rfl) (fun _ _ _ h => h) (by rfl) (fun w' hw' => ?_) rfl ?_
  rotate_left
  · try have g1 := (cells2 (heap_below HG0.out ((Gr.drew wq).trans hw'))).2
    try have g2 := (cells3 (heap_below HP0.out ((Gr.drew wq).trans hw'))).2.2
    go_simp
    with_reducible rfl
  simp only [Act.put, List.setIfInBounds_toArray, List.set_cons_zero, List.set_cons_succ]
  -- 8: slot 36
  refine wpG_take preGr (i := 8) (v := ?_) (by kernel_rfl) (some 36) (by kernel_rfl) rfl (by kernel_rfl) (by kernel_rfl) (by kernel_rfl) (fun _ _ _ h => h) (by rfl) (fun w' hw' => ?_) rfl ?_
  rotate_left
  · try have g1 := (cells2 (heap_below HG0.out ((Gr.drew wq).trans hw'))).2
    try have g2 := (cells3 (heap_below HP0.out ((Gr.drew wq).trans hw'))).2.2
    go_simp
    with_reducible rfl
  simp only [Act.put, List.setIfInBounds_toArray, List.set_cons_zero, List.set_cons_succ]
  refine wpG_one (i := 2) rfl (by kernel_rfl) (by rfl) ?_
  go_simp
  refine (HC0.out _).mono ?_
  rintro e w' ⟨rfl, rfl⟩
  refine ⟨Gr.refl _, ?_⟩
  try simp only [Act.put, List.setIfInBounds_toArray, List.set_cons_zero, List.set_cons_succ]
  -- 10: slot 38
  refine wpG_take preGr (i := 10) (v := ?_) (by kernel_rfl) (some 38) (by kernel_rfl) rfl (by kernel_rfl) (by kernel_rfl) (by kernel_rfl) (fun _ _ _ h => h) (by rfl) (fun w' hw' => ?_) rfl ?_
  rotate_left
  · try have g1 := (cells2 (heap_below HG0.out ((Gr.drew wq).trans hw'))).2
    try have g2 := (cells3 (heap_below HP0.out ((Gr.drew wq).trans hw'))).2.2
    go_simp
    with_reducible rfl
  simp only [Act.put, List.setIfInBounds_toArray, List.set_cons_zero, List.set_cons_succ]
  refine wpG_one (i := 5) rfl (by kernel_rfl) (by rfl) ?_
  go_simp
  refine (HC1.out _).mono ?_
  rintro e w' ⟨rfl, rfl⟩
  refine ⟨Gr.refl _, ?_⟩
  try simp only [Act.put, List.setIfInBounds_toArray, List.set_cons_zero, List.set_cons_succ]
  refine wpG_one (i := 7) rfl (by kernel_rfl) (by rfl) ?_
  go_simp
  refine (HC2.out _).mono ?_
  rintro e w' ⟨rfl, rfl⟩
  refine ⟨Gr.refl _, ?_⟩
  try simp only [Act.put, List.setIfInBounds_toArray, List.set_cons_zero, List.set_cons_succ]
  refine wpG_one (i := 9) rfl (by kernel_rfl) (by rfl) ?_
  go_simp
  refine (HC3.out _).mono ?_
  rintro e w' ⟨rfl, rfl⟩
  refine ⟨Gr.refl _, ?_⟩
  try simp only [Act.put, List.setIfInBounds_toArray, List.set_cons_zero, List.set_cons_succ]
  refine wpG_tail (i := 11) (by decide) rfl (by kernel_rfl) (by rfl) ?_
  refine wp_store_cell (none) 22 (.tmp 38) (.tmp 30) rfl W.heap.size 1 (.slice a0 m0 c0) rfl rfl 24 [.int .i64 C0, .slice a0 n0 c0] (show wq.drew.heap[W.heap.size]? = some (.cells #[.int .i64 C0, .slice a0 n0 c0] 24) from HG0.out) (by kernel_rfl) (by simp) rfl rfl ?_
  intro wa hga hoa
  have HGA : Hid (wa.heap[W.heap.size]? = some (.cells #[.int .i64 C0, .slice a0 m0 c0] 24 (0, 0))) := hga
  have HPA : Hid (wa.heap[W.heap.size + 1]? = some (.cells #[.int .i64 C1, .int .i64 S1, .slice a1 n1 c1] 39)) := by
    show _ = _
    rw [hoa.heap _ (Array.getElem?_eq_some_iff.1 HP0.out).1 (by omega)]; exact HP0.out
  have HBA := Lib.hid (hoa.below _ _ (Nat.le_refl _) HB0.out.drew)
  clear hga hoa
  try simp only [Act.put, List.setIfInBounds_toArray, List.set_cons_zero, List.set_cons_succ]
  refine wpG_tail (i := 12) (by decide) rfl (by kernel_rfl) (by rfl) ?_
  go_simp
  try simp only [Act.put, List.setIfInBounds_toArray, List.set_cons_zero, List.set_cons_succ]
  refine wpG_tail (i := 13) (by decide) rfl (by kernel_rfl) (by rfl) ?_
  refine wp_store_cell (none) 22 (.tmp 39) (.tmp 33) rfl (W.heap.size + 1) 2 (.slice a1 m1 c1) rfl rfl 39 [.int .i64 C1, .int .i64 S1, .slice a1 n1 c1] HPA.out (by kernel_rfl) (by simp) rfl rfl ?_
  intro w1 hg1 ho1
  have HC1' : Hid (w1.heap[W.heap.size + 1]? = some (.cells #[.int .i64 C1, .int .i64 S1, .slice a1 m1 c1] 39 (0, 0))) := hg1
  have HP1 : Hid (w1.heap[W.heap.size]? = some (.cells #[.int .i64 C0, .slice a0 m0 c0] 24 (0, 0))) := by
    show _ = _
    rw [ho1.heap _ (Array.getElem?_eq_some_iff.1 HGA.out).1 (by omega)]; exact HGA.out
  have HB1 := Lib.hid (ho1.below _ _ (Nat.le_succ _) HBA.out)
  clear hg1 ho1
  try simp only [Act.put, List.setIfInBounds_toArray, List.set_cons_zero, List.set_cons_succ]
  refine wpG_tail (i := 14) (by decide) rfl (by kernel_rfl) (by rfl) ?_
  go_simp
  try simp only [Act.put, List.setIfInBounds_toArray, List.set_cons_zero, List.set_cons_succ]
  refine wpG_tail (i := 15) (by decide) rfl (by kernel_rfl) (by rfl) ?_
  go_simp
  try simp only [Act.put, List.setIfInBounds_toArray, List.set_cons_zero, List.set_cons_succ]
  refine wpG_done (by kernel_rfl) ?_ _
  have J1 := Lib.hid (join_any C0 a0 m0 c0 x0 HX0.out w1 (HU0.out.below HB1.out) (by omega))
  obtain ⟨E, hEE⟩ : ∃ E, E = joinE ⟨C0, x0⟩ := ⟨_, rfl⟩
  have HEE := Lib.hid hEE
  rw [← hEE] at J1
  obtain ⟨k0, k1⟩ := cells2 HP1.out
  clear hEE HGA HPA HBA HG0 HP0 HB0 HC0 HC1 HC2 HC3
  go_wp2_with fail
  refine J1.out.mono ?_
  rintro e w2 ⟨v2, rfl, hown2, hb2⟩
  have HB2 := Lib.hid (HB1.out.trans (hb2.mono HB1.out.size))
  have HP2 := Lib.hid (heap_below HP1.out hb2)
  have HC2 := Lib.hid (heap_below HC1'.out hb2)
  have HO2 := Lib.hid hown2
  obtain ⟨A2, L2, C2, ev, hL2, _, _⟩ := hown2.bs.sl
  subst ev
  have HL2 := Lib.hid hL2
  clear hown2 hb2 J1 k0 k1 HP1 HC1' HB1 hL2
  go_upto_if 46 with fail
  go_cut [9, 10] (fun _ _ wx => Hid (Below W.heap.size W wx ∧ wx.heap[W.heap.size + 1]? = some (.cells #[.int .i64 C1, .int .i64 S1, .slice a1 m1 c1] 39 (0, 0))))
  case first =>
    by_cases hz : E = 0
    · have hz' : (E == 0) = true := by rw [hz]; rfl
      have hJ : joinE ⟨C0, x0⟩ = 0 := by rw [← HEE.out]; exact hz
      have HJ := Lib.hid hJ
      have hSP := split_any A2 L2 C2 _ HL2.out w2 HO2.out.bs (by
        have := HL2.out
        rw [joinB_yes hJ, wireJ_length] at this
        have h2 := HX0.out
        simp only at this
        omega)
      rw [joinB_yes hJ, splt_wire hJ] at hSP
      have SP := Lib.hid hSP
      clear hz hJ hSP
      go_wp2_with fail
      refine SP.out.mono ?_
      rintro e w3 ⟨A3, L3, C3, rfl, hown3, hb3⟩
      have hE3 : Below w3.heap.size w3 (w3.alloc (.cells #[.int .i64 C0, .slice A3 L3 C3] 24)) := (Below.refl _ _).alloc (Nat.le_refl _) _
      have hB3 := hb3.trans (hE3.mono hb3.size)
      have HB3 := Lib.hid (HB2.out.trans (hB3.mono HB2.out.size))
      have HP3 := Lib.hid (heap_below HP2.out hB3)
      have HC3 := Lib.hid (heap_below HC2.out hB3)
      have HD3 : Hid ((w3.alloc (.cells #[.int .i64 C0, .slice A3 L3 C3] 24)).heap[w3.heap.size]? = some (.cells #[.int .i64 C0, .slice A3 L3 C3] 24 (0, 0))) := heap_alloc_last _ _
      have hq := hown3.bs.below hE3
      have hq0 := HU0.out.below HB3.out
      obtain rfl := same_len hq0 hq
      have SM := Lib.hid (qsame_true C0 A3 a0 L3 C3 c0 _ _ hq hq0)
      obtain ⟨k0, k1⟩ := cells2 HP3.out
      obtain ⟨q0, q1⟩ := cells2 HD3.out
      clear hown3 hb3 hE3 hB3 hq hq0 SP
      go_wp2_with fail
      refine SM.out.mono ?_
      rintro e w4 ⟨rfl, hb4⟩
      have HB4 := Lib.hid (HB3.out.trans (hb4.mono HB3.out.size))
      have HC4 := Lib.hid (heap_below HC3.out hb4)
      clear hb4 SM k0 k1 q0 q1
      go_wp2_with fail
      go_meet
      exact ⟨HB4.out, HC4.out⟩
    · have hz' : (E == 0) = false := by rw [beq_eq_false_iff_ne]; exact hz
      go_wp2_with fail
      go_meet
      exact ⟨HB2.out, HC2.out⟩
  case rest =>
    obtain ⟨hb5, hc5⟩ := hcut
    have HB5 := Lib.hid hb5
    have HC5 := Lib.hid hc5
    have E1 := Lib.hid (cencode_any C1 S1 a1 m1 c1 x1 HX1.out wc (HU1.out.below hb5) (by omega))
    clear HEE E HB2 HP2 HC2 HO2 HL2 hb5 hc5
    obtain ⟨E, hEE⟩ : ∃ E, E = cencE ⟨C1, S1, x1⟩ := ⟨_, rfl⟩
    have HEE := Lib.hid hEE
    rw [← hEE] at E1
    obtain ⟨k0, k1, k2⟩ := cells3 HC5.out
    clear hEE
    go_wp2_with fail
    refine E1.out.mono ?_
    rintro e w6 ⟨v6, rfl, hown6, hb6⟩
    have HB6 := Lib.hid (HB5.out.trans (hb6.mono HB5.out.size))
    have HC6 := Lib.hid (heap_below HC5.out hb6)
    have HO6 := Lib.hid hown6
    obtain ⟨A6, L6, C6, ev, hL6, _, _⟩ := hown6.bs.sl
    subst ev
    have HL6 := Lib.hid hL6
    clear hown6 hb6 E1 k0 k1 k2 HC5 HB5 hL6
    go_upto_if 66 with fail
    go_cut [13, 14] (fun _ _ wx => Hid (Below W.heap.size W wx))
    case first =>
      by_cases hz : E = 0
      · have hz' : (E == 0) = true := by rw [hz]; rfl
        have hJ : cencE ⟨C1, S1, x1⟩ = 0 := by rw [← HEE.out]; exact hz
        have HJ := Lib.hid hJ
        have hl6 := HL6.out
        rw [cencB_yes hJ, wireC_length] at hl6
        simp only at hl6
        have hx1l := HX1.out
        have hL6b : L6 ≤ 1604 := by omega
        have hE7 : Below w6.heap.size w6 (w6.alloc (.cells #[] 5)) := (Below.refl _ _).alloc (Nat.le_refl _) _
        have HB7 := Lib.hid (HB6.out.trans (hE7.mono HB6.out.size))
        obtain ⟨bb, hbb⟩ : ∃ b, b = w6.heap.size := ⟨_, rfl⟩
        have ho7 := own_new w6 [] 5 0 1 rfl (Nat.zero_le _)
        have HO7 : Hid ((w6.alloc (.cells #[] 5)).ownsRow bb 5 1 (.slice (some ⟨w6.heap.size, 0, none⟩) 0 0) 0 []) := by rw [hbb]; exact ho7
        have HZ7 : Hid (bb ≤ (w6.alloc (.cells #[] 5)).heap.size) := by rw [hbb]; exact hE7.size
        have HC7 := Lib.hid (heap_below HC6.out hE7)
        have HWB : Hid (W.heap.size + 1 < bb) := by rw [hbb]; exact (Array.getElem?_eq_some_iff.1 HC6.out).1
        have HR7 : Hid (Rd (w6.alloc (.cells #[] 5)) 1 (.slice A6 L6 C6) L6 ((wireC ⟨C1, S1, x1⟩).map u8v)) := by
          have := HO6.out.bs.below hE7
          unfold Bs at this
          rw [HL6.out, cencB_yes hJ] at this
          exact this
        have HWL : Hid ((wireC ⟨C1, S1, x1⟩).length = L6) := by show _ = _; rw [← cencB_yes hJ]; exact HL6.out
        clear hz hJ hl6 hx1l hE7 hbb ho7
        go_wp2_with (at_builtin; refine wpList_append_gr _ rfl _ _ 22 rfl bb 5 i0 (.int .u8 0) 1 1 Try.underlying22 hi hz0 hz1 hz2 rfl (by decide) _ _ _ rfl HO7.out _ _ _ rfl HR7.out (oneCell_u8 _) ?q1 (by decide) HZ7.out ?_)
        case q1 => omega
        intro v8 w8 hown8 hg8
        have hb8 := grown_below HO7.out HZ7.out hg8
        have HB8 := Lib.hid (HB7.out.trans (hb8.mono (by have := HWB.out; omega)))
        have HC8 := Lib.hid (heap_low HC7.out hb8 HWB.out)
        have HZ8 := Lib.hid (Nat.le_trans HZ7.out hb8.size)
        have HO8 : Hid (w8.ownsRow bb 5 1 v8 L6 ((wireC ⟨C1, S1, x1⟩).map u8v)) := hown8
        have HR8 : Hid (Rd w8 1 (.slice a3 m3 c3) m3 (x3.map u8v)) := by
          have := HU3.out.below HB8.out
          unfold Bs at this
          rw [HX3.out] at this
          exact this
        clear hown8 hg8 hb8
        go_wp2_with (at_builtin; refine wpList_append_gr _ rfl _ _ 22 rfl bb 5 i0 (.int .u8 0) 1 1 Try.underlying22 hi hz0 hz1 hz2 rfl (by decide) _ _ _ rfl HO8.out _ _ _ rfl HR8.out (oneCell_u8 _) ?q1 (by decide) HZ8.out ?_)
        case q1 => omega
        intro v9 w9 hown9 hg9
        have hb9 := grown_below HO8.out HZ8.out hg9
        have HB9 := Lib.hid (HB8.out.trans (hb9.mono (by have := HWB.out; omega)))
        have HC9 := Lib.hid (heap_low HC8.out hb9 HWB.out)
        have hO9 : OwnB w9 bb 5 v9 (wireC ⟨C1, S1, x1⟩ ++ x3) := by
          unfold OwnB
          rw [List.length_append, HWL.out, HX3.out, List.map_append]
          simpa using hown9
        obtain ⟨A9, L9, C9, ev, hL9, _, _⟩ := hO9.bs.sl
        subst ev
        have hDC := cdecode_any A9 L9 C9 _ hL9 w9 hO9.bs (by rw [List.length_append, HWL.out, HX3.out] at hL9; omega)
        rw [cdec_wire HJ.out] at hDC
        have DC := Lib.hid hDC
        clear hown9 hg9 hb9 hO9 hL9 hDC
        go_wp2_with fail
        refine DC.out.mono ?_
        rintro e w10 ⟨A10, L10, C10, rfl, hown10, hb10⟩
        have hE10 : Below w10.heap.size w10 (w10.alloc (.cells #[.int .i64 C1, .int .i64 S1, .slice A10 L10 C10] 39)) := (Below.refl _ _).alloc (Nat.le_refl _) _
        have hB10 := hb10.trans (hE10.mono hb10.size)
        have HB10 := Lib.hid (HB9.out.trans (hB10.mono HB9.out.size))
        have HC10 := Lib.hid (heap_below HC9.out hB10)
        have HD10 : Hid ((w10.alloc (.cells #[.int .i64 C1, .int .i64 S1, .slice A10 L10 C10] 39)).heap[w10.heap.size]? = some (.cells #[.int .i64 C1, .int .i64 S1, .slice A10 L10 C10] 39 (0, 0))) := heap_alloc_last _ _
        have hq := hown10.bs.below hE10
        have hq0 := HU1.out.below HB10.out
        obtain rfl := same_len hq0 hq
        have SM := Lib.hid (csame_true C1 S1 A10 a1 L10 C10 c1 _ _ hq hq0)
        obtain ⟨k0, k1, k2⟩ := cells3 HC10.out
        obtain ⟨q0, q1, q2⟩ := cells3 HD10.out
        clear hown10 hb10 hE10 hB10 hq hq0 DC
        go_wp2_with fail
        refine SM.out.mono ?_
        rintro e w11 ⟨rfl, hb11⟩
        have HB11 := Lib.hid (HB10.out.trans (hb11.mono HB10.out.size))
        clear hb11 SM k0 k1 k2 q0 q1 q2
        go_wp2_with fail
        go_meet
        exact HB11.out
      · have hz' : (E == 0) = false := by rw [beq_eq_false_iff_ne]; exact hz
        go_wp2_with fail
        go_meet
        exact HB6.out
    case rest =>
      have HB12 := Lib.hid hcut.out
      clear HEE E HB6 HC6 HO6 HL6 hcut
      obtain ⟨r, hr⟩ : ∃ r, r = splt x2 := ⟨_, rfl⟩
      have HRR := Lib.hid hr
      have S1' := Lib.hid (split_any a2 m2 c2 x2 HX2.out wc (HU2.out.below HB12.out) (by omega))
      rw [← hr] at S1'
      have s2 := run_string_of (P := Try.prog) 22 9 5 Try.underlying22 Try.underlying5 Try.underlying9 (HU2.out.below HB12.out)
      clear hr
      go_wp2_with fail
      refine S1'.out.mono ?_
      rintro e w13 ⟨A13, L13, C13, rfl, hown13, hb13⟩
      have hE13 : Below w13.heap.size w13 (w13.alloc (.cells #[.int .i64 r.1.p, .slice A13 L13 C13] 24)) := (Below.refl _ _).alloc (Nat.le_refl _) _
      have hB13 := hb13.trans (hE13.mono hb13.size)
      have HB13 := Lib.hid (HB12.out.trans (hB13.mono HB12.out.size))
      have HD13 : Hid ((w13.alloc (.cells #[.int .i64 r.1.p, .slice A13 L13 C13] 24)).heap[w13.heap.size]? = some (.cells #[.int .i64 r.1.p, .slice A13 L13 C13] 24 (0, 0))) := heap_alloc_last _ _
      have hln := own_len hown13
      obtain ⟨gA, hgA, hgAb⟩ := pick (w := w13.alloc (.cells #[.int .i64 r.1.p, .slice A13 L13 C13] 24)) hown13 hln
      rw [World.size_alloc] at hgA
      have HGA := Lib.hid hgA
      have hgne : w13.heap.size ≠ gA := by rcases hgA with ⟨_, h⟩ | ⟨_, h⟩ <;> omega
      have HNE := Lib.hid hgne
      have HWG : Hid (W.heap.size ≤ gA) := Nat.le_trans HB12.out.size hgAb
      have HO13 := Lib.hid (hown13.below hE13)
      have HLN := Lib.hid hln
      clear hown13 hb13 hE13 hB13 hln hgA hgne hgAb S1' s2
      go_upto_if 92 with fail
      go_cut [18, 19] (fun _ _ wx => Hid (Below W.heap.size W wx))
      case first =>
        by_cases hz : r.2 = 0
        · have hz' : (r.2 == 0) = true := by rw [hz]; rfl
          obtain ⟨f1, f2⟩ := splt_again (l := x2) (by rw [← HRR.out]; exact hz)
          rw [← HRR.out] at f1 f2
          have hLb : L13 ≤ 1492 := by rw [← HLN.out]; exact (joinE_zero f1).2
          have hJN := join_any r.1.p A13 L13 C13 r.1.l HLN.out _ HO13.out.bs (by omega)
          have e1 : joinE ⟨r.1.p, r.1.l⟩ = 0 := f1
          have e2 : joinB ⟨r.1.p, r.1.l⟩ = x2 := (joinB_yes f1).trans f2
          rw [e1, e2] at hJN
          have JN := Lib.hid hJN
          obtain ⟨q0, q1⟩ := cells2 HD13.out
          clear hz f1 f2 e1 e2 hJN
          go_wp2_with fail
          refine JN.out.mono ?_
          rintro e w14 ⟨v14, rfl, hown14, hb14⟩
          obtain ⟨A14, L14, C14, ev, _, _, _⟩ := hown14.bs.sl
          subst ev
          have HB14 := Lib.hid (HB13.out.trans (hb14.mono HB13.out.size))
          have HD14 := Lib.hid (heap_below HD13.out hb14)
          have HF14 : Hid (FI w14 w14 gA wc.heap.size (.slice A13 L13 C13) L13) := ⟨Only.refl _ _, r.1.l, HLN.out, HO13.out.below hb14⟩
          have s1 := run_string_of (P := Try.prog) 22 9 5 Try.underlying22 Try.underlying5 Try.underlying9 hown14.bs
          have s2 := run_string_of (P := Try.prog) 22 9 5 Try.underlying22 Try.underlying5 Try.underlying9 (HU2.out.below HB14.out)
          clear hown14 hb14 JN q0 q1
          go_wp2
          clear s1 s2
          go_loopw [22] (fun iv wr => ∃ i : Nat, i ≤ L13 ∧ iv = .int .i64 (i : Int) ∧ Hid (FI w14 wr gA wc.heap.size (.slice A13 L13 C13) L13)) (fun iv _ => L13 - (intOf iv).toNat)
          case atStart => exact ⟨0, Nat.zero_le _, rfl, HF14⟩
          case round =>
            clear HF14
            obtain ⟨i, him, rfl, HF⟩ := hrel
            have ho : Only gA w14 wr := HF.out.1
            have rq : wr.heap[w13.heap.size]? = some (.cells #[.int .i64 r.1.p, .slice A13 L13 C13] 24 (0, 0)) := by rw [ho.heap _ (Array.getElem?_eq_some_iff.1 HD14.out).1 HNE.out]; exact HD14.out
            have d1 := (cells2 rq).2
            by_cases hlt : i < L13
            · obtain rfl : A13 = some ⟨gA, 0, none⟩ := by
                rcases HGA.out with ⟨h, _⟩ | ⟨h, _⟩
                · omega
                · exact h
              obtain ⟨⟨z, y, hu, hxy⟩, hf⟩ := FI.byte HF.out hlt
              have HNX := Lib.hid (FI.next (x := y) HF.out hlt)
              clear HF ho rq
              go_wp2
              go_roundw
              case rel => exact ⟨i + 1, by omega, by go_num, HNX⟩
              case measure => simp [intOf]; omega
            · obtain rfl : L13 = i := by omega
              have HBX := Lib.hid (ho.below _ _ HWG.out HB14.out)
              clear HF ho rq
              go_wp2_with fail
              go_meet
              exact HBX.out
        · have hz' : (r.2 == 0) = false := by rw [beq_eq_false_iff_ne]; exact hz
          go_wp2_with fail
          go_meet
          exact HB13.out
      case rest =>
        have HB15 := Lib.hid hcut.out
        clear HRR r HB13 HD13 HGA HNE HWG HO13 HLN hcut
        obtain ⟨r, hr⟩ : ∃ r, r = cdec x2 := ⟨_, rfl⟩
        have HRR := Lib.hid hr
        have S2' := Lib.hid (cdecode_any a2 m2 c2 x2 HX2.out wc (HU2.out.below HB15.out) (by omega))
        rw [← hr] at S2'
        clear hr
        go_wp2_with fail
        refine S2'.out.mono ?_
        rintro e w16 ⟨A16, L16, C16, rfl, hown16, hb16⟩
        have hE16 : Below w16.heap.size w16 (w16.alloc (.cells #[.int .i64 r.1.c, .int .i64 r.1.i, .slice A16 L16 C16] 39)) := (Below.refl _ _).alloc (Nat.le_refl _) _
        have hB16 := hb16.trans (hE16.mono hb16.size)
        have HB16 := Lib.hid (HB15.out.trans (hB16.mono HB15.out.size))
        have HD16 : Hid ((w16.alloc (.cells #[.int .i64 r.1.c, .int .i64 r.1.i, .slice A16 L16 C16] 39)).heap[w16.heap.size]? = some (.cells #[.int .i64 r.1.c, .int .i64 r.1.i, .slice A16 L16 C16] 39 (0, 0))) := heap_alloc_last _ _
        have hln := own_len hown16
        obtain ⟨gA, hgA, hgAb⟩ := pick (w := w16.alloc (.cells #[.int .i64 r.1.c, .int .i64 r.1.i, .slice A16 L16 C16] 39)) hown16 hln
        rw [World.size_alloc] at hgA
        have HGA := Lib.hid hgA
        have hgne : w16.heap.size ≠ gA := by rcases hgA with ⟨_, h⟩ | ⟨_, h⟩ <;> omega
        have HNE := Lib.hid hgne
        have HWG : Hid (W.heap.size ≤ gA) := Nat.le_trans HB15.out.size hgAb
        have HO16 := Lib.hid (hown16.below hE16)
        have HLN := Lib.hid hln
        clear hown16 hb16 hE16 hB16 hln hgA hgne hgAb S2'
        go_upto_if 127 with fail
        go_cut [23, 24] (fun _ _ wx => Hid (Below W.heap.size W wx))
        case first =>
          by_cases hz : r.2 = 0
          · have hz' : (r.2 == 0) = true := by rw [hz]; rfl
            obtain ⟨q0, q1, q2⟩ := cells3 HD16.out
            by_cases hbig : 1488 < L16
            · clear hz
              go_wp2_with fail
              refine (AW.out _).mono ?_
              rintro e w17 ⟨rfl, hb17⟩
              have HB17 := Lib.hid (HB16.out.trans (hb17.mono HB16.out.size))
              clear hb17
              go_wp2
              go_ret
              exact ⟨rfl, HB17.out⟩
            · obtain ⟨f1, rr, hy⟩ := cdec_again (l := x2) (by rw [← HRR.out]; exact hz) (by rw [← HRR.out, HLN.out]; omega)
              rw [← HRR.out] at f1 hy
              have hEN := cencode_any r.1.c r.1.i A16 L16 C16 r.1.l HLN.out _ HO16.out.bs (by omega)
              have e1 : cencE ⟨r.1.c, r.1.i, r.1.l⟩ = 0 := f1
              have e2 : cencB ⟨r.1.c, r.1.i, r.1.l⟩ = wireC r.1 := cencB_yes f1
              rw [e1, e2] at hEN
              have EN := Lib.hid hEN
              obtain ⟨N, hN⟩ : ∃ N, N = (wireC r.1).length := ⟨_, rfl⟩
              have hwl : N = 4 + L16 := by rw [hN, wireC_length, HLN.out]
              have hY : x2.take N = wireC r.1 := by rw [hN, ← hy, List.take_left']; rfl
              have hNm : N ≤ m2 := by rw [← HX2.out, ← hy, List.length_append, hN]; omega
              have HY := Lib.hid hY
              have HNN := Lib.hid hN
              clear hz f1 e1 e2 hEN hN hwl hY hy
              go_wp2_with fail
              refine EN.out.mono ?_
              rintro e w18 ⟨v18, rfl, hown18, hb18⟩
              obtain ⟨A18, L18, C18, ev, hL18, _, _⟩ := hown18.bs.sl
              obtain rfl : L18 = N := hL18.symm.trans HNN.out.symm
              subst ev
              have HB18 := Lib.hid (HB16.out.trans (hb18.mono HB16.out.size))
              have HD18 := Lib.hid (heap_below HD16.out hb18)
              have HV18 := Lib.hid hown18.bs
              have HF18 : Hid (FI w18.drew w18.drew gA wc.heap.size (.slice A16 L16 C16) L16) := ⟨Only.refl _ _, r.1.l, HLN.out, (HO16.out.below hb18).below (Gr.drew w18)⟩
              have hb2r : Rd W 1 (.slice a2 m2 c2) m2 (x2.map u8v) := by
                have := HU2.out
                unfold Bs at this
                rw [HX2.out] at this
                exact this
              obtain ⟨az, hsz, hrz⟩ := slice_upto (P := Try.prog) Try.underlying22 hi hz1 hb2r .i64 (L18 : Int) L18 rfl hNm
              rw [take_u8, HY.out] at hrz
              have HVZ : Hid (Bs W (.slice az L18 c2) (wireC r.1)) := Bs.of_rd hrz rfl
              have hle : L18 ≤ m2 := hNm
              have hlez : ((L18 : Int) ≤ (m2 : Int)) := by omega
              have hled : decide ((L18 : Int) ≤ (m2 : Int)) = true := decide_eq_true hlez
              have hlt1 : decide ((m2 : Int) < (L18 : Int)) = false := decide_eq_false (by omega)
              have hlt2 : decide (m2 < L18) = false := decide_eq_false (by omega)
              clear hown18 hb18 hL18 hb2r hrz EN q0 q1 q2 hNm
              go_wp2_with fail
              refine wp_region_G 19 Gr (by kernel_rfl) ?_
              -- 0: slot 138
              refine wpG_take preGr (i := 0) (v := ?_) (by kernel_rfl) (some 138) (by kernel_rfl) rfl (by kernel_rfl) (by kernel_rfl) (by kernel_rfl) (fun _ _ _ h => h) (by rfl) (fun w' hw' => ?_) rfl ?_
              rotate_left
              · have s1 := run_string_of (P := Try.prog) 22 9 5 Try.underlying22 Try.underlying5 Try.underlying9 (HV18.out.below ((Gr.drew w18).trans hw'))
                have s2 := run_string_of (P := Try.prog) 22 9 5 Try.underlying22 Try.underlying5 Try.underlying9 (HVZ.out.below (HB18.out.trans (((Gr.drew w18).trans hw').mono HB18.out.size)))
                go_simp
                with_reducible rfl
              simp only [Act.put, List.setIfInBounds_toArray, List.set_cons_zero, List.set_cons_succ]
              -- 1: slot 139
              refine wpG_take preGr (i := 1) (v := ?_) (by kernel_rfl) (some 139) (by kernel_rfl) rfl (by kernel_rfl) (by kernel_rfl) (by kernel_rfl) (fun _ _ _ h => h) (by rfl) (fun w' hw' => ?_) rfl ?_
              rotate_left
              · have s1 := run_string_of (P := Try.prog) 22 9 5 Try.underlying22 Try.underlying5 Try.underlying9 (HV18.out.below ((Gr.drew w18).trans hw'))
                have s2 := run_string_of (P := Try.prog) 22 9 5 Try.underlying22 Try.underlying5 Try.underlying9 (HVZ.out.below (HB18.out.trans (((Gr.drew w18).trans hw').mono HB18.out.size)))
                go_simp
                with_reducible rfl
              simp only [Act.put, List.setIfInBounds_toArray, List.set_cons_zero, List.set_cons_succ]
              -- 2: slot 140
              refine wpG_take preGr (i := 2) (v := ?_) (by kernel_rfl) (some 140) (by kernel_rfl) rfl (by kernel_rfl) (by kernel_rfl) (by kernel_rfl) (fun _ _ _ h => h) (by rfl) (fun w' hw' => ?_) rfl ?_
              rotate_left
              · have s1 := run_string_of (P := Try.prog) 22 9 5 Try.underlying22 Try.underlying5 Try.underlying9 (HV18.out.below ((Gr.drew w18).trans hw'))
                have s2 := run_string_of (P := Try.prog) 22 9 5 Try.underlying22 Try.underlying5 Try.underlying9 (HVZ.out.below (HB18.out.trans (((Gr.drew w18).trans hw').mono HB18.out.size)))
                go_simp
                with_reducible rfl
              simp only [Act.put, List.setIfInBounds_toArray, List.set_cons_zero, List.set_cons_succ]
              -- 3: slot 141
              refine wpG_take preGr (i := 3) (v := ?_) (by kernel_rfl) (some 141) (by kernel_rfl) rfl (by kernel_rfl) (by kernel_rfl) (by kernel_rfl) (fun _ _ _ h => h) (by rfl) (fun w' hw' => ?_) rfl ?_
              rotate_left
              · have s1 := run_string_of (P := Try.prog) 22 9 5 Try.underlying22 Try.underlying5 Try.underlying9 (HV18.out.below ((Gr.drew w18).trans hw'))
                have s2 := run_string_of (P := Try.prog) 22 9 5 Try.underlying22 Try.underlying5 Try.underlying9 (HVZ.out.below (HB18.out.trans (((Gr.drew w18).trans hw').mono HB18.out.size)))
                go_simp
                with_reducible rfl
              simp only [Act.put, List.setIfInBounds_toArray, List.set_cons_zero, List.set_cons_succ]
              -- 4: slot 142
              refine wpG_take preGr (i := 4) (v := ?_) (by kernel_rfl) (some 142) (by kernel_rfl) rfl (by kernel_rfl) (by kernel_rfl) (by kernel_rfl) (fun _ _ _ h => h) (by rfl) (fun w' hw' => ?_) rfl ?_
              rotate_left
              · have s1 := run_string_of (P := Try.prog) 22 9 5 Try.underlying22 Try.underlying5 Try.underlying9 (HV18.out.below ((Gr.drew w18).trans hw'))
                have s2 := run_string_of (P := Try.prog) 22 9 5 Try.underlying22 Try.underlying5 Try.underlying9 (HVZ.out.below (HB18.out.trans (((Gr.drew w18).trans hw').mono HB18.out.size)))
                go_simp
                with_reducible rfl
              simp only [Act.put, List.setIfInBounds_toArray, List.set_cons_zero, List.set_cons_succ]
              -- 5: slot 143
              refine wpG_take preGr (i := 5) (v := ?_) (by kernel_rfl) (some 143) (by kernel_rfl) rfl (by kernel_rfl) (by kernel_rfl) (by kernel_rfl) (fun _ _ _ h => h) (by rfl) (fun w' hw' => ?_) rfl ?_
              rotate_left
              · have s1 := run_string_of (P := Try.prog) 22 9 5 Try.underlying22 Try.underlying5 Try.underlying9 (HV18.out.below ((Gr.drew w18).trans hw'))
                have s2 := run_string_of (P := Try.prog) 22 9 5 Try.underlying22 Try.underlying5 Try.underlying9 (HVZ.out.below (HB18.out.trans (((Gr.drew w18).trans hw').mono HB18.out.size)))
                go_simp
                with_reducible rfl
              simp only [Act.put, List.setIfInBounds_toArray, List.set_cons_zero, List.set_cons_succ]
              -- 6: slot 144
              refine wpG_take preGr (i := 6) (v := ?_) (by kernel_rfl) (some 144) (by kernel_rfl) rfl (by kernel_rfl) (by kernel_rfl) (by kernel_rfl) (fun _ _ _ h => h) (by rfl) (fun w' hw' => ?_) rfl ?_
              rotate_left
              · have s1 := run_string_of (P := Try.prog) 22 9 5 Try.underlying22 Try.underlying5 Try.underlying9 (HV18.out.below ((Gr.drew w18).trans hw'))
                have s2 := run_string_of (P := Try.prog) 22 9 5 Try.underlying22 Try.underlying5 Try.underlying9 (HVZ.out.below (HB18.out.trans (((Gr.drew w18).trans hw').mono HB18.out.size)))
                go_simp
                with_reducible rfl
              simp only [Act.put, List.setIfInBounds_toArray, List.set_cons_zero, List.set_cons_succ]
              -- 7: slot 145
              refine wpG_take preGr (i := 7) (v := ?_) (by kernel_rfl) (some 145) (by kernel_rfl) rfl (by kernel_rfl) (by kernel_rfl) (by kernel_rfl) (fun _ _ _ h => h) (by rfl) (fun w' hw' => ?_) rfl ?_
              rotate_left
              · have s1 := run_string_of (P := Try.prog) 22 9 5 Try.underlying22 Try.underlying5 Try.underlying9 (HV18.out.below ((Gr.drew w18).trans hw'))
                have s2 := run_string_of (P := Try.prog) 22 9 5 Try.underlying22 Try.underlying5 Try.underlying9 (HVZ.out.below (HB18.out.trans (((Gr.drew w18).trans hw').mono HB18.out.size)))
                go_simp
                with_reducible rfl
              simp only [Act.put, List.setIfInBounds_toArray, List.set_cons_zero, List.set_cons_succ]
              -- 8: slot 146
              refine wpG_take preGr (i := 8) (v := ?_) (by kernel_rfl) (some 146) (by kernel_rfl) rfl (by kernel_rfl) (by kernel_rfl) (by kernel_rfl) (fun _ _ _ h => h) (by rfl) (fun w' hw' => ?_) rfl ?_
              rotate_left
              · have s1 := run_string_of (P := Try.prog) 22 9 5 Try.underlying22 Try.underlying5 Try.underlying9 (HV18.out.below ((Gr.drew w18).trans hw'))
                have s2 := run_string_of (P := Try.prog) 22 9 5 Try.underlying22 Try.underlying5 Try.underlying9 (HVZ.out.below (HB18.out.trans (((Gr.drew w18).trans hw').mono HB18.out.size)))
                go_simp
                with_reducible rfl
              simp only [Act.put, List.setIfInBounds_toArray, List.set_cons_zero, List.set_cons_succ]
              -- 9: slot 147
              refine wpG_take preGr (i := 9) (v := ?_) (by kernel_rfl) (some 147) (by kernel_rfl) rfl (by kernel_rfl) (by kernel_rfl) (by kernel_rfl) (fun _ _ _ h => h) (by rfl) (fun w' hw' => ?_) rfl ?_
              rotate_left
              · have s1 := run_string_of (P := Try.prog) 22 9 5 Try.underlying22 Try.underlying5 Try.underlying9 (HV18.out.below ((Gr.drew w18).trans hw'))
                have s2 := run_string_of (P := Try.prog) 22 9 5 Try.underlying22 Try.underlying5 Try.underlying9 (HVZ.out.below (HB18.out.trans (((Gr.drew w18).trans hw').mono HB18.out.size)))
                go_simp
                with_reducible rfl
              simp only [Act.put, List.setIfInBounds_toArray, List.set_cons_zero, List.set_cons_succ]
              -- 10: slot 148
              refine wpG_take preGr (i := 10) (v := ?_) (by kernel_rfl) (some 148) (by kernel_rfl) rfl (by kernel_rfl) (by kernel_rfl) (by kernel_rfl) (fun _ _ _ h => h) (by rfl) (fun w' hw' => ?_) rfl ?_
              rotate_left
              · have s1 := run_string_of (P := Try.prog) 22 9 5 Try.underlying22 Try.underlying5 Try.underlying9 (HV18.out.below ((Gr.drew w18).trans hw'))
                have s2 := run_string_of (P := Try.prog) 22 9 5 Try.underlying22 Try.underlying5 Try.underlying9 (HVZ.out.below (HB18.out.trans (((Gr.drew w18).trans hw').mono HB18.out.size)))
                go_simp
                with_reducible rfl
              simp only [Act.put, List.setIfInBounds_toArray, List.set_cons_zero, List.set_cons_succ]
              -- 11: slot 149
              refine wpG_take preGr (i := 11) (v := ?_) (by kernel_rfl) (some 149) (by kernel_rfl) rfl (by kernel_rfl) (by kernel_rfl) (by kernel_rfl) (fun _ _ _ h => h) (by rfl) (fun w' hw' => ?_) rfl ?_
              rotate_left
              · have s1 := run_string_of (P := Try.prog) 22 9 5 Try.underlying22 Try.underlying5 Try.underlying9 (HV18.out.below ((Gr.drew w18).trans hw'))
                have s2 := run_string_of (P := Try.prog) 22 9 5 Try.underlying22 Try.underlying5 Try.underlying9 (HVZ.out.below (HB18.out.trans (((Gr.drew w18).trans hw').mono HB18.out.size)))
                go_simp
                with_reducible rfl
              simp only [Act.put, List.setIfInBounds_toArray, List.set_cons_zero, List.set_cons_succ]
              -- 12: slot 150
              refine wpG_take preGr (i := 12) (v := ?_) (by kernel_rfl) (some 150) (by kernel_rfl) rfl (by kernel_rfl) (by kernel_rfl) (by kernel_rfl) (fun _ _ _ h => h) (by rfl) (fun w' hw' => ?_) rfl ?_
              rotate_left
              · have s1 := run_string_of (P := Try.prog) 22 9 5 Try.underlying22 Try.underlying5 Try.underlying9 (HV18.out.below ((Gr.drew w18).trans hw'))
                have s2 := run_string_of (P := Try.prog) 22 9 5 Try.underlying22 Try.underlying5 Try.underlying9 (HVZ.out.below (HB18.out.trans (((Gr.drew w18).trans hw').mono HB18.out.size)))
                go_simp
                with_reducible rfl
              simp only [Act.put, List.setIfInBounds_toArray, List.set_cons_zero, List.set_cons_succ]
              -- 13: slot 151
              refine wpG_take preGr (i := 13) (v := ?_) (by kernel_rfl) (some 151) (by kernel_rfl) rfl (by kernel_rfl) (by kernel_rfl) (by kernel_rfl) (fun _ _ _ h => h) (by rfl) (fun w' hw' => ?_) rfl ?_
              rotate_left
              · have s1 := run_string_of (P := Try.prog) 22 9 5 Try.underlying22 Try.underlying5 Try.underlying9 (HV18.out.below ((Gr.drew w18).trans hw'))
                have s2 := run_string_of (P := Try.prog) 22 9 5 Try.underlying22 Try.underlying5 Try.underlying9 (HVZ.out.below (HB18.out.trans (((Gr.drew w18).trans hw').mono HB18.out.size)))
                go_simp
                with_reducible rfl
              simp only [Act.put, List.setIfInBounds_toArray, List.set_cons_zero, List.set_cons_succ]
              -- 14: slot 152
              refine wpG_take preGr (i := 14) (v := ?_) (by kernel_rfl) (some 152) (by kernel_rfl) rfl (by kernel_rfl) (by kernel_rfl) (by kernel_rfl) (fun _ _ _ h => h) (by rfl) (fun w' hw' => ?_) rfl ?_
              rotate_left
              · have s1 := run_string_of (P := Try.prog) 22 9 5 Try.underlying22 Try.underlying5 Try.underlying9 (HV18.out.below ((Gr.drew w18).trans hw'))
                have s2 := run_string_of (P := Try.prog) 22 9 5 Try.underlying22 Try.underlying5 Try.underlying9 (HVZ.out.below (HB18.out.trans (((Gr.drew w18).trans hw').mono HB18.out.size)))
                go_simp
                with_reducible rfl
              simp only [Act.put, List.setIfInBounds_toArray, List.set_cons_zero, List.set_cons_succ]
              -- 15: slot 153
              refine wpG_take preGr (i := 15) (v := ?_) (by kernel_rfl) (some 153) (by kernel_rfl) rfl (by kernel_rfl) (by kernel_rfl) (by kernel_rfl) (fun _ _ _ h => h) (by rfl) (fun w' hw' => ?_) rfl ?_
              rotate_left
              · have s1 := run_string_of (P := Try.prog) 22 9 5 Try.underlying22 Try.underlying5 Try.underlying9 (HV18.out.below ((Gr.drew w18).trans hw'))
                have s2 := run_string_of (P := Try.prog) 22 9 5 Try.underlying22 Try.underlying5 Try.underlying9 (HVZ.out.below (HB18.out.trans (((Gr.drew w18).trans hw').mono HB18.out.size)))
                go_simp
                with_reducible rfl
              simp only [Act.put, List.setIfInBounds_toArray, List.set_cons_zero, List.set_cons_succ]
              -- 16: slot 154
              refine wpG_take preGr (i := 16) (v := ?_) (by kernel_rfl) (some 154) (by kernel_rfl) rfl (by kernel_rfl) (by kernel_rfl) (by kernel_rfl) (fun _ _ _ h => h) (by rfl) (fun w' hw' => ?_) rfl ?_
              rotate_left
              · have s1 := run_string_of (P := Try.prog) 22 9 5 Try.underlying22 Try.underlying5 Try.underlying9 (HV18.out.below ((Gr.drew w18).trans hw'))
                have s2 := run_string_of (P := Try.prog) 22 9 5 Try.underlying22 Try.underlying5 Try.underlying9 (HVZ.out.below (HB18.out.trans (((Gr.drew w18).trans hw').mono HB18.out.size)))
                go_simp
                with_reducible rfl
              simp only [Act.put, List.setIfInBounds_toArray, List.set_cons_zero, List.set_cons_succ]
              -- 17: slot 155
              refine wpG_take preGr (i := 17) (v := ?_) (by kernel_rfl) (some 155) (by kernel_rfl) rfl (by kernel_rfl) (by kernel_rfl) (by kernel_rfl) (fun _ _ _ h => h) (by rfl) (fun w' hw' => ?_) rfl ?_
              rotate_left
              · have s1 := run_string_of (P := Try.prog) 22 9 5 Try.underlying22 Try.underlying5 Try.underlying9 (HV18.out.below ((Gr.drew w18).trans hw'))
                have s2 := run_string_of (P := Try.prog) 22 9 5 Try.underlying22 Try.underlying5 Try.underlying9 (HVZ.out.below (HB18.out.trans (((Gr.drew w18).trans hw').mono HB18.out.size)))
                go_simp
                with_reducible rfl
              simp only [Act.put, List.setIfInBounds_toArray, List.set_cons_zero, List.set_cons_succ]
              -- 18: slot 156
              refine wpG_take preGr (i := 18) (v := ?_) (by kernel_rfl) (some 156) (by kernel_rfl) rfl (by kernel_rfl) (by kernel_rfl) (by kernel_rfl) (fun _ _ _ h => h) (by rfl) (fun w' hw' => ?_) rfl ?_
              rotate_left
              · have s1 := run_string_of (P := Try.prog) 22 9 5 Try.underlying22 Try.underlying5 Try.underlying9 (HV18.out.below ((Gr.drew w18).trans hw'))
                have s2 := run_string_of (P := Try.prog) 22 9 5 Try.underlying22 Try.underlying5 Try.underlying9 (HVZ.out.below (HB18.out.trans (((Gr.drew w18).trans hw').mono HB18.out.size)))
                go_simp
                with_reducible rfl
              simp only [Act.put, List.setIfInBounds_toArray, List.set_cons_zero, List.set_cons_succ]
              refine wpG_done (by kernel_rfl) ?_ _
              have HB19 := Lib.hid HB18.out.drew
              have HD19 : Hid (w18.drew.heap[w16.heap.size]? = some (.cells #[.int .i64 r.1.c, .int .i64 r.1.i, .slice A16 L16 C16] 39 (0, 0))) := HD18.out
              clear hsz hle hlez hled hlt1 hlt2 HB18 HD18 HV18 HVZ
              generalize w18.drew = w19 at HF18 HB19 HD19 ⊢
              go_wp2
              go_loopw [27] (fun iv wr => ∃ i : Nat, i ≤ L16 ∧ iv = .int .i64 (i : Int) ∧ Hid (FI w19 wr gA wc.heap.size (.slice A16 L16 C16) L16)) (fun iv _ => L16 - (intOf iv).toNat)
              case atStart => exact ⟨0, Nat.zero_le _, rfl, HF18⟩
              case round =>
                clear HF18
                obtain ⟨i, him, rfl, HF⟩ := hrel
                have ho : Only gA w19 wr := HF.out.1
                have rq : wr.heap[w16.heap.size]? = some (.cells #[.int .i64 r.1.c, .int .i64 r.1.i, .slice A16 L16 C16] 39 (0, 0)) := by rw [ho.heap _ (Array.getElem?_eq_some_iff.1 HD19.out).1 HNE.out]; exact HD19.out
                have d2 := (cells3 rq).2.2
                by_cases hlt : i < L16
                · obtain rfl : A16 = some ⟨gA, 0, none⟩ := by
                    rcases HGA.out with ⟨h, _⟩ | ⟨h, _⟩
                    · omega
                    · exact h
                  obtain ⟨⟨z, y, hu, hxy⟩, hf⟩ := FI.byte HF.out hlt
                  have HNX := Lib.hid (FI.next (x := y) HF.out hlt)
                  clear HF ho rq
                  go_wp2
                  go_roundw
                  case rel => exact ⟨i + 1, by omega, by go_num, HNX⟩
                  case measure => simp [intOf]; omega
                · obtain rfl : L16 = i := by omega
                  have HBX := Lib.hid (ho.below _ _ HWG.out HB19.out)
                  clear HF ho rq
                  go_wp2_with fail
                  go_meet
                  exact HBX.out
          · have hz' : (r.2 == 0) = false := by rw [beq_eq_false_iff_ne]; exact hz
            go_wp2_with fail
            go_meet
            exact HB16.out
        case rest =>
          have HB20 := Lib.hid hcut.out
          clear HRR r HB16 HD16 HGA HNE HWG HO16 HLN hcut
          have s2 := run_string_of (P := Try.prog) 22 9 5 Try.underlying22 Try.underlying5 Try.underlying9 (HU2.out.below HB20.out)
          go_wp2_with fail
          refine (AW.out _).mono ?_
          rintro e w21 ⟨rfl, hb21⟩
          have HB21 := Lib.hid (HB20.out.trans (hb21.mono HB20.out.size))
          clear hb21 s2
          go_wp2
          go_ret
          exact ⟨by simp, HB21.out⟩

theorem own : ownKnob Try.prog.godebug = none := by kernel_rfl
theorem laidOut : laidOutB Try.prog = true := by kernel_rfl
set_option maxRecDepth 100000 in
theorem lifted (os : Os) (started : os.Started) (H : Type) (enc : TypeId × Value → H) :
    ReturnsInHanded {} Try.checked os 6 .any (Rows.cpBackSpec.pre6 enc Try.prog Try.f6 Rows.cpBackRow.domain false) (Rows.cpBackSpec.post enc Try.prog Try.f6 false true false false) := by
  refine returnsInHanded_of_change (C := Try.checked) own started (by kernel_rfl) Try.func6
    (ChangeSpec.witness6 (enc := enc) (C := Try.checked) false ⟨#[], #[.agg #[.int .i64 0, .slice none 0 0], .agg #[.int .i64 0, .int .i64 0, .slice none 0 0], .slice none 0 0, .slice none 0 0], []⟩ 8 (by kernel_rfl) (by kernel_rfl) (by kernel_rfl) (by kernel_rfl)) ?_
  intro W base args ds gs before hval0 hW hcnd _
  have hval : ∀ (j : Nat) t v, Try.f6.params[j]? = some t → args[j]? = some v → Value.okWide Try.prog W .any base t v := hval0
  have hW' := hW
  obtain ⟨p, q, hA0, hV, rfl, hfz, hnd⟩ := hW
  have hA : DataW.TrodAll enc Try.prog W 0 (fun _ => true) true Try.f6.params.toList args.toList ds p := hA0
  rw [Try.params6] at hA hval
  obtain ⟨v0, vs0, d0, ds0, p0, q0, hargs, rfl, rfl, h0, r0⟩ := trodAll_cons hA
  obtain ⟨v1, vs1, d1, ds1, p1, q1, rfl, rfl, rfl, h1, r1⟩ := trodAll_cons r0
  obtain ⟨v2, vs2, d2, ds2, p2, q2, rfl, rfl, rfl, h2, r2⟩ := trodAll_cons r1
  obtain ⟨v3, vs3, d3, ds3, p3, q3, rfl, rfl, rfl, h3, r3⟩ := trodAll_cons r2
  obtain ⟨rfl, rfl, rfl⟩ := trodAll_nil r3
  obtain rfl : args = #[v0, v1, v2, v3] := by cases args; simp_all
  obtain ⟨rfl, rfl⟩ := trodVars_none hV
  have k0 := h0
  have lt0 : ∀ x ∈ p0, x.block < W.heap.size := by obtain ⟨m, hm⟩ := k0; exact DataW.trod_lt m _ _ _ hm
  obtain ⟨C0, a0, n0, c0, l0, rfl, hn0, b0⟩ := open_ppp Try.underlying24 ⟨rfl, rfl⟩ Try.underlying3 Try.underlying22 Try.underlying5 ⟨by kernel_rfl, by kernel_rfl, by kernel_rfl, by kernel_rfl⟩ (hval 0 24 v0 rfl rfl) h0
  have k1 := h1
  have lt1 : ∀ x ∈ p1, x.block < W.heap.size := by obtain ⟨m, hm⟩ := k1; exact DataW.trod_lt m _ _ _ hm
  obtain ⟨C1, S1, a1, n1, c1, l1, rfl, hn1, b1⟩ := open_ctl Try.underlying39 ⟨rfl, rfl, rfl⟩ Try.underlying3 Try.underlying3 Try.underlying22 Try.underlying5 ⟨by kernel_rfl, by kernel_rfl, by kernel_rfl, by kernel_rfl, by kernel_rfl⟩ (hval 1 39 v1 rfl rfl) h1
  have k2 := h2
  have lt2 : ∀ x ∈ p2, x.block < W.heap.size := by obtain ⟨m, hm⟩ := k2; exact DataW.trod_lt m _ _ _ hm
  obtain ⟨a2, n2, c2, l2, rfl, hn2, b2⟩ := open_bytes Try.underlying22 Try.underlying5 (by kernel_rfl) (hval 2 22 v2 rfl rfl) h2
  have k3 := h3
  have lt3 : ∀ x ∈ p3, x.block < W.heap.size := by obtain ⟨m, hm⟩ := k3; exact DataW.trod_lt m _ _ _ hm
  obtain ⟨a3, n3, c3, l3, rfl, hn3, b3⟩ := open_bytes Try.underlying22 Try.underlying5 (by kernel_rfl) (hval 3 22 v3 rfl rfl) h3
  clear hA0 hval0
  refine (walk W C0 a0 n0 c0 l0 hn0 b0 C1 S1 a1 n1 c1 l1 hn1 b1 a2 n2 c2 l2 hn2 b2 a3 n3 c3 l3 hn3 b3).mono fun e W' ⟨he, bel⟩ => ?_
  subst he
  exact ⟨_, rfl, _, _, _, [], _, [], hW', trodAll_mk1 (shut_bool Try.underlying4 _), (trodAll_cons_mk (Below.trod laidOut (by kernel_rfl) (of_decide_eq_true (by kernel_rfl)) k0 bel lt0) (trodAll_cons_mk (Below.trod laidOut (by kernel_rfl) (of_decide_eq_true (by kernel_rfl)) k1 bel lt1) (trodAll_cons_mk (Below.trod laidOut (by kernel_rfl) (of_decide_eq_true (by kernel_rfl)) k2 bel lt2) (trodAll_cons_mk (Below.trod laidOut (by kernel_rfl) (of_decide_eq_true (by kernel_rfl)) k3 bel lt3) trodAll_mk0)))), rfl, bel.frame _, fun h => by cases h⟩
theorem over : Rows.cpBackRow.holds Try.pinned (OpenSpec.ofChange Rows.cpBackSpec) :=
  OpenClaim.holds_of_wide 6 Try.f6 rfl rfl rfl rfl rfl rfl rfl ⟨rfl, rfl, rfl, rfl, rfl⟩ rfl rfl rfl rfl rfl (by kernel_rfl) Try.func6 (by kernel_rfl)
    (of_decide_eq_true (by kernel_rfl)) (by unfold Func.isWrapper; first | (rw [if_pos (by decide +kernel)]; kernel_rfl) | (rw [if_neg (by decide +kernel)]; exact ⟨rfl, rfl⟩))
    (fun os started H enc _ => lifted os started H enc)
/-- The statement. -/
theorem proved : Rows.CpBackSaid := over
end Go.Proofs.Ythllhdcdiidfpaa.cpBack
