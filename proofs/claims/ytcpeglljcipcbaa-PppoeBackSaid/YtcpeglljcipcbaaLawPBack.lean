/-
  For every packet, bytes behind it and row of bytes (the first 1600 of each) what pppoe.Encode tells is decoded to the packet, whatever stands behind it; what is decoded, encoded, stands at the beginning of what it was decoded of (conciergelaw06.PppoeBack answers true). No conditions.
-/
import Derived.Test.YtcpeglljcipcbaaPpS
import Derived.Test.YtcpeglljcipcbaaPpC
import Derived.Test.YtcpeglljcipcbaaPpN
import Derived.Test.YtcpeglljcipcbaaOpenP
import Derived.ProofKit
import Derived.OpenShut
import Derived.ChangeOld
namespace Go.Proofs.Ytcpeglljcipcbaa.pppoeBack
open Go.ChangeShapes Go.WideShapes Go.ChangeAt Go.RowKit
set_option linter.unusedVariables false
set_option linter.unusedSimpArgs false

set_option maxRecDepth 20000 in
set_option maxHeartbeats 8000000 in
theorem walk (W : World) (C0 S0 : Int) (a0 : Option Addr) (n0 c0 : Nat) (l0 : List UInt8) (hn0 : l0.length = n0) (b0 : Bs W (.slice a0 n0 c0) l0) (a1 : Option Addr) (n1 c1 : Nat) (l1 : List UInt8) (hn1 : l1.length = n1) (b1 : Bs W (.slice a1 n1 c1) l1) (a2 : Option Addr) (n2 c2 : Nat) (l2 : List UInt8) (hn2 : l2.length = n2) (b2 : Bs W (.slice a2 n2 c2) l2) :
    Calls Try.prog 6 #[.agg #[.int .i64 C0, .int .i64 S0, .slice a0 n0 c0], .slice a1 n1 c1, .slice a2 n2 c2] W fun e w' => e = .returned (.bool true) ∧ Below W.heap.size W w' := by
  obtain ⟨i0, hi, hz0, hz1, hz2⟩ := info_parts info5
  obtain ⟨m0, x0, hm0, hx0, u0, hc0⟩ := cut6_in hn0 b0
  obtain ⟨m1, x1, hm1, hx1, u1, hc1⟩ := cut6_in hn1 b1
  obtain ⟨m2, x2, hm2, hx2, u2, hc2⟩ := cut6_in hn2 b2
  have HC0 := Lib.hid hc0
  have HC1 := Lib.hid hc1
  have HC2 := Lib.hid hc2
  have HX0 := Lib.hid hx0
  have HX1 := Lib.hid hx1
  have HX2 := Lib.hid hx2
  have HB1 : Hid (Below W.heap.size W (W.alloc (.cells #[.int .i64 C0, .int .i64 S0, .slice a0 m0 c0] 24))) := (Below.refl _ _).alloc (Nat.le_refl _) _
  have HG1 : Hid ((W.alloc (.cells #[.int .i64 C0, .int .i64 S0, .slice a0 m0 c0] 24)).heap[W.heap.size]? = some (.cells #[.int .i64 C0, .int .i64 S0, .slice a0 m0 c0] 24)) := heap_alloc_last _ _
  have HU0 := Lib.hid u0
  have HU1 := Lib.hid u1
  have HU2 := Lib.hid u2
  have AW := Lib.hid awake_any
  clear hn0 b0 u0 hc0 hx0 hn1 b1 u1 hc1 hx1 hn2 b2 u2 hc2 hx2
  go_enter Try.func6, Try.ntmps6
  go_wp2_with fail
  refine (HC0.out _).mono ?_
  rintro e w' ⟨rfl, rfl⟩
  go_wp2_with fail
  refine (HC1.out _).mono ?_
  rintro e w' ⟨rfl, rfl⟩
  go_wp2_with fail
  refine (HC2.out _).mono ?_
  rintro e w' ⟨rfl, rfl⟩
  go_wp2_with fail
  refine (pencode_any C0 S0 a0 m0 c0 x0 HX0.out _ (HU0.out.below HB1.out) (by omega)).mono ?_
  rintro e w2 ⟨v2, rfl, hown2, hb2⟩
  obtain ⟨k, hk⟩ : ∃ k, k = pencE ⟨C0, S0, x0⟩ := ⟨_, rfl⟩
  rw [← hk]
  have HKK := Lib.hid hk
  have HB2 := Lib.hid (HB1.out.trans (hb2.mono HB1.out.size))
  have HG2 := Lib.hid (heap_below HG1.out hb2)
  have HV2 := Lib.hid hown2.bs
  obtain ⟨A2, L2, C2, ev, hL2, _, _⟩ := hown2.bs.sl
  subst ev
  have HL2 := Lib.hid hL2
  clear hown2 hb2 hk hL2
  go_wp2_with fail
  refine (AW.out w2).mono ?_
  rintro e w3 ⟨rfl, hb3⟩
  have HB3 := Lib.hid (HB2.out.trans (hb3.mono HB2.out.size))
  have HG3 := Lib.hid (heap_below HG2.out hb3)
  have HV3 := Lib.hid (HV2.out.below hb3)
  clear hb3 HV2 HG2 HB2 HG1
  have hs3 : W.heap.size ≤ w3.heap.size := HB3.out.size
  by_cases hk0 : k = 0
  · have HPB : Hid (pencB ⟨C0, S0, x0⟩ = wireP ⟨C0, S0, x0⟩) := pencB_yes (by rw [← HKK.out]; exact hk0)
    have HPW : Hid (pdec (wireP ⟨C0, S0, x0⟩ ++ x1) = (⟨C0, S0, x0⟩, 0)) := pdec_wire (by rw [← HKK.out]; exact hk0) x1
    have hL : L2 = 6 + m0 := by rw [← HL2.out, HPB.out, wireP_length]; show 6 + x0.length = _; rw [HX0.out]
    have HV3' : Hid (Rd w3 1 (.slice A2 L2 C2) L2 ((wireP ⟨C0, S0, x0⟩).map u8v)) := by
      have h1 := HV3.out
      have h2 := HL2.out
      rw [HPB.out] at h1 h2
      unfold Bs at h1
      rw [h2] at h1
      exact h1
    have HLW : Hid ((wireP ⟨C0, S0, x0⟩).length = L2) := by have h2 := HL2.out; rw [HPB.out] at h2; exact h2
    have hLb : L2 ≤ 1606 := by omega
    clear hL
    subst hk0
    have hEA : Below w3.heap.size w3 (w3.alloc (.cells #[] 5)) := (Below.refl _ _).alloc (Nat.le_refl _) _
    have HBA := Lib.hid (HB3.out.trans (hEA.mono HB3.out.size))
    have HGA := Lib.hid (heap_below HG3.out hEA)
    have HRA := Lib.hid (HV3'.out.below hEA)
    have HOA : Hid ((w3.alloc (.cells #[] 5)).ownsRow W.heap.size 5 1 (.slice (some ⟨w3.heap.size, 0, none⟩) 0 0) 0 []) := ownsRow_mono (own_new w3 [] 5 0 1 rfl (Nat.zero_le _)) hs3
    clear hEA
    go_wp2_with (at_builtin; refine wpList_append_gr _ rfl (.tmp 33) (.tmp 34) 22 rfl W.heap.size 5 i0 (.int .u8 0) 1 1 Try.underlying22 hi hz0 hz1 hz2 rfl (by decide) _ _ _ rfl HOA.out _ _ _ rfl HRA.out (oneCell_u8 _) (by omega) (by decide) HBA.out.size ?_)
    intro v4 w4 ho4 hg4
    have HB4 := Lib.hid (HBA.out.trans (grown_below HOA.out HBA.out.size hg4))
    have HG4 := Lib.hid (grown_heap HOA.out hg4 HGA.out (by decide))
    have HO4 : Hid (w4.ownsRow W.heap.size 5 1 v4 L2 ((wireP ⟨C0, S0, x0⟩).map u8v)) := by
      show World.ownsRow _ _ _ _ _ _ _
      simpa using ho4
    have HR4 : Hid (Rd w4 1 (.slice a1 m1 c1) m1 (x1.map u8v)) := by
      have := HU1.out.below HB4.out
      unfold Bs at this
      rw [HX1.out] at this
      exact this
    clear ho4 hg4
    go_wp2_with (at_builtin; refine wpList_append_gr _ rfl (.tmp 35) (.tmp 36) 22 rfl W.heap.size 5 i0 (.int .u8 0) 1 1 Try.underlying22 hi hz0 hz1 hz2 rfl (by decide) _ _ _ rfl HO4.out _ _ _ rfl HR4.out (oneCell_u8 _) (by omega) (by decide) HB4.out.size ?_)
    intro v5 w5 ho5 hg5
    have HB5 := Lib.hid (HB4.out.trans (grown_below HO4.out HB4.out.size hg5))
    have HG5 := Lib.hid (grown_heap HO4.out hg5 HG4.out (by decide))
    have ho6 : OwnB w5 W.heap.size 5 v5 (wireP ⟨C0, S0, x0⟩ ++ x1) := OwnB.of_app ho5 HLW.out HX1.out
    obtain ⟨A5, L5, C5, ev, hL5, _, _⟩ := ho6.bs.sl
    subst ev
    have hL5' : L5 = L2 + m1 := by rw [← hL5, List.length_append, HLW.out, HX1.out]
    have D1 := Lib.hid (pdecode_any A5 L5 C5 _ hL5 w5 ho6.bs (by omega))
    rw [HPW.out] at D1
    clear ho5 hg5 ho6 hL5 hL5'
    go_wp2_with fail
    refine D1.out.mono ?_
    rintro e w6 ⟨A6, L6, C6, rfl, hown6, hb6⟩
    have hE6 : Below w6.heap.size w6 (w6.alloc (.cells #[.int .i64 C0, .int .i64 S0, .slice A6 L6 C6] 24)) := (Below.refl _ _).alloc (Nat.le_refl _) _
    have hB6 := hb6.trans (hE6.mono hb6.size)
    have HB6 := Lib.hid (HB5.out.trans (hB6.mono HB5.out.size))
    have HG6 := Lib.hid (heap_below HG5.out hB6)
    have HGN : Hid ((w6.alloc (.cells #[.int .i64 C0, .int .i64 S0, .slice A6 L6 C6] 24)).heap[w6.heap.size]? = some (.cells #[.int .i64 C0, .int .i64 S0, .slice A6 L6 C6] 24 (0, 0))) := heap_alloc_last _ _
    have hq6 : Bs _ (.slice A6 L6 C6) x0 := hown6.bs.below hE6
    have hu6 : Bs _ (.slice a0 m0 c0) x0 := HU0.out.below HB6.out
    obtain rfl : L6 = m0 := by
      obtain ⟨_, _, _, e1, h1, _, _⟩ := hq6.sl
      simp only [Value.slice.injEq] at e1
      rw [e1.2.1, ← h1, HX0.out]
    have SM := Lib.hid (psame_true C0 S0 a0 A6 L6 c0 C6 x0 _ hu6 hq6)
    obtain ⟨p0, p1, p2⟩ := cells3 HG6.out
    obtain ⟨q0, q1, q2⟩ := cells3 HGN.out
    clear hown6 hb6 hE6 hB6 hq6 hu6 D1
    go_wp2_with fail
    refine SM.out.mono ?_
    rintro e wx ⟨rfl, hbx⟩
    have HBX := Lib.hid (HB6.out.trans (hbx.mono HB6.out.size))
    clear hbx SM p0 p1 p2 q0 q1 q2 HGN HG6 HB6 HB5 HG5 HB4 HG4 HO4 HR4 HBA HGA HRA HOA HG3 HV3 HV3' HB3 hs3
    obtain ⟨r, hr⟩ : ∃ r, r = pdec x2 := ⟨_, rfl⟩
    have HRR := Lib.hid hr
    have D2 := Lib.hid (pdecode_any a2 m2 c2 x2 HX2.out wx (HU2.out.below HBX.out) (by omega))
    rw [← hr] at D2
    clear hr
    go_wp2_with fail
    refine D2.out.mono ?_
    rintro e w8 ⟨A8, L8, C8, rfl, hown8, hb8⟩
    have hE8 : Below w8.heap.size w8 (w8.alloc (.cells #[.int .i64 r.1.c, .int .i64 r.1.s, .slice A8 L8 C8] 24)) := (Below.refl _ _).alloc (Nat.le_refl _) _
    have hB8 := hb8.trans (hE8.mono hb8.size)
    have HB8 := Lib.hid (HBX.out.trans (hB8.mono HBX.out.size))
    have HG8 : Hid ((w8.alloc (.cells #[.int .i64 r.1.c, .int .i64 r.1.s, .slice A8 L8 C8] 24)).heap[w8.heap.size]? = some (.cells #[.int .i64 r.1.c, .int .i64 r.1.s, .slice A8 L8 C8] 24 (0, 0))) := heap_alloc_last _ _
    have HQ8 := Lib.hid (hown8.bs.below hE8)
    clear hown8 hb8 hE8 hB8 D2
    obtain ⟨t0, t1, t2⟩ := cells3 HG8.out
    by_cases h0 : r.2 = 0
    · have HA := Lib.hid (pdec_again (l := x2) (by rw [← HRR.out]; exact h0))
      rw [← HRR.out] at HA
      obtain ⟨he, y, hy⟩ := HA.out
      have HE := Lib.hid he
      have hlq : r.1.l.length = L8 := by
        obtain ⟨_, _, _, e1, h1, _, _⟩ := HQ8.out.sl
        simp only [Value.slice.injEq] at e1
        rw [e1.2.1, h1]
      have hx2l := congrArg List.length hy
      rw [List.length_append, wireP_length, HX2.out, hlq] at hx2l
      have EN := Lib.hid (pencode_any r.1.c r.1.s A8 L8 C8 r.1.l hlq _ HQ8.out (by omega))
      have hh0 : (r.2 != 0) = false := by rw [h0]; rfl
      have HWL : Hid ((wireP r.1).length = 6 + L8) := by show _ = _; rw [wireP_length, hlq]
      have hY : x2.take (6 + L8) = wireP r.1 := by rw [← hy, ← HWL.out, List.take_left']; rfl
      have HY := Lib.hid hY
      clear he hy hlq hY h0
      go_wp2_with fail
      refine EN.out.mono ?_
      rintro e w9 ⟨v9, rfl, hown9, hb9⟩
      have hown9 : OwnB w9 _ 5 v9 (pencB r.1) := hown9
      rw [pencB_yes HE.out] at hown9
      rw [show pencE { c := r.1.c, s := r.1.s, l := r.1.l } = 0 from HE.out]
      obtain ⟨A9, L9, C9, ev, hL9, _, _⟩ := hown9.bs.sl
      rw [HWL.out] at hL9
      obtain rfl : L9 = 6 + L8 := hL9.symm
      subst ev
      have HB9 := Lib.hid (HB8.out.trans (hb9.mono HB8.out.size))
      have HV9 := Lib.hid hown9.bs
      obtain ⟨N9, hN9⟩ : ∃ N9, N9 = 6 + L8 := ⟨_, rfl⟩
      rw [← hN9] at HV9 HY
      rw [← hN9]
      have hb2r : Rd W 1 (.slice a2 m2 c2) m2 (x2.map u8v) := by
        have := HU2.out
        unfold Bs at this
        rw [HX2.out] at this
        exact this
      obtain ⟨az, hsz, hrz⟩ := slice_upto (P := Try.prog) Try.underlying22 hi hz1 hb2r .i64 (N9 : Int) N9 rfl (by omega)
      rw [take_u8, HY.out] at hrz
      have HVZ : Hid (Bs W (.slice az N9 c2) (wireP r.1)) := Bs.of_rd hrz rfl
      have hle : N9 ≤ m2 := by omega
      have hlez : ((N9 : Int) ≤ (m2 : Int)) := by omega
      have hled : decide ((N9 : Int) ≤ (m2 : Int)) = true := decide_eq_true hlez
      clear hown9 hb9 hL9 hN9 hb2r hrz EN t0 t1 t2 hx2l
      go_wp2_with fail
      refine wp_region_G 20 Gr (by kernel_rfl) ?_
      -- 0: slot 64
      refine wpG_take preGr (i := 0) (v := ?_) (by kernel_rfl) (some 64) (by kernel_rfl) rfl (by kernel_rfl) (by kernel_rfl) (by kernel_rfl) (fun _ _ _ h => h) (by rfl) (fun w' hw' => ?_) rfl ?_
      rotate_left
      · have s1 := run_string_of (P := Try.prog) 22 9 5 Try.underlying22 Try.underlying5 Try.underlying9 (HV9.out.below ((Gr.drew w9).trans hw'))
        have s2 := run_string_of (P := Try.prog) 22 9 5 Try.underlying22 Try.underlying5 Try.underlying9 (HVZ.out.below (HB9.out.trans (((Gr.drew w9).trans hw').mono HB9.out.size)))
        go_simp
        with_reducible rfl
      simp only [Act.put, List.setIfInBounds_toArray, List.set_cons_zero, List.set_cons_succ]
      -- 1: slot 65
      refine wpG_take preGr (i := 1) (v := ?_) (by kernel_rfl) (some 65) (by kernel_rfl) rfl (by kernel_rfl) (by kernel_rfl) (by kernel_rfl) (fun _ _ _ h => h) (by rfl) (fun w' hw' => ?_) rfl ?_
      rotate_left
      · have s1 := run_string_of (P := Try.prog) 22 9 5 Try.underlying22 Try.underlying5 Try.underlying9 (HV9.out.below ((Gr.drew w9).trans hw'))
        have s2 := run_string_of (P := Try.prog) 22 9 5 Try.underlying22 Try.underlying5 Try.underlying9 (HVZ.out.below (HB9.out.trans (((Gr.drew w9).trans hw').mono HB9.out.size)))
        go_simp
        with_reducible rfl
      simp only [Act.put, List.setIfInBounds_toArray, List.set_cons_zero, List.set_cons_succ]
      -- 2: slot 66
      refine wpG_take preGr (i := 2) (v := ?_) (by kernel_rfl) (some 66) (by kernel_rfl) rfl (by kernel_rfl) (by kernel_rfl) (by kernel_rfl) (fun _ _ _ h => h) (by rfl) (fun w' hw' => ?_) rfl ?_
      rotate_left
      · have s1 := run_string_of (P := Try.prog) 22 9 5 Try.underlying22 Try.underlying5 Try.underlying9 (HV9.out.below ((Gr.drew w9).trans hw'))
        have s2 := run_string_of (P := Try.prog) 22 9 5 Try.underlying22 Try.underlying5 Try.underlying9 (HVZ.out.below (HB9.out.trans (((Gr.drew w9).trans hw').mono HB9.out.size)))
        go_simp
        with_reducible rfl
      simp only [Act.put, List.setIfInBounds_toArray, List.set_cons_zero, List.set_cons_succ]
      -- 3: slot 67
      refine wpG_take preGr (i := 3) (v := ?_) (by kernel_rfl) (some 67) (by kernel_rfl) rfl (by kernel_rfl) (by kernel_rfl) (by kernel_rfl) (fun _ _ _ h => h) (by rfl) (fun w' hw' => ?_) rfl ?_
      rotate_left
      · have s1 := run_string_of (P := Try.prog) 22 9 5 Try.underlying22 Try.underlying5 Try.underlying9 (HV9.out.below ((Gr.drew w9).trans hw'))
        have s2 := run_string_of (P := Try.prog) 22 9 5 Try.underlying22 Try.underlying5 Try.underlying9 (HVZ.out.below (HB9.out.trans (((Gr.drew w9).trans hw').mono HB9.out.size)))
        go_simp
        with_reducible rfl
      simp only [Act.put, List.setIfInBounds_toArray, List.set_cons_zero, List.set_cons_succ]
      -- 4: slot 68
      refine wpG_take preGr (i := 4) (v := ?_) (by kernel_rfl) (some 68) (by kernel_rfl) rfl (by kernel_rfl) (by kernel_rfl) (by kernel_rfl) (fun _ _ _ h => h) (by rfl) (fun w' hw' => ?_) rfl ?_
      rotate_left
      · have s1 := run_string_of (P := Try.prog) 22 9 5 Try.underlying22 Try.underlying5 Try.underlying9 (HV9.out.below ((Gr.drew w9).trans hw'))
        have s2 := run_string_of (P := Try.prog) 22 9 5 Try.underlying22 Try.underlying5 Try.underlying9 (HVZ.out.below (HB9.out.trans (((Gr.drew w9).trans hw').mono HB9.out.size)))
        go_simp
        with_reducible rfl
      simp only [Act.put, List.setIfInBounds_toArray, List.set_cons_zero, List.set_cons_succ]
      -- 5: slot 69
      refine wpG_take preGr (i := 5) (v := ?_) (by kernel_rfl) (some 69) (by kernel_rfl) rfl (by kernel_rfl) (by kernel_rfl) (by kernel_rfl) (fun _ _ _ h => h) (by rfl) (fun w' hw' => ?_) rfl ?_
      rotate_left
      · have s1 := run_string_of (P := Try.prog) 22 9 5 Try.underlying22 Try.underlying5 Try.underlying9 (HV9.out.below ((Gr.drew w9).trans hw'))
        have s2 := run_string_of (P := Try.prog) 22 9 5 Try.underlying22 Try.underlying5 Try.underlying9 (HVZ.out.below (HB9.out.trans (((Gr.drew w9).trans hw').mono HB9.out.size)))
        go_simp
        with_reducible rfl
      simp only [Act.put, List.setIfInBounds_toArray, List.set_cons_zero, List.set_cons_succ]
      -- 6: slot 70
      refine wpG_take preGr (i := 6) (v := ?_) (by kernel_rfl) (some 70) (by kernel_rfl) rfl (by kernel_rfl) (by kernel_rfl) (by kernel_rfl) (fun _ _ _ h => h) (by rfl) (fun w' hw' => ?_) rfl ?_
      rotate_left
      · have s1 := run_string_of (P := Try.prog) 22 9 5 Try.underlying22 Try.underlying5 Try.underlying9 (HV9.out.below ((Gr.drew w9).trans hw'))
        have s2 := run_string_of (P := Try.prog) 22 9 5 Try.underlying22 Try.underlying5 Try.underlying9 (HVZ.out.below (HB9.out.trans (((Gr.drew w9).trans hw').mono HB9.out.size)))
        go_simp
        with_reducible rfl
      simp only [Act.put, List.setIfInBounds_toArray, List.set_cons_zero, List.set_cons_succ]
      -- 7: slot 71
      refine wpG_take preGr (i := 7) (v := ?_) (by kernel_rfl) (some 71) (by kernel_rfl) rfl (by kernel_rfl) (by kernel_rfl) (by kernel_rfl) (fun _ _ _ h => h) (by rfl) (fun w' hw' => ?_) rfl ?_
      rotate_left
      · have s1 := run_string_of (P := Try.prog) 22 9 5 Try.underlying22 Try.underlying5 Try.underlying9 (HV9.out.below ((Gr.drew w9).trans hw'))
        have s2 := run_string_of (P := Try.prog) 22 9 5 Try.underlying22 Try.underlying5 Try.underlying9 (HVZ.out.below (HB9.out.trans (((Gr.drew w9).trans hw').mono HB9.out.size)))
        go_simp
        with_reducible rfl
      simp only [Act.put, List.setIfInBounds_toArray, List.set_cons_zero, List.set_cons_succ]
      -- 8: slot 72
      refine wpG_take preGr (i := 8) (v := ?_) (by kernel_rfl) (some 72) (by kernel_rfl) rfl (by kernel_rfl) (by kernel_rfl) (by kernel_rfl) (fun _ _ _ h => h) (by rfl) (fun w' hw' => ?_) rfl ?_
      rotate_left
      · have s1 := run_string_of (P := Try.prog) 22 9 5 Try.underlying22 Try.underlying5 Try.underlying9 (HV9.out.below ((Gr.drew w9).trans hw'))
        have s2 := run_string_of (P := Try.prog) 22 9 5 Try.underlying22 Try.underlying5 Try.underlying9 (HVZ.out.below (HB9.out.trans (((Gr.drew w9).trans hw').mono HB9.out.size)))
        go_simp
        with_reducible rfl
      simp only [Act.put, List.setIfInBounds_toArray, List.set_cons_zero, List.set_cons_succ]
      -- 9: slot 73
      refine wpG_take preGr (i := 9) (v := ?_) (by kernel_rfl) (some 73) (by kernel_rfl) rfl (by kernel_rfl) (by kernel_rfl) (by kernel_rfl) (fun _ _ _ h => h) (by rfl) (fun w' hw' => ?_) rfl ?_
      rotate_left
      · have s1 := run_string_of (P := Try.prog) 22 9 5 Try.underlying22 Try.underlying5 Try.underlying9 (HV9.out.below ((Gr.drew w9).trans hw'))
        have s2 := run_string_of (P := Try.prog) 22 9 5 Try.underlying22 Try.underlying5 Try.underlying9 (HVZ.out.below (HB9.out.trans (((Gr.drew w9).trans hw').mono HB9.out.size)))
        go_simp
        with_reducible rfl
      simp only [Act.put, List.setIfInBounds_toArray, List.set_cons_zero, List.set_cons_succ]
      -- 10: slot 74
      refine wpG_take preGr (i := 10) (v := ?_) (by kernel_rfl) (some 74) (by kernel_rfl) rfl (by kernel_rfl) (by kernel_rfl) (by kernel_rfl) (fun _ _ _ h => h) (by rfl) (fun w' hw' => ?_) rfl ?_
      rotate_left
      · have s1 := run_string_of (P := Try.prog) 22 9 5 Try.underlying22 Try.underlying5 Try.underlying9 (HV9.out.below ((Gr.drew w9).trans hw'))
        have s2 := run_string_of (P := Try.prog) 22 9 5 Try.underlying22 Try.underlying5 Try.underlying9 (HVZ.out.below (HB9.out.trans (((Gr.drew w9).trans hw').mono HB9.out.size)))
        go_simp
        with_reducible rfl
      simp only [Act.put, List.setIfInBounds_toArray, List.set_cons_zero, List.set_cons_succ]
      -- 11: slot 75
      refine wpG_take preGr (i := 11) (v := ?_) (by kernel_rfl) (some 75) (by kernel_rfl) rfl (by kernel_rfl) (by kernel_rfl) (by kernel_rfl) (fun _ _ _ h => h) (by rfl) (fun w' hw' => ?_) rfl ?_
      rotate_left
      · have s1 := run_string_of (P := Try.prog) 22 9 5 Try.underlying22 Try.underlying5 Try.underlying9 (HV9.out.below ((Gr.drew w9).trans hw'))
        have s2 := run_string_of (P := Try.prog) 22 9 5 Try.underlying22 Try.underlying5 Try.underlying9 (HVZ.out.below (HB9.out.trans (((Gr.drew w9).trans hw').mono HB9.out.size)))
        go_simp
        with_reducible rfl
      simp only [Act.put, List.setIfInBounds_toArray, List.set_cons_zero, List.set_cons_succ]
      -- 12: slot 76
      refine wpG_take preGr (i := 12) (v := ?_) (by kernel_rfl) (some 76) (by kernel_rfl) rfl (by kernel_rfl) (by kernel_rfl) (by kernel_rfl) (fun _ _ _ h => h) (by rfl) (fun w' hw' => ?_) rfl ?_
      rotate_left
      · have s1 := run_string_of (P := Try.prog) 22 9 5 Try.underlying22 Try.underlying5 Try.underlying9 (HV9.out.below ((Gr.drew w9).trans hw'))
        have s2 := run_string_of (P := Try.prog) 22 9 5 Try.underlying22 Try.underlying5 Try.underlying9 (HVZ.out.below (HB9.out.trans (((Gr.drew w9).trans hw').mono HB9.out.size)))
        go_simp
        with_reducible rfl
      simp only [Act.put, List.setIfInBounds_toArray, List.set_cons_zero, List.set_cons_succ]
      -- 13: slot 77
      refine wpG_take preGr (i := 13) (v := ?_) (by kernel_rfl) (some 77) (by kernel_rfl) rfl (by kernel_rfl) (by kernel_rfl) (by kernel_rfl) (fun _ _ _ h => h) (by rfl) (fun w' hw' => ?_) rfl ?_
      rotate_left
      · have s1 := run_string_of (P := Try.prog) 22 9 5 Try.underlying22 Try.underlying5 Try.underlying9 (HV9.out.below ((Gr.drew w9).trans hw'))
        have s2 := run_string_of (P := Try.prog) 22 9 5 Try.underlying22 Try.underlying5 Try.underlying9 (HVZ.out.below (HB9.out.trans (((Gr.drew w9).trans hw').mono HB9.out.size)))
        go_simp
        with_reducible rfl
      simp only [Act.put, List.setIfInBounds_toArray, List.set_cons_zero, List.set_cons_succ]
      -- 14: slot 78
      refine wpG_take preGr (i := 14) (v := ?_) (by kernel_rfl) (some 78) (by kernel_rfl) rfl (by kernel_rfl) (by kernel_rfl) (by kernel_rfl) (fun _ _ _ h => h) (by rfl) (fun w' hw' => ?_) rfl ?_
      rotate_left
      · have s1 := run_string_of (P := Try.prog) 22 9 5 Try.underlying22 Try.underlying5 Try.underlying9 (HV9.out.below ((Gr.drew w9).trans hw'))
        have s2 := run_string_of (P := Try.prog) 22 9 5 Try.underlying22 Try.underlying5 Try.underlying9 (HVZ.out.below (HB9.out.trans (((Gr.drew w9).trans hw').mono HB9.out.size)))
        go_simp
        with_reducible rfl
      simp only [Act.put, List.setIfInBounds_toArray, List.set_cons_zero, List.set_cons_succ]
      -- 15: slot 79
      refine wpG_take preGr (i := 15) (v := ?_) (by kernel_rfl) (some 79) (by kernel_rfl) rfl (by kernel_rfl) (by kernel_rfl) (by kernel_rfl) (fun _ _ _ h => h) (by rfl) (fun w' hw' => ?_) rfl ?_
      rotate_left
      · have s1 := run_string_of (P := Try.prog) 22 9 5 Try.underlying22 Try.underlying5 Try.underlying9 (HV9.out.below ((Gr.drew w9).trans hw'))
        have s2 := run_string_of (P := Try.prog) 22 9 5 Try.underlying22 Try.underlying5 Try.underlying9 (HVZ.out.below (HB9.out.trans (((Gr.drew w9).trans hw').mono HB9.out.size)))
        go_simp
        with_reducible rfl
      simp only [Act.put, List.setIfInBounds_toArray, List.set_cons_zero, List.set_cons_succ]
      -- 16: slot 80
      refine wpG_take preGr (i := 16) (v := ?_) (by kernel_rfl) (some 80) (by kernel_rfl) rfl (by kernel_rfl) (by kernel_rfl) (by kernel_rfl) (fun _ _ _ h => h) (by rfl) (fun w' hw' => ?_) rfl ?_
      rotate_left
      · have s1 := run_string_of (P := Try.prog) 22 9 5 Try.underlying22 Try.underlying5 Try.underlying9 (HV9.out.below ((Gr.drew w9).trans hw'))
        have s2 := run_string_of (P := Try.prog) 22 9 5 Try.underlying22 Try.underlying5 Try.underlying9 (HVZ.out.below (HB9.out.trans (((Gr.drew w9).trans hw').mono HB9.out.size)))
        go_simp
        with_reducible rfl
      simp only [Act.put, List.setIfInBounds_toArray, List.set_cons_zero, List.set_cons_succ]
      -- 17: slot 81
      refine wpG_take preGr (i := 17) (v := ?_) (by kernel_rfl) (some 81) (by kernel_rfl) rfl (by kernel_rfl) (by kernel_rfl) (by kernel_rfl) (fun _ _ _ h => h) (by rfl) (fun w' hw' => ?_) rfl ?_
      rotate_left
      · have s1 := run_string_of (P := Try.prog) 22 9 5 Try.underlying22 Try.underlying5 Try.underlying9 (HV9.out.below ((Gr.drew w9).trans hw'))
        have s2 := run_string_of (P := Try.prog) 22 9 5 Try.underlying22 Try.underlying5 Try.underlying9 (HVZ.out.below (HB9.out.trans (((Gr.drew w9).trans hw').mono HB9.out.size)))
        go_simp
        with_reducible rfl
      simp only [Act.put, List.setIfInBounds_toArray, List.set_cons_zero, List.set_cons_succ]
      -- 18: slot 82
      refine wpG_take preGr (i := 18) (v := ?_) (by kernel_rfl) (some 82) (by kernel_rfl) rfl (by kernel_rfl) (by kernel_rfl) (by kernel_rfl) (fun _ _ _ h => h) (by rfl) (fun w' hw' => ?_) rfl ?_
      rotate_left
      · have s1 := run_string_of (P := Try.prog) 22 9 5 Try.underlying22 Try.underlying5 Try.underlying9 (HV9.out.below ((Gr.drew w9).trans hw'))
        have s2 := run_string_of (P := Try.prog) 22 9 5 Try.underlying22 Try.underlying5 Try.underlying9 (HVZ.out.below (HB9.out.trans (((Gr.drew w9).trans hw').mono HB9.out.size)))
        go_simp
        with_reducible rfl
      simp only [Act.put, List.setIfInBounds_toArray, List.set_cons_zero, List.set_cons_succ]
      -- 19: slot 6
      refine wpG_take preGr (i := 19) (v := ?_) (by kernel_rfl) (some 6) (by kernel_rfl) rfl (by kernel_rfl) (by kernel_rfl) (by kernel_rfl) (fun _ _ _ h => h) (by rfl) (fun w' hw' => ?_) rfl ?_
      rotate_left
      · have s1 := run_string_of (P := Try.prog) 22 9 5 Try.underlying22 Try.underlying5 Try.underlying9 (HV9.out.below ((Gr.drew w9).trans hw'))
        have s2 := run_string_of (P := Try.prog) 22 9 5 Try.underlying22 Try.underlying5 Try.underlying9 (HVZ.out.below (HB9.out.trans (((Gr.drew w9).trans hw').mono HB9.out.size)))
        go_simp
        with_reducible rfl
      simp only [Act.put, List.setIfInBounds_toArray, List.set_cons_zero, List.set_cons_succ]
      refine wpG_done (by kernel_rfl) ?_ _
      go_wp2
      go_ret
      exact ⟨by simp, HB9.out.drew⟩
    · have HZ : Hid (r.1 = PP.zero) := by show _ = _; rw [HRR.out]; exact pdec_err (by rw [← HRR.out]; exact h0)
      have hq8 := HQ8.out
      have hzc : r.1.c = 0 := by rw [HZ.out]; rfl
      have hzs : r.1.s = 0 := by rw [HZ.out]; rfl
      have hzl : r.1.l = [] := by rw [HZ.out]; rfl
      have hb8' := HB8.out
      rw [hzc, hzs] at hq8 hb8'
      rw [hzl] at hq8
      simp only [hzc, hzs] at t0 t1 t2
      rw [hzc, hzs]
      have HB8' := Lib.hid hb8'
      obtain rfl : L8 = 0 := by
        obtain ⟨_, _, _, e1, h1, _, _⟩ := hq8.sl
        simp only [Value.slice.injEq] at e1
        rw [e1.2.1, ← h1]; rfl
      have SM := Lib.hid (psame_true 0 0 A8 none 0 C8 0 [] _ hq8 (Bs.nil _))
      have hh0 : (r.2 != 0) = true := by rw [bne_iff_ne]; exact h0
      clear hq8 hzc hzs hzl hb8' h0
      go_wp2_with fail
      refine SM.out.mono ?_
      rintro e w9 ⟨rfl, hb9⟩
      have HB9 := Lib.hid (HB8'.out.trans (hb9.mono HB8'.out.size))
      clear hb9
      go_wp2
      go_ret
      exact ⟨rfl, HB9.out⟩
  · obtain ⟨wx, hwx⟩ : ∃ wx, wx = w3 := ⟨_, rfl⟩
    have HBX : Hid (Below W.heap.size W wx) := by rw [hwx]; exact HB3.out
    rw [← hwx]
    have hkb : (k == 0) = false := by rw [beq_eq_false_iff_ne]; exact hk0
    clear hwx HB3 HG3 HV3 hs3
    obtain ⟨r, hr⟩ : ∃ r, r = pdec x2 := ⟨_, rfl⟩
    have HRR := Lib.hid hr
    have D2 := Lib.hid (pdecode_any a2 m2 c2 x2 HX2.out wx (HU2.out.below HBX.out) (by omega))
    rw [← hr] at D2
    clear hr
    go_wp2_with fail
    refine D2.out.mono ?_
    rintro e w8 ⟨A8, L8, C8, rfl, hown8, hb8⟩
    have hE8 : Below w8.heap.size w8 (w8.alloc (.cells #[.int .i64 r.1.c, .int .i64 r.1.s, .slice A8 L8 C8] 24)) := (Below.refl _ _).alloc (Nat.le_refl _) _
    have hB8 := hb8.trans (hE8.mono hb8.size)
    have HB8 := Lib.hid (HBX.out.trans (hB8.mono HBX.out.size))
    have HG8 : Hid ((w8.alloc (.cells #[.int .i64 r.1.c, .int .i64 r.1.s, .slice A8 L8 C8] 24)).heap[w8.heap.size]? = some (.cells #[.int .i64 r.1.c, .int .i64 r.1.s, .slice A8 L8 C8] 24 (0, 0))) := heap_alloc_last _ _
    have HQ8 := Lib.hid (hown8.bs.below hE8)
    clear hown8 hb8 hE8 hB8 D2
    obtain ⟨t0, t1, t2⟩ := cells3 HG8.out
    by_cases h0 : r.2 = 0
    · have HA := Lib.hid (pdec_again (l := x2) (by rw [← HRR.out]; exact h0))
      rw [← HRR.out] at HA
      obtain ⟨he, y, hy⟩ := HA.out
      have HE := Lib.hid he
      have hlq : r.1.l.length = L8 := by
        obtain ⟨_, _, _, e1, h1, _, _⟩ := HQ8.out.sl
        simp only [Value.slice.injEq] at e1
        rw [e1.2.1, h1]
      have hx2l := congrArg List.length hy
      rw [List.length_append, wireP_length, HX2.out, hlq] at hx2l
      have EN := Lib.hid (pencode_any r.1.c r.1.s A8 L8 C8 r.1.l hlq _ HQ8.out (by omega))
      have hh0 : (r.2 != 0) = false := by rw [h0]; rfl
      have HWL : Hid ((wireP r.1).length = 6 + L8) := by show _ = _; rw [wireP_length, hlq]
      have hY : x2.take (6 + L8) = wireP r.1 := by rw [← hy, ← HWL.out, List.take_left']; rfl
      have HY := Lib.hid hY
      clear he hy hlq hY h0
      go_wp2_with fail
      refine EN.out.mono ?_
      rintro e w9 ⟨v9, rfl, hown9, hb9⟩
      have hown9 : OwnB w9 _ 5 v9 (pencB r.1) := hown9
      rw [pencB_yes HE.out] at hown9
      rw [show pencE { c := r.1.c, s := r.1.s, l := r.1.l } = 0 from HE.out]
      obtain ⟨A9, L9, C9, ev, hL9, _, _⟩ := hown9.bs.sl
      rw [HWL.out] at hL9
      obtain rfl : L9 = 6 + L8 := hL9.symm
      subst ev
      have HB9 := Lib.hid (HB8.out.trans (hb9.mono HB8.out.size))
      have HV9 := Lib.hid hown9.bs
      obtain ⟨N9, hN9⟩ : ∃ N9, N9 = 6 + L8 := ⟨_, rfl⟩
      rw [← hN9] at HV9 HY
      rw [← hN9]
      have hb2r : Rd W 1 (.slice a2 m2 c2) m2 (x2.map u8v) := by
        have := HU2.out
        unfold Bs at this
        rw [HX2.out] at this
        exact this
      obtain ⟨az, hsz, hrz⟩ := slice_upto (P := Try.prog) Try.underlying22 hi hz1 hb2r .i64 (N9 : Int) N9 rfl (by omega)
      rw [take_u8, HY.out] at hrz
      have HVZ : Hid (Bs W (.slice az N9 c2) (wireP r.1)) := Bs.of_rd hrz rfl
      have hle : N9 ≤ m2 := by omega
      have hlez : ((N9 : Int) ≤ (m2 : Int)) := by omega
      have hled : decide ((N9 : Int) ≤ (m2 : Int)) = true := decide_eq_true hlez
      clear hown9 hb9 hL9 hN9 hb2r hrz EN t0 t1 t2 hx2l
      go_wp2_with fail
      refine wp_region_G 20 Gr (by kernel_rfl) ?_
      -- 0: slot 64
      refine wpG_take preGr (i := 0) (v := ?_) (by kernel_rfl) (some 64) (by kernel_rfl) rfl (by kernel_rfl) (by kernel_rfl) (by kernel_rfl) (fun _ _ _ h => h) (by rfl) (fun w' hw' => ?_) rfl ?_
      rotate_left
      · have s1 := run_string_of (P := Try.prog) 22 9 5 Try.underlying22 Try.underlying5 Try.underlying9 (HV9.out.below ((Gr.drew w9).trans hw'))
        have s2 := run_string_of (P := Try.prog) 22 9 5 Try.underlying22 Try.underlying5 Try.underlying9 (HVZ.out.below (HB9.out.trans (((Gr.drew w9).trans hw').mono HB9.out.size)))
        go_simp
        with_reducible rfl
      simp only [Act.put, List.setIfInBounds_toArray, List.set_cons_zero, List.set_cons_succ]
      -- 1: slot 65
      refine wpG_take preGr (i := 1) (v := ?_) (by kernel_rfl) (some 65) (by kernel_rfl) rfl (by kernel_rfl) (by kernel_rfl) (by kernel_rfl) (fun _ _ _ h => h) (by rfl) (fun w' hw' => ?_) rfl ?_
      rotate_left
      · have s1 := run_string_of (P := Try.prog) 22 9 5 Try.underlying22 Try.underlying5 Try.underlying9 (HV9.out.below ((Gr.drew w9).trans hw'))
        have s2 := run_string_of (P := Try.prog) 22 9 5 Try.underlying22 Try.underlying5 Try.underlying9 (HVZ.out.below (HB9.out.trans (((Gr.drew w9).trans hw').mono HB9.out.size)))
        go_simp
        with_reducible rfl
      simp only [Act.put, List.setIfInBounds_toArray, List.set_cons_zero, List.set_cons_succ]
      -- 2: slot 66
      refine wpG_take preGr (i := 2) (v := ?_) (by kernel_rfl) (some 66) (by kernel_rfl) rfl (by kernel_rfl) (by kernel_rfl) (by kernel_rfl) (fun _ _ _ h => h) (by rfl) (fun w' hw' => ?_) rfl ?_
      rotate_left
      · have s1 := run_string_of (P := Try.prog) 22 9 5 Try.underlying22 Try.underlying5 Try.underlying9 (HV9.out.below ((Gr.drew w9).trans hw'))
        have s2 := run_string_of (P := Try.prog) 22 9 5 Try.underlying22 Try.underlying5 Try.underlying9 (HVZ.out.below (HB9.out.trans (((Gr.drew w9).trans hw').mono HB9.out.size)))
        go_simp
        with_reducible rfl
      simp only [Act.put, List.setIfInBounds_toArray, List.set_cons_zero, List.set_cons_succ]
      -- 3: slot 67
      refine wpG_take preGr (i := 3) (v := ?_) (by kernel_rfl) (some 67) (by kernel_rfl) rfl (by kernel_rfl) (by kernel_rfl) (by kernel_rfl) (fun _ _ _ h => h) (by rfl) (fun w' hw' => ?_) rfl ?_
      rotate_left
      · have s1 := run_string_of (P := Try.prog) 22 9 5 Try.underlying22 Try.underlying5 Try.underlying9 (HV9.out.below ((Gr.drew w9).trans hw'))
        have s2 := run_string_of (P := Try.prog) 22 9 5 Try.underlying22 Try.underlying5 Try.underlying9 (HVZ.out.below (HB9.out.trans (((Gr.drew w9).trans hw').mono HB9.out.size)))
        go_simp
        with_reducible rfl
      simp only [Act.put, List.setIfInBounds_toArray, List.set_cons_zero, List.set_cons_succ]
      -- 4: slot 68
      refine wpG_take preGr (i := 4) (v := ?_) (by kernel_rfl) (some 68) (by kernel_rfl) rfl (by kernel_rfl) (by kernel_rfl) (by kernel_rfl) (fun _ _ _ h => h) (by rfl) (fun w' hw' => ?_) rfl ?_
      rotate_left
      · have s1 := run_string_of (P := Try.prog) 22 9 5 Try.underlying22 Try.underlying5 Try.underlying9 (HV9.out.below ((Gr.drew w9).trans hw'))
        have s2 := run_string_of (P := Try.prog) 22 9 5 Try.underlying22 Try.underlying5 Try.underlying9 (HVZ.out.below (HB9.out.trans (((Gr.drew w9).trans hw').mono HB9.out.size)))
        go_simp
        with_reducible rfl
      simp only [Act.put, List.setIfInBounds_toArray, List.set_cons_zero, List.set_cons_succ]
      -- 5: slot 69
      refine wpG_take preGr (i := 5) (v := ?_) (by kernel_rfl) (some 69) (by kernel_rfl) rfl (by kernel_rfl) (by kernel_rfl) (by kernel_rfl) (fun _ _ _ h => h) (by rfl) (fun w' hw' => ?_) rfl ?_
      rotate_left
      · have s1 := run_string_of (P := Try.prog) 22 9 5 Try.underlying22 Try.underlying5 Try.underlying9 (HV9.out.below ((Gr.drew w9).trans hw'))
        have s2 := run_string_of (P := Try.prog) 22 9 5 Try.underlying22 Try.underlying5 Try.underlying9 (HVZ.out.below (HB9.out.trans (((Gr.drew w9).trans hw').mono HB9.out.size)))
        go_simp
        with_reducible rfl
      simp only [Act.put, List.setIfInBounds_toArray, List.set_cons_zero, List.set_cons_succ]
      -- 6: slot 70
      refine wpG_take preGr (i := 6) (v := ?_) (by kernel_rfl) (some 70) (by kernel_rfl) rfl (by kernel_rfl) (by kernel_rfl) (by kernel_rfl) (fun _ _ _ h => h) (by rfl) (fun w' hw' => ?_) rfl ?_
      rotate_left
      · have s1 := run_string_of (P := Try.prog) 22 9 5 Try.underlying22 Try.underlying5 Try.underlying9 (HV9.out.below ((Gr.drew w9).trans hw'))
        have s2 := run_string_of (P := Try.prog) 22 9 5 Try.underlying22 Try.underlying5 Try.underlying9 (HVZ.out.below (HB9.out.trans (((Gr.drew w9).trans hw').mono HB9.out.size)))
        go_simp
        with_reducible rfl
      simp only [Act.put, List.setIfInBounds_toArray, List.set_cons_zero, List.set_cons_succ]
      -- 7: slot 71
      refine wpG_take preGr (i := 7) (v := ?_) (by kernel_rfl) (some 71) (by kernel_rfl) rfl (by kernel_rfl) (by kernel_rfl) (by kernel_rfl) (fun _ _ _ h => h) (by rfl) (fun w' hw' => ?_) rfl ?_
      rotate_left
      · have s1 := run_string_of (P := Try.prog) 22 9 5 Try.underlying22 Try.underlying5 Try.underlying9 (HV9.out.below ((Gr.drew w9).trans hw'))
        have s2 := run_string_of (P := Try.prog) 22 9 5 Try.underlying22 Try.underlying5 Try.underlying9 (HVZ.out.below (HB9.out.trans (((Gr.drew w9).trans hw').mono HB9.out.size)))
        go_simp
        with_reducible rfl
      simp only [Act.put, List.setIfInBounds_toArray, List.set_cons_zero, List.set_cons_succ]
      -- 8: slot 72
      refine wpG_take preGr (i := 8) (v := ?_) (by kernel_rfl) (some 72) (by kernel_rfl) rfl (by kernel_rfl) (by kernel_rfl) (by kernel_rfl) (fun _ _ _ h => h) (by rfl) (fun w' hw' => ?_) rfl ?_
      rotate_left
      · have s1 := run_string_of (P := Try.prog) 22 9 5 Try.underlying22 Try.underlying5 Try.underlying9 (HV9.out.below ((Gr.drew w9).trans hw'))
        have s2 := run_string_of (P := Try.prog) 22 9 5 Try.underlying22 Try.underlying5 Try.underlying9 (HVZ.out.below (HB9.out.trans (((Gr.drew w9).trans hw').mono HB9.out.size)))
        go_simp
        with_reducible rfl
      simp only [Act.put, List.setIfInBounds_toArray, List.set_cons_zero, List.set_cons_succ]
      -- 9: slot 73
      refine wpG_take preGr (i := 9) (v := ?_) (by kernel_rfl) (some 73) (by kernel_rfl) rfl (by kernel_rfl) (by kernel_rfl) (by kernel_rfl) (fun _ _ _ h => h) (by rfl) (fun w' hw' => ?_) rfl ?_
      rotate_left
      · have s1 := run_string_of (P := Try.prog) 22 9 5 Try.underlying22 Try.underlying5 Try.underlying9 (HV9.out.below ((Gr.drew w9).trans hw'))
        have s2 := run_string_of (P := Try.prog) 22 9 5 Try.underlying22 Try.underlying5 Try.underlying9 (HVZ.out.below (HB9.out.trans (((Gr.drew w9).trans hw').mono HB9.out.size)))
        go_simp
        with_reducible rfl
      simp only [Act.put, List.setIfInBounds_toArray, List.set_cons_zero, List.set_cons_succ]
      -- 10: slot 74
      refine wpG_take preGr (i := 10) (v := ?_) (by kernel_rfl) (some 74) (by kernel_rfl) rfl (by kernel_rfl) (by kernel_rfl) (by kernel_rfl) (fun _ _ _ h => h) (by rfl) (fun w' hw' => ?_) rfl ?_
      rotate_left
      · have s1 := run_string_of (P := Try.prog) 22 9 5 Try.underlying22 Try.underlying5 Try.underlying9 (HV9.out.below ((Gr.drew w9).trans hw'))
        have s2 := run_string_of (P := Try.prog) 22 9 5 Try.underlying22 Try.underlying5 Try.underlying9 (HVZ.out.below (HB9.out.trans (((Gr.drew w9).trans hw').mono HB9.out.size)))
        go_simp
        with_reducible rfl
      simp only [Act.put, List.setIfInBounds_toArray, List.set_cons_zero, List.set_cons_succ]
      -- 11: slot 75
      refine wpG_take preGr (i := 11) (v := ?_) (by kernel_rfl) (some 75) (by kernel_rfl) rfl (by kernel_rfl) (by kernel_rfl) (by kernel_rfl) (fun _ _ _ h => h) (by rfl) (fun w' hw' => ?_) rfl ?_
      rotate_left
      · have s1 := run_string_of (P := Try.prog) 22 9 5 Try.underlying22 Try.underlying5 Try.underlying9 (HV9.out.below ((Gr.drew w9).trans hw'))
        have s2 := run_string_of (P := Try.prog) 22 9 5 Try.underlying22 Try.underlying5 Try.underlying9 (HVZ.out.below (HB9.out.trans (((Gr.drew w9).trans hw').mono HB9.out.size)))
        go_simp
        with_reducible rfl
      simp only [Act.put, List.setIfInBounds_toArray, List.set_cons_zero, List.set_cons_succ]
      -- 12: slot 76
      refine wpG_take preGr (i := 12) (v := ?_) (by kernel_rfl) (some 76) (by kernel_rfl) rfl (by kernel_rfl) (by kernel_rfl) (by kernel_rfl) (fun _ _ _ h => h) (by rfl) (fun w' hw' => ?_) rfl ?_
      rotate_left
      · have s1 := run_string_of (P := Try.prog) 22 9 5 Try.underlying22 Try.underlying5 Try.underlying9 (HV9.out.below ((Gr.drew w9).trans hw'))
        have s2 := run_string_of (P := Try.prog) 22 9 5 Try.underlying22 Try.underlying5 Try.underlying9 (HVZ.out.below (HB9.out.trans (((Gr.drew w9).trans hw').mono HB9.out.size)))
        go_simp
        with_reducible rfl
      simp only [Act.put, List.setIfInBounds_toArray, List.set_cons_zero, List.set_cons_succ]
      -- 13: slot 77
      refine wpG_take preGr (i := 13) (v := ?_) (by kernel_rfl) (some 77) (by kernel_rfl) rfl (by kernel_rfl) (by kernel_rfl) (by kernel_rfl) (fun _ _ _ h => h) (by rfl) (fun w' hw' => ?_) rfl ?_
      rotate_left
      · have s1 := run_string_of (P := Try.prog) 22 9 5 Try.underlying22 Try.underlying5 Try.underlying9 (HV9.out.below ((Gr.drew w9).trans hw'))
        have s2 := run_string_of (P := Try.prog) 22 9 5 Try.underlying22 Try.underlying5 Try.underlying9 (HVZ.out.below (HB9.out.trans (((Gr.drew w9).trans hw').mono HB9.out.size)))
        go_simp
        with_reducible rfl
      simp only [Act.put, List.setIfInBounds_toArray, List.set_cons_zero, List.set_cons_succ]
      -- 14: slot 78
      refine wpG_take preGr (i := 14) (v := ?_) (by kernel_rfl) (some 78) (by kernel_rfl) rfl (by kernel_rfl) (by kernel_rfl) (by kernel_rfl) (fun _ _ _ h => h) (by rfl) (fun w' hw' => ?_) rfl ?_
      rotate_left
      · have s1 := run_string_of (P := Try.prog) 22 9 5 Try.underlying22 Try.underlying5 Try.underlying9 (HV9.out.below ((Gr.drew w9).trans hw'))
        have s2 := run_string_of (P := Try.prog) 22 9 5 Try.underlying22 Try.underlying5 Try.underlying9 (HVZ.out.below (HB9.out.trans (((Gr.drew w9).trans hw').mono HB9.out.size)))
        go_simp
        with_reducible rfl
      simp only [Act.put, List.setIfInBounds_toArray, List.set_cons_zero, List.set_cons_succ]
      -- 15: slot 79
      refine wpG_take preGr (i := 15) (v := ?_) (by kernel_rfl) (some 79) (by kernel_rfl) rfl (by kernel_rfl) (by kernel_rfl) (by kernel_rfl) (fun _ _ _ h => h) (by rfl) (fun w' hw' => ?_) rfl ?_
      rotate_left
      · have s1 := run_string_of (P := Try.prog) 22 9 5 Try.underlying22 Try.underlying5 Try.underlying9 (HV9.out.below ((Gr.drew w9).trans hw'))
        have s2 := run_string_of (P := Try.prog) 22 9 5 Try.underlying22 Try.underlying5 Try.underlying9 (HVZ.out.below (HB9.out.trans (((Gr.drew w9).trans hw').mono HB9.out.size)))
        go_simp
        with_reducible rfl
      simp only [Act.put, List.setIfInBounds_toArray, List.set_cons_zero, List.set_cons_succ]
      -- 16: slot 80
      refine wpG_take preGr (i := 16) (v := ?_) (by kernel_rfl) (some 80) (by kernel_rfl) rfl (by kernel_rfl) (by kernel_rfl) (by kernel_rfl) (fun _ _ _ h => h) (by rfl) (fun w' hw' => ?_) rfl ?_
      rotate_left
      · have s1 := run_string_of (P := Try.prog) 22 9 5 Try.underlying22 Try.underlying5 Try.underlying9 (HV9.out.below ((Gr.drew w9).trans hw'))
        have s2 := run_string_of (P := Try.prog) 22 9 5 Try.underlying22 Try.underlying5 Try.underlying9 (HVZ.out.below (HB9.out.trans (((Gr.drew w9).trans hw').mono HB9.out.size)))
        go_simp
        with_reducible rfl
      simp only [Act.put, List.setIfInBounds_toArray, List.set_cons_zero, List.set_cons_succ]
      -- 17: slot 81
      refine wpG_take preGr (i := 17) (v := ?_) (by kernel_rfl) (some 81) (by kernel_rfl) rfl (by kernel_rfl) (by kernel_rfl) (by kernel_rfl) (fun _ _ _ h => h) (by rfl) (fun w' hw' => ?_) rfl ?_
      rotate_left
      · have s1 := run_string_of (P := Try.prog) 22 9 5 Try.underlying22 Try.underlying5 Try.underlying9 (HV9.out.below ((Gr.drew w9).trans hw'))
        have s2 := run_string_of (P := Try.prog) 22 9 5 Try.underlying22 Try.underlying5 Try.underlying9 (HVZ.out.below (HB9.out.trans (((Gr.drew w9).trans hw').mono HB9.out.size)))
        go_simp
        with_reducible rfl
      simp only [Act.put, List.setIfInBounds_toArray, List.set_cons_zero, List.set_cons_succ]
      -- 18: slot 82
      refine wpG_take preGr (i := 18) (v := ?_) (by kernel_rfl) (some 82) (by kernel_rfl) rfl (by kernel_rfl) (by kernel_rfl) (by kernel_rfl) (fun _ _ _ h => h) (by rfl) (fun w' hw' => ?_) rfl ?_
      rotate_left
      · have s1 := run_string_of (P := Try.prog) 22 9 5 Try.underlying22 Try.underlying5 Try.underlying9 (HV9.out.below ((Gr.drew w9).trans hw'))
        have s2 := run_string_of (P := Try.prog) 22 9 5 Try.underlying22 Try.underlying5 Try.underlying9 (HVZ.out.below (HB9.out.trans (((Gr.drew w9).trans hw').mono HB9.out.size)))
        go_simp
        with_reducible rfl
      simp only [Act.put, List.setIfInBounds_toArray, List.set_cons_zero, List.set_cons_succ]
      -- 19: slot 6
      refine wpG_take preGr (i := 19) (v := ?_) (by kernel_rfl) (some 6) (by kernel_rfl) rfl (by kernel_rfl) (by kernel_rfl) (by kernel_rfl) (fun _ _ _ h => h) (by rfl) (fun w' hw' => ?_) rfl ?_
      rotate_left
      · have s1 := run_string_of (P := Try.prog) 22 9 5 Try.underlying22 Try.underlying5 Try.underlying9 (HV9.out.below ((Gr.drew w9).trans hw'))
        have s2 := run_string_of (P := Try.prog) 22 9 5 Try.underlying22 Try.underlying5 Try.underlying9 (HVZ.out.below (HB9.out.trans (((Gr.drew w9).trans hw').mono HB9.out.size)))
        go_simp
        with_reducible rfl
      simp only [Act.put, List.setIfInBounds_toArray, List.set_cons_zero, List.set_cons_succ]
      refine wpG_done (by kernel_rfl) ?_ _
      go_wp2
      go_ret
      exact ⟨by simp, HB9.out.drew⟩
    · have HZ : Hid (r.1 = PP.zero) := by show _ = _; rw [HRR.out]; exact pdec_err (by rw [← HRR.out]; exact h0)
      have hq8 := HQ8.out
      have hzc : r.1.c = 0 := by rw [HZ.out]; rfl
      have hzs : r.1.s = 0 := by rw [HZ.out]; rfl
      have hzl : r.1.l = [] := by rw [HZ.out]; rfl
      have hb8' := HB8.out
      rw [hzc, hzs] at hq8 hb8'
      rw [hzl] at hq8
      simp only [hzc, hzs] at t0 t1 t2
      rw [hzc, hzs]
      have HB8' := Lib.hid hb8'
      obtain rfl : L8 = 0 := by
        obtain ⟨_, _, _, e1, h1, _, _⟩ := hq8.sl
        simp only [Value.slice.injEq] at e1
        rw [e1.2.1, ← h1]; rfl
      have SM := Lib.hid (psame_true 0 0 A8 none 0 C8 0 [] _ hq8 (Bs.nil _))
      have hh0 : (r.2 != 0) = true := by rw [bne_iff_ne]; exact h0
      clear hq8 hzc hzs hzl hb8' h0
      go_wp2_with fail
      refine SM.out.mono ?_
      rintro e w9 ⟨rfl, hb9⟩
      have HB9 := Lib.hid (HB8'.out.trans (hb9.mono HB8'.out.size))
      clear hb9
      go_wp2
      go_ret
      exact ⟨rfl, HB9.out⟩

theorem own : ownKnob Try.prog.godebug = none := by kernel_rfl
theorem laidOut : laidOutB Try.prog = true := by kernel_rfl
set_option maxRecDepth 100000 in
theorem lifted (os : Os) (started : os.Started) (H : Type) (enc : TypeId × Value → H) :
    ReturnsInHanded {} Try.checked os 6 .any (Rows.pppoeBackSpec.pre6 enc Try.prog Try.f6 Rows.pppoeBackRow.domain false) (Rows.pppoeBackSpec.post enc Try.prog Try.f6 false true false false) := by
  refine returnsInHanded_of_change (C := Try.checked) own started (by kernel_rfl) Try.func6
    (ChangeSpec.witness6 (enc := enc) (C := Try.checked) false ⟨#[], #[.agg #[.int .i64 0, .int .i64 0, .slice none 0 0], .slice none 0 0, .slice none 0 0], []⟩ 8 (by kernel_rfl) (by kernel_rfl) (by kernel_rfl) (by kernel_rfl)) ?_
  intro W base args ds gs before hval0 hW hcnd _
  have hval : ∀ (j : Nat) t v, Try.f6.params[j]? = some t → args[j]? = some v → Value.okWide Try.prog W .any base t v := hval0
  have hW' := hW
  obtain ⟨p, q, hA0, hV, rfl, hfz, hnd⟩ := hW
  have hA : DataW.TrodAll enc Try.prog W 0 (fun _ => true) true Try.f6.params.toList args.toList ds p := hA0
  rw [Try.params6] at hA hval
  obtain ⟨v0, vs0, d0, ds0, p0, q0, hargs, rfl, rfl, h0, r0⟩ := trodAll_cons hA
  obtain ⟨v1, vs1, d1, ds1, p1, q1, rfl, rfl, rfl, h1, r1⟩ := trodAll_cons r0
  obtain ⟨v2, vs2, d2, ds2, p2, q2, rfl, rfl, rfl, h2, r2⟩ := trodAll_cons r1
  obtain ⟨rfl, rfl, rfl⟩ := trodAll_nil r2
  obtain rfl : args = #[v0, v1, v2] := by cases args; simp_all
  obtain ⟨rfl, rfl⟩ := trodVars_none hV
  have k0 := h0
  have lt0 : ∀ x ∈ p0, x.block < W.heap.size := by obtain ⟨m, hm⟩ := k0; exact DataW.trod_lt m _ _ _ hm
  obtain ⟨C0, S0, a0, n0, c0, l0, rfl, hn0, b0⟩ := open_pppoe Try.underlying24 ⟨rfl, rfl, rfl⟩ Try.underlying3 Try.underlying3 Try.underlying22 Try.underlying5 ⟨by kernel_rfl, by kernel_rfl, by kernel_rfl, by kernel_rfl, by kernel_rfl⟩ (hval 0 24 v0 rfl rfl) h0
  have k1 := h1
  have lt1 : ∀ x ∈ p1, x.block < W.heap.size := by obtain ⟨m, hm⟩ := k1; exact DataW.trod_lt m _ _ _ hm
  obtain ⟨a1, n1, c1, l1, rfl, hn1, b1⟩ := open_bytes Try.underlying22 Try.underlying5 (by kernel_rfl) (hval 1 22 v1 rfl rfl) h1
  have k2 := h2
  have lt2 : ∀ x ∈ p2, x.block < W.heap.size := by obtain ⟨m, hm⟩ := k2; exact DataW.trod_lt m _ _ _ hm
  obtain ⟨a2, n2, c2, l2, rfl, hn2, b2⟩ := open_bytes Try.underlying22 Try.underlying5 (by kernel_rfl) (hval 2 22 v2 rfl rfl) h2
  clear hA0 hval0
  refine (walk W C0 S0 a0 n0 c0 l0 hn0 b0 a1 n1 c1 l1 hn1 b1 a2 n2 c2 l2 hn2 b2).mono fun e W' ⟨he, bel⟩ => ?_
  subst he
  exact ⟨_, rfl, _, _, _, [], _, [], hW', trodAll_mk1 (shut_bool Try.underlying4 _), (trodAll_cons_mk (Below.trod laidOut (by kernel_rfl) (of_decide_eq_true (by kernel_rfl)) k0 bel lt0) (trodAll_cons_mk (Below.trod laidOut (by kernel_rfl) (of_decide_eq_true (by kernel_rfl)) k1 bel lt1) (trodAll_cons_mk (Below.trod laidOut (by kernel_rfl) (of_decide_eq_true (by kernel_rfl)) k2 bel lt2) trodAll_mk0))), rfl, bel.frame _, fun h => by cases h⟩
theorem over : Rows.pppoeBackRow.holds Try.pinned (OpenSpec.ofChange Rows.pppoeBackSpec) :=
  OpenClaim.holds_of_wide 6 Try.f6 rfl rfl rfl rfl rfl rfl rfl ⟨rfl, rfl, rfl, rfl, rfl⟩ rfl rfl rfl rfl rfl (by kernel_rfl) Try.func6 (by kernel_rfl)
    (of_decide_eq_true (by kernel_rfl)) (by unfold Func.isWrapper; first | (rw [if_pos (by decide +kernel)]; kernel_rfl) | (rw [if_neg (by decide +kernel)]; exact ⟨rfl, rfl⟩))
    (fun os started H enc _ => lifted os started H enc)
/-- The statement. -/
theorem proved : Rows.PppoeBackSaid := over
end Go.Proofs.Ytcpeglljcipcbaa.pppoeBack
