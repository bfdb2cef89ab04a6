/-
  What ether.Encode made is decoded again, also padded, with zeros behind; what ether.Decode tells of any bytes is encoded to those bytes (conciergelaw04.EtherBack answers true, whatever frame and bytes come). No conditions.
-/
import Derived.Test.YtkalbchcgdnciaaEthJ
import Derived.ProofKit
import Derived.OpenShut
import Derived.ChangeOld
namespace Go.Proofs.Ytkalbchcgdnciaa.etherBack
open Go.ChangeShapes Go.WideShapes Go.ChangeAt Go.RowKit
set_option linter.unusedVariables false
set_option linter.unusedSimpArgs false

theorem decD_wire {D S : List UInt8} (T : Nat) (x : List UInt8) (hD : D.length = 6) (h : dchk (wireL D S T x) = 0) : decD (wireL D S T x) = D := by unfold decD; rw [if_pos h]; exact wire_D T x hD
theorem decS_wire {D S : List UInt8} (T : Nat) (x : List UInt8) (hD : D.length = 6) (hS : S.length = 6) (h : dchk (wireL D S T x) = 0) : decS (wireL D S T x) = S := by unfold decS; rw [if_pos h]; exact wire_S T x hD hS
theorem decT_wire {D S : List UInt8} (T : Nat) (x : List UInt8) (hD : D.length = 6) (hS : S.length = 6) (hT : T < 65536) (h : dchk (wireL D S T x) = 0) : decT (wireL D S T x) = (T : Int) := by unfold decT; rw [if_pos h, typN_wire T x hD hS hT]
theorem decP_wire {D S : List UInt8} (T : Nat) (x : List UInt8) (hD : D.length = 6) (hS : S.length = 6) (h : dchk (wireL D S T x) = 0) : decP (wireL D S T x) = x := by unfold decP; rw [if_pos h]; exact wire_l T x hD hS
/-- A payload, and zeros behind it, up to 46 bytes. -/
def behL (x : List UInt8) : List UInt8 := x ++ List.replicate (60 - (14 + x.length)) 0
theorem behL_length (x : List UInt8) : (behL x).length = max x.length 46 := by simp [behL]; omega
theorem behL_take (x : List UInt8) : (behL x).take x.length = x := by unfold behL; rw [List.take_append_of_le_length (Nat.le_refl _), List.take_length]
theorem behL_zero (x : List UInt8) (i : Nat) (h1 : x.length ≤ i) (h2 : i < (behL x).length) : (behL x)[i]? = some 0 := by
  have h3 : i < x.length + (60 - (14 + x.length)) := by simpa [behL] using h2
  unfold behL
  rw [List.getElem?_append_right h1, List.getElem?_replicate, if_pos (by omega)]

set_option maxRecDepth 100000 in
set_option maxHeartbeats 8000000 in
theorem walk (W : World) (D S : List UInt8) (t : Int) (a0 : Option Addr) (n0 c0 : Nat) (l0 : List UInt8) (hD : D.length = 6) (hS : S.length = 6) (wf : (Lit.int .i64 t).wf = true) (hn0 : l0.length = n0) (b0 : Bs W (.slice a0 n0 c0) l0)
    (a1 : Option Addr) (n1 c1 : Nat) (l1 : List UInt8) (hn1 : l1.length = n1) (b1 : Bs W (.slice a1 n1 c1) l1) :
    Calls Try.prog 6 #[.agg (ethL D S t (.slice a0 n0 c0)).toArray, .slice a1 n1 c1] W fun e w' => e = .returned (.bool true) ∧ Below W.heap.size W w' := by
  obtain ⟨m, x, hm, hx, u0, hc0⟩ := cut_in hn0 b0
  obtain ⟨m1, x1, hm1, hx1, u1, hc1⟩ := cut_in hn1 b1
  have HC0 := Lib.hid hc0
  have HX := Lib.hid hx
  have HU := Lib.hid u0
  have HC1 := Lib.hid hc1
  have HX1 := Lib.hid hx1
  have HU1 := Lib.hid u1
  have HD := Lib.hid hD
  have HS := Lib.hid hS
  have AW := Lib.hid awake_any
  have h13 := ethL_13 t (.slice a0 n0 c0) hD hS
  have HL0 : Hid (13 < (ethL D S t (.slice a0 n0 c0)).length) := by show _ < _; rw [ethL_length _ _ hD hS]; decide
  have HG0 : Hid ((W.alloc (.cells (ethL D S t (.slice a0 n0 c0)).toArray 26)).heap[W.heap.size]? = some (.cells (ethL D S t (.slice a0 n0 c0)).toArray 26 (0, 0))) := heap_alloc_last _ _
  have HB0 : Hid (Below W.heap.size W (W.alloc (.cells (ethL D S t (.slice a0 n0 c0)).toArray 26))) := (Below.refl _ _).alloc (Nat.le_refl _) _
  have F2 : Hid ((Try.prog.info? 24).map (·.size) = some 1) := by show _ = _; kernel_rfl
  obtain ⟨i0, hi, hz0, hz1, hz2⟩ := info_parts info5
  have HI := Lib.hid hi
  have HI1 := Lib.hid hz1
  clear hn0 b0 u0 hc0 hx hD hS wf hn1 b1 u1 hc1 hx1 hi hz0 hz1 hz2
  go_enter Try.func6, Try.ntmps6
  go_wp2_with fail
  refine (HC0.out _).mono ?_
  rintro e w' ⟨rfl, rfl⟩
  go_wp2_with fail
  refine (HC1.out _).mono ?_
  rintro e w' ⟨rfl, rfl⟩
  go_wp2_with (with_reducible refine wpList_store_cell rfl 24 (.tmp 21) (.tmp 18) rfl W.heap.size 13 (.slice a0 m c0) rfl rfl 26 _ HG0.out F2.out HL0.out rfl ?_)
  intro w1 h1 ho1
  rw [ethL_set13 _ _ _ HD.out HS.out] at h1
  have HG1 := Lib.hid h1
  have HB1 := Lib.hid (ho1.below _ _ (Nat.le_refl _) HB0.out)
  have HSZ := Lib.hid (size26l t (.slice a0 m c0) HD.out HS.out)
  clear h1 ho1 h13
  go_wp2_with (with_reducible refine wpList_load_row rfl 26 (.tmp 2) rfl W.heap.size rfl 26 _ (0, 0) _ HG1.out Try.underlying26 rfl HSZ.out ?_)
  refine (encode_any D S t a0 m c0 x HD.out HS.out HX.out w1 (HU.out.below HB1.out)).mono ?_
  rintro e w2 ⟨v2, rfl, hown2, hb2⟩
  have HB2 := Lib.hid (HB1.out.trans (hb2.mono HB1.out.size))
  have HG2 := Lib.hid (heap_below HG1.out hb2)
  have HV2 := Lib.hid hown2.bs
  obtain ⟨k, hk⟩ : ∃ k, k = chk t x.length := ⟨_, rfl⟩
  rw [← hk]
  have HK := Lib.hid hk
  clear hown2 hb2 hk
  go_wp2_with fail
  refine (AW.out w2).mono ?_
  rintro e w3 ⟨rfl, hb3⟩
  have HB3 := Lib.hid (HB2.out.trans (hb3.mono HB2.out.size))
  have HG3 := Lib.hid (heap_below HG2.out hb3)
  have HV3 := Lib.hid (HV2.out.below hb3)
  clear hb3
  by_cases h0 : k = 0
  · have hchk : chk t x.length = 0 := by rw [← HK.out]; exact h0
    have htr := chk_zero hchk
    obtain ⟨T, rfl⟩ : ∃ T : Nat, t = (T : Int) := ⟨t.toNat, by omega⟩
    have hyy : encL D S (T : Int) x = wireL D S T x := by unfold encL; rw [if_pos hchk]; rfl
    have HV3' := HV3.out
    rw [hyy] at HV3'
    have hd1 : dchk (wireL D S T x) = 0 := dchk_wire T x HD.out HS.out (by omega) (by omega) (by omega)
    have hyl : (wireL D S T x).length = 14 + x.length := wireL_length T x HD.out HS.out
    have hpad : padL (wireL D S T x) = wireL D S T (behL x) := pad_wire D S T x HD.out HS.out
    have hbl : (behL x).length ≤ 1500 := by rw [behL_length]; omega
    have hd2 : dchk (wireL D S T (behL x)) = 0 := dchk_wire T (behL x) HD.out HS.out (by omega) (by omega) hbl
    have e1 := decD_wire T x HD.out hd1
    have e2 := decS_wire T x HD.out HS.out hd1
    have e3 := decT_wire T x HD.out HS.out (by omega) hd1
    have e4 := decP_wire T x HD.out HS.out hd1
    have f1 := decD_wire T (behL x) HD.out hd2
    have f2 := decS_wire T (behL x) HD.out HS.out hd2
    have f3 := decT_wire T (behL x) HD.out HS.out (by omega) hd2
    have f4 := decP_wire T (behL x) HD.out HS.out hd2
    obtain ⟨y, hy⟩ : ∃ y, y = wireL D S T x := ⟨_, rfl⟩
    obtain ⟨y2, hy2⟩ : ∃ y2, y2 = wireL D S T (behL x) := ⟨_, rfl⟩
    rw [← hy] at HV3' hd1 e1 e2 e3 e4 hyl hpad
    rw [← hy2] at hd2 f1 f2 f3 f4 hpad
    have hy2l : y2.length = 14 + (behL x).length := by rw [hy2]; exact wireL_length T (behL x) HD.out HS.out
    obtain ⟨p, hp⟩ : ∃ p, p = y.length := ⟨_, rfl⟩
    obtain ⟨a2, c2, ev, _, _⟩ := HV3'.shape
    rw [← hp] at ev
    subst ev
    have hpr : p ≤ 1614 := by have := HX.out; omega
    have hpq : max p 60 = 14 + (behL x).length := by rw [← hy2l, ← hpad, padL_length, hp]
    obtain ⟨q, hq⟩ : ∃ q, q = (behL x).length := ⟨_, rfl⟩
    have hqm : q = max m 46 := by rw [hq, behL_length, HX.out]
    have hq1 : 46 ≤ q := by omega
    have hq2 : m ≤ q := by omega
    have hq3 : q ≤ 1614 := by omega
    have HQ := Lib.hid hq
    have HV := Lib.hid HV3'
    have HYP : Hid (y.length = p) := hp.symm
    have HY2 : Hid (y2.length = max p 60) := by show _ = _; rw [hpq, hy2l]
    have HPAD := Lib.hid hpad
    have HE1 := Lib.hid hd1
    have HE2 := Lib.hid hd2
    have E1 := Lib.hid e1
    have E2 := Lib.hid e2
    have E3 := Lib.hid e3
    have E4 := Lib.hid e4
    have G1 := Lib.hid f1
    have G2 := Lib.hid f2
    have G3 := Lib.hid f3
    have G4 := Lib.hid f4
    subst h0
    clear hchk htr hyy HV3' hd1 hyl hpad hbl hd2 e1 e2 e3 e4 f1 f2 f3 f4 hy hy2 hy2l hp hpq hq hqm HV3 HV2
    go_wp2_with fail
    refine (decode_any a2 p c2 y HYP.out w3 HV.out (by omega)).mono ?_
    rintro e w4 ⟨v4, rfl, hown4, hb4⟩
    rw [E1.out, E2.out, E3.out, HE1.out]
    rw [E4.out] at hown4
    have HB4 := Lib.hid (HB3.out.trans (hb4.mono HB3.out.size))
    have HG4 := Lib.hid (heap_below HG3.out hb4)
    have HV4 := Lib.hid (HV.out.below hb4)
    obtain ⟨a4, c4, ev, _, _⟩ := (hown4.bs).shape
    rw [HX.out] at ev
    subst ev
    have HP4 := Lib.hid hown4.bs
    have HL4 := Lib.hid (ethL_length (T : Int) (.slice a4 m c4) HD.out HS.out)
    have HO4 := Lib.hid (ethL_one D S (T : Int) (.slice a4 m c4) rfl)
    have HS4 := Lib.hid (size26e (T : Int) (.slice a4 m c4) HD.out HS.out)
    have HN4 : Hid ((ethL D S (T : Int) (.slice a4 m c4)).length = ethZ.length) := HL4
    have HZ4 : Hid ((w4.alloc (.cells #[.int .u8 0, .int .u8 0, .int .u8 0, .int .u8 0, .int .u8 0, .int .u8 0, .int .u8 0, .int .u8 0, .int .u8 0, .int .u8 0, .int .u8 0, .int .u8 0, .int .i64 0, .slice none 0 0] 26)).heap[w4.heap.size]? = some (.cells ethZ.toArray 26 (0, 0))) := heap_alloc_last _ _
    clear hown4 hb4
    go_wp2_with (with_reducible refine wpList_store_whole rfl 26 (.tmp 7) (.tmp 34) rfl w4.heap.size _ rfl rfl 26 ethZ HZ4.out HS4.out HN4.out HO4.out ?_)
    intro w5 h5 ho5
    have hb5 : Below w4.heap.size w4 w5 := ho5.below _ _ (Nat.le_refl _) ((Below.refl _ _).alloc (Nat.le_refl _) _)
    have HB5 := Lib.hid (HB4.out.trans (hb5.mono HB4.out.size))
    have HG5 := Lib.hid (heap_below HG4.out hb5)
    have HV5 := Lib.hid (HV4.out.below hb5)
    have HP5 := Lib.hid (HP4.out.below hb5)
    have HD5 := Lib.hid h5
    clear h5 ho5 hb5
    go_wp2_with fail
    refine (pad_any a2 p c2 y HYP.out w5 HV5.out (by omega)).mono ?_
    rintro e w6 ⟨c6, rfl, hown6, hb6⟩
    have HB6 := Lib.hid (HB5.out.trans (hb6.mono HB5.out.size))
    have HG6 := Lib.hid (heap_below HG5.out hb6)
    have HP6 := Lib.hid (HP5.out.below hb6)
    have HD6 := Lib.hid (heap_below HD5.out hb6)
    rw [HPAD.out] at hown6
    have HV6 := Lib.hid hown6.bs
    obtain ⟨pn, hpn⟩ : ∃ pn, pn = max p 60 := ⟨_, rfl⟩
    have HPN : Hid (y2.length = pn) := by show _ = _; rw [HY2.out, hpn]
    have hpn2 : pn ≤ 1614 := by omega
    rw [← hpn] at HV6 ⊢
    clear hown6 hb6 hpn
    go_wp2_with fail
    refine (decode_any _ pn c6 y2 HPN.out w6 HV6.out (by omega)).mono ?_
    rintro e w7 ⟨v7, rfl, hown7, hb7⟩
    rw [G1.out, G2.out, G3.out, HE2.out]
    rw [G4.out] at hown7
    have HB7 := Lib.hid (HB6.out.trans (hb7.mono HB6.out.size))
    have HG7 := Lib.hid (heap_below HG6.out hb7)
    have HP7 := Lib.hid (HP6.out.below hb7)
    have HD7 := Lib.hid (heap_below HD6.out hb7)
    obtain ⟨a7, c7, ev, _, _⟩ := (hown7.bs).shape
    rw [← HQ.out] at ev
    subst ev
    have HR7 := Lib.hid hown7.bs
    have HL7 := Lib.hid (ethL_length (T : Int) (.slice a7 q c7) HD.out HS.out)
    have HO7 := Lib.hid (ethL_one D S (T : Int) (.slice a7 q c7) rfl)
    have HS7 := Lib.hid (size26e (T : Int) (.slice a7 q c7) HD.out HS.out)
    have HN7 : Hid ((ethL D S (T : Int) (.slice a7 q c7)).length = ethZ.length) := HL7
    have HZ7 : Hid ((w7.alloc (.cells #[.int .u8 0, .int .u8 0, .int .u8 0, .int .u8 0, .int .u8 0, .int .u8 0, .int .u8 0, .int .u8 0, .int .u8 0, .int .u8 0, .int .u8 0, .int .u8 0, .int .i64 0, .slice none 0 0] 26)).heap[w7.heap.size]? = some (.cells ethZ.toArray 26 (0, 0))) := heap_alloc_last _ _
    clear hown7 hb7
    go_wp2_with (with_reducible refine wpList_store_whole rfl 26 (.tmp 9) (.tmp 40) rfl w7.heap.size _ rfl rfl 26 ethZ HZ7.out HS7.out HN7.out HO7.out ?_)
    intro w8 h8 ho8
    have hb8 : Below w7.heap.size w7 w8 := ho8.below _ _ (Nat.le_refl _) ((Below.refl _ _).alloc (Nat.le_refl _) _)
    have HB8 := Lib.hid (HB7.out.trans (hb8.mono HB7.out.size))
    have HG8 := Lib.hid (heap_below HG7.out hb8)
    have HP8 := Lib.hid (HP7.out.below hb8)
    have HD8 := Lib.hid (heap_below HD7.out hb8)
    have HR8 := Lib.hid (HR7.out.below hb8)
    have HQ8 := Lib.hid h8
    have hz1 := HI1.out
    have hi := HI.out
    have hrd : Rd w8 1 (.slice a7 q c7) q ((behL x).map u8v) := by
      have := HR8.out
      unfold Bs at this
      rw [← HQ.out] at this
      exact this
    obtain ⟨ao, hsl, hru⟩ := slice_upto (P := Try.prog) Try.underlying24 hi hz1 hrd .i64 (m : Int) m rfl hq2
    have HT8 : Hid (Bs w8 (.slice ao m c7) x) := by
      refine Bs.of_rd hru ?_
      rw [take_u8]
      congr 1
      have := behL_take x
      rw [HX.out] at this
      exact this
    have q46 : decide ((q : Int) < 46) = false := by rw [decide_eq_false_iff_not]; omega
    have qm : decide (q < m) = false := by rw [decide_eq_false_iff_not]; omega
    have HA4 := Lib.hid (size26l (T : Int) (.slice a4 m c4) HD.out HS.out)
    have HA0 := Lib.hid (size26l (T : Int) (.slice a0 m c0) HD.out HS.out)
    clear h8 ho8 hb8 hz1 hi hrd hru
    go_wp2_with fail
    refine wp_region_G 49 Gr (by kernel_rfl) ?_
    -- 0: slot 42
    refine wpG_take preGr (i := 0) (v := ?_) (by kernel_rfl) (some 42) (by kernel_rfl) rfl (by kernel_rfl) (by kernel_rfl) (by kernel_rfl) (fun _ _ _ h => h) (by rfl) (fun w' hw' => ?_) rfl ?_
    rotate_left
    · try have k9 := cell13 HD.out HS.out (heap_gr (GR9.out.trans hw') HQ8.out)
      try have k2 := cell13 HD.out HS.out (heap_gr (GR9.out.trans hw') HG8.out)
      try have s1 := run_string_of (P := Try.prog) 24 9 5 Try.underlying24 Try.underlying5 Try.underlying9 (HT8.out.below (GR9.out.trans hw'))
      try have s2 := run_string_of (P := Try.prog) 24 9 5 Try.underlying24 Try.underlying5 Try.underlying9 ((HU.out.below HB8.out).below (GR9.out.trans hw'))
      go_simp
      with_reducible rfl
    simp only [Act.put, List.setIfInBounds_toArray, List.set_cons_zero, List.set_cons_succ]
    -- 1: slot 43
    refine wpG_take preGr (i := 1) (v := ?_) (by kernel_rfl) (some 43) (by kernel_rfl) rfl (by kernel_rfl) (by kernel_rfl) (by kernel_rfl) (fun _ _ _ h => h) (by rfl) (fun w' hw' => ?_) rfl ?_
    rotate_left
    · try have k9 := cell13 HD.out HS.out (heap_gr (GR9.out.trans hw') HQ8.out)
      try have k2 := cell13 HD.out HS.out (heap_gr (GR9.out.trans hw') HG8.out)
      try have s1 := run_string_of (P := Try.prog) 24 9 5 Try.underlying24 Try.underlying5 Try.underlying9 (HT8.out.below (GR9.out.trans hw'))
      try have s2 := run_string_of (P := Try.prog) 24 9 5 Try.underlying24 Try.underlying5 Try.underlying9 ((HU.out.below HB8.out).below (GR9.out.trans hw'))
      go_simp
      with_reducible rfl
    simp only [Act.put, List.setIfInBounds_toArray, List.set_cons_zero, List.set_cons_succ]
    -- 2: slot 44
    refine wpG_take preGr (i := 2) (v := ?_) (by kernel_rfl) (some 44) (by kernel_rfl) rfl (by kernel_rfl) (by kernel_rfl) (by kernel_rfl) (fun _ _ _ h => h) (by rfl) (fun w' hw' => ?_) rfl ?_
    rotate_left
    · try have k9 := cell13 HD.out HS.out (heap_gr (GR9.out.trans hw') HQ8.out)
      try have k2 := cell13 HD.out HS.out (heap_gr (GR9.out.trans hw') HG8.out)
      try have s1 := run_string_of (P := Try.prog) 24 9 5 Try.underlying24 Try.underlying5 Try.underlying9 (HT8.out.below (GR9.out.trans hw'))
      try have s2 := run_string_of (P := Try.prog) 24 9 5 Try.underlying24 Try.underlying5 Try.underlying9 ((HU.out.below HB8.out).below (GR9.out.trans hw'))
      go_simp
      with_reducible rfl
    simp only [Act.put, List.setIfInBounds_toArray, List.set_cons_zero, List.set_cons_succ]
    -- 3: slot 45
    refine wpG_take preGr (i := 3) (v := ?_) (by kernel_rfl) (some 45) (by kernel_rfl) rfl (by kernel_rfl) (by kernel_rfl) (by kernel_rfl) (fun _ _ _ h => h) (by rfl) (fun w' hw' => ?_) rfl ?_
    rotate_left
    · refine Eq.trans (load_row_run (P := Try.prog) 26 (.tmp 7) ?_ w4.heap.size ?_ 26 (ethL D S (T : Int) (.slice a4 m c4)).toArray (0, 0) _ (heap_gr ((Gr.drew w8).trans hw') HD8.out) Try.underlying26 rfl HA4.out) ?_
      · rfl
      · rfl
      · with_reducible rfl
    simp only [Act.put, List.setIfInBounds_toArray, List.set_cons_zero, List.set_cons_succ]
    -- 4: slot 46
    refine wpG_take preGr (i := 4) (v := ?_) (by kernel_rfl) (some 46) (by kernel_rfl) rfl (by kernel_rfl) (by kernel_rfl) (by kernel_rfl) (fun _ _ _ h => h) (by rfl) (fun w' hw' => ?_) rfl ?_
    rotate_left
    · refine Eq.trans (load_row_run (P := Try.prog) 26 (.tmp 2) ?_ W.heap.size ?_ 26 (ethL D S (T : Int) (.slice a0 m c0)).toArray (0, 0) _ (heap_gr ((Gr.drew w8).trans hw') HG8.out) Try.underlying26 rfl HA0.out) ?_
      · rfl
      · rfl
      · with_reducible rfl
    simp only [Act.put, List.setIfInBounds_toArray, List.set_cons_zero, List.set_cons_succ]
    refine wpG_one (i := 5) rfl (by kernel_rfl) (by rfl) ?_
    go_simp
    refine (same_true D S (T : Int) a4 a0 m c4 c0 x HD.out HS.out HX.out _ (HP8.out.below (Gr.drew w8)) ((HU.out.below HB8.out).below (Gr.drew w8))).mono ?_
    rintro e w9 ⟨rfl, hb9⟩
    have GR9 : Hid (Gr w8 w9) := (Gr.drew w8).trans hb9
    refine ⟨hb9, ?_⟩
    clear hb9
    try simp only [Act.put, List.setIfInBounds_toArray, List.set_cons_zero, List.set_cons_succ]
    -- 6: slot 48
    refine wpG_take preGr (i := 6) (v := ?_) (by kernel_rfl) (some 48) (by kernel_rfl) rfl (by kernel_rfl) (by kernel_rfl) (by kernel_rfl) (fun _ _ _ h => h) (by rfl) (fun w' hw' => ?_) rfl ?_
    rotate_left
    · try have k9 := cell13 HD.out HS.out (heap_gr (GR9.out.trans hw') HQ8.out)
      try have k2 := cell13 HD.out HS.out (heap_gr (GR9.out.trans hw') HG8.out)
      try have s1 := run_string_of (P := Try.prog) 24 9 5 Try.underlying24 Try.underlying5 Try.underlying9 (HT8.out.below (GR9.out.trans hw'))
      try have s2 := run_string_of (P := Try.prog) 24 9 5 Try.underlying24 Try.underlying5 Try.underlying9 ((HU.out.below HB8.out).below (GR9.out.trans hw'))
      go_simp
      with_reducible rfl
    simp only [Act.put, List.setIfInBounds_toArray, List.set_cons_zero, List.set_cons_succ]
    -- 7: slot 49
    refine wpG_take preGr (i := 7) (v := ?_) (by kernel_rfl) (some 49) (by kernel_rfl) rfl (by kernel_rfl) (by kernel_rfl) (by kernel_rfl) (fun _ _ _ h => h) (by rfl) (fun w' hw' => ?_) rfl ?_
    rotate_left
    · try have k9 := cell13 HD.out HS.out (heap_gr (GR9.out.trans hw') HQ8.out)
      try have k2 := cell13 HD.out HS.out (heap_gr (GR9.out.trans hw') HG8.out)
      try have s1 := run_string_of (P := Try.prog) 24 9 5 Try.underlying24 Try.underlying5 Try.underlying9 (HT8.out.below (GR9.out.trans hw'))
      try have s2 := run_string_of (P := Try.prog) 24 9 5 Try.underlying24 Try.underlying5 Try.underlying9 ((HU.out.below HB8.out).below (GR9.out.trans hw'))
      go_simp
      with_reducible rfl
    simp only [Act.put, List.setIfInBounds_toArray, List.set_cons_zero, List.set_cons_succ]
    -- 8: slot 50
    refine wpG_take preGr (i := 8) (v := ?_) (by kernel_rfl) (some 50) (by kernel_rfl) rfl (by kernel_rfl) (by kernel_rfl) (by kernel_rfl) (fun _ _ _ h => h) (by rfl) (fun w' hw' => ?_) rfl ?_
    rotate_left
    · try have k9 := cell13 HD.out HS.out (heap_gr (GR9.out.trans hw') HQ8.out)
      try have k2 := cell13 HD.out HS.out (heap_gr (GR9.out.trans hw') HG8.out)
      try have s1 := run_string_of (P := Try.prog) 24 9 5 Try.underlying24 Try.underlying5 Try.underlying9 (HT8.out.below (GR9.out.trans hw'))
      try have s2 := run_string_of (P := Try.prog) 24 9 5 Try.underlying24 Try.underlying5 Try.underlying9 ((HU.out.below HB8.out).below (GR9.out.trans hw'))
      go_simp
      with_reducible rfl
    simp only [Act.put, List.setIfInBounds_toArray, List.set_cons_zero, List.set_cons_succ]
    -- 9: slot 51
    refine wpG_take preGr (i := 9) (v := ?_) (by kernel_rfl) (some 51) (by kernel_rfl) rfl (by kernel_rfl) (by kernel_rfl) (by kernel_rfl) (fun _ _ _ h => h) (by rfl) (fun w' hw' => ?_) rfl ?_
    rotate_left
    · try have k9 := cell13 HD.out HS.out (heap_gr (GR9.out.trans hw') HQ8.out)
      try have k2 := cell13 HD.out HS.out (heap_gr (GR9.out.trans hw') HG8.out)
      try have s1 := run_string_of (P := Try.prog) 24 9 5 Try.underlying24 Try.underlying5 Try.underlying9 (HT8.out.below (GR9.out.trans hw'))
      try have s2 := run_string_of (P := Try.prog) 24 9 5 Try.underlying24 Try.underlying5 Try.underlying9 ((HU.out.below HB8.out).below (GR9.out.trans hw'))
      go_simp
      with_reducible rfl
    simp only [Act.put, List.setIfInBounds_toArray, List.set_cons_zero, List.set_cons_succ]
    -- 10: slot 52
    refine wpG_take preGr (i := 10) (v := ?_) (by kernel_rfl) (some 52) (by kernel_rfl) rfl (by kernel_rfl) (by kernel_rfl) (by kernel_rfl) (fun _ _ _ h => h) (by rfl) (fun w' hw' => ?_) rfl ?_
    rotate_left
    · try have k9 := cell13 HD.out HS.out (heap_gr (GR9.out.trans hw') HQ8.out)
      try have k2 := cell13 HD.out HS.out (heap_gr (GR9.out.trans hw') HG8.out)
      try have s1 := run_string_of (P := Try.prog) 24 9 5 Try.underlying24 Try.underlying5 Try.underlying9 (HT8.out.below (GR9.out.trans hw'))
      try have s2 := run_string_of (P := Try.prog) 24 9 5 Try.underlying24 Try.underlying5 Try.underlying9 ((HU.out.below HB8.out).below (GR9.out.trans hw'))
      go_simp
      with_reducible rfl
    simp only [Act.put, List.setIfInBounds_toArray, List.set_cons_zero, List.set_cons_succ]
    -- 11: slot 53
    refine wpG_take preGr (i := 11) (v := ?_) (by kernel_rfl) (some 53) (by kernel_rfl) rfl (by kernel_rfl) (by kernel_rfl) (by kernel_rfl) (fun _ _ _ h => h) (by rfl) (fun w' hw' => ?_) rfl ?_
    rotate_left
    · try have k9 := cell13 HD.out HS.out (heap_gr (GR9.out.trans hw') HQ8.out)
      try have k2 := cell13 HD.out HS.out (heap_gr (GR9.out.trans hw') HG8.out)
      try have s1 := run_string_of (P := Try.prog) 24 9 5 Try.underlying24 Try.underlying5 Try.underlying9 (HT8.out.below (GR9.out.trans hw'))
      try have s2 := run_string_of (P := Try.prog) 24 9 5 Try.underlying24 Try.underlying5 Try.underlying9 ((HU.out.below HB8.out).below (GR9.out.trans hw'))
      go_simp
      with_reducible rfl
    simp only [Act.put, List.setIfInBounds_toArray, List.set_cons_zero, List.set_cons_succ]
    -- 12: slot 54
    refine wpG_take preGr (i := 12) (v := ?_) (by kernel_rfl) (some 54) (by kernel_rfl) rfl (by kernel_rfl) (by kernel_rfl) (by kernel_rfl) (fun _ _ _ h => h) (by rfl) (fun w' hw' => ?_) rfl ?_
    rotate_left
    · try have k9 := cell13 HD.out HS.out (heap_gr (GR9.out.trans hw') HQ8.out)
      try have k2 := cell13 HD.out HS.out (heap_gr (GR9.out.trans hw') HG8.out)
      try have s1 := run_string_of (P := Try.prog) 24 9 5 Try.underlying24 Try.underlying5 Try.underlying9 (HT8.out.below (GR9.out.trans hw'))
      try have s2 := run_string_of (P := Try.prog) 24 9 5 Try.underlying24 Try.underlying5 Try.underlying9 ((HU.out.below HB8.out).below (GR9.out.trans hw'))
      go_simp
      with_reducible rfl
    simp only [Act.put, List.setIfInBounds_toArray, List.set_cons_zero, List.set_cons_succ]
    -- 13: slot 55
    refine wpG_take preGr (i := 13) (v := ?_) (by kernel_rfl) (some 55) (by kernel_rfl) rfl (by kernel_rfl) (by kernel_rfl) (by kernel_rfl) (fun _ _ _ h => h) (by rfl) (fun w' hw' => ?_) rfl ?_
    rotate_left
    · try have k9 := cell13 HD.out HS.out (heap_gr (GR9.out.trans hw') HQ8.out)
      try have k2 := cell13 HD.out HS.out (heap_gr (GR9.out.trans hw') HG8.out)
      try have s1 := run_string_of (P := Try.prog) 24 9 5 Try.underlying24 Try.underlying5 Try.underlying9 (HT8.out.below (GR9.out.trans hw'))
      try have s2 := run_string_of (P := Try.prog) 24 9 5 Try.underlying24 Try.underlying5 Try.underlying9 ((HU.out.below HB8.out).below (GR9.out.trans hw'))
      go_simp
      with_reducible rfl
    simp only [Act.put, List.setIfInBounds_toArray, List.set_cons_zero, List.set_cons_succ]
    -- 14: slot 56
    refine wpG_take preGr (i := 14) (v := ?_) (by kernel_rfl) (some 56) (by kernel_rfl) rfl (by kernel_rfl) (by kernel_rfl) (by kernel_rfl) (fun _ _ _ h => h) (by rfl) (fun w' hw' => ?_) rfl ?_
    rotate_left
    · try have k9 := cell13 HD.out HS.out (heap_gr (GR9.out.trans hw') HQ8.out)
      try have k2 := cell13 HD.out HS.out (heap_gr (GR9.out.trans hw') HG8.out)
      try have s1 := run_string_of (P := Try.prog) 24 9 5 Try.underlying24 Try.underlying5 Try.underlying9 (HT8.out.below (GR9.out.trans hw'))
      try have s2 := run_string_of (P := Try.prog) 24 9 5 Try.underlying24 Try.underlying5 Try.underlying9 ((HU.out.below HB8.out).below (GR9.out.trans hw'))
      go_simp
      with_reducible rfl
    simp only [Act.put, List.setIfInBounds_toArray, List.set_cons_zero, List.set_cons_succ]
    -- 15: slot 57
    refine wpG_take preGr (i := 15) (v := ?_) (by kernel_rfl) (some 57) (by kernel_rfl) rfl (by kernel_rfl) (by kernel_rfl) (by kernel_rfl) (fun _ _ _ h => h) (by rfl) (fun w' hw' => ?_) rfl ?_
    rotate_left
    · try have k9 := cell13 HD.out HS.out (heap_gr (GR9.out.trans hw') HQ8.out)
      try have k2 := cell13 HD.out HS.out (heap_gr (GR9.out.trans hw') HG8.out)
      try have s1 := run_string_of (P := Try.prog) 24 9 5 Try.underlying24 Try.underlying5 Try.underlying9 (HT8.out.below (GR9.out.trans hw'))
      try have s2 := run_string_of (P := Try.prog) 24 9 5 Try.underlying24 Try.underlying5 Try.underlying9 ((HU.out.below HB8.out).below (GR9.out.trans hw'))
      go_simp
      with_reducible rfl
    simp only [Act.put, List.setIfInBounds_toArray, List.set_cons_zero, List.set_cons_succ]
    -- 16: slot 58
    refine wpG_take preGr (i := 16) (v := ?_) (by kernel_rfl) (some 58) (by kernel_rfl) rfl (by kernel_rfl) (by kernel_rfl) (by kernel_rfl) (fun _ _ _ h => h) (by rfl) (fun w' hw' => ?_) rfl ?_
    rotate_left
    · try have k9 := cell13 HD.out HS.out (heap_gr (GR9.out.trans hw') HQ8.out)
      try have k2 := cell13 HD.out HS.out (heap_gr (GR9.out.trans hw') HG8.out)
      try have s1 := run_string_of (P := Try.prog) 24 9 5 Try.underlying24 Try.underlying5 Try.underlying9 (HT8.out.below (GR9.out.trans hw'))
      try have s2 := run_string_of (P := Try.prog) 24 9 5 Try.underlying24 Try.underlying5 Try.underlying9 ((HU.out.below HB8.out).below (GR9.out.trans hw'))
      go_simp
      with_reducible rfl
    simp only [Act.put, List.setIfInBounds_toArray, List.set_cons_zero, List.set_cons_succ]
    -- 17: slot 59
    refine wpG_take preGr (i := 17) (v := ?_) (by kernel_rfl) (some 59) (by kernel_rfl) rfl (by kernel_rfl) (by kernel_rfl) (by kernel_rfl) (fun _ _ _ h => h) (by rfl) (fun w' hw' => ?_) rfl ?_
    rotate_left
    · try have k9 := cell13 HD.out HS.out (heap_gr (GR9.out.trans hw') HQ8.out)
      try have k2 := cell13 HD.out HS.out (heap_gr (GR9.out.trans hw') HG8.out)
      try have s1 := run_string_of (P := Try.prog) 24 9 5 Try.underlying24 Try.underlying5 Try.underlying9 (HT8.out.below (GR9.out.trans hw'))
      try have s2 := run_string_of (P := Try.prog) 24 9 5 Try.underlying24 Try.underlying5 Try.underlying9 ((HU.out.below HB8.out).below (GR9.out.trans hw'))
      go_simp
      with_reducible rfl
    simp only [Act.put, List.setIfInBounds_toArray, List.set_cons_zero, List.set_cons_succ]
    refine wpG_pass preGr (i := 18) (by kernel_rfl) (some 60) (by kernel_rfl) rfl (by kernel_rfl) (by kernel_rfl) (by kernel_rfl) (fun _ _ _ h => h) (by rfl) rfl ?_
    simp only [Act.put, List.setIfInBounds_toArray, List.set_cons_zero, List.set_cons_succ]
    refine wpG_pass preGr (i := 19) (by kernel_rfl) (some 61) (by kernel_rfl) rfl (by kernel_rfl) (by kernel_rfl) (by kernel_rfl) (fun _ _ _ h => h) (by rfl) rfl ?_
    simp only [Act.put, List.setIfInBounds_toArray, List.set_cons_zero, List.set_cons_succ]
    refine wpG_pass preGr (i := 20) (by kernel_rfl) (some 62) (by kernel_rfl) rfl (by kernel_rfl) (by kernel_rfl) (by kernel_rfl) (fun _ _ _ h => h) (by rfl) rfl ?_
    simp only [Act.put, List.setIfInBounds_toArray, List.set_cons_zero, List.set_cons_succ]
    refine wpG_pass preGr (i := 21) (by kernel_rfl) (some 63) (by kernel_rfl) rfl (by kernel_rfl) (by kernel_rfl) (by kernel_rfl) (fun _ _ _ h => h) (by rfl) rfl ?_
    simp only [Act.put, List.setIfInBounds_toArray, List.set_cons_zero, List.set_cons_succ]
    refine wpG_pass preGr (i := 22) (by kernel_rfl) (some 64) (by kernel_rfl) rfl (by kernel_rfl) (by kernel_rfl) (by kernel_rfl) (fun _ _ _ h => h) (by rfl) rfl ?_
    simp only [Act.put, List.setIfInBounds_toArray, List.set_cons_zero, List.set_cons_succ]
    refine wpG_pass preGr (i := 23) (by kernel_rfl) (some 65) (by kernel_rfl) rfl (by kernel_rfl) (by kernel_rfl) (by kernel_rfl) (fun _ _ _ h => h) (by rfl) rfl ?_
    simp only [Act.put, List.setIfInBounds_toArray, List.set_cons_zero, List.set_cons_succ]
    refine wpG_pass preGr (i := 24) (by kernel_rfl) (some 66) (by kernel_rfl) rfl (by kernel_rfl) (by kernel_rfl) (by kernel_rfl) (fun _ _ _ h => h) (by rfl) rfl ?_
    simp only [Act.put, List.setIfInBounds_toArray, List.set_cons_zero, List.set_cons_succ]
    -- 25: slot 67
    refine wpG_take preGr (i := 25) (v := ?_) (by kernel_rfl) (some 67) (by kernel_rfl) rfl (by kernel_rfl) (by kernel_rfl) (by kernel_rfl) (fun _ _ _ h => h) (by rfl) (fun w' hw' => ?_) rfl ?_
    rotate_left
    · try have k9 := cell13 HD.out HS.out (heap_gr (GR9.out.trans hw') HQ8.out)
      try have k2 := cell13 HD.out HS.out (heap_gr (GR9.out.trans hw') HG8.out)
      try have s1 := run_string_of (P := Try.prog) 24 9 5 Try.underlying24 Try.underlying5 Try.underlying9 (HT8.out.below (GR9.out.trans hw'))
      try have s2 := run_string_of (P := Try.prog) 24 9 5 Try.underlying24 Try.underlying5 Try.underlying9 ((HU.out.below HB8.out).below (GR9.out.trans hw'))
      go_simp
      with_reducible rfl
    simp only [Act.put, List.setIfInBounds_toArray, List.set_cons_zero, List.set_cons_succ]
    -- 26: slot 68
    refine wpG_take preGr (i := 26) (v := ?_) (by kernel_rfl) (some 68) (by kernel_rfl) rfl (by kernel_rfl) (by kernel_rfl) (by kernel_rfl) (fun _ _ _ h => h) (by rfl) (fun w' hw' => ?_) rfl ?_
    rotate_left
    · try have k9 := cell13 HD.out HS.out (heap_gr (GR9.out.trans hw') HQ8.out)
      try have k2 := cell13 HD.out HS.out (heap_gr (GR9.out.trans hw') HG8.out)
      try have s1 := run_string_of (P := Try.prog) 24 9 5 Try.underlying24 Try.underlying5 Try.underlying9 (HT8.out.below (GR9.out.trans hw'))
      try have s2 := run_string_of (P := Try.prog) 24 9 5 Try.underlying24 Try.underlying5 Try.underlying9 ((HU.out.below HB8.out).below (GR9.out.trans hw'))
      go_simp
      with_reducible rfl
    simp only [Act.put, List.setIfInBounds_toArray, List.set_cons_zero, List.set_cons_succ]
    -- 27: slot 69
    refine wpG_take preGr (i := 27) (v := ?_) (by kernel_rfl) (some 69) (by kernel_rfl) rfl (by kernel_rfl) (by kernel_rfl) (by kernel_rfl) (fun _ _ _ h => h) (by rfl) (fun w' hw' => ?_) rfl ?_
    rotate_left
    · try have k9 := cell13 HD.out HS.out (heap_gr (GR9.out.trans hw') HQ8.out)
      try have k2 := cell13 HD.out HS.out (heap_gr (GR9.out.trans hw') HG8.out)
      try have s1 := run_string_of (P := Try.prog) 24 9 5 Try.underlying24 Try.underlying5 Try.underlying9 (HT8.out.below (GR9.out.trans hw'))
      try have s2 := run_string_of (P := Try.prog) 24 9 5 Try.underlying24 Try.underlying5 Try.underlying9 ((HU.out.below HB8.out).below (GR9.out.trans hw'))
      go_simp
      with_reducible rfl
    simp only [Act.put, List.setIfInBounds_toArray, List.set_cons_zero, List.set_cons_succ]
    -- 28: slot 70
    refine wpG_take preGr (i := 28) (v := ?_) (by kernel_rfl) (some 70) (by kernel_rfl) rfl (by kernel_rfl) (by kernel_rfl) (by kernel_rfl) (fun _ _ _ h => h) (by rfl) (fun w' hw' => ?_) rfl ?_
    rotate_left
    · try have k9 := cell13 HD.out HS.out (heap_gr (GR9.out.trans hw') HQ8.out)
      try have k2 := cell13 HD.out HS.out (heap_gr (GR9.out.trans hw') HG8.out)
      try have s1 := run_string_of (P := Try.prog) 24 9 5 Try.underlying24 Try.underlying5 Try.underlying9 (HT8.out.below (GR9.out.trans hw'))
      try have s2 := run_string_of (P := Try.prog) 24 9 5 Try.underlying24 Try.underlying5 Try.underlying9 ((HU.out.below HB8.out).below (GR9.out.trans hw'))
      go_simp
      with_reducible rfl
    simp only [Act.put, List.setIfInBounds_toArray, List.set_cons_zero, List.set_cons_succ]
    -- 29: slot 71
    refine wpG_take preGr (i := 29) (v := ?_) (by kernel_rfl) (some 71) (by kernel_rfl) rfl (by kernel_rfl) (by kernel_rfl) (by kernel_rfl) (fun _ _ _ h => h) (by rfl) (fun w' hw' => ?_) rfl ?_
    rotate_left
    · try have k9 := cell13 HD.out HS.out (heap_gr (GR9.out.trans hw') HQ8.out)
      try have k2 := cell13 HD.out HS.out (heap_gr (GR9.out.trans hw') HG8.out)
      try have s1 := run_string_of (P := Try.prog) 24 9 5 Try.underlying24 Try.underlying5 Try.underlying9 (HT8.out.below (GR9.out.trans hw'))
      try have s2 := run_string_of (P := Try.prog) 24 9 5 Try.underlying24 Try.underlying5 Try.underlying9 ((HU.out.below HB8.out).below (GR9.out.trans hw'))
      go_simp
      with_reducible rfl
    simp only [Act.put, List.setIfInBounds_toArray, List.set_cons_zero, List.set_cons_succ]
    -- 30: slot 72
    refine wpG_take preGr (i := 30) (v := ?_) (by kernel_rfl) (some 72) (by kernel_rfl) rfl (by kernel_rfl) (by kernel_rfl) (by kernel_rfl) (fun _ _ _ h => h) (by rfl) (fun w' hw' => ?_) rfl ?_
    rotate_left
    · try have k9 := cell13 HD.out HS.out (heap_gr (GR9.out.trans hw') HQ8.out)
      try have k2 := cell13 HD.out HS.out (heap_gr (GR9.out.trans hw') HG8.out)
      try have s1 := run_string_of (P := Try.prog) 24 9 5 Try.underlying24 Try.underlying5 Try.underlying9 (HT8.out.below (GR9.out.trans hw'))
      try have s2 := run_string_of (P := Try.prog) 24 9 5 Try.underlying24 Try.underlying5 Try.underlying9 ((HU.out.below HB8.out).below (GR9.out.trans hw'))
      go_simp
      with_reducible rfl
    simp only [Act.put, List.setIfInBounds_toArray, List.set_cons_zero, List.set_cons_succ]
    -- 31: slot 73
    refine wpG_take preGr (i := 31) (v := ?_) (by kernel_rfl) (some 73) (by kernel_rfl) rfl (by kernel_rfl) (by kernel_rfl) (by kernel_rfl) (fun _ _ _ h => h) (by rfl) (fun w' hw' => ?_) rfl ?_
    rotate_left
    · try have k9 := cell13 HD.out HS.out (heap_gr (GR9.out.trans hw') HQ8.out)
      try have k2 := cell13 HD.out HS.out (heap_gr (GR9.out.trans hw') HG8.out)
      try have s1 := run_string_of (P := Try.prog) 24 9 5 Try.underlying24 Try.underlying5 Try.underlying9 (HT8.out.below (GR9.out.trans hw'))
      try have s2 := run_string_of (P := Try.prog) 24 9 5 Try.underlying24 Try.underlying5 Try.underlying9 ((HU.out.below HB8.out).below (GR9.out.trans hw'))
      go_simp
      with_reducible rfl
    simp only [Act.put, List.setIfInBounds_toArray, List.set_cons_zero, List.set_cons_succ]
    -- 32: slot 74
    refine wpG_take preGr (i := 32) (v := ?_) (by kernel_rfl) (some 74) (by kernel_rfl) rfl (by kernel_rfl) (by kernel_rfl) (by kernel_rfl) (fun _ _ _ h => h) (by rfl) (fun w' hw' => ?_) rfl ?_
    rotate_left
    · try have k9 := cell13 HD.out HS.out (heap_gr (GR9.out.trans hw') HQ8.out)
      try have k2 := cell13 HD.out HS.out (heap_gr (GR9.out.trans hw') HG8.out)
      try have s1 := run_string_of (P := Try.prog) 24 9 5 Try.underlying24 Try.underlying5 Try.underlying9 (HT8.out.below (GR9.out.trans hw'))
      try have s2 := run_string_of (P := Try.prog) 24 9 5 Try.underlying24 Try.underlying5 Try.underlying9 ((HU.out.below HB8.out).below (GR9.out.trans hw'))
      go_simp
      with_reducible rfl
    simp only [Act.put, List.setIfInBounds_toArray, List.set_cons_zero, List.set_cons_succ]
    -- 33: slot 75
    refine wpG_take preGr (i := 33) (v := ?_) (by kernel_rfl) (some 75) (by kernel_rfl) rfl (by kernel_rfl) (by kernel_rfl) (by kernel_rfl) (fun _ _ _ h => h) (by rfl) (fun w' hw' => ?_) rfl ?_
    rotate_left
    · try have k9 := cell13 HD.out HS.out (heap_gr (GR9.out.trans hw') HQ8.out)
      try have k2 := cell13 HD.out HS.out (heap_gr (GR9.out.trans hw') HG8.out)
      try have s1 := run_string_of (P := Try.prog) 24 9 5 Try.underlying24 Try.underlying5 Try.underlying9 (HT8.out.below (GR9.out.trans hw'))
      try have s2 := run_string_of (P := Try.prog) 24 9 5 Try.underlying24 Try.underlying5 Try.underlying9 ((HU.out.below HB8.out).below (GR9.out.trans hw'))
      go_simp
      with_reducible rfl
    simp only [Act.put, List.setIfInBounds_toArray, List.set_cons_zero, List.set_cons_succ]
    -- 34: slot 76
    refine wpG_take preGr (i := 34) (v := ?_) (by kernel_rfl) (some 76) (by kernel_rfl) rfl (by kernel_rfl) (by kernel_rfl) (by kernel_rfl) (fun _ _ _ h => h) (by rfl) (fun w' hw' => ?_) rfl ?_
    rotate_left
    · try have k9 := cell13 HD.out HS.out (heap_gr (GR9.out.trans hw') HQ8.out)
      try have k2 := cell13 HD.out HS.out (heap_gr (GR9.out.trans hw') HG8.out)
      try have s1 := run_string_of (P := Try.prog) 24 9 5 Try.underlying24 Try.underlying5 Try.underlying9 (HT8.out.below (GR9.out.trans hw'))
      try have s2 := run_string_of (P := Try.prog) 24 9 5 Try.underlying24 Try.underlying5 Try.underlying9 ((HU.out.below HB8.out).below (GR9.out.trans hw'))
      go_simp
      with_reducible rfl
    simp only [Act.put, List.setIfInBounds_toArray, List.set_cons_zero, List.set_cons_succ]
    -- 35: slot 77
    refine wpG_take preGr (i := 35) (v := ?_) (by kernel_rfl) (some 77) (by kernel_rfl) rfl (by kernel_rfl) (by kernel_rfl) (by kernel_rfl) (fun _ _ _ h => h) (by rfl) (fun w' hw' => ?_) rfl ?_
    rotate_left
    · try have k9 := cell13 HD.out HS.out (heap_gr (GR9.out.trans hw') HQ8.out)
      try have k2 := cell13 HD.out HS.out (heap_gr (GR9.out.trans hw') HG8.out)
      try have s1 := run_string_of (P := Try.prog) 24 9 5 Try.underlying24 Try.underlying5 Try.underlying9 (HT8.out.below (GR9.out.trans hw'))
      try have s2 := run_string_of (P := Try.prog) 24 9 5 Try.underlying24 Try.underlying5 Try.underlying9 ((HU.out.below HB8.out).below (GR9.out.trans hw'))
      go_simp
      with_reducible rfl
    simp only [Act.put, List.setIfInBounds_toArray, List.set_cons_zero, List.set_cons_succ]
    -- 36: slot 78
    refine wpG_take preGr (i := 36) (v := ?_) (by kernel_rfl) (some 78) (by kernel_rfl) rfl (by kernel_rfl) (by kernel_rfl) (by kernel_rfl) (fun _ _ _ h => h) (by rfl) (fun w' hw' => ?_) rfl ?_
    rotate_left
    · try have k9 := cell13 HD.out HS.out (heap_gr (GR9.out.trans hw') HQ8.out)
      try have k2 := cell13 HD.out HS.out (heap_gr (GR9.out.trans hw') HG8.out)
      try have s1 := run_string_of (P := Try.prog) 24 9 5 Try.underlying24 Try.underlying5 Try.underlying9 (HT8.out.below (GR9.out.trans hw'))
      try have s2 := run_string_of (P := Try.prog) 24 9 5 Try.underlying24 Try.underlying5 Try.underlying9 ((HU.out.below HB8.out).below (GR9.out.trans hw'))
      go_simp
      with_reducible rfl
    simp only [Act.put, List.setIfInBounds_toArray, List.set_cons_zero, List.set_cons_succ]
    -- 37: slot 79
    refine wpG_take preGr (i := 37) (v := ?_) (by kernel_rfl) (some 79) (by kernel_rfl) rfl (by kernel_rfl) (by kernel_rfl) (by kernel_rfl) (fun _ _ _ h => h) (by rfl) (fun w' hw' => ?_) rfl ?_
    rotate_left
    · try have k9 := cell13 HD.out HS.out (heap_gr (GR9.out.trans hw') HQ8.out)
      try have k2 := cell13 HD.out HS.out (heap_gr (GR9.out.trans hw') HG8.out)
      try have s1 := run_string_of (P := Try.prog) 24 9 5 Try.underlying24 Try.underlying5 Try.underlying9 (HT8.out.below (GR9.out.trans hw'))
      try have s2 := run_string_of (P := Try.prog) 24 9 5 Try.underlying24 Try.underlying5 Try.underlying9 ((HU.out.below HB8.out).below (GR9.out.trans hw'))
      go_simp
      with_reducible rfl
    simp only [Act.put, List.setIfInBounds_toArray, List.set_cons_zero, List.set_cons_succ]
    -- 38: slot 80
    refine wpG_take preGr (i := 38) (v := ?_) (by kernel_rfl) (some 80) (by kernel_rfl) rfl (by kernel_rfl) (by kernel_rfl) (by kernel_rfl) (fun _ _ _ h => h) (by rfl) (fun w' hw' => ?_) rfl ?_
    rotate_left
    · try have k9 := cell13 HD.out HS.out (heap_gr (GR9.out.trans hw') HQ8.out)
      try have k2 := cell13 HD.out HS.out (heap_gr (GR9.out.trans hw') HG8.out)
      try have s1 := run_string_of (P := Try.prog) 24 9 5 Try.underlying24 Try.underlying5 Try.underlying9 (HT8.out.below (GR9.out.trans hw'))
      try have s2 := run_string_of (P := Try.prog) 24 9 5 Try.underlying24 Try.underlying5 Try.underlying9 ((HU.out.below HB8.out).below (GR9.out.trans hw'))
      go_simp
      with_reducible rfl
    simp only [Act.put, List.setIfInBounds_toArray, List.set_cons_zero, List.set_cons_succ]
    -- 39: slot 81
    refine wpG_take preGr (i := 39) (v := ?_) (by kernel_rfl) (some 81) (by kernel_rfl) rfl (by kernel_rfl) (by kernel_rfl) (by kernel_rfl) (fun _ _ _ h => h) (by rfl) (fun w' hw' => ?_) rfl ?_
    rotate_left
    · try have k9 := cell13 HD.out HS.out (heap_gr (GR9.out.trans hw') HQ8.out)
      try have k2 := cell13 HD.out HS.out (heap_gr (GR9.out.trans hw') HG8.out)
      try have s1 := run_string_of (P := Try.prog) 24 9 5 Try.underlying24 Try.underlying5 Try.underlying9 (HT8.out.below (GR9.out.trans hw'))
      try have s2 := run_string_of (P := Try.prog) 24 9 5 Try.underlying24 Try.underlying5 Try.underlying9 ((HU.out.below HB8.out).below (GR9.out.trans hw'))
      go_simp
      with_reducible rfl
    simp only [Act.put, List.setIfInBounds_toArray, List.set_cons_zero, List.set_cons_succ]
    -- 40: slot 82
    refine wpG_take preGr (i := 40) (v := ?_) (by kernel_rfl) (some 82) (by kernel_rfl) rfl (by kernel_rfl) (by kernel_rfl) (by kernel_rfl) (fun _ _ _ h => h) (by rfl) (fun w' hw' => ?_) rfl ?_
    rotate_left
    · try have k9 := cell13 HD.out HS.out (heap_gr (GR9.out.trans hw') HQ8.out)
      try have k2 := cell13 HD.out HS.out (heap_gr (GR9.out.trans hw') HG8.out)
      try have s1 := run_string_of (P := Try.prog) 24 9 5 Try.underlying24 Try.underlying5 Try.underlying9 (HT8.out.below (GR9.out.trans hw'))
      try have s2 := run_string_of (P := Try.prog) 24 9 5 Try.underlying24 Try.underlying5 Try.underlying9 ((HU.out.below HB8.out).below (GR9.out.trans hw'))
      go_simp
      with_reducible rfl
    simp only [Act.put, List.setIfInBounds_toArray, List.set_cons_zero, List.set_cons_succ]
    -- 41: slot 83
    refine wpG_take preGr (i := 41) (v := ?_) (by kernel_rfl) (some 83) (by kernel_rfl) rfl (by kernel_rfl) (by kernel_rfl) (by kernel_rfl) (fun _ _ _ h => h) (by rfl) (fun w' hw' => ?_) rfl ?_
    rotate_left
    · try have k9 := cell13 HD.out HS.out (heap_gr (GR9.out.trans hw') HQ8.out)
      try have k2 := cell13 HD.out HS.out (heap_gr (GR9.out.trans hw') HG8.out)
      try have s1 := run_string_of (P := Try.prog) 24 9 5 Try.underlying24 Try.underlying5 Try.underlying9 (HT8.out.below (GR9.out.trans hw'))
      try have s2 := run_string_of (P := Try.prog) 24 9 5 Try.underlying24 Try.underlying5 Try.underlying9 ((HU.out.below HB8.out).below (GR9.out.trans hw'))
      go_simp
      with_reducible rfl
    simp only [Act.put, List.setIfInBounds_toArray, List.set_cons_zero, List.set_cons_succ]
    -- 42: slot 84
    refine wpG_take preGr (i := 42) (v := ?_) (by kernel_rfl) (some 84) (by kernel_rfl) rfl (by kernel_rfl) (by kernel_rfl) (by kernel_rfl) (fun _ _ _ h => h) (by rfl) (fun w' hw' => ?_) rfl ?_
    rotate_left
    · try have k9 := cell13 HD.out HS.out (heap_gr (GR9.out.trans hw') HQ8.out)
      try have k2 := cell13 HD.out HS.out (heap_gr (GR9.out.trans hw') HG8.out)
      try have s1 := run_string_of (P := Try.prog) 24 9 5 Try.underlying24 Try.underlying5 Try.underlying9 (HT8.out.below (GR9.out.trans hw'))
      try have s2 := run_string_of (P := Try.prog) 24 9 5 Try.underlying24 Try.underlying5 Try.underlying9 ((HU.out.below HB8.out).below (GR9.out.trans hw'))
      go_simp
      with_reducible rfl
    simp only [Act.put, List.setIfInBounds_toArray, List.set_cons_zero, List.set_cons_succ]
    -- 43: slot 85
    refine wpG_take preGr (i := 43) (v := ?_) (by kernel_rfl) (some 85) (by kernel_rfl) rfl (by kernel_rfl) (by kernel_rfl) (by kernel_rfl) (fun _ _ _ h => h) (by rfl) (fun w' hw' => ?_) rfl ?_
    rotate_left
    · try have k9 := cell13 HD.out HS.out (heap_gr (GR9.out.trans hw') HQ8.out)
      try have k2 := cell13 HD.out HS.out (heap_gr (GR9.out.trans hw') HG8.out)
      try have s1 := run_string_of (P := Try.prog) 24 9 5 Try.underlying24 Try.underlying5 Try.underlying9 (HT8.out.below (GR9.out.trans hw'))
      try have s2 := run_string_of (P := Try.prog) 24 9 5 Try.underlying24 Try.underlying5 Try.underlying9 ((HU.out.below HB8.out).below (GR9.out.trans hw'))
      go_simp
      with_reducible rfl
    simp only [Act.put, List.setIfInBounds_toArray, List.set_cons_zero, List.set_cons_succ]
    -- 44: slot 86
    refine wpG_take preGr (i := 44) (v := ?_) (by kernel_rfl) (some 86) (by kernel_rfl) rfl (by kernel_rfl) (by kernel_rfl) (by kernel_rfl) (fun _ _ _ h => h) (by rfl) (fun w' hw' => ?_) rfl ?_
    rotate_left
    · try have k9 := cell13 HD.out HS.out (heap_gr (GR9.out.trans hw') HQ8.out)
      try have k2 := cell13 HD.out HS.out (heap_gr (GR9.out.trans hw') HG8.out)
      try have s1 := run_string_of (P := Try.prog) 24 9 5 Try.underlying24 Try.underlying5 Try.underlying9 (HT8.out.below (GR9.out.trans hw'))
      try have s2 := run_string_of (P := Try.prog) 24 9 5 Try.underlying24 Try.underlying5 Try.underlying9 ((HU.out.below HB8.out).below (GR9.out.trans hw'))
      go_simp
      with_reducible rfl
    simp only [Act.put, List.setIfInBounds_toArray, List.set_cons_zero, List.set_cons_succ]
    -- 45: slot 87
    refine wpG_take preGr (i := 45) (v := ?_) (by kernel_rfl) (some 87) (by kernel_rfl) rfl (by kernel_rfl) (by kernel_rfl) (by kernel_rfl) (fun _ _ _ h => h) (by rfl) (fun w' hw' => ?_) rfl ?_
    rotate_left
    · try have k9 := cell13 HD.out HS.out (heap_gr (GR9.out.trans hw') HQ8.out)
      try have k2 := cell13 HD.out HS.out (heap_gr (GR9.out.trans hw') HG8.out)
      try have s1 := run_string_of (P := Try.prog) 24 9 5 Try.underlying24 Try.underlying5 Try.underlying9 (HT8.out.below (GR9.out.trans hw'))
      try have s2 := run_string_of (P := Try.prog) 24 9 5 Try.underlying24 Try.underlying5 Try.underlying9 ((HU.out.below HB8.out).below (GR9.out.trans hw'))
      go_simp
      with_reducible rfl
    simp only [Act.put, List.setIfInBounds_toArray, List.set_cons_zero, List.set_cons_succ]
    -- 46: slot 88
    refine wpG_take preGr (i := 46) (v := ?_) (by kernel_rfl) (some 88) (by kernel_rfl) rfl (by kernel_rfl) (by kernel_rfl) (by kernel_rfl) (fun _ _ _ h => h) (by rfl) (fun w' hw' => ?_) rfl ?_
    rotate_left
    · try have k9 := cell13 HD.out HS.out (heap_gr (GR9.out.trans hw') HQ8.out)
      try have k2 := cell13 HD.out HS.out (heap_gr (GR9.out.trans hw') HG8.out)
      try have s1 := run_string_of (P := Try.prog) 24 9 5 Try.underlying24 Try.underlying5 Try.underlying9 (HT8.out.below (GR9.out.trans hw'))
      try have s2 := run_string_of (P := Try.prog) 24 9 5 Try.underlying24 Try.underlying5 Try.underlying9 ((HU.out.below HB8.out).below (GR9.out.trans hw'))
      go_simp
      with_reducible rfl
    simp only [Act.put, List.setIfInBounds_toArray, List.set_cons_zero, List.set_cons_succ]
    -- 47: slot 89
    refine wpG_take preGr (i := 47) (v := ?_) (by kernel_rfl) (some 89) (by kernel_rfl) rfl (by kernel_rfl) (by kernel_rfl) (by kernel_rfl) (fun _ _ _ h => h) (by rfl) (fun w' hw' => ?_) rfl ?_
    rotate_left
    · try have k9 := cell13 HD.out HS.out (heap_gr (GR9.out.trans hw') HQ8.out)
      try have k2 := cell13 HD.out HS.out (heap_gr (GR9.out.trans hw') HG8.out)
      try have s1 := run_string_of (P := Try.prog) 24 9 5 Try.underlying24 Try.underlying5 Try.underlying9 (HT8.out.below (GR9.out.trans hw'))
      try have s2 := run_string_of (P := Try.prog) 24 9 5 Try.underlying24 Try.underlying5 Try.underlying9 ((HU.out.below HB8.out).below (GR9.out.trans hw'))
      go_simp
      with_reducible rfl
    simp only [Act.put, List.setIfInBounds_toArray, List.set_cons_zero, List.set_cons_succ]
    -- 48: slot 90
    refine wpG_take preGr (i := 48) (v := ?_) (by kernel_rfl) (some 90) (by kernel_rfl) rfl (by kernel_rfl) (by kernel_rfl) (by kernel_rfl) (fun _ _ _ h => h) (by rfl) (fun w' hw' => ?_) rfl ?_
    rotate_left
    · try have k9 := cell13 HD.out HS.out (heap_gr (GR9.out.trans hw') HQ8.out)
      try have k2 := cell13 HD.out HS.out (heap_gr (GR9.out.trans hw') HG8.out)
      try have s1 := run_string_of (P := Try.prog) 24 9 5 Try.underlying24 Try.underlying5 Try.underlying9 (HT8.out.below (GR9.out.trans hw'))
      try have s2 := run_string_of (P := Try.prog) 24 9 5 Try.underlying24 Try.underlying5 Try.underlying9 ((HU.out.below HB8.out).below (GR9.out.trans hw'))
      go_simp
      with_reducible rfl
    simp only [Act.put, List.setIfInBounds_toArray, List.set_cons_zero, List.set_cons_succ]
    refine wpG_done (by kernel_rfl) ?_ _
    have HB9 := Lib.hid (HB8.out.trans (Below.mono GR9.out HB8.out.size))
    have k9 := cell13 HD.out HS.out (heap_gr GR9.out HQ8.out)
    have k2 := cell13 HD.out HS.out (heap_gr GR9.out HG8.out)
    have HR9 : Hid (Bs w9 (.slice a7 q c7) (behL x)) := HR8.out.below GR9.out
    have hq0 : 0 < (behL x).length := by have := HQ.out; omega
    obtain ⟨b7, o7, ea7, hbl7, hcell7⟩ := HR9.out.cells hq0
    subst ea7
    have HCELL := Lib.hid hcell7
    clear hcell7 hq0 q46 qm hsl
    go_wp2
    clear k2
    go_loopw [11] (fun iv wr => ∃ i : Nat, m ≤ i ∧ i ≤ q ∧ iv = .int .i64 (i : Int) ∧ w9 = wr) (fun iv _ => q - (intOf iv).toNat)
    case atStart => exact ⟨m, Nat.le_refl _, hq2, rfl, rfl⟩
    case round =>
      obtain ⟨i, hmi, hiq, rfl, rfl⟩ := hrel
      by_cases hlt : i < q
      · have d0 : w9.cell? ⟨b7, o7 + i, none⟩ = some (.int .u8 0) := by
          have hib : i < (behL x).length := by have := HQ.out; omega
          have h1 := HCELL.out i hib
          have h2 := behL_zero x i (by rw [HX.out]; exact hmi) hib
          rw [List.getElem?_eq_getElem hib] at h2
          rw [h1, Option.some.inj h2]
          rfl
        go_wp2
        go_roundw
        case rel => exact ⟨i + 1, by omega, by omega, by go_num, trivial⟩
        case measure => simp [intOf]; omega
      · obtain rfl : q = i := by omega
        clear hlt
        have HVb := Lib.hid (HU1.out.below HB9.out)
        have DCb := Lib.hid (decode_any a1 m1 c1 x1 HX1.out w9 HVb.out (by omega))
        go_wp2_with fail
        refine DCb.out.mono ?_
        rintro e wP ⟨vP, rfl, hownP, hbP⟩
        have HBP := Lib.hid (HB9.out.trans (hbP.mono HB9.out.size))
        obtain ⟨aP, cP, evP, _, _⟩ := (hownP.bs).shape
        subst evP
        by_cases hdz : dchk x1 = 0
        · have hz4 := dchk_zero hdz
          have e1 : decD x1 = x1.take 6 := by unfold decD; rw [if_pos hdz]
          have e2 : decS x1 = (x1.drop 6).take 6 := by unfold decS; rw [if_pos hdz]
          have e3 : decT x1 = (typN x1 : Int) := by unfold decT; rw [if_pos hdz]
          have e4 : decP x1 = x1.drop 14 := by unfold decP; rw [if_pos hdz]
          have hwt := wire_take x1 hz4.1
          rw [← e1, ← e2, ← e4] at hwt
          have hDL := decD_length x1
          have hSL := decS_length x1
          have hpl : (decP x1).length = x1.length - 14 := by rw [e4, List.length_drop]
          rw [e3, hdz]
          obtain ⟨Dp, hDp⟩ : ∃ Dp, Dp = decD x1 := ⟨_, rfl⟩
          obtain ⟨Sp, hSp⟩ : ∃ Sp, Sp = decS x1 := ⟨_, rfl⟩
          obtain ⟨Tp, hTp⟩ : ∃ Tp, Tp = typN x1 := ⟨_, rfl⟩
          obtain ⟨Pp, hPp⟩ : ∃ Pp, Pp = decP x1 := ⟨_, rfl⟩
          rw [← hDp, ← hSp, ← hTp, ← hPp] at hwt
          rw [← hDp] at hDL
          rw [← hSp] at hSL
          rw [← hPp] at hpl hownP
          rw [← hDp, ← hSp, ← hTp, ← hPp]
          have hck : chk (Tp : Int) Pp.length = 0 := chk_of (by omega)
          have henc : encL Dp Sp (Tp : Int) Pp = x1 := by unfold encL; rw [if_pos hck]; exact hwt
          obtain ⟨pl, hplE⟩ : ∃ pl, pl = Pp.length := ⟨_, rfl⟩
          rw [← hplE]
          have HPL := Lib.hid hplE
          have HDL := Lib.hid hDL
          have HSL := Lib.hid hSL
          have HCK := Lib.hid hck
          have HEN := Lib.hid henc
          have HPP : Hid (Bs wP (.slice aP Pp.length cP) Pp) := hownP.bs
          rw [← hplE] at HPP
          have HLP := Lib.hid (ethL_length (Tp : Int) (.slice aP pl cP) hDL hSL)
          have HOP := Lib.hid (ethL_one Dp Sp (Tp : Int) (.slice aP pl cP) rfl)
          have HSP := Lib.hid (size26e (Tp : Int) (.slice aP pl cP) hDL hSL)
          have HSQ := Lib.hid (size26l (Tp : Int) (.slice aP pl cP) hDL hSL)
          have HNP : Hid ((ethL Dp Sp (Tp : Int) (.slice aP pl cP)).length = ethZ.length) := HLP
          have HZP : Hid ((wP.alloc (.cells #[.int .u8 0, .int .u8 0, .int .u8 0, .int .u8 0, .int .u8 0, .int .u8 0, .int .u8 0, .int .u8 0, .int .u8 0, .int .u8 0, .int .u8 0, .int .u8 0, .int .i64 0, .slice none 0 0] 26)).heap[wP.heap.size]? = some (.cells ethZ.toArray 26 (0, 0))) := heap_alloc_last _ _
          clear hownP hbP hdz hz4 e1 e2 e3 e4 hwt hDL hSL hpl hDp hSp hTp hPp hck henc hplE
          go_wp2_with (with_reducible refine wpList_store_whole rfl 26 (.tmp 12) (.tmp 110) rfl wP.heap.size _ rfl rfl 26 ethZ HZP.out HSP.out HNP.out HOP.out ?_)
          intro wQ hQ hoQ
          have hbQ : Below wP.heap.size wP wQ := hoQ.below _ _ (Nat.le_refl _) ((Below.refl _ _).alloc (Nat.le_refl _) _)
          have HBQ := Lib.hid (HBP.out.trans (hbQ.mono HBP.out.size))
          have HPQ := Lib.hid (HPP.out.below hbQ)
          have HGQ := Lib.hid hQ
          clear hQ hoQ hbQ
          go_wp2_with (with_reducible refine wpList_load_row rfl 26 (.tmp 12) rfl wP.heap.size rfl 26 _ (0, 0) _ HGQ.out Try.underlying26 rfl HSQ.out ?_)
          refine (encode_any Dp Sp (Tp : Int) aP pl cP Pp HDL.out HSL.out HPL.out.symm wQ HPQ.out).mono ?_
          rintro e wR ⟨vR, rfl, hownR, hbR⟩
          rw [HCK.out]
          rw [HEN.out] at hownR
          have HBR := Lib.hid (HBQ.out.trans (hbR.mono HBQ.out.size))
          have sR := run_string_of (P := Try.prog) 24 9 5 Try.underlying24 Try.underlying5 Try.underlying9 hownR.bs
          have sB := run_string_of (P := Try.prog) 24 9 5 Try.underlying24 Try.underlying5 Try.underlying9 (HU1.out.below HBR.out)
          clear hownR hbR
          go_wp2
          go_ret
          exact ⟨rfl, HBR.out⟩
        · have e1 : decD x1 = z6 := by unfold decD; rw [if_neg hdz]
          have e2 : decS x1 = z6 := by unfold decS; rw [if_neg hdz]
          have e3 : decT x1 = 0 := by unfold decT; rw [if_neg hdz]
          have e4 : decP x1 = [] := by unfold decP; rw [if_neg hdz]
          rw [e1, e2, e3, e4]
          rw [e4] at hownP
          obtain ⟨kk, hkk⟩ : ∃ kk, kk = dchk x1 := ⟨_, rfl⟩
          have hne : (kk != 0) = true := by rw [hkk]; simpa using hdz
          rw [← hkk]
          have HPP : Hid (Bs wP (.slice aP 0 cP) []) := hownP.bs
          have HOP := Lib.hid (ethL_one z6 z6 0 (.slice aP 0 cP) rfl)
          have HSP : Hid ((Try.prog.info? 26).map (·.size) = some (ethL z6 z6 0 (.slice aP 0 cP)).length) := size26e _ _ rfl rfl
          have HSQ : Hid ((Try.prog.info? 26).map (·.size) = some (ethL z6 z6 0 (.slice aP 0 cP)).toArray.size) := size26l _ _ rfl rfl
          have HNP : Hid ((ethL z6 z6 0 (.slice aP 0 cP)).length = ethZ.length) := Lib.hid rfl
          have HZP : Hid ((wP.alloc (.cells #[.int .u8 0, .int .u8 0, .int .u8 0, .int .u8 0, .int .u8 0, .int .u8 0, .int .u8 0, .int .u8 0, .int .u8 0, .int .u8 0, .int .u8 0, .int .u8 0, .int .i64 0, .slice none 0 0] 26)).heap[wP.heap.size]? = some (.cells ethZ.toArray 26 (0, 0))) := heap_alloc_last _ _
          clear hownP hbP hdz e1 e2 e3 e4 hkk
          simp only [List.length_nil]
          go_wp2_with (with_reducible refine wpList_store_whole rfl 26 (.tmp 12) (.tmp 110) rfl wP.heap.size (ethL z6 z6 0 (.slice aP 0 cP)) rfl rfl 26 ethZ HZP.out HSP.out HNP.out HOP.out ?_)
          intro wQ hQ hoQ
          have hbQ : Below wP.heap.size wP wQ := hoQ.below _ _ (Nat.le_refl _) ((Below.refl _ _).alloc (Nat.le_refl _) _)
          have HBQ := Lib.hid (HBP.out.trans (hbQ.mono HBP.out.size))
          have HPQ := Lib.hid (HPP.out.below hbQ)
          have HGQ := Lib.hid hQ
          clear hQ hoQ hbQ
          go_wp2_with (with_reducible refine wpList_load_row rfl 26 (.tmp 12) rfl wP.heap.size rfl 26 _ (0, 0) _ HGQ.out Try.underlying26 rfl HSQ.out ?_)
          change Calls Try.prog 17 #[.agg (ethL z6 z6 0 (.slice aP 0 cP)).toArray, .agg (ethL z6 z6 0 (.slice none 0 0)).toArray] _ _
          refine (same_true z6 z6 0 aP none 0 cP 0 [] rfl rfl rfl wQ HPQ.out (Bs.nil _)).mono ?_
          rintro e wR ⟨rfl, hbR⟩
          have HBR := Lib.hid (HBQ.out.trans (hbR.mono HBQ.out.size))
          clear hbR
          go_wp2
          go_ret
          exact ⟨rfl, HBR.out⟩
  · have hne : (k == 0) = false := by rw [beq_eq_false_iff_ne]; exact h0
    clear h0 HK
    go_wp2_with fail
    have HVb := Lib.hid (HU1.out.below HB3.out)
    have DCb := Lib.hid (decode_any a1 m1 c1 x1 HX1.out w3 HVb.out (by omega))
    go_wp2_with fail
    refine DCb.out.mono ?_
    rintro e wP ⟨vP, rfl, hownP, hbP⟩
    have HBP := Lib.hid (HB3.out.trans (hbP.mono HB3.out.size))
    obtain ⟨aP, cP, evP, _, _⟩ := (hownP.bs).shape
    subst evP
    by_cases hdz : dchk x1 = 0
    · have hz4 := dchk_zero hdz
      have e1 : decD x1 = x1.take 6 := by unfold decD; rw [if_pos hdz]
      have e2 : decS x1 = (x1.drop 6).take 6 := by unfold decS; rw [if_pos hdz]
      have e3 : decT x1 = (typN x1 : Int) := by unfold decT; rw [if_pos hdz]
      have e4 : decP x1 = x1.drop 14 := by unfold decP; rw [if_pos hdz]
      have hwt := wire_take x1 hz4.1
      rw [← e1, ← e2, ← e4] at hwt
      have hDL := decD_length x1
      have hSL := decS_length x1
      have hpl : (decP x1).length = x1.length - 14 := by rw [e4, List.length_drop]
      rw [e3, hdz]
      obtain ⟨Dp, hDp⟩ : ∃ Dp, Dp = decD x1 := ⟨_, rfl⟩
      obtain ⟨Sp, hSp⟩ : ∃ Sp, Sp = decS x1 := ⟨_, rfl⟩
      obtain ⟨Tp, hTp⟩ : ∃ Tp, Tp = typN x1 := ⟨_, rfl⟩
      obtain ⟨Pp, hPp⟩ : ∃ Pp, Pp = decP x1 := ⟨_, rfl⟩
      rw [← hDp, ← hSp, ← hTp, ← hPp] at hwt
      rw [← hDp] at hDL
      rw [← hSp] at hSL
      rw [← hPp] at hpl hownP
      rw [← hDp, ← hSp, ← hTp, ← hPp]
      have hck : chk (Tp : Int) Pp.length = 0 := chk_of (by omega)
      have henc : encL Dp Sp (Tp : Int) Pp = x1 := by unfold encL; rw [if_pos hck]; exact hwt
      obtain ⟨pl, hplE⟩ : ∃ pl, pl = Pp.length := ⟨_, rfl⟩
      rw [← hplE]
      have HPL := Lib.hid hplE
      have HDL := Lib.hid hDL
      have HSL := Lib.hid hSL
      have HCK := Lib.hid hck
      have HEN := Lib.hid henc
      have HPP : Hid (Bs wP (.slice aP Pp.length cP) Pp) := hownP.bs
      rw [← hplE] at HPP
      have HLP := Lib.hid (ethL_length (Tp : Int) (.slice aP pl cP) hDL hSL)
      have HOP := Lib.hid (ethL_one Dp Sp (Tp : Int) (.slice aP pl cP) rfl)
      have HSP := Lib.hid (size26e (Tp : Int) (.slice aP pl cP) hDL hSL)
      have HSQ := Lib.hid (size26l (Tp : Int) (.slice aP pl cP) hDL hSL)
      have HNP : Hid ((ethL Dp Sp (Tp : Int) (.slice aP pl cP)).length = ethZ.length) := HLP
      have HZP : Hid ((wP.alloc (.cells #[.int .u8 0, .int .u8 0, .int .u8 0, .int .u8 0, .int .u8 0, .int .u8 0, .int .u8 0, .int .u8 0, .int .u8 0, .int .u8 0, .int .u8 0, .int .u8 0, .int .i64 0, .slice none 0 0] 26)).heap[wP.heap.size]? = some (.cells ethZ.toArray 26 (0, 0))) := heap_alloc_last _ _
      clear hownP hbP hdz hz4 e1 e2 e3 e4 hwt hDL hSL hpl hDp hSp hTp hPp hck henc hplE
      go_wp2_with (with_reducible refine wpList_store_whole rfl 26 (.tmp 12) (.tmp 110) rfl wP.heap.size _ rfl rfl 26 ethZ HZP.out HSP.out HNP.out HOP.out ?_)
      intro wQ hQ hoQ
      have hbQ : Below wP.heap.size wP wQ := hoQ.below _ _ (Nat.le_refl _) ((Below.refl _ _).alloc (Nat.le_refl _) _)
      have HBQ := Lib.hid (HBP.out.trans (hbQ.mono HBP.out.size))
      have HPQ := Lib.hid (HPP.out.below hbQ)
      have HGQ := Lib.hid hQ
      clear hQ hoQ hbQ
      go_wp2_with (with_reducible refine wpList_load_row rfl 26 (.tmp 12) rfl wP.heap.size rfl 26 _ (0, 0) _ HGQ.out Try.underlying26 rfl HSQ.out ?_)
      refine (encode_any Dp Sp (Tp : Int) aP pl cP Pp HDL.out HSL.out HPL.out.symm wQ HPQ.out).mono ?_
      rintro e wR ⟨vR, rfl, hownR, hbR⟩
      rw [HCK.out]
      rw [HEN.out] at hownR
      have HBR := Lib.hid (HBQ.out.trans (hbR.mono HBQ.out.size))
      have sR := run_string_of (P := Try.prog) 24 9 5 Try.underlying24 Try.underlying5 Try.underlying9 hownR.bs
      have sB := run_string_of (P := Try.prog) 24 9 5 Try.underlying24 Try.underlying5 Try.underlying9 (HU1.out.below HBR.out)
      clear hownR hbR
      go_wp2
      go_ret
      exact ⟨rfl, HBR.out⟩
    · have e1 : decD x1 = z6 := by unfold decD; rw [if_neg hdz]
      have e2 : decS x1 = z6 := by unfold decS; rw [if_neg hdz]
      have e3 : decT x1 = 0 := by unfold decT; rw [if_neg hdz]
      have e4 : decP x1 = [] := by unfold decP; rw [if_neg hdz]
      rw [e1, e2, e3, e4]
      rw [e4] at hownP
      obtain ⟨kk, hkk⟩ : ∃ kk, kk = dchk x1 := ⟨_, rfl⟩
      have hne : (kk != 0) = true := by rw [hkk]; simpa using hdz
      rw [← hkk]
      have HPP : Hid (Bs wP (.slice aP 0 cP) []) := hownP.bs
      have HOP := Lib.hid (ethL_one z6 z6 0 (.slice aP 0 cP) rfl)
      have HSP : Hid ((Try.prog.info? 26).map (·.size) = some (ethL z6 z6 0 (.slice aP 0 cP)).length) := size26e _ _ rfl rfl
      have HSQ : Hid ((Try.prog.info? 26).map (·.size) = some (ethL z6 z6 0 (.slice aP 0 cP)).toArray.size) := size26l _ _ rfl rfl
      have HNP : Hid ((ethL z6 z6 0 (.slice aP 0 cP)).length = ethZ.length) := Lib.hid rfl
      have HZP : Hid ((wP.alloc (.cells #[.int .u8 0, .int .u8 0, .int .u8 0, .int .u8 0, .int .u8 0, .int .u8 0, .int .u8 0, .int .u8 0, .int .u8 0, .int .u8 0, .int .u8 0, .int .u8 0, .int .i64 0, .slice none 0 0] 26)).heap[wP.heap.size]? = some (.cells ethZ.toArray 26 (0, 0))) := heap_alloc_last _ _
      clear hownP hbP hdz e1 e2 e3 e4 hkk
      simp only [List.length_nil]
      go_wp2_with (with_reducible refine wpList_store_whole rfl 26 (.tmp 12) (.tmp 110) rfl wP.heap.size (ethL z6 z6 0 (.slice aP 0 cP)) rfl rfl 26 ethZ HZP.out HSP.out HNP.out HOP.out ?_)
      intro wQ hQ hoQ
      have hbQ : Below wP.heap.size wP wQ := hoQ.below _ _ (Nat.le_refl _) ((Below.refl _ _).alloc (Nat.le_refl _) _)
      have HBQ := Lib.hid (HBP.out.trans (hbQ.mono HBP.out.size))
      have HPQ := Lib.hid (HPP.out.below hbQ)
      have HGQ := Lib.hid hQ
      clear hQ hoQ hbQ
      go_wp2_with (with_reducible refine wpList_load_row rfl 26 (.tmp 12) rfl wP.heap.size rfl 26 _ (0, 0) _ HGQ.out Try.underlying26 rfl HSQ.out ?_)
      change Calls Try.prog 17 #[.agg (ethL z6 z6 0 (.slice aP 0 cP)).toArray, .agg (ethL z6 z6 0 (.slice none 0 0)).toArray] _ _
      refine (same_true z6 z6 0 aP none 0 cP 0 [] rfl rfl rfl wQ HPQ.out (Bs.nil _)).mono ?_
      rintro e wR ⟨rfl, hbR⟩
      have HBR := Lib.hid (HBQ.out.trans (hbR.mono HBQ.out.size))
      clear hbR
      go_wp2
      go_ret
      exact ⟨rfl, HBR.out⟩

theorem own : ownKnob Try.prog.godebug = none := by kernel_rfl
theorem laidOut : laidOutB Try.prog = true := by kernel_rfl
set_option maxRecDepth 100000 in
theorem lifted (os : Os) (started : os.Started) (H : Type) (enc : TypeId × Value → H) :
    ReturnsInHanded {} Try.checked os 6 .any (Rows.etherBackSpec.pre6 enc Try.prog Try.f6 Rows.etherBackRow.domain false) (Rows.etherBackSpec.post enc Try.prog Try.f6 false true false false) := by
  refine returnsInHanded_of_change (C := Try.checked) own started (by kernel_rfl) Try.func6
    (ChangeSpec.witness6 (enc := enc) (C := Try.checked) false ⟨#[], #[.agg #[.int .u8 0, .int .u8 0, .int .u8 0, .int .u8 0, .int .u8 0, .int .u8 0, .int .u8 0, .int .u8 0, .int .u8 0, .int .u8 0, .int .u8 0, .int .u8 0, .int .i64 0, .slice none 0 0], .slice none 0 0], []⟩ 8 (by kernel_rfl) (by kernel_rfl) (by kernel_rfl) (by kernel_rfl)) ?_
  intro W base args ds gs before hval0 hW hcnd _
  have hval : ∀ (j : Nat) t v, Try.f6.params[j]? = some t → args[j]? = some v → Value.okWide Try.prog W .any base t v := hval0
  have hW' := hW
  obtain ⟨p, q, hA0, hV, rfl, hfz, hnd⟩ := hW
  have hA : DataW.TrodAll enc Try.prog W 0 (fun _ => true) true Try.f6.params.toList args.toList ds p := hA0
  rw [Try.params6] at hA hval
  obtain ⟨v0, vs0, d0, ds0, p0, q0, hargs, rfl, rfl, h0, r0⟩ := trodAll_cons hA
  obtain ⟨v1, vs1, d1, ds1, p1, q1, rfl, rfl, rfl, h1, r1⟩ := trodAll_cons r0
  obtain ⟨rfl, rfl, rfl⟩ := trodAll_nil r1
  obtain rfl : args = #[v0, v1] := by cases args; simp_all
  obtain ⟨rfl, rfl⟩ := trodVars_none hV
  have k0 := h0
  have lt0 : ∀ x ∈ p0, x.block < W.heap.size := by obtain ⟨m, hm⟩ := k0; exact DataW.trod_lt m _ _ _ hm
  obtain ⟨D0, S0, ty0, a0, n0, c0, l0, rfl, hD0, hS0, wf0, hn0, b0⟩ := open_ether Try.underlying26 ⟨rfl, rfl, rfl, rfl⟩ Try.underlying23 Try.underlying23 Try.underlying3 Try.underlying24 Try.underlying5 ⟨by kernel_rfl, by kernel_rfl, by kernel_rfl, by kernel_rfl, by kernel_rfl, by kernel_rfl⟩ (hval 0 26 v0 rfl rfl) h0
  have k1 := h1
  have lt1 : ∀ x ∈ p1, x.block < W.heap.size := by obtain ⟨m, hm⟩ := k1; exact DataW.trod_lt m _ _ _ hm
  obtain ⟨a1, n1, c1, l1, rfl, hn1, b1⟩ := open_bytes Try.underlying24 Try.underlying5 (by kernel_rfl) (hval 1 24 v1 rfl rfl) h1
  clear hA0 hval0
  refine (walk W D0 S0 ty0 a0 n0 c0 l0 hD0 hS0 wf0 hn0 b0 a1 n1 c1 l1 hn1 b1).mono fun e W' ⟨he, bel⟩ => ?_
  subst he
  exact ⟨_, rfl, _, _, _, [], _, [], hW', trodAll_mk1 (shut_bool Try.underlying4 _), (trodAll_cons_mk (Below.trod laidOut (by kernel_rfl) (of_decide_eq_true (by kernel_rfl)) k0 bel lt0) (trodAll_cons_mk (Below.trod laidOut (by kernel_rfl) (of_decide_eq_true (by kernel_rfl)) k1 bel lt1) trodAll_mk0)), rfl, bel.frame _, fun h => by cases h⟩
theorem over : Rows.etherBackRow.holds Try.pinned (OpenSpec.ofChange Rows.etherBackSpec) :=
  OpenClaim.holds_of_wide 6 Try.f6 rfl rfl rfl rfl rfl rfl rfl ⟨rfl, rfl, rfl, rfl, rfl⟩ rfl rfl rfl rfl rfl (by kernel_rfl) Try.func6 (by kernel_rfl)
    (of_decide_eq_true (by kernel_rfl)) (by unfold Func.isWrapper; first | (rw [if_pos (by decide +kernel)]; kernel_rfl) | (rw [if_neg (by decide +kernel)]; exact ⟨rfl, rfl⟩))
    (fun os started H enc _ => lifted os started H enc)
/-- The statement. -/
theorem proved : Rows.EtherBackSaid := over
end Go.Proofs.Ytkalbchcgdnciaa.etherBack
