/-
  For every number, size, slice of bytes, address and text: what octet.Put made is taken by octet.Take whatever stands behind, digits and texts are read as what they were made of, and what is read has that text (conciergelaw01.OctetBack answers true). No condition.
-/
import Derived.Test.YtjpihjonkdgnhaaBackP
import Derived.ProofKit
import Derived.OpenShut
import Derived.ShutString
import Derived.ChangeOld
namespace Go.Proofs.Ytjpihjonkdgnhaa.octetBack
open Go.ChangeShapes Go.WideShapes Go.ChangeAt Go.RowKit
open Go.ChangeMaps (open_string shut_string)
set_option linter.unusedVariables false
set_option linter.unusedSimpArgs false

set_option maxHeartbeats 3200000 in
theorem walk (W : World) (a : Int) (wa : (Lit.int .u64 a).wf = true) (size : Int) (ws : (Lit.int .u8 size).wf = true) (a0 : Option Addr) (n0 c0 : Nat) (l0 : List UInt8) (hn0 : l0.length = n0) (b0 : Bs W (.slice a0 n0 c0) l0) (m0 m1 m2 m3 m4 m5 : UInt8) (s : ByteArray) (hs : s.size ≤ maxLen) :
    Calls Try.prog 7 #[.int .u64 a, .int .u8 size, .slice a0 n0 c0, .agg #[.int .u8 (m0.toNat : Int), .int .u8 (m1.toNat : Int), .int .u8 (m2.toNat : Int), .int .u8 (m3.toNat : Int), .int .u8 (m4.toNat : Int), .int .u8 (m5.toNat : Int)], .string s] W fun e w' => e = .returned (.bool true) ∧ Below W.heap.size W w' := by
  obtain ⟨n, rfl, hn⟩ := nat_of_u64 wa
  obtain ⟨b, rfl⟩ := u8_of_wf ws
  obtain ⟨i0, hi, hz0, hz1, hz2⟩ := info_parts info5
  obtain ⟨q, hq⟩ : ∃ q, q = b.toNat % 8 := ⟨_, rfl⟩
  have hq8 : q < 8 := by omega
  have eq : (b.toNat : Int) % 8 = (q : Int) := by omega
  obtain ⟨y, hy⟩ : ∃ y, y = n % 256 ^ (q + 1) := ⟨_, rfl⟩
  obtain ⟨_, _, es0, hc0, hm0⟩ := b0.shape
  simp only [Value.slice.injEq] at es0
  obtain ⟨rfl, z0, rfl⟩ := es0
  clear z0
  have u0 := b0.upto hn0 (min n0 2000) (by omega)
  have g0 : (l0.take (min n0 2000)).length = min n0 2000 := by rw [List.length_take]; omega
  obtain ⟨x, hx⟩ : ∃ x, x = l0.take (min n0 2000) := ⟨_, rfl⟩
  rw [← hx] at u0 g0
  have HC0 := Lib.hid (fun w => cut_any a0 n0 c0 w (by omega) hm0)
  obtain ⟨k0, e0⟩ : ∃ m, m = min n0 2000 := ⟨_, rfl⟩
  have em : k0 ≤ 2000 := by omega
  rw [← e0] at u0 g0 HC0
  obtain ⟨k, hk⟩ : ∃ k, k = min s.size 100 := ⟨_, rfl⟩
  obtain ⟨t, ht⟩ : ∃ t, s.extract 0 k = t := ⟨_, rfl⟩
  have hts : t.size ≤ 1000000 := by rw [← ht, ByteArray.size_extract]; omega
  have hif : (if (100 : Int) < (s.size : Int) then (100 : Int) else (s.size : Int)) = (k : Int) := by split <;> omega
  have hks : (k : Int) ≤ (s.size : Int) := by omega
  obtain ⟨p0, p1, p2, p3, p4, p5, pe, hpc, hpt⟩ := parse_back t hts
  obtain ⟨ul, ue, hul, huc, hut⟩ := unhex_back t hts
  have HPC := Lib.hid hpc
  have HPT := Lib.hid hpt
  have HUL := Lib.hid hul
  have HUC := Lib.hid huc
  have HUT := Lib.hid hut
  have HN := Lib.hid hn
  have HU := Lib.hid u0
  have HG := Lib.hid g0
  have HT := Lib.hid ht
  have HI := Lib.hid hif
  have HK := Lib.hid hks
  have qe := fun w => run_neq_array (P := Try.prog) Try.underlying38 Try.underlying5 hi hz1 [(m0.toNat : Int), m1.toNat, m2.toNat, m3.toNat, m4.toNat, m5.toNat] [(m0.toNat : Int), m1.toNat, m2.toNat, m3.toNat, m4.toNat, m5.toNat] rfl rfl w
  simp only [List.map_cons, List.map_nil, decide_true] at qe
  have HQ := Lib.hid qe
  have HIN := Lib.hid (And.intro hi (And.intro hz0 (And.intro hz1 hz2)))
  clear e0 hx b0 hm0 hc0 hn0 g0 u0 ht hif hks hk hs wa ws hn hq hpc hpt hul huc hut hi hz0 hz1 hz2 qe
  go_enter Try.func7, Try.ntmps7
  go_wp2_with fail
  have hif := HI.out
  have hks := HK.out
  have ht := HT.out
  refine wp_region_G Gr (by kernel_rfl) ?_
  -- 0: slot 24
  refine wpG_take preGr (i := 0) (v := ?_) (some 24) rfl (by kernel_rfl) (by kernel_rfl) (by kernel_rfl) (fun _ _ _ h => h) (by rfl) (fun w' hw' => ?_) rfl ?_
  rotate_left
  · go_simp
    with_reducible rfl
  simp only [Act.put, List.setIfInBounds_toArray, List.set_cons_zero, List.set_cons_succ]
  -- 2: slot 26
  refine wpG_take preGr (i := 2) (v := ?_) (some 26) rfl (by kernel_rfl) (by kernel_rfl) (by kernel_rfl) (fun _ _ _ h => h) (by rfl) (fun w' hw' => ?_) rfl ?_
  rotate_left
  · go_simp
    with_reducible rfl
  simp only [Act.put, List.setIfInBounds_toArray, List.set_cons_zero, List.set_cons_succ]
  -- 3: slot 27
  refine wpG_take preGr (i := 3) (v := ?_) (some 27) rfl (by kernel_rfl) (by kernel_rfl) (by kernel_rfl) (fun _ _ _ h => h) (by rfl) (fun w' hw' => ?_) rfl ?_
  rotate_left
  · go_simp
    with_reducible rfl
  simp only [Act.put, List.setIfInBounds_toArray, List.set_cons_zero, List.set_cons_succ]
  -- 4: slot 28
  refine wpG_take preGr (i := 4) (v := ?_) (some 28) rfl (by kernel_rfl) (by kernel_rfl) (by kernel_rfl) (fun _ _ _ h => h) (by rfl) (fun w' hw' => ?_) rfl ?_
  rotate_left
  · go_simp
    with_reducible rfl
  simp only [Act.put, List.setIfInBounds_toArray, List.set_cons_zero, List.set_cons_succ]
  -- 5: slot 29
  refine wpG_take preGr (i := 5) (v := ?_) (some 29) rfl (by kernel_rfl) (by kernel_rfl) (by kernel_rfl) (fun _ _ _ h => h) (by rfl) (fun w' hw' => ?_) rfl ?_
  rotate_left
  · go_simp
    with_reducible rfl
  simp only [Act.put, List.setIfInBounds_toArray, List.set_cons_zero, List.set_cons_succ]
  -- 6: slot 30
  refine wpG_take preGr (i := 6) (v := ?_) (some 30) rfl (by kernel_rfl) (by kernel_rfl) (by kernel_rfl) (fun _ _ _ h => h) (by rfl) (fun w' hw' => ?_) rfl ?_
  rotate_left
  · go_simp
    with_reducible rfl
  simp only [Act.put, List.setIfInBounds_toArray, List.set_cons_zero, List.set_cons_succ]
  refine wpG_one (i := 1) rfl (by kernel_rfl) (by rfl) ?_
  go_simp
  refine (HC0.out _).mono ?_
  rintro e w' ⟨rfl, rfl⟩
  refine ⟨Gr.refl _, ?_⟩
  try simp only [Act.put, List.setIfInBounds_toArray, List.set_cons_zero, List.set_cons_succ]
  -- 7: slot 2
  refine wpG_take preGr (i := 7) (v := ?_) (some 2) rfl (by kernel_rfl) (by kernel_rfl) (by kernel_rfl) (fun _ _ _ h => h) (by rfl) (fun w' hw' => ?_) rfl ?_
  rotate_left
  · go_simp
    with_reducible rfl
  simp only [Act.put, List.setIfInBounds_toArray, List.set_cons_zero, List.set_cons_succ]
  -- 8: slot 4
  refine wpG_take preGr (i := 8) (v := ?_) (some 4) rfl (by kernel_rfl) (by kernel_rfl) (by kernel_rfl) (fun _ _ _ h => h) (by rfl) (fun w' hw' => ?_) rfl ?_
  rotate_left
  · go_simp
    with_reducible rfl
  simp only [Act.put, List.setIfInBounds_toArray, List.set_cons_zero, List.set_cons_succ]
  refine wpG_done (by kernel_rfl) ?_ _
  clear hif hks ht
  have hyy : y < 256 ^ (q + 1) := by rw [hy]; exact Nat.mod_lt _ (Nat.pow_pos (by omega))
  have hy64 : y < 18446744073709551616 := by have := HN.out; have := Nat.mod_le n (256 ^ (q + 1)); omega
  have e1 : putX y ((q : Int) + 1) = putL y (q + 1) := by unfold putX; rw [if_pos (by omega)]; congr 1
  have et : takeX (putL y (q + 1) ++ x) ((q : Int) + 1) = y := by
    unfold takeX
    rw [if_pos (by simp [takeOk, putL_length]; omega), show ((q : Int) + 1).toNat = q + 1 by omega, takeN_put y (q + 1) x hyy]
  have er : takeR (putL y (q + 1) ++ x) ((q : Int) + 1) = x := by
    unfold takeR
    rw [if_pos (by simp [takeOk, putL_length]; omega), show ((q : Int) + 1).toNat = q + 1 by omega, drop_put]
  have eo : takeOk (q + 1 + k0) ((q : Int) + 1) = true := by simp [takeOk]; omega
  have hmod : q < 7 → (n : Int) % IntKind.u64.wrap (2 ^ (8 * (q + 1))) = (y : Int) := by
    intro h
    have h' : q = 0 ∨ q = 1 ∨ q = 2 ∨ q = 3 ∨ q = 4 ∨ q = 5 ∨ q = 6 := by omega
    rw [hy]
    rcases h' with rfl | rfl | rfl | rfl | rfl | rfl | rfl
    all_goals
      simp only [Nat.zero_add, Nat.reduceAdd, Nat.reduceMul, Int.reducePow, Nat.reducePow]
      rw [IntWalk.u64_in _ (by omega)]
      omega
  have hnz : q < 7 → ¬ IntKind.u64.wrap (2 ^ (8 * (q + 1))) = 0 := by
    intro h
    have h' : q = 0 ∨ q = 1 ∨ q = 2 ∨ q = 3 ∨ q = 4 ∨ q = 5 ∨ q = 6 := by omega
    rcases h' with rfl | rfl | rfl | rfl | rfl | rfl | rfl
    all_goals
      simp only [Nat.zero_add, Nat.reduceAdd, Nat.reduceMul, Int.reducePow, Nat.reducePow]
      rw [IntWalk.u64_in _ (by omega)]
      omega
  have hlast : q = 7 → n = y := by
    rintro rfl
    rw [hy, Nat.mod_eq_of_lt]
    have := HN.out
    omega
  have HE := Lib.hid (And.intro e1 (And.intro et (And.intro er eo)))
  have HY := Lib.hid (And.intro hyy hy64)
  clear hyy hy64 e1 et er eo hy
  by_cases h7 : q < 7
  case' pos =>
    have hm := hmod h7
    have hz := hnz h7
    clear hmod hlast hnz
    go_wp2_with fail
    try simp only [hm]
    clear hm hz
  case' neg =>
    have hc : ¬ ((q : Int) + 1 < 8) := by omega
    have hny : (n : Int) = (y : Int) := by rw [hlast (by omega)]
    clear hmod hlast hnz
    go_wp2_with fail
    try simp only [hny]
    clear hc hny
  all_goals
    refine (put_any _ y ((q : Int) + 1) HY.out.2).mono ?_
    rintro e w1 ⟨v1, rfl, hv1, hb1⟩
    have B1 : Below W.heap.size W w1 := Gr.trans (Gr.trans ((Gr.refl W).alloc _) (Gr.drew _)) hb1
    have HO1 := Lib.hid (hv1.mono (base' := W.heap.size + 1) (by simp))
    rw [HE.out.1] at HO1
    have HM1 := Lib.hid (heap_gr hb1 (heap_gr (Gr.drew _) (heap_alloc_new W (.cells #[.int .u8 (m0.toNat : Int), .int .u8 (m1.toNat : Int), .int .u8 (m2.toNat : Int), .int .u8 (m3.toNat : Int), .int .u8 (m4.toNat : Int), .int .u8 (m5.toNat : Int)] 38))))
    clear hv1
    go_wp2_with (at_builtin; refine wpList_append_rd _ rfl _ _ 23 rfl (W.heap.size + 1) 5 i0 (.int .u8 0) 1 1 Try.underlying23 HIN.out.1 HIN.out.2.1 HIN.out.2.2.1 HIN.out.2.2.2 rfl (by decide) _ (q + 1) ((putL y (q + 1)).map u8v) rfl ?c0 _ k0 (x.map u8v) rfl ?c3 (oneCell_u8 x) ?c1 (by decide) ?c2 ?_)
    case c0 =>
      have := HO1.out
      unfold OwnB at this
      rwa [putL_length] at this
    case c3 =>
      have := HU.out.below B1
      unfold Bs at this
      rwa [HG.out] at this
    case c1 => omega
    case c2 => have := hb1.size; simpa using this
    intro v2 w2 hown2 hb2
    have B2 := B1.trans (Below.mono hb2 (by omega))
    have hlen : (putL y (q + 1) ++ x).length = q + 1 + k0 := by rw [List.length_append, putL_length, HG.out]
    obtain ⟨a2, c2, rfl, hc2, hm2⟩ := Rd.shape (own_rd hown2)
    have R2 := Bs.of_rd (l := putL y (q + 1) ++ x) (own_rd hown2) (by simp)
    have HT2 := Lib.hid (take_any w2 a2 (q + 1 + k0) c2 (putL y (q + 1) ++ x) ((q : Int) + 1) hlen R2 (by omega))
    clear hown2 R2 hlen hc2 hm2
    go_wp2_with fail
    refine (HT2.out).mono ?_
    rintro e w3 ⟨v3, h3, hv3, hb3⟩
    rw [HE.out.2.1, HE.out.2.2.2] at h3
    rw [HE.out.2.2.1] at hv3
    subst h3
    unfold OwnB at hv3
    rw [HG.out] at hv3
    have B3 := B2.trans (hb3.mono B2.size)
    have HM3 := Lib.hid (heap_gr hb3 ((hb2.block W.heap.size (by omega)).trans HM1.out))
    obtain ⟨a3, c3, rfl, hc3, hm3⟩ := Rd.shape (own_rd hv3)
    have HO3 := Lib.hid hv3
    clear hv3 hc3 hm3
    go_wp2_with fail
    refine (hex_any _ a0 k0 c0 x HG.out (HU.out.below B3) (by omega)).mono ?_
    rintro e w4 ⟨rfl, hb4⟩
    go_wp2_with fail
    refine (unhex_yes _ _ (by rw [size_mk, hexL_length, HG.out]; omega) (unhex_hex x).1).mono ?_
    rintro e w5 ⟨v5, rfl, hv5, hb5⟩
    rw [(unhex_hex x).2] at hv5
    unfold OwnB at hv5
    rw [HG.out] at hv5
    have HO5 := Lib.hid hv5
    obtain ⟨a5, c5, rfl, hc5, hm5⟩ := Rd.shape (own_rd hv5)
    clear hv5 hc5 hm5
    have HM5 := Lib.hid (heap_gr hb5 (heap_gr hb4 HM3.out))
    obtain ⟨cA, cB, cC, cD, cE, cF⟩ := cells6 HM5.out
    go_wp2_with fail
    clear cA cB cC cD cE cF
    refine (text_any _ m0 m1 m2 m3 m4 m5).mono ?_
    rintro e w6 ⟨rfl, hb6⟩
    go_wp2_with fail
    refine (parse_yes _ _ (parse_text m0 m1 m2 m3 m4 m5).1).mono ?_
    rintro e w7 ⟨h7', hb7⟩
    rw [(parse_text m0 m1 m2 m3 m4 m5).2] at h7'
    subst h7'
    have G8 : Gr w5 (w7.alloc (.cells #[.int .u8 (m0.toNat : Int), .int .u8 (m1.toNat : Int), .int .u8 (m2.toNat : Int), .int .u8 (m3.toNat : Int), .int .u8 (m4.toNat : Int), .int .u8 (m5.toNat : Int)] 38)) := Gr.trans (Gr.trans hb6 hb7) ((Gr.refl w7).alloc _)
    have G38 : Gr w3 (w7.alloc (.cells #[.int .u8 (m0.toNat : Int), .int .u8 (m1.toNat : Int), .int .u8 (m2.toNat : Int), .int .u8 (m3.toNat : Int), .int .u8 (m4.toNat : Int), .int .u8 (m5.toNat : Int)] 38)) := Gr.trans (Gr.trans hb4 hb5) G8
    have B8 : Below W.heap.size W (w7.alloc (.cells #[.int .u8 (m0.toNat : Int), .int .u8 (m1.toNat : Int), .int .u8 (m2.toNat : Int), .int .u8 (m3.toNat : Int), .int .u8 (m4.toNat : Int), .int .u8 (m5.toNat : Int)] 38)) := B3.trans (Below.mono G38 B3.size)
    have s3 := (Bs.of_rd (own_rd HO3.out) rfl).txt _ G38
    have s5 := (Bs.of_rd (own_rd HO5.out) rfl).txt _ G8
    have sU := HU.out.txt _ B8
    obtain ⟨cA, cB, cC, cD, cE, cF⟩ := cells6 (heap_gr G8 HM5.out)
    obtain ⟨dA, dB, dC, dD, dE, dF⟩ := cells6 (heap_alloc_new w7 (.cells #[.int .u8 (m0.toNat : Int), .int .u8 (m1.toNat : Int), .int .u8 (m2.toNat : Int), .int .u8 (m3.toNat : Int), .int .u8 (m4.toNat : Int), .int .u8 (m5.toNat : Int)] 38))
    have hqe := HQ.out
    have HG8 := Lib.hid G8
    have HG38 := Lib.hid G38
    have HB8 := Lib.hid B8
    clear G8 G38 B8
    have O3 := ownsRow_below HO3.out HG38.out
    have O5 := ownsRow_below HO5.out HG8.out
    go_wp2
    clear s3 s5 sU cA cB cC cD cE cF dA dB dC dD dE dF hqe
    go_loopw [19] (fun iv wr => ∃ i : Nat, i ≤ k0 ∧ iv = .int .i64 i ∧ (∃ xs, wr.ownsRow w2.heap.size 5 1 (.slice a3 k0 c3) k0 xs ∧ ∀ j, i ≤ j → xs[j]? = (x.map u8v)[j]?) ∧ wr.ownsRow w4.heap.size 5 1 (.slice a5 k0 c5) k0 (x.map u8v) ∧ Below W.heap.size (w7.alloc (.cells #[.int .u8 (m0.toNat : Int), .int .u8 (m1.toNat : Int), .int .u8 (m2.toNat : Int), .int .u8 (m3.toNat : Int), .int .u8 (m4.toNat : Int), .int .u8 (m5.toNat : Int)] 38)) wr) (fun iv _ => k0 - (intOf iv).toNat)
    case atStart => exact ⟨0, Nat.zero_le _, rfl, ⟨_, O3, fun j _ => rfl⟩, O5, Below.refl _ _⟩
    case round =>
      clear O3 O5
      obtain ⟨i, hi, rfl, ⟨xs, hown, hxs⟩, ho5, hb⟩ := hrel
      by_cases hlt : i < k0
      · obtain ⟨g, rfl, hg1, hg2⟩ := own_some HO3.out (by rw [List.length_map, HG.out]; omega)
        obtain ⟨g5, h5, hg3, _⟩ := own_some HO5.out (by rw [List.length_map, HG.out]; omega)
        have hf : wr.frozen? ⟨g, i, none⟩ = false := hown.frozenAt _
        obtain ⟨z, hz⟩ : ∃ z : UInt8, wr.cell? ⟨g, i, none⟩ = some (.int .u8 (z.toNat : Int)) := by
          rw [hown.cellAt _ (by omega), hxs i (Nat.le_refl _), List.getElem?_map, List.getElem?_eq_getElem (by rw [HG.out]; exact hlt)]
          exact ⟨_, rfl⟩
        have hne : (Value.slice a5 k0 c5).ownBlock ≠ some g := by
          rw [h5]
          have := hb4.size
          simp only [Value.ownBlock, ne_eq, Option.some.injEq]
          omega
        have HX := Lib.hid (And.intro hown (And.intro hxs (And.intro ho5 (And.intro hne hg1))))
        clear hown hxs ho5 hne hg1 hg2 h5 hg3
        go_wp2
        go_roundw
        case rel =>
          refine ⟨i + 1, by omega, by go_num, ⟨_, (HX.out.1.stored i _).1, fun j hj => ?_⟩, ownsRow_setCell_other HX.out.2.2.1 HX.out.2.2.2.1 _, hb.setCell (by have := HX.out.2.2.2.2; have := B2.size; show W.heap.size ≤ g; omega) _⟩
          rw [List.getElem?_set_ne (by omega)]
          exact HX.out.2.1 j (by omega)
        case measure => simp [intOf]; omega
      · obtain rfl : k0 = i := by omega
        have B9 := HB8.out.trans hb
        clear hlt hi hown hxs
        go_wp2_with fail
        refine (HPC.out _).mono ?_
        rintro e w9 ⟨rfl, hb9⟩
        go_wp2_with fail
        refine (HUC.out _).mono ?_
        rintro e w10 ⟨v10, rfl, hv10, hb10⟩
        unfold OwnB at hv10
        obtain ⟨a6, c6, rfl, hc6, hm6⟩ := Rd.shape (own_rd hv10)
        clear hc6 hm6
        have G10 : Gr wr w10 := Gr.trans hb9 (Gr.trans ((Gr.refl w9).alloc _) hb10)
        have s5 := (Bs.of_rd (own_rd ho5) rfl).txt _ G10
        have sU := HU.out.txt _ (B9.trans (Below.mono G10 B9.size))
        obtain ⟨cA, cB, cC, cD, cE, cF⟩ := cells6 (heap_gr hb10 (heap_alloc_new w9 (.cells #[.int .u8 (p0.toNat : Int), .int .u8 (p1.toNat : Int), .int .u8 (p2.toNat : Int), .int .u8 (p3.toNat : Int), .int .u8 (p4.toNat : Int), .int .u8 (p5.toNat : Int)] 38)))
        clear ho5 G10
        rcases HPT.out with ⟨rfl, hp⟩ | rfl <;> rcases HUT.out with ⟨rfl, hu⟩ | rfl
        · go_wp2_with fail
          refine (text_any _ p0 p1 p2 p3 p4 p5).mono ?_
          rintro e w11 ⟨rfl, hb11⟩
          go_wp2_with fail
          refine (hex_any _ a6 ul.length c6 ul rfl (Bs.below (Bs.of_rd (own_rd hv10) rfl) hb11) HUL.out).mono ?_
          rintro e w12 ⟨rfl, hb12⟩
          go_wp2_with fail
          refine (awake_any _).mono ?_
          rintro e w13 ⟨rfl, hb13⟩
          go_wp2
          go_ret
          exact ⟨rfl, B9.trans (Below.mono (Gr.trans (Gr.trans (Gr.trans (Gr.trans hb9 (Gr.trans ((Gr.refl w9).alloc _) hb10)) hb11) hb12) hb13) B9.size)⟩
        · go_wp2_with fail
          refine (text_any _ p0 p1 p2 p3 p4 p5).mono ?_
          rintro e w11 ⟨rfl, hb11⟩
          go_wp2_with fail
          refine (awake_any _).mono ?_
          rintro e w13 ⟨rfl, hb13⟩
          go_wp2
          go_ret
          exact ⟨rfl, B9.trans (Below.mono (Gr.trans (Gr.trans (Gr.trans hb9 (Gr.trans ((Gr.refl w9).alloc _) hb10)) hb11) hb13) B9.size)⟩
        · go_wp2_with fail
          refine (hex_any _ a6 ul.length c6 ul rfl (Bs.of_rd (own_rd hv10) rfl) HUL.out).mono ?_
          rintro e w12 ⟨rfl, hb12⟩
          go_wp2_with fail
          refine (awake_any _).mono ?_
          rintro e w13 ⟨rfl, hb13⟩
          go_wp2
          go_ret
          exact ⟨rfl, B9.trans (Below.mono (Gr.trans (Gr.trans (Gr.trans hb9 (Gr.trans ((Gr.refl w9).alloc _) hb10)) hb12) hb13) B9.size)⟩
        · go_wp2_with fail
          refine (awake_any _).mono ?_
          rintro e w13 ⟨rfl, hb13⟩
          go_wp2
          go_ret
          exact ⟨rfl, B9.trans (Below.mono (Gr.trans (Gr.trans hb9 (Gr.trans ((Gr.refl w9).alloc _) hb10)) hb13) B9.size)⟩

theorem own : ownKnob Try.prog.godebug = none := by kernel_rfl
theorem laidOut : laidOutB Try.prog = true := by kernel_rfl
set_option maxRecDepth 100000 in
theorem lifted (os : Os) (started : os.Started) (H : Type) (enc : TypeId × Value → H) :
    ReturnsInHanded {} Try.checked os 7 .any (Rows.octetBackSpec.pre6 enc Try.prog Try.f7 Rows.octetBackRow.domain false) (Rows.octetBackSpec.post enc Try.prog Try.f7 false true false false) := by
  refine returnsInHanded_of_change (C := Try.checked) own started (by kernel_rfl) Try.func7
    (ChangeSpec.witness6 (enc := enc) (C := Try.checked) false ⟨#[], #[.int .u64 0, .int .u8 0, .slice none 0 0, .agg #[.int .u8 0, .int .u8 0, .int .u8 0, .int .u8 0, .int .u8 0, .int .u8 0], .string ⟨#[]⟩], []⟩ 8 (by kernel_rfl) (by kernel_rfl) (by kernel_rfl) (by kernel_rfl)) ?_
  intro W base args ds gs before hval0 hW hcnd _
  have hval : ∀ (j : Nat) t v, Try.f7.params[j]? = some t → args[j]? = some v → Value.okWide Try.prog W .any base t v := hval0
  have hW' := hW
  obtain ⟨p, q, hA0, hV, rfl, hfz, hnd⟩ := hW
  have hA : DataW.TrodAll enc Try.prog W 0 (fun _ => true) true Try.f7.params.toList args.toList ds p := hA0
  rw [Try.params7] at hA hval
  obtain ⟨v0, vs0, d0, ds0, p0, q0, hargs, rfl, rfl, h0, r0⟩ := trodAll_cons hA
  obtain ⟨v1, vs1, d1, ds1, p1, q1, rfl, rfl, rfl, h1, r1⟩ := trodAll_cons r0
  obtain ⟨v2, vs2, d2, ds2, p2, q2, rfl, rfl, rfl, h2, r2⟩ := trodAll_cons r1
  obtain ⟨v3, vs3, d3, ds3, p3, q3, rfl, rfl, rfl, h3, r3⟩ := trodAll_cons r2
  obtain ⟨v4, vs4, d4, ds4, p4, q4, rfl, rfl, rfl, h4, r4⟩ := trodAll_cons r3
  obtain ⟨rfl, rfl, rfl⟩ := trodAll_nil r4
  obtain rfl : args = #[v0, v1, v2, v3, v4] := by cases args; simp_all
  obtain ⟨rfl, rfl⟩ := trodVars_none hV
  have k0 := h0
  have lt0 : ∀ x ∈ p0, x.block < W.heap.size := by obtain ⟨m, hm⟩ := k0; exact DataW.trod_lt m _ _ _ hm
  obtain ⟨a0, rfl, rfl, rfl, w0⟩ := open_int Try.underlying22 (hval 0 22 v0 rfl rfl) h0
  have k1 := h1
  have lt1 : ∀ x ∈ p1, x.block < W.heap.size := by obtain ⟨m, hm⟩ := k1; exact DataW.trod_lt m _ _ _ hm
  obtain ⟨a1, rfl, rfl, rfl, w1⟩ := open_int Try.underlying5 (hval 1 5 v1 rfl rfl) h1
  have k2 := h2
  have lt2 : ∀ x ∈ p2, x.block < W.heap.size := by obtain ⟨m, hm⟩ := k2; exact DataW.trod_lt m _ _ _ hm
  obtain ⟨a2, n2, c2, l2, rfl, hn2, b2⟩ := open_bytes Try.underlying23 Try.underlying5 (by kernel_rfl) (hval 2 23 v2 rfl rfl) h2
  have k3 := h3
  have lt3 : ∀ x ∈ p3, x.block < W.heap.size := by obtain ⟨m, hm⟩ := k3; exact DataW.trod_lt m _ _ _ hm
  obtain ⟨m30, m31, m32, m33, m34, m35, rfl⟩ := open_mac Try.underlying38 Try.underlying5 (by kernel_rfl) (by kernel_rfl) (hval 3 38 v3 rfl rfl) h3
  have k4 := h4
  have lt4 : ∀ x ∈ p4, x.block < W.heap.size := by obtain ⟨m, hm⟩ := k4; exact DataW.trod_lt m _ _ _ hm
  obtain ⟨s4, rfl, rfl, rfl, hs4⟩ := open_string Try.underlying9 (hval 4 9 v4 rfl rfl) h4
  clear hA0 hval0
  refine (walk W a0 w0 a1 w1 a2 n2 c2 l2 hn2 b2 m30 m31 m32 m33 m34 m35 s4 hs4).mono fun e W' ⟨he, bel⟩ => ?_
  subst he
  exact ⟨_, rfl, _, _, _, [], _, [], hW', trodAll_mk1 (shut_bool Try.underlying4 _), (trodAll_cons_mk (Below.trod laidOut (by kernel_rfl) (of_decide_eq_true (by kernel_rfl)) k0 bel lt0) (trodAll_cons_mk (Below.trod laidOut (by kernel_rfl) (of_decide_eq_true (by kernel_rfl)) k1 bel lt1) (trodAll_cons_mk (Below.trod laidOut (by kernel_rfl) (of_decide_eq_true (by kernel_rfl)) k2 bel lt2) (trodAll_cons_mk (Below.trod laidOut (by kernel_rfl) (of_decide_eq_true (by kernel_rfl)) k3 bel lt3) (trodAll_cons_mk (Below.trod laidOut (by kernel_rfl) (of_decide_eq_true (by kernel_rfl)) k4 bel lt4) trodAll_mk0))))), rfl, bel.frame _, fun h => by cases h⟩
theorem over : Rows.octetBackRow.holds Try.pinned (OpenSpec.ofChange Rows.octetBackSpec) :=
  OpenClaim.holds_of_wide 7 Try.f7 rfl rfl rfl rfl rfl rfl rfl ⟨rfl, rfl, rfl, rfl, rfl⟩ rfl rfl rfl rfl rfl (by kernel_rfl) Try.func7 (by kernel_rfl)
    (of_decide_eq_true (by kernel_rfl)) (by unfold Func.isWrapper; first | (rw [if_pos (by decide +kernel)]; kernel_rfl) | (rw [if_neg (by decide +kernel)]; exact ⟨rfl, rfl⟩))
    (fun os started H enc _ => lifted os started H enc)
/-- The statement. -/
theorem proved : Rows.OctetBackSaid := over
end Go.Proofs.Ytjpihjonkdgnhaa.octetBack
