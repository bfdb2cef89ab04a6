/-
  The document's Decode, whatever bytes come.
-/
import Derived.Test.YtcpeglljcipcbaaTagI
namespace Go.Proofs.Ytcpeglljcipcbaa
open Go.RowKit
set_option linter.unusedVariables false
set_option linter.unusedSimpArgs false

set_option maxRecDepth 20000 in
set_option maxHeartbeats 4000000 in
theorem rdecode_any (a : Option Addr) (n c : Nat) (l : List UInt8) (hn : l.length = n) (w : World) (hb : Bs w (.slice a n c) l) (hr : n ≤ 140737488351232) :
    Calls Try.prog 44 #[.slice a n c] w (DecR l w) := by
  obtain ⟨i0, hi, hz0, hz1, hz2⟩ := info_parts infoT
  obtain ⟨j0, hj, hy0, hy1, hy2⟩ := info_parts info5
  have HN := Lib.hid hn
  have HBS := Lib.hid hb
  by_cases hlong : 1494 < n
  · have HD := Lib.hid (dec_long (l := l) (by omega))
    clear hn hb
    go_enter Try.func44, Try.ntmps44
    go_wp2
    go_ret2
    exact DecR.none HD.out (Below.refl _ _)
  have HD := Lib.hid (dec_fits (l := l) (by omega))
  have HI0 : Hid (DI l w w (.slice a n c) (.slice none 0 0) n n l []) := ⟨hn, Nat.le_refl _, hb, rfl, TO.nil _ _, Nat.zero_le _, Below.refl _ _⟩
  clear hn hb
  go_enter Try.func44, Try.ntmps44
  go_wp2
  go_loopw [0, 4] (fun bv lv wr => ∃ (m : Nat) (a' : Option Addr) (c' : Nat) (r : List UInt8) (ts : List Tg), bv = .slice a' m c' ∧ Hid (DI l w wr bv lv n m r ts)) (fun bv _ _ => slen bv)
  case atStart => exact ⟨n, a, c, l, [], rfl, HI0⟩
  case round =>
    clear HI0
    obtain ⟨m, a', c', r, ts, rfl, HI⟩ := hrel
    have HLOW := Lib.hid HI.out.low
    have HBN := Lib.hid HI.out.low.size
    have HOWN := Lib.hid HI.out.own
    have HRL := Lib.hid HI.out.len
    have hmn := HI.out.le
    have hlow : w.heap.size ≤ wr.heap.size := HBN.out
    by_cases h0 : m = 0
    · have HD2 : Hid (dec l = (plain ts, 0)) := by
        show _ = _
        rw [HD.out, HI.out.dec]
        exact decL_nil _ _ (by rw [HI.out.len]; exact h0)
      subst h0
      go_wp2
      go_ret2
      exact DecR.some HD2.out HOWN.out HLOW.out
    by_cases h4 : m < 4
    · have HD2 : Hid (dec l = ([], 50)) := by
        show _ = _
        rw [HD.out, HI.out.dec]
        exact decL_short _ _ (by rw [HRL.out]; omega) (by rw [HRL.out]; omega)
      go_wp2
      go_ret2
      exact DecR.none HD2.out HLOW.out
    have hR4 : 4 ≤ r.length := by rw [HRL.out]; omega
    obtain ⟨b, o, rfl, hbl, hcell⟩ := HI.out.bs.cells (by omega)
    obtain ⟨_, _, es0, hc0, hm0⟩ := HI.out.bs.shape
    simp only [Value.slice.injEq] at es0
    obtain ⟨rfl, z0, rfl⟩ := es0
    rw [HRL.out] at hc0
    clear z0
    unfold maxLen at hm0
    have hb1 : Rd w 1 (.slice (some ⟨b, o, none⟩) m c') m (r.map u8v) := by
      have := HI.out.bs
      unfold Bs at this
      rw [HRL.out] at this
      exact this
    obtain ⟨a4, hs4, hr4⟩ := slice_from (P := Try.prog) Try.underlying22 hj hy1 hb1 .i64 4 4 rfl (by omega)
    rw [drop_u8] at hr4
    have HR4 : Hid (Rd w 1 (.slice a4 (m - 4) (c' - 4)) (m - 4) ((r.drop 4).map u8v)) := hr4
    have hX : tT r = 256 * r[0].toNat + r[1].toNat := tT_eq r hR4
    have hY : tN r = 256 * r[2].toNat + r[3].toNat := tN_eq r hR4
    have hg0 := hcell 0 (by omega)
    have hg1 := hcell 1 (by omega)
    have hg2 := hcell 2 (by omega)
    have hg3 := hcell 3 (by omega)
    rw [Nat.add_zero] at hg0
    have x08 := UInt8.toNat_lt r[0]
    have x18 := UInt8.toNat_lt r[1]
    have x28 := UInt8.toNat_lt r[2]
    have x38 := UInt8.toNat_lt r[3]
    generalize r[0].toNat = x0 at hX hY hg0 x08
    generalize r[1].toNat = x1 at hX hY hg1 x18
    generalize r[2].toNat = x2 at hX hY hg2 x28
    generalize r[3].toNat = x3 at hX hY hg3 x38
    have HG0 := Lib.hid (cell_gr HLOW.out hg0)
    have HG1 := Lib.hid (cell_gr HLOW.out hg1)
    have HG2 := Lib.hid (cell_gr HLOW.out hg2)
    have HG3 := Lib.hid (cell_gr HLOW.out hg3)
    have W0 : IntKind.i64.wrap (x0 : Int) = (x0 : Int) := IntWalk.i64_in _ (by omega)
    have W1 : IntKind.i64.wrap (x1 : Int) = (x1 : Int) := IntWalk.i64_in _ (by omega)
    have W2 : IntKind.i64.wrap (x2 : Int) = (x2 : Int) := IntWalk.i64_in _ (by omega)
    have W3 : IntKind.i64.wrap (x3 : Int) = (x3 : Int) := IntWalk.i64_in _ (by omega)
    have W4 : IntKind.i64.wrap (256 * (x0 : Int)) = 256 * (x0 : Int) := IntWalk.i64_in _ (by omega)
    have W5 : IntKind.i64.wrap (256 * (x2 : Int)) = 256 * (x2 : Int) := IntWalk.i64_in _ (by omega)
    have W6 : IntKind.i64.wrap (256 * (x0 : Int) + (x1 : Int)) = 256 * (x0 : Int) + (x1 : Int) := IntWalk.i64_in _ (by omega)
    have W7 : IntKind.i64.wrap (256 * (x2 : Int) + (x3 : Int)) = 256 * (x2 : Int) + (x3 : Int) := IntWalk.i64_in _ (by omega)
    have i0' : (0 : Int) < (m : Int) := by omega
    have i1' : (1 : Int) < (m : Int) := by omega
    have i2' : (2 : Int) < (m : Int) := by omega
    have i3' : (3 : Int) < (m : Int) := by omega
    have HX := Lib.hid hX
    have HY := Lib.hid hY
    clear hX hY hcell hg0 hg1 hg2 hg3 hb1 hr4
    go_wp2_with fail
    refine wp_region_G 22 Gr (by kernel_rfl) ?_
    -- 0: slot 16
    refine wpG_take preGr (i := 0) (v := ?_) (by kernel_rfl) (some 16) (by kernel_rfl) rfl (by kernel_rfl) (by kernel_rfl) (by kernel_rfl) (fun _ _ _ h => h) (by rfl) (fun w' hw' => ?_) rfl ?_
    rotate_left
    · have g0 := cell_gr ((Gr.drew wr).trans hw') HG0.out
      have g1 := cell_gr ((Gr.drew wr).trans hw') HG1.out
      have g2 := cell_gr ((Gr.drew wr).trans hw') HG2.out
      have g3 := cell_gr ((Gr.drew wr).trans hw') HG3.out
      go_simp
      with_reducible rfl
    simp only [Act.put, List.setIfInBounds_toArray, List.set_cons_zero, List.set_cons_succ]
    -- 1: slot 17
    refine wpG_take preGr (i := 1) (v := ?_) (by kernel_rfl) (some 17) (by kernel_rfl) rfl (by kernel_rfl) (by kernel_rfl) (by kernel_rfl) (fun _ _ _ h => h) (by rfl) (fun w' hw' => ?_) rfl ?_
    rotate_left
    · have g0 := cell_gr ((Gr.drew wr).trans hw') HG0.out
      have g1 := cell_gr ((Gr.drew wr).trans hw') HG1.out
      have g2 := cell_gr ((Gr.drew wr).trans hw') HG2.out
      have g3 := cell_gr ((Gr.drew wr).trans hw') HG3.out
      go_simp
      with_reducible rfl
    simp only [Act.put, List.setIfInBounds_toArray, List.set_cons_zero, List.set_cons_succ]
    -- 2: slot 18
    refine wpG_take preGr (i := 2) (v := ?_) (by kernel_rfl) (some 18) (by kernel_rfl) rfl (by kernel_rfl) (by kernel_rfl) (by kernel_rfl) (fun _ _ _ h => h) (by rfl) (fun w' hw' => ?_) rfl ?_
    rotate_left
    · have g0 := cell_gr ((Gr.drew wr).trans hw') HG0.out
      have g1 := cell_gr ((Gr.drew wr).trans hw') HG1.out
      have g2 := cell_gr ((Gr.drew wr).trans hw') HG2.out
      have g3 := cell_gr ((Gr.drew wr).trans hw') HG3.out
      go_simp
      with_reducible rfl
    simp only [Act.put, List.setIfInBounds_toArray, List.set_cons_zero, List.set_cons_succ]
    -- 3: slot 19
    refine wpG_take preGr (i := 3) (v := ?_) (by kernel_rfl) (some 19) (by kernel_rfl) rfl (by kernel_rfl) (by kernel_rfl) (by kernel_rfl) (fun _ _ _ h => h) (by rfl) (fun w' hw' => ?_) rfl ?_
    rotate_left
    · have g0 := cell_gr ((Gr.drew wr).trans hw') HG0.out
      have g1 := cell_gr ((Gr.drew wr).trans hw') HG1.out
      have g2 := cell_gr ((Gr.drew wr).trans hw') HG2.out
      have g3 := cell_gr ((Gr.drew wr).trans hw') HG3.out
      go_simp
      with_reducible rfl
    simp only [Act.put, List.setIfInBounds_toArray, List.set_cons_zero, List.set_cons_succ]
    -- 4: slot 20
    refine wpG_take preGr (i := 4) (v := ?_) (by kernel_rfl) (some 20) (by kernel_rfl) rfl (by kernel_rfl) (by kernel_rfl) (by kernel_rfl) (fun _ _ _ h => h) (by rfl) (fun w' hw' => ?_) rfl ?_
    rotate_left
    · have g0 := cell_gr ((Gr.drew wr).trans hw') HG0.out
      have g1 := cell_gr ((Gr.drew wr).trans hw') HG1.out
      have g2 := cell_gr ((Gr.drew wr).trans hw') HG2.out
      have g3 := cell_gr ((Gr.drew wr).trans hw') HG3.out
      go_simp
      with_reducible rfl
    simp only [Act.put, List.setIfInBounds_toArray, List.set_cons_zero, List.set_cons_succ]
    -- 5: slot 21
    refine wpG_take preGr (i := 5) (v := ?_) (by kernel_rfl) (some 21) (by kernel_rfl) rfl (by kernel_rfl) (by kernel_rfl) (by kernel_rfl) (fun _ _ _ h => h) (by rfl) (fun w' hw' => ?_) rfl ?_
    rotate_left
    · have g0 := cell_gr ((Gr.drew wr).trans hw') HG0.out
      have g1 := cell_gr ((Gr.drew wr).trans hw') HG1.out
      have g2 := cell_gr ((Gr.drew wr).trans hw') HG2.out
      have g3 := cell_gr ((Gr.drew wr).trans hw') HG3.out
      go_simp
      with_reducible rfl
    simp only [Act.put, List.setIfInBounds_toArray, List.set_cons_zero, List.set_cons_succ]
    -- 6: slot 22
    refine wpG_take preGr (i := 6) (v := ?_) (by kernel_rfl) (some 22) (by kernel_rfl) rfl (by kernel_rfl) (by kernel_rfl) (by kernel_rfl) (fun _ _ _ h => h) (by rfl) (fun w' hw' => ?_) rfl ?_
    rotate_left
    · have g0 := cell_gr ((Gr.drew wr).trans hw') HG0.out
      have g1 := cell_gr ((Gr.drew wr).trans hw') HG1.out
      have g2 := cell_gr ((Gr.drew wr).trans hw') HG2.out
      have g3 := cell_gr ((Gr.drew wr).trans hw') HG3.out
      go_simp
      with_reducible rfl
    simp only [Act.put, List.setIfInBounds_toArray, List.set_cons_zero, List.set_cons_succ]
    -- 7: slot 23
    refine wpG_take preGr (i := 7) (v := ?_) (by kernel_rfl) (some 23) (by kernel_rfl) rfl (by kernel_rfl) (by kernel_rfl) (by kernel_rfl) (fun _ _ _ h => h) (by rfl) (fun w' hw' => ?_) rfl ?_
    rotate_left
    · have g0 := cell_gr ((Gr.drew wr).trans hw') HG0.out
      have g1 := cell_gr ((Gr.drew wr).trans hw') HG1.out
      have g2 := cell_gr ((Gr.drew wr).trans hw') HG2.out
      have g3 := cell_gr ((Gr.drew wr).trans hw') HG3.out
      go_simp
      with_reducible rfl
    simp only [Act.put, List.setIfInBounds_toArray, List.set_cons_zero, List.set_cons_succ]
    -- 8: slot 24
    refine wpG_take preGr (i := 8) (v := ?_) (by kernel_rfl) (some 24) (by kernel_rfl) rfl (by kernel_rfl) (by kernel_rfl) (by kernel_rfl) (fun _ _ _ h => h) (by rfl) (fun w' hw' => ?_) rfl ?_
    rotate_left
    · have g0 := cell_gr ((Gr.drew wr).trans hw') HG0.out
      have g1 := cell_gr ((Gr.drew wr).trans hw') HG1.out
      have g2 := cell_gr ((Gr.drew wr).trans hw') HG2.out
      have g3 := cell_gr ((Gr.drew wr).trans hw') HG3.out
      go_simp
      with_reducible rfl
    simp only [Act.put, List.setIfInBounds_toArray, List.set_cons_zero, List.set_cons_succ]
    -- 9: slot 25
    refine wpG_take preGr (i := 9) (v := ?_) (by kernel_rfl) (some 25) (by kernel_rfl) rfl (by kernel_rfl) (by kernel_rfl) (by kernel_rfl) (fun _ _ _ h => h) (by rfl) (fun w' hw' => ?_) rfl ?_
    rotate_left
    · have g0 := cell_gr ((Gr.drew wr).trans hw') HG0.out
      have g1 := cell_gr ((Gr.drew wr).trans hw') HG1.out
      have g2 := cell_gr ((Gr.drew wr).trans hw') HG2.out
      have g3 := cell_gr ((Gr.drew wr).trans hw') HG3.out
      go_simp
      with_reducible rfl
    simp only [Act.put, List.setIfInBounds_toArray, List.set_cons_zero, List.set_cons_succ]
    -- 10: slot 26
    refine wpG_take preGr (i := 10) (v := ?_) (by kernel_rfl) (some 26) (by kernel_rfl) rfl (by kernel_rfl) (by kernel_rfl) (by kernel_rfl) (fun _ _ _ h => h) (by rfl) (fun w' hw' => ?_) rfl ?_
    rotate_left
    · have g0 := cell_gr ((Gr.drew wr).trans hw') HG0.out
      have g1 := cell_gr ((Gr.drew wr).trans hw') HG1.out
      have g2 := cell_gr ((Gr.drew wr).trans hw') HG2.out
      have g3 := cell_gr ((Gr.drew wr).trans hw') HG3.out
      go_simp
      with_reducible rfl
    simp only [Act.put, List.setIfInBounds_toArray, List.set_cons_zero, List.set_cons_succ]
    -- 11: slot 27
    refine wpG_take preGr (i := 11) (v := ?_) (by kernel_rfl) (some 27) (by kernel_rfl) rfl (by kernel_rfl) (by kernel_rfl) (by kernel_rfl) (fun _ _ _ h => h) (by rfl) (fun w' hw' => ?_) rfl ?_
    rotate_left
    · have g0 := cell_gr ((Gr.drew wr).trans hw') HG0.out
      have g1 := cell_gr ((Gr.drew wr).trans hw') HG1.out
      have g2 := cell_gr ((Gr.drew wr).trans hw') HG2.out
      have g3 := cell_gr ((Gr.drew wr).trans hw') HG3.out
      go_simp
      with_reducible rfl
    simp only [Act.put, List.setIfInBounds_toArray, List.set_cons_zero, List.set_cons_succ]
    -- 12: slot 28
    refine wpG_take preGr (i := 12) (v := ?_) (by kernel_rfl) (some 28) (by kernel_rfl) rfl (by kernel_rfl) (by kernel_rfl) (by kernel_rfl) (fun _ _ _ h => h) (by rfl) (fun w' hw' => ?_) rfl ?_
    rotate_left
    · have g0 := cell_gr ((Gr.drew wr).trans hw') HG0.out
      have g1 := cell_gr ((Gr.drew wr).trans hw') HG1.out
      have g2 := cell_gr ((Gr.drew wr).trans hw') HG2.out
      have g3 := cell_gr ((Gr.drew wr).trans hw') HG3.out
      go_simp
      with_reducible rfl
    simp only [Act.put, List.setIfInBounds_toArray, List.set_cons_zero, List.set_cons_succ]
    -- 13: slot 29
    refine wpG_take preGr (i := 13) (v := ?_) (by kernel_rfl) (some 29) (by kernel_rfl) rfl (by kernel_rfl) (by kernel_rfl) (by kernel_rfl) (fun _ _ _ h => h) (by rfl) (fun w' hw' => ?_) rfl ?_
    rotate_left
    · have g0 := cell_gr ((Gr.drew wr).trans hw') HG0.out
      have g1 := cell_gr ((Gr.drew wr).trans hw') HG1.out
      have g2 := cell_gr ((Gr.drew wr).trans hw') HG2.out
      have g3 := cell_gr ((Gr.drew wr).trans hw') HG3.out
      go_simp
      with_reducible rfl
    simp only [Act.put, List.setIfInBounds_toArray, List.set_cons_zero, List.set_cons_succ]
    -- 14: slot 30
    refine wpG_take preGr (i := 14) (v := ?_) (by kernel_rfl) (some 30) (by kernel_rfl) rfl (by kernel_rfl) (by kernel_rfl) (by kernel_rfl) (fun _ _ _ h => h) (by rfl) (fun w' hw' => ?_) rfl ?_
    rotate_left
    · have g0 := cell_gr ((Gr.drew wr).trans hw') HG0.out
      have g1 := cell_gr ((Gr.drew wr).trans hw') HG1.out
      have g2 := cell_gr ((Gr.drew wr).trans hw') HG2.out
      have g3 := cell_gr ((Gr.drew wr).trans hw') HG3.out
      go_simp
      with_reducible rfl
    simp only [Act.put, List.setIfInBounds_toArray, List.set_cons_zero, List.set_cons_succ]
    -- 15: slot 31
    refine wpG_take preGr (i := 15) (v := ?_) (by kernel_rfl) (some 31) (by kernel_rfl) rfl (by kernel_rfl) (by kernel_rfl) (by kernel_rfl) (fun _ _ _ h => h) (by rfl) (fun w' hw' => ?_) rfl ?_
    rotate_left
    · have g0 := cell_gr ((Gr.drew wr).trans hw') HG0.out
      have g1 := cell_gr ((Gr.drew wr).trans hw') HG1.out
      have g2 := cell_gr ((Gr.drew wr).trans hw') HG2.out
      have g3 := cell_gr ((Gr.drew wr).trans hw') HG3.out
      go_simp
      with_reducible rfl
    simp only [Act.put, List.setIfInBounds_toArray, List.set_cons_zero, List.set_cons_succ]
    -- 16: slot 32
    refine wpG_take preGr (i := 16) (v := ?_) (by kernel_rfl) (some 32) (by kernel_rfl) rfl (by kernel_rfl) (by kernel_rfl) (by kernel_rfl) (fun _ _ _ h => h) (by rfl) (fun w' hw' => ?_) rfl ?_
    rotate_left
    · have g0 := cell_gr ((Gr.drew wr).trans hw') HG0.out
      have g1 := cell_gr ((Gr.drew wr).trans hw') HG1.out
      have g2 := cell_gr ((Gr.drew wr).trans hw') HG2.out
      have g3 := cell_gr ((Gr.drew wr).trans hw') HG3.out
      go_simp
      with_reducible rfl
    simp only [Act.put, List.setIfInBounds_toArray, List.set_cons_zero, List.set_cons_succ]
    -- 17: slot 33
    refine wpG_take preGr (i := 17) (v := ?_) (by kernel_rfl) (some 33) (by kernel_rfl) rfl (by kernel_rfl) (by kernel_rfl) (by kernel_rfl) (fun _ _ _ h => h) (by rfl) (fun w' hw' => ?_) rfl ?_
    rotate_left
    · have g0 := cell_gr ((Gr.drew wr).trans hw') HG0.out
      have g1 := cell_gr ((Gr.drew wr).trans hw') HG1.out
      have g2 := cell_gr ((Gr.drew wr).trans hw') HG2.out
      have g3 := cell_gr ((Gr.drew wr).trans hw') HG3.out
      go_simp
      with_reducible rfl
    simp only [Act.put, List.setIfInBounds_toArray, List.set_cons_zero, List.set_cons_succ]
    -- 18: slot 34
    refine wpG_take preGr (i := 18) (v := ?_) (by kernel_rfl) (some 34) (by kernel_rfl) rfl (by kernel_rfl) (by kernel_rfl) (by kernel_rfl) (fun _ _ _ h => h) (by rfl) (fun w' hw' => ?_) rfl ?_
    rotate_left
    · have g0 := cell_gr ((Gr.drew wr).trans hw') HG0.out
      have g1 := cell_gr ((Gr.drew wr).trans hw') HG1.out
      have g2 := cell_gr ((Gr.drew wr).trans hw') HG2.out
      have g3 := cell_gr ((Gr.drew wr).trans hw') HG3.out
      go_simp
      with_reducible rfl
    simp only [Act.put, List.setIfInBounds_toArray, List.set_cons_zero, List.set_cons_succ]
    -- 19: slot 35
    refine wpG_take preGr (i := 19) (v := ?_) (by kernel_rfl) (some 35) (by kernel_rfl) rfl (by kernel_rfl) (by kernel_rfl) (by kernel_rfl) (fun _ _ _ h => h) (by rfl) (fun w' hw' => ?_) rfl ?_
    rotate_left
    · have g0 := cell_gr ((Gr.drew wr).trans hw') HG0.out
      have g1 := cell_gr ((Gr.drew wr).trans hw') HG1.out
      have g2 := cell_gr ((Gr.drew wr).trans hw') HG2.out
      have g3 := cell_gr ((Gr.drew wr).trans hw') HG3.out
      go_simp
      with_reducible rfl
    simp only [Act.put, List.setIfInBounds_toArray, List.set_cons_zero, List.set_cons_succ]
    -- 20: slot 5
    refine wpG_take preGr (i := 20) (v := ?_) (by kernel_rfl) (some 5) (by kernel_rfl) rfl (by kernel_rfl) (by kernel_rfl) (by kernel_rfl) (fun _ _ _ h => h) (by rfl) (fun w' hw' => ?_) rfl ?_
    rotate_left
    · have g0 := cell_gr ((Gr.drew wr).trans hw') HG0.out
      have g1 := cell_gr ((Gr.drew wr).trans hw') HG1.out
      have g2 := cell_gr ((Gr.drew wr).trans hw') HG2.out
      have g3 := cell_gr ((Gr.drew wr).trans hw') HG3.out
      go_simp
      with_reducible rfl
    simp only [Act.put, List.setIfInBounds_toArray, List.set_cons_zero, List.set_cons_succ]
    -- 21: slot 6
    refine wpG_take preGr (i := 21) (v := ?_) (by kernel_rfl) (some 6) (by kernel_rfl) rfl (by kernel_rfl) (by kernel_rfl) (by kernel_rfl) (fun _ _ _ h => h) (by rfl) (fun w' hw' => ?_) rfl ?_
    rotate_left
    · have g0 := cell_gr ((Gr.drew wr).trans hw') HG0.out
      have g1 := cell_gr ((Gr.drew wr).trans hw') HG1.out
      have g2 := cell_gr ((Gr.drew wr).trans hw') HG2.out
      have g3 := cell_gr ((Gr.drew wr).trans hw') HG3.out
      go_simp
      with_reducible rfl
    simp only [Act.put, List.setIfInBounds_toArray, List.set_cons_zero, List.set_cons_succ]
    refine wpG_done (by kernel_rfl) ?_ _
    obtain ⟨X, hX⟩ : ∃ X, X = 256 * x0 + x1 := ⟨_, rfl⟩
    obtain ⟨Y, hY⟩ : ∃ Y, Y = 256 * x2 + x3 := ⟨_, rfl⟩
    have e1 : 256 * (x0 : Int) + (x1 : Int) = (X : Int) := by rw [hX]; omega
    have e2 : 256 * (x2 : Int) + (x3 : Int) = (Y : Int) := by rw [hY]; omega
    have HTX : Hid (tT r = X) := by show _ = _; rw [HX.out, hX]
    have HTY : Hid (tN r = Y) := by show _ = _; rw [HY.out, hY]
    have hx16 : X < 65536 := by omega
    have hy16 : Y < 65536 := by omega
    rw [e1, e2]
    have HLOW2 : Hid (Below w.heap.size w wr.drew) := HLOW.out.drew
    have HOWN2 := Lib.hid (HOWN.out.below (Gr.drew wr))
    have hlow2 : w.heap.size ≤ wr.drew.heap.size := hlow
    generalize wr.drew = wq at HLOW2 HOWN2 hlow2 ⊢
    clear W0 W1 W2 W3 W4 W5 W6 W7 i0' i1' i2' i3' hX hY e1 e2 HX HY HG0 HG1 HG2 HG3 x08 x18 x28 x38 HLOW HOWN
    by_cases hX0 : X = 0
    · subst hX0
      by_cases hY0 : Y = 0
      · subst hY0
        have HD2 : Hid (dec l = (plain ts, 0)) := by
          show _ = _
          rw [HD.out, HI.out.dec]
          exact decL_end _ _ hR4 HTX.out HTY.out
        go_wp2
        go_ret2
        exact DecR.some HD2.out HOWN2.out HLOW2.out
      · have HD2 : Hid (dec l = ([], 50)) := by
          show _ = _
          rw [HD.out, HI.out.dec]
          exact decL_bad _ _ hR4 HTX.out (by rw [HTY.out]; exact hY0)
        have hy0' : ((Y : Int) != 0) = true := by rw [bne_iff_ne]; omega
        go_wp2
        go_ret2
        exact DecR.none HD2.out HLOW2.out
    have hx0 : ((X : Int) == 0) = false := by rw [beq_eq_false_iff_ne]; omega
    have hcast : ((m - 4 : Nat) : Int) = (m : Int) - 4 := by omega
    by_cases hL : m < 4 + Y
    · have HD2 : Hid (dec l = ([], 50)) := by
        show _ = _
        rw [HD.out, HI.out.dec]
        exact decL_less _ _ hR4 (by rw [HTY.out, HRL.out]; exact hL)
      go_wp2
      go_ret2
      exact DecR.none HD2.out HLOW2.out
    obtain ⟨N, hN⟩ : ∃ N, N = ts.length := ⟨_, rfl⟩
    obtain ⟨al, cl, evl, _, _⟩ := HOWN2.out.tr.shape
    rw [← hN] at evl
    subst evl
    have HNN := Lib.hid hN
    have hN64 : N ≤ 64 := by rw [hN]; exact HI.out.few
    clear hN
    by_cases h64 : N = 64
    · have HD2 : Hid (dec l = ([], 3)) := by
        show _ = _
        rw [HD.out, HI.out.dec]
        exact decL_many _ _ hR4 (by rw [HTX.out]; exact hX0) (by rw [HTY.out, HRL.out]; exact hL) (by rw [plain_length, ← HNN.out]; exact h64)
      subst h64
      go_wp2
      go_ret2
      exact DecR.none HD2.out HLOW2.out
    have h64' : ((N : Int) == 64) = false := by rw [beq_eq_false_iff_ne]; omega
    have hN63 : N + 1 ≤ 64 := by omega
    have hc4 : ts.length + 1 ≤ 65 := by rw [← HNN.out]; omega
    obtain ⟨a5, hs5, hr5⟩ := slice_upto (P := Try.prog) Try.underlying22 hj hy1 HR4.out .i64 Y Y rfl (by omega)
    obtain ⟨a6, hs6, hr6⟩ := slice_from (P := Try.prog) Try.underlying22 hj hy1 HR4.out .i64 Y Y rfl (by omega)
    rw [take_u8'] at hr5
    rw [drop_u8, List.drop_drop] at hr6
    have HS5 := Lib.hid hr5
    have HS6 : Hid (Bs w (.slice a6 (m - 4 - Y) (c' - 4 - Y)) (r.drop (4 + Y))) := Bs.of_rd hr6 rfl
    have hl5 : ((r.drop 4).take Y).length = Y := by rw [List.length_take, List.length_drop, HRL.out]; omega
    have HL5 := Lib.hid hl5
    have hEA : Below wq.heap.size wq (wq.alloc (.cells #[] 5)) := (Below.refl _ _).alloc (Nat.le_refl _) _
    have HEA := Lib.hid hEA
    have HRA : Hid (Rd (wq.alloc (.cells #[] 5)) 1 (.slice a5 Y (c' - 4)) Y (((r.drop 4).take Y).map u8v)) := HS5.out.below (HLOW2.out.trans (hEA.mono hlow2))
    have HOW : Hid ((wq.alloc (.cells #[] 5)).ownsRow wq.heap.size 5 1 (.slice (some ⟨wq.heap.size, 0, none⟩) 0 0) 0 []) := World.ownsRow_made _ _ _ (Nat.le_refl _) (Nat.zero_le _) rfl
    clear h64 hr5 hr6 hl5 hEA
    go_wp2_with (at_builtin; refine wpList_append_gr _ rfl (.tmp 52) (.tmp 55) 22 rfl wq.heap.size 5 j0 (.int .u8 0) 1 1 Try.underlying22 hj hy0 hy1 hy2 rfl (by decide) _ _ _ rfl HOW.out _ _ _ rfl HRA.out (oneCell_u8 _) ?q1 (by decide) ?q2 ?_)
    case q1 => omega
    case q2 => exact HEA.out.size
    intro v1 w1 ho1 hg1
    have hb1 : Below wq.heap.size wq w1 := HEA.out.trans (grown_below HOW.out HEA.out.size hg1)
    have HOV : Hid (OwnB w1 wq.heap.size 5 v1 ((r.drop 4).take Y)) := by
      show OwnB _ _ _ _ _
      unfold OwnB
      rw [HL5.out]
      simpa using ho1
    obtain ⟨A, L, C, ev, hL1, _, _⟩ := HOV.out.bs.sl
    rw [HL5.out] at hL1
    obtain rfl : L = Y := hL1.symm
    subst ev
    have HB1 := Lib.hid (HLOW2.out.trans (hb1.mono hlow2))
    have HO1 := Lib.hid (HOWN2.out.below hb1)
    have HV1 := Lib.hid (HOV.out.mono hlow2)
    have hs1 : w.heap.size ≤ w1.heap.size := HB1.out.size
    clear ho1 hg1 hb1
    have hEB : Below w1.heap.size w1 (w1.alloc (.cells #[.int .i64 (X : Int), .slice A L C] 61)) := (Below.refl _ _).alloc (Nat.le_refl _) _
    have HEB := Lib.hid hEB
    have HO3 := Lib.hid (HO1.out.below hEB)
    have HV3 := Lib.hid (HV1.out.below hEB)
    have HB3 : Hid (Below w.heap.size w (w1.alloc (.cells #[.int .i64 (X : Int), .slice A L C] 61))) := HB1.out.trans (hEB.mono hs1)
    have HRD := Lib.hid (rd_new w1 [.int .i64 (X : Int), .slice A L C] 61 1 2 rfl (by decide))
    clear hEB
    go_wp2_with (at_builtin; refine wpList_append_gr _ rfl (.tmp 50) (.tmp 58) 62 rfl w.heap.size 61 i0 _ 2 32 Try.underlying62 hi hz0 hz1 hz2 rfl (by decide) _ _ _ rfl HO3.out.own _ 1 _ rfl HRD.out (one_tag _ rfl) ?p4 (by decide) HB3.out.size ?_)
    case p4 => omega
    intro v' wo ho' hg'
    have HO4 := Lib.hid (TO.more (t := ⟨(X : Int), .slice A L C, (r.drop 4).take L⟩) HO3.out HV3.out ho' hg')
    have HB4 := Lib.hid (HB3.out.trans (grown_below HO3.out.own HB3.out.size hg'))
    have HD2 : Hid (decL [] l = decL (plain (ts ++ [(⟨(X : Int), .slice A L C, (r.drop 4).take L⟩ : Tg)])) (r.drop (4 + L))) := by
      show _ = _
      rw [HI.out.dec, decL_next _ _ hR4 (by rw [HTX.out]; exact hX0) (by rw [HTY.out, HRL.out]; exact hL) (by rw [plain_length, ← HNN.out]; omega), HTX.out, HTY.out, plain_append]
      rfl
    have HI2 : Hid (DI l w wo (.slice a6 (m - 4 - L) (c' - 4 - L)) v' n (m - 4 - L) (r.drop (4 + L)) (ts ++ [(⟨(X : Int), .slice A L C, (r.drop 4).take L⟩ : Tg)])) := by
      refine ⟨?_, by omega, HS6.out, HD2.out, HO4.out, ?_, HB4.out⟩
      · rw [List.length_drop, HRL.out]; omega
      · rw [List.length_append, ← HNN.out]; exact hN63
    clear ho' hg'
    go_wp2
    go_roundw
    case rel =>
      first | exact ⟨m - 4 - L, a6, c' - 4 - L, r.drop (4 + L), _, rfl, HI2⟩ | ((repeat apply Exists.intro); exact ⟨⟨m - 4 - L, a6, c' - 4 - L, r.drop (4 + L), _, rfl, HI2⟩, rfl⟩)
    case measure => simp [slen]; omega
end Go.Proofs.Ytcpeglljcipcbaa
