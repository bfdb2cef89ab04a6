/-
  The document's Step.
-/
import Derived.Test.YtmhiajjnkcneoaaFsJ
namespace Go.Proofs.Ytmhiajjnkcneoaa.Fs
open Go.RowKit
open Go.Proofs.Ytmhiajjnkcneoaa.Id (Tr Tr.refl Tr.gr Tr.only)
set_option linter.unusedVariables false
set_option linter.unusedSimpArgs false
theorem infoA : (Try.prog.info? 36).map (fun i => (i.zero, i.size, i.bytes)) = some (some (.int .i64 0), 1, 8) := by kernel_rfl
theorem cells_rows : ∀ e, InE e → (cellT.getD (e.toNat - 1) []).length = 10 := by
  intro e he
  have := all_steps (fun s e => decide ((cellT.getD (e.toNat - 1) []).length = 10)) (by decide +kernel) 0 e (by decide) he
  exact of_decide_eq_true this
/-- The row of an event, and a cell of it. -/
theorem row_cell (e : Int) (w : World) (he : InE e) : Calls Try.prog 29 #[.int .i64 e] w fun x w' => x = .returned (.slice (some ⟨w.heap.size, 0, none⟩) 10 10) ∧ Below w.heap.size w w' ∧
    ∀ k : Nat, k < 10 → w'.cell? ⟨w.heap.size, k, none⟩ = some (tx (cellOf (k : Int) e)) := by
  refine (row_yes e w he).mono ?_
  rintro x w' ⟨h1, h2, h3⟩
  rw [cells_rows e he] at h1 h3
  exact ⟨h1, h2, fun k hk => h3 k hk⟩
theorem bl_sub (c : ByteArray) (a b : Nat) : bl (c.extract a b) = ((bl c).drop a).take (b - a) := by
  unfold bl
  rw [ByteArray.data_extract]
  simp [List.take_drop]
  try omega
theorem tres_err (s e f : Int) (w w' : World) (h : stp s e = (0, [], f)) (hb : Below w.heap.size w w') : TRes s e w (.returned (.tuple #[.int .i64 0, .slice none 0 0, .int .i64 f])) w' := by
  unfold TRes
  rw [h]
  exact ⟨_, rfl, AO.nil _ _, hb⟩
theorem text_yes (s : ByteArray) : (s.toList == s.toList) = true := by simp
set_option maxHeartbeats 4000000 in
set_option maxRecDepth 20000 in
theorem rstep_in (k : Nat) (e : Int) (w : World) (hs : k < 10) (he : InE e) : Calls Try.prog 12 #[.int .i64 (k : Int), .int .i64 e] w (TRes (k : Int) e w) := by
  have hS : InS (k : Int) := by unfold InS; omega
  have HR := Lib.hid (row_cell e w he)
  have HT := Lib.hid (read_tab hS he)
  have HK := Lib.hid (cell_ok hS he)
  have HI := Lib.hid (And.intro hS he)
  have n1 : ¬ (k : Int) < 0 := by omega
  have n2 : ¬ 9 < (k : Int) := by omega
  have n3 : (k : Int) < 10 := by omega
  obtain ⟨i0, hi, hz0, hz1, hz2⟩ := info_parts infoA
  clear hS he
  go_enter Try.func12, Try.ntmps12
  go_wp2_with fail
  refine HR.out.mono ?_
  rintro x w1 ⟨rfl, hb, hc⟩
  have d0 := hc k hs
  have HB := Lib.hid hb
  obtain ⟨c, hc1, hc2⟩ := tx_of (cellOf (k : Int) e)
  rw [hc1] at d0
  have HC := Lib.hid hc2
  rw [← hc2] at HT HK
  clear hc hb hc1 hc2 HR
  by_cases hq : c = ⟨#[45]⟩
  · subst hq
    have HE := Lib.hid (tres_err _ e 5 w w1 (stp_none HI.out.1 HI.out.2 (by rw [← HT.out]; rfl)) HB.out)
    go_wp2_with fail
    go_ret3
    exact HE.out
  · have hne : (c.toList == [45]) = false := by have := text_ne hq; rwa [show (ByteArray.mk #[45]).toList = [45] by rw [ByteArray.toList_eq]] at this
    have HQ : Hid (bl c ≠ [45]) := fun h => hq (bl_inj h)
    clear hq
    have HL : Hid ((bl c).length = c.size) := bl_length c
    obtain ⟨M, hM⟩ : ∃ M, M = c.size := ⟨_, rfl⟩
    have HM := Lib.hid hM
    have hM13 : M ≤ 13 := by have := HK.out.2.1; rw [HL.out] at this; omega
    have hM0 : 0 < M := by have := HK.out.1; rw [HL.out] at this; omega
    have hM3 : M % 4 ≠ 3 ∧ M % 4 ≠ 0 := by have := HK.out.2.2; rw [HL.out, ← hM] at this; exact ⟨this.2.1, this.1⟩
    have hmc : (c.size : Int) = (M : Int) := by rw [hM]
    clear hM
    go_wp2_with fail
    go_loopw [9, 10] (fun lv iv wr => ∃ (k : Nat) (v : Value), 4 * k ≤ M ∧ iv = .int .i64 ((4 * k : Nat) : Int) ∧ v = lv ∧ AO wr w.heap.size v (actsN (bl c) k) ∧ Below w.heap.size w wr) (fun _ iv _ => 20 - (intOf iv).toNat)
    case atStart => exact ⟨0, _, by omega, rfl, rfl, AO.nil _ _, HB.out⟩
    case round =>
      clear HB
      obtain ⟨q, lv, hq, rfl, rfl, ho, hb⟩ := hrel
      have HO := Lib.hid ho
      have HB := Lib.hid hb
      clear ho hb
      obtain ⟨J, hJ⟩ : ∃ J, J = 4 * q := ⟨_, rfl⟩
      rw [← hJ] at hq
      simp only [← hJ]
      by_cases hlt : J + 3 < M
      · have hsl : ∀ w', (Instr.slice 9 (.string c) (some (.int .i64 (J : Int))) (some (.int .i64 ((J : Int) + 3))) none).run Try.prog w' = .ok (.string (c.extract J (J + 3))) w' := by
          intro w'
          have := run_slice_string (P := Try.prog) w' 9 c .i64 .i64 (J : Int) ((J : Int) + 3) Try.underlying9 (by omega) (by omega) (by omega)
          rw [this]
          congr 2
        have HA := Lib.hid (action_any (c.extract J (J + 3)) wr)
        have HT2 : Hid (actsN (bl c) (q + 1) = actsN (bl c) q ++ [act (bl (c.extract J (J + 3)))]) := by
          show _ = _
          rw [actsN_succ, bl_sub, hJ]
          congr 4
          · omega
          · rw [Nat.mul_comm]
        obtain ⟨x, hx⟩ : ∃ x, x = act (bl (c.extract J (J + 3))) := ⟨_, rfl⟩
        rw [← hx] at HA HT2
        clear hx
        have HJ := Lib.hid hJ
        clear hJ
        go_wp2_with fail
        refine HA.out.mono ?_
        rintro e w2 ⟨rfl, hb⟩
        have HB2 := Lib.hid (HB.out.trans (hb.mono HB.out.size))
        have HO2 := Lib.hid (HO.out.below hb)
        clear hb HA HO HB
        have ha := (Below.refl w2.heap.size w2).alloc (Nat.le_refl _) (.cells (ints [x]).toArray 36)
        have HB3 := Lib.hid (HB2.out.trans (ha.mono HB2.out.size))
        have HO3 : Hid (AO (w2.alloc (.cells (ints [x]).toArray 36)) w.heap.size lv (actsN (bl c) q)) := HO2.out.below ha
        have HX : Hid (AR (w2.alloc (.cells (ints [x]).toArray 36)) (.slice (some ⟨w2.heap.size, 0, none⟩) 1 1) [x]) := (ao_new w2 [x] (by simp)).ar
        have HN : Hid ((actsN (bl c) q).length = q) := by show _ = _; simp [actsN]
        clear ha HB2 HO2
        go_wp2_with (at_builtin; refine wpList_append_gr _ rfl (.tmp 37) (.tmp 44) 24 rfl w.heap.size 36 i0 (.int .i64 0) 1 8 Try.underlying24 hi hz0 hz1 hz2 rfl (by decide) lv _ _ rfl HO3.out _ 1 (ints [x]) rfl HX.out (ints_cell [x]) ?q1 (by decide) HB3.out.size ?_)
        case q1 => have := HN.out; have := HJ.out; omega
        intro v4 w4 hown hg
        have HB4 := Lib.hid (HB3.out.trans (grown_below HO3.out HB3.out.size hg))
        have HO4 : Hid (AO w4 w.heap.size v4 (actsN (bl c) (q + 1))) := by
          show World.ownsRow ..
          rw [HT2.out, ints_app, List.length_append]
          exact hown
        have HJ4 : Hid (4 * (q + 1) = J + 4) := by show _ = _; have := HJ.out; omega
        have hle : 4 * (q + 1) ≤ M := by have := HJ.out; omega
        clear hown hg HB3 HO3 HX HT2
        go_wp2_with fail
        go_roundw
        case rel =>
          first
            | exact ⟨q + 1, v4, hle, by rw [HJ4.out]; go_num, rfl, HO4.out, HB4.out⟩
            | ((repeat apply Exists.intro); exact ⟨⟨q + 1, v4, hle, by rw [HJ4.out]; go_num, rfl, HO4.out, HB4.out⟩, rfl⟩)
        case measure => simp [intOf]; omega
      · have HQ4 : Hid ((bl c).length / 4 = q) := by show _ = _; rw [HL.out]; omega
        have HS : Hid (stp (k : Int) e = ((last (bl c) : Int) - 48, actsN (bl c) q, 0)) := by
          refine stp_some HI.out.1 HI.out.2 ?_
          rw [← HT.out]
          unfold readC
          rw [if_neg HQ.out, HQ4.out]
        have hch : chr c (M - 1) = last (bl c) := by unfold chr last bl; rw [show c.data.toList.length = M by have := HL.out; unfold bl at this; omega]
        have hix := index_chr (P := Try.prog) Try.underlying9 c .i64 ((M : Int) - 1) (M - 1) (by omega) (by omega)
        rw [hch] at hix
        have hl := HK.out.2.2.2.2
        obtain ⟨L, hLL⟩ : ∃ L, L = last (bl c) := ⟨_, rfl⟩
        rw [← hLL] at hix hl HS
        have hl2 : 48 ≤ L ∧ L ≤ 57 := by rcases hl with h | h; exact absurd h HQ.out; exact h
        have x1 : IntKind.u8.wrap ((L : Int) - 48) = (L : Int) - 48 := by rw [IntKind.wrap_u8]; omega
        clear hl hLL hch
        go_wp2_with fail
        go_ret3
        unfold TRes
        rw [HS.out]
        exact ⟨lv, rfl, HO.out, HB.out⟩
set_option maxHeartbeats 2000000 in
theorem rstep_out (s e : Int) (w : World) (h : ¬ (InS s ∧ InE e)) : Calls Try.prog 12 #[.int .i64 s, .int .i64 e] w (TRes s e w) := by
  have HE := Lib.hid (fun w' hb => tres_err s e 140 w w' (stp_out h) hb)
  by_cases he : InE e
  · have HR := Lib.hid (row_cell e w he)
    have hs : s < 0 ∨ 9 < s := by
      have : ¬ InS s := fun c => h ⟨c, he⟩
      unfold InS at this; omega
    clear he h
    by_cases n1 : s < 0
    · clear hs
      go_enter Try.func12, Try.ntmps12
      go_wp2_with fail
      refine HR.out.mono ?_
      rintro x w1 ⟨rfl, hb, _⟩
      have HB := Lib.hid hb
      clear hb HR
      go_wp2_with fail
      go_ret3
      exact HE.out _ HB.out
    · have n2 : 9 < s := by omega
      clear hs
      go_enter Try.func12, Try.ntmps12
      go_wp2_with fail
      refine HR.out.mono ?_
      rintro x w1 ⟨rfl, hb, _⟩
      have HB := Lib.hid hb
      clear hb HR
      go_wp2_with fail
      go_ret3
      exact HE.out _ HB.out
  · have HR := Lib.hid (row_no e w he)
    clear he h
    by_cases n1 : s < 0
    · go_enter Try.func12, Try.ntmps12
      go_wp2_with fail
      refine HR.out.mono ?_
      rintro x w1 ⟨rfl, rfl⟩
      go_wp2_with fail
      go_ret3
      exact HE.out _ (Below.refl _ _)
    · by_cases n2 : 9 < s
      · go_enter Try.func12, Try.ntmps12
        go_wp2_with fail
        refine HR.out.mono ?_
        rintro x w1 ⟨rfl, rfl⟩
        go_wp2_with fail
        go_ret3
        exact HE.out _ (Below.refl _ _)
      · go_enter Try.func12, Try.ntmps12
        go_wp2_with fail
        refine HR.out.mono ?_
        rintro x w1 ⟨rfl, rfl⟩
        go_wp2_with fail
        go_ret3
        exact HE.out _ (Below.refl _ _)
theorem rStep_any (s e : Int) (w : World) : Calls Try.prog 12 #[.int .i64 s, .int .i64 e] w (TRes s e w) := by
  by_cases h : InS s ∧ InE e
  · obtain ⟨k, rfl⟩ : ∃ k : Nat, s = (k : Int) := ⟨s.toNat, by have := h.1.1; omega⟩
    exact rstep_in k e w (by have := h.1.2; omega) h.2
  · exact rstep_out s e w h
end Go.Proofs.Ytmhiajjnkcneoaa.Fs
