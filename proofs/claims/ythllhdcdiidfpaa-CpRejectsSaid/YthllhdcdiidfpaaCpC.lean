/-
  cp.Split, whatever bytes come.
-/
import Derived.Test.YthllhdcdiidfpaaCpB
namespace Go.Proofs.Ythllhdcdiidfpaa
open Go.RowKit
set_option linter.unusedVariables false
set_option linter.unusedSimpArgs false

set_option maxHeartbeats 4000000 in
theorem split_any (a : Option Addr) (n c : Nat) (l : List UInt8) (hn : l.length = n) (w : World) (hb : Bs w (.slice a n c) l) (hr : n ≤ 1000000) :
    Calls Try.prog 9 #[.slice a n c] w (QRes (splt l) w) := by
  have BA : Below w.heap.size w (w.alloc (.cells #[.int .i64 0, .slice none 0 0] 24)) := (Below.refl _ _).alloc (Nat.le_refl _) _
  have HBA := Lib.hid BA
  have HN := Lib.hid hn
  clear BA
  by_cases h6 : n < 2
  · have HP := Lib.hid (splt_short (l := l) (by omega))
    clear hn hb
    go_enter Try.func9, Try.ntmps9
    go_wp2
    refine bodyPost_ret (v := .tuple #[.agg #[.int .i64 0, .slice none 0 0], .int .i64 70]) (results_cell_tmp_row (P := Try.prog) (fn := Try.f9) rfl _ _ w.heap.size 24 _ (0, 0) _ rfl (heap_alloc_last w (.cells #[.int .i64 0, .slice none 0 0] 24)) Try.underlying24 rfl (by kernel_rfl)) rfl ?_
    exact QRes.none HP.out HBA.out
  have h6' : ¬ l.length < 2 := by omega
  have H6 := Lib.hid h6'
  obtain ⟨X, hX⟩ : ∃ X, X = bP l := ⟨_, rfl⟩
  have hX16 : X < 65536 := by rw [hX]; exact bP_lt l
  have hT : takeN ((l.drop 0).take 2) 2 = X := by
    rw [takeN_eq2 _ (by rw [List.length_take, List.length_drop]; omega), bN_take _ _ _ (by decide), bN_take _ _ _ (by decide), List.drop_zero, hX]; rfl
  have HT := Lib.hid hT
  have HX := Lib.hid hX
  have HV := Lib.hid hb
  have HG0 : Hid ((w.alloc (.cells #[.int .i64 0, .slice none 0 0] 24)).heap[w.heap.size]? = some (.cells #[.int .i64 0, .slice none 0 0] 24 (0, 0))) := heap_alloc_last _ _
  have RD := Lib.hid (reader_ex (w.alloc (.cells #[.int .i64 0, .slice none 0 0] 24)) a n c)
  clear hn hb h6' hX hT
  go_enter Try.func9, Try.ntmps9
  go_wp2_with fail
  refine RD.out.mono ?_
  rintro e w1 ⟨ga, gb, rfl, hga, hne, hgb, hg, hb1⟩
  have hsz : w.heap.size + 1 ≤ ga := by rw [World.size_alloc] at hga; exact hga
  have HSZ := Lib.hid hsz
  have HB1 := Lib.hid (HBA.out.trans (hb1.mono HBA.out.size))
  have HG1 := Lib.hid (heap_below HG0.out hb1)
  have NX := Lib.hid (next_any w w1 a n c l HN.out HV.out HB1.out ga gb (Nat.le_of_succ_le hsz) hne 0 2 2 X (by decide) (by decide) rfl (by omega) HT.out hX16 hr hg hgb)
  clear hga hne hgb hg hb1 RD hsz
  go_wp2_with fail
  refine NX.out.mono ?_
  rintro e w2 ⟨rfl, hg2, ho2⟩
  have HB2 := Lib.hid (ho2.below _ _ (Nat.le_of_succ_le HSZ.out) HB1.out)
  have hG2 : w2.heap[w.heap.size]? = some (.cells #[.int .i64 0, .slice none 0 0] 24 (0, 0)) := by
    rw [ho2.heap _ (Array.getElem?_eq_some_iff.1 HG1.out).1 (by have := HSZ.out; omega)]
    exact HG1.out
  have HG2 := Lib.hid hG2
  have PM := Lib.hid (protoMayBe_any X w2)
  clear hg2 ho2 hG2 NX
  go_wp2_with fail
  refine PM.out.mono ?_
  rintro e w' ⟨rfl, rfl⟩
  obtain ⟨q0, q1⟩ := cells2 HG2.out
  have f0 := frozen_of_row _ _ 0 _ _ HG2.out
  have f1 := frozen_of_row _ _ 1 _ _ HG2.out
  cases hp : protoB X with
  | false =>
    have HP := Lib.hid (splt_no H6.out (by rw [← HX.out]; exact hp))
    clear hp PM
    go_wp2
    refine bodyPost_ret (v := .tuple #[.agg #[.int .i64 0, .slice none 0 0], .int .i64 70]) (results_cell_tmp_row (P := Try.prog) (fn := Try.f9) rfl _ _ w.heap.size 24 _ (0, 0) _ rfl (set2 HG2.out _ _) Try.underlying24 rfl (by kernel_rfl)) rfl ?_
    exact QRes.none HP.out ((HB2.out.setCell (Nat.le_refl _) _).setCell (Nat.le_refl _) _)
  | true =>
    have HPP : Hid (protoB (bP l) = true) := by show _ = _; rw [← HX.out]; exact hp
    clear hp PM
    have hcast : ((n - 2 : Nat) : Int) = (n : Int) - 2 := by omega
    by_cases hl : 1492 < n - 2
    · have HP := Lib.hid (splt_long H6.out HPP.out (by rw [HN.out]; exact hl))
      go_wp2
      refine bodyPost_ret (v := .tuple #[.agg #[.int .i64 0, .slice none 0 0], .int .i64 2]) (results_cell_tmp_row (P := Try.prog) (fn := Try.f9) rfl _ _ w.heap.size 24 _ (0, 0) _ rfl (set2 HG2.out _ _) Try.underlying24 rfl (by kernel_rfl)) rfl ?_
      exact QRes.none HP.out ((HB2.out.setCell (Nat.le_refl _) _).setCell (Nat.le_refl _) _)
    · have HP : Hid (splt l = (⟨X, l.drop 2⟩, 0)) := by
        show _ = _
        rw [splt_yes H6.out HPP.out (by rw [HN.out]; exact hl), HX.out]
      have PC := Lib.hid (piece_any w2 a n c l HN.out (HV.out.below HB2.out) 2 n (by omega) (Nat.le_refl _) hr)
      have HL : Hid ((l.drop 2).take (n - 2) = l.drop 2) := by show _ = _; rw [List.take_of_length_le]; rw [List.length_drop, HN.out]; exact Nat.le_refl _
      have HLL : Hid ((l.drop 2).length = n - 2) := by show _ = _; rw [List.length_drop, HN.out]
      clear q0 q1 f0 f1
      go_wp2_with fail
      refine PC.out.mono ?_
      rintro e w4 ⟨v4, rfl, hown4, hb4⟩
      rw [HL.out] at hown4
      obtain ⟨A4, L4, C4, ev, hL4, _, _⟩ := hown4.bs.sl
      rw [HLL.out] at hL4
      subst hL4 ev
      have HB4 := Lib.hid (HB2.out.trans (hb4.mono HB2.out.size))
      have HG4 := Lib.hid (heap_below HG2.out hb4)
      have HO4 := Lib.hid (hown4.mono (show w.heap.size + 1 ≤ w2.heap.size from (Array.getElem?_eq_some_iff.1 HG2.out).1))
      obtain ⟨q0, q1⟩ := cells2 HG4.out
      have f0 := frozen_of_row _ _ 0 _ _ HG4.out
      have f1 := frozen_of_row _ _ 1 _ _ HG4.out
      clear hown4 hb4 PC
      go_wp2
      refine bodyPost_ret (v := .tuple #[.agg #[.int .i64 X, .slice A4 (n - 2) C4], .int .i64 0]) (results_cell_tmp_row (P := Try.prog) (fn := Try.f9) rfl _ _ w.heap.size 24 _ (0, 0) _ rfl (set2 HG4.out _ _) Try.underlying24 rfl (by kernel_rfl)) rfl ?_
      refine QRes.some HP.out ?_ ((HB4.out.setCell (Nat.le_refl _) _).setCell (Nat.le_refl _) _)
      exact OwnB.mono (base := w.heap.size + 1) (own_set2 HO4.out (Nat.lt_succ_self _) _ _) (Nat.le_succ _)
end Go.Proofs.Ythllhdcdiidfpaa
