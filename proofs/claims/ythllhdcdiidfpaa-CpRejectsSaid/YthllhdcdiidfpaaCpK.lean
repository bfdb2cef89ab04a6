/-
  The document's told, Reject, Protocol, whatever comes.
-/
import Derived.Test.YthllhdcdiidfpaaCpI
import Derived.Test.YthllhdcdiidfpaaCpG
namespace Go.Proofs.Ythllhdcdiidfpaa
open Go.RowKit
set_option linter.unusedVariables false
set_option linter.unusedSimpArgs false

set_option maxHeartbeats 2000000 in
theorem told_any (code id : Int) (a : Option Addr) (n c : Nat) (l : List UInt8) (hn : l.length = n) (w : World) (hb : Bs w (.slice a n c) l) (hr : n ≤ 1000000) :
    Calls Try.prog 34 #[.int .i64 code, .int .i64 id, .slice a n c] w fun e w' => ∃ A L C, e = .returned (.agg #[.int .i64 code, .int .i64 id, .slice A L C]) ∧ OwnB w' w.heap.size 5 (.slice A L C) (l.take 1488) ∧ Below w.heap.size w w' := by
  obtain ⟨i0, hi, hz0, hz1, hz2⟩ := info_parts info5
  have BA : Below w.heap.size w ((w.alloc (.cells #[.int .i64 0, .int .i64 0, .slice none 0 0] 39)).alloc (.cells #[] 5)) := ((Below.refl _ _).alloc (Nat.le_refl _) _).alloc (by simp) _
  have HBA := Lib.hid BA
  have HG0 : Hid (((w.alloc (.cells #[.int .i64 0, .int .i64 0, .slice none 0 0] 39)).alloc (.cells #[] 5)).heap[w.heap.size]? = some (.cells #[.int .i64 0, .int .i64 0, .slice none 0 0] 39 (0, 0))) := heap2_0' _ _ _
  have hb1 : Rd w 1 (.slice a n c) n (l.map u8v) := by
    have := hb
    unfold Bs at this
    rw [hn] at this
    exact this
  obtain ⟨m, hm⟩ : ∃ m, m = min n 1488 := ⟨_, rfl⟩
  have hmin : (if (1488 : Int) < (n : Int) then 1488 else (n : Int)) = (m : Int) := by split <;> omega
  obtain ⟨a7, hs7, hr7⟩ := slice_upto (P := Try.prog) Try.underlying22 hi hz1 hb1 .i64 (m : Int) m rfl (by omega)
  rw [take_u8] at hr7
  have et : l.take m = l.take 1488 := by
    have := take_min l m (by rw [hn]; exact hm)
    rwa [List.drop_zero, Nat.sub_zero] at this
  rw [et] at hr7
  have hl7 : (l.take 1488).length = m := by rw [List.length_take, hn, hm]; omega
  have HL7 := Lib.hid hl7
  have HR7 : Hid (Rd ((w.alloc (.cells #[.int .i64 0, .int .i64 0, .slice none 0 0] 39)).alloc (.cells #[] 5)) 1 (.slice a7 m c) m ((l.take 1488).map u8v)) := hr7.below BA
  have hsz : (w.alloc (.cells #[.int .i64 0, .int .i64 0, .slice none 0 0] 39)).heap.size = w.heap.size + 1 := World.size_alloc _ _
  have ho := own_new (w.alloc (.cells #[.int .i64 0, .int .i64 0, .slice none 0 0] 39)) [] 5 0 1 rfl (Nat.zero_le _)
  rw [hsz] at ho
  have HO7 : Hid (((w.alloc (.cells #[.int .i64 0, .int .i64 0, .slice none 0 0] 39)).alloc (.cells #[] 5)).ownsRow (w.heap.size + 1) 5 1 (.slice (some ⟨w.heap.size + 1, 0, none⟩) 0 0) 0 []) := ho
  have HTS : Hid (w.heap.size + 1 ≤ ((w.alloc (.cells #[.int .i64 0, .int .i64 0, .slice none 0 0] 39)).alloc (.cells #[] 5)).heap.size) := by show _ ≤ _; rw [World.size_alloc, World.size_alloc]; exact Nat.le_succ _
  have hmm : m ≤ 1488 := by omega
  have hc0 : m ≤ n := by omega
  have hnc : n ≤ c := by
    obtain ⟨_, _, ev, h1, _⟩ := hb1.shape
    simp only [Value.slice.injEq] at ev
    obtain ⟨_, _, rfl⟩ := ev
    exact h1
  clear BA hb hb1 hn hr7 et hl7 hsz ho hm
  go_enter Try.func34, Try.ntmps34
  go_wp2_with (at_builtin; refine wpList_append_gr _ rfl _ _ 22 rfl (w.heap.size + 1) 5 i0 (.int .u8 0) 1 1 Try.underlying22 hi hz0 hz1 hz2 rfl (by decide) _ _ _ rfl HO7.out _ _ _ rfl HR7.out (oneCell_u8 _) ?q1 (by decide) HTS.out ?_)
  case q1 => omega
  intro v8 w8 hown8 hg8
  have HB8 := Lib.hid (HBA.out.trans ((grown_below HO7.out HTS.out hg8).mono (Nat.le_succ _)))
  have HG8 := Lib.hid (grown_heap HO7.out hg8 HG0.out (by decide))
  have HO8 : Hid (OwnB w8 (w.heap.size + 1) 5 v8 (l.take 1488)) := by
    show OwnB _ _ _ _ _
    unfold OwnB
    rw [HL7.out]
    simpa using hown8
  obtain ⟨A8, L8, C8, ev, hL8, _, _⟩ := HO8.out.bs.sl
  subst ev
  obtain ⟨k0, k1, k2⟩ := cells3 HG8.out
  have f0 := frozen_of_row _ _ 0 _ _ HG8.out
  have f1 := frozen_of_row _ _ 1 _ _ HG8.out
  have f2 := frozen_of_row _ _ 2 _ _ HG8.out
  clear hown8 hg8 hL8
  go_wp2
  refine bodyPost_ret (v := .agg #[.int .i64 code, .int .i64 id, .slice A8 L8 C8]) (results_cell_row (P := Try.prog) (fn := Try.f34) rfl _ _ w.heap.size 39 _ (0, 0) _ rfl (set3 HG8.out _ _ _) Try.underlying39 rfl (by kernel_rfl)) rfl ?_
  exact ⟨_, _, _, rfl, OwnB.mono (base := w.heap.size + 1) (own_set3 HO8.out (Nat.lt_succ_self _) _ _ _) (Nat.le_succ _), ((HB8.out.setCell (Nat.le_refl _) _).setCell (Nat.le_refl _) _).setCell (Nat.le_refl _) _⟩

set_option maxHeartbeats 2000000 in
theorem rreject_any (C S id : Int) (A : Option Addr) (L K : Nat) (l : List UInt8) (hl : l.length = L) (w : World) (hb : Bs w (.slice A L K) l) (hL : L ≤ 10000) :
    Calls Try.prog 21 #[.agg #[.int .i64 C, .int .i64 S, .slice A L K], .int .i64 id] w (CRes (rejP ⟨C, S, l⟩ id) w) := by
  have BA : Below w.heap.size w ((w.alloc (.cells #[.int .i64 C, .int .i64 S, .slice A L K] 39)).alloc (.cells #[.int .i64 0, .int .i64 0, .slice none 0 0] 39)) := ((Below.refl _ _).alloc (Nat.le_refl _) _).alloc (by simp) _
  have HG0 : Hid (((w.alloc (.cells #[.int .i64 C, .int .i64 S, .slice A L K] 39)).alloc (.cells #[.int .i64 0, .int .i64 0, .slice none 0 0] 39)).heap[w.heap.size]? = some (.cells #[.int .i64 C, .int .i64 S, .slice A L K] 39)) := heap2_0' _ _ _
  have HG1 : Hid (((w.alloc (.cells #[.int .i64 C, .int .i64 S, .slice A L K] 39)).alloc (.cells #[.int .i64 0, .int .i64 0, .slice none 0 0] 39)).heap[w.heap.size + 1]? = some (.cells #[.int .i64 0, .int .i64 0, .slice none 0 0] 39 (0, 0))) := heap2_1' _ _ _
  have HB1 := Lib.hid BA
  have EN := Lib.hid (rcencode_any C S A L K l hl ((w.alloc (.cells #[.int .i64 C, .int .i64 S, .slice A L K] 39)).alloc (.cells #[.int .i64 0, .int .i64 0, .slice none 0 0] 39)) (hb.below BA) (by omega))
  have HLB : Hid ((cencB ⟨C, S, l⟩).length ≤ 20000) := Nat.le_trans (cencB_len _) (by show 4 + l.length ≤ _; omega)
  obtain ⟨E, hE⟩ : ∃ E, E = cencE ⟨C, S, l⟩ := ⟨_, rfl⟩
  obtain ⟨B, hB⟩ : ∃ B, B = cencB ⟨C, S, l⟩ := ⟨_, rfl⟩
  have HPP : Hid (rejP ⟨C, S, l⟩ id = tellP 7 id E B) := by show _ = _; rw [hE, hB]; rfl
  rw [HPP.out]
  rw [← hE, ← hB] at EN
  rw [← hB] at HLB
  have hsz : w.heap.size + 2 ≤ ((w.alloc (.cells #[.int .i64 C, .int .i64 S, .slice A L K] 39)).alloc (.cells #[.int .i64 0, .int .i64 0, .slice none 0 0] 39)).heap.size := by rw [World.size_alloc, World.size_alloc]; exact Nat.le_refl _
  have HSZ := Lib.hid hsz
  obtain ⟨k0, k1, k2⟩ := cells3 HG0.out
  clear BA hl hb hE hB HPP hsz
  go_enter Try.func21, Try.ntmps21
  go_wp2_with fail
  refine EN.out.mono ?_
  rintro e w2 ⟨v2, rfl, hown2, hb2⟩
  have HO2 := Lib.hid (hown2.mono HSZ.out)
  have HB2 := Lib.hid (HB1.out.trans (hb2.mono HB1.out.size))
  have HG2 := Lib.hid (heap_below HG1.out hb2)
  have IB := Lib.hid (byteOK_any id w2)
  have HW2 : Hid (w.heap.size + 2 ≤ w2.heap.size) := Nat.le_trans HSZ.out hb2.size
  obtain ⟨A2, L2, C2, ev, hL2, _, _⟩ := hown2.bs.sl
  subst ev
  clear hown2 hb2 EN k0 k1 k2
  go_wp2_with fail
  refine IB.out.mono ?_
  rintro e w' ⟨rfl, rfl⟩
  obtain ⟨k0, k1, k2⟩ := cells3 HG2.out
  have f0 := frozen_of_row _ _ 0 _ _ HG2.out
  have f1 := frozen_of_row _ _ 1 _ _ HG2.out
  have f2 := frozen_of_row _ _ 2 _ _ HG2.out
  cases hp : byteB id with
  | false =>
    have HP := Lib.hid (tellP_no (code := 7) (id := id) (e := E) (b := B) hp)
    clear hp IB hL2
    go_wp2
    refine bodyPost_ret (v := .tuple #[.agg #[.int .i64 0, .int .i64 0, .slice none 0 0], .int .i64 1]) (results_cell_tmp_row (P := Try.prog) (fn := Try.f21) rfl _ _ (w.heap.size + 1) 39 _ (0, 0) _ rfl (set3 HG2.out _ _ _) Try.underlying39 rfl (by kernel_rfl)) rfl ?_
    exact CRes.none HP.out (((HB2.out.setCell (Nat.le_succ _) _).setCell (Nat.le_succ _) _).setCell (Nat.le_succ _) _)
  | true =>
    by_cases hE : E = 0
    · have HP := Lib.hid (tellP_ok (code := 7) (id := id) (e := E) (b := B) hp hE)
      subst hE
      have TD := Lib.hid (told_any 7 id A2 L2 C2 B hL2 w2 HO2.out.bs (by have := HLB.out; omega))
      clear hp IB hL2 k0 k1 k2 f0 f1 f2
      go_wp2_with fail
      refine TD.out.mono ?_
      rintro e w3 ⟨A3, L3, C3, rfl, hown3, hb3⟩
      have HB3 := Lib.hid (HB2.out.trans (hb3.mono HB2.out.size))
      have HG3 := Lib.hid (heap_below HG2.out hb3)
      have HO3 := Lib.hid (hown3.mono HW2.out)
      obtain ⟨k0, k1, k2⟩ := cells3 HG3.out
      have f0 := frozen_of_row _ _ 0 _ _ HG3.out
      have f1 := frozen_of_row _ _ 1 _ _ HG3.out
      have f2 := frozen_of_row _ _ 2 _ _ HG3.out
      clear hown3 hb3 TD
      go_wp2
      refine bodyPost_ret (v := .tuple #[.agg #[.int .i64 7, .int .i64 id, .slice A3 L3 C3], .int .i64 0]) (results_cell_tmp_row (P := Try.prog) (fn := Try.f21) rfl _ _ (w.heap.size + 1) 39 _ (0, 0) _ rfl (set3 HG3.out _ _ _) Try.underlying39 rfl (by kernel_rfl)) rfl ?_
      exact CRes.some HP.out (OwnB.mono (base := w.heap.size + 2) (own_set3 HO3.out (Nat.lt_succ_self _) _ _ _) (by omega)) (((HB3.out.setCell (Nat.le_succ _) _).setCell (Nat.le_succ _) _).setCell (Nat.le_succ _) _)
    · have HP := Lib.hid (tellP_err (code := 7) (id := id) (e := E) (b := B) hp hE)
      have hE' : (E == 0) = false := by rw [beq_eq_false_iff_ne]; exact hE
      clear hp IB hL2
      go_wp2
      refine bodyPost_ret (v := .tuple #[.agg #[.int .i64 0, .int .i64 0, .slice none 0 0], .int .i64 E]) (results_cell_tmp_row (P := Try.prog) (fn := Try.f21) rfl _ _ (w.heap.size + 1) 39 _ (0, 0) _ rfl (set3 HG2.out _ _ _) Try.underlying39 rfl (by kernel_rfl)) rfl ?_
      exact CRes.none HP.out (((HB2.out.setCell (Nat.le_succ _) _).setCell (Nat.le_succ _) _).setCell (Nat.le_succ _) _)

set_option maxHeartbeats 2000000 in
theorem rprotocol_any (C id : Int) (A : Option Addr) (L K : Nat) (l : List UInt8) (hl : l.length = L) (w : World) (hb : Bs w (.slice A L K) l) (hL : L ≤ 10000) :
    Calls Try.prog 23 #[.agg #[.int .i64 C, .slice A L K], .int .i64 id] w (CRes (proP ⟨C, l⟩ id) w) := by
  have BA : Below w.heap.size w ((w.alloc (.cells #[.int .i64 C, .slice A L K] 24)).alloc (.cells #[.int .i64 0, .int .i64 0, .slice none 0 0] 39)) := ((Below.refl _ _).alloc (Nat.le_refl _) _).alloc (by simp) _
  have HG0 : Hid (((w.alloc (.cells #[.int .i64 C, .slice A L K] 24)).alloc (.cells #[.int .i64 0, .int .i64 0, .slice none 0 0] 39)).heap[w.heap.size]? = some (.cells #[.int .i64 C, .slice A L K] 24)) := heap2_0' _ _ _
  have HG1 : Hid (((w.alloc (.cells #[.int .i64 C, .slice A L K] 24)).alloc (.cells #[.int .i64 0, .int .i64 0, .slice none 0 0] 39)).heap[w.heap.size + 1]? = some (.cells #[.int .i64 0, .int .i64 0, .slice none 0 0] 39 (0, 0))) := heap2_1' _ _ _
  have HB1 := Lib.hid BA
  have EN := Lib.hid (rjoin_any C A L K l hl ((w.alloc (.cells #[.int .i64 C, .slice A L K] 24)).alloc (.cells #[.int .i64 0, .int .i64 0, .slice none 0 0] 39)) (hb.below BA) (by omega))
  have HLB : Hid ((joinB ⟨C, l⟩).length ≤ 20000) := Nat.le_trans (joinB_len _) (by show 2 + l.length ≤ _; omega)
  obtain ⟨E, hE⟩ : ∃ E, E = joinE ⟨C, l⟩ := ⟨_, rfl⟩
  obtain ⟨B, hB⟩ : ∃ B, B = joinB ⟨C, l⟩ := ⟨_, rfl⟩
  have HPP : Hid (proP ⟨C, l⟩ id = tellP 8 id E B) := by show _ = _; rw [hE, hB]; rfl
  rw [HPP.out]
  rw [← hE, ← hB] at EN
  rw [← hB] at HLB
  have hsz : w.heap.size + 2 ≤ ((w.alloc (.cells #[.int .i64 C, .slice A L K] 24)).alloc (.cells #[.int .i64 0, .int .i64 0, .slice none 0 0] 39)).heap.size := by rw [World.size_alloc, World.size_alloc]; exact Nat.le_refl _
  have HSZ := Lib.hid hsz
  obtain ⟨k0, k1⟩ := cells2 HG0.out
  clear BA hl hb hE hB HPP hsz
  go_enter Try.func23, Try.ntmps23
  go_wp2_with fail
  refine EN.out.mono ?_
  rintro e w2 ⟨v2, rfl, hown2, hb2⟩
  have HO2 := Lib.hid (hown2.mono HSZ.out)
  have HB2 := Lib.hid (HB1.out.trans (hb2.mono HB1.out.size))
  have HG2 := Lib.hid (heap_below HG1.out hb2)
  have IB := Lib.hid (byteOK_any id w2)
  have HW2 : Hid (w.heap.size + 2 ≤ w2.heap.size) := Nat.le_trans HSZ.out hb2.size
  obtain ⟨A2, L2, C2, ev, hL2, _, _⟩ := hown2.bs.sl
  subst ev
  clear hown2 hb2 EN k0 k1
  go_wp2_with fail
  refine IB.out.mono ?_
  rintro e w' ⟨rfl, rfl⟩
  obtain ⟨k0, k1, k2⟩ := cells3 HG2.out
  have f0 := frozen_of_row _ _ 0 _ _ HG2.out
  have f1 := frozen_of_row _ _ 1 _ _ HG2.out
  have f2 := frozen_of_row _ _ 2 _ _ HG2.out
  cases hp : byteB id with
  | false =>
    have HP := Lib.hid (tellP_no (code := 8) (id := id) (e := E) (b := B) hp)
    clear hp IB hL2
    go_wp2
    refine bodyPost_ret (v := .tuple #[.agg #[.int .i64 0, .int .i64 0, .slice none 0 0], .int .i64 1]) (results_cell_tmp_row (P := Try.prog) (fn := Try.f23) rfl _ _ (w.heap.size + 1) 39 _ (0, 0) _ rfl (set3 HG2.out _ _ _) Try.underlying39 rfl (by kernel_rfl)) rfl ?_
    exact CRes.none HP.out (((HB2.out.setCell (Nat.le_succ _) _).setCell (Nat.le_succ _) _).setCell (Nat.le_succ _) _)
  | true =>
    by_cases hE : E = 0
    · have HP := Lib.hid (tellP_ok (code := 8) (id := id) (e := E) (b := B) hp hE)
      subst hE
      have TD := Lib.hid (told_any 8 id A2 L2 C2 B hL2 w2 HO2.out.bs (by have := HLB.out; omega))
      clear hp IB hL2 k0 k1 k2 f0 f1 f2
      go_wp2_with fail
      refine TD.out.mono ?_
      rintro e w3 ⟨A3, L3, C3, rfl, hown3, hb3⟩
      have HB3 := Lib.hid (HB2.out.trans (hb3.mono HB2.out.size))
      have HG3 := Lib.hid (heap_below HG2.out hb3)
      have HO3 := Lib.hid (hown3.mono HW2.out)
      obtain ⟨k0, k1, k2⟩ := cells3 HG3.out
      have f0 := frozen_of_row _ _ 0 _ _ HG3.out
      have f1 := frozen_of_row _ _ 1 _ _ HG3.out
      have f2 := frozen_of_row _ _ 2 _ _ HG3.out
      clear hown3 hb3 TD
      go_wp2
      refine bodyPost_ret (v := .tuple #[.agg #[.int .i64 8, .int .i64 id, .slice A3 L3 C3], .int .i64 0]) (results_cell_tmp_row (P := Try.prog) (fn := Try.f23) rfl _ _ (w.heap.size + 1) 39 _ (0, 0) _ rfl (set3 HG3.out _ _ _) Try.underlying39 rfl (by kernel_rfl)) rfl ?_
      exact CRes.some HP.out (OwnB.mono (base := w.heap.size + 2) (own_set3 HO3.out (Nat.lt_succ_self _) _ _ _) (by omega)) (((HB3.out.setCell (Nat.le_succ _) _).setCell (Nat.le_succ _) _).setCell (Nat.le_succ _) _)
    · have HP := Lib.hid (tellP_err (code := 8) (id := id) (e := E) (b := B) hp hE)
      have hE' : (E == 0) = false := by rw [beq_eq_false_iff_ne]; exact hE
      clear hp IB hL2
      go_wp2
      refine bodyPost_ret (v := .tuple #[.agg #[.int .i64 0, .int .i64 0, .slice none 0 0], .int .i64 E]) (results_cell_tmp_row (P := Try.prog) (fn := Try.f23) rfl _ _ (w.heap.size + 1) 39 _ (0, 0) _ rfl (set3 HG2.out _ _ _) Try.underlying39 rfl (by kernel_rfl)) rfl ?_
      exact CRes.none HP.out (((HB2.out.setCell (Nat.le_succ _) _).setCell (Nat.le_succ _) _).setCell (Nat.le_succ _) _)

end Go.Proofs.Ythllhdcdiidfpaa
