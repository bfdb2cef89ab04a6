/-
  The laws' example; timers that nobody made.
-/
import Derived.Test.YtmcifmgfgdahnaaTmQ
namespace Go.Proofs.Ytmcifmgfgdahnaa.Tm
open Go.RowKit
open Go.Proofs.Ytmcifmgfgdahnaa.Id (Tr Tr.refl Tr.gr Tr.only blk own_blk flatR flatR_len flatR_get flatR_cons flatR_append flatR_one flatR_cell RR)
set_option linter.unusedVariables false
set_option linter.unusedSimpArgs false

set_option maxRecDepth 20000 in
set_option maxHeartbeats 4000000 in
theorem awake_any (w : World) : Calls Try.prog 7 #[] w fun e w' => e = .returned (.bool true) ∧ Below w.heap.size w w' := by
  have HN := Lib.hid (lt_new (Below.refl w.heap.size w))
  go_enter Try.func7, Try.ntmps7
  go_wp2_with fail
  refine HN.out.mono ?_
  rintro e w1 ⟨p, rfl, hl, _⟩
  have HS := Lib.hid (hl.set 1 5 (by decide))
  clear hl HN
  go_wp2_with fail
  refine HS.out.mono ?_
  rintro e w2 ⟨rfl, hl, _⟩
  rw [show setL [] 1 5 = [((1 : Int), (5 : Int))] by decide] at hl
  rw [show setE 1 5 = 0 by decide]
  have HS := Lib.hid (hl.set 2 5 (by decide))
  clear hl
  go_wp2_with fail
  refine HS.out.mono ?_
  rintro e w3 ⟨rfl, hl, _⟩
  rw [show setL [((1 : Int), (5 : Int))] 2 5 = [(1, 5), (2, 5)] by decide] at hl
  rw [show setE 2 5 = 0 by decide]
  have HS := Lib.hid (hl.set 1 7 (by decide))
  clear hl
  go_wp2_with fail
  refine HS.out.mono ?_
  rintro e w4 ⟨rfl, hl, _⟩
  rw [show setL [((1 : Int), (5 : Int)), (2, 5)] 1 7 = [(2, 5), (1, 7)] by decide] at hl
  rw [show setE 1 7 = 0 by decide]
  have HS := Lib.hid (hl.due 6)
  clear hl
  go_wp2_with fail
  refine HS.out.mono ?_
  rintro e w5 ⟨dv, rfl, ho, hl, _⟩
  rw [show left [((2 : Int), (5 : Int)), (1, 7)] 6 = [(1, 7)] by decide] at hl
  rw [show due [((2 : Int), (5 : Int)), (1, 7)] 6 = [(2, 5)] by decide] at ho
  obtain ⟨A, C, rfl⟩ := ho.sl
  obtain ⟨b, o, ea, _, hc⟩ := RR.cells ho.rr (by decide)
  subst ea
  have hc0 := hc 0 (by decide)
  have HC := Lib.hid hc0
  have HL := Lib.hid hl
  have HS : Hid (Calls Try.prog 16 #[.pointer (some ⟨p, 0, none⟩)] w5 fun e w' => e = .returned (.tuple #[.agg #[.int .i64 1, .int .i64 7], .bool true]) ∧ Below w5.heap.size w5 w') := hl.next
  clear hl ho hc hc0
  go_wp2_with fail
  refine HS.out.mono ?_
  rintro e w6 ⟨rfl, hb⟩
  have hl6 := HL.out.gr hb
  have HC6 : Hid (w6.cell? ⟨b, o, none⟩ = some (.int .i64 2) ∧ w6.cell? ⟨b, o + 1, none⟩ = some (.int .i64 5)) := ⟨by simpa using cell_gr hb HC.out.1, by simpa using cell_gr hb HC.out.2⟩
  have hb7 : Gr w6 (w6.alloc (.cells #[.int .i64 1, .int .i64 7] 40)) := (Below.refl _ _).alloc (Nat.le_refl _) _
  have HL7 := Lib.hid (hl6.gr hb7)
  have HC7 : Hid ((w6.alloc (.cells #[.int .i64 1, .int .i64 7] 40)).cell? ⟨b, o, none⟩ = some (.int .i64 2) ∧ (w6.alloc (.cells #[.int .i64 1, .int .i64 7] 40)).cell? ⟨b, o + 1, none⟩ = some (.int .i64 5)) := ⟨cell_gr hb7 HC6.out.1, cell_gr hb7 HC6.out.2⟩
  have HF7 : Hid ((w6.alloc (.cells #[.int .i64 1, .int .i64 7] 40)).heap[w6.heap.size]? = some (.cells #[.int .i64 1, .int .i64 7] 40 (0, 0))) := heap_alloc_last _ _
  clear hl6 hb7 HC6 hb HC HL
  have HLN := Lib.hid HL7.out.len
  have HST := Lib.hid (HL7.out.set (-1) 1 (by decide))
  go_upto_region 5 with fail
  generalize w6.alloc (.cells #[.int .i64 1, .int .i64 7] 40) = w7 at HL7 HC7 HF7 HLN HST ⊢
  have hlow := HL7.out.low
  have HLOW := Lib.hid hlow
  obtain ⟨e0, e1⟩ := HC7.out
  obtain ⟨d0, d1⟩ := copy_cells HF7.out
  clear hlow
  go_wp2_with fail
  refine HLN.out.mono ?_
  rintro e w8 ⟨rfl, rfl⟩
  go_wp2_with fail
  refine HST.out.mono ?_
  rintro e w8 ⟨rfl, hl8, _⟩
  have HL8 := Lib.hid hl8.low
  clear hl8
  rw [show setE (-1) 1 = 130 by decide]
  go_wp2_with fail
  go_ret
  exact ⟨rfl, HL8.out⟩
/-! Timers that nobody made. -/
def NoT (w : World) (v : Value) : Prop := v = .pointer none ∨ ∃ p, v = .pointer (some ⟨p, 0, none⟩) ∧ w.heap[p]? = some (.cells #[.pointer none] 51 (0, 0))
theorem NoT.gr {w w' : World} {v : Value} (h : NoT w v) (hb : Below w.heap.size w w') : NoT w' v := by
  rcases h with h | ⟨p, h1, h2⟩
  · exact .inl h
  · exact .inr ⟨p, h1, heap_below h2 hb⟩
theorem isMade_no {v : Value} (w : World) (h : NoT w v) : Calls Try.prog 20 #[v] w fun e w' => e = .returned (.bool false) ∧ w = w' := by
  rcases h with rfl | ⟨p, rfl, h⟩
  · go_enter Try.func20, Try.ntmps20
    go_wp2
    go_ret
    exact ⟨rfl, rfl⟩
  · have k0 := cell1 h
    clear h
    go_enter Try.func20, Try.ntmps20
    go_wp2
    go_ret
    exact ⟨rfl, rfl⟩
theorem set_no {v : Value} (k t : Int) (w : World) (h : NoT w v) : Calls Try.prog 9 #[v, .int .i64 k, .int .i64 t] w fun e w' => e = .returned (.int .i64 4) ∧ w = w' := by
  have HM := Lib.hid (isMade_no w h)
  clear h
  go_enter Try.func9, Try.ntmps9
  go_wp2_with fail
  refine HM.out.mono ?_
  rintro e w' ⟨rfl, rfl⟩
  go_wp2
  go_ret
  exact ⟨rfl, rfl⟩
theorem stop_no {v : Value} (k : Int) (w : World) (h : NoT w v) : Calls Try.prog 11 #[v, .int .i64 k] w fun e w' => e = .returned (.bool false) ∧ w = w' := by
  have HM := Lib.hid (isMade_no w h)
  clear h
  go_enter Try.func11, Try.ntmps11
  go_wp2_with fail
  refine HM.out.mono ?_
  rintro e w' ⟨rfl, rfl⟩
  go_wp2
  go_ret
  exact ⟨rfl, rfl⟩
theorem len_no {v : Value} (w : World) (h : NoT w v) : Calls Try.prog 17 #[v] w fun e w' => e = .returned (.int .i64 0) ∧ w = w' := by
  have HM := Lib.hid (isMade_no w h)
  clear h
  go_enter Try.func17, Try.ntmps17
  go_wp2_with fail
  refine HM.out.mono ?_
  rintro e w' ⟨rfl, rfl⟩
  go_wp2
  go_ret
  exact ⟨rfl, rfl⟩
theorem fork_no {v : Value} (w : World) (h : NoT w v) : Calls Try.prog 15 #[v] w fun e w' => e = .returned (.pointer none) ∧ w = w' := by
  have HM := Lib.hid (isMade_no w h)
  clear h
  go_enter Try.func15, Try.ntmps15
  go_wp2_with fail
  refine HM.out.mono ?_
  rintro e w' ⟨rfl, rfl⟩
  go_wp2
  go_ret
  exact ⟨rfl, rfl⟩
theorem all_no {v : Value} (w : World) (h : NoT w v) : Calls Try.prog 18 #[v] w fun e w' => e = .returned (.slice none 0 0) ∧ w = w' := by
  have HM := Lib.hid (isMade_no w h)
  clear h
  go_enter Try.func18, Try.ntmps18
  go_wp2_with fail
  refine HM.out.mono ?_
  rintro e w' ⟨rfl, rfl⟩
  go_wp2
  go_ret
  exact ⟨rfl, rfl⟩
set_option maxRecDepth 20000 in
theorem next_no {v : Value} (w : World) (h : NoT w v) : Calls Try.prog 16 #[v] w fun e w' => e = .returned (.tuple #[.agg #[.int .i64 0, .int .i64 0], .bool false]) ∧ Below w.heap.size w w' := by
  have HB : Hid (Gr w (w.alloc (.cells #[.int .i64 0, .int .i64 0] 40))) := (Below.refl _ _).alloc (Nat.le_refl _) _
  have HG : Hid ((w.alloc (.cells #[.int .i64 0, .int .i64 0] 40)).heap[w.heap.size]? = some (.cells #[.int .i64 0, .int .i64 0] 40 (0, 0))) := heap_alloc_last _ _
  have HL := Lib.hid (len_no _ (h.gr HB.out))
  clear h
  go_enter Try.func16, Try.ntmps16
  go_wp2_with fail
  refine HL.out.mono ?_
  rintro e w1 ⟨rfl, rfl⟩
  generalize w.alloc (.cells #[.int .i64 0, .int .i64 0] 40) = w1 at HB HG HL ⊢
  go_wp2_with (with_reducible refine wpList_store_d rfl (.tmp 2) (.tmp 7) rfl w.heap.size 0 0 0 0 rfl rfl HG.out ?_)
  intro w2 h2 ho2
  have H2 := Lib.hid h2
  have HB2 := Lib.hid (ho2.below _ _ (Nat.le_refl _) HB.out)
  clear h2 ho2
  go_wp2
  refine bodyPost_ret (v := .tuple #[.agg #[.int .i64 0, .int .i64 0], .bool false]) (results_cell_tmp_row (P := Try.prog) (fn := Try.f16) rfl _ _ w.heap.size 40 _ (0, 0) _ rfl H2.out Try.underlying40 rfl (size2 _ _)) rfl ?_
  exact ⟨rfl, HB2.out⟩
set_option maxRecDepth 20000 in
theorem due_no {v : Value} (t : Int) (w : World) (h : NoT w v) : Calls Try.prog 14 #[v, .int .i64 t] w fun e w' => e = .returned (.slice none 0 0) ∧ Below w.heap.size w w' := by
  have HN := Lib.hid (next_no w h)
  clear h
  go_enter Try.func14, Try.ntmps14
  go_wp2_with fail
  refine wp_loop_rounds 1 ?_
  rw [rounds_succ]
  go_wp2_with fail
  refine HN.out.mono ?_
  rintro e w1 ⟨rfl, hb⟩
  have HB := Lib.hid hb
  clear hb HN
  go_wp2_with fail
  go_ret
  exact ⟨rfl, HB.out.trans (((Below.refl w1.heap.size w1).alloc (Nat.le_refl _) _).mono HB.out.size)⟩
end Go.Proofs.Ytmcifmgfgdahnaa.Tm
