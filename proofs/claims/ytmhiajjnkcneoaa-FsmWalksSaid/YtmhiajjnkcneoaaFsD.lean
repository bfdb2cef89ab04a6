/-
  The events' methods: what each tells in each state (TO+, TO-, RCR+, RCR-).
-/
import Derived.Test.YtmhiajjnkcneoaaFsB
namespace Go.Proofs.Ytmhiajjnkcneoaa.Fs
open Go.RowKit
open Go.Proofs.Ytmhiajjnkcneoaa.Id (Tr Tr.refl Tr.gr Tr.only)
set_option linter.unusedVariables false
set_option linter.unusedSimpArgs false
set_option maxHeartbeats 4000000 in
theorem m_5 (p : Nat) (s : Int) (w : World) (hs : InS s) (h : Sm w p s) : Calls Try.prog 40 #[.pointer (some ⟨p, 0, none⟩)] w (MRes p w (tab s 5)) := by
  obtain rfl | rfl | rfl | rfl | rfl | rfl | rfl | rfl | rfl | rfl := ten hs
  · rw [show tab 0 5 = none from rfl]
    have k0 := cell1 (show w.heap[p]? = some (.cells #[.int .i64 0] 46 (0, 0)) from h)
    clear h hs
    go_enter Try.func40, Try.ntmps40
    go_wp2_with fail
    go_ret2
    exact ⟨rfl, rfl⟩
  · rw [show tab 1 5 = none from rfl]
    have k0 := cell1 (show w.heap[p]? = some (.cells #[.int .i64 1] 46 (0, 0)) from h)
    clear h hs
    go_enter Try.func40, Try.ntmps40
    go_wp2_with fail
    go_ret2
    exact ⟨rfl, rfl⟩
  · rw [show tab 2 5 = none from rfl]
    have k0 := cell1 (show w.heap[p]? = some (.cells #[.int .i64 2] 46 (0, 0)) from h)
    clear h hs
    go_enter Try.func40, Try.ntmps40
    go_wp2_with fail
    go_ret2
    exact ⟨rfl, rfl⟩
  · rw [show tab 3 5 = none from rfl]
    have k0 := cell1 (show w.heap[p]? = some (.cells #[.int .i64 3] 46 (0, 0)) from h)
    clear h hs
    go_enter Try.func40, Try.ntmps40
    go_wp2_with fail
    go_ret2
    exact ⟨rfl, rfl⟩
  · rw [show tab 4 5 = some (4, [10]) from rfl]
    have k0 := cell1 (show w.heap[p]? = some (.cells #[.int .i64 4] 46 (0, 0)) from h)
    have HT := Lib.hid (to_row (p := p) 4 4 [10] w h (by decide))
    have HS := Lib.hid (stay_row (p := p) 4 [10] w h (by decide))
    clear h hs
    go_enter Try.func40, Try.ntmps40
    go_wp2_with fail
    first | refine HT.out.mono ?_ | refine HS.out.mono ?_
    rintro e w' ⟨rfl, hm⟩
    have HM := Lib.hid hm
    clear hm HT HS
    go_wp2
    go_ret2
    exact HM.out
  · rw [show tab 5 5 = some (5, [10]) from rfl]
    have k0 := cell1 (show w.heap[p]? = some (.cells #[.int .i64 5] 46 (0, 0)) from h)
    have HT := Lib.hid (to_row (p := p) 5 5 [10] w h (by decide))
    have HS := Lib.hid (stay_row (p := p) 5 [10] w h (by decide))
    clear h hs
    go_enter Try.func40, Try.ntmps40
    go_wp2_with fail
    first | refine HT.out.mono ?_ | refine HS.out.mono ?_
    rintro e w' ⟨rfl, hm⟩
    have HM := Lib.hid hm
    clear hm HT HS
    go_wp2
    go_ret2
    exact HM.out
  · rw [show tab 6 5 = some (6, [7]) from rfl]
    have k0 := cell1 (show w.heap[p]? = some (.cells #[.int .i64 6] 46 (0, 0)) from h)
    have HT := Lib.hid (to_row (p := p) 6 6 [7] w h (by decide))
    have HS := Lib.hid (stay_row (p := p) 6 [7] w h (by decide))
    clear h hs
    go_enter Try.func40, Try.ntmps40
    go_wp2_with fail
    first | refine HT.out.mono ?_ | refine HS.out.mono ?_
    rintro e w' ⟨rfl, hm⟩
    have HM := Lib.hid hm
    clear hm HT HS
    go_wp2
    go_ret2
    exact HM.out
  · rw [show tab 7 5 = some (6, [7]) from rfl]
    have k0 := cell1 (show w.heap[p]? = some (.cells #[.int .i64 7] 46 (0, 0)) from h)
    have HT := Lib.hid (to_row (p := p) 7 6 [7] w h (by decide))
    clear h hs
    go_enter Try.func40, Try.ntmps40
    go_wp2_with fail
    refine HT.out.mono ?_
    rintro e w' ⟨rfl, hm⟩
    have HM := Lib.hid hm
    clear hm HT
    go_wp2
    go_ret2
    exact HM.out
  · rw [show tab 8 5 = some (8, [7]) from rfl]
    have k0 := cell1 (show w.heap[p]? = some (.cells #[.int .i64 8] 46 (0, 0)) from h)
    have HT := Lib.hid (to_row (p := p) 8 8 [7] w h (by decide))
    have HS := Lib.hid (stay_row (p := p) 8 [7] w h (by decide))
    clear h hs
    go_enter Try.func40, Try.ntmps40
    go_wp2_with fail
    first | refine HT.out.mono ?_ | refine HS.out.mono ?_
    rintro e w' ⟨rfl, hm⟩
    have HM := Lib.hid hm
    clear hm HT HS
    go_wp2
    go_ret2
    exact HM.out
  · rw [show tab 9 5 = none from rfl]
    have k0 := cell1 (show w.heap[p]? = some (.cells #[.int .i64 9] 46 (0, 0)) from h)
    clear h hs
    go_enter Try.func40, Try.ntmps40
    go_wp2_with fail
    go_ret2
    exact ⟨rfl, rfl⟩
set_option maxHeartbeats 4000000 in
theorem m_6 (p : Nat) (s : Int) (w : World) (hs : InS s) (h : Sm w p s) : Calls Try.prog 41 #[.pointer (some ⟨p, 0, none⟩)] w (MRes p w (tab s 6)) := by
  obtain rfl | rfl | rfl | rfl | rfl | rfl | rfl | rfl | rfl | rfl := ten hs
  · rw [show tab 0 6 = none from rfl]
    have k0 := cell1 (show w.heap[p]? = some (.cells #[.int .i64 0] 46 (0, 0)) from h)
    clear h hs
    go_enter Try.func41, Try.ntmps41
    go_wp2_with fail
    go_ret2
    exact ⟨rfl, rfl⟩
  · rw [show tab 1 6 = none from rfl]
    have k0 := cell1 (show w.heap[p]? = some (.cells #[.int .i64 1] 46 (0, 0)) from h)
    clear h hs
    go_enter Try.func41, Try.ntmps41
    go_wp2_with fail
    go_ret2
    exact ⟨rfl, rfl⟩
  · rw [show tab 2 6 = none from rfl]
    have k0 := cell1 (show w.heap[p]? = some (.cells #[.int .i64 2] 46 (0, 0)) from h)
    clear h hs
    go_enter Try.func41, Try.ntmps41
    go_wp2_with fail
    go_ret2
    exact ⟨rfl, rfl⟩
  · rw [show tab 3 6 = none from rfl]
    have k0 := cell1 (show w.heap[p]? = some (.cells #[.int .i64 3] 46 (0, 0)) from h)
    clear h hs
    go_enter Try.func41, Try.ntmps41
    go_wp2_with fail
    go_ret2
    exact ⟨rfl, rfl⟩
  · rw [show tab 4 6 = some (2, [4]) from rfl]
    have k0 := cell1 (show w.heap[p]? = some (.cells #[.int .i64 4] 46 (0, 0)) from h)
    have HT := Lib.hid (to_row (p := p) 4 2 [4] w h (by decide))
    clear h hs
    go_enter Try.func41, Try.ntmps41
    go_wp2_with fail
    refine HT.out.mono ?_
    rintro e w' ⟨rfl, hm⟩
    have HM := Lib.hid hm
    clear hm HT
    go_wp2
    go_ret2
    exact HM.out
  · rw [show tab 5 6 = some (3, [4]) from rfl]
    have k0 := cell1 (show w.heap[p]? = some (.cells #[.int .i64 5] 46 (0, 0)) from h)
    have HT := Lib.hid (to_row (p := p) 5 3 [4] w h (by decide))
    clear h hs
    go_enter Try.func41, Try.ntmps41
    go_wp2_with fail
    refine HT.out.mono ?_
    rintro e w' ⟨rfl, hm⟩
    have HM := Lib.hid hm
    clear hm HT
    go_wp2
    go_ret2
    exact HM.out
  · rw [show tab 6 6 = some (3, [4]) from rfl]
    have k0 := cell1 (show w.heap[p]? = some (.cells #[.int .i64 6] 46 (0, 0)) from h)
    have HT := Lib.hid (to_row (p := p) 6 3 [4] w h (by decide))
    clear h hs
    go_enter Try.func41, Try.ntmps41
    go_wp2_with fail
    refine HT.out.mono ?_
    rintro e w' ⟨rfl, hm⟩
    have HM := Lib.hid hm
    clear hm HT
    go_wp2
    go_ret2
    exact HM.out
  · rw [show tab 7 6 = some (3, [4]) from rfl]
    have k0 := cell1 (show w.heap[p]? = some (.cells #[.int .i64 7] 46 (0, 0)) from h)
    have HT := Lib.hid (to_row (p := p) 7 3 [4] w h (by decide))
    clear h hs
    go_enter Try.func41, Try.ntmps41
    go_wp2_with fail
    refine HT.out.mono ?_
    rintro e w' ⟨rfl, hm⟩
    have HM := Lib.hid hm
    clear hm HT
    go_wp2
    go_ret2
    exact HM.out
  · rw [show tab 8 6 = some (3, [4]) from rfl]
    have k0 := cell1 (show w.heap[p]? = some (.cells #[.int .i64 8] 46 (0, 0)) from h)
    have HT := Lib.hid (to_row (p := p) 8 3 [4] w h (by decide))
    clear h hs
    go_enter Try.func41, Try.ntmps41
    go_wp2_with fail
    refine HT.out.mono ?_
    rintro e w' ⟨rfl, hm⟩
    have HM := Lib.hid hm
    clear hm HT
    go_wp2
    go_ret2
    exact HM.out
  · rw [show tab 9 6 = none from rfl]
    have k0 := cell1 (show w.heap[p]? = some (.cells #[.int .i64 9] 46 (0, 0)) from h)
    clear h hs
    go_enter Try.func41, Try.ntmps41
    go_wp2_with fail
    go_ret2
    exact ⟨rfl, rfl⟩
set_option maxHeartbeats 4000000 in
theorem m_7 (p : Nat) (s : Int) (w : World) (hs : InS s) (h : Sm w p s) : Calls Try.prog 42 #[.pointer (some ⟨p, 0, none⟩)] w (MRes p w (tab s 7)) := by
  obtain rfl | rfl | rfl | rfl | rfl | rfl | rfl | rfl | rfl | rfl := ten hs
  · rw [show tab 0 7 = none from rfl]
    have k0 := cell1 (show w.heap[p]? = some (.cells #[.int .i64 0] 46 (0, 0)) from h)
    clear h hs
    go_enter Try.func42, Try.ntmps42
    go_wp2_with fail
    go_ret2
    exact ⟨rfl, rfl⟩
  · rw [show tab 1 7 = none from rfl]
    have k0 := cell1 (show w.heap[p]? = some (.cells #[.int .i64 1] 46 (0, 0)) from h)
    clear h hs
    go_enter Try.func42, Try.ntmps42
    go_wp2_with fail
    go_ret2
    exact ⟨rfl, rfl⟩
  · rw [show tab 2 7 = some (2, [11]) from rfl]
    have k0 := cell1 (show w.heap[p]? = some (.cells #[.int .i64 2] 46 (0, 0)) from h)
    have HT := Lib.hid (to_row (p := p) 2 2 [11] w h (by decide))
    have HS := Lib.hid (stay_row (p := p) 2 [11] w h (by decide))
    clear h hs
    go_enter Try.func42, Try.ntmps42
    go_wp2_with fail
    first | refine HT.out.mono ?_ | refine HS.out.mono ?_
    rintro e w' ⟨rfl, hm⟩
    have HM := Lib.hid hm
    clear hm HT HS
    go_wp2
    go_ret2
    exact HM.out
  · rw [show tab 3 7 = some (8, [5, 7, 8]) from rfl]
    have k0 := cell1 (show w.heap[p]? = some (.cells #[.int .i64 3] 46 (0, 0)) from h)
    have HT := Lib.hid (to_row (p := p) 3 8 [5, 7, 8] w h (by decide))
    clear h hs
    go_enter Try.func42, Try.ntmps42
    go_wp2_with fail
    refine HT.out.mono ?_
    rintro e w' ⟨rfl, hm⟩
    have HM := Lib.hid hm
    clear hm HT
    go_wp2
    go_ret2
    exact HM.out
  · rw [show tab 4 7 = some (4, []) from rfl]
    have k0 := cell1 (show w.heap[p]? = some (.cells #[.int .i64 4] 46 (0, 0)) from h)
    have HT := Lib.hid (to_nil (p := p) 4 4 w h)
    have HS := Lib.hid (stay_nil (p := p) 4 w h)
    clear h hs
    go_enter Try.func42, Try.ntmps42
    go_wp2_with fail
    first | refine HT.out.mono ?_ | refine HS.out.mono ?_
    rintro e w' ⟨rfl, hm⟩
    have HM := Lib.hid hm
    clear hm HT HS
    go_wp2
    go_ret2
    exact HM.out
  · rw [show tab 5 7 = some (5, []) from rfl]
    have k0 := cell1 (show w.heap[p]? = some (.cells #[.int .i64 5] 46 (0, 0)) from h)
    have HT := Lib.hid (to_nil (p := p) 5 5 w h)
    have HS := Lib.hid (stay_nil (p := p) 5 w h)
    clear h hs
    go_enter Try.func42, Try.ntmps42
    go_wp2_with fail
    first | refine HT.out.mono ?_ | refine HS.out.mono ?_
    rintro e w' ⟨rfl, hm⟩
    have HM := Lib.hid hm
    clear hm HT HS
    go_wp2
    go_ret2
    exact HM.out
  · rw [show tab 6 7 = some (8, [8]) from rfl]
    have k0 := cell1 (show w.heap[p]? = some (.cells #[.int .i64 6] 46 (0, 0)) from h)
    have HT := Lib.hid (to_row (p := p) 6 8 [8] w h (by decide))
    clear h hs
    go_enter Try.func42, Try.ntmps42
    go_wp2_with fail
    refine HT.out.mono ?_
    rintro e w' ⟨rfl, hm⟩
    have HM := Lib.hid hm
    clear hm HT
    go_wp2
    go_ret2
    exact HM.out
  · rw [show tab 7 7 = some (9, [8, 1]) from rfl]
    have k0 := cell1 (show w.heap[p]? = some (.cells #[.int .i64 7] 46 (0, 0)) from h)
    have HT := Lib.hid (to_row (p := p) 7 9 [8, 1] w h (by decide))
    clear h hs
    go_enter Try.func42, Try.ntmps42
    go_wp2_with fail
    refine HT.out.mono ?_
    rintro e w' ⟨rfl, hm⟩
    have HM := Lib.hid hm
    clear hm HT
    go_wp2
    go_ret2
    exact HM.out
  · rw [show tab 8 7 = some (8, [8]) from rfl]
    have k0 := cell1 (show w.heap[p]? = some (.cells #[.int .i64 8] 46 (0, 0)) from h)
    have HT := Lib.hid (to_row (p := p) 8 8 [8] w h (by decide))
    have HS := Lib.hid (stay_row (p := p) 8 [8] w h (by decide))
    clear h hs
    go_enter Try.func42, Try.ntmps42
    go_wp2_with fail
    first | refine HT.out.mono ?_ | refine HS.out.mono ?_
    rintro e w' ⟨rfl, hm⟩
    have HM := Lib.hid hm
    clear hm HT HS
    go_wp2
    go_ret2
    exact HM.out
  · rw [show tab 9 7 = some (8, [2, 7, 8]) from rfl]
    have k0 := cell1 (show w.heap[p]? = some (.cells #[.int .i64 9] 46 (0, 0)) from h)
    have HT := Lib.hid (to_row (p := p) 9 8 [2, 7, 8] w h (by decide))
    clear h hs
    go_enter Try.func42, Try.ntmps42
    go_wp2_with fail
    refine HT.out.mono ?_
    rintro e w' ⟨rfl, hm⟩
    have HM := Lib.hid hm
    clear hm HT
    go_wp2
    go_ret2
    exact HM.out
set_option maxHeartbeats 4000000 in
theorem m_8 (p : Nat) (s : Int) (w : World) (hs : InS s) (h : Sm w p s) : Calls Try.prog 43 #[.pointer (some ⟨p, 0, none⟩)] w (MRes p w (tab s 8)) := by
  obtain rfl | rfl | rfl | rfl | rfl | rfl | rfl | rfl | rfl | rfl := ten hs
  · rw [show tab 0 8 = none from rfl]
    have k0 := cell1 (show w.heap[p]? = some (.cells #[.int .i64 0] 46 (0, 0)) from h)
    clear h hs
    go_enter Try.func43, Try.ntmps43
    go_wp2_with fail
    go_ret2
    exact ⟨rfl, rfl⟩
  · rw [show tab 1 8 = none from rfl]
    have k0 := cell1 (show w.heap[p]? = some (.cells #[.int .i64 1] 46 (0, 0)) from h)
    clear h hs
    go_enter Try.func43, Try.ntmps43
    go_wp2_with fail
    go_ret2
    exact ⟨rfl, rfl⟩
  · rw [show tab 2 8 = some (2, [11]) from rfl]
    have k0 := cell1 (show w.heap[p]? = some (.cells #[.int .i64 2] 46 (0, 0)) from h)
    have HT := Lib.hid (to_row (p := p) 2 2 [11] w h (by decide))
    have HS := Lib.hid (stay_row (p := p) 2 [11] w h (by decide))
    clear h hs
    go_enter Try.func43, Try.ntmps43
    go_wp2_with fail
    first | refine HT.out.mono ?_ | refine HS.out.mono ?_
    rintro e w' ⟨rfl, hm⟩
    have HM := Lib.hid hm
    clear hm HT HS
    go_wp2
    go_ret2
    exact HM.out
  · rw [show tab 3 8 = some (6, [5, 7, 9]) from rfl]
    have k0 := cell1 (show w.heap[p]? = some (.cells #[.int .i64 3] 46 (0, 0)) from h)
    have HT := Lib.hid (to_row (p := p) 3 6 [5, 7, 9] w h (by decide))
    clear h hs
    go_enter Try.func43, Try.ntmps43
    go_wp2_with fail
    refine HT.out.mono ?_
    rintro e w' ⟨rfl, hm⟩
    have HM := Lib.hid hm
    clear hm HT
    go_wp2
    go_ret2
    exact HM.out
  · rw [show tab 4 8 = some (4, []) from rfl]
    have k0 := cell1 (show w.heap[p]? = some (.cells #[.int .i64 4] 46 (0, 0)) from h)
    have HT := Lib.hid (to_nil (p := p) 4 4 w h)
    have HS := Lib.hid (stay_nil (p := p) 4 w h)
    clear h hs
    go_enter Try.func43, Try.ntmps43
    go_wp2_with fail
    first | refine HT.out.mono ?_ | refine HS.out.mono ?_
    rintro e w' ⟨rfl, hm⟩
    have HM := Lib.hid hm
    clear hm HT HS
    go_wp2
    go_ret2
    exact HM.out
  · rw [show tab 5 8 = some (5, []) from rfl]
    have k0 := cell1 (show w.heap[p]? = some (.cells #[.int .i64 5] 46 (0, 0)) from h)
    have HT := Lib.hid (to_nil (p := p) 5 5 w h)
    have HS := Lib.hid (stay_nil (p := p) 5 w h)
    clear h hs
    go_enter Try.func43, Try.ntmps43
    go_wp2_with fail
    first | refine HT.out.mono ?_ | refine HS.out.mono ?_
    rintro e w' ⟨rfl, hm⟩
    have HM := Lib.hid hm
    clear hm HT HS
    go_wp2
    go_ret2
    exact HM.out
  · rw [show tab 6 8 = some (6, [9]) from rfl]
    have k0 := cell1 (show w.heap[p]? = some (.cells #[.int .i64 6] 46 (0, 0)) from h)
    have HT := Lib.hid (to_row (p := p) 6 6 [9] w h (by decide))
    have HS := Lib.hid (stay_row (p := p) 6 [9] w h (by decide))
    clear h hs
    go_enter Try.func43, Try.ntmps43
    go_wp2_with fail
    first | refine HT.out.mono ?_ | refine HS.out.mono ?_
    rintro e w' ⟨rfl, hm⟩
    have HM := Lib.hid hm
    clear hm HT HS
    go_wp2
    go_ret2
    exact HM.out
  · rw [show tab 7 8 = some (7, [9]) from rfl]
    have k0 := cell1 (show w.heap[p]? = some (.cells #[.int .i64 7] 46 (0, 0)) from h)
    have HT := Lib.hid (to_row (p := p) 7 7 [9] w h (by decide))
    have HS := Lib.hid (stay_row (p := p) 7 [9] w h (by decide))
    clear h hs
    go_enter Try.func43, Try.ntmps43
    go_wp2_with fail
    first | refine HT.out.mono ?_ | refine HS.out.mono ?_
    rintro e w' ⟨rfl, hm⟩
    have HM := Lib.hid hm
    clear hm HT HS
    go_wp2
    go_ret2
    exact HM.out
  · rw [show tab 8 8 = some (6, [9]) from rfl]
    have k0 := cell1 (show w.heap[p]? = some (.cells #[.int .i64 8] 46 (0, 0)) from h)
    have HT := Lib.hid (to_row (p := p) 8 6 [9] w h (by decide))
    clear h hs
    go_enter Try.func43, Try.ntmps43
    go_wp2_with fail
    refine HT.out.mono ?_
    rintro e w' ⟨rfl, hm⟩
    have HM := Lib.hid hm
    clear hm HT
    go_wp2
    go_ret2
    exact HM.out
  · rw [show tab 9 8 = some (6, [2, 7, 9]) from rfl]
    have k0 := cell1 (show w.heap[p]? = some (.cells #[.int .i64 9] 46 (0, 0)) from h)
    have HT := Lib.hid (to_row (p := p) 9 6 [2, 7, 9] w h (by decide))
    clear h hs
    go_enter Try.func43, Try.ntmps43
    go_wp2_with fail
    refine HT.out.mono ?_
    rintro e w' ⟨rfl, hm⟩
    have HM := Lib.hid hm
    clear hm HT
    go_wp2
    go_ret2
    exact HM.out
end Go.Proofs.Ytmhiajjnkcneoaa.Fs
