/-
  The events' methods: what each tells in each state (RUC, RXJ+, RXJ-, RXR).
-/
import Derived.Test.YtmhiajjnkcneoaaFsB
namespace Go.Proofs.Ytmhiajjnkcneoaa.Fs
open Go.RowKit
open Go.Proofs.Ytmhiajjnkcneoaa.Id (Tr Tr.refl Tr.gr Tr.only)
set_option linter.unusedVariables false
set_option linter.unusedSimpArgs false
set_option maxHeartbeats 4000000 in
theorem m_13 (p : Nat) (s : Int) (w : World) (hs : InS s) (h : Sm w p s) : Calls Try.prog 48 #[.pointer (some ⟨p, 0, none⟩)] w (MRes p w (tab s 13)) := by
  obtain rfl | rfl | rfl | rfl | rfl | rfl | rfl | rfl | rfl | rfl := ten hs
  · rw [show tab 0 13 = none from rfl]
    have k0 := cell1 (show w.heap[p]? = some (.cells #[.int .i64 0] 46 (0, 0)) from h)
    clear h hs
    go_enter Try.func48, Try.ntmps48
    go_wp2_with fail
    go_ret2
    exact ⟨rfl, rfl⟩
  · rw [show tab 1 13 = none from rfl]
    have k0 := cell1 (show w.heap[p]? = some (.cells #[.int .i64 1] 46 (0, 0)) from h)
    clear h hs
    go_enter Try.func48, Try.ntmps48
    go_wp2_with fail
    go_ret2
    exact ⟨rfl, rfl⟩
  · rw [show tab 2 13 = some (2, [12]) from rfl]
    have k0 := cell1 (show w.heap[p]? = some (.cells #[.int .i64 2] 46 (0, 0)) from h)
    have HT := Lib.hid (to_row (p := p) 2 2 [12] w h (by decide))
    have HS := Lib.hid (stay_row (p := p) 2 [12] w h (by decide))
    clear h hs
    go_enter Try.func48, Try.ntmps48
    go_wp2_with fail
    first | refine HT.out.mono ?_ | refine HS.out.mono ?_
    rintro e w' ⟨rfl, hm⟩
    have HM := Lib.hid hm
    clear hm HT HS
    go_wp2
    go_ret2
    exact HM.out
  · rw [show tab 3 13 = some (3, [12]) from rfl]
    have k0 := cell1 (show w.heap[p]? = some (.cells #[.int .i64 3] 46 (0, 0)) from h)
    have HT := Lib.hid (to_row (p := p) 3 3 [12] w h (by decide))
    have HS := Lib.hid (stay_row (p := p) 3 [12] w h (by decide))
    clear h hs
    go_enter Try.func48, Try.ntmps48
    go_wp2_with fail
    first | refine HT.out.mono ?_ | refine HS.out.mono ?_
    rintro e w' ⟨rfl, hm⟩
    have HM := Lib.hid hm
    clear hm HT HS
    go_wp2
    go_ret2
    exact HM.out
  · rw [show tab 4 13 = some (4, [12]) from rfl]
    have k0 := cell1 (show w.heap[p]? = some (.cells #[.int .i64 4] 46 (0, 0)) from h)
    have HT := Lib.hid (to_row (p := p) 4 4 [12] w h (by decide))
    have HS := Lib.hid (stay_row (p := p) 4 [12] w h (by decide))
    clear h hs
    go_enter Try.func48, Try.ntmps48
    go_wp2_with fail
    first | refine HT.out.mono ?_ | refine HS.out.mono ?_
    rintro e w' ⟨rfl, hm⟩
    have HM := Lib.hid hm
    clear hm HT HS
    go_wp2
    go_ret2
    exact HM.out
  · rw [show tab 5 13 = some (5, [12]) from rfl]
    have k0 := cell1 (show w.heap[p]? = some (.cells #[.int .i64 5] 46 (0, 0)) from h)
    have HT := Lib.hid (to_row (p := p) 5 5 [12] w h (by decide))
    have HS := Lib.hid (stay_row (p := p) 5 [12] w h (by decide))
    clear h hs
    go_enter Try.func48, Try.ntmps48
    go_wp2_with fail
    first | refine HT.out.mono ?_ | refine HS.out.mono ?_
    rintro e w' ⟨rfl, hm⟩
    have HM := Lib.hid hm
    clear hm HT HS
    go_wp2
    go_ret2
    exact HM.out
  · rw [show tab 6 13 = some (6, [12]) from rfl]
    have k0 := cell1 (show w.heap[p]? = some (.cells #[.int .i64 6] 46 (0, 0)) from h)
    have HT := Lib.hid (to_row (p := p) 6 6 [12] w h (by decide))
    have HS := Lib.hid (stay_row (p := p) 6 [12] w h (by decide))
    clear h hs
    go_enter Try.func48, Try.ntmps48
    go_wp2_with fail
    first | refine HT.out.mono ?_ | refine HS.out.mono ?_
    rintro e w' ⟨rfl, hm⟩
    have HM := Lib.hid hm
    clear hm HT HS
    go_wp2
    go_ret2
    exact HM.out
  · rw [show tab 7 13 = some (7, [12]) from rfl]
    have k0 := cell1 (show w.heap[p]? = some (.cells #[.int .i64 7] 46 (0, 0)) from h)
    have HT := Lib.hid (to_row (p := p) 7 7 [12] w h (by decide))
    have HS := Lib.hid (stay_row (p := p) 7 [12] w h (by decide))
    clear h hs
    go_enter Try.func48, Try.ntmps48
    go_wp2_with fail
    first | refine HT.out.mono ?_ | refine HS.out.mono ?_
    rintro e w' ⟨rfl, hm⟩
    have HM := Lib.hid hm
    clear hm HT HS
    go_wp2
    go_ret2
    exact HM.out
  · rw [show tab 8 13 = some (8, [12]) from rfl]
    have k0 := cell1 (show w.heap[p]? = some (.cells #[.int .i64 8] 46 (0, 0)) from h)
    have HT := Lib.hid (to_row (p := p) 8 8 [12] w h (by decide))
    have HS := Lib.hid (stay_row (p := p) 8 [12] w h (by decide))
    clear h hs
    go_enter Try.func48, Try.ntmps48
    go_wp2_with fail
    first | refine HT.out.mono ?_ | refine HS.out.mono ?_
    rintro e w' ⟨rfl, hm⟩
    have HM := Lib.hid hm
    clear hm HT HS
    go_wp2
    go_ret2
    exact HM.out
  · rw [show tab 9 13 = some (9, [12]) from rfl]
    have k0 := cell1 (show w.heap[p]? = some (.cells #[.int .i64 9] 46 (0, 0)) from h)
    have HT := Lib.hid (to_row (p := p) 9 9 [12] w h (by decide))
    have HS := Lib.hid (stay_row (p := p) 9 [12] w h (by decide))
    clear h hs
    go_enter Try.func48, Try.ntmps48
    go_wp2_with fail
    first | refine HT.out.mono ?_ | refine HS.out.mono ?_
    rintro e w' ⟨rfl, hm⟩
    have HM := Lib.hid hm
    clear hm HT HS
    go_wp2
    go_ret2
    exact HM.out
set_option maxHeartbeats 4000000 in
theorem m_14 (p : Nat) (s : Int) (w : World) (hs : InS s) (h : Sm w p s) : Calls Try.prog 49 #[.pointer (some ⟨p, 0, none⟩)] w (MRes p w (tab s 14)) := by
  obtain rfl | rfl | rfl | rfl | rfl | rfl | rfl | rfl | rfl | rfl := ten hs
  · rw [show tab 0 14 = none from rfl]
    have k0 := cell1 (show w.heap[p]? = some (.cells #[.int .i64 0] 46 (0, 0)) from h)
    clear h hs
    go_enter Try.func49, Try.ntmps49
    go_wp2_with fail
    go_ret2
    exact ⟨rfl, rfl⟩
  · rw [show tab 1 14 = none from rfl]
    have k0 := cell1 (show w.heap[p]? = some (.cells #[.int .i64 1] 46 (0, 0)) from h)
    clear h hs
    go_enter Try.func49, Try.ntmps49
    go_wp2_with fail
    go_ret2
    exact ⟨rfl, rfl⟩
  · rw [show tab 2 14 = some (2, []) from rfl]
    have k0 := cell1 (show w.heap[p]? = some (.cells #[.int .i64 2] 46 (0, 0)) from h)
    have HT := Lib.hid (to_nil (p := p) 2 2 w h)
    have HS := Lib.hid (stay_nil (p := p) 2 w h)
    clear h hs
    go_enter Try.func49, Try.ntmps49
    go_wp2_with fail
    first | refine HT.out.mono ?_ | refine HS.out.mono ?_
    rintro e w' ⟨rfl, hm⟩
    have HM := Lib.hid hm
    clear hm HT HS
    go_wp2
    go_ret2
    exact HM.out
  · rw [show tab 3 14 = some (3, []) from rfl]
    have k0 := cell1 (show w.heap[p]? = some (.cells #[.int .i64 3] 46 (0, 0)) from h)
    have HT := Lib.hid (to_nil (p := p) 3 3 w h)
    have HS := Lib.hid (stay_nil (p := p) 3 w h)
    clear h hs
    go_enter Try.func49, Try.ntmps49
    go_wp2_with fail
    first | refine HT.out.mono ?_ | refine HS.out.mono ?_
    rintro e w' ⟨rfl, hm⟩
    have HM := Lib.hid hm
    clear hm HT HS
    go_wp2
    go_ret2
    exact HM.out
  · rw [show tab 4 14 = some (4, []) from rfl]
    have k0 := cell1 (show w.heap[p]? = some (.cells #[.int .i64 4] 46 (0, 0)) from h)
    have HT := Lib.hid (to_nil (p := p) 4 4 w h)
    have HS := Lib.hid (stay_nil (p := p) 4 w h)
    clear h hs
    go_enter Try.func49, Try.ntmps49
    go_wp2_with fail
    first | refine HT.out.mono ?_ | refine HS.out.mono ?_
    rintro e w' ⟨rfl, hm⟩
    have HM := Lib.hid hm
    clear hm HT HS
    go_wp2
    go_ret2
    exact HM.out
  · rw [show tab 5 14 = some (5, []) from rfl]
    have k0 := cell1 (show w.heap[p]? = some (.cells #[.int .i64 5] 46 (0, 0)) from h)
    have HT := Lib.hid (to_nil (p := p) 5 5 w h)
    have HS := Lib.hid (stay_nil (p := p) 5 w h)
    clear h hs
    go_enter Try.func49, Try.ntmps49
    go_wp2_with fail
    first | refine HT.out.mono ?_ | refine HS.out.mono ?_
    rintro e w' ⟨rfl, hm⟩
    have HM := Lib.hid hm
    clear hm HT HS
    go_wp2
    go_ret2
    exact HM.out
  · rw [show tab 6 14 = some (6, []) from rfl]
    have k0 := cell1 (show w.heap[p]? = some (.cells #[.int .i64 6] 46 (0, 0)) from h)
    have HT := Lib.hid (to_nil (p := p) 6 6 w h)
    have HS := Lib.hid (stay_nil (p := p) 6 w h)
    clear h hs
    go_enter Try.func49, Try.ntmps49
    go_wp2_with fail
    first | refine HT.out.mono ?_ | refine HS.out.mono ?_
    rintro e w' ⟨rfl, hm⟩
    have HM := Lib.hid hm
    clear hm HT HS
    go_wp2
    go_ret2
    exact HM.out
  · rw [show tab 7 14 = some (6, []) from rfl]
    have k0 := cell1 (show w.heap[p]? = some (.cells #[.int .i64 7] 46 (0, 0)) from h)
    have HT := Lib.hid (to_nil (p := p) 7 6 w h)
    clear h hs
    go_enter Try.func49, Try.ntmps49
    go_wp2_with fail
    refine HT.out.mono ?_
    rintro e w' ⟨rfl, hm⟩
    have HM := Lib.hid hm
    clear hm HT
    go_wp2
    go_ret2
    exact HM.out
  · rw [show tab 8 14 = some (8, []) from rfl]
    have k0 := cell1 (show w.heap[p]? = some (.cells #[.int .i64 8] 46 (0, 0)) from h)
    have HT := Lib.hid (to_nil (p := p) 8 8 w h)
    have HS := Lib.hid (stay_nil (p := p) 8 w h)
    clear h hs
    go_enter Try.func49, Try.ntmps49
    go_wp2_with fail
    first | refine HT.out.mono ?_ | refine HS.out.mono ?_
    rintro e w' ⟨rfl, hm⟩
    have HM := Lib.hid hm
    clear hm HT HS
    go_wp2
    go_ret2
    exact HM.out
  · rw [show tab 9 14 = some (9, []) from rfl]
    have k0 := cell1 (show w.heap[p]? = some (.cells #[.int .i64 9] 46 (0, 0)) from h)
    have HT := Lib.hid (to_nil (p := p) 9 9 w h)
    have HS := Lib.hid (stay_nil (p := p) 9 w h)
    clear h hs
    go_enter Try.func49, Try.ntmps49
    go_wp2_with fail
    first | refine HT.out.mono ?_ | refine HS.out.mono ?_
    rintro e w' ⟨rfl, hm⟩
    have HM := Lib.hid hm
    clear hm HT HS
    go_wp2
    go_ret2
    exact HM.out
set_option maxHeartbeats 4000000 in
theorem m_15 (p : Nat) (s : Int) (w : World) (hs : InS s) (h : Sm w p s) : Calls Try.prog 50 #[.pointer (some ⟨p, 0, none⟩)] w (MRes p w (tab s 15)) := by
  obtain rfl | rfl | rfl | rfl | rfl | rfl | rfl | rfl | rfl | rfl := ten hs
  · rw [show tab 0 15 = none from rfl]
    have k0 := cell1 (show w.heap[p]? = some (.cells #[.int .i64 0] 46 (0, 0)) from h)
    clear h hs
    go_enter Try.func50, Try.ntmps50
    go_wp2_with fail
    go_ret2
    exact ⟨rfl, rfl⟩
  · rw [show tab 1 15 = none from rfl]
    have k0 := cell1 (show w.heap[p]? = some (.cells #[.int .i64 1] 46 (0, 0)) from h)
    clear h hs
    go_enter Try.func50, Try.ntmps50
    go_wp2_with fail
    go_ret2
    exact ⟨rfl, rfl⟩
  · rw [show tab 2 15 = some (2, [4]) from rfl]
    have k0 := cell1 (show w.heap[p]? = some (.cells #[.int .i64 2] 46 (0, 0)) from h)
    have HT := Lib.hid (to_row (p := p) 2 2 [4] w h (by decide))
    have HS := Lib.hid (stay_row (p := p) 2 [4] w h (by decide))
    clear h hs
    go_enter Try.func50, Try.ntmps50
    go_wp2_with fail
    first | refine HT.out.mono ?_ | refine HS.out.mono ?_
    rintro e w' ⟨rfl, hm⟩
    have HM := Lib.hid hm
    clear hm HT HS
    go_wp2
    go_ret2
    exact HM.out
  · rw [show tab 3 15 = some (3, [4]) from rfl]
    have k0 := cell1 (show w.heap[p]? = some (.cells #[.int .i64 3] 46 (0, 0)) from h)
    have HT := Lib.hid (to_row (p := p) 3 3 [4] w h (by decide))
    have HS := Lib.hid (stay_row (p := p) 3 [4] w h (by decide))
    clear h hs
    go_enter Try.func50, Try.ntmps50
    go_wp2_with fail
    first | refine HT.out.mono ?_ | refine HS.out.mono ?_
    rintro e w' ⟨rfl, hm⟩
    have HM := Lib.hid hm
    clear hm HT HS
    go_wp2
    go_ret2
    exact HM.out
  · rw [show tab 4 15 = some (2, [4]) from rfl]
    have k0 := cell1 (show w.heap[p]? = some (.cells #[.int .i64 4] 46 (0, 0)) from h)
    have HT := Lib.hid (to_row (p := p) 4 2 [4] w h (by decide))
    clear h hs
    go_enter Try.func50, Try.ntmps50
    go_wp2_with fail
    refine HT.out.mono ?_
    rintro e w' ⟨rfl, hm⟩
    have HM := Lib.hid hm
    clear hm HT
    go_wp2
    go_ret2
    exact HM.out
  · rw [show tab 5 15 = some (3, [4]) from rfl]
    have k0 := cell1 (show w.heap[p]? = some (.cells #[.int .i64 5] 46 (0, 0)) from h)
    have HT := Lib.hid (to_row (p := p) 5 3 [4] w h (by decide))
    clear h hs
    go_enter Try.func50, Try.ntmps50
    go_wp2_with fail
    refine HT.out.mono ?_
    rintro e w' ⟨rfl, hm⟩
    have HM := Lib.hid hm
    clear hm HT
    go_wp2
    go_ret2
    exact HM.out
  · rw [show tab 6 15 = some (3, [4]) from rfl]
    have k0 := cell1 (show w.heap[p]? = some (.cells #[.int .i64 6] 46 (0, 0)) from h)
    have HT := Lib.hid (to_row (p := p) 6 3 [4] w h (by decide))
    clear h hs
    go_enter Try.func50, Try.ntmps50
    go_wp2_with fail
    refine HT.out.mono ?_
    rintro e w' ⟨rfl, hm⟩
    have HM := Lib.hid hm
    clear hm HT
    go_wp2
    go_ret2
    exact HM.out
  · rw [show tab 7 15 = some (3, [4]) from rfl]
    have k0 := cell1 (show w.heap[p]? = some (.cells #[.int .i64 7] 46 (0, 0)) from h)
    have HT := Lib.hid (to_row (p := p) 7 3 [4] w h (by decide))
    clear h hs
    go_enter Try.func50, Try.ntmps50
    go_wp2_with fail
    refine HT.out.mono ?_
    rintro e w' ⟨rfl, hm⟩
    have HM := Lib.hid hm
    clear hm HT
    go_wp2
    go_ret2
    exact HM.out
  · rw [show tab 8 15 = some (3, [4]) from rfl]
    have k0 := cell1 (show w.heap[p]? = some (.cells #[.int .i64 8] 46 (0, 0)) from h)
    have HT := Lib.hid (to_row (p := p) 8 3 [4] w h (by decide))
    clear h hs
    go_enter Try.func50, Try.ntmps50
    go_wp2_with fail
    refine HT.out.mono ?_
    rintro e w' ⟨rfl, hm⟩
    have HM := Lib.hid hm
    clear hm HT
    go_wp2
    go_ret2
    exact HM.out
  · rw [show tab 9 15 = some (5, [2, 5, 10]) from rfl]
    have k0 := cell1 (show w.heap[p]? = some (.cells #[.int .i64 9] 46 (0, 0)) from h)
    have HT := Lib.hid (to_row (p := p) 9 5 [2, 5, 10] w h (by decide))
    clear h hs
    go_enter Try.func50, Try.ntmps50
    go_wp2_with fail
    refine HT.out.mono ?_
    rintro e w' ⟨rfl, hm⟩
    have HM := Lib.hid hm
    clear hm HT
    go_wp2
    go_ret2
    exact HM.out
set_option maxHeartbeats 4000000 in
theorem m_16 (p : Nat) (s : Int) (w : World) (hs : InS s) (h : Sm w p s) : Calls Try.prog 51 #[.pointer (some ⟨p, 0, none⟩)] w (MRes p w (tab s 16)) := by
  obtain rfl | rfl | rfl | rfl | rfl | rfl | rfl | rfl | rfl | rfl := ten hs
  · rw [show tab 0 16 = none from rfl]
    have k0 := cell1 (show w.heap[p]? = some (.cells #[.int .i64 0] 46 (0, 0)) from h)
    clear h hs
    go_enter Try.func51, Try.ntmps51
    go_wp2_with fail
    go_ret2
    exact ⟨rfl, rfl⟩
  · rw [show tab 1 16 = none from rfl]
    have k0 := cell1 (show w.heap[p]? = some (.cells #[.int .i64 1] 46 (0, 0)) from h)
    clear h hs
    go_enter Try.func51, Try.ntmps51
    go_wp2_with fail
    go_ret2
    exact ⟨rfl, rfl⟩
  · rw [show tab 2 16 = some (2, []) from rfl]
    have k0 := cell1 (show w.heap[p]? = some (.cells #[.int .i64 2] 46 (0, 0)) from h)
    have HT := Lib.hid (to_nil (p := p) 2 2 w h)
    have HS := Lib.hid (stay_nil (p := p) 2 w h)
    clear h hs
    go_enter Try.func51, Try.ntmps51
    go_wp2_with fail
    first | refine HT.out.mono ?_ | refine HS.out.mono ?_
    rintro e w' ⟨rfl, hm⟩
    have HM := Lib.hid hm
    clear hm HT HS
    go_wp2
    go_ret2
    exact HM.out
  · rw [show tab 3 16 = some (3, []) from rfl]
    have k0 := cell1 (show w.heap[p]? = some (.cells #[.int .i64 3] 46 (0, 0)) from h)
    have HT := Lib.hid (to_nil (p := p) 3 3 w h)
    have HS := Lib.hid (stay_nil (p := p) 3 w h)
    clear h hs
    go_enter Try.func51, Try.ntmps51
    go_wp2_with fail
    first | refine HT.out.mono ?_ | refine HS.out.mono ?_
    rintro e w' ⟨rfl, hm⟩
    have HM := Lib.hid hm
    clear hm HT HS
    go_wp2
    go_ret2
    exact HM.out
  · rw [show tab 4 16 = some (4, []) from rfl]
    have k0 := cell1 (show w.heap[p]? = some (.cells #[.int .i64 4] 46 (0, 0)) from h)
    have HT := Lib.hid (to_nil (p := p) 4 4 w h)
    have HS := Lib.hid (stay_nil (p := p) 4 w h)
    clear h hs
    go_enter Try.func51, Try.ntmps51
    go_wp2_with fail
    first | refine HT.out.mono ?_ | refine HS.out.mono ?_
    rintro e w' ⟨rfl, hm⟩
    have HM := Lib.hid hm
    clear hm HT HS
    go_wp2
    go_ret2
    exact HM.out
  · rw [show tab 5 16 = some (5, []) from rfl]
    have k0 := cell1 (show w.heap[p]? = some (.cells #[.int .i64 5] 46 (0, 0)) from h)
    have HT := Lib.hid (to_nil (p := p) 5 5 w h)
    have HS := Lib.hid (stay_nil (p := p) 5 w h)
    clear h hs
    go_enter Try.func51, Try.ntmps51
    go_wp2_with fail
    first | refine HT.out.mono ?_ | refine HS.out.mono ?_
    rintro e w' ⟨rfl, hm⟩
    have HM := Lib.hid hm
    clear hm HT HS
    go_wp2
    go_ret2
    exact HM.out
  · rw [show tab 6 16 = some (6, []) from rfl]
    have k0 := cell1 (show w.heap[p]? = some (.cells #[.int .i64 6] 46 (0, 0)) from h)
    have HT := Lib.hid (to_nil (p := p) 6 6 w h)
    have HS := Lib.hid (stay_nil (p := p) 6 w h)
    clear h hs
    go_enter Try.func51, Try.ntmps51
    go_wp2_with fail
    first | refine HT.out.mono ?_ | refine HS.out.mono ?_
    rintro e w' ⟨rfl, hm⟩
    have HM := Lib.hid hm
    clear hm HT HS
    go_wp2
    go_ret2
    exact HM.out
  · rw [show tab 7 16 = some (7, []) from rfl]
    have k0 := cell1 (show w.heap[p]? = some (.cells #[.int .i64 7] 46 (0, 0)) from h)
    have HT := Lib.hid (to_nil (p := p) 7 7 w h)
    have HS := Lib.hid (stay_nil (p := p) 7 w h)
    clear h hs
    go_enter Try.func51, Try.ntmps51
    go_wp2_with fail
    first | refine HT.out.mono ?_ | refine HS.out.mono ?_
    rintro e w' ⟨rfl, hm⟩
    have HM := Lib.hid hm
    clear hm HT HS
    go_wp2
    go_ret2
    exact HM.out
  · rw [show tab 8 16 = some (8, []) from rfl]
    have k0 := cell1 (show w.heap[p]? = some (.cells #[.int .i64 8] 46 (0, 0)) from h)
    have HT := Lib.hid (to_nil (p := p) 8 8 w h)
    have HS := Lib.hid (stay_nil (p := p) 8 w h)
    clear h hs
    go_enter Try.func51, Try.ntmps51
    go_wp2_with fail
    first | refine HT.out.mono ?_ | refine HS.out.mono ?_
    rintro e w' ⟨rfl, hm⟩
    have HM := Lib.hid hm
    clear hm HT HS
    go_wp2
    go_ret2
    exact HM.out
  · rw [show tab 9 16 = some (9, [13]) from rfl]
    have k0 := cell1 (show w.heap[p]? = some (.cells #[.int .i64 9] 46 (0, 0)) from h)
    have HT := Lib.hid (to_row (p := p) 9 9 [13] w h (by decide))
    have HS := Lib.hid (stay_row (p := p) 9 [13] w h (by decide))
    clear h hs
    go_enter Try.func51, Try.ntmps51
    go_wp2_with fail
    first | refine HT.out.mono ?_ | refine HS.out.mono ?_
    rintro e w' ⟨rfl, hm⟩
    have HM := Lib.hid hm
    clear hm HT HS
    go_wp2
    go_ret2
    exact HM.out
end Go.Proofs.Ytmhiajjnkcneoaa.Fs
