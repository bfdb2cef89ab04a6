/-
  The events' methods: what each tells in each state (RCA, RCN, RTR, RTA).
-/
import Derived.Test.YtmhiajjnkcneoaaFsB
namespace Go.Proofs.Ytmhiajjnkcneoaa.Fs
open Go.RowKit
open Go.Proofs.Ytmhiajjnkcneoaa.Id (Tr Tr.refl Tr.gr Tr.only)
set_option linter.unusedVariables false
set_option linter.unusedSimpArgs false
set_option maxHeartbeats 4000000 in
theorem m_9 (p : Nat) (s : Int) (w : World) (hs : InS s) (h : Sm w p s) : Calls Try.prog 44 #[.pointer (some ⟨p, 0, none⟩)] w (MRes p w (tab s 9)) := by
  obtain rfl | rfl | rfl | rfl | rfl | rfl | rfl | rfl | rfl | rfl := ten hs
  · rw [show tab 0 9 = none from rfl]
    have k0 := cell1 (show w.heap[p]? = some (.cells #[.int .i64 0] 46 (0, 0)) from h)
    clear h hs
    go_enter Try.func44, Try.ntmps44
    go_wp2_with fail
    go_ret2
    exact ⟨rfl, rfl⟩
  · rw [show tab 1 9 = none from rfl]
    have k0 := cell1 (show w.heap[p]? = some (.cells #[.int .i64 1] 46 (0, 0)) from h)
    clear h hs
    go_enter Try.func44, Try.ntmps44
    go_wp2_with fail
    go_ret2
    exact ⟨rfl, rfl⟩
  · rw [show tab 2 9 = some (2, [11]) from rfl]
    have k0 := cell1 (show w.heap[p]? = some (.cells #[.int .i64 2] 46 (0, 0)) from h)
    have HT := Lib.hid (to_row (p := p) 2 2 [11] w h (by decide))
    have HS := Lib.hid (stay_row (p := p) 2 [11] w h (by decide))
    clear h hs
    go_enter Try.func44, Try.ntmps44
    go_wp2_with fail
    first | refine HT.out.mono ?_ | refine HS.out.mono ?_
    rintro e w' ⟨rfl, hm⟩
    have HM := Lib.hid hm
    clear hm HT HS
    go_wp2
    go_ret2
    exact HM.out
  · rw [show tab 3 9 = some (3, [11]) from rfl]
    have k0 := cell1 (show w.heap[p]? = some (.cells #[.int .i64 3] 46 (0, 0)) from h)
    have HT := Lib.hid (to_row (p := p) 3 3 [11] w h (by decide))
    have HS := Lib.hid (stay_row (p := p) 3 [11] w h (by decide))
    clear h hs
    go_enter Try.func44, Try.ntmps44
    go_wp2_with fail
    first | refine HT.out.mono ?_ | refine HS.out.mono ?_
    rintro e w' ⟨rfl, hm⟩
    have HM := Lib.hid hm
    clear hm HT HS
    go_wp2
    go_ret2
    exact HM.out
  · rw [show tab 4 9 = some (4, []) from rfl]
    have k0 := cell1 (show w.heap[p]? = some (.cells #[.int .i64 4] 46 (0, 0)) from h)
    have HT := Lib.hid (to_nil (p := p) 4 4 w h)
    have HS := Lib.hid (stay_nil (p := p) 4 w h)
    clear h hs
    go_enter Try.func44, Try.ntmps44
    go_wp2_with fail
    first | refine HT.out.mono ?_ | refine HS.out.mono ?_
    rintro e w' ⟨rfl, hm⟩
    have HM := Lib.hid hm
    clear hm HT HS
    go_wp2
    go_ret2
    exact HM.out
  · rw [show tab 5 9 = some (5, []) from rfl]
    have k0 := cell1 (show w.heap[p]? = some (.cells #[.int .i64 5] 46 (0, 0)) from h)
    have HT := Lib.hid (to_nil (p := p) 5 5 w h)
    have HS := Lib.hid (stay_nil (p := p) 5 w h)
    clear h hs
    go_enter Try.func44, Try.ntmps44
    go_wp2_with fail
    first | refine HT.out.mono ?_ | refine HS.out.mono ?_
    rintro e w' ⟨rfl, hm⟩
    have HM := Lib.hid hm
    clear hm HT HS
    go_wp2
    go_ret2
    exact HM.out
  · rw [show tab 6 9 = some (7, [5]) from rfl]
    have k0 := cell1 (show w.heap[p]? = some (.cells #[.int .i64 6] 46 (0, 0)) from h)
    have HT := Lib.hid (to_row (p := p) 6 7 [5] w h (by decide))
    clear h hs
    go_enter Try.func44, Try.ntmps44
    go_wp2_with fail
    refine HT.out.mono ?_
    rintro e w' ⟨rfl, hm⟩
    have HM := Lib.hid hm
    clear hm HT
    go_wp2
    go_ret2
    exact HM.out
  · rw [show tab 7 9 = some (6, [7]) from rfl]
    have k0 := cell1 (show w.heap[p]? = some (.cells #[.int .i64 7] 46 (0, 0)) from h)
    have HT := Lib.hid (to_row (p := p) 7 6 [7] w h (by decide))
    clear h hs
    go_enter Try.func44, Try.ntmps44
    go_wp2_with fail
    refine HT.out.mono ?_
    rintro e w' ⟨rfl, hm⟩
    have HM := Lib.hid hm
    clear hm HT
    go_wp2
    go_ret2
    exact HM.out
  · rw [show tab 8 9 = some (9, [5, 1]) from rfl]
    have k0 := cell1 (show w.heap[p]? = some (.cells #[.int .i64 8] 46 (0, 0)) from h)
    have HT := Lib.hid (to_row (p := p) 8 9 [5, 1] w h (by decide))
    clear h hs
    go_enter Try.func44, Try.ntmps44
    go_wp2_with fail
    refine HT.out.mono ?_
    rintro e w' ⟨rfl, hm⟩
    have HM := Lib.hid hm
    clear hm HT
    go_wp2
    go_ret2
    exact HM.out
  · rw [show tab 9 9 = some (6, [2, 7]) from rfl]
    have k0 := cell1 (show w.heap[p]? = some (.cells #[.int .i64 9] 46 (0, 0)) from h)
    have HT := Lib.hid (to_row (p := p) 9 6 [2, 7] w h (by decide))
    clear h hs
    go_enter Try.func44, Try.ntmps44
    go_wp2_with fail
    refine HT.out.mono ?_
    rintro e w' ⟨rfl, hm⟩
    have HM := Lib.hid hm
    clear hm HT
    go_wp2
    go_ret2
    exact HM.out
set_option maxHeartbeats 4000000 in
theorem m_10 (p : Nat) (s : Int) (w : World) (hs : InS s) (h : Sm w p s) : Calls Try.prog 45 #[.pointer (some ⟨p, 0, none⟩)] w (MRes p w (tab s 10)) := by
  obtain rfl | rfl | rfl | rfl | rfl | rfl | rfl | rfl | rfl | rfl := ten hs
  · rw [show tab 0 10 = none from rfl]
    have k0 := cell1 (show w.heap[p]? = some (.cells #[.int .i64 0] 46 (0, 0)) from h)
    clear h hs
    go_enter Try.func45, Try.ntmps45
    go_wp2_with fail
    go_ret2
    exact ⟨rfl, rfl⟩
  · rw [show tab 1 10 = none from rfl]
    have k0 := cell1 (show w.heap[p]? = some (.cells #[.int .i64 1] 46 (0, 0)) from h)
    clear h hs
    go_enter Try.func45, Try.ntmps45
    go_wp2_with fail
    go_ret2
    exact ⟨rfl, rfl⟩
  · rw [show tab 2 10 = some (2, [11]) from rfl]
    have k0 := cell1 (show w.heap[p]? = some (.cells #[.int .i64 2] 46 (0, 0)) from h)
    have HT := Lib.hid (to_row (p := p) 2 2 [11] w h (by decide))
    have HS := Lib.hid (stay_row (p := p) 2 [11] w h (by decide))
    clear h hs
    go_enter Try.func45, Try.ntmps45
    go_wp2_with fail
    first | refine HT.out.mono ?_ | refine HS.out.mono ?_
    rintro e w' ⟨rfl, hm⟩
    have HM := Lib.hid hm
    clear hm HT HS
    go_wp2
    go_ret2
    exact HM.out
  · rw [show tab 3 10 = some (3, [11]) from rfl]
    have k0 := cell1 (show w.heap[p]? = some (.cells #[.int .i64 3] 46 (0, 0)) from h)
    have HT := Lib.hid (to_row (p := p) 3 3 [11] w h (by decide))
    have HS := Lib.hid (stay_row (p := p) 3 [11] w h (by decide))
    clear h hs
    go_enter Try.func45, Try.ntmps45
    go_wp2_with fail
    first | refine HT.out.mono ?_ | refine HS.out.mono ?_
    rintro e w' ⟨rfl, hm⟩
    have HM := Lib.hid hm
    clear hm HT HS
    go_wp2
    go_ret2
    exact HM.out
  · rw [show tab 4 10 = some (4, []) from rfl]
    have k0 := cell1 (show w.heap[p]? = some (.cells #[.int .i64 4] 46 (0, 0)) from h)
    have HT := Lib.hid (to_nil (p := p) 4 4 w h)
    have HS := Lib.hid (stay_nil (p := p) 4 w h)
    clear h hs
    go_enter Try.func45, Try.ntmps45
    go_wp2_with fail
    first | refine HT.out.mono ?_ | refine HS.out.mono ?_
    rintro e w' ⟨rfl, hm⟩
    have HM := Lib.hid hm
    clear hm HT HS
    go_wp2
    go_ret2
    exact HM.out
  · rw [show tab 5 10 = some (5, []) from rfl]
    have k0 := cell1 (show w.heap[p]? = some (.cells #[.int .i64 5] 46 (0, 0)) from h)
    have HT := Lib.hid (to_nil (p := p) 5 5 w h)
    have HS := Lib.hid (stay_nil (p := p) 5 w h)
    clear h hs
    go_enter Try.func45, Try.ntmps45
    go_wp2_with fail
    first | refine HT.out.mono ?_ | refine HS.out.mono ?_
    rintro e w' ⟨rfl, hm⟩
    have HM := Lib.hid hm
    clear hm HT HS
    go_wp2
    go_ret2
    exact HM.out
  · rw [show tab 6 10 = some (6, [5, 7]) from rfl]
    have k0 := cell1 (show w.heap[p]? = some (.cells #[.int .i64 6] 46 (0, 0)) from h)
    have HT := Lib.hid (to_row (p := p) 6 6 [5, 7] w h (by decide))
    have HS := Lib.hid (stay_row (p := p) 6 [5, 7] w h (by decide))
    clear h hs
    go_enter Try.func45, Try.ntmps45
    go_wp2_with fail
    first | refine HT.out.mono ?_ | refine HS.out.mono ?_
    rintro e w' ⟨rfl, hm⟩
    have HM := Lib.hid hm
    clear hm HT HS
    go_wp2
    go_ret2
    exact HM.out
  · rw [show tab 7 10 = some (6, [7]) from rfl]
    have k0 := cell1 (show w.heap[p]? = some (.cells #[.int .i64 7] 46 (0, 0)) from h)
    have HT := Lib.hid (to_row (p := p) 7 6 [7] w h (by decide))
    clear h hs
    go_enter Try.func45, Try.ntmps45
    go_wp2_with fail
    refine HT.out.mono ?_
    rintro e w' ⟨rfl, hm⟩
    have HM := Lib.hid hm
    clear hm HT
    go_wp2
    go_ret2
    exact HM.out
  · rw [show tab 8 10 = some (8, [5, 7]) from rfl]
    have k0 := cell1 (show w.heap[p]? = some (.cells #[.int .i64 8] 46 (0, 0)) from h)
    have HT := Lib.hid (to_row (p := p) 8 8 [5, 7] w h (by decide))
    have HS := Lib.hid (stay_row (p := p) 8 [5, 7] w h (by decide))
    clear h hs
    go_enter Try.func45, Try.ntmps45
    go_wp2_with fail
    first | refine HT.out.mono ?_ | refine HS.out.mono ?_
    rintro e w' ⟨rfl, hm⟩
    have HM := Lib.hid hm
    clear hm HT HS
    go_wp2
    go_ret2
    exact HM.out
  · rw [show tab 9 10 = some (6, [2, 7]) from rfl]
    have k0 := cell1 (show w.heap[p]? = some (.cells #[.int .i64 9] 46 (0, 0)) from h)
    have HT := Lib.hid (to_row (p := p) 9 6 [2, 7] w h (by decide))
    clear h hs
    go_enter Try.func45, Try.ntmps45
    go_wp2_with fail
    refine HT.out.mono ?_
    rintro e w' ⟨rfl, hm⟩
    have HM := Lib.hid hm
    clear hm HT
    go_wp2
    go_ret2
    exact HM.out
set_option maxHeartbeats 4000000 in
theorem m_11 (p : Nat) (s : Int) (w : World) (hs : InS s) (h : Sm w p s) : Calls Try.prog 46 #[.pointer (some ⟨p, 0, none⟩)] w (MRes p w (tab s 11)) := by
  obtain rfl | rfl | rfl | rfl | rfl | rfl | rfl | rfl | rfl | rfl := ten hs
  · rw [show tab 0 11 = none from rfl]
    have k0 := cell1 (show w.heap[p]? = some (.cells #[.int .i64 0] 46 (0, 0)) from h)
    clear h hs
    go_enter Try.func46, Try.ntmps46
    go_wp2_with fail
    go_ret2
    exact ⟨rfl, rfl⟩
  · rw [show tab 1 11 = none from rfl]
    have k0 := cell1 (show w.heap[p]? = some (.cells #[.int .i64 1] 46 (0, 0)) from h)
    clear h hs
    go_enter Try.func46, Try.ntmps46
    go_wp2_with fail
    go_ret2
    exact ⟨rfl, rfl⟩
  · rw [show tab 2 11 = some (2, [11]) from rfl]
    have k0 := cell1 (show w.heap[p]? = some (.cells #[.int .i64 2] 46 (0, 0)) from h)
    have HT := Lib.hid (to_row (p := p) 2 2 [11] w h (by decide))
    have HS := Lib.hid (stay_row (p := p) 2 [11] w h (by decide))
    clear h hs
    go_enter Try.func46, Try.ntmps46
    go_wp2_with fail
    first | refine HT.out.mono ?_ | refine HS.out.mono ?_
    rintro e w' ⟨rfl, hm⟩
    have HM := Lib.hid hm
    clear hm HT HS
    go_wp2
    go_ret2
    exact HM.out
  · rw [show tab 3 11 = some (3, [11]) from rfl]
    have k0 := cell1 (show w.heap[p]? = some (.cells #[.int .i64 3] 46 (0, 0)) from h)
    have HT := Lib.hid (to_row (p := p) 3 3 [11] w h (by decide))
    have HS := Lib.hid (stay_row (p := p) 3 [11] w h (by decide))
    clear h hs
    go_enter Try.func46, Try.ntmps46
    go_wp2_with fail
    first | refine HT.out.mono ?_ | refine HS.out.mono ?_
    rintro e w' ⟨rfl, hm⟩
    have HM := Lib.hid hm
    clear hm HT HS
    go_wp2
    go_ret2
    exact HM.out
  · rw [show tab 4 11 = some (4, [11]) from rfl]
    have k0 := cell1 (show w.heap[p]? = some (.cells #[.int .i64 4] 46 (0, 0)) from h)
    have HT := Lib.hid (to_row (p := p) 4 4 [11] w h (by decide))
    have HS := Lib.hid (stay_row (p := p) 4 [11] w h (by decide))
    clear h hs
    go_enter Try.func46, Try.ntmps46
    go_wp2_with fail
    first | refine HT.out.mono ?_ | refine HS.out.mono ?_
    rintro e w' ⟨rfl, hm⟩
    have HM := Lib.hid hm
    clear hm HT HS
    go_wp2
    go_ret2
    exact HM.out
  · rw [show tab 5 11 = some (5, [11]) from rfl]
    have k0 := cell1 (show w.heap[p]? = some (.cells #[.int .i64 5] 46 (0, 0)) from h)
    have HT := Lib.hid (to_row (p := p) 5 5 [11] w h (by decide))
    have HS := Lib.hid (stay_row (p := p) 5 [11] w h (by decide))
    clear h hs
    go_enter Try.func46, Try.ntmps46
    go_wp2_with fail
    first | refine HT.out.mono ?_ | refine HS.out.mono ?_
    rintro e w' ⟨rfl, hm⟩
    have HM := Lib.hid hm
    clear hm HT HS
    go_wp2
    go_ret2
    exact HM.out
  · rw [show tab 6 11 = some (6, [11]) from rfl]
    have k0 := cell1 (show w.heap[p]? = some (.cells #[.int .i64 6] 46 (0, 0)) from h)
    have HT := Lib.hid (to_row (p := p) 6 6 [11] w h (by decide))
    have HS := Lib.hid (stay_row (p := p) 6 [11] w h (by decide))
    clear h hs
    go_enter Try.func46, Try.ntmps46
    go_wp2_with fail
    first | refine HT.out.mono ?_ | refine HS.out.mono ?_
    rintro e w' ⟨rfl, hm⟩
    have HM := Lib.hid hm
    clear hm HT HS
    go_wp2
    go_ret2
    exact HM.out
  · rw [show tab 7 11 = some (6, [11]) from rfl]
    have k0 := cell1 (show w.heap[p]? = some (.cells #[.int .i64 7] 46 (0, 0)) from h)
    have HT := Lib.hid (to_row (p := p) 7 6 [11] w h (by decide))
    clear h hs
    go_enter Try.func46, Try.ntmps46
    go_wp2_with fail
    refine HT.out.mono ?_
    rintro e w' ⟨rfl, hm⟩
    have HM := Lib.hid hm
    clear hm HT
    go_wp2
    go_ret2
    exact HM.out
  · rw [show tab 8 11 = some (6, [11]) from rfl]
    have k0 := cell1 (show w.heap[p]? = some (.cells #[.int .i64 8] 46 (0, 0)) from h)
    have HT := Lib.hid (to_row (p := p) 8 6 [11] w h (by decide))
    clear h hs
    go_enter Try.func46, Try.ntmps46
    go_wp2_with fail
    refine HT.out.mono ?_
    rintro e w' ⟨rfl, hm⟩
    have HM := Lib.hid hm
    clear hm HT
    go_wp2
    go_ret2
    exact HM.out
  · rw [show tab 9 11 = some (5, [2, 6, 11]) from rfl]
    have k0 := cell1 (show w.heap[p]? = some (.cells #[.int .i64 9] 46 (0, 0)) from h)
    have HT := Lib.hid (to_row (p := p) 9 5 [2, 6, 11] w h (by decide))
    clear h hs
    go_enter Try.func46, Try.ntmps46
    go_wp2_with fail
    refine HT.out.mono ?_
    rintro e w' ⟨rfl, hm⟩
    have HM := Lib.hid hm
    clear hm HT
    go_wp2
    go_ret2
    exact HM.out
set_option maxHeartbeats 4000000 in
theorem m_12 (p : Nat) (s : Int) (w : World) (hs : InS s) (h : Sm w p s) : Calls Try.prog 47 #[.pointer (some ⟨p, 0, none⟩)] w (MRes p w (tab s 12)) := by
  obtain rfl | rfl | rfl | rfl | rfl | rfl | rfl | rfl | rfl | rfl := ten hs
  · rw [show tab 0 12 = none from rfl]
    have k0 := cell1 (show w.heap[p]? = some (.cells #[.int .i64 0] 46 (0, 0)) from h)
    clear h hs
    go_enter Try.func47, Try.ntmps47
    go_wp2_with fail
    go_ret2
    exact ⟨rfl, rfl⟩
  · rw [show tab 1 12 = none from rfl]
    have k0 := cell1 (show w.heap[p]? = some (.cells #[.int .i64 1] 46 (0, 0)) from h)
    clear h hs
    go_enter Try.func47, Try.ntmps47
    go_wp2_with fail
    go_ret2
    exact ⟨rfl, rfl⟩
  · rw [show tab 2 12 = some (2, []) from rfl]
    have k0 := cell1 (show w.heap[p]? = some (.cells #[.int .i64 2] 46 (0, 0)) from h)
    have HT := Lib.hid (to_nil (p := p) 2 2 w h)
    have HS := Lib.hid (stay_nil (p := p) 2 w h)
    clear h hs
    go_enter Try.func47, Try.ntmps47
    go_wp2_with fail
    first | refine HT.out.mono ?_ | refine HS.out.mono ?_
    rintro e w' ⟨rfl, hm⟩
    have HM := Lib.hid hm
    clear hm HT HS
    go_wp2
    go_ret2
    exact HM.out
  · rw [show tab 3 12 = some (3, []) from rfl]
    have k0 := cell1 (show w.heap[p]? = some (.cells #[.int .i64 3] 46 (0, 0)) from h)
    have HT := Lib.hid (to_nil (p := p) 3 3 w h)
    have HS := Lib.hid (stay_nil (p := p) 3 w h)
    clear h hs
    go_enter Try.func47, Try.ntmps47
    go_wp2_with fail
    first | refine HT.out.mono ?_ | refine HS.out.mono ?_
    rintro e w' ⟨rfl, hm⟩
    have HM := Lib.hid hm
    clear hm HT HS
    go_wp2
    go_ret2
    exact HM.out
  · rw [show tab 4 12 = some (2, [4]) from rfl]
    have k0 := cell1 (show w.heap[p]? = some (.cells #[.int .i64 4] 46 (0, 0)) from h)
    have HT := Lib.hid (to_row (p := p) 4 2 [4] w h (by decide))
    clear h hs
    go_enter Try.func47, Try.ntmps47
    go_wp2_with fail
    refine HT.out.mono ?_
    rintro e w' ⟨rfl, hm⟩
    have HM := Lib.hid hm
    clear hm HT
    go_wp2
    go_ret2
    exact HM.out
  · rw [show tab 5 12 = some (3, [4]) from rfl]
    have k0 := cell1 (show w.heap[p]? = some (.cells #[.int .i64 5] 46 (0, 0)) from h)
    have HT := Lib.hid (to_row (p := p) 5 3 [4] w h (by decide))
    clear h hs
    go_enter Try.func47, Try.ntmps47
    go_wp2_with fail
    refine HT.out.mono ?_
    rintro e w' ⟨rfl, hm⟩
    have HM := Lib.hid hm
    clear hm HT
    go_wp2
    go_ret2
    exact HM.out
  · rw [show tab 6 12 = some (6, []) from rfl]
    have k0 := cell1 (show w.heap[p]? = some (.cells #[.int .i64 6] 46 (0, 0)) from h)
    have HT := Lib.hid (to_nil (p := p) 6 6 w h)
    have HS := Lib.hid (stay_nil (p := p) 6 w h)
    clear h hs
    go_enter Try.func47, Try.ntmps47
    go_wp2_with fail
    first | refine HT.out.mono ?_ | refine HS.out.mono ?_
    rintro e w' ⟨rfl, hm⟩
    have HM := Lib.hid hm
    clear hm HT HS
    go_wp2
    go_ret2
    exact HM.out
  · rw [show tab 7 12 = some (6, []) from rfl]
    have k0 := cell1 (show w.heap[p]? = some (.cells #[.int .i64 7] 46 (0, 0)) from h)
    have HT := Lib.hid (to_nil (p := p) 7 6 w h)
    clear h hs
    go_enter Try.func47, Try.ntmps47
    go_wp2_with fail
    refine HT.out.mono ?_
    rintro e w' ⟨rfl, hm⟩
    have HM := Lib.hid hm
    clear hm HT
    go_wp2
    go_ret2
    exact HM.out
  · rw [show tab 8 12 = some (8, []) from rfl]
    have k0 := cell1 (show w.heap[p]? = some (.cells #[.int .i64 8] 46 (0, 0)) from h)
    have HT := Lib.hid (to_nil (p := p) 8 8 w h)
    have HS := Lib.hid (stay_nil (p := p) 8 w h)
    clear h hs
    go_enter Try.func47, Try.ntmps47
    go_wp2_with fail
    first | refine HT.out.mono ?_ | refine HS.out.mono ?_
    rintro e w' ⟨rfl, hm⟩
    have HM := Lib.hid hm
    clear hm HT HS
    go_wp2
    go_ret2
    exact HM.out
  · rw [show tab 9 12 = some (6, [2, 7]) from rfl]
    have k0 := cell1 (show w.heap[p]? = some (.cells #[.int .i64 9] 46 (0, 0)) from h)
    have HT := Lib.hid (to_row (p := p) 9 6 [2, 7] w h (by decide))
    clear h hs
    go_enter Try.func47, Try.ntmps47
    go_wp2_with fail
    refine HT.out.mono ?_
    rintro e w' ⟨rfl, hm⟩
    have HM := Lib.hid hm
    clear hm HT
    go_wp2
    go_ret2
    exact HM.out
end Go.Proofs.Ytmhiajjnkcneoaa.Fs
