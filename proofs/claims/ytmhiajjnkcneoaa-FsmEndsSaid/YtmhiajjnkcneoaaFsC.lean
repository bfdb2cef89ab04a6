/-
  The events' methods: what each tells in each state (Up, Down, Open, Close).
-/
import Derived.Test.YtmhiajjnkcneoaaFsB
namespace Go.Proofs.Ytmhiajjnkcneoaa.Fs
open Go.RowKit
open Go.Proofs.Ytmhiajjnkcneoaa.Id (Tr Tr.refl Tr.gr Tr.only)
set_option linter.unusedVariables false
set_option linter.unusedSimpArgs false
set_option maxHeartbeats 4000000 in
theorem m_1 (p : Nat) (s : Int) (w : World) (hs : InS s) (h : Sm w p s) : Calls Try.prog 36 #[.pointer (some ⟨p, 0, none⟩)] w (MRes p w (tab s 1)) := by
  obtain rfl | rfl | rfl | rfl | rfl | rfl | rfl | rfl | rfl | rfl := ten hs
  · rw [show tab 0 1 = some (2, []) from rfl]
    have k0 := cell1 (show w.heap[p]? = some (.cells #[.int .i64 0] 46 (0, 0)) from h)
    have HT := Lib.hid (to_nil (p := p) 0 2 w h)
    clear h hs
    go_enter Try.func36, Try.ntmps36
    go_wp2_with fail
    refine HT.out.mono ?_
    rintro e w' ⟨rfl, hm⟩
    have HM := Lib.hid hm
    clear hm HT
    go_wp2
    go_ret2
    exact HM.out
  · rw [show tab 1 1 = some (6, [5, 7]) from rfl]
    have k0 := cell1 (show w.heap[p]? = some (.cells #[.int .i64 1] 46 (0, 0)) from h)
    have HT := Lib.hid (to_row (p := p) 1 6 [5, 7] w h (by decide))
    clear h hs
    go_enter Try.func36, Try.ntmps36
    go_wp2_with fail
    refine HT.out.mono ?_
    rintro e w' ⟨rfl, hm⟩
    have HM := Lib.hid hm
    clear hm HT
    go_wp2
    go_ret2
    exact HM.out
  · rw [show tab 2 1 = none from rfl]
    have k0 := cell1 (show w.heap[p]? = some (.cells #[.int .i64 2] 46 (0, 0)) from h)
    clear h hs
    go_enter Try.func36, Try.ntmps36
    go_wp2_with fail
    go_ret2
    exact ⟨rfl, rfl⟩
  · rw [show tab 3 1 = none from rfl]
    have k0 := cell1 (show w.heap[p]? = some (.cells #[.int .i64 3] 46 (0, 0)) from h)
    clear h hs
    go_enter Try.func36, Try.ntmps36
    go_wp2_with fail
    go_ret2
    exact ⟨rfl, rfl⟩
  · rw [show tab 4 1 = none from rfl]
    have k0 := cell1 (show w.heap[p]? = some (.cells #[.int .i64 4] 46 (0, 0)) from h)
    clear h hs
    go_enter Try.func36, Try.ntmps36
    go_wp2_with fail
    go_ret2
    exact ⟨rfl, rfl⟩
  · rw [show tab 5 1 = none from rfl]
    have k0 := cell1 (show w.heap[p]? = some (.cells #[.int .i64 5] 46 (0, 0)) from h)
    clear h hs
    go_enter Try.func36, Try.ntmps36
    go_wp2_with fail
    go_ret2
    exact ⟨rfl, rfl⟩
  · rw [show tab 6 1 = none from rfl]
    have k0 := cell1 (show w.heap[p]? = some (.cells #[.int .i64 6] 46 (0, 0)) from h)
    clear h hs
    go_enter Try.func36, Try.ntmps36
    go_wp2_with fail
    go_ret2
    exact ⟨rfl, rfl⟩
  · rw [show tab 7 1 = none from rfl]
    have k0 := cell1 (show w.heap[p]? = some (.cells #[.int .i64 7] 46 (0, 0)) from h)
    clear h hs
    go_enter Try.func36, Try.ntmps36
    go_wp2_with fail
    go_ret2
    exact ⟨rfl, rfl⟩
  · rw [show tab 8 1 = none from rfl]
    have k0 := cell1 (show w.heap[p]? = some (.cells #[.int .i64 8] 46 (0, 0)) from h)
    clear h hs
    go_enter Try.func36, Try.ntmps36
    go_wp2_with fail
    go_ret2
    exact ⟨rfl, rfl⟩
  · rw [show tab 9 1 = none from rfl]
    have k0 := cell1 (show w.heap[p]? = some (.cells #[.int .i64 9] 46 (0, 0)) from h)
    clear h hs
    go_enter Try.func36, Try.ntmps36
    go_wp2_with fail
    go_ret2
    exact ⟨rfl, rfl⟩
set_option maxHeartbeats 4000000 in
theorem m_2 (p : Nat) (s : Int) (w : World) (hs : InS s) (h : Sm w p s) : Calls Try.prog 37 #[.pointer (some ⟨p, 0, none⟩)] w (MRes p w (tab s 2)) := by
  obtain rfl | rfl | rfl | rfl | rfl | rfl | rfl | rfl | rfl | rfl := ten hs
  · rw [show tab 0 2 = none from rfl]
    have k0 := cell1 (show w.heap[p]? = some (.cells #[.int .i64 0] 46 (0, 0)) from h)
    clear h hs
    go_enter Try.func37, Try.ntmps37
    go_wp2_with fail
    go_ret2
    exact ⟨rfl, rfl⟩
  · rw [show tab 1 2 = none from rfl]
    have k0 := cell1 (show w.heap[p]? = some (.cells #[.int .i64 1] 46 (0, 0)) from h)
    clear h hs
    go_enter Try.func37, Try.ntmps37
    go_wp2_with fail
    go_ret2
    exact ⟨rfl, rfl⟩
  · rw [show tab 2 2 = some (0, []) from rfl]
    have k0 := cell1 (show w.heap[p]? = some (.cells #[.int .i64 2] 46 (0, 0)) from h)
    have HT := Lib.hid (to_nil (p := p) 2 0 w h)
    clear h hs
    go_enter Try.func37, Try.ntmps37
    go_wp2_with fail
    refine HT.out.mono ?_
    rintro e w' ⟨rfl, hm⟩
    have HM := Lib.hid hm
    clear hm HT
    go_wp2
    go_ret2
    exact HM.out
  · rw [show tab 3 2 = some (1, [3]) from rfl]
    have k0 := cell1 (show w.heap[p]? = some (.cells #[.int .i64 3] 46 (0, 0)) from h)
    have HT := Lib.hid (to_row (p := p) 3 1 [3] w h (by decide))
    clear h hs
    go_enter Try.func37, Try.ntmps37
    go_wp2_with fail
    refine HT.out.mono ?_
    rintro e w' ⟨rfl, hm⟩
    have HM := Lib.hid hm
    clear hm HT
    go_wp2
    go_ret2
    exact HM.out
  · rw [show tab 4 2 = some (0, []) from rfl]
    have k0 := cell1 (show w.heap[p]? = some (.cells #[.int .i64 4] 46 (0, 0)) from h)
    have HT := Lib.hid (to_nil (p := p) 4 0 w h)
    clear h hs
    go_enter Try.func37, Try.ntmps37
    go_wp2_with fail
    refine HT.out.mono ?_
    rintro e w' ⟨rfl, hm⟩
    have HM := Lib.hid hm
    clear hm HT
    go_wp2
    go_ret2
    exact HM.out
  · rw [show tab 5 2 = some (1, []) from rfl]
    have k0 := cell1 (show w.heap[p]? = some (.cells #[.int .i64 5] 46 (0, 0)) from h)
    have HT := Lib.hid (to_nil (p := p) 5 1 w h)
    clear h hs
    go_enter Try.func37, Try.ntmps37
    go_wp2_with fail
    refine HT.out.mono ?_
    rintro e w' ⟨rfl, hm⟩
    have HM := Lib.hid hm
    clear hm HT
    go_wp2
    go_ret2
    exact HM.out
  · rw [show tab 6 2 = some (1, []) from rfl]
    have k0 := cell1 (show w.heap[p]? = some (.cells #[.int .i64 6] 46 (0, 0)) from h)
    have HT := Lib.hid (to_nil (p := p) 6 1 w h)
    clear h hs
    go_enter Try.func37, Try.ntmps37
    go_wp2_with fail
    refine HT.out.mono ?_
    rintro e w' ⟨rfl, hm⟩
    have HM := Lib.hid hm
    clear hm HT
    go_wp2
    go_ret2
    exact HM.out
  · rw [show tab 7 2 = some (1, []) from rfl]
    have k0 := cell1 (show w.heap[p]? = some (.cells #[.int .i64 7] 46 (0, 0)) from h)
    have HT := Lib.hid (to_nil (p := p) 7 1 w h)
    clear h hs
    go_enter Try.func37, Try.ntmps37
    go_wp2_with fail
    refine HT.out.mono ?_
    rintro e w' ⟨rfl, hm⟩
    have HM := Lib.hid hm
    clear hm HT
    go_wp2
    go_ret2
    exact HM.out
  · rw [show tab 8 2 = some (1, []) from rfl]
    have k0 := cell1 (show w.heap[p]? = some (.cells #[.int .i64 8] 46 (0, 0)) from h)
    have HT := Lib.hid (to_nil (p := p) 8 1 w h)
    clear h hs
    go_enter Try.func37, Try.ntmps37
    go_wp2_with fail
    refine HT.out.mono ?_
    rintro e w' ⟨rfl, hm⟩
    have HM := Lib.hid hm
    clear hm HT
    go_wp2
    go_ret2
    exact HM.out
  · rw [show tab 9 2 = some (1, [2]) from rfl]
    have k0 := cell1 (show w.heap[p]? = some (.cells #[.int .i64 9] 46 (0, 0)) from h)
    have HT := Lib.hid (to_row (p := p) 9 1 [2] w h (by decide))
    clear h hs
    go_enter Try.func37, Try.ntmps37
    go_wp2_with fail
    refine HT.out.mono ?_
    rintro e w' ⟨rfl, hm⟩
    have HM := Lib.hid hm
    clear hm HT
    go_wp2
    go_ret2
    exact HM.out
set_option maxHeartbeats 4000000 in
theorem m_3 (p : Nat) (s : Int) (w : World) (hs : InS s) (h : Sm w p s) : Calls Try.prog 38 #[.pointer (some ⟨p, 0, none⟩)] w (MRes p w (tab s 3)) := by
  obtain rfl | rfl | rfl | rfl | rfl | rfl | rfl | rfl | rfl | rfl := ten hs
  · rw [show tab 0 3 = some (1, [3]) from rfl]
    have k0 := cell1 (show w.heap[p]? = some (.cells #[.int .i64 0] 46 (0, 0)) from h)
    have HT := Lib.hid (to_row (p := p) 0 1 [3] w h (by decide))
    clear h hs
    go_enter Try.func38, Try.ntmps38
    go_wp2_with fail
    refine HT.out.mono ?_
    rintro e w' ⟨rfl, hm⟩
    have HM := Lib.hid hm
    clear hm HT
    go_wp2
    go_ret2
    exact HM.out
  · rw [show tab 1 3 = some (1, []) from rfl]
    have k0 := cell1 (show w.heap[p]? = some (.cells #[.int .i64 1] 46 (0, 0)) from h)
    have HT := Lib.hid (to_nil (p := p) 1 1 w h)
    have HS := Lib.hid (stay_nil (p := p) 1 w h)
    clear h hs
    go_enter Try.func38, Try.ntmps38
    go_wp2_with fail
    first | refine HT.out.mono ?_ | refine HS.out.mono ?_
    rintro e w' ⟨rfl, hm⟩
    have HM := Lib.hid hm
    clear hm HT HS
    go_wp2
    go_ret2
    exact HM.out
  · rw [show tab 2 3 = some (6, [5, 7]) from rfl]
    have k0 := cell1 (show w.heap[p]? = some (.cells #[.int .i64 2] 46 (0, 0)) from h)
    have HT := Lib.hid (to_row (p := p) 2 6 [5, 7] w h (by decide))
    clear h hs
    go_enter Try.func38, Try.ntmps38
    go_wp2_with fail
    refine HT.out.mono ?_
    rintro e w' ⟨rfl, hm⟩
    have HM := Lib.hid hm
    clear hm HT
    go_wp2
    go_ret2
    exact HM.out
  · rw [show tab 3 3 = some (3, []) from rfl]
    have k0 := cell1 (show w.heap[p]? = some (.cells #[.int .i64 3] 46 (0, 0)) from h)
    have HT := Lib.hid (to_nil (p := p) 3 3 w h)
    have HS := Lib.hid (stay_nil (p := p) 3 w h)
    clear h hs
    go_enter Try.func38, Try.ntmps38
    go_wp2_with fail
    first | refine HT.out.mono ?_ | refine HS.out.mono ?_
    rintro e w' ⟨rfl, hm⟩
    have HM := Lib.hid hm
    clear hm HT HS
    go_wp2
    go_ret2
    exact HM.out
  · rw [show tab 4 3 = some (5, []) from rfl]
    have k0 := cell1 (show w.heap[p]? = some (.cells #[.int .i64 4] 46 (0, 0)) from h)
    have HT := Lib.hid (to_nil (p := p) 4 5 w h)
    clear h hs
    go_enter Try.func38, Try.ntmps38
    go_wp2_with fail
    refine HT.out.mono ?_
    rintro e w' ⟨rfl, hm⟩
    have HM := Lib.hid hm
    clear hm HT
    go_wp2
    go_ret2
    exact HM.out
  · rw [show tab 5 3 = some (5, []) from rfl]
    have k0 := cell1 (show w.heap[p]? = some (.cells #[.int .i64 5] 46 (0, 0)) from h)
    have HT := Lib.hid (to_nil (p := p) 5 5 w h)
    have HS := Lib.hid (stay_nil (p := p) 5 w h)
    clear h hs
    go_enter Try.func38, Try.ntmps38
    go_wp2_with fail
    first | refine HT.out.mono ?_ | refine HS.out.mono ?_
    rintro e w' ⟨rfl, hm⟩
    have HM := Lib.hid hm
    clear hm HT HS
    go_wp2
    go_ret2
    exact HM.out
  · rw [show tab 6 3 = some (6, []) from rfl]
    have k0 := cell1 (show w.heap[p]? = some (.cells #[.int .i64 6] 46 (0, 0)) from h)
    have HT := Lib.hid (to_nil (p := p) 6 6 w h)
    have HS := Lib.hid (stay_nil (p := p) 6 w h)
    clear h hs
    go_enter Try.func38, Try.ntmps38
    go_wp2_with fail
    first | refine HT.out.mono ?_ | refine HS.out.mono ?_
    rintro e w' ⟨rfl, hm⟩
    have HM := Lib.hid hm
    clear hm HT HS
    go_wp2
    go_ret2
    exact HM.out
  · rw [show tab 7 3 = some (7, []) from rfl]
    have k0 := cell1 (show w.heap[p]? = some (.cells #[.int .i64 7] 46 (0, 0)) from h)
    have HT := Lib.hid (to_nil (p := p) 7 7 w h)
    have HS := Lib.hid (stay_nil (p := p) 7 w h)
    clear h hs
    go_enter Try.func38, Try.ntmps38
    go_wp2_with fail
    first | refine HT.out.mono ?_ | refine HS.out.mono ?_
    rintro e w' ⟨rfl, hm⟩
    have HM := Lib.hid hm
    clear hm HT HS
    go_wp2
    go_ret2
    exact HM.out
  · rw [show tab 8 3 = some (8, []) from rfl]
    have k0 := cell1 (show w.heap[p]? = some (.cells #[.int .i64 8] 46 (0, 0)) from h)
    have HT := Lib.hid (to_nil (p := p) 8 8 w h)
    have HS := Lib.hid (stay_nil (p := p) 8 w h)
    clear h hs
    go_enter Try.func38, Try.ntmps38
    go_wp2_with fail
    first | refine HT.out.mono ?_ | refine HS.out.mono ?_
    rintro e w' ⟨rfl, hm⟩
    have HM := Lib.hid hm
    clear hm HT HS
    go_wp2
    go_ret2
    exact HM.out
  · rw [show tab 9 3 = some (9, []) from rfl]
    have k0 := cell1 (show w.heap[p]? = some (.cells #[.int .i64 9] 46 (0, 0)) from h)
    have HT := Lib.hid (to_nil (p := p) 9 9 w h)
    have HS := Lib.hid (stay_nil (p := p) 9 w h)
    clear h hs
    go_enter Try.func38, Try.ntmps38
    go_wp2_with fail
    first | refine HT.out.mono ?_ | refine HS.out.mono ?_
    rintro e w' ⟨rfl, hm⟩
    have HM := Lib.hid hm
    clear hm HT HS
    go_wp2
    go_ret2
    exact HM.out
set_option maxHeartbeats 4000000 in
theorem m_4 (p : Nat) (s : Int) (w : World) (hs : InS s) (h : Sm w p s) : Calls Try.prog 39 #[.pointer (some ⟨p, 0, none⟩)] w (MRes p w (tab s 4)) := by
  obtain rfl | rfl | rfl | rfl | rfl | rfl | rfl | rfl | rfl | rfl := ten hs
  · rw [show tab 0 4 = some (0, []) from rfl]
    have k0 := cell1 (show w.heap[p]? = some (.cells #[.int .i64 0] 46 (0, 0)) from h)
    have HT := Lib.hid (to_nil (p := p) 0 0 w h)
    have HS := Lib.hid (stay_nil (p := p) 0 w h)
    clear h hs
    go_enter Try.func39, Try.ntmps39
    go_wp2_with fail
    first | refine HT.out.mono ?_ | refine HS.out.mono ?_
    rintro e w' ⟨rfl, hm⟩
    have HM := Lib.hid hm
    clear hm HT HS
    go_wp2
    go_ret2
    exact HM.out
  · rw [show tab 1 4 = some (0, [4]) from rfl]
    have k0 := cell1 (show w.heap[p]? = some (.cells #[.int .i64 1] 46 (0, 0)) from h)
    have HT := Lib.hid (to_row (p := p) 1 0 [4] w h (by decide))
    clear h hs
    go_enter Try.func39, Try.ntmps39
    go_wp2_with fail
    refine HT.out.mono ?_
    rintro e w' ⟨rfl, hm⟩
    have HM := Lib.hid hm
    clear hm HT
    go_wp2
    go_ret2
    exact HM.out
  · rw [show tab 2 4 = some (2, []) from rfl]
    have k0 := cell1 (show w.heap[p]? = some (.cells #[.int .i64 2] 46 (0, 0)) from h)
    have HT := Lib.hid (to_nil (p := p) 2 2 w h)
    have HS := Lib.hid (stay_nil (p := p) 2 w h)
    clear h hs
    go_enter Try.func39, Try.ntmps39
    go_wp2_with fail
    first | refine HT.out.mono ?_ | refine HS.out.mono ?_
    rintro e w' ⟨rfl, hm⟩
    have HM := Lib.hid hm
    clear hm HT HS
    go_wp2
    go_ret2
    exact HM.out
  · rw [show tab 3 4 = some (2, []) from rfl]
    have k0 := cell1 (show w.heap[p]? = some (.cells #[.int .i64 3] 46 (0, 0)) from h)
    have HT := Lib.hid (to_nil (p := p) 3 2 w h)
    clear h hs
    go_enter Try.func39, Try.ntmps39
    go_wp2_with fail
    refine HT.out.mono ?_
    rintro e w' ⟨rfl, hm⟩
    have HM := Lib.hid hm
    clear hm HT
    go_wp2
    go_ret2
    exact HM.out
  · rw [show tab 4 4 = some (4, []) from rfl]
    have k0 := cell1 (show w.heap[p]? = some (.cells #[.int .i64 4] 46 (0, 0)) from h)
    have HT := Lib.hid (to_nil (p := p) 4 4 w h)
    have HS := Lib.hid (stay_nil (p := p) 4 w h)
    clear h hs
    go_enter Try.func39, Try.ntmps39
    go_wp2_with fail
    first | refine HT.out.mono ?_ | refine HS.out.mono ?_
    rintro e w' ⟨rfl, hm⟩
    have HM := Lib.hid hm
    clear hm HT HS
    go_wp2
    go_ret2
    exact HM.out
  · rw [show tab 5 4 = some (4, []) from rfl]
    have k0 := cell1 (show w.heap[p]? = some (.cells #[.int .i64 5] 46 (0, 0)) from h)
    have HT := Lib.hid (to_nil (p := p) 5 4 w h)
    clear h hs
    go_enter Try.func39, Try.ntmps39
    go_wp2_with fail
    refine HT.out.mono ?_
    rintro e w' ⟨rfl, hm⟩
    have HM := Lib.hid hm
    clear hm HT
    go_wp2
    go_ret2
    exact HM.out
  · rw [show tab 6 4 = some (4, [5, 10]) from rfl]
    have k0 := cell1 (show w.heap[p]? = some (.cells #[.int .i64 6] 46 (0, 0)) from h)
    have HT := Lib.hid (to_row (p := p) 6 4 [5, 10] w h (by decide))
    clear h hs
    go_enter Try.func39, Try.ntmps39
    go_wp2_with fail
    refine HT.out.mono ?_
    rintro e w' ⟨rfl, hm⟩
    have HM := Lib.hid hm
    clear hm HT
    go_wp2
    go_ret2
    exact HM.out
  · rw [show tab 7 4 = some (4, [5, 10]) from rfl]
    have k0 := cell1 (show w.heap[p]? = some (.cells #[.int .i64 7] 46 (0, 0)) from h)
    have HT := Lib.hid (to_row (p := p) 7 4 [5, 10] w h (by decide))
    clear h hs
    go_enter Try.func39, Try.ntmps39
    go_wp2_with fail
    refine HT.out.mono ?_
    rintro e w' ⟨rfl, hm⟩
    have HM := Lib.hid hm
    clear hm HT
    go_wp2
    go_ret2
    exact HM.out
  · rw [show tab 8 4 = some (4, [5, 10]) from rfl]
    have k0 := cell1 (show w.heap[p]? = some (.cells #[.int .i64 8] 46 (0, 0)) from h)
    have HT := Lib.hid (to_row (p := p) 8 4 [5, 10] w h (by decide))
    clear h hs
    go_enter Try.func39, Try.ntmps39
    go_wp2_with fail
    refine HT.out.mono ?_
    rintro e w' ⟨rfl, hm⟩
    have HM := Lib.hid hm
    clear hm HT
    go_wp2
    go_ret2
    exact HM.out
  · rw [show tab 9 4 = some (4, [2, 5, 10]) from rfl]
    have k0 := cell1 (show w.heap[p]? = some (.cells #[.int .i64 9] 46 (0, 0)) from h)
    have HT := Lib.hid (to_row (p := p) 9 4 [2, 5, 10] w h (by decide))
    clear h hs
    go_enter Try.func39, Try.ntmps39
    go_wp2_with fail
    refine HT.out.mono ?_
    rintro e w' ⟨rfl, hm⟩
    have HM := Lib.hid hm
    clear hm HT
    go_wp2
    go_ret2
    exact HM.out
end Go.Proofs.Ytmhiajjnkcneoaa.Fs
