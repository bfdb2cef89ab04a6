/-
  A pool that nobody made.
-/
import Derived.Test.YtoemghinolekgaaDoorPlNb
namespace Go.Proofs.YtoemghinolekgaaDoor.Pl
open Go.RowKit Go.Shelf
open Go.Proofs.YtoemghinolekgaaDoor.Id (Tr Tr.refl Tr.gr Tr.only blk own_blk IR)
set_option linter.unusedVariables false
set_option linter.unusedSimpArgs false

theorem no_take {v : Value} (w : World) (h : NoPo w v) :
    Calls Tryd.prog 15 #[v] w fun e w' => e = .returned (.tuple #[.int .i64 0, .int .i64 4]) ∧ w = w' := by
  have HM := Lib.hid (isMade_no v w h)
  have HL : Hid (Calls Tryd.prog 33 #[v] w fun e w' => e = .returned (.tuple #[.int .i64 0, .int .i64 4]) ∧ w = w') := by
    show Calls _ _ _ _ _
    go_enter Tryd.func33, Tryd.ntmps33
    go_wp2_with fail
    refine HM.out.mono ?_
    rintro e w' ⟨rfl, rfl⟩
    go_wp2
    go_ret2
    exact ⟨rfl, rfl⟩
  have HS := Lib.hid (settle_no v 0 4 (.func (.func 35) #[v] #[]) (by decide) w)
  clear h HM
  go_enter Tryd.func15, Tryd.ntmps15
  go_wp2_with fail
  refine HL.out.mono ?_
  rintro e w' ⟨rfl, rfl⟩
  go_wp2_with fail
  refine HS.out.mono ?_
  rintro e w' ⟨rfl, rfl⟩
  go_wp2
  go_ret2
  exact ⟨rfl, rfl⟩
theorem no_find {v : Value} (a : Int) (b : Bool) (o : Int) (w : World) (h : NoPo w v) :
    Calls Tryd.prog 38 #[v, .int .i64 a, .bool b, .int .i64 o] w fun e w' => e = .returned (.tuple #[.int .i64 0, .int .i64 4]) ∧ w = w' := by
  have HM := Lib.hid (isMade_no v w h)
  clear h
  go_enter Tryd.func38, Tryd.ntmps38
  go_wp2_with fail
  refine HM.out.mono ?_
  rintro e w' ⟨rfl, rfl⟩
  go_wp2
  go_ret2
  exact ⟨rfl, rfl⟩
theorem no_want {v : Value} (a : Int) (w : World) (h : NoPo w v) :
    Calls Tryd.prog 19 #[v, .int .i64 a] w fun e w' => e = .returned (.int .i64 4) ∧ w = w' := by
  have HL := Lib.hid (no_find a false 122 w h)
  have HS := Lib.hid (settle_no v 0 4 (.func (.func 35) #[v] #[]) (by decide) w)
  clear h
  go_enter Tryd.func19, Tryd.ntmps19
  go_wp2_with fail
  refine HL.out.mono ?_
  rintro e w' ⟨rfl, rfl⟩
  go_wp2_with fail
  refine HS.out.mono ?_
  rintro e w' ⟨rfl, rfl⟩
  go_wp2
  go_ret
  exact ⟨rfl, rfl⟩
theorem no_give {v : Value} (a : Int) (w : World) (h : NoPo w v) :
    Calls Tryd.prog 17 #[v, .int .i64 a] w fun e w' => e = .returned (.int .i64 4) ∧ w = w' := by
  have HL := Lib.hid (no_find a true 112 w h)
  have HS := Lib.hid (settle_no v 0 4 (.func (.func 39) #[v] #[]) (by decide) w)
  clear h
  go_enter Tryd.func17, Tryd.ntmps17
  go_wp2_with fail
  refine HL.out.mono ?_
  rintro e w' ⟨rfl, rfl⟩
  go_wp2_with fail
  refine HS.out.mono ?_
  rintro e w' ⟨rfl, rfl⟩
  go_wp2
  go_ret
  exact ⟨rfl, rfl⟩
theorem no_has {v : Value} (a : Int) (w : World) (h : NoPo w v) :
    Calls Tryd.prog 26 #[v, .int .i64 a] w fun e w' => e = .returned (.bool false) ∧ w = w' := by
  have HM := Lib.hid (isMade_no v w h)
  clear h
  go_enter Tryd.func26, Tryd.ntmps26
  go_wp2_with fail
  refine HM.out.mono ?_
  rintro e w' ⟨rfl, rfl⟩
  go_wp2
  go_ret
  exact ⟨rfl, rfl⟩
theorem no_free {v : Value} (w : World) (h : NoPo w v) :
    Calls Tryd.prog 24 #[v] w fun e w' => e = .returned (.int .i64 0) ∧ w = w' := by
  have HM := Lib.hid (isMade_no v w h)
  clear h
  go_enter Tryd.func24, Tryd.ntmps24
  go_wp2_with fail
  refine HM.out.mono ?_
  rintro e w' ⟨rfl, rfl⟩
  go_wp2
  go_ret
  exact ⟨rfl, rfl⟩
theorem no_fork {v : Value} (w : World) (h : NoPo w v) :
    Calls Tryd.prog 21 #[v] w fun e w' => e = .returned (.pointer none) ∧ w = w' := by
  have HM := Lib.hid (isMade_no v w h)
  clear h
  go_enter Tryd.func21, Tryd.ntmps21
  go_wp2_with fail
  refine HM.out.mono ?_
  rintro e w' ⟨rfl, rfl⟩
  go_wp2
  go_ret
  exact ⟨rfl, rfl⟩
theorem no_leased {v : Value} (w : World) (h : NoPo w v) :
    Calls Tryd.prog 23 #[v] w fun e w' => e = .returned (.slice none 0 0) ∧ Below w.heap.size w w' := by
  have hone : v.oneCell' = true := by rcases h with rfl | ⟨g, rfl, _⟩ <;> rfl
  have HB : Hid (Below w.heap.size w (w.alloc (.cells #[v] 27))) := (Below.refl _ _).alloc (Nat.le_refl _) _
  have HM := Lib.hid (isMade_no v (w.alloc (.cells #[v] 27)) (h.gr HB.out))
  rcases h with rfl | ⟨g, rfl, _⟩
  all_goals
    go_enter Tryd.func23, Tryd.ntmps23
    go_wp2_with fail
    refine HM.out.mono ?_
    rintro e w' ⟨rfl, rfl⟩
    go_wp2
    go_ret
    exact ⟨rfl, HB.out⟩
end Go.Proofs.YtoemghinolekgaaDoor.Pl
