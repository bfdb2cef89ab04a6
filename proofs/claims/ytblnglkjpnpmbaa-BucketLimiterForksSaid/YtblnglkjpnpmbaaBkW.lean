/-
  Limiters that nobody made.
-/
import Derived.Test.YtblnglkjpnpmbaaBkV
namespace Go.Proofs.Ytblnglkjpnpmbaa.Bk
open Go.RowKit
set_option linter.unusedVariables false
set_option linter.unusedSimpArgs false

def NoLim (w : World) (v : Value) : Prop := v = .pointer none ∨ ∃ g, v = .pointer (some ⟨g, 0, none⟩) ∧ w.heap[g]? = some (.cells #[.int .i64 0, .int .i64 0, .int .i64 0, .int .i64 0, .int .i64 0, .int .i64 0, .map none, .int .i64 0] 63 (0, 0))
theorem NoLim.gr {w w' : World} {v : Value} (h : NoLim w v) (hb : Below w.heap.size w w') : NoLim w' v := by
  rcases h with h | ⟨g, h1, h2⟩
  · exact .inl h
  · exact .inr ⟨g, h1, heap_below h2 hb⟩
theorem isMade_none {v : Value} {w : World} (h : NoLim w v) :
    Calls Try.prog 31 #[v] w fun e w' => e = .returned (.bool false) ∧ w = w' := by
  rcases h with rfl | ⟨g, rfl, h⟩
  · exact isMade_nil w
  · exact isMade_no g w h
theorem no_allow {v : Value} {w : World} (h : NoLim w v) (v0 v1 v2 v3 v4 v5 : Value) (s : Int) :
    Calls Try.prog 22 #[v, .agg #[v0, v1, v2, v3, v4, v5], .int .i64 s] w fun e w' => e = .returned (.bool false) ∧ Below w.heap.size w w' := by
  have HB : Hid (Below w.heap.size w (w.alloc (.cells #[v0, v1, v2, v3, v4, v5] 49))) := (Below.refl _ _).alloc (Nat.le_refl _) _
  have HM := Lib.hid (isMade_none (h.gr HB.out))
  clear h
  go_enter Try.func22, Try.ntmps22
  go_wp2_with fail
  refine HM.out.mono ?_
  rintro e w' ⟨rfl, rfl⟩
  go_wp2
  go_ret
  exact ⟨rfl, HB.out⟩
theorem no_len {v : Value} {w : World} (h : NoLim w v) :
    Calls Try.prog 25 #[v] w fun e w' => e = .returned (.int .i64 0) ∧ w = w' := by
  have HM := Lib.hid (isMade_none h)
  clear h
  go_enter Try.func25, Try.ntmps25
  go_wp2_with fail
  refine HM.out.mono ?_
  rintro e w' ⟨rfl, rfl⟩
  go_wp2
  go_ret
  exact ⟨rfl, rfl⟩
theorem no_tick {v : Value} {w : World} (h : NoLim w v) :
    Calls Try.prog 26 #[v] w fun e w' => e = .returned (.int .i64 0) ∧ w = w' := by
  have HM := Lib.hid (isMade_none h)
  clear h
  go_enter Try.func26, Try.ntmps26
  go_wp2_with fail
  refine HM.out.mono ?_
  rintro e w' ⟨rfl, rfl⟩
  go_wp2
  go_ret
  exact ⟨rfl, rfl⟩
theorem no_fork {v : Value} {w : World} (h : NoLim w v) :
    Calls Try.prog 27 #[v] w fun e w' => e = .returned (.pointer none) ∧ w = w' := by
  have HM := Lib.hid (isMade_none h)
  clear h
  go_enter Try.func27, Try.ntmps27
  go_wp2_with fail
  refine HM.out.mono ?_
  rintro e w' ⟨rfl, rfl⟩
  go_wp2
  go_ret
  exact ⟨rfl, rfl⟩
end Go.Proofs.Ytblnglkjpnpmbaa.Bk
