/-
  What the tie gives the walks ('of_laid'); the laws' small and at.
-/
import Derived.Test.YtoemghinolekgaaDoorPlG
import Derived.Test.YtoemghinolekgaaDoorOpen
import Derived.Test.YtoemghinolekgaaDoorTie
import Derived.Test.YtoemghinolekgaaDoorCards
import Derived.LaidMore
import Derived.Stop.Joined
import Derived.ChangeOld
namespace Go.Proofs.YtoemghinolekgaaDoor.Pl
open Go.ChangeShapes Go.WideShapes Go.ChangeAt Go.RowKit
open Go.Proofs.YtoemghinolekgaaDoor.Id (Tr Tr.refl Tr.gr Tr.only Tr.below blk own_blk IR IR.cells IR.shape)
set_option linter.unusedVariables false
set_option linter.unusedSimpArgs false

theorem gTab : Tryd.prog.globalNamed "math/bits.deBruijn64tab" = some 0 := by kernel_rfl
theorem tTab : (Tryd.prog.globals[0]?).map (·.type) = some 75 := by kernel_rfl
theorem tab_datum : (Rows.laid_math_bits_deBruijn64tab : DataW Unit) = .agg (Lib.deBruijn64tab.map fun (x : Nat) => .lit (.int .u8 (x : Int))) := by rfl
theorem of_laid {W : World} (h : laidMetH Tryd.prog [("math/bits.deBruijn64tab", Rows.laid_math_bits_deBruijn64tab)] W) : Laid W := by
  rw [MakeChecks.laidMetH_plain _ _ _ (by kernel_rfl)] at h
  obtain ⟨ps, ⟨g0, t0, cs0, f0, p0, q0, hg0, ht0, hv0, hd0, _, _⟩, _, _⟩ := h
  obtain rfl := Option.some.inj (gTab.symm.trans hg0)
  obtain rfl := Option.some.inj (tTab.symm.trans ht0)
  obtain ⟨xs, m1, hx, hx1, hlen, hn3, hel⟩ := DataW.trod_array Tryd.underlying75 hd0
  have c3 : Tryd.prog.cellsOf 5 = 1 := by kernel_rfl
  have hc : ∀ i, i < 64 → W.cell? ⟨0, i, none⟩ = some (.int .u8 (Lib.deBruijn64tab.getD i 0)) := by
    intro i hi
    have h0 := hel i hi
    rw [c3, Nat.mul_one, List.getElem?_eq_getElem (by omega)] at h0
    obtain ⟨z, e1, e2, _⟩ := DataW.trod_int Tryd.underlying5 h0
    have hx2 : (Lib.deBruijn64tab.map fun (x : Nat) => (DataW.lit (.int .u8 (x : Int)) : DataW Unit)) = xs.map (·.1) := by
      have := (Prod.mk.inj hx1).1
      rw [tab_datum] at this
      simpa using this
    have hz : z = ((Lib.deBruijn64tab.getD i 0 : Nat) : Int) := by
      have h3 := congrArg (fun l => l[i]?) hx2
      have hk : i < Lib.deBruijn64tab.length := hi
      simp only [List.getElem?_map, List.getElem?_eq_getElem hk, List.getElem?_eq_getElem (show i < xs.length by omega), Option.map_some, Option.some.injEq, e2, DataW.lit.injEq, Lit.int.injEq, true_and] at h3
      rw [← h3, List.getD_eq_getElem?_getD, List.getElem?_eq_getElem hk]
      rfl
    have hc64 : Tryd.prog.cellsOf 75 = 64 := by kernel_rfl
    have hi2 : i < cs0.toList.length := by rw [hlen, hc64]; exact hi
    rw [List.drop_eq_getElem_cons hi2] at e1
    simp at e1
    have := World.var?_cell hg0 hv0 i
    rw [this, ← hz, ← e1]
    simp at hi2
    simp [hi2]
  exact ⟨World.block_lt_of_cell? W _ (hc 0 (by omega)), hc⟩
/-- The address that a call is of. -/
def atA (b a : Int) (inn : Bool) : Int := if inn = true ∧ 0 ≤ a ∧ a < 100 then b + a else a
theorem atA_le {b a : Int} {inn : Bool} (hb : b ≤ 4294967294) (ha : a ≤ 9223372036854775807) : atA b a inn ≤ 9223372036854775807 := by
  unfold atA; split <;> omega
theorem at_any (b z : Int) (v : Value) (d x : Int) (inn : Bool) (hb : 1 ≤ b ∧ b ≤ 4294967294) (hv : v.oneCell' = true) (w : World) :
    Calls Tryd.prog 14 #[.agg #[.int .i64 b, .int .i64 z, v], .agg #[.int .u8 d, .int .i64 x, .bool inn]] w fun e w' => e = .returned (.int .i64 (atA b x inn)) ∧ Below w.heap.size w w' := by
  have HB : Hid (Below w.heap.size w ((w.alloc (.cells #[.int .i64 b, .int .i64 z, v] 24)).alloc (.cells #[.int .u8 d, .int .i64 x, .bool inn] 38))) := ((Below.refl _ _).alloc (Nat.le_refl _) _).alloc (by simp) _
  unfold atA
  cases inn with
  | false =>
    rw [if_neg (by simp)]
    clear hb
    go_enter Tryd.func14, Tryd.ntmps14
    go_wp2
    go_ret
    exact ⟨rfl, HB.out⟩
  | true =>
    by_cases h1 : 0 ≤ x
    · by_cases h2 : x < 100
      · rw [if_pos ⟨rfl, h1, h2⟩]
        have x1 : wrap64 (b + x) = b + x := wrap64_in (by omega) (by omega)
        clear hb
        go_enter Tryd.func14, Tryd.ntmps14
        go_wp2
        go_ret
        first
          | exact ⟨rfl, HB.out⟩
          | exact ⟨by show Ending.returned (.int .i64 (wrap64 (b + x))) = _; rw [x1], HB.out⟩
      · rw [if_neg (fun h => h2 h.2.2)]
        clear hb
        go_enter Tryd.func14, Tryd.ntmps14
        go_wp2
        go_ret
        exact ⟨rfl, HB.out⟩
    · rw [if_neg (fun h => h1 h.2.1)]
      clear hb
      go_enter Tryd.func14, Tryd.ntmps14
      go_wp2
      go_ret
      exact ⟨rfl, HB.out⟩
end Go.Proofs.YtoemghinolekgaaDoor.Pl
