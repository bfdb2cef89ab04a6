/-
  The laws' example.
-/
import Derived.Test.YtmhiajjnkcneoaaFsL
import Derived.Test.YtmhiajjnkcneoaaFsN
namespace Go.Proofs.Ytmhiajjnkcneoaa.Fs
open Go.RowKit
set_option linter.unusedVariables false
set_option linter.unusedSimpArgs false
set_option maxHeartbeats 4000000 in
set_option maxRecDepth 20000 in
theorem awake_any (w : World) : Calls Try.prog 14 #[] w fun e w' => e = .returned (.bool true) ∧ Below w.heap.size w w' := by
  have HB := Lib.hid ((Below.refl w.heap.size w).alloc (Nat.le_refl _) (.cells (ints [3, 9, 7]).toArray 23))
  have HE : Hid (AR (w.alloc (.cells (ints [3, 9, 7]).toArray 23)) (.slice (some ⟨w.heap.size, 0, none⟩) 3 3) [3, 9, 7]) := rd_new w (ints [3, 9, 7]) 23 3 1 rfl (by unfold maxLen; decide)
  have HW := Lib.hid (Walk_any 2 _ [3, 9, 7] _ HE.out (by decide))
  clear HE
  go_enter Try.func14, Try.ntmps14
  go_wp2_with fail
  refine HW.out.mono ?_
  rintro e w1 ⟨v, rfl, ho, hb⟩
  rw [show wlk 2 [3, 9, 7] = (9, [5, 7, 5, 8, 1], 3, 0) by decide +kernel] at ho ⊢
  have HB1 : Hid (Below w.heap.size w w1) := HB.out.trans (hb.mono HB.out.size)
  have hc := (Below.refl w1.heap.size w1).alloc (Nat.le_refl _) (.cells (ints [5, 7, 5, 8, 1]).toArray 36)
  have HB2 : Hid (Below w.heap.size w (w1.alloc (.cells (ints [5, 7, 5, 8, 1]).toArray 36))) := HB1.out.trans (hc.mono HB1.out.size)
  have HS := Lib.hid (same_same (w1.alloc (.cells (ints [5, 7, 5, 8, 1]).toArray 36)) (ho.ar.below hc) (ao_new w1 [5, 7, 5, 8, 1] (by decide)).ar (by decide))
  clear hc ho hb HB HW
  go_wp2_with fail
  refine HS.out.mono ?_
  rintro e w2 ⟨rfl, hb⟩
  have HB3 : Hid (Below w.heap.size w w2) := HB2.out.trans (hb.mono HB2.out.size)
  have HN : Hid (Calls Try.prog 21 #[.int .i64 9] w2 fun e w' => e = .returned (.string ⟨#[79, 112, 101, 110, 101, 100]⟩) ∧ w' = w2) := Name_any 9 w2
  clear hb HB1 HB2 HS
  go_wp2_with fail
  refine HN.out.mono ?_
  rintro e w3 ⟨rfl, rfl⟩
  go_wp2_with fail
  go_ret
  exact ⟨rfl, HB3.out⟩
end Go.Proofs.Ytmhiajjnkcneoaa.Fs
