/-
  The events' methods: what each tells in each state (what they share).
-/
import Derived.Test.YtmhiajjnkcneoaaFsA
namespace Go.Proofs.Ytmhiajjnkcneoaa.Fs
open Go.RowKit
open Go.Proofs.Ytmhiajjnkcneoaa.Id (Tr Tr.refl Tr.gr Tr.only)
set_option linter.unusedVariables false
set_option linter.unusedSimpArgs false

theorem ten {s : Int} (h : InS s) : s = 0 ∨ s = 1 ∨ s = 2 ∨ s = 3 ∨ s = 4 ∨ s = 5 ∨ s = 6 ∨ s = 7 ∨ s = 8 ∨ s = 9 := by unfold InS at h; omega
section
variable {p : Nat} {w : World}
theorem to_row (s n : Int) (l : List Int) (w : World) (h : Sm w p s) (hl : l.length ≤ 1000) :
    Calls Try.prog 52 #[.pointer (some ⟨p, 0, none⟩), .int .i64 n, .slice (some ⟨w.heap.size, 0, none⟩) l.length l.length] (w.alloc (.cells (ints l).toArray 36)) fun e w' => e = .returned (.tuple #[.slice (some ⟨w.heap.size, 0, none⟩) l.length l.length, .bool true]) ∧ MRes p w (some (n, l)) (.returned (.tuple #[.slice (some ⟨w.heap.size, 0, none⟩) l.length l.length, .bool true])) w' := by
  have hb := (Below.refl w.heap.size w).alloc (Nat.le_refl _) (.cells (ints l).toArray 36)
  refine (to_any p s n _ _ (h.gr hb)).mono ?_
  rintro e w' ⟨rfl, rfl⟩
  exact ⟨rfl, mres_of h hb (ao_new w l hl)⟩
theorem to_nil (s n : Int) (w : World) (h : Sm w p s) :
    Calls Try.prog 52 #[.pointer (some ⟨p, 0, none⟩), .int .i64 n, .slice none 0 0] w fun e w' => e = .returned (.tuple #[.slice none 0 0, .bool true]) ∧ MRes p w (some (n, [])) (.returned (.tuple #[.slice none 0 0, .bool true])) w' := by
  refine (to_any p s n _ _ h).mono ?_
  rintro e w' ⟨rfl, rfl⟩
  exact ⟨rfl, mres_of h (Below.refl _ _) (AO.nil _ _)⟩
theorem stay_row (s : Int) (l : List Int) (w : World) (h : Sm w p s) (hl : l.length ≤ 1000) :
    Calls Try.prog 53 #[.pointer (some ⟨p, 0, none⟩), .slice (some ⟨w.heap.size, 0, none⟩) l.length l.length] (w.alloc (.cells (ints l).toArray 36)) fun e w' => e = .returned (.tuple #[.slice (some ⟨w.heap.size, 0, none⟩) l.length l.length, .bool true]) ∧ MRes p w (some (s, l)) (.returned (.tuple #[.slice (some ⟨w.heap.size, 0, none⟩) l.length l.length, .bool true])) w' := by
  have hb := (Below.refl w.heap.size w).alloc (Nat.le_refl _) (.cells (ints l).toArray 36)
  refine (stay_any p s _ _ (h.gr hb)).mono ?_
  rintro e w' ⟨rfl, rfl⟩
  exact ⟨rfl, mres_of h hb (ao_new w l hl)⟩
theorem stay_nil (s : Int) (w : World) (h : Sm w p s) :
    Calls Try.prog 53 #[.pointer (some ⟨p, 0, none⟩), .slice none 0 0] w fun e w' => e = .returned (.tuple #[.slice none 0 0, .bool true]) ∧ MRes p w (some (s, [])) (.returned (.tuple #[.slice none 0 0, .bool true])) w' := by
  refine (stay_any p s _ _ h).mono ?_
  rintro e w' ⟨rfl, rfl⟩
  exact ⟨rfl, mres_of h (Below.refl _ _) (AO.nil _ _)⟩
end
end Go.Proofs.Ytmhiajjnkcneoaa.Fs
