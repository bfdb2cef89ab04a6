/-
  The events' methods: what each tells in each state (rowOf, step, Step).
-/
import Derived.Test.YtmhiajjnkcneoaaFsC
import Derived.Test.YtmhiajjnkcneoaaFsD
import Derived.Test.YtmhiajjnkcneoaaFsE
import Derived.Test.YtmhiajjnkcneoaaFsF
namespace Go.Proofs.Ytmhiajjnkcneoaa.Fs
open Go.RowKit
open Go.Proofs.Ytmhiajjnkcneoaa.Id (Tr Tr.refl Tr.gr Tr.only)
set_option linter.unusedVariables false
set_option linter.unusedSimpArgs false
def NF : List Value := List.replicate 17 .nilFunc
theorem rowOf_1 (w : World) : Calls Try.prog 35 #[.int .i64 1] w fun x w' => x = .returned (.func (.func 36) #[] #[]) ∧ Below w.heap.size w w' := by
  have BA := (Below.refl w.heap.size w).alloc (Nat.le_refl _) (.cells NF.toArray 59)
  have HB := Lib.hid BA
  have HG : Hid ((w.alloc (.cells NF.toArray 59)).heap[w.heap.size]? = some (.cells NF.toArray 59 (0, 0))) := heap_alloc_last _ _
  clear BA
  go_enter Try.func35, Try.ntmps35
  go_wp2_with (with_reducible refine wpList_store_row rfl 59 (.tmp 3) (.tmp 4) rfl w.heap.size _ rfl rfl 59 NF.toArray (heap_alloc_last _ _) ?a1 ?a2 ?a3 ?_)
  case a1 => rfl
  case a2 => rfl
  case a3 => kernel_rfl
  intro w2 h1 h2 _
  have HB2 := Lib.hid (h2 _ _ (Nat.le_refl _) HB.out)
  have c0 : w2.cell? ⟨w.heap.size, 1, none⟩ = some (.func (.func 36) #[] #[]) := by rw [cell_of_row _ _ _ _ _ _ h1]; rfl
  clear h1 h2 HG HB
  go_wp2
  go_ret
  exact ⟨rfl, HB2.out⟩
theorem rowOf_2 (w : World) : Calls Try.prog 35 #[.int .i64 2] w fun x w' => x = .returned (.func (.func 37) #[] #[]) ∧ Below w.heap.size w w' := by
  have BA := (Below.refl w.heap.size w).alloc (Nat.le_refl _) (.cells NF.toArray 59)
  have HB := Lib.hid BA
  have HG : Hid ((w.alloc (.cells NF.toArray 59)).heap[w.heap.size]? = some (.cells NF.toArray 59 (0, 0))) := heap_alloc_last _ _
  clear BA
  go_enter Try.func35, Try.ntmps35
  go_wp2_with (with_reducible refine wpList_store_row rfl 59 (.tmp 3) (.tmp 4) rfl w.heap.size _ rfl rfl 59 NF.toArray (heap_alloc_last _ _) ?a1 ?a2 ?a3 ?_)
  case a1 => rfl
  case a2 => rfl
  case a3 => kernel_rfl
  intro w2 h1 h2 _
  have HB2 := Lib.hid (h2 _ _ (Nat.le_refl _) HB.out)
  have c0 : w2.cell? ⟨w.heap.size, 2, none⟩ = some (.func (.func 37) #[] #[]) := by rw [cell_of_row _ _ _ _ _ _ h1]; rfl
  clear h1 h2 HG HB
  go_wp2
  go_ret
  exact ⟨rfl, HB2.out⟩
theorem rowOf_3 (w : World) : Calls Try.prog 35 #[.int .i64 3] w fun x w' => x = .returned (.func (.func 38) #[] #[]) ∧ Below w.heap.size w w' := by
  have BA := (Below.refl w.heap.size w).alloc (Nat.le_refl _) (.cells NF.toArray 59)
  have HB := Lib.hid BA
  have HG : Hid ((w.alloc (.cells NF.toArray 59)).heap[w.heap.size]? = some (.cells NF.toArray 59 (0, 0))) := heap_alloc_last _ _
  clear BA
  go_enter Try.func35, Try.ntmps35
  go_wp2_with (with_reducible refine wpList_store_row rfl 59 (.tmp 3) (.tmp 4) rfl w.heap.size _ rfl rfl 59 NF.toArray (heap_alloc_last _ _) ?a1 ?a2 ?a3 ?_)
  case a1 => rfl
  case a2 => rfl
  case a3 => kernel_rfl
  intro w2 h1 h2 _
  have HB2 := Lib.hid (h2 _ _ (Nat.le_refl _) HB.out)
  have c0 : w2.cell? ⟨w.heap.size, 3, none⟩ = some (.func (.func 38) #[] #[]) := by rw [cell_of_row _ _ _ _ _ _ h1]; rfl
  clear h1 h2 HG HB
  go_wp2
  go_ret
  exact ⟨rfl, HB2.out⟩
theorem rowOf_4 (w : World) : Calls Try.prog 35 #[.int .i64 4] w fun x w' => x = .returned (.func (.func 39) #[] #[]) ∧ Below w.heap.size w w' := by
  have BA := (Below.refl w.heap.size w).alloc (Nat.le_refl _) (.cells NF.toArray 59)
  have HB := Lib.hid BA
  have HG : Hid ((w.alloc (.cells NF.toArray 59)).heap[w.heap.size]? = some (.cells NF.toArray 59 (0, 0))) := heap_alloc_last _ _
  clear BA
  go_enter Try.func35, Try.ntmps35
  go_wp2_with (with_reducible refine wpList_store_row rfl 59 (.tmp 3) (.tmp 4) rfl w.heap.size _ rfl rfl 59 NF.toArray (heap_alloc_last _ _) ?a1 ?a2 ?a3 ?_)
  case a1 => rfl
  case a2 => rfl
  case a3 => kernel_rfl
  intro w2 h1 h2 _
  have HB2 := Lib.hid (h2 _ _ (Nat.le_refl _) HB.out)
  have c0 : w2.cell? ⟨w.heap.size, 4, none⟩ = some (.func (.func 39) #[] #[]) := by rw [cell_of_row _ _ _ _ _ _ h1]; rfl
  clear h1 h2 HG HB
  go_wp2
  go_ret
  exact ⟨rfl, HB2.out⟩
theorem rowOf_5 (w : World) : Calls Try.prog 35 #[.int .i64 5] w fun x w' => x = .returned (.func (.func 40) #[] #[]) ∧ Below w.heap.size w w' := by
  have BA := (Below.refl w.heap.size w).alloc (Nat.le_refl _) (.cells NF.toArray 59)
  have HB := Lib.hid BA
  have HG : Hid ((w.alloc (.cells NF.toArray 59)).heap[w.heap.size]? = some (.cells NF.toArray 59 (0, 0))) := heap_alloc_last _ _
  clear BA
  go_enter Try.func35, Try.ntmps35
  go_wp2_with (with_reducible refine wpList_store_row rfl 59 (.tmp 3) (.tmp 4) rfl w.heap.size _ rfl rfl 59 NF.toArray (heap_alloc_last _ _) ?a1 ?a2 ?a3 ?_)
  case a1 => rfl
  case a2 => rfl
  case a3 => kernel_rfl
  intro w2 h1 h2 _
  have HB2 := Lib.hid (h2 _ _ (Nat.le_refl _) HB.out)
  have c0 : w2.cell? ⟨w.heap.size, 5, none⟩ = some (.func (.func 40) #[] #[]) := by rw [cell_of_row _ _ _ _ _ _ h1]; rfl
  clear h1 h2 HG HB
  go_wp2
  go_ret
  exact ⟨rfl, HB2.out⟩
theorem rowOf_6 (w : World) : Calls Try.prog 35 #[.int .i64 6] w fun x w' => x = .returned (.func (.func 41) #[] #[]) ∧ Below w.heap.size w w' := by
  have BA := (Below.refl w.heap.size w).alloc (Nat.le_refl _) (.cells NF.toArray 59)
  have HB := Lib.hid BA
  have HG : Hid ((w.alloc (.cells NF.toArray 59)).heap[w.heap.size]? = some (.cells NF.toArray 59 (0, 0))) := heap_alloc_last _ _
  clear BA
  go_enter Try.func35, Try.ntmps35
  go_wp2_with (with_reducible refine wpList_store_row rfl 59 (.tmp 3) (.tmp 4) rfl w.heap.size _ rfl rfl 59 NF.toArray (heap_alloc_last _ _) ?a1 ?a2 ?a3 ?_)
  case a1 => rfl
  case a2 => rfl
  case a3 => kernel_rfl
  intro w2 h1 h2 _
  have HB2 := Lib.hid (h2 _ _ (Nat.le_refl _) HB.out)
  have c0 : w2.cell? ⟨w.heap.size, 6, none⟩ = some (.func (.func 41) #[] #[]) := by rw [cell_of_row _ _ _ _ _ _ h1]; rfl
  clear h1 h2 HG HB
  go_wp2
  go_ret
  exact ⟨rfl, HB2.out⟩
theorem rowOf_7 (w : World) : Calls Try.prog 35 #[.int .i64 7] w fun x w' => x = .returned (.func (.func 42) #[] #[]) ∧ Below w.heap.size w w' := by
  have BA := (Below.refl w.heap.size w).alloc (Nat.le_refl _) (.cells NF.toArray 59)
  have HB := Lib.hid BA
  have HG : Hid ((w.alloc (.cells NF.toArray 59)).heap[w.heap.size]? = some (.cells NF.toArray 59 (0, 0))) := heap_alloc_last _ _
  clear BA
  go_enter Try.func35, Try.ntmps35
  go_wp2_with (with_reducible refine wpList_store_row rfl 59 (.tmp 3) (.tmp 4) rfl w.heap.size _ rfl rfl 59 NF.toArray (heap_alloc_last _ _) ?a1 ?a2 ?a3 ?_)
  case a1 => rfl
  case a2 => rfl
  case a3 => kernel_rfl
  intro w2 h1 h2 _
  have HB2 := Lib.hid (h2 _ _ (Nat.le_refl _) HB.out)
  have c0 : w2.cell? ⟨w.heap.size, 7, none⟩ = some (.func (.func 42) #[] #[]) := by rw [cell_of_row _ _ _ _ _ _ h1]; rfl
  clear h1 h2 HG HB
  go_wp2
  go_ret
  exact ⟨rfl, HB2.out⟩
theorem rowOf_8 (w : World) : Calls Try.prog 35 #[.int .i64 8] w fun x w' => x = .returned (.func (.func 43) #[] #[]) ∧ Below w.heap.size w w' := by
  have BA := (Below.refl w.heap.size w).alloc (Nat.le_refl _) (.cells NF.toArray 59)
  have HB := Lib.hid BA
  have HG : Hid ((w.alloc (.cells NF.toArray 59)).heap[w.heap.size]? = some (.cells NF.toArray 59 (0, 0))) := heap_alloc_last _ _
  clear BA
  go_enter Try.func35, Try.ntmps35
  go_wp2_with (with_reducible refine wpList_store_row rfl 59 (.tmp 3) (.tmp 4) rfl w.heap.size _ rfl rfl 59 NF.toArray (heap_alloc_last _ _) ?a1 ?a2 ?a3 ?_)
  case a1 => rfl
  case a2 => rfl
  case a3 => kernel_rfl
  intro w2 h1 h2 _
  have HB2 := Lib.hid (h2 _ _ (Nat.le_refl _) HB.out)
  have c0 : w2.cell? ⟨w.heap.size, 8, none⟩ = some (.func (.func 43) #[] #[]) := by rw [cell_of_row _ _ _ _ _ _ h1]; rfl
  clear h1 h2 HG HB
  go_wp2
  go_ret
  exact ⟨rfl, HB2.out⟩
theorem rowOf_9 (w : World) : Calls Try.prog 35 #[.int .i64 9] w fun x w' => x = .returned (.func (.func 44) #[] #[]) ∧ Below w.heap.size w w' := by
  have BA := (Below.refl w.heap.size w).alloc (Nat.le_refl _) (.cells NF.toArray 59)
  have HB := Lib.hid BA
  have HG : Hid ((w.alloc (.cells NF.toArray 59)).heap[w.heap.size]? = some (.cells NF.toArray 59 (0, 0))) := heap_alloc_last _ _
  clear BA
  go_enter Try.func35, Try.ntmps35
  go_wp2_with (with_reducible refine wpList_store_row rfl 59 (.tmp 3) (.tmp 4) rfl w.heap.size _ rfl rfl 59 NF.toArray (heap_alloc_last _ _) ?a1 ?a2 ?a3 ?_)
  case a1 => rfl
  case a2 => rfl
  case a3 => kernel_rfl
  intro w2 h1 h2 _
  have HB2 := Lib.hid (h2 _ _ (Nat.le_refl _) HB.out)
  have c0 : w2.cell? ⟨w.heap.size, 9, none⟩ = some (.func (.func 44) #[] #[]) := by rw [cell_of_row _ _ _ _ _ _ h1]; rfl
  clear h1 h2 HG HB
  go_wp2
  go_ret
  exact ⟨rfl, HB2.out⟩
theorem rowOf_10 (w : World) : Calls Try.prog 35 #[.int .i64 10] w fun x w' => x = .returned (.func (.func 45) #[] #[]) ∧ Below w.heap.size w w' := by
  have BA := (Below.refl w.heap.size w).alloc (Nat.le_refl _) (.cells NF.toArray 59)
  have HB := Lib.hid BA
  have HG : Hid ((w.alloc (.cells NF.toArray 59)).heap[w.heap.size]? = some (.cells NF.toArray 59 (0, 0))) := heap_alloc_last _ _
  clear BA
  go_enter Try.func35, Try.ntmps35
  go_wp2_with (with_reducible refine wpList_store_row rfl 59 (.tmp 3) (.tmp 4) rfl w.heap.size _ rfl rfl 59 NF.toArray (heap_alloc_last _ _) ?a1 ?a2 ?a3 ?_)
  case a1 => rfl
  case a2 => rfl
  case a3 => kernel_rfl
  intro w2 h1 h2 _
  have HB2 := Lib.hid (h2 _ _ (Nat.le_refl _) HB.out)
  have c0 : w2.cell? ⟨w.heap.size, 10, none⟩ = some (.func (.func 45) #[] #[]) := by rw [cell_of_row _ _ _ _ _ _ h1]; rfl
  clear h1 h2 HG HB
  go_wp2
  go_ret
  exact ⟨rfl, HB2.out⟩
theorem rowOf_11 (w : World) : Calls Try.prog 35 #[.int .i64 11] w fun x w' => x = .returned (.func (.func 46) #[] #[]) ∧ Below w.heap.size w w' := by
  have BA := (Below.refl w.heap.size w).alloc (Nat.le_refl _) (.cells NF.toArray 59)
  have HB := Lib.hid BA
  have HG : Hid ((w.alloc (.cells NF.toArray 59)).heap[w.heap.size]? = some (.cells NF.toArray 59 (0, 0))) := heap_alloc_last _ _
  clear BA
  go_enter Try.func35, Try.ntmps35
  go_wp2_with (with_reducible refine wpList_store_row rfl 59 (.tmp 3) (.tmp 4) rfl w.heap.size _ rfl rfl 59 NF.toArray (heap_alloc_last _ _) ?a1 ?a2 ?a3 ?_)
  case a1 => rfl
  case a2 => rfl
  case a3 => kernel_rfl
  intro w2 h1 h2 _
  have HB2 := Lib.hid (h2 _ _ (Nat.le_refl _) HB.out)
  have c0 : w2.cell? ⟨w.heap.size, 11, none⟩ = some (.func (.func 46) #[] #[]) := by rw [cell_of_row _ _ _ _ _ _ h1]; rfl
  clear h1 h2 HG HB
  go_wp2
  go_ret
  exact ⟨rfl, HB2.out⟩
theorem rowOf_12 (w : World) : Calls Try.prog 35 #[.int .i64 12] w fun x w' => x = .returned (.func (.func 47) #[] #[]) ∧ Below w.heap.size w w' := by
  have BA := (Below.refl w.heap.size w).alloc (Nat.le_refl _) (.cells NF.toArray 59)
  have HB := Lib.hid BA
  have HG : Hid ((w.alloc (.cells NF.toArray 59)).heap[w.heap.size]? = some (.cells NF.toArray 59 (0, 0))) := heap_alloc_last _ _
  clear BA
  go_enter Try.func35, Try.ntmps35
  go_wp2_with (with_reducible refine wpList_store_row rfl 59 (.tmp 3) (.tmp 4) rfl w.heap.size _ rfl rfl 59 NF.toArray (heap_alloc_last _ _) ?a1 ?a2 ?a3 ?_)
  case a1 => rfl
  case a2 => rfl
  case a3 => kernel_rfl
  intro w2 h1 h2 _
  have HB2 := Lib.hid (h2 _ _ (Nat.le_refl _) HB.out)
  have c0 : w2.cell? ⟨w.heap.size, 12, none⟩ = some (.func (.func 47) #[] #[]) := by rw [cell_of_row _ _ _ _ _ _ h1]; rfl
  clear h1 h2 HG HB
  go_wp2
  go_ret
  exact ⟨rfl, HB2.out⟩
theorem rowOf_13 (w : World) : Calls Try.prog 35 #[.int .i64 13] w fun x w' => x = .returned (.func (.func 48) #[] #[]) ∧ Below w.heap.size w w' := by
  have BA := (Below.refl w.heap.size w).alloc (Nat.le_refl _) (.cells NF.toArray 59)
  have HB := Lib.hid BA
  have HG : Hid ((w.alloc (.cells NF.toArray 59)).heap[w.heap.size]? = some (.cells NF.toArray 59 (0, 0))) := heap_alloc_last _ _
  clear BA
  go_enter Try.func35, Try.ntmps35
  go_wp2_with (with_reducible refine wpList_store_row rfl 59 (.tmp 3) (.tmp 4) rfl w.heap.size _ rfl rfl 59 NF.toArray (heap_alloc_last _ _) ?a1 ?a2 ?a3 ?_)
  case a1 => rfl
  case a2 => rfl
  case a3 => kernel_rfl
  intro w2 h1 h2 _
  have HB2 := Lib.hid (h2 _ _ (Nat.le_refl _) HB.out)
  have c0 : w2.cell? ⟨w.heap.size, 13, none⟩ = some (.func (.func 48) #[] #[]) := by rw [cell_of_row _ _ _ _ _ _ h1]; rfl
  clear h1 h2 HG HB
  go_wp2
  go_ret
  exact ⟨rfl, HB2.out⟩
theorem rowOf_14 (w : World) : Calls Try.prog 35 #[.int .i64 14] w fun x w' => x = .returned (.func (.func 49) #[] #[]) ∧ Below w.heap.size w w' := by
  have BA := (Below.refl w.heap.size w).alloc (Nat.le_refl _) (.cells NF.toArray 59)
  have HB := Lib.hid BA
  have HG : Hid ((w.alloc (.cells NF.toArray 59)).heap[w.heap.size]? = some (.cells NF.toArray 59 (0, 0))) := heap_alloc_last _ _
  clear BA
  go_enter Try.func35, Try.ntmps35
  go_wp2_with (with_reducible refine wpList_store_row rfl 59 (.tmp 3) (.tmp 4) rfl w.heap.size _ rfl rfl 59 NF.toArray (heap_alloc_last _ _) ?a1 ?a2 ?a3 ?_)
  case a1 => rfl
  case a2 => rfl
  case a3 => kernel_rfl
  intro w2 h1 h2 _
  have HB2 := Lib.hid (h2 _ _ (Nat.le_refl _) HB.out)
  have c0 : w2.cell? ⟨w.heap.size, 14, none⟩ = some (.func (.func 49) #[] #[]) := by rw [cell_of_row _ _ _ _ _ _ h1]; rfl
  clear h1 h2 HG HB
  go_wp2
  go_ret
  exact ⟨rfl, HB2.out⟩
theorem rowOf_15 (w : World) : Calls Try.prog 35 #[.int .i64 15] w fun x w' => x = .returned (.func (.func 50) #[] #[]) ∧ Below w.heap.size w w' := by
  have BA := (Below.refl w.heap.size w).alloc (Nat.le_refl _) (.cells NF.toArray 59)
  have HB := Lib.hid BA
  have HG : Hid ((w.alloc (.cells NF.toArray 59)).heap[w.heap.size]? = some (.cells NF.toArray 59 (0, 0))) := heap_alloc_last _ _
  clear BA
  go_enter Try.func35, Try.ntmps35
  go_wp2_with (with_reducible refine wpList_store_row rfl 59 (.tmp 3) (.tmp 4) rfl w.heap.size _ rfl rfl 59 NF.toArray (heap_alloc_last _ _) ?a1 ?a2 ?a3 ?_)
  case a1 => rfl
  case a2 => rfl
  case a3 => kernel_rfl
  intro w2 h1 h2 _
  have HB2 := Lib.hid (h2 _ _ (Nat.le_refl _) HB.out)
  have c0 : w2.cell? ⟨w.heap.size, 15, none⟩ = some (.func (.func 50) #[] #[]) := by rw [cell_of_row _ _ _ _ _ _ h1]; rfl
  clear h1 h2 HG HB
  go_wp2
  go_ret
  exact ⟨rfl, HB2.out⟩
theorem rowOf_16 (w : World) : Calls Try.prog 35 #[.int .i64 16] w fun x w' => x = .returned (.func (.func 51) #[] #[]) ∧ Below w.heap.size w w' := by
  have BA := (Below.refl w.heap.size w).alloc (Nat.le_refl _) (.cells NF.toArray 59)
  have HB := Lib.hid BA
  have HG : Hid ((w.alloc (.cells NF.toArray 59)).heap[w.heap.size]? = some (.cells NF.toArray 59 (0, 0))) := heap_alloc_last _ _
  clear BA
  go_enter Try.func35, Try.ntmps35
  go_wp2_with (with_reducible refine wpList_store_row rfl 59 (.tmp 3) (.tmp 4) rfl w.heap.size _ rfl rfl 59 NF.toArray (heap_alloc_last _ _) ?a1 ?a2 ?a3 ?_)
  case a1 => rfl
  case a2 => rfl
  case a3 => kernel_rfl
  intro w2 h1 h2 _
  have HB2 := Lib.hid (h2 _ _ (Nat.le_refl _) HB.out)
  have c0 : w2.cell? ⟨w.heap.size, 16, none⟩ = some (.func (.func 51) #[] #[]) := by rw [cell_of_row _ _ _ _ _ _ h1]; rfl
  clear h1 h2 HG HB
  go_wp2
  go_ret
  exact ⟨rfl, HB2.out⟩
end Go.Proofs.Ytmhiajjnkcneoaa.Fs
