/-
  The document's rows of texts, its names; the action of a name.
-/
import Derived.Test.YtmhiajjnkcneoaaFsH
namespace Go.Proofs.Ytmhiajjnkcneoaa.Fs
open Go.RowKit
open Go.Proofs.Ytmhiajjnkcneoaa.Id (Tr Tr.refl Tr.gr Tr.only)
set_option linter.unusedVariables false
set_option linter.unusedSimpArgs false

def tx (l : List UInt8) : Value := .string ⟨l.toArray⟩
def txs (l : List (List UInt8)) : List Value := l.map tx
theorem txs_at (l : List (List UInt8)) (j : Nat) (h : j < l.length) : (txs l)[j]? = some (tx (l.getD j [])) := by simp [txs, h]
/-- A row of texts that was just made. -/
def TR (w : World) (l : List (List UInt8)) (e : Ending) (w' : World) : Prop :=
  e = .returned (.slice (some ⟨w.heap.size, 0, none⟩) l.length l.length) ∧ Below w.heap.size w w' ∧ ∀ j, j < l.length → w'.cell? ⟨w.heap.size, j, none⟩ = some (tx (l.getD j []))
theorem tr_new (w : World) (l : List (List UInt8)) : TR w l (.returned (.slice (some ⟨w.heap.size, 0, none⟩) l.length l.length)) (w.alloc (.cells (txs l).toArray 9)) := by
  refine ⟨rfl, (Below.refl _ _).alloc (Nat.le_refl _) _, fun j hj => ?_⟩
  rw [World.cell?_alloc_new]
  have := txs_at l j hj
  simpa using this
theorem TR.size {w w' : World} {l : List (List UInt8)} {e : Ending} (h : TR w l e w') : Below w.heap.size w w' := h.2.1
theorem states_any (w : World) : Calls Try.prog 32 #[] w (TR w names) := by
  have H := Lib.hid (tr_new w names)
  go_enter Try.func32, Try.ntmps32
  go_wp2
  go_ret
  exact H.out
theorem events_any (w : World) : Calls Try.prog 33 #[] w (TR w evs) := by
  have H := Lib.hid (tr_new w evs)
  go_enter Try.func33, Try.ntmps33
  go_wp2
  go_ret
  exact H.out
theorem actions_any (w : World) : Calls Try.prog 34 #[] w (TR w acs) := by
  have H := Lib.hid (tr_new w acs)
  go_enter Try.func34, Try.ntmps34
  go_wp2
  go_ret
  exact H.out
set_option maxHeartbeats 4000000 in
theorem row_yes (e : Int) (w : World) (he : InE e) : Calls Try.prog 29 #[.int .i64 e] w (TR w (cellT.getD (e.toNat - 1) [])) := by
  have he' : e = 1 ∨ e = 2 ∨ e = 3 ∨ e = 4 ∨ e = 5 ∨ e = 6 ∨ e = 7 ∨ e = 8 ∨ e = 9 ∨ e = 10 ∨ e = 11 ∨ e = 12 ∨ e = 13 ∨ e = 14 ∨ e = 15 ∨ e = 16 := by unfold InE at he; omega
  clear he
  obtain rfl | rfl | rfl | rfl | rfl | rfl | rfl | rfl | rfl | rfl | rfl | rfl | rfl | rfl | rfl | rfl := he'
  · have H := Lib.hid (tr_new w (cellT.getD 0 []))
    go_enter Try.func29, Try.ntmps29
    go_wp2
    go_ret
    exact H.out
  · have H := Lib.hid (tr_new w (cellT.getD 1 []))
    go_enter Try.func29, Try.ntmps29
    go_wp2
    go_ret
    exact H.out
  · have H := Lib.hid (tr_new w (cellT.getD 2 []))
    go_enter Try.func29, Try.ntmps29
    go_wp2
    go_ret
    exact H.out
  · have H := Lib.hid (tr_new w (cellT.getD 3 []))
    go_enter Try.func29, Try.ntmps29
    go_wp2
    go_ret
    exact H.out
  · have H := Lib.hid (tr_new w (cellT.getD 4 []))
    go_enter Try.func29, Try.ntmps29
    go_wp2
    go_ret
    exact H.out
  · have H := Lib.hid (tr_new w (cellT.getD 5 []))
    go_enter Try.func29, Try.ntmps29
    go_wp2
    go_ret
    exact H.out
  · have H := Lib.hid (tr_new w (cellT.getD 6 []))
    go_enter Try.func29, Try.ntmps29
    go_wp2
    go_ret
    exact H.out
  · have H := Lib.hid (tr_new w (cellT.getD 7 []))
    go_enter Try.func29, Try.ntmps29
    go_wp2
    go_ret
    exact H.out
  · have H := Lib.hid (tr_new w (cellT.getD 8 []))
    go_enter Try.func29, Try.ntmps29
    go_wp2
    go_ret
    exact H.out
  · have H := Lib.hid (tr_new w (cellT.getD 9 []))
    go_enter Try.func29, Try.ntmps29
    go_wp2
    go_ret
    exact H.out
  · have H := Lib.hid (tr_new w (cellT.getD 10 []))
    go_enter Try.func29, Try.ntmps29
    go_wp2
    go_ret
    exact H.out
  · have H := Lib.hid (tr_new w (cellT.getD 11 []))
    go_enter Try.func29, Try.ntmps29
    go_wp2
    go_ret
    exact H.out
  · have H := Lib.hid (tr_new w (cellT.getD 12 []))
    go_enter Try.func29, Try.ntmps29
    go_wp2
    go_ret
    exact H.out
  · have H := Lib.hid (tr_new w (cellT.getD 13 []))
    go_enter Try.func29, Try.ntmps29
    go_wp2
    go_ret
    exact H.out
  · have H := Lib.hid (tr_new w (cellT.getD 14 []))
    go_enter Try.func29, Try.ntmps29
    go_wp2
    go_ret
    exact H.out
  · have H := Lib.hid (tr_new w (cellT.getD 15 []))
    go_enter Try.func29, Try.ntmps29
    go_wp2
    go_ret
    exact H.out
set_option maxHeartbeats 4000000 in
theorem row_no (e : Int) (w : World) (he : ¬ InE e) : Calls Try.prog 29 #[.int .i64 e] w fun x w' => x = .returned (.slice none 0 0) ∧ w' = w := by
  unfold InE at he
  have h1 : ¬ e = 1 := by omega
  have h2 : ¬ e = 2 := by omega
  have h3 : ¬ e = 3 := by omega
  have h4 : ¬ e = 4 := by omega
  have h5 : ¬ e = 5 := by omega
  have h6 : ¬ e = 6 := by omega
  have h7 : ¬ e = 7 := by omega
  have h8 : ¬ e = 8 := by omega
  have h9 : ¬ e = 9 := by omega
  have h10 : ¬ e = 10 := by omega
  have h11 : ¬ e = 11 := by omega
  have h12 : ¬ e = 12 := by omega
  have h13 : ¬ e = 13 := by omega
  have h14 : ¬ e = 14 := by omega
  have h15 : ¬ e = 15 := by omega
  have h16 : ¬ e = 16 := by omega
  clear he
  go_enter Try.func29, Try.ntmps29
  go_wp2
  go_ret
  exact ⟨rfl, rfl⟩
end Go.Proofs.Ytmhiajjnkcneoaa.Fs
