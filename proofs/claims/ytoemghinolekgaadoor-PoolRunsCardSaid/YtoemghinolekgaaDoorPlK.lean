/-
  The document's: Has, Free, Take, Want, Give.
-/
import Derived.Test.YtoemghinolekgaaDoorPlJb
import Derived.Test.YtoemghinolekgaaDoorGen
namespace Go.Proofs.YtoemghinolekgaaDoor.Pl
open Go.RowKit
open Go.Proofs.YtoemghinolekgaaDoor.Id (Tr Tr.refl Tr.gr Tr.only blk own_blk IR IR.cells IR.shape IR.nil)
set_option linter.unusedVariables false
set_option linter.unusedSimpArgs false

theorem sizeDT : (Tryd.prog.info? 35).map (·.size) = some 4 := by kernel_rfl
theorem sizeSI : (Tryd.prog.info? 22).map (·.size) = some 1 := by kernel_rfl
theorem cells4' {w : World} {g : Nat} {c0 c1 c2 c3 : Value} {t : TypeId} {fr : Nat × Nat} (h : w.heap[g]? = some (.cells #[c0, c1, c2, c3] t fr)) :
    w.cell? ⟨g, 0, none⟩ = some c0 ∧ w.cell? ⟨g, 1, none⟩ = some c1 ∧ w.cell? ⟨g, 2, none⟩ = some c2 ∧ w.cell? ⟨g, 3, none⟩ = some c3 :=
  ⟨by rw [cell_of_row w g _ _ _ _ h]; rfl, by rw [cell_of_row w g _ _ _ _ h]; rfl, by rw [cell_of_row w g _ _ _ _ h]; rfl, by rw [cell_of_row w g _ _ _ _ h]; rfl⟩
/-- The document's pool, as a value. -/
def DV (S : Po) (rv lv : Value) : Value := .agg #[.int .i64 S.base, .int .i64 (S.size : Int), rv, lv]
/-- What it reads. -/
structure DR (w : World) (S : Po) (rv lv : Value) : Prop where
  r : IR w rv S.res
  l : IR w lv S.L
theorem DR.gr {w w' : World} {S : Po} {rv lv : Value} (h : DR w S rv lv) (hb : Below w.heap.size w w') : DR w' S rv lv := ⟨Rd.below h.r hb, Rd.below h.l hb⟩
theorem dhas_any (a : Int) (ha : a ≤ 9223372036854775807) {S : Po} {rv lv : Value} (w : World) (ok : OkP S) (h : DR w S rv lv) :
    Calls Tryd.prog 27 #[DV S rv lv, .int .i64 a] w fun e w' => e = .returned (.bool (has S a)) ∧ Below w.heap.size w w' := by
  obtain ⟨ar, cr, rfl, _, _⟩ := h.r.shape
  obtain ⟨al, cl, rfl, _, _⟩ := h.l.shape
  unfold DV
  have hB := ok.r.base
  have hZ := ok.r.size
  obtain ⟨nr, hnr⟩ : ∃ n, n = S.res.length := ⟨_, rfl⟩
  obtain ⟨nl, hnl⟩ : ∃ n, n = S.L.length := ⟨_, rfl⟩
  have HR := Lib.hid h.r
  rw [← hnr] at HR ⊢
  rw [← hnl]
  have HB1 : Hid (Below w.heap.size w (w.alloc (.cells #[.int .i64 S.base, .int .i64 (S.size : Int), .slice ar nr cr, .slice al nl cl] 35))) := (Below.refl _ _).alloc (Nat.le_refl _) _
  have HIN : Hid (Calls Tryd.prog 36 #[.slice ar nr cr, .int .i64 (a - S.base)] (w.alloc (.cells #[.int .i64 S.base, .int .i64 (S.size : Int), .slice ar nr cr, .slice al nl cl] 35)) fun e w' => e = .returned (.bool (decide (a - S.base ∈ S.res))) ∧ _ = w') := in_any (a - S.base) _ (Rd.below HR.out HB1.out)
  clear h hnr hnl ok
  by_cases h1 : a < S.base
  · have hf : has S a = false := by rw [Bool.eq_false_iff, ne_eq, has_iff]; omega
    rw [hf]
    clear hf HIN
    go_enter Tryd.func27, Tryd.ntmps27
    go_wp2
    go_ret
    exact ⟨rfl, HB1.out⟩
  · have x1 : wrap64 (a - S.base) = a - S.base := wrap64_in (by omega) (by omega)
    by_cases h2 : a - S.base < (S.size : Int)
    · have hf : has S a = !decide (a - S.base ∈ S.res) := by
        unfold has
        by_cases hm : a - S.base ∈ S.res
        · simp [hm]
        · simp [hm]; omega
      rw [hf]
      obtain ⟨q, hq⟩ : ∃ q, q = decide (a - S.base ∈ S.res) := ⟨_, rfl⟩
      rw [← hq] at HIN ⊢
      clear hf hq
      go_enter Tryd.func27, Tryd.ntmps27
      go_wp2_with fail
      refine HIN.out.mono ?_
      rintro e w' ⟨rfl, rfl⟩
      go_wp2
      go_ret
      exact ⟨rfl, HB1.out⟩
    · have hf : has S a = false := by rw [Bool.eq_false_iff, ne_eq, has_iff]; omega
      rw [hf]
      clear hf HIN
      go_enter Tryd.func27, Tryd.ntmps27
      go_wp2
      go_ret
      exact ⟨rfl, HB1.out⟩
theorem dfree_any {S : Po} {rv lv : Value} (w : World) (ok : OkP S) (h : DR w S rv lv) :
    Calls Tryd.prog 25 #[DV S rv lv] w fun e w' => e = .returned (.int .i64 (free S)) ∧ Below w.heap.size w w' := by
  obtain ⟨ar, cr, rfl, _, _⟩ := h.r.shape
  obtain ⟨al, cl, rfl, _, _⟩ := h.l.shape
  unfold DV free
  have hp := parts ok
  have hZ := ok.r.size
  have HB1 : Hid (Below w.heap.size w (w.alloc (.cells #[.int .i64 S.base, .int .i64 (S.size : Int), .slice ar S.res.length cr, .slice al S.L.length cl] 35))) := (Below.refl _ _).alloc (Nat.le_refl _) _
  obtain ⟨nr, hnr⟩ : ∃ n, n = S.res.length := ⟨_, rfl⟩
  obtain ⟨nl, hnl⟩ : ∃ n, n = S.L.length := ⟨_, rfl⟩
  rw [← hnr, ← hnl] at hp HB1 ⊢
  have x1 : wrap64 ((S.size : Int) - (nr : Int)) = (S.size : Int) - (nr : Int) := wrap64_in (by omega) (by omega)
  have x2 : wrap64 ((S.size : Int) - (nr : Int) - (nl : Int)) = (S.size : Int) - (nr : Int) - (nl : Int) := wrap64_in (by omega) (by omega)
  clear h hnr hnl ok hp hZ
  go_enter Tryd.func25, Tryd.ntmps25
  go_wp2
  go_ret
  first
    | exact ⟨rfl, HB1.out⟩
    | exact ⟨by show Ending.returned (.int .i64 (wrap64 ((S.size : Int) - (nr : Int) - (nl : Int)))) = _; rw [x2], HB1.out⟩
end Go.Proofs.YtoemghinolekgaaDoor.Pl
