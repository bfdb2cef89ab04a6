/-
  cookie.Make, Valid, whatever comes.
-/
import Derived.Test.YtjlacialbfhjcaaDoorCkC
namespace Go.Proofs.YtjlacialbfhjcaaDoor.Ck
open Go.RowKit
set_option linter.unusedVariables false
set_option linter.unusedSimpArgs false

theorem cells6 {w : World} {g : Nat} {v0 v1 v2 v3 v4 v5 : Value} {t : TypeId} {fr : Nat × Nat} (h : w.heap[g]? = some (.cells #[v0, v1, v2, v3, v4, v5] t fr)) :
    w.cell? ⟨g, 0, none⟩ = some v0 ∧ w.cell? ⟨g, 1, none⟩ = some v1 ∧ w.cell? ⟨g, 2, none⟩ = some v2 ∧ w.cell? ⟨g, 3, none⟩ = some v3 ∧ w.cell? ⟨g, 4, none⟩ = some v4 ∧ w.cell? ⟨g, 5, none⟩ = some v5 := by
  refine ⟨?_, ?_, ?_, ?_, ?_, ?_⟩ <;> (rw [cell_of_row _ _ _ _ _ _ h]; rfl)
theorem cells2 {w : World} {g : Nat} {a b : Value} {t : TypeId} {fr : Nat × Nat} (h : w.heap[g]? = some (.cells #[a, b] t fr)) : w.cell? ⟨g, 0, none⟩ = some a ∧ w.cell? ⟨g, 1, none⟩ = some b := by
  refine ⟨?_, ?_⟩ <;> (rw [cell_of_row _ _ _ _ _ _ h]; rfl)
/-- What Make hands back. -/
def MRes (sec : List UInt8) (T : Int) (mac uniq : List UInt8) (t : Int) (w : World) (e : Ending) (w' : World) : Prop :=
  ∃ A L C, e = .returned (.tuple #[.slice A L C, .int .i64 (makE sec T uniq t)]) ∧ (makB sec T mac uniq t).length = L ∧ OwnB w' w.heap.size 56 (.slice A L C) (makB sec T mac uniq t) ∧ Below w.heap.size w w'
theorem MRes.none {sec : List UInt8} {T : Int} {mac uniq : List UInt8} {t k : Int} {w w' : World} (h : makE sec T uniq t = k) (hk : k ≠ 0) (hb : Below w.heap.size w w') : MRes sec T mac uniq t w (.returned (.tuple #[.slice Option.none 0 0, .int .i64 k])) w' := by
  subst h
  have e := makB_no (mac := mac) hk
  exact ⟨_, _, _, rfl, by rw [e]; rfl, by rw [e]; exact OwnB.nil _ _ _, hb⟩
theorem MRes.some {sec : List UInt8} {T : Int} {mac uniq : List UInt8} {t : Int} {w w' : World} {g : Nat} (h : makE sec T uniq t = 0) (ho : OwnB w' w.heap.size 56 (.slice (some ⟨g, 0, Option.none⟩) 32 32) (cookL sec mac uniq (t / T))) (hb : Below w.heap.size w w') : MRes sec T mac uniq t w (.returned (.tuple #[.slice (some ⟨g, 0, Option.none⟩) 32 32, .int .i64 0])) w' := by
  have e := makB_yes (mac := mac) h
  exact ⟨_, _, _, by rw [h], by rw [e, cookL_length], by rw [e]; exact ho, hb⟩
theorem boxed_two (w : World) (o p : Obj) : Below w.heap.size w ((w.alloc o).alloc p) := ((Below.refl _ _).alloc (Nat.le_refl _) _).alloc (by simp) _
theorem boxed_0 (w : World) (o p : Obj) : ((w.alloc o).alloc p).heap[w.heap.size]? = some o := by
  rw [Below.heap_alloc _ _ _ (by simp), heap_alloc_last]
theorem boxed_1 (w : World) (o p : Obj) : ((w.alloc o).alloc p).heap[w.heap.size + 1]? = some p := by
  have := heap_alloc_last (w.alloc o) p
  rwa [World.size_alloc] at this
set_option maxHeartbeats 1000000 in
theorem make_any (ak : Option Addr) (nk ck : Nat) (sec : List UInt8) (hn : sec.length = nk) (T t : Int) (au : Option Addr) (nu cu : Nat) (uniq : List UInt8) (hu : uniq.length = nu) (v0 v1 v2 v3 v4 v5 : Value) (mac : List UInt8) (hm : mac.map u8v = [v0, v1, v2, v3, v4, v5])
    (w : World) (hL : Laid w) (hk : Bs w (.slice ak nk ck) sec) (hq : Bs w (.slice au nu cu) uniq) :
    Calls Tryd.prog 9 #[.agg #[.slice ak nk ck, .int .i64 T], .agg #[v0, v1, v2, v3, v4, v5], .slice au nu cu, .int .i64 t] w (MRes sec T mac uniq t w) := by
  have HB1 : Hid (Below w.heap.size w ((w.alloc (.cells #[.slice ak nk ck, .int .i64 T] 24)).alloc (.cells #[v0, v1, v2, v3, v4, v5] 26))) := boxed_two _ _ _
  have HG0 : Hid (((w.alloc (.cells #[.slice ak nk ck, .int .i64 T] 24)).alloc (.cells #[v0, v1, v2, v3, v4, v5] 26)).heap[w.heap.size]? = some (.cells #[.slice ak nk ck, .int .i64 T] 24 (0, 0))) := boxed_0 _ _ _
  have HG1 : Hid (((w.alloc (.cells #[.slice ak nk ck, .int .i64 T] 24)).alloc (.cells #[v0, v1, v2, v3, v4, v5] 26)).heap[w.heap.size + 1]? = some (.cells #[v0, v1, v2, v3, v4, v5] 26 (0, 0))) := boxed_1 _ _ _
  have HC := Lib.hid (fun w => epochFor_any ak nk ck sec hn T t au nu cu uniq hu w)
  obtain ⟨k, hke⟩ : ∃ k, makE sec T uniq t = k := ⟨_, rfl⟩
  have HKE := Lib.hid hke
  by_cases h0 : k = 0
  · subst h0
    have hz := makE_zero hke
    have hr := epN_range hz.1
    have h64 := (epE_zero hz.1).1.2.1
    have hd := forN_yes hke
    obtain ⟨n, hnn⟩ : ∃ n, n = t / T := ⟨_, rfl⟩
    rw [hke, hd] at HC
    rw [← hnn] at hr HC
    unfold top at hr
    have HK := Lib.hid (fun (w' : World) (hb : Below w.heap.size w w') => cookie_any ak nk ck sec hn au nu cu uniq hu v0 v1 v2 v3 v4 v5 mac hm n hr.1 hr.2 w' (hL.below hb) (hk.below hb) (hq.below hb) (by omega) hz.2)
    have HN := Lib.hid hnn
    clear hn hu hm hL hk hq hke hz hr h64 hd hnn
    go_enter Tryd.func9, Tryd.ntmps9
    go_wp2_with fail
    generalize (w.alloc (.cells #[.slice ak nk ck, .int .i64 T] 24)).alloc (.cells #[v0, v1, v2, v3, v4, v5] 26) = w1 at HB1 HG0 HG1 ⊢
    refine (HC.out _).mono ?_
    rintro e w2 ⟨rfl, hb2⟩
    have HB2 := Lib.hid (HB1.out.trans (hb2.mono HB1.out.size))
    obtain ⟨k0, k1⟩ := cells2 (heap_below HG0.out hb2)
    obtain ⟨m0, m1, m2, m3, m4, m5⟩ := cells6 (heap_below HG1.out hb2)
    clear hb2
    go_wp2_with fail
    refine (HK.out _ HB2.out).mono ?_
    rintro e w3 ⟨g3, rfl, ho3, hb3⟩
    have HB3 := Lib.hid (HB2.out.trans (hb3.mono HB2.out.size))
    have HO3 := Lib.hid (ho3.mono HB2.out.size)
    clear hb3 ho3 k0 k1 m0 m1 m2 m3 m4 m5
    go_wp2
    go_ret2
    refine MRes.some HKE.out ?_ HB3.out
    rw [← HN.out]
    exact HO3.out
  · rw [hke] at HC
    clear hn hu hm hL hk hq hke
    go_enter Tryd.func9, Tryd.ntmps9
    go_wp2_with fail
    generalize (w.alloc (.cells #[.slice ak nk ck, .int .i64 T] 24)).alloc (.cells #[v0, v1, v2, v3, v4, v5] 26) = w1 at HB1 HG0 HG1 ⊢
    refine (HC.out _).mono ?_
    rintro e w2 ⟨rfl, hb2⟩
    have HB2 := Lib.hid (HB1.out.trans (hb2.mono HB1.out.size))
    clear hb2
    go_wp2
    go_ret2
    exact MRes.none HKE.out h0 HB2.out
end Go.Proofs.YtjlacialbfhjcaaDoor.Ck
