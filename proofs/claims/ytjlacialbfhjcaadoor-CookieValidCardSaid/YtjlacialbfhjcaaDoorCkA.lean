/-
  cookie.isIn, Check, Epoch, epochFor, whatever comes.
-/
import Derived.Test.YtjlacialbfhjcaaDoorCkP
import Derived.Test.YtjlacialbfhjcaaDoorGen
namespace Go.Proofs.YtjlacialbfhjcaaDoor.Ck
open Go.RowKit
set_option linter.unusedVariables false
set_option linter.unusedSimpArgs false

theorem isIn_yes {n low high : Int} (w : World) (h0 : low ≤ n) (h1 : n ≤ high) :
    Calls Tryd.prog 21 #[.int .i64 n, .int .i64 low, .int .i64 high] w fun e w' => e = .returned (.bool true) ∧ w = w' := by
  go_enter Tryd.func21, Tryd.ntmps21
  go_wp2
  go_ret
  exact ⟨rfl, rfl⟩
theorem isIn_no {n low high : Int} (w : World) (h : ¬ (low ≤ n ∧ n ≤ high)) :
    Calls Tryd.prog 21 #[.int .i64 n, .int .i64 low, .int .i64 high] w fun e w' => e = .returned (.bool false) ∧ w = w' := by
  have hc : n < low ∨ (low ≤ n ∧ high < n) := by omega
  rcases hc with h1 | ⟨h1, h2⟩
  all_goals
    clear h
    go_enter Tryd.func21, Tryd.ntmps21
    go_wp2
    go_ret
    exact ⟨congrArg (fun b => Ending.returned (.bool b)) (by first | rfl | (simp <;> omega)), rfl⟩
/-- The number that Check tells. -/
def ckE (sec : List UInt8) (T : Int) : Int := if okC sec T then 0 else 90
theorem okC_iff (sec : List UInt8) (T : Int) : okC sec T ↔ (1 ≤ (sec.length : Int) ∧ (sec.length : Int) ≤ 64) ∧ (1 ≤ T ∧ T ≤ 1099511627776) := by
  unfold okC top; omega
theorem check_any (ak : Option Addr) (nk ck : Nat) (sec : List UInt8) (hn : sec.length = nk) (T : Int) (w : World) :
    Calls Tryd.prog 13 #[.agg #[.slice ak nk ck, .int .i64 T]] w fun e w' => e = .returned (.int .i64 (ckE sec T)) ∧ Below w.heap.size w w' := by
  have HB : Hid (Below w.heap.size w (w.alloc (.cells #[.slice ak nk ck, .int .i64 T] 24))) := (Below.refl _ _).alloc (Nat.le_refl _) _
  by_cases h1 : 1 ≤ (nk : Int) ∧ (nk : Int) ≤ 64
  · by_cases h2 : 1 ≤ T ∧ T ≤ 1099511627776
    · have e : ckE sec T = 0 := if_pos ((okC_iff sec T).2 ⟨by rw [hn]; exact h1, h2⟩)
      rw [e]
      obtain ⟨h1a, h1b⟩ := h1
      obtain ⟨h2a, h2b⟩ := h2
      clear hn e
      go_enter Tryd.func13, Tryd.ntmps13
      go_wp2_with fail
      refine (isIn_yes _ h1a h1b).mono ?_
      rintro e w' ⟨rfl, rfl⟩
      go_wp2_with fail
      refine (isIn_yes _ h2a h2b).mono ?_
      rintro e w' ⟨rfl, rfl⟩
      go_wp2
      go_ret
      exact ⟨rfl, HB.out⟩
    · have e : ckE sec T = 90 := if_neg fun h => h2 ((okC_iff sec T).1 h).2
      rw [e]
      obtain ⟨h1a, h1b⟩ := h1
      have H2 := Lib.hid h2
      clear hn e h2
      go_enter Tryd.func13, Tryd.ntmps13
      go_wp2_with fail
      refine (isIn_yes _ h1a h1b).mono ?_
      rintro e w' ⟨rfl, rfl⟩
      go_wp2_with fail
      refine (isIn_no _ H2.out).mono ?_
      rintro e w' ⟨rfl, rfl⟩
      go_wp2
      go_ret
      exact ⟨rfl, HB.out⟩
  · have e : ckE sec T = 90 := if_neg fun h => h1 (by have := ((okC_iff sec T).1 h).1; rw [hn] at this; exact this)
    rw [e]
    have H1 := Lib.hid h1
    clear hn e h1
    go_enter Tryd.func13, Tryd.ntmps13
    go_wp2_with fail
    refine (isIn_no _ H1.out).mono ?_
    rintro e w' ⟨rfl, rfl⟩
    go_wp2
    go_ret
    exact ⟨rfl, HB.out⟩
/-- What Epoch hands back. -/
theorem epoch_any (ak : Option Addr) (nk ck : Nat) (sec : List UInt8) (hn : sec.length = nk) (T t : Int) (w : World) :
    Calls Tryd.prog 11 #[.agg #[.slice ak nk ck, .int .i64 T], .int .i64 t] w fun e w' => e = .returned (.tuple #[.int .i64 (epN sec T t), .int .i64 (epE sec T t)]) ∧ Below w.heap.size w w' := by
  have HC := Lib.hid (fun w => check_any ak nk ck sec hn T w)
  have HB : Hid (Below w.heap.size w (w.alloc (.cells #[.slice ak nk ck, .int .i64 T] 24))) := (Below.refl _ _).alloc (Nat.le_refl _) _
  have HG : Hid ((w.alloc (.cells #[.slice ak nk ck, .int .i64 T] 24)).heap[w.heap.size]? = some (.cells #[.slice ak nk ck, .int .i64 T] 24 (0, 0))) := heap_alloc_last _ _
  by_cases h1 : okC sec T
  · have e1 : ckE sec T = 0 := if_pos h1
    rw [e1] at HC
    by_cases h2 : 0 ≤ t ∧ t ≤ 1099511627776
    · have e2 := epE_ok h1 h2
      have e3 := epN_yes e2
      have e4 := epN_range e2
      unfold top at e4
      rw [e2, e3]
      have hT : 1 ≤ T ∧ T ≤ 1099511627776 := ((okC_iff sec T).1 h1).2
      obtain ⟨hT1, hT2⟩ := hT
      obtain ⟨h2a, h2b⟩ := h2
      have e5 : Int.tdiv t T = t / T := Int.tdiv_eq_ediv_of_nonneg h2a
      obtain ⟨q, hq⟩ : ∃ q, q = t / T := ⟨_, rfl⟩
      rw [← hq] at e4 e5 ⊢
      obtain ⟨e4a, e4b⟩ := e4
      clear hn e1 e2 e3 h1 hq
      go_enter Tryd.func11, Tryd.ntmps11
      go_wp2_with fail
      generalize w.alloc (.cells #[.slice ak nk ck, .int .i64 T] 24) = w1 at HB HG ⊢
      refine (HC.out _).mono ?_
      rintro e w2 ⟨rfl, hb2⟩
      have HB2 := Lib.hid (HB.out.trans (hb2.mono HB.out.size))
      have HG2 := heap_below HG.out hb2
      have c1 : w2.cell? ⟨w.heap.size, 1, none⟩ = some (.int .i64 T) := by rw [cell_of_row _ _ _ _ _ _ HG2]; rfl
      clear hb2 HG2
      go_wp2_with fail
      refine (isIn_yes _ h2a h2b).mono ?_
      rintro e w' ⟨rfl, rfl⟩
      go_wp2
      go_ret2
      exact ⟨rfl, HB2.out⟩
    · have e2 := epE_arg h1 h2
      have e3 : epN sec T t = 0 := epN_no (by rw [e2]; decide)
      rw [e2, e3]
      have H2 := Lib.hid h2
      clear hn e1 e2 e3 h1 h2
      go_enter Tryd.func11, Tryd.ntmps11
      go_wp2_with fail
      generalize w.alloc (.cells #[.slice ak nk ck, .int .i64 T] 24) = w1 at HB HG ⊢
      refine (HC.out _).mono ?_
      rintro e w2 ⟨rfl, hb2⟩
      have HB2 := Lib.hid (HB.out.trans (hb2.mono HB.out.size))
      clear hb2
      go_wp2_with fail
      refine (isIn_no _ H2.out).mono ?_
      rintro e w' ⟨rfl, rfl⟩
      go_wp2
      go_ret2
      exact ⟨rfl, HB2.out⟩
  · have e1 : ckE sec T = 90 := if_neg h1
    rw [e1] at HC
    have e2 := epE_set (t := t) h1
    have e3 : epN sec T t = 0 := epN_no (by rw [e2]; decide)
    rw [e2, e3]
    clear hn e1 e2 e3 h1
    go_enter Tryd.func11, Tryd.ntmps11
    go_wp2_with fail
    generalize w.alloc (.cells #[.slice ak nk ck, .int .i64 T] 24) = w1 at HB HG ⊢
    refine (HC.out _).mono ?_
    rintro e w2 ⟨rfl, hb2⟩
    have HB2 := Lib.hid (HB.out.trans (hb2.mono HB.out.size))
    clear hb2
    go_wp2
    go_ret2
    exact ⟨rfl, HB2.out⟩
/-- The epoch for which a cookie is made. -/
def forN (sec : List UInt8) (T : Int) (uniq : List UInt8) (t : Int) : Int := if makE sec T uniq t = 0 then t / T else 0
theorem forN_yes {sec uniq : List UInt8} {T t : Int} (h : makE sec T uniq t = 0) : forN sec T uniq t = t / T := if_pos h
theorem forN_no {sec uniq : List UInt8} {T t : Int} (h : makE sec T uniq t ≠ 0) : forN sec T uniq t = 0 := if_neg h
theorem epochFor_any (ak : Option Addr) (nk ck : Nat) (sec : List UInt8) (hn : sec.length = nk) (T t : Int) (au : Option Addr) (nu cu : Nat) (uniq : List UInt8) (hu : uniq.length = nu) (w : World) :
    Calls Tryd.prog 18 #[.agg #[.slice ak nk ck, .int .i64 T], .slice au nu cu, .int .i64 t] w fun e w' => e = .returned (.tuple #[.int .i64 (forN sec T uniq t), .int .i64 (makE sec T uniq t)]) ∧ Below w.heap.size w w' := by
  have HC := Lib.hid (fun w => epoch_any ak nk ck sec hn T t w)
  have HB : Hid (Below w.heap.size w (w.alloc (.cells #[.slice ak nk ck, .int .i64 T] 24))) := (Below.refl _ _).alloc (Nat.le_refl _) _
  obtain ⟨k, hk⟩ : ∃ k, k = epE sec T t := ⟨_, rfl⟩
  obtain ⟨q, hq⟩ : ∃ q, q = epN sec T t := ⟨_, rfl⟩
  rw [← hk, ← hq] at HC
  by_cases h1 : k = 0
  · subst h1
    rw [epN_yes hk.symm] at hq
    by_cases h2 : nu ≤ 1494
    · have e1 : makE sec T uniq t = 0 := makE_ok hk.symm (by omega)
      rw [e1, forN_yes e1, ← hq]
      clear e1 hq hk hn hu
      go_enter Tryd.func18, Tryd.ntmps18
      go_wp2_with fail
      generalize w.alloc (.cells #[.slice ak nk ck, .int .i64 T] 24) = w1 at HB ⊢
      refine (HC.out _).mono ?_
      rintro e w2 ⟨rfl, hb2⟩
      have HB2 := Lib.hid (HB.out.trans (hb2.mono HB.out.size))
      clear hb2
      go_wp2
      go_ret2
      exact ⟨rfl, HB2.out⟩
    · have e1 : makE sec T uniq t = 2 := makE_long hk.symm (by omega)
      rw [e1, forN_no (by rw [e1]; decide)]
      clear e1 hq hk hn hu
      go_enter Tryd.func18, Tryd.ntmps18
      go_wp2_with fail
      generalize w.alloc (.cells #[.slice ak nk ck, .int .i64 T] 24) = w1 at HB ⊢
      refine (HC.out _).mono ?_
      rintro e w2 ⟨rfl, hb2⟩
      have HB2 := Lib.hid (HB.out.trans (hb2.mono HB.out.size))
      clear hb2
      go_wp2
      go_ret2
      exact ⟨rfl, HB2.out⟩
  · have e1 : makE sec T uniq t = k := by rw [makE_ep (by rw [← hk]; exact h1), hk]
    rw [e1, forN_no (by rw [e1]; exact h1)]
    clear e1 hq hk hn hu
    go_enter Tryd.func18, Tryd.ntmps18
    go_wp2_with fail
    generalize w.alloc (.cells #[.slice ak nk ck, .int .i64 T] 24) = w1 at HB ⊢
    refine (HC.out _).mono ?_
    rintro e w2 ⟨rfl, hb2⟩
    have HB2 := Lib.hid (HB.out.trans (hb2.mono HB.out.size))
    clear hb2
    go_wp2
    go_ret2
    exact ⟨rfl, HB2.out⟩
end Go.Proofs.YtjlacialbfhjcaaDoor.Ck
