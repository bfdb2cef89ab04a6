/-
  The document's Is, Epoch, whatever comes.
-/
import Derived.Test.YtjlacialbfhjcaaDoorCkD
namespace Go.Proofs.YtjlacialbfhjcaaDoor.Ck
open Go.RowKit
set_option linter.unusedVariables false
set_option linter.unusedSimpArgs false

theorem is_any (ak : Option Addr) (nk ck : Nat) (sec : List UInt8) (hn : sec.length = nk) (T : Int) (w : World) :
    Calls Tryd.prog 14 #[.agg #[.slice ak nk ck, .int .i64 T]] w fun e w' => e = .returned (.bool (decide (okC sec T))) ∧ Below w.heap.size w w' := by
  have HB : Hid (Below w.heap.size w (w.alloc (.cells #[.slice ak nk ck, .int .i64 T] 24))) := (Below.refl _ _).alloc (Nat.le_refl _) _
  have hok := okC_iff sec T
  rw [hn] at hok
  have hc : (1 ≤ (nk : Int) ∧ (nk : Int) ≤ 64 ∧ 1 ≤ T ∧ T ≤ 1099511627776) ∨ nk < 1 ∨ (1 ≤ nk ∧ 64 < nk) ∨ (1 ≤ nk ∧ nk ≤ 64 ∧ T < 1) ∨ (1 ≤ nk ∧ nk ≤ 64 ∧ 1 ≤ T ∧ 1099511627776 < T) := by omega
  obtain ⟨b, hb⟩ : ∃ b, b = decide (okC sec T) := ⟨_, rfl⟩
  rw [← hb]
  have HOK := Lib.hid hok
  have HBB := Lib.hid hb
  clear hok hb hn
  rcases hc with ⟨h1, h2, h3, h4⟩ | h1 | ⟨h1, h2⟩ | ⟨h1, h2, h3⟩ | ⟨h1, h2, h3, h4⟩
  · obtain rfl : b = true := by rw [HBB.out]; exact decide_eq_true (HOK.out.2 ⟨⟨h1, h2⟩, h3, h4⟩)
    go_enter Tryd.func14, Tryd.ntmps14
    go_wp2
    go_ret
    exact ⟨rfl, HB.out⟩
  all_goals
    obtain rfl : b = false := by rw [HBB.out]; exact decide_eq_false fun h => by have := HOK.out.1 h; omega
    go_enter Tryd.func14, Tryd.ntmps14
    go_wp2
    go_ret
    exact ⟨by first | rfl | (simp <;> omega), HB.out⟩
set_option maxHeartbeats 1000000 in
theorem repoch_any (ak : Option Addr) (nk ck : Nat) (sec : List UInt8) (hn : sec.length = nk) (T t : Int) (w : World) :
    Calls Tryd.prog 12 #[.agg #[.slice ak nk ck, .int .i64 T], .int .i64 t] w fun e w' => e = .returned (.tuple #[.int .i64 (epN sec T t), .int .i64 (epE sec T t)]) ∧ Below w.heap.size w w' := by
  have HC := Lib.hid (fun w => is_any ak nk ck sec hn T w)
  have HB : Hid (Below w.heap.size w (w.alloc (.cells #[.slice ak nk ck, .int .i64 T] 24))) := (Below.refl _ _).alloc (Nat.le_refl _) _
  have HG : Hid ((w.alloc (.cells #[.slice ak nk ck, .int .i64 T] 24)).heap[w.heap.size]? = some (.cells #[.slice ak nk ck, .int .i64 T] 24 (0, 0))) := heap_alloc_last _ _
  by_cases h1 : okC sec T
  · rw [decide_eq_true h1] at HC
    by_cases h2 : 0 ≤ t ∧ t ≤ 1099511627776
    · have e2 := epE_ok h1 h2
      have e3 := epN_yes e2
      have e4 := epN_range e2
      unfold top at e4
      rw [e2, e3]
      have hT : 1 ≤ T ∧ T ≤ 1099511627776 := ((okC_iff sec T).1 h1).2
      obtain ⟨hT1, hT2⟩ := hT
      obtain ⟨h2a, h2b⟩ := h2
      have e5 : Int.tdiv t T = t / T := Int.tdiv_eq_ediv_of_nonneg h2a
      obtain ⟨q, hq⟩ : ∃ q, q = t / T := ⟨_, rfl⟩
      rw [← hq] at e4 e5 ⊢
      obtain ⟨e4a, e4b⟩ := e4
      clear hn e2 e3 h1 hq
      go_enter Tryd.func12, Tryd.ntmps12
      go_wp2_with fail
      generalize w.alloc (.cells #[.slice ak nk ck, .int .i64 T] 24) = w1 at HB HG ⊢
      refine (HC.out _).mono ?_
      rintro e w2 ⟨rfl, hb2⟩
      have HB2 := Lib.hid (HB.out.trans (hb2.mono HB.out.size))
      obtain ⟨k0, k1⟩ := cells2 (heap_below HG.out hb2)
      clear hb2
      go_wp2
      go_ret2
      exact ⟨rfl, HB2.out⟩
    · have e2 := epE_arg h1 h2
      have e3 : epN sec T t = 0 := epN_no (by rw [e2]; decide)
      rw [e2, e3]
      have hc : t < 0 ∨ (0 ≤ t ∧ 1099511627776 < t) := by omega
      clear hn e2 e3 h1 h2
      rcases hc with hc | ⟨hc, hc2⟩
      all_goals
        go_enter Tryd.func12, Tryd.ntmps12
        go_wp2_with fail
        generalize w.alloc (.cells #[.slice ak nk ck, .int .i64 T] 24) = w1 at HB HG ⊢
        refine (HC.out _).mono ?_
        rintro e w2 ⟨rfl, hb2⟩
        have HB2 := Lib.hid (HB.out.trans (hb2.mono HB.out.size))
        clear hb2
        go_wp2
        go_ret2
        exact ⟨rfl, HB2.out⟩
  · rw [decide_eq_false h1] at HC
    have e2 := epE_set (t := t) h1
    have e3 : epN sec T t = 0 := epN_no (by rw [e2]; decide)
    rw [e2, e3]
    clear hn e2 e3 h1
    go_enter Tryd.func12, Tryd.ntmps12
    go_wp2_with fail
    generalize w.alloc (.cells #[.slice ak nk ck, .int .i64 T] 24) = w1 at HB HG ⊢
    refine (HC.out _).mono ?_
    rintro e w2 ⟨rfl, hb2⟩
    have HB2 := Lib.hid (HB.out.trans (hb2.mono HB.out.size))
    clear hb2
    go_wp2
    go_ret2
    exact ⟨rfl, HB2.out⟩
end Go.Proofs.YtjlacialbfhjcaaDoor.Ck
