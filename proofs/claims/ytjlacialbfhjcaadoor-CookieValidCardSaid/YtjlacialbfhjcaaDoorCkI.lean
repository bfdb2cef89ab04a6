/-
  How the laws of cookies cut what comes in; their example.
-/
import Derived.Test.YtjlacialbfhjcaaDoorCkH
namespace Go.Proofs.YtjlacialbfhjcaaDoor.Ck
open Go.RowKit
set_option linter.unusedVariables false
set_option linter.unusedSimpArgs false

theorem cut_any (a : Option Addr) (n c : Nat) (w : World) (hn : n ≤ c) (hc : c ≤ maxLen):
    Calls Tryd.prog 8 #[.slice a n c] w fun e w' => e = .returned (.slice a (min n 1600) c) ∧ w = w' := by
  unfold maxLen at hc
  by_cases h : n ≤ 1600
  · have e : min n 1600 = n := by omega
    rw [e]
    go_enter Tryd.func8, Tryd.ntmps8
    go_wp2
    go_ret
    exact ⟨rfl, rfl⟩
  · have e : min n 1600 = 1600 := by omega
    rw [e]
    go_enter Tryd.func8, Tryd.ntmps8
    go_wp2
    go_ret
    exact ⟨rfl, rfl⟩
theorem cut_in {W : World} {a : Option Addr} {n c : Nat} {l : List UInt8} (hn : l.length = n) (b : Bs W (.slice a n c) l) :
    ∃ (m : Nat) (x : List UInt8), m ≤ 1600 ∧ x.length = m ∧ Bs W (.slice a m c) x ∧
      ∀ w, Calls Tryd.prog 8 #[.slice a n c] w fun e w' => e = .returned (.slice a m c) ∧ w = w' := by
  obtain ⟨_, _, es, hc, hm⟩ := b.shape
  simp only [Value.slice.injEq] at es
  obtain ⟨rfl, _, rfl⟩ := es
  have u := b.upto hn (min n 1600) (by omega)
  have g : (l.take (min n 1600)).length = min n 1600 := by rw [List.length_take]; omega
  exact ⟨min n 1600, l.take (min n 1600), by omega, g, u, fun w => cut_any a n c w (by omega) hm⟩
theorem light_any (ak : Option Addr) (nk ck m : Nat) (T : Int) (w : World) (hm : m = min nk 70) (hn : nk ≤ ck) (hc : ck ≤ maxLen) :
    Calls Tryd.prog 7 #[.agg #[.slice ak nk ck, .int .i64 T]] w fun e w' => e = .returned (.agg #[.slice ak m ck, .int .i64 T]) ∧ Below w.heap.size w w' := by
  unfold maxLen at hc
  have HB : Hid (Below w.heap.size w ((w.alloc (.cells #[.slice ak nk ck, .int .i64 T] 24)).alloc (.cells #[.slice none 0 0, .int .i64 0] 24))) := boxed_two _ _ _
  have HG0 : Hid (((w.alloc (.cells #[.slice ak nk ck, .int .i64 T] 24)).alloc (.cells #[.slice none 0 0, .int .i64 0] 24)).heap[w.heap.size]? = some (.cells #[.slice ak nk ck, .int .i64 T] 24 (0, 0))) := boxed_0 _ _ _
  have HG1 : Hid (((w.alloc (.cells #[.slice ak nk ck, .int .i64 T] 24)).alloc (.cells #[.slice none 0 0, .int .i64 0] 24)).heap[w.heap.size + 1]? = some (.cells #[.slice none 0 0, .int .i64 0] 24 (0, 0))) := boxed_1 _ _ _
  by_cases h : nk ≤ 70
  · obtain rfl : nk = m := by omega
    clear hm HB HG0 HG1
    go_enter Tryd.func7, Tryd.ntmps7
    go_wp2
    refine bodyPost_ret (v := .agg #[.slice ak nk ck, .int .i64 T]) (results_cell_row (P := Tryd.prog) (fn := Tryd.f7) rfl _ _ (w.heap.size + 1) 24 _ (0, 0) _ rfl (boxed_1 _ _ _) Tryd.underlying24 rfl (by kernel_rfl)) rfl ?_
    exact ⟨rfl, boxed_two _ _ _⟩
  · obtain rfl : m = 70 := by omega
    clear hm HB HG0 HG1
    go_enter Tryd.func7, Tryd.ntmps7
    go_wp2
    refine bodyPost_ret (v := .agg #[.slice ak 70 ck, .int .i64 T]) (results_cell_row (P := Tryd.prog) (fn := Tryd.f7) rfl _ _ (w.heap.size + 1) 24 _ (0, 0) _ rfl (boxed_1 _ _ _) Tryd.underlying24 rfl (by kernel_rfl)) rfl ?_
    exact ⟨rfl, boxed_two _ _ _⟩
theorem light_in {W : World} {ak : Option Addr} {nk ck : Nat} {l : List UInt8} (T : Int) (hn : l.length = nk) (b : Bs W (.slice ak nk ck) l) :
    ∃ (m : Nat) (x : List UInt8), m ≤ 70 ∧ x.length = m ∧ Bs W (.slice ak m ck) x ∧
      ∀ w, Calls Tryd.prog 7 #[.agg #[.slice ak nk ck, .int .i64 T]] w fun e w' => e = .returned (.agg #[.slice ak m ck, .int .i64 T]) ∧ Below w.heap.size w w' := by
  obtain ⟨_, _, es, hc, hm⟩ := b.shape
  simp only [Value.slice.injEq] at es
  obtain ⟨rfl, _, rfl⟩ := es
  have u := b.upto hn (min nk 70) (by omega)
  have g : (l.take (min nk 70)).length = min nk 70 := by rw [List.length_take]; omega
  exact ⟨min nk 70, l.take (min nk 70), by omega, g, u, fun w => light_any ak nk _ _ T w rfl (by omega) hm⟩
end Go.Proofs.YtjlacialbfhjcaaDoor.Ck
