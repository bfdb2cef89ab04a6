/-
  The document's Same, of two frames that are the same; the laws' cut.
-/
import Derived.Test.YtkalbchcgdnciaaEthH
namespace Go.Proofs.Ytkalbchcgdnciaa
open Go.RowKit
set_option linter.unusedVariables false
set_option linter.unusedSimpArgs false
/-- A whole array out of the middle of a block, under a guard that is met. -/
theorem wpList_load_mid_g {P : Program} {ops : Array Oper} {rest : List Oper} {op : Oper} {a : Act} {w : World} {Q : Exit → Act → World → Prop} (hw : Region.wanted op (yielded ops a.tmps) = true) (ty : TypeId) (x : Operand) (ho : op.op = .load ty x)
    (b o : Nat) (hx : a.eval x = .pointer (some ⟨b, o, none⟩)) (cs : List Value) (d : TypeDesc) (hc : w.rangeAt b o cs)
    (hu : P.underlying ty = some d) (hd : d.isRow = true) (hi : (P.info? ty).map (·.size) = some cs.length)
    (h : wpList P ops Q rest (a.put op.dst (.agg cs.toArray)) w) : wpList P ops Q (op :: rest) a w := by
  refine wpList_step fun K hK => ?_
  rw [if_pos hw]
  exact wp_load_mid ty x ho b o hx cs d hc hu hd hi (hK _ _ h)

set_option maxRecDepth 20000 in
set_option maxHeartbeats 1000000 in
theorem same_true (D S : List UInt8) (t : Int) (a b : Option Addr) (n c c' : Nat) (l : List UInt8) (hD : D.length = 6) (hS : S.length = 6) (hn : l.length = n) (w : World) (h : Bs w (.slice a n c) l) (h' : Bs w (.slice b n c') l) :
    Calls Try.prog 17 #[.agg (ethL D S t (.slice a n c)).toArray, .agg (ethL D S t (.slice b n c')).toArray] w fun e w' => e = .returned (.bool true) ∧ Below w.heap.size w w' := by
  have HN := Lib.hid hn
  have HD := Lib.hid hD
  have HS := Lib.hid hS
  have BA : Below w.heap.size w ((w.alloc (.cells (ethL D S t (.slice a n c)).toArray 26)).alloc (.cells (ethL D S t (.slice b n c')).toArray 26)) := ((Below.refl _ _).alloc (Nat.le_refl _) _).alloc (by simp) _
  have HG0 : Hid (((w.alloc (.cells (ethL D S t (.slice a n c)).toArray 26)).alloc (.cells (ethL D S t (.slice b n c')).toArray 26)).heap[w.heap.size]? = some (.cells (ethL D S t (.slice a n c)).toArray 26 (0, 0))) := by
    show _ = _
    rw [Below.heap_alloc _ _ _ (by simp), heap_alloc_last]
  have HG1 : Hid (((w.alloc (.cells (ethL D S t (.slice a n c)).toArray 26)).alloc (.cells (ethL D S t (.slice b n c')).toArray 26)).heap[w.heap.size + 1]? = some (.cells (ethL D S t (.slice b n c')).toArray 26 (0, 0))) := by
    show _ = _
    have := heap_alloc_last (w.alloc (.cells (ethL D S t (.slice a n c)).toArray 26)) (.cells (ethL D S t (.slice b n c')).toArray 26)
    rw [World.size_alloc] at this
    exact this
  have hqD : ∀ w', (binOp .eql 23 (.agg (D.map u8v).toArray) (.agg (D.map u8v).toArray)).run Try.prog w' = .ok (.bool true) w' := fun w' => by rw [eql23 D D hD hD w']; simp
  have hqS : ∀ w', (binOp .eql 23 (.agg (S.map u8v).toArray) (.agg (S.map u8v).toArray)).run Try.prog w' = .ok (.bool true) w' := fun w' => by rw [eql23 S S hS hS w']; simp
  have hc1 := run_string_of (P := Try.prog) 24 9 5 Try.underlying24 Try.underlying5 Try.underlying9 (h.below BA)
  have hc2 := run_string_of (P := Try.prog) 24 9 5 Try.underlying24 Try.underlying5 Try.underlying9 (h'.below BA)
  have RD0 := Lib.hid (range_D HD.out HG0.out)
  have RD1 := Lib.hid (range_D HD.out HG1.out)
  have RS0 := Lib.hid (range_S HD.out HG0.out)
  have RS1 := Lib.hid (range_S HD.out HG1.out)
  have SD := Lib.hid (size23l D HD.out)
  have SS := Lib.hid (size23l S HS.out)
  have c12 := cell12 hD hS HG0.out
  have d12 := cell12 hD hS HG1.out
  have c13 := cell13 hD hS HG0.out
  have d13 := cell13 hD hS HG1.out
  have h12 := ethL_12 t (.slice a n c) hD hS
  have i12 := ethL_12 t (.slice b n c') hD hS
  have h13 := ethL_13 t (.slice a n c) hD hS
  have i13 := ethL_13 t (.slice b n c') hD hS
  have HB := Lib.hid BA
  clear h h' BA hn hD hS
  go_enter Try.func17, Try.ntmps17
  go_wp2_with (first | (with_reducible refine wpList_load_mid rfl 23 (.tmp 5) rfl w.heap.size 0 rfl (D.map u8v) _ RD0.out under23 rfl SD.out ?_) | (with_reducible refine wpList_load_mid rfl 23 (.tmp 7) rfl (w.heap.size + 1) 0 rfl (D.map u8v) _ RD1.out under23 rfl SD.out ?_) | (with_reducible refine wpList_load_mid_g rfl 23 (.tmp 11) rfl w.heap.size 6 rfl (S.map u8v) _ RS0.out under23 rfl SS.out ?_) | (with_reducible refine wpList_load_mid_g rfl 23 (.tmp 13) rfl (w.heap.size + 1) 6 rfl (S.map u8v) _ RS1.out under23 rfl SS.out ?_))
  go_ret
  exact ⟨rfl, HB.out⟩

theorem cut_any (a : Option Addr) (n c : Nat) (w : World) (hn : n ≤ c) (hc : c ≤ maxLen):
    Calls Try.prog 9 #[.slice a n c] w fun e w' => e = .returned (.slice a (min n 1600) c) ∧ w = w' := by
  unfold maxLen at hc
  by_cases h : n ≤ 1600
  · have e : min n 1600 = n := by omega
    rw [e]
    go_enter Try.func9, Try.ntmps9
    go_wp2
    go_ret
    exact ⟨rfl, rfl⟩
  · have e : min n 1600 = 1600 := by omega
    rw [e]
    go_enter Try.func9, Try.ntmps9
    go_wp2
    go_ret
    exact ⟨rfl, rfl⟩
theorem cut_in {W : World} {a : Option Addr} {n c : Nat} {l : List UInt8} (hn : l.length = n) (b : Bs W (.slice a n c) l) :
    ∃ (m : Nat) (x : List UInt8), m ≤ 1600 ∧ x.length = m ∧ Bs W (.slice a m c) x ∧ ∀ w, Calls Try.prog 9 #[.slice a n c] w fun e w' => e = .returned (.slice a m c) ∧ w = w' := by
  obtain ⟨_, _, es, hc, hm⟩ := b.shape
  simp only [Value.slice.injEq] at es
  obtain ⟨rfl, _, rfl⟩ := es
  have u := b.upto hn (min n 1600) (by omega)
  have g : (l.take (min n 1600)).length = min n 1600 := by rw [List.length_take]; omega
  exact ⟨min n 1600, l.take (min n 1600), by omega, g, u, fun w => cut_any a n c w (by omega) hm⟩
end Go.Proofs.Ytkalbchcgdnciaa
