/-
  The laws' number of an option.
-/
import Derived.Test.YtbldcjngccmhpaaNgR
namespace Go.Proofs.Ytbldcjngccmhpaa.Ng
open Go.RowKit O
set_option linter.unusedVariables false
set_option linter.unusedSimpArgs false
set_option maxRecDepth 20000 in
theorem lnumber_any (T : Int) (A : Option Addr) (L C : Nat) (l : List UInt8) (hL : l.length = L) (h4 : L ≤ 4) (w : World) (hb : Bs w (.slice A L C) l) :
    Calls Try.prog 20 #[.agg #[.int .i64 T, .slice A L C]] w fun e w' => e = .returned (.int .i64 (num (T, l))) ∧ Below w.heap.size w w' := by
  have HAL : Hid (Gr w (w.alloc (.cells #[.int .i64 T, .slice A L C] 42))) := (Gr.refl w).alloc _
  have HG0 : Hid ((w.alloc (.cells #[.int .i64 T, .slice A L C] 42)).heap[w.heap.size]? = some (.cells #[.int .i64 T, .slice A L C] 42)) := heap_alloc_last _ _
  have HLL := Lib.hid hL
  have HB := Lib.hid hb
  clear hb hL
  go_enter Try.func20, Try.ntmps20
  go_wp2
  go_loopw [3, 4] (fun nv iv wr => ∃ k m : Nat, k ≤ L ∧ m = takeN l k ∧ iv = .int .i64 k ∧ nv = .int .i64 (m : Nat) ∧ wr.heap[w.heap.size]? = some (.cells #[.int .i64 T, .slice A L C] 42) ∧ Gr w wr) (fun _ iv _ => L - (intOf iv).toNat)
  case atStart => exact ⟨0, 0, Nat.zero_le _, (takeN_zero l).symm, rfl, rfl, HG0.out, HAL.out⟩
  case round =>
    obtain ⟨k, m, hk, hm, rfl, rfl, hg, hgr⟩ := hrel
    have HG := Lib.hid hg
    have HGR := Lib.hid hgr
    obtain ⟨k0, k1⟩ := copy_cells hg
    clear hg hgr
    by_cases hlt : k < L
    · obtain ⟨b, o, rfl, hbl, hc⟩ := (HB.out.below HGR.out).cells (by rw [HLL.out]; omega)
      have hck := hc k (by rw [HLL.out]; exact hlt)
      have hm' : m < 4294967296 := by rw [hm]; exact Nat.lt_of_lt_of_le (takeN_pow l k (by rw [HLL.out]; omega)) (Nat.pow_le_pow_right (by decide) (show k ≤ 4 by omega))
      have hb8 := UInt8.toNat_lt (l[k]'(by rw [HLL.out]; exact hlt))
      have HST : Hid (takeN l (k + 1) = 256 * m + (l[k]'(by rw [HLL.out]; exact hlt)).toNat) := by
        show _ = _
        rw [takeN_succ l k (by rw [HLL.out]; exact hlt), hm, Nat.mul_comm]
      obtain ⟨B, hB⟩ : ∃ B, B = (l[k]'(by rw [HLL.out]; exact hlt)).toNat := ⟨_, rfl⟩
      rw [← hB] at hck hb8 HST
      have hkl : (k : Int) < (L : Int) := by omega
      clear hm hc hB
      go_wp2
      go_roundw
      case rel =>
        have hst := HST.out
        first | exact ⟨k + 1, 256 * m + B, by omega, hst.symm, by go_num, by go_num, HG.out, HGR.out⟩ | ((repeat apply Exists.intro); exact ⟨⟨k + 1, 256 * m + B, by omega, hst.symm, by go_num, by go_num, HG.out, HGR.out⟩, rfl⟩)
      case measure => simp [intOf]; omega
    · obtain rfl : k = L := by omega
      have HM : Hid (num (T, l) = (m : Int)) := by
        show _ = _
        unfold num
        rw [hm]
        show ((takeN l l.length : Nat) : Int) = _
        rw [HLL.out]
      clear hm
      go_wp2
      go_ret
      exact ⟨by rw [HM.out]; rfl, HGR.out⟩
/-- Does one of the first k rules take the option? -/
def fitTo (rs : List Ru) (o : PT) (k : Nat) : Bool := (rs.take k).any fun r => fits r o && takes r (num o)
theorem fitTo_zero (rs : List Ru) (o : PT) : fitTo rs o 0 = false := by unfold fitTo; rw [List.take_zero]; rfl
theorem fitTo_succ (rs : List Ru) (o : PT) (k : Nat) (h : k < rs.length) : fitTo rs o (k + 1) = (fitTo rs o k || (fits rs[k] o && takes rs[k] (num o))) := by
  unfold fitTo
  rw [List.take_succ_eq_append_getElem h, List.any_append]
  simp
theorem fitTo_all {rs : List Ru} {o : PT} {r : Ru} (h : r ∈ rs) (h1 : r.typ = o.1) (h2 : r.size = (o.2.length : Int)) (h3 : takes r (num o) = true) : fitTo rs o rs.length = true := by
  unfold fitTo
  rw [List.take_length, List.any_eq_true]
  exact ⟨r, h, by rw [h3, Bool.and_true]; exact decide_eq_true ⟨h1, h2⟩⟩
/-- Has one of the first k options the type, or need none have it? -/
def thereTo (r : Ru) (l : List PT) (k : Nat) : Bool := !r.must || hasT (l.take k) r.typ
theorem thereTo_zero (r : Ru) (l : List PT) : thereTo r l 0 = !r.must := by unfold thereTo; rw [List.take_zero]; simp [hasT]
theorem thereTo_succ (r : Ru) (l : List PT) (k : Nat) (h : k < l.length) : thereTo r l (k + 1) = (thereTo r l k || decide (l[k].1 = r.typ)) := by
  unfold thereTo hasT
  rw [List.take_succ_eq_append_getElem h, List.any_append, Bool.or_assoc]
  simp only [List.any_cons, List.any_nil, Bool.or_false]
end Go.Proofs.Ytbldcjngccmhpaa.Ng
