/-
  isIn, mayReserve, Check: which ranges may be.
-/
import Derived.Test.YtoemghinolekgaaDoorPlS
import Derived.Test.YtoemghinolekgaaDoorPlM
namespace Go.Proofs.YtoemghinolekgaaDoor.Pl
open Go.RowKit
open Go.Proofs.YtoemghinolekgaaDoor.Id (Tr Tr.refl Tr.gr Tr.only blk own_blk IR IR.cells IR.shape)
set_option linter.unusedVariables false
set_option linter.unusedSimpArgs false

/-- Places that rise, from low on, below z. -/
def resOk (z : Int) : Int → List Int → Bool
  | _, [] => true
  | low, p :: r => decide (low ≤ p ∧ p ≤ z - 1) && resOk z (p + 1) r
theorem resOk_iff {z : Int} : ∀ {low : Int} {l : List Int}, resOk z low l = true ↔ l.Pairwise (· < ·) ∧ ∀ p ∈ l, low ≤ p ∧ p < z
  | low, [] => by simp [resOk]
  | low, p :: r => by
    unfold resOk
    rw [Bool.and_eq_true, resOk_iff (low := p + 1) (l := r), decide_eq_true_eq, List.pairwise_cons]
    constructor
    · rintro ⟨h1, h2, h3⟩
      refine ⟨⟨fun q hq => by have := h3 q hq; omega, h2⟩, fun q hq => ?_⟩
      rcases List.mem_cons.1 hq with rfl | hq
      · omega
      · have := h3 q hq; omega
    · rintro ⟨⟨h1, h2⟩, h3⟩
      have hp := h3 p (by simp)
      exact ⟨by omega, h2, fun q hq => by have := h1 q hq; have := h3 q (by simp [hq]); omega⟩
def okB (b z : Int) (res : List Int) : Bool := decide (1 ≤ b ∧ b ≤ 4294967294) && (decide (0 ≤ z ∧ z ≤ 65536) && (decide (b + z - 1 ≤ 4294967294) && resOk z 0 res))
theorem okB_iff {b z : Int} {res : List Int} : okB b z res = true ↔ okR b z res := by
  unfold okB
  simp only [Bool.and_eq_true, decide_eq_true_eq]
  rw [resOk_iff]
  exact ⟨fun ⟨h1, h2, h3, h4, h5⟩ => ⟨h1, h2, by omega, h4, h5⟩, fun h => ⟨h.base, h.size, by have := h.last; omega, h.rise, h.isin⟩⟩
theorem resOk_step {z low : Int} {l : List Int} {i : Nat} (hi : i < l.length) : resOk z low (l.drop i) = (decide (low ≤ l[i] ∧ l[i] ≤ z - 1) && resOk z (l[i] + 1) (l.drop (i + 1))) := by
  rw [List.drop_eq_getElem_cons hi]; rfl
theorem isIn_any (n lo hi : Int) (w : World) :
    Calls Tryd.prog 31 #[.int .i64 n, .int .i64 lo, .int .i64 hi] w fun e w' => e = .returned (.bool (decide (lo ≤ n ∧ n ≤ hi))) ∧ w = w' := by
  by_cases h1 : lo ≤ n
  · by_cases h2 : n ≤ hi
    · rw [decide_eq_true (show lo ≤ n ∧ n ≤ hi from ⟨h1, h2⟩)]
      go_enter Tryd.func31, Tryd.ntmps31
      go_wp2
      go_ret
      exact ⟨rfl, rfl⟩
    · rw [decide_eq_false (show ¬ (lo ≤ n ∧ n ≤ hi) from fun h => h2 h.2)]
      go_enter Tryd.func31, Tryd.ntmps31
      go_wp2
      go_ret
      exact ⟨rfl, rfl⟩
  · rw [decide_eq_false (show ¬ (lo ≤ n ∧ n ≤ hi) from fun h => h1 h.1)]
    go_enter Tryd.func31, Tryd.ntmps31
    go_wp2
    go_ret
    exact ⟨rfl, rfl⟩
theorem mayReserve_any (z : Int) (hz : 0 ≤ z ∧ z ≤ 65536) {v : Value} {l : List Int} (w : World) (h : IR w v l) :
    Calls Tryd.prog 32 #[v, .int .i64 z] w fun e w' => e = .returned (.bool (resOk z 0 l)) ∧ w = w' := by
  obtain ⟨a, c, rfl, hc1, hc2⟩ := h.shape
  have HI := Lib.hid h
  obtain ⟨n, hn⟩ : ∃ n, n = l.length := ⟨_, rfl⟩
  have hn63 : (n : Int) ≤ 9223372036854775807 := by unfold maxLen at hc2; omega
  have HN := Lib.hid hn
  rw [← hn] at HI hc1 ⊢
  have x1 : wrap64 (z - 1) = z - 1 := wrap64_in (by omega) (by omega)
  clear h hc2 hn
  go_enter Tryd.func32, Tryd.ntmps32
  go_wp2_with fail
  go_loopw [5, 10] (fun sv iv wr => ∃ (i : Nat) (lo : Int), i ≤ n ∧ 0 ≤ lo ∧ iv = .int .i64 (i : Int) ∧ sv = .int .i64 lo ∧ w = wr ∧ Hid (resOk z 0 l = resOk z lo (l.drop i))) (fun _ iv _ => n - (intOf iv).toNat)
  case atStart => exact ⟨0, 0, Nat.zero_le _, Int.le_refl _, rfl, rfl, rfl, rfl⟩
  case round =>
    obtain ⟨i, lo, hin, hlo, rfl, rfl, rfl, HE⟩ := hrel
    by_cases hlt : i < n
    · have hil : i < l.length := by rw [← HN.out]; exact hlt
      have h0 := HI.out
      rw [HN.out] at h0
      obtain ⟨b, o, ea, _, hcel⟩ := IR.cells h0 (by omega)
      subst ea
      have hc := hcel i hil
      have hs := resOk_step (z := z) (low := lo) hil
      obtain ⟨x, hx⟩ : ∃ x, x = l[i] := ⟨_, rfl⟩
      rw [← hx] at hc hs
      have HS := Lib.hid hs
      have HT := Lib.hid (isIn_any x lo (z - 1) w)
      clear h0 hcel hx hs
      by_cases hd : lo ≤ x ∧ x ≤ z - 1
      · have hd2 : decide (lo ≤ x ∧ x ≤ z - 1) = true := decide_eq_true hd
        rw [hd2] at HT HS
        have x2 : wrap64 (x + 1) = x + 1 := wrap64_in (by omega) (by omega)
        have HE2 : Hid (resOk z 0 l = resOk z (x + 1) (l.drop (i + 1))) := by show _ = _; rw [HE.out, HS.out]; simp
        have hle : i + 1 ≤ n := by omega
        have hx0 : 0 ≤ x + 1 := by omega
        clear hd hd2 HS HE hlo
        go_wp2_with fail
        refine HT.out.mono ?_
        rintro e w' ⟨rfl, rfl⟩
        go_wp2_with fail
        go_roundw
        case rel =>
          first
            | exact ⟨i + 1, x + 1, hle, hx0, by go_num, rfl, trivial, HE2⟩
            | exact ⟨i + 1, x + 1, hle, hx0, by go_num, rfl, rfl, HE2⟩
            | exact ⟨i + 1, x + 1, hle, hx0, by go_num, by rw [x2], rfl, HE2⟩
            | exact ⟨i + 1, x + 1, hle, hx0, by go_num, by rw [x2], trivial, HE2⟩
            | (trace_state; fail)
            | ((repeat apply Exists.intro); exact ⟨⟨i + 1, x + 1, hle, hx0, by go_num, by first | rfl | rw [x2], rfl, HE2⟩, rfl⟩)
        case measure => simp [intOf]; omega
      · have hd2 : decide (lo ≤ x ∧ x ≤ z - 1) = false := decide_eq_false hd
        rw [hd2] at HT HS
        have HE2 : Hid (resOk z 0 l = false) := by show _ = _; rw [HE.out, HS.out]; rfl
        clear hd hd2 HS HE
        go_wp2_with fail
        refine HT.out.mono ?_
        rintro e w' ⟨rfl, rfl⟩
        go_wp2_with fail
        go_ret
        exact ⟨by rw [HE2.out]; rfl, rfl⟩
    · have HE2 : Hid (resOk z 0 l = true) := by show _ = _; rw [HE.out, List.drop_of_length_le (by have := HN.out; omega)]; rfl
      clear HE
      go_wp2_with fail
      go_ret
      exact ⟨by rw [HE2.out]; rfl, rfl⟩
/-- Check: which ranges may be. -/
theorem check_any (b z : Int) {v : Value} {l : List Int} (wb : -9223372036854775808 ≤ b ∧ b ≤ 9223372036854775807) (wz : -9223372036854775808 ≤ z ∧ z ≤ 9223372036854775807) (w : World) (h : IR w v l) :
    Calls Tryd.prog 12 #[.agg #[.int .i64 b, .int .i64 z, v]] w fun e w' => e = .returned (.int .i64 (if okB b z l = true then 0 else 120)) ∧ Below w.heap.size w w' := by
  obtain ⟨a, c, rfl, hc1, hc2⟩ := h.shape
  have HB : Hid (Below w.heap.size w (w.alloc (.cells #[.int .i64 b, .int .i64 z, .slice a l.length c] 24))) := (Below.refl _ _).alloc (Nat.le_refl _) _
  have HIR : Hid (IR (w.alloc (.cells #[.int .i64 b, .int .i64 z, .slice a l.length c] 24)) (.slice a l.length c) l) := Rd.below h HB.out
  have HI1 := Lib.hid (isIn_any b 1 4294967294 (w.alloc (.cells #[.int .i64 b, .int .i64 z, .slice a l.length c] 24)))
  have HI2 := Lib.hid (isIn_any z 0 65536 (w.alloc (.cells #[.int .i64 b, .int .i64 z, .slice a l.length c] 24)))
  unfold okB
  clear h hc1 hc2
  by_cases h1 : 1 ≤ b ∧ b ≤ 4294967294
  · rw [decide_eq_true h1] at HI1 ⊢
    by_cases h2 : 0 ≤ z ∧ z ≤ 65536
    · rw [decide_eq_true h2] at HI2 ⊢
      have x1 : wrap64 (b + z) = b + z := wrap64_in (by omega) (by omega)
      have x2 : wrap64 (b + z - 1) = b + z - 1 := wrap64_in (by omega) (by omega)
      by_cases h3 : b + z - 1 ≤ 4294967294
      · rw [decide_eq_true h3]
        have HM := Lib.hid (mayReserve_any z h2 _ HIR.out)
        cases hr : resOk z 0 l with
        | true =>
          rw [hr] at HM
          clear h1 h2 hr
          go_enter Tryd.func12, Tryd.ntmps12
          go_wp2_with fail
          refine HI1.out.mono ?_
          rintro e w' ⟨rfl, rfl⟩
          go_wp2_with fail
          refine HI2.out.mono ?_
          rintro e w' ⟨rfl, rfl⟩
          go_wp2_with fail
          refine HM.out.mono ?_
          rintro e w' ⟨rfl, rfl⟩
          go_wp2
          go_ret
          exact ⟨rfl, HB.out⟩
        | false =>
          rw [hr] at HM
          clear h1 h2 hr
          go_enter Tryd.func12, Tryd.ntmps12
          go_wp2_with fail
          refine HI1.out.mono ?_
          rintro e w' ⟨rfl, rfl⟩
          go_wp2_with fail
          refine HI2.out.mono ?_
          rintro e w' ⟨rfl, rfl⟩
          go_wp2_with fail
          refine HM.out.mono ?_
          rintro e w' ⟨rfl, rfl⟩
          go_wp2
          go_ret
          exact ⟨rfl, HB.out⟩
      · rw [decide_eq_false h3]
        clear h1 h2
        go_enter Tryd.func12, Tryd.ntmps12
        go_wp2_with fail
        refine HI1.out.mono ?_
        rintro e w' ⟨rfl, rfl⟩
        go_wp2_with fail
        refine HI2.out.mono ?_
        rintro e w' ⟨rfl, rfl⟩
        go_wp2
        go_ret
        exact ⟨rfl, HB.out⟩
    · rw [decide_eq_false h2] at HI2 ⊢
      clear h1 h2
      go_enter Tryd.func12, Tryd.ntmps12
      go_wp2_with fail
      refine HI1.out.mono ?_
      rintro e w' ⟨rfl, rfl⟩
      go_wp2_with fail
      refine HI2.out.mono ?_
      rintro e w' ⟨rfl, rfl⟩
      go_wp2
      go_ret
      exact ⟨rfl, HB.out⟩
  · rw [decide_eq_false h1] at HI1 ⊢
    clear h1
    go_enter Tryd.func12, Tryd.ntmps12
    go_wp2_with fail
    refine HI1.out.mono ?_
    rintro e w' ⟨rfl, rfl⟩
    go_wp2
    go_ret
    exact ⟨rfl, HB.out⟩
end Go.Proofs.YtoemghinolekgaaDoor.Pl
