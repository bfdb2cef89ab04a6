/-
  The document's allocator in memory; its New; begin.
-/
import Derived.Test.YtpafcabcnkmadaaIdY
namespace Go.Proofs.Ytpafcabcnkmadaa.Id
open Go.RowKit
set_option linter.unusedVariables false
set_option linter.unusedSimpArgs false

/-- Pointer block g is the document's: three rows. -/
structure DAt (w : World) (g : Nat) (rv uv ev : Value) (S : Al) : Prop where
  row : w.heap[g]? = some (.cells #[.int .i64 S.low, .int .i64 S.high, .int .i64 S.quiet, rv, uv, ev] 75 (0, 0))
  r : IR w rv S.row
  u : IR w uv S.used
  e : RR w ev S.rest
/-- The blocks that it lies in. -/
def Fd (g : Nat) (rv uv ev : Value) : List Nat := g :: (blk rv ++ (blk uv ++ blk ev))
theorem cells6 {w : World} {g : Nat} {a b c d e f : Value} {t : TypeId} {fr : Nat × Nat} (h : w.heap[g]? = some (.cells #[a, b, c, d, e, f] t fr)) :
    w.cell? ⟨g, 0, none⟩ = some a ∧ w.cell? ⟨g, 1, none⟩ = some b ∧ w.cell? ⟨g, 2, none⟩ = some c ∧ w.cell? ⟨g, 3, none⟩ = some d ∧ w.cell? ⟨g, 4, none⟩ = some e ∧ w.cell? ⟨g, 5, none⟩ = some f :=
  ⟨by rw [cell_of_row w g _ _ _ _ h]; rfl, by rw [cell_of_row w g _ _ _ _ h]; rfl, by rw [cell_of_row w g _ _ _ _ h]; rfl, by rw [cell_of_row w g _ _ _ _ h]; rfl, by rw [cell_of_row w g _ _ _ _ h]; rfl, by rw [cell_of_row w g _ _ _ _ h]; rfl⟩
theorem builtD (lo hi q : Int) : Try.prog.built 75 [(0, .int .i64 lo), (1, .int .i64 hi), (2, .int .i64 q)] = some #[.int .i64 lo, .int .i64 hi, .int .i64 q, .slice none 0 0, .slice none 0 0, .slice none 0 0] := by kernel_rfl
theorem sizeSI : (Try.prog.info? 41).map (·.size) = some 1 := by kernel_rfl
theorem dnew_no (lo hi q : Int) (w : World) (hs : ¬ okSet lo hi q) :
    Calls Try.prog 23 #[.int .i64 lo, .int .i64 hi, .int .i64 q] w fun e w' => e = .returned (.tuple #[.pointer none, .int .i64 110]) ∧ w = w' := by
  by_cases h1 : lo < 1
  · clear hs
    go_enter Try.func23, Try.ntmps23
    go_wp2
    go_ret2
    exact ⟨rfl, rfl⟩
  by_cases h2 : 65534 < hi
  · clear hs
    go_enter Try.func23, Try.ntmps23
    go_wp2
    go_ret2
    exact ⟨rfl, rfl⟩
  by_cases h3 : hi < lo
  · clear hs
    go_enter Try.func23, Try.ntmps23
    go_wp2
    go_ret2
    exact ⟨rfl, rfl⟩
  by_cases h4 : q < 0
  · clear hs
    go_enter Try.func23, Try.ntmps23
    go_wp2
    go_ret2
    exact ⟨rfl, rfl⟩
  by_cases h5 : 1099511627776 < q
  · clear hs
    go_enter Try.func23, Try.ntmps23
    go_wp2
    go_ret2
    exact ⟨rfl, rfl⟩
  exact absurd ⟨by omega, by omega, by omega, by omega, by unfold topT; omega⟩ hs
set_option maxRecDepth 20000 in
set_option maxHeartbeats 4000000 in
theorem dnew_yes (lo hi q : Int) (w : World) (hs : okSet lo hi q) :
    Calls Try.prog 23 #[.int .i64 lo, .int .i64 hi, .int .i64 q] w fun e w' => ∃ g, e = .returned (.tuple #[.pointer (some ⟨g, 0, none⟩), .int .i64 0]) ∧ w.heap.size ≤ g ∧ ∃ rv, DAt w' g rv (.slice none 0 0) (.slice none 0 0) (born lo hi q) ∧ (∀ k ∈ Fd g rv (.slice none 0 0) (.slice none 0 0), w.heap.size ≤ k ∧ k < w'.heap.size) ∧ (∀ k ∈ blk rv, k ≠ g) ∧ Below w.heap.size w w' := by
  obtain ⟨i0, hi0, hz0, hz1, hz2⟩ := info_parts infoI
  obtain ⟨h1, h2, h3, h4, h5⟩ := hs
  unfold topT at h5
  have n1 : ¬ lo < 1 := by omega
  have n2 : ¬ 65534 < hi := by omega
  have n3 : ¬ hi < lo := by omega
  have n4 : ¬ q < 0 := by omega
  have n5 : ¬ 1099511627776 < q := by omega
  obtain ⟨N, hN⟩ : ∃ N : Nat, (N : Int) = hi - lo + 1 := ⟨(hi - lo + 1).toNat, by omega⟩
  have HLIM : Hid (1 ≤ lo ∧ hi ≤ 65534 ∧ N ≤ 65534 ∧ 0 < N ∧ (N : Int) = hi - lo + 1) := ⟨h1, h2, by omega, by omega, hN⟩
  have HR : Hid ((w.alloc (.cells #[.int .i64 lo, .int .i64 hi, .int .i64 q, .slice none 0 0, .slice none 0 0, .slice none 0 0] 75)).heap[w.heap.size]? = some (.cells #[.int .i64 lo, .int .i64 hi, .int .i64 q, .slice none 0 0, .slice none 0 0, .slice none 0 0] 75 (0, 0))) := heap_alloc_last _ _
  have HB : Hid (Below w.heap.size w (w.alloc (.cells #[.int .i64 lo, .int .i64 hi, .int .i64 q, .slice none 0 0, .slice none 0 0, .slice none 0 0] 75))) := (Below.refl _ _).alloc (Nat.le_refl _) _
  have hbu := builtD lo hi q
  clear h1 h2 h3 h4 h5 hN
  go_enter Try.func23, Try.ntmps23
  go_upto_region 4 with fail
  generalize w.alloc (.cells #[.int .i64 lo, .int .i64 hi, .int .i64 q, .slice none 0 0, .slice none 0 0, .slice none 0 0] 75) = w2 at HR HB ⊢
  obtain ⟨g, hg⟩ : ∃ g, g = w.heap.size := ⟨_, rfl⟩
  rw [← hg] at HR ⊢
  have HG := Lib.hid hg
  clear hg hbu n1 n2 n3 n4 n5
  go_wp2_with fail
  go_loopw [9] (fun iv wr => ∃ (i : Nat) (lv : Value), i ≤ N ∧ iv = .int .i64 (lo + (i : Int)) ∧ wr.heap[g]? = some (.cells #[.int .i64 lo, .int .i64 hi, .int .i64 q, lv, .slice none 0 0, .slice none 0 0] 75 (0, 0)) ∧ wr.ownsRow g 3 1 lv ((numbers lo hi).take i).length (ints ((numbers lo hi).take i)) ∧ Below g w wr) (fun iv _ => N + (lo - intOf iv).toNat + (N - (intOf iv - lo).toNat))
  case atStart => exact ⟨0, _, Nat.zero_le _, by simp, HR.out, World.ownsRow_nil _ _ _ _, by rw [HG.out]; exact HB.out⟩
  case round =>
    clear HR HB
    obtain ⟨i, lv, hin, rfl, hrow, how, hb⟩ := hrel
    have HROW := Lib.hid hrow
    have HOW := Lib.hid how
    have HB := Lib.hid hb
    clear hrow how hb
    by_cases hlt : i < N
    · have hle : lo + (i : Int) ≤ hi := by have := HLIM.out; omega
      have HTK : Hid ((numbers lo hi).take (i + 1) = (numbers lo hi).take i ++ [lo + (i : Int)]) := numbers_take_succ (by have := HLIM.out; omega)
      obtain ⟨L, hL⟩ : ∃ L, L = (numbers lo hi).take i := ⟨_, rfl⟩
      have hLl : L.length ≤ 65534 := by rw [hL, List.length_take]; have := HLIM.out; omega
      rw [← hL] at HOW HTK
      obtain ⟨M, hM⟩ : ∃ M, M = L.length := ⟨_, rfl⟩
      rw [← hM] at HOW hLl
      have HM := Lib.hid hM
      clear hL hM
      obtain ⟨al, cl, rfl, _, _⟩ := (own_rd HOW.out).shape
      have hgl : g < wr.heap.size := (Array.getElem?_eq_some_iff.1 HROW.out).1
      have HBY : Hid ((M + 1) * 8 ≤ 140737488355328) := by show _ ≤ _; omega
      have HMX : Hid (M + 1 ≤ maxLen) := by show _ ≤ _; unfold maxLen; omega
      have hba : Below wr.heap.size wr (wr.alloc (.cells #[.int .i64 (lo + (i : Int))] 3)) := (Below.refl _ _).alloc (Nat.le_refl _) _
      have HLO : Hid (g ≤ (wr.alloc (.cells #[.int .i64 (lo + (i : Int))] 3)).heap.size) := by show _ ≤ _; exact Nat.le_trans (Nat.le_of_lt hgl) (Below.size hba)
      have HOWA := Lib.hid (ownsRow_below HOW.out hba)
      have HROWA := Lib.hid (heap_below HROW.out hba)
      have HBA : Hid (Below g w (wr.alloc (.cells #[.int .i64 (lo + (i : Int))] 3))) := HB.out.trans (Below.mono hba (Nat.le_of_lt hgl))
      obtain ⟨k0, k1, k2, k3, k4, k5⟩ := cells6 HROW.out
      have hlob : 1 ≤ lo ∧ lo + (i : Int) ≤ 65534 := by have := HLIM.out; omega
      clear hba hLl
      go_wp2_with (refine wpList_append_own _ rfl (.tmp 44) (.tmp 46) 41 rfl g 3 i0 _ 1 8 Try.underlying41 hi0 hz0 hz1 hz2 rfl (by decide) _ _ _ rfl HOWA.out ⟨wr.heap.size, 0, none⟩ 1 1 [.int .i64 (lo + (i : Int))] rfl rfl (cells_new wr [.int .i64 (lo + (i : Int))] 3) (one_int _) HMX.out HBY.out HLO.out ?_)
      intro v' w5 ho5 hg5 _
      have HROW5 : Hid (w5.heap[g]? = some (.cells #[.int .i64 lo, .int .i64 hi, .int .i64 q, .slice al M cl, .slice none 0 0, .slice none 0 0] 75 (0, 0))) := grown_heap HOWA.out hg5 HROWA.out (by decide)
      have HB5 : Hid (Below g w w5) := HBA.out.trans (grown_below HOWA.out HLO.out hg5)
      have HO5 : Hid (w5.ownsRow g 3 1 v' (L ++ [lo + (i : Int)]).length (ints (L ++ [lo + (i : Int)]))) := by
        show w5.ownsRow _ _ _ _ _ _
        rw [List.length_append, ← HM.out, ints_append]
        exact ho5
      clear ho5 hg5 HOWA HROWA HBA k0 k1 k2 k3 k4 k5
      obtain ⟨al5, cl5, e5, _, _⟩ := (own_rd HO5.out).shape
      subst e5
      obtain ⟨k0, k1, k2, k3, k4, k5⟩ := cells6 HROW5.out
      go_wp2_with (refine wpList_store_cell rfl 41 (.tmp 49) (.tmp 47) rfl g 3 (.slice al5 (L ++ [lo + (i : Int)]).length cl5) rfl rfl 75 [.int .i64 lo, .int .i64 hi, .int .i64 q, .slice al M cl, .slice none 0 0, .slice none 0 0] HROW5.out sizeSI (by simp) rfl ?_)
      intro w6 h6 ho6
      have HROW6 : Hid (w6.heap[g]? = some (.cells #[.int .i64 lo, .int .i64 hi, .int .i64 q, .slice al5 (L ++ [lo + (i : Int)]).length cl5, .slice none 0 0, .slice none 0 0] 75 (0, 0))) := by
        show _ = _
        first
          | exact h6
          | simpa using h6
      have HO6 : Hid (w6.ownsRow g 3 1 (.slice al5 (L ++ [lo + (i : Int)]).length cl5) ((numbers lo hi).take (i + 1)).length (ints ((numbers lo hi).take (i + 1)))) := by
        show w6.ownsRow _ _ _ _ _ _
        rw [HTK.out]
        exact own_keep HO5.out fun k hk => ho6.heap k (own_blk_lt HO5.out hk) (blk_ne_g HO5.out HROW5.out (by decide) k hk)
      have HB6 : Hid (Below g w w6) := ho6.below _ _ (Nat.le_refl _) HB5.out
      clear h6 ho6 k0 k1 k2 k3 k4 k5
      go_wp2_with fail
      go_roundw
      case rel =>
        have hle2 : i + 1 ≤ N := by omega
        have e3 : lo + (i : Int) + 1 = lo + ((i + 1 : Nat) : Int) := by omega
        first
          | exact ⟨i + 1, _, hle2, by rw [← e3], HROW6.out, HO6.out, HB6.out⟩
          | ((repeat apply Exists.intro); exact ⟨⟨i + 1, _, hle2, by rw [← e3], HROW6.out, HO6.out, HB6.out⟩, rfl⟩)
      case measure => simp [intOf]; omega
    · have hgt : ¬ lo + (i : Int) ≤ hi := by have := HLIM.out; omega
      have HE : Hid ((numbers lo hi).take i = numbers lo hi) := by show _ = _; rw [List.take_of_length_le]; rw [numbers_length]; have := HLIM.out; omega
      rw [HE.out] at HOW
      go_wp2
      go_ret2
      have hgl : g < wr.heap.size := (Array.getElem?_eq_some_iff.1 HROW.out).1
      refine ⟨g, rfl, Nat.le_of_eq HG.out.symm, lv, ⟨HROW.out, own_rd HOW.out, IR.nil _, RR.nil _⟩, fun k hk => ?_, fun k hk => blk_ne_g HOW.out HROW.out (by decide) k hk, by rw [← HG.out]; exact HB.out⟩
      simp only [Fd, List.mem_cons, List.mem_append] at hk
      rcases hk with hk | hk | hk | hk
      · rw [hk, ← HG.out]; exact ⟨Nat.le_refl _, hgl⟩
      · have := own_blk HOW.out k hk; rw [← HG.out]; exact this
      · cases hk
      · cases hk
end Go.Proofs.Ytpafcabcnkmadaa.Id
