/-
  slices.Grow of no slice; slices.Concat of any rows of bytes.
-/
import Derived.Test.YtjlacialbfhjcaaDoorCkA
import Derived.Lib.AppendZerosOnto
import Derived.Lib.SliceRun
namespace Go.Proofs.YtjlacialbfhjcaaDoor.Ck
open Go.RowKit
set_option linter.unusedVariables false
set_option linter.unusedSimpArgs false

/-- What stands behind slices.Grow(nil, n): no bytes, of the call's own. -/
theorem grow_any (n : Nat) (w : World) (hn : n ≤ 1000000000) :
    Calls Tryd.prog 31 #[.slice none 0 0, .int .i64 n] w fun e w' => ∃ a c, e = .returned (.slice a 0 c) ∧ w'.ownsRow w.heap.size 5 1 (.slice a 0 c) 0 [] ∧ Below w.heap.size w w' := by
  obtain ⟨i0, hi, hz0, hz1, hz2⟩ := info_parts info5
  by_cases h0 : n = 0
  · subst h0
    go_enter Tryd.func31, Tryd.ntmps31
    go_wp2
    go_ret
    exact ⟨_, _, rfl, World.ownsRow_nil _ _ _ _, Below.refl _ _⟩
  · have hrz : ∀ ty, (Builtin.append_ #[22, 3] ty #[.slice none 0 0, .int .i64 (n : Int)]).run Tryd.prog w =
        .ok (.slice (some ⟨w.heap.size, 0, none⟩) n (grownCap w n 0 5)) (w.drew.alloc (.cells (([] : List Value).toArray ++ Builtin.zeroCells (Value.int .u8 0).cells n ++ Builtin.zeroCells (Value.int .u8 0).cells (grownCap w n 0 5 - n)) 5)) := fun ty => by
      have h := Lib.run_append_grow_zeros (P := Tryd.prog) w 22 3 ty 5 i0 (.int .u8 0) .i64 .i64 Tryd.underlying22 Tryd.underlying3 hi hz0 none 0 0 [] (run_firstCells_none (w := w.drew) i0.size 0 0 0) n (by omega) (by omega) (by omega) (by omega)
        (by rw [hz2]; omega) (growslice_fits (by omega) (by rw [hz2]; omega))
      simpa using h
    have hGn : n ≤ grownCap w n 0 5 := grownCap_ge w _ _ _
    have hG63 := grownCap_le_maxLen w n 0 5 (by unfold maxLen; omega)
    obtain ⟨G, hG⟩ : ∃ G, G = grownCap w n 0 5 := ⟨_, rfl⟩
    rw [← hG] at hrz hGn hG63
    obtain ⟨cs, hcs⟩ : ∃ cs, cs = ([] : List Value).toArray ++ Builtin.zeroCells (Value.int .u8 0).cells n ++ Builtin.zeroCells (Value.int .u8 0).cells (G - n) := ⟨_, rfl⟩
    have hsz : cs.size = G := by
      rw [hcs]
      simp [size_zeroCells, Value.cells]
      omega
    rw [← hcs] at hrz
    have HB : Hid (Below w.heap.size w (w.drew.alloc (.cells cs 5))) := Below.alloc (Gr.drew w) (show w.heap.size ≤ w.drew.heap.size from Nat.le_refl _) _
    have HO : Hid ((w.drew.alloc (.cells cs 5)).ownsRow w.heap.size 5 1 (.slice (some ⟨w.heap.size, 0, none⟩) 0 G) 0 []) :=
      ⟨rfl, .inr ⟨w.heap.size, G, cs, rfl, Nat.le_refl _, heap_alloc_last w.drew _, Nat.zero_le _, hG63, by omega, by simp⟩⟩
    have hg1 : 0 < n := by omega
    unfold maxLen at hG63
    clear hG hcs hsz h0
    go_enter Tryd.func31, Tryd.ntmps31
    go_wp2_with (at_builtin; refine Lib.wpList_append_run _ rfl _ _ _ _ rfl _ _ rfl rfl _ _ (hrz _) ?_)
    go_ret
    exact ⟨_, _, rfl, HO.out, HB.out⟩
/-- How many bytes the first k rows have. -/
def tot (ls : List (List UInt8)) (k : Nat) : Nat := (ls.take k).flatten.length
theorem flat_succ {ls : List (List UInt8)} {k : Nat} (h : k < ls.length) : (ls.take (k + 1)).flatten = (ls.take k).flatten ++ ls[k] := by
  rw [List.take_succ_eq_append_getElem h, List.flatten_append]; simp only [List.flatten_cons, List.flatten_nil, List.append_nil]
theorem tot_succ {ls : List (List UInt8)} {k : Nat} (h : k < ls.length) : tot ls (k + 1) = tot ls k + ls[k].length := by
  unfold tot; rw [flat_succ h, List.length_append]
theorem tot_le (ls : List (List UInt8)) (k : Nat) : tot ls k ≤ ls.flatten.length := by
  have h : ls.flatten = (ls.take k).flatten ++ (ls.drop k).flatten := by rw [← List.flatten_append, List.take_append_drop]
  unfold tot; rw [h, List.length_append]; omega
/-- Each of the slices in vs reads its row. -/
def RowsAt (w : World) (vs : List Value) (ls : List (List UInt8)) : Prop := vs.length = ls.length ∧ ∀ (i : Nat) (h : i < vs.length) (k : i < ls.length), Bs w vs[i] ls[i]
theorem RowsAt.below {w w' : World} {vs : List Value} {ls : List (List UInt8)} (h : RowsAt w vs ls) (hb : Below w.heap.size w w') : RowsAt w' vs ls := ⟨h.1, fun i a b => (h.2 i a b).below hb⟩
set_option maxHeartbeats 1000000 in
/-- slices.Concat. -/
theorem concat_any (ao : Option Addr) (n c : Nat) (vs : List Value) (ls : List (List UInt8)) (w : World) (hv : Rd w 1 (.slice ao n c) n vs) (hr : RowsAt w vs ls) (htot : ls.flatten.length ≤ 1000000) :
    Calls Tryd.prog 23 #[.slice ao n c] w fun e w' => ∃ a m, e = .returned (.slice a ls.flatten.length m) ∧ OwnB w' w.heap.size 5 (.slice a ls.flatten.length m) ls.flatten ∧ Below w.heap.size w w' := by
  obtain ⟨i0, hi, hz0, hz1, hz2⟩ := info_parts info5
  obtain ⟨_, _, es, hc, hm⟩ := hv.shape
  simp only [Value.slice.injEq] at es
  obtain ⟨rfl, _, rfl⟩ := es
  unfold maxLen at hm
  have hvl : vs.length = n := by have := hv.1; omega
  have hln : ls.length = n := by rw [← hr.1, hvl]
  -- the k-th row
  have hrow : ∀ k, k < n → ∃ b o A C, ao = some ⟨b, o, none⟩ ∧ ∃ hk : k < ls.length, w.cell? ⟨b, o + k, none⟩ = some (.slice A ls[k].length C) ∧ Bs w (.slice A ls[k].length C) ls[k] := by
    intro k hk
    obtain ⟨b, o, e, _, hcell⟩ := hv.cells (by omega) (by decide)
    have hb := hr.2 k (by omega) (by omega)
    obtain ⟨A, C, ev, _, _⟩ := hb.shape
    refine ⟨b, o, A, C, e, by omega, ?_, by rw [← ev]; exact hb⟩
    rw [hcell k _ (List.getElem?_eq_getElem (by omega)), ev]
  have HROW := Lib.hid hrow
  have HLN := Lib.hid hln
  have HTOT := Lib.hid htot
  have HTL := Lib.hid (tot_le ls)
  obtain ⟨s, hs⟩ : ∃ s, s = ls.flatten.length := ⟨_, rfl⟩
  have HSL : Hid (tot ls n = s) := by show _ = _; unfold tot; rw [List.take_of_length_le (by omega), hs]
  have hs1 : s ≤ 1000000 := by omega
  have HS := Lib.hid hs
  rw [← hs]
  clear hv hr htot hvl hln hrow hs
  go_enter Tryd.func23, Tryd.ntmps23
  go_wp2
  go_loopw [3, 11] (fun v3 i11 wr => ∃ k : Nat, k ≤ n ∧ i11 = .int .i64 (k : Int) ∧ v3 = .int .i64 (tot ls k : Nat) ∧ w = wr) (fun _ i11 _ => n - (intOf i11).toNat)
  case atStart => exact ⟨0, by omega, rfl, rfl, rfl⟩
  case round =>
    obtain ⟨k, hk, rfl, rfl, rfl⟩ := hrel
    by_cases hlt : k < n
    · obtain ⟨b, o, A, C, rfl, hkl, cc, _⟩ := HROW.out k hlt
      have e1 := tot_succ hkl
      have e2 := HTL.out (k + 1)
      have e3 := HTOT.out
      obtain ⟨L, hL⟩ : ∃ L, L = ls[k].length := ⟨_, rfl⟩
      rw [← hL] at e1 cc
      obtain ⟨S, hS⟩ : ∃ S, S = tot ls k := ⟨_, rfl⟩
      obtain ⟨S1, hS1⟩ : ∃ S1, S1 = tot ls (k + 1) := ⟨_, rfl⟩
      rw [← hS1] at e1 e2
      rw [← hS] at e1 ⊢
      have HS1 := Lib.hid hS1
      have e4 : S + L ≤ 1000000 := by omega
      have e5 : S1 = S + L := e1
      have H5 := Lib.hid e5
      clear e1 e2 e3 hS hS1 hL e5
      go_wp2
      go_roundw
      case rel => exact ⟨k + 1, by omega, by go_num, by rw [← HS1.out, H5.out]; go_num, trivial⟩
      case measure => simp [intOf]; omega
    · obtain rfl : n = k := by omega
      obtain ⟨S, hS⟩ : ∃ S, S = tot ls n := ⟨_, rfl⟩
      rw [← hS]
      have hSs : S = s := by rw [hS]; exact HSL.out
      subst hSs
      clear hS
      go_wp2_with fail
      refine (grow_any S _ (by omega)).mono ?_
      rintro e w1 ⟨a1, c1, rfl, ho1, hb1⟩
      have HI : Hid (w1.ownsRow w.heap.size 5 1 (.slice a1 (tot ls 0) c1) (tot ls 0) ((ls.take 0).flatten.map u8v) ∧ Below w.heap.size w w1) := ⟨ho1, hb1⟩
      clear ho1 hb1
      go_wp2
      go_loopw [6, 27] (fun v6 i27 wr => ∃ (k : Nat) (av : Option Addr) (cv : Nat), k ≤ n ∧ i27 = .int .i64 (k : Int) ∧ v6 = .slice av (tot ls k) cv ∧ Hid (wr.ownsRow w.heap.size 5 1 (.slice av (tot ls k) cv) (tot ls k) ((ls.take k).flatten.map u8v) ∧ Below w.heap.size w wr)) (fun _ i27 _ => n - (intOf i27).toNat)
      case atStart => exact ⟨0, a1, c1, by omega, rfl, rfl, HI⟩
      case round =>
        clear HI
        obtain ⟨k, av, cv, hk, rfl, rfl, HI⟩ := hrel
        by_cases hlt : k < n
        · obtain ⟨b, o, A, C, rfl, hkl, cc0, hb0⟩ := HROW.out k hlt
          have cc : wr.cell? ⟨b, o + k, none⟩ = some (.slice A ls[k].length C) := by
            rw [HI.out.2.cell (World.block_lt_of_cell? w _ cc0)]; exact cc0
          have P0 : Hid (Rd wr 1 (.slice A ls[k].length C) ls[k].length (ls[k].map u8v)) := hb0.below HI.out.2
          have O0 := Lib.hid HI.out.1
          have B0 := Lib.hid HI.out.2.size
          have e1 := tot_succ hkl
          have e2 := HTL.out (k + 1)
          have e3 := HTOT.out
          have C0 := Lib.hid (oneCell_u8 ls[k])
          have HF := Lib.hid (flat_succ hkl)
          have HBW := Lib.hid HI.out.2
          obtain ⟨S1, hS1⟩ : ∃ S1, S1 = tot ls (k + 1) := ⟨_, rfl⟩
          rw [← hS1] at e1 e2
          have HS1 := Lib.hid hS1
          have e4 : tot ls k + ls[k].length ≤ 1000000 := by omega
          have H4 := Lib.hid e4
          have H1 := Lib.hid e1
          clear e1 e2 e3 e4 cc0 hb0 hS1 HI
          go_wp2_with (at_builtin; refine wpList_append_rd _ rfl _ _ 22 rfl w.heap.size 5 i0 (.int .u8 0) 1 1 Tryd.underlying22 hi hz0 hz1 hz2 rfl (by decide) _ _ _ rfl O0.out _ _ _ rfl P0.out C0.out ?o3 (by decide) B0.out ?_)
          case o3 => have := H4.out; omega
          intro v7 w7 hown7 hb7
          have HI2 : Hid (w7.ownsRow w.heap.size 5 1 v7 (tot ls (k + 1)) ((ls.take (k + 1)).flatten.map u8v) ∧ Below w.heap.size w w7) := by
            rw [← HS1.out, H1.out, HF.out, List.map_append]
            refine ⟨?_, HBW.out.trans hb7⟩
            have := hown7
            simp only [List.map_flatten, List.map_take] at this ⊢
            exact this
          obtain ⟨a7, c7, hv7, _, _⟩ := (own_rd HI2.out.1).shape
          subst hv7
          clear hown7 hb7 O0 P0 C0 B0 cc
          go_wp2
          go_roundw
          case rel => exact ⟨k + 1, a7, c7, by omega, by go_num, rfl, HI2⟩
          case measure => simp [intOf]; omega
        · obtain rfl : n = k := by omega
          have HO : Hid (wr.ownsRow w.heap.size 5 1 (.slice av S cv) S (ls.flatten.map u8v)) := by
            have h := HI.out.1
            rw [HSL.out, List.take_of_length_le (by have := HLN.out; omega)] at h
            exact h
          have HB := Lib.hid HI.out.2
          rw [HSL.out]
          clear HI
          go_wp2
          go_ret
          refine ⟨_, _, rfl, ?_, HB.out⟩
          unfold OwnB
          rw [← HS.out]
          exact HO.out
end Go.Proofs.YtjlacialbfhjcaaDoor.Ck
