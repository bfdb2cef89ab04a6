/-
  The document's Are, rule, has, number, good.
-/
import Derived.Test.YtbldcjngccmhpaaNgQ
import Derived.Test.YtbldcjngccmhpaaNgD
import Derived.Test.YtbldcjngccmhpaaRPut
namespace Go.Proofs.Ytbldcjngccmhpaa.Ng
open Go.RowKit O
set_option linter.unusedVariables false
set_option linter.unusedSimpArgs false
theorem cellB' {B b o : Nat} {w w' : World} {v : Value} (hb : Below B w w') (h : b < B) (hc : w.cell? ⟨b, o, none⟩ = some v) : w'.cell? ⟨b, o, none⟩ = some v := by
  rw [World.cell?_of_block (w := w) (hb.block b h)]; exact hc

set_option maxRecDepth 20000 in
set_option maxHeartbeats 4000000 in
theorem are_any (ao : Option Addr) (n c : Nat) (rs : List Ru) (w : World) (hr : RR w (.slice ao n c) n rs) :
    Calls Try.prog 15 #[.slice ao n c] w fun e w' => e = .returned (.bool (decide (areR rs))) ∧ Below w.heap.size w w' := by
  have hl := hr.len
  have HR := Lib.hid hr
  clear hr
  by_cases h16 : n ≤ 16
  · go_enter Try.func15, Try.ntmps15
    go_wp2
    go_loopw [3, 4] (fun iv kv wr => ∃ (i : Nat) (lv : Value), i ≤ n ∧ iv = .int .i64 (i : Int) ∧ lv = kv ∧ okTo rs i ∧ Below w.heap.size w wr) (fun iv _ _ => n - (intOf iv).toNat)
    case atStart => exact ⟨0, _, Nat.zero_le _, rfl, rfl, fun j hj h => by omega, Below.refl _ _⟩
    case round =>
      obtain ⟨i, lv, hi, rfl, rfl, hok, hb⟩ := hrel
      have HOK := Lib.hid hok
      have HB := Lib.hid hb
      have HBN := Lib.hid hb.size
      clear hok hb
      by_cases hlt : i < n
      · obtain ⟨b, o, rfl, hbl, hc⟩ := HR.out.cells (by omega)
        have HCC := Lib.hid hc
        obtain ⟨wA, hwA⟩ : ∃ x, x = wr := ⟨_, rfl⟩
        subst hwA
        obtain ⟨r, hr⟩ : ∃ r, r = rs[i] := ⟨_, rfl⟩
        have hcw : ∀ w', Below w.heap.size w w' → _ := fun w' hb => And.intro (cellB' hb hbl (hc i (by omega)).1) (And.intro (cellB' hb hbl (hc i (by omega)).2.1) (And.intro (cellB' hb hbl (hc i (by omega)).2.2.1) (And.intro (cellB' hb hbl (hc i (by omega)).2.2.2.1) (And.intro (cellB' hb hbl (hc i (by omega)).2.2.2.2.1) (And.intro (cellB' hb hbl (hc i (by omega)).2.2.2.2.2.1) (cellB' hb hbl (hc i (by omega)).2.2.2.2.2.2))))))
        rw [← hr] at hcw
        have HCW := Lib.hid hcw
        obtain ⟨c0, c1, c2, c3, c4, c5, c6⟩ := hcw wA HB.out
        have HRK := Lib.hid hr
        have IS := Lib.hid (ris_any r wA)
        have hin : (i : Int) < (n : Int) := by omega
        clear hr hc hcw
        by_cases his : isR r
        · rw [decide_eq_true his] at IS
          have HIS := Lib.hid his
          clear his
          go_wp2_with fail
          refine IS.out.mono ?_
          rintro e w2 ⟨rfl, hb2⟩
          have HB2 := Lib.hid (HB.out.trans (hb2.mono HBN.out))
          clear hb2 c0 c1 c2 c3 c4 c5 c6 IS
          go_wp2
          go_loopw [4] (fun kv wr => ∃ k : Nat, k ≤ i ∧ kv = .int .i64 (k : Int) ∧ (∀ j (hj : j < k) (h2 : j < rs.length), rs[j].typ ≠ r.typ) ∧ Below w.heap.size w wr) (fun kv _ => i - (intOf kv).toNat)
          case atStart => exact ⟨0, Nat.zero_le _, rfl, fun j hj => by omega, HB2.out⟩
          case round =>
            obtain ⟨k, hk, rfl, hne, hb3⟩ := hrel
            have HNE := Lib.hid hne
            have HB3 := Lib.hid hb3
            clear hne hb3
            by_cases hlt2 : k < i
            · have HK0 := Lib.hid (HCC.out k (by omega)).1
              have HI0 := Lib.hid (HCW.out w (Below.refl _ _)).1
              obtain ⟨T, hT⟩ : ∃ T, T = rs[k].typ := ⟨_, rfl⟩
              rw [← hT] at HK0
              have HTT := Lib.hid hT
              have hkn : k < n := by omega
              have hkn2 : (k : Int) < (n : Int) := by omega
              have hki : (k : Int) < (i : Int) := by omega
              clear hT
              by_cases ht : T = r.typ
              · have HN : Hid (¬ areR rs) := fun h => by
                  have := (((areR_iff rs).1 h).2 i (by omega) (by omega)).2 k hlt2
                  exact this (by rw [← HTT.out, ← HRK.out, ht])
                have hte : (T == r.typ) = true := by simpa using ht
                clear ht
                go_upto_region 11 with fail
                refine wp_region_G 11 Gr (by kernel_rfl) ?_
                -- 0: slot 25
                refine wpG_take preGr (i := 0) (v := ?_) (by kernel_rfl) (some 25) (by kernel_rfl) rfl (by kernel_rfl) (by kernel_rfl) (by kernel_rfl) (fun _ _ _ h => h) (by rfl) (fun w' hw' => ?_) rfl ?_
                rotate_left
                · try have g0 := cellB' (HB3.out.drew.trans (hw'.mono HB3.out.size)) hbl HK0.out
                  try have g1 := cellB' (HB3.out.drew.trans (hw'.mono HB3.out.size)) hbl HI0.out
                  go_simp
                  with_reducible rfl
                simp only [Act.put, List.setIfInBounds_toArray, List.set_cons_zero, List.set_cons_succ]
                -- 1: slot 26
                refine wpG_take preGr (i := 1) (v := ?_) (by kernel_rfl) (some 26) (by kernel_rfl) rfl (by kernel_rfl) (by kernel_rfl) (by kernel_rfl) (fun _ _ _ h => h) (by rfl) (fun w' hw' => ?_) rfl ?_
                rotate_left
                · try have g0 := cellB' (HB3.out.drew.trans (hw'.mono HB3.out.size)) hbl HK0.out
                  try have g1 := cellB' (HB3.out.drew.trans (hw'.mono HB3.out.size)) hbl HI0.out
                  go_simp
                  with_reducible rfl
                simp only [Act.put, List.setIfInBounds_toArray, List.set_cons_zero, List.set_cons_succ]
                -- 2: slot 27
                refine wpG_take preGr (i := 2) (v := ?_) (by kernel_rfl) (some 27) (by kernel_rfl) rfl (by kernel_rfl) (by kernel_rfl) (by kernel_rfl) (fun _ _ _ h => h) (by rfl) (fun w' hw' => ?_) rfl ?_
                rotate_left
                · try have g0 := cellB' (HB3.out.drew.trans (hw'.mono HB3.out.size)) hbl HK0.out
                  try have g1 := cellB' (HB3.out.drew.trans (hw'.mono HB3.out.size)) hbl HI0.out
                  go_simp
                  with_reducible rfl
                simp only [Act.put, List.setIfInBounds_toArray, List.set_cons_zero, List.set_cons_succ]
                -- 3: slot 28
                refine wpG_take preGr (i := 3) (v := ?_) (by kernel_rfl) (some 28) (by kernel_rfl) rfl (by kernel_rfl) (by kernel_rfl) (by kernel_rfl) (fun _ _ _ h => h) (by rfl) (fun w' hw' => ?_) rfl ?_
                rotate_left
                · try have g0 := cellB' (HB3.out.drew.trans (hw'.mono HB3.out.size)) hbl HK0.out
                  try have g1 := cellB' (HB3.out.drew.trans (hw'.mono HB3.out.size)) hbl HI0.out
                  go_simp
                  with_reducible rfl
                simp only [Act.put, List.setIfInBounds_toArray, List.set_cons_zero, List.set_cons_succ]
                -- 4: slot 29
                refine wpG_take preGr (i := 4) (v := ?_) (by kernel_rfl) (some 29) (by kernel_rfl) rfl (by kernel_rfl) (by kernel_rfl) (by kernel_rfl) (fun _ _ _ h => h) (by rfl) (fun w' hw' => ?_) rfl ?_
                rotate_left
                · try have g0 := cellB' (HB3.out.drew.trans (hw'.mono HB3.out.size)) hbl HK0.out
                  try have g1 := cellB' (HB3.out.drew.trans (hw'.mono HB3.out.size)) hbl HI0.out
                  go_simp
                  with_reducible rfl
                simp only [Act.put, List.setIfInBounds_toArray, List.set_cons_zero, List.set_cons_succ]
                -- 5: slot 30
                refine wpG_take preGr (i := 5) (v := ?_) (by kernel_rfl) (some 30) (by kernel_rfl) rfl (by kernel_rfl) (by kernel_rfl) (by kernel_rfl) (fun _ _ _ h => h) (by rfl) (fun w' hw' => ?_) rfl ?_
                rotate_left
                · try have g0 := cellB' (HB3.out.drew.trans (hw'.mono HB3.out.size)) hbl HK0.out
                  try have g1 := cellB' (HB3.out.drew.trans (hw'.mono HB3.out.size)) hbl HI0.out
                  go_simp
                  with_reducible rfl
                simp only [Act.put, List.setIfInBounds_toArray, List.set_cons_zero, List.set_cons_succ]
                -- 6: slot 31
                refine wpG_take preGr (i := 6) (v := ?_) (by kernel_rfl) (some 31) (by kernel_rfl) rfl (by kernel_rfl) (by kernel_rfl) (by kernel_rfl) (fun _ _ _ h => h) (by rfl) (fun w' hw' => ?_) rfl ?_
                rotate_left
                · try have g0 := cellB' (HB3.out.drew.trans (hw'.mono HB3.out.size)) hbl HK0.out
                  try have g1 := cellB' (HB3.out.drew.trans (hw'.mono HB3.out.size)) hbl HI0.out
                  go_simp
                  with_reducible rfl
                simp only [Act.put, List.setIfInBounds_toArray, List.set_cons_zero, List.set_cons_succ]
                -- 7: slot 32
                refine wpG_take preGr (i := 7) (v := ?_) (by kernel_rfl) (some 32) (by kernel_rfl) rfl (by kernel_rfl) (by kernel_rfl) (by kernel_rfl) (fun _ _ _ h => h) (by rfl) (fun w' hw' => ?_) rfl ?_
                rotate_left
                · try have g0 := cellB' (HB3.out.drew.trans (hw'.mono HB3.out.size)) hbl HK0.out
                  try have g1 := cellB' (HB3.out.drew.trans (hw'.mono HB3.out.size)) hbl HI0.out
                  go_simp
                  with_reducible rfl
                simp only [Act.put, List.setIfInBounds_toArray, List.set_cons_zero, List.set_cons_succ]
                -- 8: slot 33
                refine wpG_take preGr (i := 8) (v := ?_) (by kernel_rfl) (some 33) (by kernel_rfl) rfl (by kernel_rfl) (by kernel_rfl) (by kernel_rfl) (fun _ _ _ h => h) (by rfl) (fun w' hw' => ?_) rfl ?_
                rotate_left
                · try have g0 := cellB' (HB3.out.drew.trans (hw'.mono HB3.out.size)) hbl HK0.out
                  try have g1 := cellB' (HB3.out.drew.trans (hw'.mono HB3.out.size)) hbl HI0.out
                  go_simp
                  with_reducible rfl
                simp only [Act.put, List.setIfInBounds_toArray, List.set_cons_zero, List.set_cons_succ]
                -- 9: slot 34
                refine wpG_take preGr (i := 9) (v := ?_) (by kernel_rfl) (some 34) (by kernel_rfl) rfl (by kernel_rfl) (by kernel_rfl) (by kernel_rfl) (fun _ _ _ h => h) (by rfl) (fun w' hw' => ?_) rfl ?_
                rotate_left
                · try have g0 := cellB' (HB3.out.drew.trans (hw'.mono HB3.out.size)) hbl HK0.out
                  try have g1 := cellB' (HB3.out.drew.trans (hw'.mono HB3.out.size)) hbl HI0.out
                  go_simp
                  with_reducible rfl
                simp only [Act.put, List.setIfInBounds_toArray, List.set_cons_zero, List.set_cons_succ]
                -- 10: slot 35
                refine wpG_take preGr (i := 10) (v := ?_) (by kernel_rfl) (some 35) (by kernel_rfl) rfl (by kernel_rfl) (by kernel_rfl) (by kernel_rfl) (fun _ _ _ h => h) (by rfl) (fun w' hw' => ?_) rfl ?_
                rotate_left
                · try have g0 := cellB' (HB3.out.drew.trans (hw'.mono HB3.out.size)) hbl HK0.out
                  try have g1 := cellB' (HB3.out.drew.trans (hw'.mono HB3.out.size)) hbl HI0.out
                  go_simp
                  with_reducible rfl
                simp only [Act.put, List.setIfInBounds_toArray, List.set_cons_zero, List.set_cons_succ]
                refine wpG_done (by kernel_rfl) ?_ _
                go_wp2
                go_ret
                exact ⟨by rw [decide_eq_false HN.out]; rfl, HB3.out.drew⟩
              · have htf : (T == r.typ) = false := by simpa using ht
                have HT := Lib.hid ht
                clear ht
                go_upto_region 11 with fail
                refine wp_region_G 11 Gr (by kernel_rfl) ?_
                -- 0: slot 25
                refine wpG_take preGr (i := 0) (v := ?_) (by kernel_rfl) (some 25) (by kernel_rfl) rfl (by kernel_rfl) (by kernel_rfl) (by kernel_rfl) (fun _ _ _ h => h) (by rfl) (fun w' hw' => ?_) rfl ?_
                rotate_left
                · try have g0 := cellB' (HB3.out.drew.trans (hw'.mono HB3.out.size)) hbl HK0.out
                  try have g1 := cellB' (HB3.out.drew.trans (hw'.mono HB3.out.size)) hbl HI0.out
                  go_simp
                  with_reducible rfl
                simp only [Act.put, List.setIfInBounds_toArray, List.set_cons_zero, List.set_cons_succ]
                -- 1: slot 26
                refine wpG_take preGr (i := 1) (v := ?_) (by kernel_rfl) (some 26) (by kernel_rfl) rfl (by kernel_rfl) (by kernel_rfl) (by kernel_rfl) (fun _ _ _ h => h) (by rfl) (fun w' hw' => ?_) rfl ?_
                rotate_left
                · try have g0 := cellB' (HB3.out.drew.trans (hw'.mono HB3.out.size)) hbl HK0.out
                  try have g1 := cellB' (HB3.out.drew.trans (hw'.mono HB3.out.size)) hbl HI0.out
                  go_simp
                  with_reducible rfl
                simp only [Act.put, List.setIfInBounds_toArray, List.set_cons_zero, List.set_cons_succ]
                -- 2: slot 27
                refine wpG_take preGr (i := 2) (v := ?_) (by kernel_rfl) (some 27) (by kernel_rfl) rfl (by kernel_rfl) (by kernel_rfl) (by kernel_rfl) (fun _ _ _ h => h) (by rfl) (fun w' hw' => ?_) rfl ?_
                rotate_left
                · try have g0 := cellB' (HB3.out.drew.trans (hw'.mono HB3.out.size)) hbl HK0.out
                  try have g1 := cellB' (HB3.out.drew.trans (hw'.mono HB3.out.size)) hbl HI0.out
                  go_simp
                  with_reducible rfl
                simp only [Act.put, List.setIfInBounds_toArray, List.set_cons_zero, List.set_cons_succ]
                -- 3: slot 28
                refine wpG_take preGr (i := 3) (v := ?_) (by kernel_rfl) (some 28) (by kernel_rfl) rfl (by kernel_rfl) (by kernel_rfl) (by kernel_rfl) (fun _ _ _ h => h) (by rfl) (fun w' hw' => ?_) rfl ?_
                rotate_left
                · try have g0 := cellB' (HB3.out.drew.trans (hw'.mono HB3.out.size)) hbl HK0.out
                  try have g1 := cellB' (HB3.out.drew.trans (hw'.mono HB3.out.size)) hbl HI0.out
                  go_simp
                  with_reducible rfl
                simp only [Act.put, List.setIfInBounds_toArray, List.set_cons_zero, List.set_cons_succ]
                -- 4: slot 29
                refine wpG_take preGr (i := 4) (v := ?_) (by kernel_rfl) (some 29) (by kernel_rfl) rfl (by kernel_rfl) (by kernel_rfl) (by kernel_rfl) (fun _ _ _ h => h) (by rfl) (fun w' hw' => ?_) rfl ?_
                rotate_left
                · try have g0 := cellB' (HB3.out.drew.trans (hw'.mono HB3.out.size)) hbl HK0.out
                  try have g1 := cellB' (HB3.out.drew.trans (hw'.mono HB3.out.size)) hbl HI0.out
                  go_simp
                  with_reducible rfl
                simp only [Act.put, List.setIfInBounds_toArray, List.set_cons_zero, List.set_cons_succ]
                -- 5: slot 30
                refine wpG_take preGr (i := 5) (v := ?_) (by kernel_rfl) (some 30) (by kernel_rfl) rfl (by kernel_rfl) (by kernel_rfl) (by kernel_rfl) (fun _ _ _ h => h) (by rfl) (fun w' hw' => ?_) rfl ?_
                rotate_left
                · try have g0 := cellB' (HB3.out.drew.trans (hw'.mono HB3.out.size)) hbl HK0.out
                  try have g1 := cellB' (HB3.out.drew.trans (hw'.mono HB3.out.size)) hbl HI0.out
                  go_simp
                  with_reducible rfl
                simp only [Act.put, List.setIfInBounds_toArray, List.set_cons_zero, List.set_cons_succ]
                -- 6: slot 31
                refine wpG_take preGr (i := 6) (v := ?_) (by kernel_rfl) (some 31) (by kernel_rfl) rfl (by kernel_rfl) (by kernel_rfl) (by kernel_rfl) (fun _ _ _ h => h) (by rfl) (fun w' hw' => ?_) rfl ?_
                rotate_left
                · try have g0 := cellB' (HB3.out.drew.trans (hw'.mono HB3.out.size)) hbl HK0.out
                  try have g1 := cellB' (HB3.out.drew.trans (hw'.mono HB3.out.size)) hbl HI0.out
                  go_simp
                  with_reducible rfl
                simp only [Act.put, List.setIfInBounds_toArray, List.set_cons_zero, List.set_cons_succ]
                -- 7: slot 32
                refine wpG_take preGr (i := 7) (v := ?_) (by kernel_rfl) (some 32) (by kernel_rfl) rfl (by kernel_rfl) (by kernel_rfl) (by kernel_rfl) (fun _ _ _ h => h) (by rfl) (fun w' hw' => ?_) rfl ?_
                rotate_left
                · try have g0 := cellB' (HB3.out.drew.trans (hw'.mono HB3.out.size)) hbl HK0.out
                  try have g1 := cellB' (HB3.out.drew.trans (hw'.mono HB3.out.size)) hbl HI0.out
                  go_simp
                  with_reducible rfl
                simp only [Act.put, List.setIfInBounds_toArray, List.set_cons_zero, List.set_cons_succ]
                -- 8: slot 33
                refine wpG_take preGr (i := 8) (v := ?_) (by kernel_rfl) (some 33) (by kernel_rfl) rfl (by kernel_rfl) (by kernel_rfl) (by kernel_rfl) (fun _ _ _ h => h) (by rfl) (fun w' hw' => ?_) rfl ?_
                rotate_left
                · try have g0 := cellB' (HB3.out.drew.trans (hw'.mono HB3.out.size)) hbl HK0.out
                  try have g1 := cellB' (HB3.out.drew.trans (hw'.mono HB3.out.size)) hbl HI0.out
                  go_simp
                  with_reducible rfl
                simp only [Act.put, List.setIfInBounds_toArray, List.set_cons_zero, List.set_cons_succ]
                -- 9: slot 34
                refine wpG_take preGr (i := 9) (v := ?_) (by kernel_rfl) (some 34) (by kernel_rfl) rfl (by kernel_rfl) (by kernel_rfl) (by kernel_rfl) (fun _ _ _ h => h) (by rfl) (fun w' hw' => ?_) rfl ?_
                rotate_left
                · try have g0 := cellB' (HB3.out.drew.trans (hw'.mono HB3.out.size)) hbl HK0.out
                  try have g1 := cellB' (HB3.out.drew.trans (hw'.mono HB3.out.size)) hbl HI0.out
                  go_simp
                  with_reducible rfl
                simp only [Act.put, List.setIfInBounds_toArray, List.set_cons_zero, List.set_cons_succ]
                -- 10: slot 35
                refine wpG_take preGr (i := 10) (v := ?_) (by kernel_rfl) (some 35) (by kernel_rfl) rfl (by kernel_rfl) (by kernel_rfl) (by kernel_rfl) (fun _ _ _ h => h) (by rfl) (fun w' hw' => ?_) rfl ?_
                rotate_left
                · try have g0 := cellB' (HB3.out.drew.trans (hw'.mono HB3.out.size)) hbl HK0.out
                  try have g1 := cellB' (HB3.out.drew.trans (hw'.mono HB3.out.size)) hbl HI0.out
                  go_simp
                  with_reducible rfl
                simp only [Act.put, List.setIfInBounds_toArray, List.set_cons_zero, List.set_cons_succ]
                refine wpG_done (by kernel_rfl) ?_ _
                go_wp2
                go_roundw
                case rel =>
                  have HN1 : ∀ j (hj : j < k + 1) (h2 : j < rs.length), rs[j].typ ≠ r.typ := fun j hj h2 => by
                    by_cases e : j = k
                    · subst e; rw [← HTT.out]; exact HT.out
                    · exact HNE.out j (by omega) h2
                  first | exact ⟨k + 1, by omega, by go_num, HN1, HB3.out.drew⟩ | ((repeat apply Exists.intro); exact ⟨⟨k + 1, by omega, by go_num, HN1, HB3.out.drew⟩, rfl⟩)
                case measure => simp [intOf]; omega
            · obtain rfl : k = i := by omega
              have HOK2 : Hid (okTo rs (k + 1)) := HOK.out.next (by omega) (by rw [← HRK.out]; exact HIS.out) (fun j hj => by rw [← HRK.out]; exact HNE.out j hj (by omega))
              go_wp2
              go_roundw
              case rel =>
                first | exact ⟨k + 1, _, by omega, by go_num, rfl, HOK2.out, HB3.out⟩ | ((repeat apply Exists.intro); exact ⟨⟨k + 1, _, by omega, by go_num, rfl, HOK2.out, HB3.out⟩, rfl⟩)
              case measure => simp [intOf]; omega
        · rw [decide_eq_false his] at IS
          have HN : Hid (¬ areR rs) := fun h => his (by
            have := (((areR_iff rs).1 h).2 i (by omega) (by omega)).1
            rwa [← HRK.out] at this)
          clear his
          go_wp2_with fail
          refine IS.out.mono ?_
          rintro e w2 ⟨rfl, hb2⟩
          have HB2 := Lib.hid (HB.out.trans (hb2.mono HBN.out))
          clear hb2
          go_wp2
          go_ret
          exact ⟨by rw [decide_eq_false HN.out]; rfl, HB2.out⟩
      · obtain rfl : i = n := by omega
        have HA : Hid (areR rs) := (areR_iff rs).2 ⟨by omega, by rw [hl]; exact HOK.out⟩
        go_wp2
        go_ret
        exact ⟨by rw [decide_eq_true HA.out]; rfl, HB.out⟩
  · have HN : Hid (¬ areR rs) := fun h => h16 (by rw [← hl]; exact h.1)
    have hlt : (16 : Int) < (n : Int) := by omega
    clear h16
    go_enter Try.func15, Try.ntmps15
    go_wp2
    go_ret
    exact ⟨by rw [decide_eq_false HN.out]; rfl, Below.refl _ _⟩

theorem ruleOf_at {rs : List Ru} {o : PT} (k : Nat) (h : k < rs.length) (h1 : fits rs[k] o = true) (h2 : ∀ j (hj : j < k), fits (rs[j]'(by omega)) o = false) : ruleOf rs o = some rs[k] := by
  unfold ruleOf
  rw [List.find?_eq_some_iff_getElem]
  exact ⟨h1, k, h, rfl, fun j hj => by rw [h2 j hj]; rfl⟩
theorem ruleOf_no {rs : List Ru} {o : PT} (h2 : ∀ j (hj : j < rs.length), fits rs[j] o = false) : ruleOf rs o = none := by
  refine List.find?_eq_none.2 fun r hr => ?_
  obtain ⟨i, hi, rfl⟩ := List.mem_iff_getElem.1 hr
  rw [h2 i hi]; simp

set_option maxRecDepth 20000 in
set_option maxHeartbeats 4000000 in
theorem rule_any (ao : Option Addr) (n c : Nat) (rs : List Ru) (T : Int) (A : Option Addr) (L C : Nat) (l : List UInt8) (hL : l.length = L) (w : World) (hr : RR w (.slice ao n c) n rs) :
    Calls Try.prog 29 #[.slice ao n c, .agg #[.int .i64 T, .slice A L C]] w fun e w' => ((∃ (k : Nat) (h : k < rs.length) (r : Ru), e = .returned (.int .i64 (k : Int)) ∧ r = rs[k] ∧ ruleOf rs (T, l) = some r) ∨ (e = .returned (.int .i64 (-1)) ∧ ruleOf rs (T, l) = none)) ∧ Below w.heap.size w w' := by
  have hl := hr.len
  have hsh := hr.sh
  have HR := Lib.hid hr
  have hn63 : n ≤ 9223372036854775807 := by have := hsh.1; have := hsh.2; unfold maxLen at *; omega
  have HAL : Hid (Gr w (w.alloc (.cells #[.int .i64 T, .slice A L C] 42))) := (Gr.refl w).alloc _
  have HG0 : Hid ((w.alloc (.cells #[.int .i64 T, .slice A L C] 42)).heap[w.heap.size]? = some (.cells #[.int .i64 T, .slice A L C] 42)) := heap_alloc_last _ _
  have HLL := Lib.hid hL
  clear hr hsh hL
  go_enter Try.func29, Try.ntmps29
  go_wp2
  go_loopw [5] (fun iv wr => ∃ k : Nat, k ≤ n ∧ iv = .int .i64 k ∧ (∀ j (hj : j < k) (h2 : j < rs.length), fits rs[j] (T, l) = false) ∧ Below w.heap.size w wr ∧ wr.heap[w.heap.size]? = some (.cells #[.int .i64 T, .slice A L C] 42)) (fun iv _ => n - (intOf iv).toNat)
  case atStart => exact ⟨0, Nat.zero_le _, rfl, fun j hj => by omega, HAL.out, HG0.out⟩
  case round =>
    clear HG0 HAL
    obtain ⟨k, hk, rfl, hne, hb, hg⟩ := hrel
    have HNE := Lib.hid hne
    have HB := Lib.hid hb
    have HG := Lib.hid hg
    clear hne hb hg
    by_cases hlt : k < n
    · obtain ⟨b, o, rfl, hbl, hc⟩ := HR.out.cells (by omega)
      obtain ⟨r, hr⟩ : ∃ r, r = rs[k] := ⟨_, rfl⟩
      have hc0 := (hc k (by omega)).1
      have hc1 := (hc k (by omega)).2.1
      rw [← hr] at hc0 hc1
      have HC0 := Lib.hid hc0
      have HC1 := Lib.hid hc1
      have HRK := Lib.hid hr
      have hkn : k < n := hlt
      have hkn2 : (k : Int) < (n : Int) := by omega
      clear hc hc0 hc1 hr
      have HNX : Hid (fits r (T, l) = false → ∀ j (hj : j < k + 1) (h2 : j < rs.length), fits rs[j] (T, l) = false) := fun h j hj h2 => by
        by_cases e : j = k
        · subst e; rw [← HRK.out]; exact h
        · exact HNE.out j (by omega) h2
      by_cases ht : r.typ = T
      · by_cases hs : r.size = (L : Int)
        · have HF : Hid (ruleOf rs (T, l) = some r) := by
            show _ = _
            rw [HRK.out]
            refine ruleOf_at k (by omega) ?_ (fun j hj => HNE.out j hj (by omega))
            rw [← HRK.out]
            exact decide_eq_true ⟨ht, by rw [hs, HLL.out]⟩
          have e1 : (r.typ == T) = true := by simpa using ht
          have e2 : (r.size == (L : Int)) = true := by simpa using hs
          clear ht hs
          go_upto_region 4 with fail
          refine wp_region_G 19 Gr (by kernel_rfl) ?_
          -- 0: slot 12
          refine wpG_take preGr (i := 0) (v := ?_) (by kernel_rfl) (some 12) (by kernel_rfl) rfl (by kernel_rfl) (by kernel_rfl) (by kernel_rfl) (fun _ _ _ h => h) (by rfl) (fun w' hw' => ?_) rfl ?_
          rotate_left
          · try have g0 := cellB' (HB.out.drew.trans (hw'.mono HB.out.size)) hbl HC0.out
            try have g1 := cellB' (HB.out.drew.trans (hw'.mono HB.out.size)) hbl HC1.out
            try have g2 := (copy_cells (heap_gr ((Gr.drew wr).trans hw') HG.out)).1
            try have g3 := (copy_cells (heap_gr ((Gr.drew wr).trans hw') HG.out)).2
            go_simp
            with_reducible rfl
          simp only [Act.put, List.setIfInBounds_toArray, List.set_cons_zero, List.set_cons_succ]
          -- 1: slot 13
          refine wpG_take preGr (i := 1) (v := ?_) (by kernel_rfl) (some 13) (by kernel_rfl) rfl (by kernel_rfl) (by kernel_rfl) (by kernel_rfl) (fun _ _ _ h => h) (by rfl) (fun w' hw' => ?_) rfl ?_
          rotate_left
          · try have g0 := cellB' (HB.out.drew.trans (hw'.mono HB.out.size)) hbl HC0.out
            try have g1 := cellB' (HB.out.drew.trans (hw'.mono HB.out.size)) hbl HC1.out
            try have g2 := (copy_cells (heap_gr ((Gr.drew wr).trans hw') HG.out)).1
            try have g3 := (copy_cells (heap_gr ((Gr.drew wr).trans hw') HG.out)).2
            go_simp
            with_reducible rfl
          simp only [Act.put, List.setIfInBounds_toArray, List.set_cons_zero, List.set_cons_succ]
          -- 2: slot 14
          refine wpG_take preGr (i := 2) (v := ?_) (by kernel_rfl) (some 14) (by kernel_rfl) rfl (by kernel_rfl) (by kernel_rfl) (by kernel_rfl) (fun _ _ _ h => h) (by rfl) (fun w' hw' => ?_) rfl ?_
          rotate_left
          · try have g0 := cellB' (HB.out.drew.trans (hw'.mono HB.out.size)) hbl HC0.out
            try have g1 := cellB' (HB.out.drew.trans (hw'.mono HB.out.size)) hbl HC1.out
            try have g2 := (copy_cells (heap_gr ((Gr.drew wr).trans hw') HG.out)).1
            try have g3 := (copy_cells (heap_gr ((Gr.drew wr).trans hw') HG.out)).2
            go_simp
            with_reducible rfl
          simp only [Act.put, List.setIfInBounds_toArray, List.set_cons_zero, List.set_cons_succ]
          -- 3: slot 15
          refine wpG_take preGr (i := 3) (v := ?_) (by kernel_rfl) (some 15) (by kernel_rfl) rfl (by kernel_rfl) (by kernel_rfl) (by kernel_rfl) (fun _ _ _ h => h) (by rfl) (fun w' hw' => ?_) rfl ?_
          rotate_left
          · try have g0 := cellB' (HB.out.drew.trans (hw'.mono HB.out.size)) hbl HC0.out
            try have g1 := cellB' (HB.out.drew.trans (hw'.mono HB.out.size)) hbl HC1.out
            try have g2 := (copy_cells (heap_gr ((Gr.drew wr).trans hw') HG.out)).1
            try have g3 := (copy_cells (heap_gr ((Gr.drew wr).trans hw') HG.out)).2
            go_simp
            with_reducible rfl
          simp only [Act.put, List.setIfInBounds_toArray, List.set_cons_zero, List.set_cons_succ]
          -- 4: slot 16
          refine wpG_take preGr (i := 4) (v := ?_) (by kernel_rfl) (some 16) (by kernel_rfl) rfl (by kernel_rfl) (by kernel_rfl) (by kernel_rfl) (fun _ _ _ h => h) (by rfl) (fun w' hw' => ?_) rfl ?_
          rotate_left
          · try have g0 := cellB' (HB.out.drew.trans (hw'.mono HB.out.size)) hbl HC0.out
            try have g1 := cellB' (HB.out.drew.trans (hw'.mono HB.out.size)) hbl HC1.out
            try have g2 := (copy_cells (heap_gr ((Gr.drew wr).trans hw') HG.out)).1
            try have g3 := (copy_cells (heap_gr ((Gr.drew wr).trans hw') HG.out)).2
            go_simp
            with_reducible rfl
          simp only [Act.put, List.setIfInBounds_toArray, List.set_cons_zero, List.set_cons_succ]
          -- 5: slot 17
          refine wpG_take preGr (i := 5) (v := ?_) (by kernel_rfl) (some 17) (by kernel_rfl) rfl (by kernel_rfl) (by kernel_rfl) (by kernel_rfl) (fun _ _ _ h => h) (by rfl) (fun w' hw' => ?_) rfl ?_
          rotate_left
          · try have g0 := cellB' (HB.out.drew.trans (hw'.mono HB.out.size)) hbl HC0.out
            try have g1 := cellB' (HB.out.drew.trans (hw'.mono HB.out.size)) hbl HC1.out
            try have g2 := (copy_cells (heap_gr ((Gr.drew wr).trans hw') HG.out)).1
            try have g3 := (copy_cells (heap_gr ((Gr.drew wr).trans hw') HG.out)).2
            go_simp
            with_reducible rfl
          simp only [Act.put, List.setIfInBounds_toArray, List.set_cons_zero, List.set_cons_succ]
          -- 6: slot 18
          refine wpG_take preGr (i := 6) (v := ?_) (by kernel_rfl) (some 18) (by kernel_rfl) rfl (by kernel_rfl) (by kernel_rfl) (by kernel_rfl) (fun _ _ _ h => h) (by rfl) (fun w' hw' => ?_) rfl ?_
          rotate_left
          · try have g0 := cellB' (HB.out.drew.trans (hw'.mono HB.out.size)) hbl HC0.out
            try have g1 := cellB' (HB.out.drew.trans (hw'.mono HB.out.size)) hbl HC1.out
            try have g2 := (copy_cells (heap_gr ((Gr.drew wr).trans hw') HG.out)).1
            try have g3 := (copy_cells (heap_gr ((Gr.drew wr).trans hw') HG.out)).2
            go_simp
            with_reducible rfl
          simp only [Act.put, List.setIfInBounds_toArray, List.set_cons_zero, List.set_cons_succ]
          -- 7: slot 19
          refine wpG_take preGr (i := 7) (v := ?_) (by kernel_rfl) (some 19) (by kernel_rfl) rfl (by kernel_rfl) (by kernel_rfl) (by kernel_rfl) (fun _ _ _ h => h) (by rfl) (fun w' hw' => ?_) rfl ?_
          rotate_left
          · try have g0 := cellB' (HB.out.drew.trans (hw'.mono HB.out.size)) hbl HC0.out
            try have g1 := cellB' (HB.out.drew.trans (hw'.mono HB.out.size)) hbl HC1.out
            try have g2 := (copy_cells (heap_gr ((Gr.drew wr).trans hw') HG.out)).1
            try have g3 := (copy_cells (heap_gr ((Gr.drew wr).trans hw') HG.out)).2
            go_simp
            with_reducible rfl
          simp only [Act.put, List.setIfInBounds_toArray, List.set_cons_zero, List.set_cons_succ]
          -- 8: slot 20
          refine wpG_take preGr (i := 8) (v := ?_) (by kernel_rfl) (some 20) (by kernel_rfl) rfl (by kernel_rfl) (by kernel_rfl) (by kernel_rfl) (fun _ _ _ h => h) (by rfl) (fun w' hw' => ?_) rfl ?_
          rotate_left
          · try have g0 := cellB' (HB.out.drew.trans (hw'.mono HB.out.size)) hbl HC0.out
            try have g1 := cellB' (HB.out.drew.trans (hw'.mono HB.out.size)) hbl HC1.out
            try have g2 := (copy_cells (heap_gr ((Gr.drew wr).trans hw') HG.out)).1
            try have g3 := (copy_cells (heap_gr ((Gr.drew wr).trans hw') HG.out)).2
            go_simp
            with_reducible rfl
          simp only [Act.put, List.setIfInBounds_toArray, List.set_cons_zero, List.set_cons_succ]
          -- 9: slot 21
          refine wpG_take preGr (i := 9) (v := ?_) (by kernel_rfl) (some 21) (by kernel_rfl) rfl (by kernel_rfl) (by kernel_rfl) (by kernel_rfl) (fun _ _ _ h => h) (by rfl) (fun w' hw' => ?_) rfl ?_
          rotate_left
          · try have g0 := cellB' (HB.out.drew.trans (hw'.mono HB.out.size)) hbl HC0.out
            try have g1 := cellB' (HB.out.drew.trans (hw'.mono HB.out.size)) hbl HC1.out
            try have g2 := (copy_cells (heap_gr ((Gr.drew wr).trans hw') HG.out)).1
            try have g3 := (copy_cells (heap_gr ((Gr.drew wr).trans hw') HG.out)).2
            go_simp
            with_reducible rfl
          simp only [Act.put, List.setIfInBounds_toArray, List.set_cons_zero, List.set_cons_succ]
          -- 10: slot 22
          refine wpG_take preGr (i := 10) (v := ?_) (by kernel_rfl) (some 22) (by kernel_rfl) rfl (by kernel_rfl) (by kernel_rfl) (by kernel_rfl) (fun _ _ _ h => h) (by rfl) (fun w' hw' => ?_) rfl ?_
          rotate_left
          · try have g0 := cellB' (HB.out.drew.trans (hw'.mono HB.out.size)) hbl HC0.out
            try have g1 := cellB' (HB.out.drew.trans (hw'.mono HB.out.size)) hbl HC1.out
            try have g2 := (copy_cells (heap_gr ((Gr.drew wr).trans hw') HG.out)).1
            try have g3 := (copy_cells (heap_gr ((Gr.drew wr).trans hw') HG.out)).2
            go_simp
            with_reducible rfl
          simp only [Act.put, List.setIfInBounds_toArray, List.set_cons_zero, List.set_cons_succ]
          -- 11: slot 23
          refine wpG_take preGr (i := 11) (v := ?_) (by kernel_rfl) (some 23) (by kernel_rfl) rfl (by kernel_rfl) (by kernel_rfl) (by kernel_rfl) (fun _ _ _ h => h) (by rfl) (fun w' hw' => ?_) rfl ?_
          rotate_left
          · try have g0 := cellB' (HB.out.drew.trans (hw'.mono HB.out.size)) hbl HC0.out
            try have g1 := cellB' (HB.out.drew.trans (hw'.mono HB.out.size)) hbl HC1.out
            try have g2 := (copy_cells (heap_gr ((Gr.drew wr).trans hw') HG.out)).1
            try have g3 := (copy_cells (heap_gr ((Gr.drew wr).trans hw') HG.out)).2
            go_simp
            with_reducible rfl
          simp only [Act.put, List.setIfInBounds_toArray, List.set_cons_zero, List.set_cons_succ]
          -- 12: slot 24
          refine wpG_take preGr (i := 12) (v := ?_) (by kernel_rfl) (some 24) (by kernel_rfl) rfl (by kernel_rfl) (by kernel_rfl) (by kernel_rfl) (fun _ _ _ h => h) (by rfl) (fun w' hw' => ?_) rfl ?_
          rotate_left
          · try have g0 := cellB' (HB.out.drew.trans (hw'.mono HB.out.size)) hbl HC0.out
            try have g1 := cellB' (HB.out.drew.trans (hw'.mono HB.out.size)) hbl HC1.out
            try have g2 := (copy_cells (heap_gr ((Gr.drew wr).trans hw') HG.out)).1
            try have g3 := (copy_cells (heap_gr ((Gr.drew wr).trans hw') HG.out)).2
            go_simp
            with_reducible rfl
          simp only [Act.put, List.setIfInBounds_toArray, List.set_cons_zero, List.set_cons_succ]
          -- 13: slot 25
          refine wpG_take preGr (i := 13) (v := ?_) (by kernel_rfl) (some 25) (by kernel_rfl) rfl (by kernel_rfl) (by kernel_rfl) (by kernel_rfl) (fun _ _ _ h => h) (by rfl) (fun w' hw' => ?_) rfl ?_
          rotate_left
          · try have g0 := cellB' (HB.out.drew.trans (hw'.mono HB.out.size)) hbl HC0.out
            try have g1 := cellB' (HB.out.drew.trans (hw'.mono HB.out.size)) hbl HC1.out
            try have g2 := (copy_cells (heap_gr ((Gr.drew wr).trans hw') HG.out)).1
            try have g3 := (copy_cells (heap_gr ((Gr.drew wr).trans hw') HG.out)).2
            go_simp
            with_reducible rfl
          simp only [Act.put, List.setIfInBounds_toArray, List.set_cons_zero, List.set_cons_succ]
          -- 14: slot 26
          refine wpG_take preGr (i := 14) (v := ?_) (by kernel_rfl) (some 26) (by kernel_rfl) rfl (by kernel_rfl) (by kernel_rfl) (by kernel_rfl) (fun _ _ _ h => h) (by rfl) (fun w' hw' => ?_) rfl ?_
          rotate_left
          · try have g0 := cellB' (HB.out.drew.trans (hw'.mono HB.out.size)) hbl HC0.out
            try have g1 := cellB' (HB.out.drew.trans (hw'.mono HB.out.size)) hbl HC1.out
            try have g2 := (copy_cells (heap_gr ((Gr.drew wr).trans hw') HG.out)).1
            try have g3 := (copy_cells (heap_gr ((Gr.drew wr).trans hw') HG.out)).2
            go_simp
            with_reducible rfl
          simp only [Act.put, List.setIfInBounds_toArray, List.set_cons_zero, List.set_cons_succ]
          -- 15: slot 27
          refine wpG_take preGr (i := 15) (v := ?_) (by kernel_rfl) (some 27) (by kernel_rfl) rfl (by kernel_rfl) (by kernel_rfl) (by kernel_rfl) (fun _ _ _ h => h) (by rfl) (fun w' hw' => ?_) rfl ?_
          rotate_left
          · try have g0 := cellB' (HB.out.drew.trans (hw'.mono HB.out.size)) hbl HC0.out
            try have g1 := cellB' (HB.out.drew.trans (hw'.mono HB.out.size)) hbl HC1.out
            try have g2 := (copy_cells (heap_gr ((Gr.drew wr).trans hw') HG.out)).1
            try have g3 := (copy_cells (heap_gr ((Gr.drew wr).trans hw') HG.out)).2
            go_simp
            with_reducible rfl
          simp only [Act.put, List.setIfInBounds_toArray, List.set_cons_zero, List.set_cons_succ]
          -- 16: slot 28
          refine wpG_take preGr (i := 16) (v := ?_) (by kernel_rfl) (some 28) (by kernel_rfl) rfl (by kernel_rfl) (by kernel_rfl) (by kernel_rfl) (fun _ _ _ h => h) (by rfl) (fun w' hw' => ?_) rfl ?_
          rotate_left
          · try have g0 := cellB' (HB.out.drew.trans (hw'.mono HB.out.size)) hbl HC0.out
            try have g1 := cellB' (HB.out.drew.trans (hw'.mono HB.out.size)) hbl HC1.out
            try have g2 := (copy_cells (heap_gr ((Gr.drew wr).trans hw') HG.out)).1
            try have g3 := (copy_cells (heap_gr ((Gr.drew wr).trans hw') HG.out)).2
            go_simp
            with_reducible rfl
          simp only [Act.put, List.setIfInBounds_toArray, List.set_cons_zero, List.set_cons_succ]
          -- 17: slot 29
          refine wpG_take preGr (i := 17) (v := ?_) (by kernel_rfl) (some 29) (by kernel_rfl) rfl (by kernel_rfl) (by kernel_rfl) (by kernel_rfl) (fun _ _ _ h => h) (by rfl) (fun w' hw' => ?_) rfl ?_
          rotate_left
          · try have g0 := cellB' (HB.out.drew.trans (hw'.mono HB.out.size)) hbl HC0.out
            try have g1 := cellB' (HB.out.drew.trans (hw'.mono HB.out.size)) hbl HC1.out
            try have g2 := (copy_cells (heap_gr ((Gr.drew wr).trans hw') HG.out)).1
            try have g3 := (copy_cells (heap_gr ((Gr.drew wr).trans hw') HG.out)).2
            go_simp
            with_reducible rfl
          simp only [Act.put, List.setIfInBounds_toArray, List.set_cons_zero, List.set_cons_succ]
          -- 18: slot 30
          refine wpG_take preGr (i := 18) (v := ?_) (by kernel_rfl) (some 30) (by kernel_rfl) rfl (by kernel_rfl) (by kernel_rfl) (by kernel_rfl) (fun _ _ _ h => h) (by rfl) (fun w' hw' => ?_) rfl ?_
          rotate_left
          · try have g0 := cellB' (HB.out.drew.trans (hw'.mono HB.out.size)) hbl HC0.out
            try have g1 := cellB' (HB.out.drew.trans (hw'.mono HB.out.size)) hbl HC1.out
            try have g2 := (copy_cells (heap_gr ((Gr.drew wr).trans hw') HG.out)).1
            try have g3 := (copy_cells (heap_gr ((Gr.drew wr).trans hw') HG.out)).2
            go_simp
            with_reducible rfl
          simp only [Act.put, List.setIfInBounds_toArray, List.set_cons_zero, List.set_cons_succ]
          refine wpG_done (by kernel_rfl) ?_ _
          go_wp2
          go_ret
          exact ⟨.inl ⟨k, by omega, r, rfl, HRK.out, HF.out⟩, HB.out.drew⟩
        · have HN := Lib.hid (HNX.out (decide_eq_false fun h => hs (by rw [h.2]; exact congrArg Int.ofNat HLL.out)))
          have e1 : (r.typ == T) = true := by simpa using ht
          have e2 : (r.size == (L : Int)) = false := by simpa using hs
          clear ht hs HNX
          go_upto_region 4 with fail
          refine wp_region_G 19 Gr (by kernel_rfl) ?_
          -- 0: slot 12
          refine wpG_take preGr (i := 0) (v := ?_) (by kernel_rfl) (some 12) (by kernel_rfl) rfl (by kernel_rfl) (by kernel_rfl) (by kernel_rfl) (fun _ _ _ h => h) (by rfl) (fun w' hw' => ?_) rfl ?_
          rotate_left
          · try have g0 := cellB' (HB.out.drew.trans (hw'.mono HB.out.size)) hbl HC0.out
            try have g1 := cellB' (HB.out.drew.trans (hw'.mono HB.out.size)) hbl HC1.out
            try have g2 := (copy_cells (heap_gr ((Gr.drew wr).trans hw') HG.out)).1
            try have g3 := (copy_cells (heap_gr ((Gr.drew wr).trans hw') HG.out)).2
            go_simp
            with_reducible rfl
          simp only [Act.put, List.setIfInBounds_toArray, List.set_cons_zero, List.set_cons_succ]
          -- 1: slot 13
          refine wpG_take preGr (i := 1) (v := ?_) (by kernel_rfl) (some 13) (by kernel_rfl) rfl (by kernel_rfl) (by kernel_rfl) (by kernel_rfl) (fun _ _ _ h => h) (by rfl) (fun w' hw' => ?_) rfl ?_
          rotate_left
          · try have g0 := cellB' (HB.out.drew.trans (hw'.mono HB.out.size)) hbl HC0.out
            try have g1 := cellB' (HB.out.drew.trans (hw'.mono HB.out.size)) hbl HC1.out
            try have g2 := (copy_cells (heap_gr ((Gr.drew wr).trans hw') HG.out)).1
            try have g3 := (copy_cells (heap_gr ((Gr.drew wr).trans hw') HG.out)).2
            go_simp
            with_reducible rfl
          simp only [Act.put, List.setIfInBounds_toArray, List.set_cons_zero, List.set_cons_succ]
          -- 2: slot 14
          refine wpG_take preGr (i := 2) (v := ?_) (by kernel_rfl) (some 14) (by kernel_rfl) rfl (by kernel_rfl) (by kernel_rfl) (by kernel_rfl) (fun _ _ _ h => h) (by rfl) (fun w' hw' => ?_) rfl ?_
          rotate_left
          · try have g0 := cellB' (HB.out.drew.trans (hw'.mono HB.out.size)) hbl HC0.out
            try have g1 := cellB' (HB.out.drew.trans (hw'.mono HB.out.size)) hbl HC1.out
            try have g2 := (copy_cells (heap_gr ((Gr.drew wr).trans hw') HG.out)).1
            try have g3 := (copy_cells (heap_gr ((Gr.drew wr).trans hw') HG.out)).2
            go_simp
            with_reducible rfl
          simp only [Act.put, List.setIfInBounds_toArray, List.set_cons_zero, List.set_cons_succ]
          -- 3: slot 15
          refine wpG_take preGr (i := 3) (v := ?_) (by kernel_rfl) (some 15) (by kernel_rfl) rfl (by kernel_rfl) (by kernel_rfl) (by kernel_rfl) (fun _ _ _ h => h) (by rfl) (fun w' hw' => ?_) rfl ?_
          rotate_left
          · try have g0 := cellB' (HB.out.drew.trans (hw'.mono HB.out.size)) hbl HC0.out
            try have g1 := cellB' (HB.out.drew.trans (hw'.mono HB.out.size)) hbl HC1.out
            try have g2 := (copy_cells (heap_gr ((Gr.drew wr).trans hw') HG.out)).1
            try have g3 := (copy_cells (heap_gr ((Gr.drew wr).trans hw') HG.out)).2
            go_simp
            with_reducible rfl
          simp only [Act.put, List.setIfInBounds_toArray, List.set_cons_zero, List.set_cons_succ]
          -- 4: slot 16
          refine wpG_take preGr (i := 4) (v := ?_) (by kernel_rfl) (some 16) (by kernel_rfl) rfl (by kernel_rfl) (by kernel_rfl) (by kernel_rfl) (fun _ _ _ h => h) (by rfl) (fun w' hw' => ?_) rfl ?_
          rotate_left
          · try have g0 := cellB' (HB.out.drew.trans (hw'.mono HB.out.size)) hbl HC0.out
            try have g1 := cellB' (HB.out.drew.trans (hw'.mono HB.out.size)) hbl HC1.out
            try have g2 := (copy_cells (heap_gr ((Gr.drew wr).trans hw') HG.out)).1
            try have g3 := (copy_cells (heap_gr ((Gr.drew wr).trans hw') HG.out)).2
            go_simp
            with_reducible rfl
          simp only [Act.put, List.setIfInBounds_toArray, List.set_cons_zero, List.set_cons_succ]
          -- 5: slot 17
          refine wpG_take preGr (i := 5) (v := ?_) (by kernel_rfl) (some 17) (by kernel_rfl) rfl (by kernel_rfl) (by kernel_rfl) (by kernel_rfl) (fun _ _ _ h => h) (by rfl) (fun w' hw' => ?_) rfl ?_
          rotate_left
          · try have g0 := cellB' (HB.out.drew.trans (hw'.mono HB.out.size)) hbl HC0.out
            try have g1 := cellB' (HB.out.drew.trans (hw'.mono HB.out.size)) hbl HC1.out
            try have g2 := (copy_cells (heap_gr ((Gr.drew wr).trans hw') HG.out)).1
            try have g3 := (copy_cells (heap_gr ((Gr.drew wr).trans hw') HG.out)).2
            go_simp
            with_reducible rfl
          simp only [Act.put, List.setIfInBounds_toArray, List.set_cons_zero, List.set_cons_succ]
          -- 6: slot 18
          refine wpG_take preGr (i := 6) (v := ?_) (by kernel_rfl) (some 18) (by kernel_rfl) rfl (by kernel_rfl) (by kernel_rfl) (by kernel_rfl) (fun _ _ _ h => h) (by rfl) (fun w' hw' => ?_) rfl ?_
          rotate_left
          · try have g0 := cellB' (HB.out.drew.trans (hw'.mono HB.out.size)) hbl HC0.out
            try have g1 := cellB' (HB.out.drew.trans (hw'.mono HB.out.size)) hbl HC1.out
            try have g2 := (copy_cells (heap_gr ((Gr.drew wr).trans hw') HG.out)).1
            try have g3 := (copy_cells (heap_gr ((Gr.drew wr).trans hw') HG.out)).2
            go_simp
            with_reducible rfl
          simp only [Act.put, List.setIfInBounds_toArray, List.set_cons_zero, List.set_cons_succ]
          -- 7: slot 19
          refine wpG_take preGr (i := 7) (v := ?_) (by kernel_rfl) (some 19) (by kernel_rfl) rfl (by kernel_rfl) (by kernel_rfl) (by kernel_rfl) (fun _ _ _ h => h) (by rfl) (fun w' hw' => ?_) rfl ?_
          rotate_left
          · try have g0 := cellB' (HB.out.drew.trans (hw'.mono HB.out.size)) hbl HC0.out
            try have g1 := cellB' (HB.out.drew.trans (hw'.mono HB.out.size)) hbl HC1.out
            try have g2 := (copy_cells (heap_gr ((Gr.drew wr).trans hw') HG.out)).1
            try have g3 := (copy_cells (heap_gr ((Gr.drew wr).trans hw') HG.out)).2
            go_simp
            with_reducible rfl
          simp only [Act.put, List.setIfInBounds_toArray, List.set_cons_zero, List.set_cons_succ]
          -- 8: slot 20
          refine wpG_take preGr (i := 8) (v := ?_) (by kernel_rfl) (some 20) (by kernel_rfl) rfl (by kernel_rfl) (by kernel_rfl) (by kernel_rfl) (fun _ _ _ h => h) (by rfl) (fun w' hw' => ?_) rfl ?_
          rotate_left
          · try have g0 := cellB' (HB.out.drew.trans (hw'.mono HB.out.size)) hbl HC0.out
            try have g1 := cellB' (HB.out.drew.trans (hw'.mono HB.out.size)) hbl HC1.out
            try have g2 := (copy_cells (heap_gr ((Gr.drew wr).trans hw') HG.out)).1
            try have g3 := (copy_cells (heap_gr ((Gr.drew wr).trans hw') HG.out)).2
            go_simp
            with_reducible rfl
          simp only [Act.put, List.setIfInBounds_toArray, List.set_cons_zero, List.set_cons_succ]
          -- 9: slot 21
          refine wpG_take preGr (i := 9) (v := ?_) (by kernel_rfl) (some 21) (by kernel_rfl) rfl (by kernel_rfl) (by kernel_rfl) (by kernel_rfl) (fun _ _ _ h => h) (by rfl) (fun w' hw' => ?_) rfl ?_
          rotate_left
          · try have g0 := cellB' (HB.out.drew.trans (hw'.mono HB.out.size)) hbl HC0.out
            try have g1 := cellB' (HB.out.drew.trans (hw'.mono HB.out.size)) hbl HC1.out
            try have g2 := (copy_cells (heap_gr ((Gr.drew wr).trans hw') HG.out)).1
            try have g3 := (copy_cells (heap_gr ((Gr.drew wr).trans hw') HG.out)).2
            go_simp
            with_reducible rfl
          simp only [Act.put, List.setIfInBounds_toArray, List.set_cons_zero, List.set_cons_succ]
          -- 10: slot 22
          refine wpG_take preGr (i := 10) (v := ?_) (by kernel_rfl) (some 22) (by kernel_rfl) rfl (by kernel_rfl) (by kernel_rfl) (by kernel_rfl) (fun _ _ _ h => h) (by rfl) (fun w' hw' => ?_) rfl ?_
          rotate_left
          · try have g0 := cellB' (HB.out.drew.trans (hw'.mono HB.out.size)) hbl HC0.out
            try have g1 := cellB' (HB.out.drew.trans (hw'.mono HB.out.size)) hbl HC1.out
            try have g2 := (copy_cells (heap_gr ((Gr.drew wr).trans hw') HG.out)).1
            try have g3 := (copy_cells (heap_gr ((Gr.drew wr).trans hw') HG.out)).2
            go_simp
            with_reducible rfl
          simp only [Act.put, List.setIfInBounds_toArray, List.set_cons_zero, List.set_cons_succ]
          -- 11: slot 23
          refine wpG_take preGr (i := 11) (v := ?_) (by kernel_rfl) (some 23) (by kernel_rfl) rfl (by kernel_rfl) (by kernel_rfl) (by kernel_rfl) (fun _ _ _ h => h) (by rfl) (fun w' hw' => ?_) rfl ?_
          rotate_left
          · try have g0 := cellB' (HB.out.drew.trans (hw'.mono HB.out.size)) hbl HC0.out
            try have g1 := cellB' (HB.out.drew.trans (hw'.mono HB.out.size)) hbl HC1.out
            try have g2 := (copy_cells (heap_gr ((Gr.drew wr).trans hw') HG.out)).1
            try have g3 := (copy_cells (heap_gr ((Gr.drew wr).trans hw') HG.out)).2
            go_simp
            with_reducible rfl
          simp only [Act.put, List.setIfInBounds_toArray, List.set_cons_zero, List.set_cons_succ]
          -- 12: slot 24
          refine wpG_take preGr (i := 12) (v := ?_) (by kernel_rfl) (some 24) (by kernel_rfl) rfl (by kernel_rfl) (by kernel_rfl) (by kernel_rfl) (fun _ _ _ h => h) (by rfl) (fun w' hw' => ?_) rfl ?_
          rotate_left
          · try have g0 := cellB' (HB.out.drew.trans (hw'.mono HB.out.size)) hbl HC0.out
            try have g1 := cellB' (HB.out.drew.trans (hw'.mono HB.out.size)) hbl HC1.out
            try have g2 := (copy_cells (heap_gr ((Gr.drew wr).trans hw') HG.out)).1
            try have g3 := (copy_cells (heap_gr ((Gr.drew wr).trans hw') HG.out)).2
            go_simp
            with_reducible rfl
          simp only [Act.put, List.setIfInBounds_toArray, List.set_cons_zero, List.set_cons_succ]
          -- 13: slot 25
          refine wpG_take preGr (i := 13) (v := ?_) (by kernel_rfl) (some 25) (by kernel_rfl) rfl (by kernel_rfl) (by kernel_rfl) (by kernel_rfl) (fun _ _ _ h => h) (by rfl) (fun w' hw' => ?_) rfl ?_
          rotate_left
          · try have g0 := cellB' (HB.out.drew.trans (hw'.mono HB.out.size)) hbl HC0.out
            try have g1 := cellB' (HB.out.drew.trans (hw'.mono HB.out.size)) hbl HC1.out
            try have g2 := (copy_cells (heap_gr ((Gr.drew wr).trans hw') HG.out)).1
            try have g3 := (copy_cells (heap_gr ((Gr.drew wr).trans hw') HG.out)).2
            go_simp
            with_reducible rfl
          simp only [Act.put, List.setIfInBounds_toArray, List.set_cons_zero, List.set_cons_succ]
          -- 14: slot 26
          refine wpG_take preGr (i := 14) (v := ?_) (by kernel_rfl) (some 26) (by kernel_rfl) rfl (by kernel_rfl) (by kernel_rfl) (by kernel_rfl) (fun _ _ _ h => h) (by rfl) (fun w' hw' => ?_) rfl ?_
          rotate_left
          · try have g0 := cellB' (HB.out.drew.trans (hw'.mono HB.out.size)) hbl HC0.out
            try have g1 := cellB' (HB.out.drew.trans (hw'.mono HB.out.size)) hbl HC1.out
            try have g2 := (copy_cells (heap_gr ((Gr.drew wr).trans hw') HG.out)).1
            try have g3 := (copy_cells (heap_gr ((Gr.drew wr).trans hw') HG.out)).2
            go_simp
            with_reducible rfl
          simp only [Act.put, List.setIfInBounds_toArray, List.set_cons_zero, List.set_cons_succ]
          -- 15: slot 27
          refine wpG_take preGr (i := 15) (v := ?_) (by kernel_rfl) (some 27) (by kernel_rfl) rfl (by kernel_rfl) (by kernel_rfl) (by kernel_rfl) (fun _ _ _ h => h) (by rfl) (fun w' hw' => ?_) rfl ?_
          rotate_left
          · try have g0 := cellB' (HB.out.drew.trans (hw'.mono HB.out.size)) hbl HC0.out
            try have g1 := cellB' (HB.out.drew.trans (hw'.mono HB.out.size)) hbl HC1.out
            try have g2 := (copy_cells (heap_gr ((Gr.drew wr).trans hw') HG.out)).1
            try have g3 := (copy_cells (heap_gr ((Gr.drew wr).trans hw') HG.out)).2
            go_simp
            with_reducible rfl
          simp only [Act.put, List.setIfInBounds_toArray, List.set_cons_zero, List.set_cons_succ]
          -- 16: slot 28
          refine wpG_take preGr (i := 16) (v := ?_) (by kernel_rfl) (some 28) (by kernel_rfl) rfl (by kernel_rfl) (by kernel_rfl) (by kernel_rfl) (fun _ _ _ h => h) (by rfl) (fun w' hw' => ?_) rfl ?_
          rotate_left
          · try have g0 := cellB' (HB.out.drew.trans (hw'.mono HB.out.size)) hbl HC0.out
            try have g1 := cellB' (HB.out.drew.trans (hw'.mono HB.out.size)) hbl HC1.out
            try have g2 := (copy_cells (heap_gr ((Gr.drew wr).trans hw') HG.out)).1
            try have g3 := (copy_cells (heap_gr ((Gr.drew wr).trans hw') HG.out)).2
            go_simp
            with_reducible rfl
          simp only [Act.put, List.setIfInBounds_toArray, List.set_cons_zero, List.set_cons_succ]
          -- 17: slot 29
          refine wpG_take preGr (i := 17) (v := ?_) (by kernel_rfl) (some 29) (by kernel_rfl) rfl (by kernel_rfl) (by kernel_rfl) (by kernel_rfl) (fun _ _ _ h => h) (by rfl) (fun w' hw' => ?_) rfl ?_
          rotate_left
          · try have g0 := cellB' (HB.out.drew.trans (hw'.mono HB.out.size)) hbl HC0.out
            try have g1 := cellB' (HB.out.drew.trans (hw'.mono HB.out.size)) hbl HC1.out
            try have g2 := (copy_cells (heap_gr ((Gr.drew wr).trans hw') HG.out)).1
            try have g3 := (copy_cells (heap_gr ((Gr.drew wr).trans hw') HG.out)).2
            go_simp
            with_reducible rfl
          simp only [Act.put, List.setIfInBounds_toArray, List.set_cons_zero, List.set_cons_succ]
          -- 18: slot 30
          refine wpG_take preGr (i := 18) (v := ?_) (by kernel_rfl) (some 30) (by kernel_rfl) rfl (by kernel_rfl) (by kernel_rfl) (by kernel_rfl) (fun _ _ _ h => h) (by rfl) (fun w' hw' => ?_) rfl ?_
          rotate_left
          · try have g0 := cellB' (HB.out.drew.trans (hw'.mono HB.out.size)) hbl HC0.out
            try have g1 := cellB' (HB.out.drew.trans (hw'.mono HB.out.size)) hbl HC1.out
            try have g2 := (copy_cells (heap_gr ((Gr.drew wr).trans hw') HG.out)).1
            try have g3 := (copy_cells (heap_gr ((Gr.drew wr).trans hw') HG.out)).2
            go_simp
            with_reducible rfl
          simp only [Act.put, List.setIfInBounds_toArray, List.set_cons_zero, List.set_cons_succ]
          refine wpG_done (by kernel_rfl) ?_ _
          go_wp2
          go_roundw
          case rel =>
            have HN1 := HN.out
            have HG1 : wr.drew.heap[w.heap.size]? = some (.cells #[.int .i64 T, .slice A L C] 42) := HG.out
            first | exact ⟨k + 1, by omega, by go_num, HN1, HB.out.drew, HG1⟩ | ((repeat apply Exists.intro); exact ⟨⟨k + 1, by omega, by go_num, HN1, HB.out.drew, HG1⟩, rfl⟩)
          case measure => simp [intOf]; omega
      · have HN := Lib.hid (HNX.out (decide_eq_false fun h => ht h.1))
        have e1 : (r.typ == T) = false := by simpa using ht
        clear ht HNX
        go_upto_region 4 with fail
        refine wp_region_G 19 Gr (by kernel_rfl) ?_
        -- 0: slot 12
        refine wpG_take preGr (i := 0) (v := ?_) (by kernel_rfl) (some 12) (by kernel_rfl) rfl (by kernel_rfl) (by kernel_rfl) (by kernel_rfl) (fun _ _ _ h => h) (by rfl) (fun w' hw' => ?_) rfl ?_
        rotate_left
        · try have g0 := cellB' (HB.out.drew.trans (hw'.mono HB.out.size)) hbl HC0.out
          try have g1 := cellB' (HB.out.drew.trans (hw'.mono HB.out.size)) hbl HC1.out
          try have g2 := (copy_cells (heap_gr ((Gr.drew wr).trans hw') HG.out)).1
          try have g3 := (copy_cells (heap_gr ((Gr.drew wr).trans hw') HG.out)).2
          go_simp
          with_reducible rfl
        simp only [Act.put, List.setIfInBounds_toArray, List.set_cons_zero, List.set_cons_succ]
        -- 1: slot 13
        refine wpG_take preGr (i := 1) (v := ?_) (by kernel_rfl) (some 13) (by kernel_rfl) rfl (by kernel_rfl) (by kernel_rfl) (by kernel_rfl) (fun _ _ _ h => h) (by rfl) (fun w' hw' => ?_) rfl ?_
        rotate_left
        · try have g0 := cellB' (HB.out.drew.trans (hw'.mono HB.out.size)) hbl HC0.out
          try have g1 := cellB' (HB.out.drew.trans (hw'.mono HB.out.size)) hbl HC1.out
          try have g2 := (copy_cells (heap_gr ((Gr.drew wr).trans hw') HG.out)).1
          try have g3 := (copy_cells (heap_gr ((Gr.drew wr).trans hw') HG.out)).2
          go_simp
          with_reducible rfl
        simp only [Act.put, List.setIfInBounds_toArray, List.set_cons_zero, List.set_cons_succ]
        -- 2: slot 14
        refine wpG_take preGr (i := 2) (v := ?_) (by kernel_rfl) (some 14) (by kernel_rfl) rfl (by kernel_rfl) (by kernel_rfl) (by kernel_rfl) (fun _ _ _ h => h) (by rfl) (fun w' hw' => ?_) rfl ?_
        rotate_left
        · try have g0 := cellB' (HB.out.drew.trans (hw'.mono HB.out.size)) hbl HC0.out
          try have g1 := cellB' (HB.out.drew.trans (hw'.mono HB.out.size)) hbl HC1.out
          try have g2 := (copy_cells (heap_gr ((Gr.drew wr).trans hw') HG.out)).1
          try have g3 := (copy_cells (heap_gr ((Gr.drew wr).trans hw') HG.out)).2
          go_simp
          with_reducible rfl
        simp only [Act.put, List.setIfInBounds_toArray, List.set_cons_zero, List.set_cons_succ]
        -- 3: slot 15
        refine wpG_take preGr (i := 3) (v := ?_) (by kernel_rfl) (some 15) (by kernel_rfl) rfl (by kernel_rfl) (by kernel_rfl) (by kernel_rfl) (fun _ _ _ h => h) (by rfl) (fun w' hw' => ?_) rfl ?_
        rotate_left
        · try have g0 := cellB' (HB.out.drew.trans (hw'.mono HB.out.size)) hbl HC0.out
          try have g1 := cellB' (HB.out.drew.trans (hw'.mono HB.out.size)) hbl HC1.out
          try have g2 := (copy_cells (heap_gr ((Gr.drew wr).trans hw') HG.out)).1
          try have g3 := (copy_cells (heap_gr ((Gr.drew wr).trans hw') HG.out)).2
          go_simp
          with_reducible rfl
        simp only [Act.put, List.setIfInBounds_toArray, List.set_cons_zero, List.set_cons_succ]
        -- 4: slot 16
        refine wpG_take preGr (i := 4) (v := ?_) (by kernel_rfl) (some 16) (by kernel_rfl) rfl (by kernel_rfl) (by kernel_rfl) (by kernel_rfl) (fun _ _ _ h => h) (by rfl) (fun w' hw' => ?_) rfl ?_
        rotate_left
        · try have g0 := cellB' (HB.out.drew.trans (hw'.mono HB.out.size)) hbl HC0.out
          try have g1 := cellB' (HB.out.drew.trans (hw'.mono HB.out.size)) hbl HC1.out
          try have g2 := (copy_cells (heap_gr ((Gr.drew wr).trans hw') HG.out)).1
          try have g3 := (copy_cells (heap_gr ((Gr.drew wr).trans hw') HG.out)).2
          go_simp
          with_reducible rfl
        simp only [Act.put, List.setIfInBounds_toArray, List.set_cons_zero, List.set_cons_succ]
        -- 5: slot 17
        refine wpG_take preGr (i := 5) (v := ?_) (by kernel_rfl) (some 17) (by kernel_rfl) rfl (by kernel_rfl) (by kernel_rfl) (by kernel_rfl) (fun _ _ _ h => h) (by rfl) (fun w' hw' => ?_) rfl ?_
        rotate_left
        · try have g0 := cellB' (HB.out.drew.trans (hw'.mono HB.out.size)) hbl HC0.out
          try have g1 := cellB' (HB.out.drew.trans (hw'.mono HB.out.size)) hbl HC1.out
          try have g2 := (copy_cells (heap_gr ((Gr.drew wr).trans hw') HG.out)).1
          try have g3 := (copy_cells (heap_gr ((Gr.drew wr).trans hw') HG.out)).2
          go_simp
          with_reducible rfl
        simp only [Act.put, List.setIfInBounds_toArray, List.set_cons_zero, List.set_cons_succ]
        -- 6: slot 18
        refine wpG_take preGr (i := 6) (v := ?_) (by kernel_rfl) (some 18) (by kernel_rfl) rfl (by kernel_rfl) (by kernel_rfl) (by kernel_rfl) (fun _ _ _ h => h) (by rfl) (fun w' hw' => ?_) rfl ?_
        rotate_left
        · try have g0 := cellB' (HB.out.drew.trans (hw'.mono HB.out.size)) hbl HC0.out
          try have g1 := cellB' (HB.out.drew.trans (hw'.mono HB.out.size)) hbl HC1.out
          try have g2 := (copy_cells (heap_gr ((Gr.drew wr).trans hw') HG.out)).1
          try have g3 := (copy_cells (heap_gr ((Gr.drew wr).trans hw') HG.out)).2
          go_simp
          with_reducible rfl
        simp only [Act.put, List.setIfInBounds_toArray, List.set_cons_zero, List.set_cons_succ]
        -- 7: slot 19
        refine wpG_take preGr (i := 7) (v := ?_) (by kernel_rfl) (some 19) (by kernel_rfl) rfl (by kernel_rfl) (by kernel_rfl) (by kernel_rfl) (fun _ _ _ h => h) (by rfl) (fun w' hw' => ?_) rfl ?_
        rotate_left
        · try have g0 := cellB' (HB.out.drew.trans (hw'.mono HB.out.size)) hbl HC0.out
          try have g1 := cellB' (HB.out.drew.trans (hw'.mono HB.out.size)) hbl HC1.out
          try have g2 := (copy_cells (heap_gr ((Gr.drew wr).trans hw') HG.out)).1
          try have g3 := (copy_cells (heap_gr ((Gr.drew wr).trans hw') HG.out)).2
          go_simp
          with_reducible rfl
        simp only [Act.put, List.setIfInBounds_toArray, List.set_cons_zero, List.set_cons_succ]
        -- 8: slot 20
        refine wpG_take preGr (i := 8) (v := ?_) (by kernel_rfl) (some 20) (by kernel_rfl) rfl (by kernel_rfl) (by kernel_rfl) (by kernel_rfl) (fun _ _ _ h => h) (by rfl) (fun w' hw' => ?_) rfl ?_
        rotate_left
        · try have g0 := cellB' (HB.out.drew.trans (hw'.mono HB.out.size)) hbl HC0.out
          try have g1 := cellB' (HB.out.drew.trans (hw'.mono HB.out.size)) hbl HC1.out
          try have g2 := (copy_cells (heap_gr ((Gr.drew wr).trans hw') HG.out)).1
          try have g3 := (copy_cells (heap_gr ((Gr.drew wr).trans hw') HG.out)).2
          go_simp
          with_reducible rfl
        simp only [Act.put, List.setIfInBounds_toArray, List.set_cons_zero, List.set_cons_succ]
        refine wpG_pass preGr (i := 9) (by kernel_rfl) (some 21) (by kernel_rfl) rfl (by kernel_rfl) (by kernel_rfl) (by kernel_rfl) (fun _ _ _ h => h) (by rfl) rfl ?_
        simp only [Act.put, List.setIfInBounds_toArray, List.set_cons_zero, List.set_cons_succ]
        refine wpG_pass preGr (i := 10) (by kernel_rfl) (some 22) (by kernel_rfl) rfl (by kernel_rfl) (by kernel_rfl) (by kernel_rfl) (fun _ _ _ h => h) (by rfl) rfl ?_
        simp only [Act.put, List.setIfInBounds_toArray, List.set_cons_zero, List.set_cons_succ]
        refine wpG_pass preGr (i := 11) (by kernel_rfl) (some 23) (by kernel_rfl) rfl (by kernel_rfl) (by kernel_rfl) (by kernel_rfl) (fun _ _ _ h => h) (by rfl) rfl ?_
        simp only [Act.put, List.setIfInBounds_toArray, List.set_cons_zero, List.set_cons_succ]
        refine wpG_pass preGr (i := 12) (by kernel_rfl) (some 24) (by kernel_rfl) rfl (by kernel_rfl) (by kernel_rfl) (by kernel_rfl) (fun _ _ _ h => h) (by rfl) rfl ?_
        simp only [Act.put, List.setIfInBounds_toArray, List.set_cons_zero, List.set_cons_succ]
        refine wpG_pass preGr (i := 13) (by kernel_rfl) (some 25) (by kernel_rfl) rfl (by kernel_rfl) (by kernel_rfl) (by kernel_rfl) (fun _ _ _ h => h) (by rfl) rfl ?_
        simp only [Act.put, List.setIfInBounds_toArray, List.set_cons_zero, List.set_cons_succ]
        refine wpG_pass preGr (i := 14) (by kernel_rfl) (some 26) (by kernel_rfl) rfl (by kernel_rfl) (by kernel_rfl) (by kernel_rfl) (fun _ _ _ h => h) (by rfl) rfl ?_
        simp only [Act.put, List.setIfInBounds_toArray, List.set_cons_zero, List.set_cons_succ]
        refine wpG_pass preGr (i := 15) (by kernel_rfl) (some 27) (by kernel_rfl) rfl (by kernel_rfl) (by kernel_rfl) (by kernel_rfl) (fun _ _ _ h => h) (by rfl) rfl ?_
        simp only [Act.put, List.setIfInBounds_toArray, List.set_cons_zero, List.set_cons_succ]
        refine wpG_pass preGr (i := 16) (by kernel_rfl) (some 28) (by kernel_rfl) rfl (by kernel_rfl) (by kernel_rfl) (by kernel_rfl) (fun _ _ _ h => h) (by rfl) rfl ?_
        simp only [Act.put, List.setIfInBounds_toArray, List.set_cons_zero, List.set_cons_succ]
        refine wpG_pass preGr (i := 17) (by kernel_rfl) (some 29) (by kernel_rfl) rfl (by kernel_rfl) (by kernel_rfl) (by kernel_rfl) (fun _ _ _ h => h) (by rfl) rfl ?_
        simp only [Act.put, List.setIfInBounds_toArray, List.set_cons_zero, List.set_cons_succ]
        -- 18: slot 30
        refine wpG_take preGr (i := 18) (v := ?_) (by kernel_rfl) (some 30) (by kernel_rfl) rfl (by kernel_rfl) (by kernel_rfl) (by kernel_rfl) (fun _ _ _ h => h) (by rfl) (fun w' hw' => ?_) rfl ?_
        rotate_left
        · try have g0 := cellB' (HB.out.drew.trans (hw'.mono HB.out.size)) hbl HC0.out
          try have g1 := cellB' (HB.out.drew.trans (hw'.mono HB.out.size)) hbl HC1.out
          try have g2 := (copy_cells (heap_gr ((Gr.drew wr).trans hw') HG.out)).1
          try have g3 := (copy_cells (heap_gr ((Gr.drew wr).trans hw') HG.out)).2
          go_simp
          with_reducible rfl
        simp only [Act.put, List.setIfInBounds_toArray, List.set_cons_zero, List.set_cons_succ]
        refine wpG_done (by kernel_rfl) ?_ _
        go_wp2
        go_roundw
        case rel =>
          have HN1 := HN.out
          have HG1 : wr.drew.heap[w.heap.size]? = some (.cells #[.int .i64 T, .slice A L C] 42) := HG.out
          first | exact ⟨k + 1, by omega, by go_num, HN1, HB.out.drew, HG1⟩ | ((repeat apply Exists.intro); exact ⟨⟨k + 1, by omega, by go_num, HN1, HB.out.drew, HG1⟩, rfl⟩)
        case measure => simp [intOf]; omega
    · obtain rfl : k = n := by omega
      have HF : Hid (ruleOf rs (T, l) = none) := ruleOf_no fun j hj => HNE.out j (by omega) hj
      go_wp2
      go_ret
      exact ⟨.inr ⟨rfl, HF.out⟩, HB.out⟩

theorem has_any (ao : Option Addr) (n c : Nat) (ts : List Tg) (t : Int) (w : World) (hr : TR w (.slice ao n c) n ts) (hn : n ≤ 1000) :
    Calls Try.prog 30 #[.slice ao n c, .int .i64 t] w fun e w' => e = .returned (.bool (hasT (plain ts) t)) ∧ w = w' := by
  have hl := hr.len
  have HR := Lib.hid hr
  clear hr
  go_enter Try.func30, Try.ntmps30
  go_wp2
  go_loopw [5] (fun iv wr => ∃ k : Nat, k ≤ n ∧ iv = .int .i64 k ∧ (∀ j (hj : j < k) (h2 : j < ts.length), ts[j].typ ≠ t) ∧ w = wr) (fun iv _ => n - (intOf iv).toNat)
  case atStart => exact ⟨0, Nat.zero_le _, rfl, fun j hj => by omega, rfl⟩
  case round =>
    obtain ⟨k, hk, rfl, hne, rfl⟩ := hrel
    have HNE := Lib.hid hne
    clear hne
    by_cases hlt : k < n
    · obtain ⟨b, o, rfl, hbl, hc⟩ := HR.out.cells (by omega)
      have hc0 := (hc k (by omega)).1
      obtain ⟨T, hT⟩ : ∃ T, T = ts[k].typ := ⟨_, rfl⟩
      rw [← hT] at hc0
      have HTT := Lib.hid hT
      clear hT hc
      by_cases ht : T = t
      · have HF : Hid (hasT (plain ts) t = true) := by
          show _ = _
          rw [hasT_iff]
          exact ⟨ts[k].plain, List.mem_map.2 ⟨_, List.getElem_mem _, rfl⟩, by rw [← ht, HTT.out]; rfl⟩
        have e1 : (T == t) = true := by simpa using ht
        clear ht
        go_wp2
        go_ret
        exact ⟨by rw [HF.out]; rfl, rfl⟩
      · have e1 : (T == t) = false := by simpa using ht
        have HT := Lib.hid ht
        clear ht
        go_wp2
        go_roundw
        case rel =>
          have HN1 : ∀ j (hj : j < k + 1) (h2 : j < ts.length), ts[j].typ ≠ t := fun j hj h2 => by
            by_cases e : j = k
            · subst e; rw [← HTT.out]; exact HT.out
            · exact HNE.out j (by omega) h2
          first | exact ⟨k + 1, by omega, by go_num, HN1, trivial⟩ | exact ⟨k + 1, by omega, by go_num, HN1, rfl⟩ | ((repeat apply Exists.intro); exact ⟨⟨k + 1, by omega, by go_num, HN1, trivial⟩, rfl⟩)
        case measure => simp [intOf]; omega
    · obtain rfl : k = n := by omega
      have HF : Hid (hasT (plain ts) t = false) := by
        show _ = _
        rw [Bool.eq_false_iff]
        intro e
        obtain ⟨x, hx, e⟩ := hasT_iff.1 e
        obtain ⟨y, hy, rfl⟩ := List.mem_map.1 hx
        obtain ⟨i, hi, rfl⟩ := List.mem_iff_getElem.1 hy
        exact HNE.out i (by omega) hi e
      go_wp2
      go_ret
      exact ⟨by rw [HF.out]; rfl, rfl⟩

theorem takeN_pow (l : List UInt8) : ∀ k, k ≤ l.length → takeN l k < 256 ^ k
  | 0, _ => by rw [takeN_zero]; decide
  | k + 1, h => by
    have ih := takeN_pow l k (by omega)
    have hb := UInt8.toNat_lt l[k]
    rw [takeN_succ l k (by omega), Nat.pow_succ]
    omega
set_option maxRecDepth 20000 in
theorem number_any (T : Int) (A : Option Addr) (L C : Nat) (l : List UInt8) (hL : l.length = L) (h4 : L ≤ 4) (w : World) (hb : Bs w (.slice A L C) l) :
    Calls Try.prog 31 #[.agg #[.int .i64 T, .slice A L C]] w fun e w' => e = .returned (.int .i64 (num (T, l))) ∧ Below w.heap.size w w' := by
  have HAL : Hid (Gr w (w.alloc (.cells #[.int .i64 T, .slice A L C] 42))) := (Gr.refl w).alloc _
  have HG0 : Hid ((w.alloc (.cells #[.int .i64 T, .slice A L C] 42)).heap[w.heap.size]? = some (.cells #[.int .i64 T, .slice A L C] 42)) := heap_alloc_last _ _
  have HLL := Lib.hid hL
  have HB := Lib.hid hb
  clear hb hL
  go_enter Try.func31, Try.ntmps31
  go_wp2
  go_loopw [3, 4] (fun nv iv wr => ∃ k m : Nat, k ≤ L ∧ m = takeN l k ∧ iv = .int .i64 k ∧ nv = .int .i64 (m : Nat) ∧ wr.heap[w.heap.size]? = some (.cells #[.int .i64 T, .slice A L C] 42) ∧ Gr w wr) (fun _ iv _ => L - (intOf iv).toNat)
  case atStart => exact ⟨0, 0, Nat.zero_le _, (takeN_zero l).symm, rfl, rfl, HG0.out, HAL.out⟩
  case round =>
    obtain ⟨k, m, hk, hm, rfl, rfl, hg, hgr⟩ := hrel
    have HG := Lib.hid hg
    have HGR := Lib.hid hgr
    obtain ⟨k0, k1⟩ := copy_cells hg
    clear hg hgr
    by_cases hlt : k < L
    · obtain ⟨b, o, rfl, hbl, hc⟩ := (HB.out.below HGR.out).cells (by rw [HLL.out]; omega)
      have hck := hc k (by rw [HLL.out]; exact hlt)
      have hm' : m < 4294967296 := by rw [hm]; exact Nat.lt_of_lt_of_le (takeN_pow l k (by rw [HLL.out]; omega)) (Nat.pow_le_pow_right (by decide) (show k ≤ 4 by omega))
      have hb8 := UInt8.toNat_lt (l[k]'(by rw [HLL.out]; exact hlt))
      have HST : Hid (takeN l (k + 1) = 256 * m + (l[k]'(by rw [HLL.out]; exact hlt)).toNat) := by
        show _ = _
        rw [takeN_succ l k (by rw [HLL.out]; exact hlt), hm, Nat.mul_comm]
      obtain ⟨B, hB⟩ : ∃ B, B = (l[k]'(by rw [HLL.out]; exact hlt)).toNat := ⟨_, rfl⟩
      rw [← hB] at hck hb8 HST
      have hkl : (k : Int) < (L : Int) := by omega
      clear hm hc hB
      go_wp2
      go_roundw
      case rel =>
        have hst := HST.out
        first | exact ⟨k + 1, 256 * m + B, by omega, hst.symm, by go_num, by go_num, HG.out, HGR.out⟩ | ((repeat apply Exists.intro); exact ⟨⟨k + 1, 256 * m + B, by omega, hst.symm, by go_num, by go_num, HG.out, HGR.out⟩, rfl⟩)
      case measure => simp [intOf]; omega
    · obtain rfl : k = L := by omega
      have HM : Hid (num (T, l) = (m : Int)) := by
        show _ = _
        unfold num
        rw [hm]
        show ((takeN l l.length : Nat) : Int) = _
        rw [HLL.out]
      clear hm
      go_wp2
      go_ret
      exact ⟨by rw [HM.out]; rfl, HGR.out⟩
theorem rput_zero (w : World) (n : Int) : Calls Try.prog 48 #[.int .u64 n, .int .i64 0] w fun e w' => e = .returned (.slice none 0 0) ∧ w = w' := by
  go_enter Try.func48, Try.ntmps48
  go_wp2
  go_ret
  exact ⟨rfl, rfl⟩
theorem rput_small (n size : Nat) (w : World) (h1 : size ≤ 4) (hn : n < 18446744073709551616) :
    Calls Try.prog 48 #[.int .u64 n, .int .i64 size] w fun e w' => ∃ v, e = .returned v ∧ OwnB w' w.heap.size 5 v (putL n size) ∧ Below w.heap.size w w' := by
  by_cases h0 : size = 0
  · subst h0
    refine (rput_zero w n).mono ?_
    rintro e w' ⟨rfl, rfl⟩
    exact ⟨_, rfl, by rw [putL_zero]; exact OwnB.nil _ _ _, Below.refl _ _⟩
  · exact rput_yes n size w (by omega) (by omega) hn

set_option maxRecDepth 20000 in
set_option maxHeartbeats 2000000 in
theorem rgood_any (r : Ru) (w : World) (hr : isR r) :
    Calls Try.prog 32 #[.agg #[.int .i64 r.typ, .int .i64 r.size, .int .i64 r.kind, .int .i64 r.low, .int .i64 r.high, .int .i64 r.good, .bool r.must]] w fun e w' => ∃ v, e = .returned (.agg #[.int .i64 r.typ, v]) ∧ OwnB w' w.heap.size 5 v (goodO r).2 ∧ Below w.heap.size w w' := by
  obtain ⟨n, hn⟩ : ∃ n : Nat, r.size = (n : Int) := ⟨r.size.toNat, by have := hr.2.2.1; omega⟩
  obtain ⟨N, hN⟩ : ∃ N : Nat, r.good = (N : Int) := ⟨r.good.toNat, by have := hr.2.2.2.2.2.2.2.2.2.1; omega⟩
  have h4 : n ≤ 4 := by have := hr.2.2.2.1; omega
  have hlt : N < 4294967296 := by
    have h1 := hr.2.2.2.2.2.2.2.2.2.2.1
    rcases lim_cases ⟨hr.2.2.1, hr.2.2.2.1⟩ with ⟨_, e⟩ | ⟨_, e⟩ | ⟨_, e⟩ | ⟨_, e⟩ | ⟨_, e⟩ <;> omega
  have e2 : (goodO r).2 = putL N n := by
    show putL r.good.toNat r.size.toNat = _
    rw [hn, hN]; rfl
  rw [e2, hn, hN]
  have hal : Gr w ((w.alloc (.cells #[.int .i64 r.typ, .int .i64 n, .int .i64 r.kind, .int .i64 r.low, .int .i64 r.high, .int .i64 N, .bool r.must] 39)).alloc (.cells #[.int .i64 0, .slice none 0 0] 42)) := ((Gr.refl w).alloc _).alloc _
  have HAL := Lib.hid hal
  have HG0 : Hid (((w.alloc (.cells #[.int .i64 r.typ, .int .i64 n, .int .i64 r.kind, .int .i64 r.low, .int .i64 r.high, .int .i64 N, .bool r.must] 39)).alloc (.cells #[.int .i64 0, .slice none 0 0] 42)).heap[w.heap.size]? = some (.cells #[.int .i64 r.typ, .int .i64 n, .int .i64 r.kind, .int .i64 r.low, .int .i64 r.high, .int .i64 N, .bool r.must] 39)) := heap2_0' _ _ _
  have HG1 : Hid (((w.alloc (.cells #[.int .i64 r.typ, .int .i64 n, .int .i64 r.kind, .int .i64 r.low, .int .i64 r.high, .int .i64 N, .bool r.must] 39)).alloc (.cells #[.int .i64 0, .slice none 0 0] 42)).heap[w.heap.size + 1]? = some (.cells #[.int .i64 0, .slice none 0 0] 42)) := heap2_1' _ _ _
  have HW : Hid (IntKind.u64.wrap (N : Int) = (N : Int)) := by
    show _ = _
    rw [IntKind.wrap_u64]; omega
  have PU : Hid (∀ w', Calls Try.prog 48 #[.int .u64 N, .int .i64 n] w' fun e w3 => ∃ v, e = .returned v ∧ OwnB w3 w'.heap.size 5 v (putL N n) ∧ Below w'.heap.size w' w3) := fun w' => rput_small N n w' h4 (by omega)
  have HL : Hid ((putL N n).length = n) := by show _ = _; rw [putL_length]
  clear hal hr hn hN h4 hlt e2
  go_enter Try.func32, Try.ntmps32
  go_upto_region 1 with fail
  obtain ⟨wq, hwq⟩ : ∃ wq, wq = ((w.alloc (.cells #[.int .i64 r.typ, .int .i64 n, .int .i64 r.kind, .int .i64 r.low, .int .i64 r.high, .int .i64 N, .bool r.must] 39)).alloc (.cells #[.int .i64 0, .slice none 0 0] 42)) := ⟨_, rfl⟩
  rw [← hwq]
  rw [← hwq] at HAL HG0 HG1
  clear hwq
  refine wp_region_G 9 Gr (by kernel_rfl) ?_
  -- 0: slot 3
  refine wpG_take preGr (i := 0) (v := ?_) (by kernel_rfl) (some 3) (by kernel_rfl) rfl (by kernel_rfl) (by kernel_rfl) (by kernel_rfl) (fun _ _ _ h => h) (by rfl) (fun w' hw' => ?_) rfl ?_
  rotate_left
  · obtain ⟨g0, g1, g2, g3, g4, g5, g6⟩ := cells7 (heap_gr ((Gr.drew wq).trans hw') HG0.out)
    have hw64 := HW.out
    go_simp
    with_reducible rfl
  simp only [Act.put, List.setIfInBounds_toArray, List.set_cons_zero, List.set_cons_succ]
  -- 1: slot 4
  refine wpG_take preGr (i := 1) (v := ?_) (by kernel_rfl) (some 4) (by kernel_rfl) rfl (by kernel_rfl) (by kernel_rfl) (by kernel_rfl) (fun _ _ _ h => h) (by rfl) (fun w' hw' => ?_) rfl ?_
  rotate_left
  · obtain ⟨g0, g1, g2, g3, g4, g5, g6⟩ := cells7 (heap_gr ((Gr.drew wq).trans hw') HG0.out)
    have hw64 := HW.out
    go_simp
    with_reducible rfl
  simp only [Act.put, List.setIfInBounds_toArray, List.set_cons_zero, List.set_cons_succ]
  -- 2: slot 5
  refine wpG_take preGr (i := 2) (v := ?_) (by kernel_rfl) (some 5) (by kernel_rfl) rfl (by kernel_rfl) (by kernel_rfl) (by kernel_rfl) (fun _ _ _ h => h) (by rfl) (fun w' hw' => ?_) rfl ?_
  rotate_left
  · obtain ⟨g0, g1, g2, g3, g4, g5, g6⟩ := cells7 (heap_gr ((Gr.drew wq).trans hw') HG0.out)
    have hw64 := HW.out
    go_simp
    with_reducible rfl
  simp only [Act.put, List.setIfInBounds_toArray, List.set_cons_zero, List.set_cons_succ]
  -- 3: slot 6
  refine wpG_take preGr (i := 3) (v := ?_) (by kernel_rfl) (some 6) (by kernel_rfl) rfl (by kernel_rfl) (by kernel_rfl) (by kernel_rfl) (fun _ _ _ h => h) (by rfl) (fun w' hw' => ?_) rfl ?_
  rotate_left
  · obtain ⟨g0, g1, g2, g3, g4, g5, g6⟩ := cells7 (heap_gr ((Gr.drew wq).trans hw') HG0.out)
    have hw64 := HW.out
    go_simp
    with_reducible rfl
  simp only [Act.put, List.setIfInBounds_toArray, List.set_cons_zero, List.set_cons_succ]
  -- 4: slot 7
  refine wpG_take preGr (i := 4) (v := ?_) (by kernel_rfl) (some 7) (by kernel_rfl) rfl (by kernel_rfl) (by kernel_rfl) (by kernel_rfl) (fun _ _ _ h => h) (by rfl) (fun w' hw' => ?_) rfl ?_
  rotate_left
  · obtain ⟨g0, g1, g2, g3, g4, g5, g6⟩ := cells7 (heap_gr ((Gr.drew wq).trans hw') HG0.out)
    have hw64 := HW.out
    go_simp
    with_reducible rfl
  simp only [Act.put, List.setIfInBounds_toArray, List.set_cons_zero, List.set_cons_succ]
  -- 5: slot 8
  refine wpG_take preGr (i := 5) (v := ?_) (by kernel_rfl) (some 8) (by kernel_rfl) rfl (by kernel_rfl) (by kernel_rfl) (by kernel_rfl) (fun _ _ _ h => h) (by rfl) (fun w' hw' => ?_) rfl ?_
  rotate_left
  · obtain ⟨g0, g1, g2, g3, g4, g5, g6⟩ := cells7 (heap_gr ((Gr.drew wq).trans hw') HG0.out)
    have hw64 := HW.out
    go_simp
    with_reducible rfl
  simp only [Act.put, List.setIfInBounds_toArray, List.set_cons_zero, List.set_cons_succ]
  -- 6: slot 9
  refine wpG_take preGr (i := 6) (v := ?_) (by kernel_rfl) (some 9) (by kernel_rfl) rfl (by kernel_rfl) (by kernel_rfl) (by kernel_rfl) (fun _ _ _ h => h) (by rfl) (fun w' hw' => ?_) rfl ?_
  rotate_left
  · obtain ⟨g0, g1, g2, g3, g4, g5, g6⟩ := cells7 (heap_gr ((Gr.drew wq).trans hw') HG0.out)
    have hw64 := HW.out
    go_simp
    with_reducible rfl
  simp only [Act.put, List.setIfInBounds_toArray, List.set_cons_zero, List.set_cons_succ]
  refine wpG_one (i := 7) rfl (by kernel_rfl) (by rfl) ?_
  go_simp
  refine (PU.out _).mono ?_
  rintro e w3 ⟨v3, rfl, hown3, hb3⟩
  obtain ⟨A3, L3, C3, ev, hL3, _, _⟩ := hown3.bs.sl
  subst ev
  refine ⟨hb3, ?_⟩
  have hq3 : Gr wq w3 := (Gr.drew wq).trans hb3
  have HB3 := Lib.hid (HAL.out.trans hq3)
  have HG3 := Lib.hid (heap_gr hq3 HG1.out)
  have HO3 := Lib.hid (hown3.mono (base' := w.heap.size) (show w.heap.size ≤ wq.drew.heap.size from HAL.out.size))
  clear hown3 hb3 hq3 hL3
  try simp only [Act.put, List.setIfInBounds_toArray, List.set_cons_zero, List.set_cons_succ]
  -- 8: slot 11
  refine wpG_take preGr (i := 8) (v := ?_) (by kernel_rfl) (some 11) (by kernel_rfl) rfl (by kernel_rfl) (by kernel_rfl) (by kernel_rfl) (fun _ _ _ h => h) (by rfl) (fun w' hw' => ?_) rfl ?_
  rotate_left
  · refine Eq.trans (build_run (P := Try.prog) 42 [(0, .tmp 4), (1, .tmp 10)] ?_ #[.int .i64 r.typ, .slice A3 L3 C3] ?_) ?_
    · rfl
    · exact O.builtT r.typ A3 L3 C3
    · with_reducible rfl
  simp only [Act.put, List.setIfInBounds_toArray, List.set_cons_zero, List.set_cons_succ]
  refine wpG_tail (i := 9) (by decide) rfl (by kernel_rfl) (by rfl) ?_
  refine wp_store_whole (none) 42 (.tmp 2) (.tmp 11) rfl (w.heap.size + 1) [.int .i64 r.typ, .slice A3 L3 C3] rfl rfl 42 [.int .i64 0, .slice none 0 0] HG3.out O.sizeT rfl (O.one_tag _ rfl) rfl ?_
  intro w4 h4 ho4
  have H4 := Lib.hid h4
  have HB4 : Hid (Below w.heap.size w w4) := ho4.below _ _ (Nat.le_succ _) HB3.out
  have HO4 := Lib.hid (HO3.out.off ho4 (fun q hq e => own_ne_cell HO3.out HG3.out (by decide) (by rw [hq, e])))
  clear h4 ho4
  try simp only [Act.put, List.setIfInBounds_toArray, List.set_cons_zero, List.set_cons_succ]
  refine wpG_done (by kernel_rfl) ?_ _
  go_wp2
  refine bodyPost_ret (v := .agg #[.int .i64 r.typ, .slice A3 L3 C3]) (results_cell_row (P := Try.prog) (fn := Try.f32) rfl _ _ (w.heap.size + 1) 42 _ (0, 0) _ rfl H4.out Try.underlying42 rfl (by kernel_rfl)) rfl ?_
  exact ⟨_, rfl, HO4.out, HB4.out⟩
end Go.Proofs.Ytbldcjngccmhpaa.Ng
