/-
  The laws' Opts; the document's Copy.
-/
import Derived.Test.YtbldcjngccmhpaaNgU
import Derived.Test.YtbldcjngccmhpaaNgJ
namespace Go.Proofs.Ytbldcjngccmhpaa.Ng
open Go.RowKit O
set_option linter.unusedVariables false
set_option linter.unusedSimpArgs false
theorem cellB {B b o : Nat} {w w' : World} {v : Value} (hb : Below B w w') (h : b < B) (hc : w.cell? ⟨b, o, none⟩ = some v) : w'.cell? ⟨b, o, none⟩ = some v := by
  rw [World.cell?_of_block (w := w) (hb.block b h)]; exact hc

set_option maxRecDepth 20000 in
set_option maxHeartbeats 4000000 in
theorem opts_any (ao : Option Addr) (n c : Nat) (ts : List Tg) (w : World) (hr : TR w (.slice ao n c) n ts) (hI : ∀ x ∈ ts, I64 x.typ) :
    Calls Try.prog 10 #[.slice ao n c] w fun e w' => ∃ a' m c' us, e = .returned (.slice a' m c') ∧ TR w' (.slice a' m c') m us ∧ m ≤ 20 ∧ (∀ x ∈ us, x.l.length ≤ 20) ∧ (∀ x ∈ us, I64 x.typ) ∧ Below w.heap.size w w' := by
  obtain ⟨i0, hi, hz0, hz1, hz2⟩ := info_parts infoT
  obtain ⟨i5, hi5, _, hs5, _⟩ := info_parts info5
  have hl := hr.len
  have HR := Lib.hid hr
  have HI := Lib.hid hI
  have hcc : n ≤ c ∧ c ≤ maxLen := by
    obtain ⟨_, _, es, h1, h2⟩ := hr.shape
    simp only [Value.slice.injEq] at es
    obtain ⟨_, _, rfl⟩ := es
    exact ⟨h1, h2⟩
  obtain ⟨hc1, hc2⟩ := hcc
  unfold maxLen at hc2
  clear hr hI
  go_enter Try.func10, Try.ntmps10
  go_wp2
  go_loopw [3, 4] (fun ov iv wr => ∃ (k : Nat) (us : List Tg) (lv : Value), k ≤ n ∧ k ≤ 20 ∧ iv = .int .i64 k ∧ lv = ov ∧ wr.ownsRow w.heap.size 42 2 lv k (flat us) ∧ (∀ x ∈ us, Bs w x.val x.l ∧ x.l.length ≤ 20 ∧ I64 x.typ) ∧ Below w.heap.size w wr) (fun _ iv _ => 20 - (intOf iv).toNat)
  case atStart => exact ⟨0, [], _, Nat.zero_le _, Nat.zero_le _, rfl, rfl, World.ownsRow_nil _ _ _ _, (fun x h => by cases h), Below.refl _ _⟩
  case round =>
    obtain ⟨k, us, lv, hk, hk20, rfl, rfl, hown, hus, hb⟩ := hrel
    have HO := Lib.hid hown
    have HUS := Lib.hid hus
    have HB := Lib.hid hb
    have HBN := Lib.hid hb.size
    clear hown hus hb
    have HDONE : Hid (TR wr lv k us) := ⟨own_rd HO.out, fun x hx => (HUS.out x hx).1.below HB.out⟩
    by_cases hlt : k < n
    · by_cases hlt2 : k < 20
      · obtain ⟨b, o, rfl, hbl, hc⟩ := HR.out.cells (by omega)
        obtain ⟨hc0, hc1'⟩ := hc k (by omega)
        have HV := Lib.hid (HR.out.val k (by omega))
        obtain ⟨A, L, C, hv, hL, hLC, hCm⟩ := HV.out.sl
        rw [hv] at hc1'
        obtain ⟨T, hT⟩ : ∃ T, T = ts[k].typ := ⟨_, rfl⟩
        rw [← hT] at hc0
        have HTI : Hid (I64 T) := by show I64 T; rw [hT]; exact HI.out _ (List.getElem_mem _)
        obtain ⟨l, hlq⟩ : ∃ l, l = ts[k].l := ⟨_, rfl⟩
        have hb0 : Bs w (.slice A L C) l := by rw [hlq, ← hv]; exact HV.out
        obtain ⟨M, hM⟩ : ∃ M, M = min L 20 := ⟨_, rfl⟩
        have hll : l.length = L := by rw [hlq]; exact hL
        have hrd : Rd w 1 (.slice A L C) L (l.map u8v) := by
          have := hb0
          unfold Bs at this
          rwa [hll] at this
        obtain ⟨a', hsl, hr2⟩ := slice_upto (P := Try.prog) Try.underlying40 hi5 hs5 hrd .i64 M M rfl (by omega)
        rw [take_u8'] at hr2
        have HB2 : Hid (Bs w (.slice a' M C) (l.take M)) := Bs.of_rd hr2 rfl
        have HL2 : Hid ((l.take M).length ≤ 20) := by show _ ≤ _; rw [List.length_take]; omega
        have hmin : (if (20 : Int) < (L : Int) then (20 : Int) else (L : Int)) = (M : Int) := by split <;> omega
        have HMIN := Lib.hid hmin
        have HS := Lib.hid hsl
        have hMC : M ≤ C := by omega
        have hMC2 : (M : Int) ≤ (C : Int) := by omega
        have HC0 := Lib.hid hc0
        have HC1 := Lib.hid hc1'
        have hkn : k < n := hlt
        have hkn2 : (k : Int) < (n : Int) := by omega
        unfold maxLen at hCm
        clear hv hL hT hc hb0 hll hrd hr2 hlq hmin hsl hc0 hc1' hM
        go_upto_region 5 with fail
        refine wp_region_G 23 (Below (w.heap.size)) (by kernel_rfl) ?_
        -- 0: slot 15
        refine wpG_take (preBelow (w.heap.size)) (i := 0) (v := ?_) (by kernel_rfl) (some 15) (by kernel_rfl) rfl (by kernel_rfl) (by kernel_rfl) (by kernel_rfl) (fun _ _ _ h => h) (by rfl) (fun w' hw' => ?_) rfl ?_
        rotate_left
        · try have g0 := cellB (HB.out.drew.trans hw') hbl HC0.out
          try have g1 := cellB (HB.out.drew.trans hw') hbl HC1.out
          have g2 := HMIN.out
          have g3 := HS.out
          go_simp
          with_reducible rfl
        simp only [Act.put, List.setIfInBounds_toArray, List.set_cons_zero, List.set_cons_succ]
        -- 1: slot 16
        refine wpG_take (preBelow (w.heap.size)) (i := 1) (v := ?_) (by kernel_rfl) (some 16) (by kernel_rfl) rfl (by kernel_rfl) (by kernel_rfl) (by kernel_rfl) (fun _ _ _ h => h) (by rfl) (fun w' hw' => ?_) rfl ?_
        rotate_left
        · try have g0 := cellB (HB.out.drew.trans hw') hbl HC0.out
          try have g1 := cellB (HB.out.drew.trans hw') hbl HC1.out
          have g2 := HMIN.out
          have g3 := HS.out
          go_simp
          with_reducible rfl
        simp only [Act.put, List.setIfInBounds_toArray, List.set_cons_zero, List.set_cons_succ]
        -- 2: slot 17
        refine wpG_take (preBelow (w.heap.size)) (i := 2) (v := ?_) (by kernel_rfl) (some 17) (by kernel_rfl) rfl (by kernel_rfl) (by kernel_rfl) (by kernel_rfl) (fun _ _ _ h => h) (by rfl) (fun w' hw' => ?_) rfl ?_
        rotate_left
        · try have g0 := cellB (HB.out.drew.trans hw') hbl HC0.out
          try have g1 := cellB (HB.out.drew.trans hw') hbl HC1.out
          have g2 := HMIN.out
          have g3 := HS.out
          go_simp
          with_reducible rfl
        simp only [Act.put, List.setIfInBounds_toArray, List.set_cons_zero, List.set_cons_succ]
        -- 3: slot 18
        refine wpG_take (preBelow (w.heap.size)) (i := 3) (v := ?_) (by kernel_rfl) (some 18) (by kernel_rfl) rfl (by kernel_rfl) (by kernel_rfl) (by kernel_rfl) (fun _ _ _ h => h) (by rfl) (fun w' hw' => ?_) rfl ?_
        rotate_left
        · try have g0 := cellB (HB.out.drew.trans hw') hbl HC0.out
          try have g1 := cellB (HB.out.drew.trans hw') hbl HC1.out
          have g2 := HMIN.out
          have g3 := HS.out
          go_simp
          with_reducible rfl
        simp only [Act.put, List.setIfInBounds_toArray, List.set_cons_zero, List.set_cons_succ]
        -- 4: slot 19
        refine wpG_take (preBelow (w.heap.size)) (i := 4) (v := ?_) (by kernel_rfl) (some 19) (by kernel_rfl) rfl (by kernel_rfl) (by kernel_rfl) (by kernel_rfl) (fun _ _ _ h => h) (by rfl) (fun w' hw' => ?_) rfl ?_
        rotate_left
        · try have g0 := cellB (HB.out.drew.trans hw') hbl HC0.out
          try have g1 := cellB (HB.out.drew.trans hw') hbl HC1.out
          have g2 := HMIN.out
          have g3 := HS.out
          go_simp
          with_reducible rfl
        simp only [Act.put, List.setIfInBounds_toArray, List.set_cons_zero, List.set_cons_succ]
        -- 5: slot 20
        refine wpG_take (preBelow (w.heap.size)) (i := 5) (v := ?_) (by kernel_rfl) (some 20) (by kernel_rfl) rfl (by kernel_rfl) (by kernel_rfl) (by kernel_rfl) (fun _ _ _ h => h) (by rfl) (fun w' hw' => ?_) rfl ?_
        rotate_left
        · try have g0 := cellB (HB.out.drew.trans hw') hbl HC0.out
          try have g1 := cellB (HB.out.drew.trans hw') hbl HC1.out
          have g2 := HMIN.out
          have g3 := HS.out
          go_simp
          with_reducible rfl
        simp only [Act.put, List.setIfInBounds_toArray, List.set_cons_zero, List.set_cons_succ]
        -- 6: slot 21
        refine wpG_take (preBelow (w.heap.size)) (i := 6) (v := ?_) (by kernel_rfl) (some 21) (by kernel_rfl) rfl (by kernel_rfl) (by kernel_rfl) (by kernel_rfl) (fun _ _ _ h => h) (by rfl) (fun w' hw' => ?_) rfl ?_
        rotate_left
        · try have g0 := cellB (HB.out.drew.trans hw') hbl HC0.out
          try have g1 := cellB (HB.out.drew.trans hw') hbl HC1.out
          have g2 := HMIN.out
          have g3 := HS.out
          go_simp
          with_reducible rfl
        simp only [Act.put, List.setIfInBounds_toArray, List.set_cons_zero, List.set_cons_succ]
        -- 7: slot 22
        refine wpG_take (preBelow (w.heap.size)) (i := 7) (v := ?_) (by kernel_rfl) (some 22) (by kernel_rfl) rfl (by kernel_rfl) (by kernel_rfl) (by kernel_rfl) (fun _ _ _ h => h) (by rfl) (fun w' hw' => ?_) rfl ?_
        rotate_left
        · try have g0 := cellB (HB.out.drew.trans hw') hbl HC0.out
          try have g1 := cellB (HB.out.drew.trans hw') hbl HC1.out
          have g2 := HMIN.out
          have g3 := HS.out
          go_simp
          with_reducible rfl
        simp only [Act.put, List.setIfInBounds_toArray, List.set_cons_zero, List.set_cons_succ]
        -- 8: slot 23
        refine wpG_take (preBelow (w.heap.size)) (i := 8) (v := ?_) (by kernel_rfl) (some 23) (by kernel_rfl) rfl (by kernel_rfl) (by kernel_rfl) (by kernel_rfl) (fun _ _ _ h => h) (by rfl) (fun w' hw' => ?_) rfl ?_
        rotate_left
        · try have g0 := cellB (HB.out.drew.trans hw') hbl HC0.out
          try have g1 := cellB (HB.out.drew.trans hw') hbl HC1.out
          have g2 := HMIN.out
          have g3 := HS.out
          go_simp
          with_reducible rfl
        simp only [Act.put, List.setIfInBounds_toArray, List.set_cons_zero, List.set_cons_succ]
        -- 9: slot 24
        refine wpG_take (preBelow (w.heap.size)) (i := 9) (v := ?_) (by kernel_rfl) (some 24) (by kernel_rfl) rfl (by kernel_rfl) (by kernel_rfl) (by kernel_rfl) (fun _ _ _ h => h) (by rfl) (fun w' hw' => ?_) rfl ?_
        rotate_left
        · try have g0 := cellB (HB.out.drew.trans hw') hbl HC0.out
          try have g1 := cellB (HB.out.drew.trans hw') hbl HC1.out
          have g2 := HMIN.out
          have g3 := HS.out
          go_simp
          with_reducible rfl
        simp only [Act.put, List.setIfInBounds_toArray, List.set_cons_zero, List.set_cons_succ]
        -- 10: slot 25
        refine wpG_take (preBelow (w.heap.size)) (i := 10) (v := ?_) (by kernel_rfl) (some 25) (by kernel_rfl) rfl (by kernel_rfl) (by kernel_rfl) (by kernel_rfl) (fun _ _ _ h => h) (by rfl) (fun w' hw' => ?_) rfl ?_
        rotate_left
        · try have g0 := cellB (HB.out.drew.trans hw') hbl HC0.out
          try have g1 := cellB (HB.out.drew.trans hw') hbl HC1.out
          have g2 := HMIN.out
          have g3 := HS.out
          go_simp
          with_reducible rfl
        simp only [Act.put, List.setIfInBounds_toArray, List.set_cons_zero, List.set_cons_succ]
        -- 11: slot 26
        refine wpG_take (preBelow (w.heap.size)) (i := 11) (v := ?_) (by kernel_rfl) (some 26) (by kernel_rfl) rfl (by kernel_rfl) (by kernel_rfl) (by kernel_rfl) (fun _ _ _ h => h) (by rfl) (fun w' hw' => ?_) rfl ?_
        rotate_left
        · try have g0 := cellB (HB.out.drew.trans hw') hbl HC0.out
          try have g1 := cellB (HB.out.drew.trans hw') hbl HC1.out
          have g2 := HMIN.out
          have g3 := HS.out
          go_simp
          with_reducible rfl
        simp only [Act.put, List.setIfInBounds_toArray, List.set_cons_zero, List.set_cons_succ]
        -- 12: slot 27
        refine wpG_take (preBelow (w.heap.size)) (i := 12) (v := ?_) (by kernel_rfl) (some 27) (by kernel_rfl) rfl (by kernel_rfl) (by kernel_rfl) (by kernel_rfl) (fun _ _ _ h => h) (by rfl) (fun w' hw' => ?_) rfl ?_
        rotate_left
        · try have g0 := cellB (HB.out.drew.trans hw') hbl HC0.out
          try have g1 := cellB (HB.out.drew.trans hw') hbl HC1.out
          have g2 := HMIN.out
          have g3 := HS.out
          go_simp
          with_reducible rfl
        simp only [Act.put, List.setIfInBounds_toArray, List.set_cons_zero, List.set_cons_succ]
        -- 13: slot 28
        refine wpG_take (preBelow (w.heap.size)) (i := 13) (v := ?_) (by kernel_rfl) (some 28) (by kernel_rfl) rfl (by kernel_rfl) (by kernel_rfl) (by kernel_rfl) (fun _ _ _ h => h) (by rfl) (fun w' hw' => ?_) rfl ?_
        rotate_left
        · try have g0 := cellB (HB.out.drew.trans hw') hbl HC0.out
          try have g1 := cellB (HB.out.drew.trans hw') hbl HC1.out
          have g2 := HMIN.out
          have g3 := HS.out
          go_simp
          with_reducible rfl
        simp only [Act.put, List.setIfInBounds_toArray, List.set_cons_zero, List.set_cons_succ]
        -- 14: slot 29
        refine wpG_take (preBelow (w.heap.size)) (i := 14) (v := ?_) (by kernel_rfl) (some 29) (by kernel_rfl) rfl (by kernel_rfl) (by kernel_rfl) (by kernel_rfl) (fun _ _ _ h => h) (by rfl) (fun w' hw' => ?_) rfl ?_
        rotate_left
        · try have g0 := cellB (HB.out.drew.trans hw') hbl HC0.out
          try have g1 := cellB (HB.out.drew.trans hw') hbl HC1.out
          have g2 := HMIN.out
          have g3 := HS.out
          go_simp
          with_reducible rfl
        simp only [Act.put, List.setIfInBounds_toArray, List.set_cons_zero, List.set_cons_succ]
        -- 15: slot 30
        refine wpG_take (preBelow (w.heap.size)) (i := 15) (v := ?_) (by kernel_rfl) (some 30) (by kernel_rfl) rfl (by kernel_rfl) (by kernel_rfl) (by kernel_rfl) (fun _ _ _ h => h) (by rfl) (fun w' hw' => ?_) rfl ?_
        rotate_left
        · try have g0 := cellB (HB.out.drew.trans hw') hbl HC0.out
          try have g1 := cellB (HB.out.drew.trans hw') hbl HC1.out
          have g2 := HMIN.out
          have g3 := HS.out
          go_simp
          with_reducible rfl
        simp only [Act.put, List.setIfInBounds_toArray, List.set_cons_zero, List.set_cons_succ]
        -- 16: slot 31
        refine wpG_take (preBelow (w.heap.size)) (i := 16) (v := ?_) (by kernel_rfl) (some 31) (by kernel_rfl) rfl (by kernel_rfl) (by kernel_rfl) (by kernel_rfl) (fun _ _ _ h => h) (by rfl) (fun w' hw' => ?_) rfl ?_
        rotate_left
        · try have g0 := cellB (HB.out.drew.trans hw') hbl HC0.out
          try have g1 := cellB (HB.out.drew.trans hw') hbl HC1.out
          have g2 := HMIN.out
          have g3 := HS.out
          go_simp
          with_reducible rfl
        simp only [Act.put, List.setIfInBounds_toArray, List.set_cons_zero, List.set_cons_succ]
        -- 17: slot 32
        refine wpG_take (preBelow (w.heap.size)) (i := 17) (v := ?_) (by kernel_rfl) (some 32) (by kernel_rfl) rfl (by kernel_rfl) (by kernel_rfl) (by kernel_rfl) (fun _ _ _ h => h) (by rfl) (fun w' hw' => ?_) rfl ?_
        rotate_left
        · try have g0 := cellB (HB.out.drew.trans hw') hbl HC0.out
          try have g1 := cellB (HB.out.drew.trans hw') hbl HC1.out
          have g2 := HMIN.out
          have g3 := HS.out
          go_simp
          with_reducible rfl
        simp only [Act.put, List.setIfInBounds_toArray, List.set_cons_zero, List.set_cons_succ]
        -- 18: slot 33
        refine wpG_take (preBelow (w.heap.size)) (i := 18) (v := ?_) (by kernel_rfl) (some 33) (by kernel_rfl) rfl (by kernel_rfl) (by kernel_rfl) (by kernel_rfl) (fun _ _ _ h => h) (by rfl) (fun w' hw' => ?_) rfl ?_
        rotate_left
        · try have g0 := cellB (HB.out.drew.trans hw') hbl HC0.out
          try have g1 := cellB (HB.out.drew.trans hw') hbl HC1.out
          have g2 := HMIN.out
          have g3 := HS.out
          go_simp
          with_reducible rfl
        simp only [Act.put, List.setIfInBounds_toArray, List.set_cons_zero, List.set_cons_succ]
        -- 19: slot 34
        refine wpG_take (preBelow (w.heap.size)) (i := 19) (v := ?_) (by kernel_rfl) (some 34) (by kernel_rfl) rfl (by kernel_rfl) (by kernel_rfl) (by kernel_rfl) (fun _ _ _ h => h) (by rfl) (fun w' hw' => ?_) rfl ?_
        rotate_left
        · refine Eq.trans (build_run (P := Try.prog) 42 [(0, .tmp 20), (1, .tmp 33)] ?_ #[.int .i64 T, .slice a' M C] ?_) ?_
          · rfl
          · exact builtT T a' M C
          · with_reducible rfl
        simp only [Act.put, List.setIfInBounds_toArray, List.set_cons_zero, List.set_cons_succ]
        refine wpG_one (i := 20) rfl (by kernel_rfl) (by rfl) ?_
        go_simp
        refine ⟨(Below.refl w.heap.size wr.drew).alloc HBN.out _, ?_⟩
        have hal : Gr wr (wr.drew.alloc (.cells #[.int .i64 T, .slice a' M C] 42)) := (Gr.drew wr).trans ((Gr.refl _).alloc _)
        have HB3 := Lib.hid (HB.out.trans (Below.mono hal HBN.out))
        have HO3 := Lib.hid (ownsRow_below HO.out hal)
        have HRD := Lib.hid (rd_new wr.drew [.int .i64 T, .slice a' M C] 42 1 2 rfl (by decide))
        clear hal
        try simp only [Act.put, List.setIfInBounds_toArray, List.set_cons_zero, List.set_cons_succ]
        refine wpG_one (i := 21) rfl (by kernel_rfl) (by rfl) ?_
        refine wp_append_gr _ (some 36) (.tmp 15) (.tmp 35) 23 rfl w.heap.size 42 i0 _ 2 32 Try.underlying23 hi hz0 hz1 hz2 rfl (by decide) _ _ _ rfl HO3.out _ 1 _ rfl HRD.out (one_tag T rfl) (by omega) (by decide) HB3.out.size rfl ?_
        intro v' wo ho' hg'
        have HO4 : Hid (wo.ownsRow w.heap.size 42 2 v' (k + 1) (flat (us ++ [⟨T, .slice a' M C, l.take M⟩]))) := by
          have : wo.ownsRow w.heap.size 42 2 v' (k + 1) (flat us ++ [.int .i64 T, .slice a' M C]) := ho'
          show World.ownsRow _ _ _ _ _ _ _
          rw [flat_append]
          exact this
        have hgb := grown_below HO3.out HB3.out.size hg'
        have HB4 := Lib.hid (HB3.out.trans hgb)
        refine ⟨hgb, ?_⟩
        clear ho' hg' hgb
        try simp only [Act.put, List.setIfInBounds_toArray, List.set_cons_zero, List.set_cons_succ]
        -- 22: slot 3
        refine wpG_take (preBelow (w.heap.size)) (i := 22) (v := ?_) (by kernel_rfl) (some 3) (by kernel_rfl) rfl (by kernel_rfl) (by kernel_rfl) (by kernel_rfl) (fun _ _ _ h => h) (by rfl) (fun w' hw' => ?_) rfl ?_
        rotate_left
        · try have g0 := cellB (HB.out.drew.trans hw') hbl HC0.out
          try have g1 := cellB (HB.out.drew.trans hw') hbl HC1.out
          have g2 := HMIN.out
          have g3 := HS.out
          go_simp
          with_reducible rfl
        simp only [Act.put, List.setIfInBounds_toArray, List.set_cons_zero, List.set_cons_succ]
        refine wpG_done (by kernel_rfl) ?_ _
        go_wp2
        go_roundw
        case rel =>
          have HU : ∀ x ∈ us ++ [(⟨T, .slice a' M C, l.take M⟩ : Tg)], Bs w x.val x.l ∧ x.l.length ≤ 20 ∧ I64 x.typ := fun x hx => by
            rcases List.mem_append.1 hx with hx | hx
            · exact HUS.out x hx
            · rw [List.mem_singleton.1 hx]; exact ⟨HB2.out, HL2.out, HTI.out⟩
          first | exact ⟨k + 1, _, _, by omega, by omega, by go_num, rfl, HO4.out, HU, HB4.out⟩ | ((repeat apply Exists.intro); exact ⟨⟨k + 1, _, _, by omega, by omega, by go_num, rfl, HO4.out, HU, HB4.out⟩, rfl⟩)
        case measure => simp [intOf]; omega
      · obtain rfl : k = 20 := by omega
        obtain ⟨a', c', ev, _, _⟩ := HDONE.out.shape
        subst ev
        go_wp2
        go_ret
        exact ⟨a', 20, c', us, rfl, HDONE.out, Nat.le_refl _, fun x hx => (HUS.out x hx).2.1, fun x hx => (HUS.out x hx).2.2, HB.out⟩
    · obtain rfl : k = n := by omega
      obtain ⟨a', c', ev, _, _⟩ := HDONE.out.shape
      subst ev
      go_wp2
      go_ret
      exact ⟨a', k, c', us, rfl, HDONE.out, hk20, fun x hx => (HUS.out x hx).2.1, fun x hx => (HUS.out x hx).2.2, HB.out⟩

set_option maxRecDepth 20000 in
set_option maxHeartbeats 4000000 in
theorem copy_any (ao : Option Addr) (n c : Nat) (ts : List Tg) (w : World) (hr : TR w (.slice ao n c) n ts) (hn : n ≤ 1000) (hm : ∀ x ∈ ts, x.l.length ≤ 1000) :
    Calls Try.prog 22 #[.slice ao n c] w fun e w' => ∃ v us, e = .returned v ∧ plain us = plain ts ∧ TO w' w.heap.size v us ∧ Below w.heap.size w w' := by
  obtain ⟨i0, hi, hz0, hz1, hz2⟩ := info_parts infoT
  obtain ⟨i5, hi5, hy0, hy1, hy2⟩ := info_parts info5
  have hl := hr.len
  have HR := Lib.hid hr
  have HM := Lib.hid hm
  clear hr hm
  go_enter Try.func22, Try.ntmps22
  go_wp2
  go_loopw [3, 4] (fun ov iv wr => ∃ (k : Nat) (us : List Tg) (lv : Value), k ≤ n ∧ iv = .int .i64 k ∧ lv = ov ∧ plain us = (plain ts).take k ∧ TO wr w.heap.size lv us ∧ Below w.heap.size w wr) (fun _ iv _ => n - (intOf iv).toNat)
  case atStart => exact ⟨0, [], _, Nat.zero_le _, rfl, rfl, rfl, TO.nil _ _, Below.refl _ _⟩
  case round =>
    obtain ⟨k, us, lv, hk, rfl, rfl, hus, hto, hb⟩ := hrel
    have HUS := Lib.hid hus
    have HTO := Lib.hid hto
    have HB := Lib.hid hb
    have HBN := Lib.hid hb.size
    clear hus hto hb
    by_cases hlt : k < n
    · obtain ⟨b, o, rfl, hbl, hc⟩ := (HR.out.below HB.out).cells (by omega)
      obtain ⟨hc0, hc1⟩ := hc k (by omega)
      have HV := Lib.hid ((HR.out.val k (by omega)).below HB.out)
      obtain ⟨A, L, C, hv, hL, hLC, hCm⟩ := HV.out.sl
      rw [hv] at hc1
      obtain ⟨T, hT⟩ : ∃ T, T = ts[k].typ := ⟨_, rfl⟩
      rw [← hT] at hc0
      obtain ⟨l, hlq⟩ : ∃ l, l = ts[k].l := ⟨_, rfl⟩
      have HBS : Hid (Bs wr (.slice A L C) l) := by show Bs _ _ _; rw [hlq, ← hv]; exact HV.out
      have hll : l.length = L := by rw [hlq]; exact hL
      have hL1 : L ≤ 1000 := by rw [← hll, hlq]; exact HM.out _ (List.getElem_mem _)
      have HNEXT : Hid ((plain ts).take (k + 1) = (plain ts).take k ++ [(T, l)]) := by
        show _ = _
        rw [List.take_succ_eq_append_getElem (by rw [plain_length]; omega), plain_get _ _ (by omega), hT, hlq]
      have HC0 := Lib.hid hc0
      have HC1 := Lib.hid hc1
      have hul : us.length = k := by rw [← plain_length, HUS.out, List.length_take, plain_length]; omega
      have HUL := Lib.hid hul
      have HTO' : Hid (wr.ownsRow w.heap.size 42 2 lv k (flat us)) := by have := HTO.out.own; rwa [hul] at this
      have hkn : k < n := hlt
      have hkn2 : (k : Int) < (n : Int) := by omega
      have HLL := Lib.hid hll
      unfold maxLen at hCm
      clear hv hL hT hc hc0 hc1 hlq hul hll
      go_upto_region 5 with fail
      refine wp_region_G 15 (Below (wr.heap.size)) (by kernel_rfl) ?_
      -- 0: slot 11
      refine wpG_take (preBelow (wr.heap.size)) (i := 0) (v := ?_) (by kernel_rfl) (some 11) (by kernel_rfl) rfl (by kernel_rfl) (by kernel_rfl) (by kernel_rfl) (fun _ _ _ h => h) (by rfl) (fun w' hw' => ?_) rfl ?_
      rotate_left
      · try have g0 := cellB ((Below.refl _ wr).drew.trans hw') hbl HC0.out
        try have g1 := cellB ((Below.refl _ wr).drew.trans hw') hbl HC1.out
        go_simp
        with_reducible rfl
      simp only [Act.put, List.setIfInBounds_toArray, List.set_cons_zero, List.set_cons_succ]
      -- 1: slot 12
      refine wpG_take (preBelow (wr.heap.size)) (i := 1) (v := ?_) (by kernel_rfl) (some 12) (by kernel_rfl) rfl (by kernel_rfl) (by kernel_rfl) (by kernel_rfl) (fun _ _ _ h => h) (by rfl) (fun w' hw' => ?_) rfl ?_
      rotate_left
      · try have g0 := cellB ((Below.refl _ wr).drew.trans hw') hbl HC0.out
        try have g1 := cellB ((Below.refl _ wr).drew.trans hw') hbl HC1.out
        go_simp
        with_reducible rfl
      simp only [Act.put, List.setIfInBounds_toArray, List.set_cons_zero, List.set_cons_succ]
      -- 2: slot 13
      refine wpG_take (preBelow (wr.heap.size)) (i := 2) (v := ?_) (by kernel_rfl) (some 13) (by kernel_rfl) rfl (by kernel_rfl) (by kernel_rfl) (by kernel_rfl) (fun _ _ _ h => h) (by rfl) (fun w' hw' => ?_) rfl ?_
      rotate_left
      · try have g0 := cellB ((Below.refl _ wr).drew.trans hw') hbl HC0.out
        try have g1 := cellB ((Below.refl _ wr).drew.trans hw') hbl HC1.out
        go_simp
        with_reducible rfl
      simp only [Act.put, List.setIfInBounds_toArray, List.set_cons_zero, List.set_cons_succ]
      -- 3: slot 14
      refine wpG_take (preBelow (wr.heap.size)) (i := 3) (v := ?_) (by kernel_rfl) (some 14) (by kernel_rfl) rfl (by kernel_rfl) (by kernel_rfl) (by kernel_rfl) (fun _ _ _ h => h) (by rfl) (fun w' hw' => ?_) rfl ?_
      rotate_left
      · try have g0 := cellB ((Below.refl _ wr).drew.trans hw') hbl HC0.out
        try have g1 := cellB ((Below.refl _ wr).drew.trans hw') hbl HC1.out
        go_simp
        with_reducible rfl
      simp only [Act.put, List.setIfInBounds_toArray, List.set_cons_zero, List.set_cons_succ]
      -- 4: slot 15
      refine wpG_take (preBelow (wr.heap.size)) (i := 4) (v := ?_) (by kernel_rfl) (some 15) (by kernel_rfl) rfl (by kernel_rfl) (by kernel_rfl) (by kernel_rfl) (fun _ _ _ h => h) (by rfl) (fun w' hw' => ?_) rfl ?_
      rotate_left
      · try have g0 := cellB ((Below.refl _ wr).drew.trans hw') hbl HC0.out
        try have g1 := cellB ((Below.refl _ wr).drew.trans hw') hbl HC1.out
        go_simp
        with_reducible rfl
      simp only [Act.put, List.setIfInBounds_toArray, List.set_cons_zero, List.set_cons_succ]
      -- 5: slot 16
      refine wpG_take (preBelow (wr.heap.size)) (i := 5) (v := ?_) (by kernel_rfl) (some 16) (by kernel_rfl) rfl (by kernel_rfl) (by kernel_rfl) (by kernel_rfl) (fun _ _ _ h => h) (by rfl) (fun w' hw' => ?_) rfl ?_
      rotate_left
      · try have g0 := cellB ((Below.refl _ wr).drew.trans hw') hbl HC0.out
        try have g1 := cellB ((Below.refl _ wr).drew.trans hw') hbl HC1.out
        go_simp
        with_reducible rfl
      simp only [Act.put, List.setIfInBounds_toArray, List.set_cons_zero, List.set_cons_succ]
      -- 7: slot 18
      refine wpG_take (preBelow (wr.heap.size)) (i := 7) (v := ?_) (by kernel_rfl) (some 18) (by kernel_rfl) rfl (by kernel_rfl) (by kernel_rfl) (by kernel_rfl) (fun _ _ _ h => h) (by rfl) (fun w' hw' => ?_) rfl ?_
      rotate_left
      · try have g0 := cellB ((Below.refl _ wr).drew.trans hw') hbl HC0.out
        try have g1 := cellB ((Below.refl _ wr).drew.trans hw') hbl HC1.out
        go_simp
        with_reducible rfl
      simp only [Act.put, List.setIfInBounds_toArray, List.set_cons_zero, List.set_cons_succ]
      -- 8: slot 19
      refine wpG_take (preBelow (wr.heap.size)) (i := 8) (v := ?_) (by kernel_rfl) (some 19) (by kernel_rfl) rfl (by kernel_rfl) (by kernel_rfl) (by kernel_rfl) (fun _ _ _ h => h) (by rfl) (fun w' hw' => ?_) rfl ?_
      rotate_left
      · try have g0 := cellB ((Below.refl _ wr).drew.trans hw') hbl HC0.out
        try have g1 := cellB ((Below.refl _ wr).drew.trans hw') hbl HC1.out
        go_simp
        with_reducible rfl
      simp only [Act.put, List.setIfInBounds_toArray, List.set_cons_zero, List.set_cons_succ]
      -- 9: slot 20
      refine wpG_take (preBelow (wr.heap.size)) (i := 9) (v := ?_) (by kernel_rfl) (some 20) (by kernel_rfl) rfl (by kernel_rfl) (by kernel_rfl) (by kernel_rfl) (fun _ _ _ h => h) (by rfl) (fun w' hw' => ?_) rfl ?_
      rotate_left
      · try have g0 := cellB ((Below.refl _ wr).drew.trans hw') hbl HC0.out
        try have g1 := cellB ((Below.refl _ wr).drew.trans hw') hbl HC1.out
        go_simp
        with_reducible rfl
      simp only [Act.put, List.setIfInBounds_toArray, List.set_cons_zero, List.set_cons_succ]
      -- 10: slot 21
      refine wpG_take (preBelow (wr.heap.size)) (i := 10) (v := ?_) (by kernel_rfl) (some 21) (by kernel_rfl) rfl (by kernel_rfl) (by kernel_rfl) (by kernel_rfl) (fun _ _ _ h => h) (by rfl) (fun w' hw' => ?_) rfl ?_
      rotate_left
      · try have g0 := cellB ((Below.refl _ wr).drew.trans hw') hbl HC0.out
        try have g1 := cellB ((Below.refl _ wr).drew.trans hw') hbl HC1.out
        go_simp
        with_reducible rfl
      simp only [Act.put, List.setIfInBounds_toArray, List.set_cons_zero, List.set_cons_succ]
      -- 11: slot 22
      refine wpG_take (preBelow (wr.heap.size)) (i := 11) (v := ?_) (by kernel_rfl) (some 22) (by kernel_rfl) rfl (by kernel_rfl) (by kernel_rfl) (by kernel_rfl) (fun _ _ _ h => h) (by rfl) (fun w' hw' => ?_) rfl ?_
      rotate_left
      · try have g0 := cellB ((Below.refl _ wr).drew.trans hw') hbl HC0.out
        try have g1 := cellB ((Below.refl _ wr).drew.trans hw') hbl HC1.out
        go_simp
        with_reducible rfl
      simp only [Act.put, List.setIfInBounds_toArray, List.set_cons_zero, List.set_cons_succ]
      refine wpG_one (i := 6) rfl (by kernel_rfl) (by rfl) ?_
      go_simp
      refine ⟨(Below.refl wr.heap.size wr.drew).alloc (show wr.heap.size ≤ wr.drew.heap.size from Nat.le_refl _) _, ?_⟩
      have HBD : Hid (Below wr.heap.size wr (wr.alloc (.cells #[] 5)).drew) := ((Below.refl _ wr).alloc (Nat.le_refl _) _).drew
      have HMADE : Hid ((wr.alloc (.cells #[] 5)).drew.ownsRow wr.heap.size 5 1 (.slice (some ⟨wr.heap.size, 0, none⟩) 0 0) 0 []) := (World.ownsRow_made _ _ _ (Nat.le_refl _) (Nat.zero_le _) rfl : (wr.alloc (.cells #[] 5)).ownsRow wr.heap.size 5 1 (.slice (some ⟨wr.heap.size, 0, none⟩) 0 0) 0 [])
      generalize (wr.alloc (.cells #[] 5)).drew = wm at HBD HMADE ⊢
      try simp only [Act.put, List.setIfInBounds_toArray, List.set_cons_zero, List.set_cons_succ]
      refine wpG_one (i := 12) rfl (by kernel_rfl) (by rfl) ?_
      refine wp_append_rd _ (some 23) (.tmp 17) (.tmp 22) 40 rfl wr.heap.size 5 i5 (.int .u8 0) 1 1 Try.underlying40 hi5 hy0 hy1 hy2 rfl (by decide) _ 0 [] rfl HMADE.out _ L (l.map u8v) rfl ?_ (oneCell_u8 l) (by omega) (by decide) HBD.out.size rfl ?_
      · have := HBS.out.below HBD.out
        unfold Bs at this
        rwa [HLL.out] at this
      intro v3 w3 ho3 hb3
      have HBD3 : Hid (Below wr.heap.size wr w3) := HBD.out.trans hb3
      have HO3 : Hid (OwnB w3 wr.heap.size 5 v3 l) := by
        show World.ownsRow _ _ _ _ _ _ _
        rw [HLL.out]
        simpa using ho3
      obtain ⟨A3, L3, C3, ev, hL3, _, _⟩ := HO3.out.bs.sl
      subst ev
      refine ⟨hb3, ?_⟩
      clear ho3 hb3 hL3 HBD HMADE
      try simp only [Act.put, List.setIfInBounds_toArray, List.set_cons_zero, List.set_cons_succ]
      -- 13: slot 24
      refine wpG_take (preBelow (wr.heap.size)) (i := 13) (v := ?_) (by kernel_rfl) (some 24) (by kernel_rfl) rfl (by kernel_rfl) (by kernel_rfl) (by kernel_rfl) (fun _ _ _ h => h) (by rfl) (fun w' hw' => ?_) rfl ?_
      rotate_left
      · refine Eq.trans (build_run (P := Try.prog) 42 [(0, .tmp 16), (1, .tmp 23)] ?_ #[.int .i64 T, .slice A3 L3 C3] ?_) ?_
        · rfl
        · exact builtT T A3 L3 C3
        · with_reducible rfl
      simp only [Act.put, List.setIfInBounds_toArray, List.set_cons_zero, List.set_cons_succ]
      refine wpG_one (i := 14) rfl (by kernel_rfl) (by rfl) ?_
      go_simp
      refine ⟨(Below.refl _ _).alloc HBD3.out.size _, ?_⟩
      have hal : Gr w3 (w3.alloc (.cells #[.int .i64 T, .slice A3 L3 C3] 42)) := (Gr.refl _).alloc _
      have HBD4 : Hid (Below wr.heap.size wr (w3.alloc (.cells #[.int .i64 T, .slice A3 L3 C3] 42))) := HBD3.out.alloc HBD3.out.size _
      have HB4 := Lib.hid (HB.out.trans (HBD4.out.mono HBN.out))
      have HROW4 := Lib.hid (ownsRow_below HTO'.out HBD4.out)
      have HVALS4 : Hid (∀ t ∈ us, OwnB (w3.alloc (.cells #[.int .i64 T, .slice A3 L3 C3] 42)) w.heap.size 5 t.val t.l) := fun t ht => (HTO.out.vals t ht).below HBD4.out
      have HO4 := Lib.hid ((HO3.out.below hal).mono (base' := w.heap.size) HBN.out)
      have HRD := Lib.hid (rd_new w3 [.int .i64 T, .slice A3 L3 C3] 42 1 2 rfl (by decide))
      clear hal
      try simp only [Act.put, List.setIfInBounds_toArray, List.set_cons_zero, List.set_cons_succ]
      refine wpG_tail (i := 15) (by decide) rfl (by kernel_rfl) (by rfl) ?_
      refine wp_append_gr _ (some 26) (.tmp 11) (.tmp 25) 23 rfl w.heap.size 42 i0 _ 2 32 Try.underlying23 hi hz0 hz1 hz2 rfl (by decide) _ _ _ rfl HROW4.out _ 1 _ rfl HRD.out (one_tag T rfl) (by omega) (by decide) HB4.out.size rfl ?_
      intro v' wo ho' hg'
      have HTO5 : Hid (TO wo w.heap.size v' (us ++ [⟨T, .slice A3 L3 C3, l⟩])) := TO.more (w := w3.alloc (.cells #[.int .i64 T, .slice A3 L3 C3] 42)) ⟨by rw [HUL.out]; exact HROW4.out, HVALS4.out⟩ HO4.out (by rw [HUL.out]; exact ho') hg'
      have HB5 := Lib.hid (HB4.out.trans (grown_below HROW4.out HB4.out.size hg'))
      clear ho' hg'
      try simp only [Act.put, List.setIfInBounds_toArray, List.set_cons_zero, List.set_cons_succ]
      refine wpG_tail (i := 16) (by decide) rfl (by kernel_rfl) (by rfl) ?_
      go_simp
      try simp only [Act.put, List.setIfInBounds_toArray, List.set_cons_zero, List.set_cons_succ]
      refine wpG_done (by kernel_rfl) ?_ _
      go_wp2
      go_roundw
      case rel =>
        have HU : plain (us ++ [(⟨T, .slice A3 L3 C3, l⟩ : Tg)]) = (plain ts).take (k + 1) := by rw [HNEXT.out, plain_append, HUS.out]; rfl
        first | exact ⟨k + 1, _, _, by omega, by go_num, rfl, HU, HTO5.out, HB5.out⟩ | ((repeat apply Exists.intro); exact ⟨⟨k + 1, _, _, by omega, by go_num, rfl, HU, HTO5.out, HB5.out⟩, rfl⟩)
      case measure => simp [intOf]; omega
    · obtain rfl : k = n := by omega
      have HU : Hid (plain us = plain ts) := by show _ = _; rw [HUS.out, List.take_of_length_le (by rw [plain_length]; omega)]
      obtain ⟨a', c', ev, _, _⟩ := HTO.out.tr.shape
      subst ev
      go_wp2
      go_ret
      exact ⟨_, us, rfl, HU.out, HTO.out, HB.out⟩
end Go.Proofs.Ytbldcjngccmhpaa.Ng
