/-
  For every slice of bytes a Hash that nobody made refuses it, and tells zeros (conciergelaw02.ShaNobody answers true). The listed table of constants is tied to the program's text. No condition.
-/
import Derived.Test.YtagfgkhadmoboaaDoorShaN
import Derived.ProofKit
import Derived.OpenShut
import Derived.ShutString
import Derived.ChangeOld
import Derived.SevenTiedAt
namespace Go.Proofs.YtagfgkhadmoboaaDoor.shaNobody
open Go.ChangeShapes Go.WideShapes Go.ChangeAt Go.RowKit
open Go.ChangeMaps (open_string shut_string)
set_option linter.unusedVariables false
set_option linter.unusedSimpArgs false

/-- Nobody made what lies there. -/
def NB (w : World) (p : Option Addr) : Prop := p = none ∨ ∃ g, p = some ⟨g, 0, none⟩ ∧ w.cell? ⟨g, 0, none⟩ = some (.bool false)
theorem NB.gr {w w' : World} {p : Option Addr} (h : NB w p) (hg : Gr w w') : NB w' p := h.imp id fun ⟨g, h1, h2⟩ => ⟨g, h1, cell_gr hg h2⟩
theorem made_nb (p : Option Addr) (w : World) (h : NB w p) :
    Calls Tryd.prog 33 #[.pointer p] w fun e w' => e = .returned (.bool false) ∧ w = w' := by
  rcases h with rfl | ⟨g, rfl, h⟩
  · exact isMade_nil w
  · exact isMade_no g w h
theorem add_nb (p : Option Addr) (v : Value) (w : World) (h : NB w p) :
    Calls Tryd.prog 22 #[.pointer p, v] w fun e w' => e = .returned (.int .i64 4) ∧ w = w' := by
  have H := Lib.hid (made_nb p w h)
  clear h
  go_enter Tryd.func22, Tryd.ntmps22
  go_wp2_with (go_at_call 33; refine H.out.mono ?_; rintro e w1 ⟨rfl, rfl⟩)
  go_ret
  exact ⟨rfl, rfl⟩
theorem len_nb (p : Option Addr) (w : World) (h : NB w p) :
    Calls Tryd.prog 23 #[.pointer p] w fun e w' => e = .returned (.int .i64 0) ∧ w = w' := by
  have H := Lib.hid (made_nb p w h)
  clear h
  go_enter Tryd.func23, Tryd.ntmps23
  go_wp2_with (go_at_call 33; refine H.out.mono ?_; rintro e w1 ⟨rfl, rfl⟩)
  go_ret
  exact ⟨rfl, rfl⟩
theorem fork_nb (p : Option Addr) (w : World) (h : NB w p) :
    Calls Tryd.prog 25 #[.pointer p] w fun e w' => e = .returned (.pointer none) ∧ w = w' := by
  have H := Lib.hid (made_nb p w h)
  clear h
  go_enter Tryd.func25, Tryd.ntmps25
  go_wp2_with (go_at_call 33; refine H.out.mono ?_; rintro e w1 ⟨rfl, rfl⟩)
  go_ret
  exact ⟨rfl, rfl⟩
theorem one32 : z32.all (·.oneCell') = true := by kernel_rfl
theorem sum_nb (p : Option Addr) (w : World) (h : NB w p) :
    Calls Tryd.prog 24 #[.pointer p] w fun e w' => e = .returned (.agg z32) ∧ Gr w w' := by
  have H : Hid (∀ w', Gr w w' → Calls Tryd.prog 33 #[.pointer p] w' fun e w'' => e = .returned (.bool false) ∧ w' = w'') := fun w' hg => made_nb p w' (h.gr hg)
  clear h
  have hbs : (Tryd.prog.built 33 []).isSome = true := by kernel_rfl
  have hbz : (Tryd.prog.built 33 []).getD #[] = z32 := by kernel_rfl
  go_enter Tryd.func24, Tryd.ntmps24
  go_wp2_with (first | (go_at_call 33; refine (H.out _ ((Gr.refl _).alloc _)).mono ?_; rintro e w1 ⟨rfl, rfl⟩) | (with_reducible refine wpList_build rfl 33 #[] rfl ?b1 ?_) | (with_reducible refine wpList_store_row rfl 33 (.tmp 2) (.tmp 7) rfl w.heap.size _ rfl rfl 33 _ (heap_alloc_last _ _) ?a1 ?a2 ?a3 ?_))
  case a1 => first | exact size32b | simpa [z32] using size32b
  case a2 => first | rfl | simp [z32]
  case a3 => first | exact one32 | exact fun i hi => (Array.all_eq_true.1 one32) i hi
  intro w2 h1 h2 _
  have H1 := Lib.hid h1
  have H2 := Lib.hid (h2 _ _ (Nat.le_refl _) ((Below.refl _ _).alloc (Nat.le_refl _) _))
  clear h1 h2
  go_wp2
  refine bodyPost_ret (v := .agg z32) (results_cell_row Tryd.results24 _ _ w.heap.size 33 _ (0, 0) _ rfl H1.out Tryd.underlying33 rfl size32b) rfl ?_
  exact ⟨rfl, H2.out⟩

set_option maxHeartbeats 4000000 in
theorem walk (W : World) (hL : Laid W) (a0 : Option Addr) (n0 c0 : Nat) (l0 : List UInt8) (hn0 : l0.length = n0) (b0 : Bs W (.slice a0 n0 c0) l0) :
    Calls Tryd.prog 10 #[.slice a0 n0 c0] W fun e w' => e = .returned (.bool true) ∧ Below W.heap.size W w' := by
  obtain ⟨_, _, es0, hc0, hm0⟩ := b0.shape
  simp only [Value.slice.injEq] at es0
  obtain ⟨rfl, z0, rfl⟩ := es0
  clear z0
  have HC0 := Lib.hid (fun w => cut_any a0 n0 c0 w (by omega) hm0)
  have HLD := Lib.hid hL
  clear b0 hm0 hc0 hn0 hL
  have hbh : (Tryd.prog.built 48 []).getD #[] = zh := by kernel_rfl
  go_enter Tryd.func10, Tryd.ntmps10
  go_wp2_with (with_reducible refine wpList_build rfl 48 #[] rfl ?b1 ?_)
  case b1 => kernel_rfl
  have HI : Hid (Gr W ((W.alloc (.cells zh 48)).alloc (.cells #[.pointer none, .pointer (some ⟨W.heap.size, 0, none⟩)] 39)) ∧
      ((W.alloc (.cells zh 48)).alloc (.cells #[.pointer none, .pointer (some ⟨W.heap.size, 0, none⟩)] 39)).heap[W.heap.size + 1]? = some (.cells #[.pointer none, .pointer (some ⟨W.heap.size, 0, none⟩)] 39 (0, 0)) ∧
      ((W.alloc (.cells zh 48)).alloc (.cells #[.pointer none, .pointer (some ⟨W.heap.size, 0, none⟩)] 39)).cell? ⟨W.heap.size, 0, none⟩ = some (.bool false)) := by
    refine ⟨((Gr.refl W).alloc _).alloc _, ?_, ?_⟩
    · have := heap_alloc_last (W.alloc (.cells zh 48)) (.cells #[.pointer none, .pointer (some ⟨W.heap.size, 0, none⟩)] 39)
      rw [World.size_alloc] at this
      exact this
    · rw [World.cell?_of_block (w := W.alloc (.cells zh 48)) (Below.heap_alloc _ _ _ (by simp)), World.cell?_alloc_new]
      rfl
  go_loopw [5] (fun i5 wr => ∃ k : Nat, k ≤ 2 ∧ i5 = .int .i64 k ∧ Hid (Gr W wr ∧ wr.heap[W.heap.size + 1]? = some (.cells #[.pointer none, .pointer (some ⟨W.heap.size, 0, none⟩)] 39 (0, 0)) ∧ wr.cell? ⟨W.heap.size, 0, none⟩ = some (.bool false))) (fun i5 _ => 2 - (intOf i5).toNat)
  case atStart => exact ⟨0, by omega, rfl, HI⟩
  case round =>
    clear HI hbh
    obtain ⟨k, hk, rfl, HI⟩ := hrel
    by_cases hlt : k < 2
    · obtain ⟨p, hp, hnb⟩ : ∃ p, wr.cell? ⟨W.heap.size + 1, k, none⟩ = some (.pointer p) ∧ NB wr p := by
        rcases (show k = 0 ∨ k = 1 by omega) with rfl | rfl
        · exact ⟨none, by rw [cell_of_row _ _ _ _ _ _ HI.out.2.1]; rfl, .inl rfl⟩
        · exact ⟨some ⟨W.heap.size, 0, none⟩, by rw [cell_of_row _ _ _ _ _ _ HI.out.2.1]; rfl, .inr ⟨_, rfl, HI.out.2.2⟩⟩
      have c0 : ∀ w', Gr wr.drew w' → w'.cell? ⟨W.heap.size + 1, k, none⟩ = some (.pointer p) := fun w' hg => cell_gr ((Gr.drew wr).trans hg) hp
      have HN : Hid (∀ w', Gr wr w' → NB w' p) := fun w' hg => hnb.gr hg
      have q0 : (k : Int) < 2 := by omega
      have hne : ∀ w, (binOp .neq 33 (.agg z32) (.agg z32)).run Tryd.prog w = .ok (.bool false) w := fun w => by
        obtain ⟨i0, hi, _, h1, _⟩ := info_parts info5
        have := run_neq_array Tryd.underlying33 Tryd.underlying5 hi h1 (List.replicate 32 0) (List.replicate 32 0) (by simp) (by simp) w
        simpa [z32] using this
      have hne2 : ∀ w, (binOp .neq 33 (.agg z32) (.agg #[.int .u8 0, .int .u8 0, .int .u8 0, .int .u8 0, .int .u8 0, .int .u8 0, .int .u8 0, .int .u8 0, .int .u8 0, .int .u8 0, .int .u8 0, .int .u8 0, .int .u8 0, .int .u8 0, .int .u8 0, .int .u8 0, .int .u8 0, .int .u8 0, .int .u8 0, .int .u8 0, .int .u8 0, .int .u8 0, .int .u8 0, .int .u8 0, .int .u8 0, .int .u8 0, .int .u8 0, .int .u8 0, .int .u8 0, .int .u8 0, .int .u8 0, .int .u8 0])).run Tryd.prog w = .ok (.bool false) w := hne
      clear hp hnb
      go_wp2
      refine wp_region_G 33 Gr (by kernel_rfl) ?_
      -- 0: slot 16
      refine wpG_take preGr (i := 0) (v := ?_) (by kernel_rfl) (some 16) (by kernel_rfl) rfl (by kernel_rfl) (by kernel_rfl) (by kernel_rfl) (fun _ _ _ h => h) (by rfl) (fun w' hw' => ?_) rfl ?_
      rotate_left
      · go_simp
        with_reducible rfl
      simp only [Act.put, List.setIfInBounds_toArray, List.set_cons_zero, List.set_cons_succ]
      -- 1: slot 17
      refine wpG_take preGr (i := 1) (v := ?_) (by kernel_rfl) (some 17) (by kernel_rfl) rfl (by kernel_rfl) (by kernel_rfl) (by kernel_rfl) (fun _ _ _ h => h) (by rfl) (fun w' hw' => ?_) rfl ?_
      rotate_left
      · go_simp
        with_reducible rfl
      simp only [Act.put, List.setIfInBounds_toArray, List.set_cons_zero, List.set_cons_succ]
      -- 2: slot 18
      refine wpG_take preGr (i := 2) (v := ?_) (by kernel_rfl) (some 18) (by kernel_rfl) rfl (by kernel_rfl) (by kernel_rfl) (by kernel_rfl) (fun _ _ _ h => h) (by rfl) (fun w' hw' => ?_) rfl ?_
      rotate_left
      · go_simp
        with_reducible rfl
      simp only [Act.put, List.setIfInBounds_toArray, List.set_cons_zero, List.set_cons_succ]
      -- 3: slot 19
      refine wpG_take preGr (i := 3) (v := ?_) (by kernel_rfl) (some 19) (by kernel_rfl) rfl (by kernel_rfl) (by kernel_rfl) (by kernel_rfl) (fun _ _ _ h => h) (by rfl) (fun w' hw' => ?_) rfl ?_
      rotate_left
      · go_simp
        with_reducible rfl
      simp only [Act.put, List.setIfInBounds_toArray, List.set_cons_zero, List.set_cons_succ]
      -- 4: slot 20
      refine wpG_take preGr (i := 4) (v := ?_) (by kernel_rfl) (some 20) (by kernel_rfl) rfl (by kernel_rfl) (by kernel_rfl) (by kernel_rfl) (fun _ _ _ h => h) (by rfl) (fun w' hw' => ?_) rfl ?_
      rotate_left
      · go_simp
        with_reducible rfl
      simp only [Act.put, List.setIfInBounds_toArray, List.set_cons_zero, List.set_cons_succ]
      refine wpG_one (i := 5) rfl (by kernel_rfl) (by rfl) ?_
      go_simp
      refine (HC0.out _).mono ?_
      rintro e w1 ⟨rfl, rfl⟩
      refine ⟨Gr.refl _, ?_⟩
      try simp only [Act.put, List.setIfInBounds_toArray, List.set_cons_zero, List.set_cons_succ]
      refine wpG_one (i := 6) rfl (by kernel_rfl) (by rfl) ?_
      go_simp
      refine (add_nb p _ _ (HN.out _ (Gr.drew _))).mono ?_
      rintro e w1 ⟨rfl, rfl⟩
      refine ⟨Gr.refl _, ?_⟩
      try simp only [Act.put, List.setIfInBounds_toArray, List.set_cons_zero, List.set_cons_succ]
      -- 7: slot 23
      refine wpG_take preGr (i := 7) (v := ?_) (by kernel_rfl) (some 23) (by kernel_rfl) rfl (by kernel_rfl) (by kernel_rfl) (by kernel_rfl) (fun _ _ _ h => h) (by rfl) (fun w' hw' => ?_) rfl ?_
      rotate_left
      · go_simp
        with_reducible rfl
      simp only [Act.put, List.setIfInBounds_toArray, List.set_cons_zero, List.set_cons_succ]
      -- 8: slot 24
      refine wpG_take preGr (i := 8) (v := ?_) (by kernel_rfl) (some 24) (by kernel_rfl) rfl (by kernel_rfl) (by kernel_rfl) (by kernel_rfl) (fun _ _ _ h => h) (by rfl) (fun w' hw' => ?_) rfl ?_
      rotate_left
      · go_simp
        with_reducible rfl
      simp only [Act.put, List.setIfInBounds_toArray, List.set_cons_zero, List.set_cons_succ]
      -- 9: slot 25
      refine wpG_take preGr (i := 9) (v := ?_) (by kernel_rfl) (some 25) (by kernel_rfl) rfl (by kernel_rfl) (by kernel_rfl) (by kernel_rfl) (fun _ _ _ h => h) (by rfl) (fun w' hw' => ?_) rfl ?_
      rotate_left
      · go_simp
        with_reducible rfl
      simp only [Act.put, List.setIfInBounds_toArray, List.set_cons_zero, List.set_cons_succ]
      -- 10: slot 26
      refine wpG_take preGr (i := 10) (v := ?_) (by kernel_rfl) (some 26) (by kernel_rfl) rfl (by kernel_rfl) (by kernel_rfl) (by kernel_rfl) (fun _ _ _ h => h) (by rfl) (fun w' hw' => ?_) rfl ?_
      rotate_left
      · go_simp
        with_reducible rfl
      simp only [Act.put, List.setIfInBounds_toArray, List.set_cons_zero, List.set_cons_succ]
      -- 11: slot 27
      refine wpG_take preGr (i := 11) (v := ?_) (by kernel_rfl) (some 27) (by kernel_rfl) rfl (by kernel_rfl) (by kernel_rfl) (by kernel_rfl) (fun _ _ _ h => h) (by rfl) (fun w' hw' => ?_) rfl ?_
      rotate_left
      · go_simp
        with_reducible rfl
      simp only [Act.put, List.setIfInBounds_toArray, List.set_cons_zero, List.set_cons_succ]
      -- 12: slot 28
      refine wpG_take preGr (i := 12) (v := ?_) (by kernel_rfl) (some 28) (by kernel_rfl) rfl (by kernel_rfl) (by kernel_rfl) (by kernel_rfl) (fun _ _ _ h => h) (by rfl) (fun w' hw' => ?_) rfl ?_
      rotate_left
      · go_simp
        with_reducible rfl
      simp only [Act.put, List.setIfInBounds_toArray, List.set_cons_zero, List.set_cons_succ]
      -- 14: slot 30
      refine wpG_take preGr (i := 14) (v := ?_) (by kernel_rfl) (some 30) (by kernel_rfl) rfl (by kernel_rfl) (by kernel_rfl) (by kernel_rfl) (fun _ _ _ h => h) (by rfl) (fun w' hw' => ?_) rfl ?_
      rotate_left
      · go_simp
        with_reducible rfl
      simp only [Act.put, List.setIfInBounds_toArray, List.set_cons_zero, List.set_cons_succ]
      refine wpG_one (i := 13) rfl (by kernel_rfl) (by rfl) ?_
      go_simp
      refine (sum_nb p _ (HN.out _ (Gr.drew _))).mono ?_
      rintro e w1 ⟨rfl, hg1⟩
      have G1 : Hid (Gr wr w1) := (Gr.drew wr).trans hg1
      replace c0 : ∀ w', Gr w1 w' → w'.cell? ⟨W.heap.size + 1, k, none⟩ = some (.pointer p) := fun w' hg => c0 w' (hg1.trans hg)
      refine ⟨hg1, ?_⟩
      clear hg1
      try simp only [Act.put, List.setIfInBounds_toArray, List.set_cons_zero, List.set_cons_succ]
      -- 15: slot 31
      refine wpG_take preGr (i := 15) (v := ?_) (by kernel_rfl) (some 31) (by kernel_rfl) rfl (by kernel_rfl) (by kernel_rfl) (by kernel_rfl) (fun _ _ _ h => h) (by rfl) (fun w' hw' => ?_) rfl ?_
      rotate_left
      · go_simp
        with_reducible rfl
      simp only [Act.put, List.setIfInBounds_toArray, List.set_cons_zero, List.set_cons_succ]
      -- 16: slot 32
      refine wpG_take preGr (i := 16) (v := ?_) (by kernel_rfl) (some 32) (by kernel_rfl) rfl (by kernel_rfl) (by kernel_rfl) (by kernel_rfl) (fun _ _ _ h => h) (by rfl) (fun w' hw' => ?_) rfl ?_
      rotate_left
      · go_simp
        with_reducible rfl
      simp only [Act.put, List.setIfInBounds_toArray, List.set_cons_zero, List.set_cons_succ]
      -- 17: slot 33
      refine wpG_take preGr (i := 17) (v := ?_) (by kernel_rfl) (some 33) (by kernel_rfl) rfl (by kernel_rfl) (by kernel_rfl) (by kernel_rfl) (fun _ _ _ h => h) (by rfl) (fun w' hw' => ?_) rfl ?_
      rotate_left
      · go_simp
        with_reducible rfl
      simp only [Act.put, List.setIfInBounds_toArray, List.set_cons_zero, List.set_cons_succ]
      -- 18: slot 34
      refine wpG_take preGr (i := 18) (v := ?_) (by kernel_rfl) (some 34) (by kernel_rfl) rfl (by kernel_rfl) (by kernel_rfl) (by kernel_rfl) (fun _ _ _ h => h) (by rfl) (fun w' hw' => ?_) rfl ?_
      rotate_left
      · go_simp
        with_reducible rfl
      simp only [Act.put, List.setIfInBounds_toArray, List.set_cons_zero, List.set_cons_succ]
      -- 19: slot 35
      refine wpG_take preGr (i := 19) (v := ?_) (by kernel_rfl) (some 35) (by kernel_rfl) rfl (by kernel_rfl) (by kernel_rfl) (by kernel_rfl) (fun _ _ _ h => h) (by rfl) (fun w' hw' => ?_) rfl ?_
      rotate_left
      · go_simp
        with_reducible rfl
      simp only [Act.put, List.setIfInBounds_toArray, List.set_cons_zero, List.set_cons_succ]
      -- 20: slot 36
      refine wpG_take preGr (i := 20) (v := ?_) (by kernel_rfl) (some 36) (by kernel_rfl) rfl (by kernel_rfl) (by kernel_rfl) (by kernel_rfl) (fun _ _ _ h => h) (by rfl) (fun w' hw' => ?_) rfl ?_
      rotate_left
      · go_simp
        with_reducible rfl
      simp only [Act.put, List.setIfInBounds_toArray, List.set_cons_zero, List.set_cons_succ]
      -- 21: slot 37
      refine wpG_take preGr (i := 21) (v := ?_) (by kernel_rfl) (some 37) (by kernel_rfl) rfl (by kernel_rfl) (by kernel_rfl) (by kernel_rfl) (fun _ _ _ h => h) (by rfl) (fun w' hw' => ?_) rfl ?_
      rotate_left
      · go_simp
        with_reducible rfl
      simp only [Act.put, List.setIfInBounds_toArray, List.set_cons_zero, List.set_cons_succ]
      refine wpG_one (i := 22) rfl (by kernel_rfl) (by rfl) ?_
      go_simp
      refine (len_nb p _ (HN.out _ G1.out)).mono ?_
      rintro e w2 ⟨rfl, rfl⟩
      refine ⟨Gr.refl _, ?_⟩
      try simp only [Act.put, List.setIfInBounds_toArray, List.set_cons_zero, List.set_cons_succ]
      -- 23: slot 39
      refine wpG_take preGr (i := 23) (v := ?_) (by kernel_rfl) (some 39) (by kernel_rfl) rfl (by kernel_rfl) (by kernel_rfl) (by kernel_rfl) (fun _ _ _ h => h) (by rfl) (fun w' hw' => ?_) rfl ?_
      rotate_left
      · go_simp
        with_reducible rfl
      simp only [Act.put, List.setIfInBounds_toArray, List.set_cons_zero, List.set_cons_succ]
      -- 24: slot 40
      refine wpG_take preGr (i := 24) (v := ?_) (by kernel_rfl) (some 40) (by kernel_rfl) rfl (by kernel_rfl) (by kernel_rfl) (by kernel_rfl) (fun _ _ _ h => h) (by rfl) (fun w' hw' => ?_) rfl ?_
      rotate_left
      · go_simp
        with_reducible rfl
      simp only [Act.put, List.setIfInBounds_toArray, List.set_cons_zero, List.set_cons_succ]
      -- 25: slot 41
      refine wpG_take preGr (i := 25) (v := ?_) (by kernel_rfl) (some 41) (by kernel_rfl) rfl (by kernel_rfl) (by kernel_rfl) (by kernel_rfl) (fun _ _ _ h => h) (by rfl) (fun w' hw' => ?_) rfl ?_
      rotate_left
      · go_simp
        with_reducible rfl
      simp only [Act.put, List.setIfInBounds_toArray, List.set_cons_zero, List.set_cons_succ]
      -- 26: slot 42
      refine wpG_take preGr (i := 26) (v := ?_) (by kernel_rfl) (some 42) (by kernel_rfl) rfl (by kernel_rfl) (by kernel_rfl) (by kernel_rfl) (fun _ _ _ h => h) (by rfl) (fun w' hw' => ?_) rfl ?_
      rotate_left
      · go_simp
        with_reducible rfl
      simp only [Act.put, List.setIfInBounds_toArray, List.set_cons_zero, List.set_cons_succ]
      -- 27: slot 43
      refine wpG_take preGr (i := 27) (v := ?_) (by kernel_rfl) (some 43) (by kernel_rfl) rfl (by kernel_rfl) (by kernel_rfl) (by kernel_rfl) (fun _ _ _ h => h) (by rfl) (fun w' hw' => ?_) rfl ?_
      rotate_left
      · go_simp
        with_reducible rfl
      simp only [Act.put, List.setIfInBounds_toArray, List.set_cons_zero, List.set_cons_succ]
      -- 28: slot 44
      refine wpG_take preGr (i := 28) (v := ?_) (by kernel_rfl) (some 44) (by kernel_rfl) rfl (by kernel_rfl) (by kernel_rfl) (by kernel_rfl) (fun _ _ _ h => h) (by rfl) (fun w' hw' => ?_) rfl ?_
      rotate_left
      · go_simp
        with_reducible rfl
      simp only [Act.put, List.setIfInBounds_toArray, List.set_cons_zero, List.set_cons_succ]
      -- 29: slot 45
      refine wpG_take preGr (i := 29) (v := ?_) (by kernel_rfl) (some 45) (by kernel_rfl) rfl (by kernel_rfl) (by kernel_rfl) (by kernel_rfl) (fun _ _ _ h => h) (by rfl) (fun w' hw' => ?_) rfl ?_
      rotate_left
      · go_simp
        with_reducible rfl
      simp only [Act.put, List.setIfInBounds_toArray, List.set_cons_zero, List.set_cons_succ]
      refine wpG_one (i := 30) rfl (by kernel_rfl) (by rfl) ?_
      go_simp
      refine (fork_nb p _ (HN.out _ G1.out)).mono ?_
      rintro e w2 ⟨rfl, rfl⟩
      refine ⟨Gr.refl _, ?_⟩
      try simp only [Act.put, List.setIfInBounds_toArray, List.set_cons_zero, List.set_cons_succ]
      -- 31: slot 47
      refine wpG_take preGr (i := 31) (v := ?_) (by kernel_rfl) (some 47) (by kernel_rfl) rfl (by kernel_rfl) (by kernel_rfl) (by kernel_rfl) (fun _ _ _ h => h) (by rfl) (fun w' hw' => ?_) rfl ?_
      rotate_left
      · go_simp
        with_reducible rfl
      simp only [Act.put, List.setIfInBounds_toArray, List.set_cons_zero, List.set_cons_succ]
      -- 32: slot 48
      refine wpG_take preGr (i := 32) (v := ?_) (by kernel_rfl) (some 48) (by kernel_rfl) rfl (by kernel_rfl) (by kernel_rfl) (by kernel_rfl) (fun _ _ _ h => h) (by rfl) (fun w' hw' => ?_) rfl ?_
      rotate_left
      · go_simp
        with_reducible rfl
      simp only [Act.put, List.setIfInBounds_toArray, List.set_cons_zero, List.set_cons_succ]
      refine wpG_done (by kernel_rfl) ?_ _
      clear c0
      have HI2 : Hid (Gr W w1 ∧ w1.heap[W.heap.size + 1]? = some (.cells #[.pointer none, .pointer (some ⟨W.heap.size, 0, none⟩)] 39 (0, 0)) ∧ w1.cell? ⟨W.heap.size, 0, none⟩ = some (.bool false)) := ⟨HI.out.1.trans G1.out, heap_gr G1.out HI.out.2.1, cell_gr G1.out HI.out.2.2⟩
      go_wp2
      go_roundw
      case rel =>
        first | exact ⟨k + 1, by omega, by go_num, HI2⟩ | ((repeat apply Exists.intro); exact ⟨⟨k + 1, by omega, by go_num, HI2⟩, rfl⟩)
      case measure => simp [intOf]; omega
    · obtain rfl : k = 2 := by omega
      have HA := Lib.hid (awake_any wr (HLD.out.below HI.out.1))
      go_wp2_with (go_at_call 15; refine HA.out.mono ?_; rintro e w2 ⟨rfl, hb2⟩)
      go_ret
      exact ⟨rfl, HI.out.1.trans hb2⟩

theorem own : ownKnob Tryd.prog.godebug = none := by kernel_rfl
theorem laidOut : laidOutB Tryd.prog = true := by kernel_rfl
theorem door_met (os : Os) (args : Array Value) : laidMetH Tryd.prog Rows.shaNobodyRow.laid ((World.doorLaid Tryd.prog 400 os).forCall (fun _ _ => 0) ⟨#[], args, []⟩).memory :=
  laidMetH_of_parts3 (fuel := 8) (laidMet_of_run' 8 (by kernel_rfl) (by kernel_rfl)) (by kernel_rfl) (by kernel_rfl)
set_option maxRecDepth 100000 in
theorem lifted (os : Os) (started : os.Started) (H : Type) (enc : TypeId × Value → H) :
    ReturnsInHanded {} Tryd.checked os 10 .any (fun w args => (Rows.shaNobodySpec.pre enc Tryd.prog Tryd.f10 [] false w args ∧ laidMetH Tryd.prog Rows.shaNobodyRow.laid w) ∧ sizedMet enc Tryd.prog Tryd.f10 (OpenSpec.ofChange Rows.shaNobodySpec) false w args) (Rows.shaNobodySpec.post enc Tryd.prog Tryd.f10 false true false false) := by
  refine returnsInHanded_of_change_and (C := Tryd.checked) (X := fun w _ => laidMetH Tryd.prog Rows.shaNobodyRow.laid w) (fun _ _ _ hh h => h.of_heap hh) own started (by kernel_rfl) Tryd.func10
    (ChangeSpec.witness_shaped (enc := enc) (C := Tryd.checked) (os := os) (X := fun w _ => laidMetH Tryd.prog Rows.shaNobodyRow.laid w) false (World.doorLaid Tryd.prog 400 os) #[.slice none 0 0] 8 rfl (World.shaped_of_RefB (by kernel_rfl) (by kernel_rfl)) (by kernel_rfl) (by kernel_rfl) (by kernel_rfl) (door_met os _)) ?_
  intro W base args ds gs before hval0 hW _ _ hL _
  have hval : ∀ (j : Nat) t v, Tryd.f10.params[j]? = some t → args[j]? = some v → Value.okWide Tryd.prog W .any base t v := hval0
  have hW' := hW
  obtain ⟨p, q, hA0, hV, rfl, hfz, hnd⟩ := hW
  have hA : DataW.TrodAll enc Tryd.prog W 0 (fun _ => true) true Tryd.f10.params.toList args.toList ds p := hA0
  rw [Tryd.params10] at hA hval
  obtain ⟨v0, vs0, d0, ds0, p0, q0, hargs, rfl, rfl, h0, r0⟩ := trodAll_cons hA
  obtain ⟨rfl, rfl, rfl⟩ := trodAll_nil r0
  obtain rfl : args = #[v0] := by cases args; simp_all
  obtain ⟨rfl, rfl⟩ := trodVars_none hV
  have k0 := h0
  have lt0 : ∀ x ∈ p0, x.block < W.heap.size := by obtain ⟨m, hm⟩ := k0; exact DataW.trod_lt m _ _ _ hm
  obtain ⟨a0, n0, c0, l0, rfl, hn0, b0⟩ := open_bytes Tryd.underlying29 Tryd.underlying5 (by kernel_rfl) (hval 0 29 v0 rfl rfl) h0
  clear hA0 hval0
  refine (walk W (of_laid hL) a0 n0 c0 l0 hn0 b0).mono fun e W' ⟨he, bel⟩ => ?_
  subst he
  exact ⟨_, rfl, _, _, _, [], _, [], hW', trodAll_mk1 (shut_bool Tryd.underlying4 _), (trodAll_cons_mk (Below.trod laidOut (by kernel_rfl) (of_decide_eq_true (by kernel_rfl)) k0 bel lt0) trodAll_mk0), rfl, bel.frame _, fun h => by cases h⟩
theorem over : Rows.shaNobodyRow.holds Tryd.pinned (OpenSpec.ofChange Rows.shaNobodySpec) :=
  OpenClaim.holds_of_wide 10 Tryd.f10 rfl rfl rfl rfl rfl rfl rfl ⟨rfl, rfl, rfl, rfl, rfl⟩ rfl rfl rfl rfl rfl (by kernel_rfl) Tryd.func10 (by kernel_rfl)
    (of_decide_eq_true (by kernel_rfl)) (by unfold Func.isWrapper; first | (rw [if_pos (by decide +kernel)]; kernel_rfl) | (rw [if_neg (by decide +kernel)]; exact ⟨rfl, rfl⟩))
    (fun os started H enc _ => lifted os started H enc)
/-- The statement: the tied card. -/
theorem proved : Rows.ShaNobodyCardSaid :=
  Claim7.holds_tied_plain_at .later [] [.data] true (true, "965a8da0ce5c2711f41dbdd53310348fca91422acffbe9034a6b03730aadf053") false over (fun _ h => by cases h) (by kernel_rfl) (fun _ h => by cases h) shaNobody_row_tie rfl ⟨rfl, rfl⟩ (by kernel_rfl) rfl
    (fun f fn hf hfn => by
      obtain rfl : f = 10 := Option.some.inj ((show Tryd.prog.funcNamed "concierge/conciergelaw02.ShaNobody" = some 10 by kernel_rfl).symm.trans hf) |>.symm
      obtain rfl : fn = Tryd.f10 := (Option.some.inj (Tryd.func10.symm.trans hfn)).symm
      exact ⟨by kernel_rfl, fun j t ht => by
        rw [Tryd.params10] at ht
        have hm : t ∈ [29] := by simpa using Array.mem_of_getElem? ht
        have hall : ([29].all fun u => !Tryd.prog.wantsStandIn u) = true := by kernel_rfl
        exact (show Tryd.prog.wantsStandIn t = false by simpa using List.all_eq_true.1 hall t hm)⟩)
    (by kernel_rfl)
end Go.Proofs.YtagfgkhadmoboaaDoor.shaNobody
