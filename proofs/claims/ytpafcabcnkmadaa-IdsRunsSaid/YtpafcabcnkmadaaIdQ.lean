/-
  Give.
-/
import Derived.Test.YtpafcabcnkmadaaIdO
namespace Go.Proofs.Ytpafcabcnkmadaa.Id
open Go.RowKit
set_option linter.unusedVariables false
set_option linter.unusedSimpArgs false

theorem rest_last (l : List (Int × Int)) : l = [] ∨ ∃ k y, l = k ++ [y] := by
  rcases List.eq_nil_or_concat l with h | ⟨k, y, h⟩
  · exact .inl h
  · exact .inr ⟨k, y, by simpa using h⟩
/-- What a number that is given leaves. -/
theorem gave {g : Nat} {m m' : Am} {S : Al} {w w' : World} {id t : Int} {p : Nat} {f : Bool} (h : AlAt w g m S) (ht : okT t) (hu : id ∈ S.used) (hp : (p : Int) = id - S.low) (ha : AmAt w' g m') (hsh : m'.sh = { m.sh with tl := m.tl.set p false, fell := f, rl := m.rl ++ [(id, t + S.quiet)] })
    (hf : f = false → rising2 (S.rest ++ [(id, t + S.quiet)])) : AlAt w' g m' (give S id t).1 := by
  have hok := (give_ok h.ok id t).1
  rw [give_yes hu ht] at hok ⊢
  have hfe : m'.fell = f := congrArg Sh.fell hsh
  refine ⟨ha, ?_, hok, fun he => ?_⟩
  · have e : m.tl.set p false = takenL S.low S.high (S.used.erase id) := by
      have e2 : S.low + (p : Int) = id := by omega
      rw [h.tl]
      refine takenL_set (u := S.used) ?_ ?_
      · rw [e2]
        have := fun hm => (erase_mem h.ok (id := id) (x := id)).1 hm
        exact (decide_eq_false fun hm => (this hm).1 rfl).symm
      · intro y hy
        rw [e2] at hy
        rw [erase_mem h.ok]
        simp [hy]
    rw [hsh, hfe, h.sh, e, h.rl]
  · rw [hfe] at he
    exact hf he
set_option maxRecDepth 20000 in
set_option maxHeartbeats 8000000 in
theorem give_any (g : Nat) {m : Am} {S : Al} (id t : Int) (w : World) (h : AlAt w g m S) :
    Calls Try.prog 18 #[.pointer (some ⟨g, 0, none⟩), .int .i64 id, .int .i64 t] w fun e w' => e = .returned (.int .i64 (give S id t).2) ∧ GoesA g m w (give S id t).1 w' := by
  have C := check_yes g t w h.am
  by_cases ht : okT t
  · rw [if_pos ht] at C
    have HCK := Lib.hid C
    have HHA := Lib.hid (has_any g id w h)
    by_cases hu : id ∈ S.used
    · rw [decide_eq_true hu] at HHA
      have hur := h.ok.used hu
      have hset := h.ok.set
      have e2 : (give S id t).2 = 0 := by rw [give_yes hu ht]
      rw [e2]
      have HT := Lib.hid ht
      have HU := Lib.hid hu
      have HA := Lib.hid h
      unfold okSet topT at hset
      unfold okT topT at ht
      have x7 : wrap64 (t + S.quiet) = t + S.quiet := wrap64_in (by omega) (by omega)
      obtain ⟨p, hp⟩ : ∃ p : Nat, (p : Int) = id - S.low := ⟨(id - S.low).toNat, by omega⟩
      have HPE := Lib.hid hp
      obtain ⟨rd, hrd⟩ : ∃ rd, rd = t + S.quiet := ⟨_, rfl⟩
      have HRD := Lib.hid hrd
      rw [← hrd] at x7
      have hlen := h.len
      have hpl : p < m.tl.length := by omega
      obtain ⟨b, cap, cur, ev, hbl, hb, hc1, hc2, hc3, hc4⟩ := own_open h.am.to (.inr h.am.made)
      have HEV := Lib.hid ev
      have HCC : Hid (m.tl.length ≤ cap ∧ cap ≤ maxLen ∧ cur.length = cap * 1 ∧ cur.take (m.tl.length * 1) = bools m.tl) := ⟨hc1, hc2, hc3, hc4⟩
      have HB := Lib.hid hb
      have HPL := Lib.hid hpl
      have HFIT : Hid (p < cur.length) := by show _ < _; omega
      obtain ⟨L, hL⟩ : ∃ L, L = m.tl.length := ⟨_, rfl⟩
      have hrow := h.am.row
      rw [h.lo, h.q] at hrow
      have HR2 := Lib.hid hrow
      rw [ev, ← hL] at hrow
      rw [← hL] at hpl
      have HR := Lib.hid hrow
      have e0 : id - S.low = (p : Int) := hp.symm
      have hpi : (0 : Int) ≤ (p : Int) := by omega
      have hpl2 : (p : Int) < (L : Int) := by omega
      have hpn : ((p : Int)).toNat = p := by omega
      have x2 : IntKind.i64.wrap (p : Int) = (p : Int) := IntWalk.i64_in _ (by omega)
      have HRL : Hid (m.rl.length ≤ 65534) := by show _ ≤ _; rw [h.rl]; have := h.ok.lens; omega
      clear C hur hset e2 ht hu hp hrd hlen ev hbl hb hc1 hc2 hc3 hc4 hL hrow h
      go_enter Try.func18, Try.ntmps18
      go_wp2_with fail
      refine HCK.out.mono ?_
      rintro e w' ⟨rfl, rfl⟩
      go_wp2_with fail
      refine HHA.out.mono ?_
      rintro e w1 ⟨rfl, hb1⟩
      have HB1 := Lib.hid hb1
      clear hb1 HCK HHA
      go_upto_region 6 with fail
      have HC : Hid (Gr w w1.drew) := Gr.trans HB1.out (Gr.drew w1)
      refine wp_region_G 11 Gr (by kernel_rfl) ?_
      generalize w1.drew = wc at HC ⊢
      -- 0: slot 21
      refine wpG_take preGr (i := 0) (v := ?_) (by kernel_rfl) (some 21) (by kernel_rfl) rfl (by kernel_rfl) (by kernel_rfl) (by kernel_rfl) (fun _ _ _ h => h) (by rfl) (fun w' hw' => ?_) rfl ?_
      rotate_left
      · try (have hxx := cells11 (heap_gr (Gr.trans HC.out hw') HR.out); obtain ⟨k0, k1, k2, k3, k4, k5, k6, k7, k8, k9, k10⟩ := hxx)
        go_simp
        with_reducible rfl
      simp only [Act.put, List.setIfInBounds_toArray, List.set_cons_zero, List.set_cons_succ]
      -- 1: slot 22
      refine wpG_take preGr (i := 1) (v := ?_) (by kernel_rfl) (some 22) (by kernel_rfl) rfl (by kernel_rfl) (by kernel_rfl) (by kernel_rfl) (fun _ _ _ h => h) (by rfl) (fun w' hw' => ?_) rfl ?_
      rotate_left
      · try (have hxx := cells11 (heap_gr (Gr.trans HC.out hw') HR.out); obtain ⟨k0, k1, k2, k3, k4, k5, k6, k7, k8, k9, k10⟩ := hxx)
        go_simp
        with_reducible rfl
      simp only [Act.put, List.setIfInBounds_toArray, List.set_cons_zero, List.set_cons_succ]
      -- 2: slot 23
      refine wpG_take preGr (i := 2) (v := ?_) (by kernel_rfl) (some 23) (by kernel_rfl) rfl (by kernel_rfl) (by kernel_rfl) (by kernel_rfl) (fun _ _ _ h => h) (by rfl) (fun w' hw' => ?_) rfl ?_
      rotate_left
      · try (have hxx := cells11 (heap_gr (Gr.trans HC.out hw') HR.out); obtain ⟨k0, k1, k2, k3, k4, k5, k6, k7, k8, k9, k10⟩ := hxx)
        go_simp
        with_reducible rfl
      simp only [Act.put, List.setIfInBounds_toArray, List.set_cons_zero, List.set_cons_succ]
      -- 3: slot 24
      refine wpG_take preGr (i := 3) (v := ?_) (by kernel_rfl) (some 24) (by kernel_rfl) rfl (by kernel_rfl) (by kernel_rfl) (by kernel_rfl) (fun _ _ _ h => h) (by rfl) (fun w' hw' => ?_) rfl ?_
      rotate_left
      · try (have hxx := cells11 (heap_gr (Gr.trans HC.out hw') HR.out); obtain ⟨k0, k1, k2, k3, k4, k5, k6, k7, k8, k9, k10⟩ := hxx)
        go_simp
        with_reducible rfl
      simp only [Act.put, List.setIfInBounds_toArray, List.set_cons_zero, List.set_cons_succ]
      -- 4: slot 25
      refine wpG_take preGr (i := 4) (v := ?_) (by kernel_rfl) (some 25) (by kernel_rfl) rfl (by kernel_rfl) (by kernel_rfl) (by kernel_rfl) (fun _ _ _ h => h) (by rfl) (fun w' hw' => ?_) rfl ?_
      rotate_left
      · try (have hxx := cells11 (heap_gr (Gr.trans HC.out hw') HR.out); obtain ⟨k0, k1, k2, k3, k4, k5, k6, k7, k8, k9, k10⟩ := hxx)
        go_simp
        with_reducible rfl
      simp only [Act.put, List.setIfInBounds_toArray, List.set_cons_zero, List.set_cons_succ]
      -- 5: slot 26
      refine wpG_take preGr (i := 5) (v := ?_) (by kernel_rfl) (some 26) (by kernel_rfl) rfl (by kernel_rfl) (by kernel_rfl) (by kernel_rfl) (fun _ _ _ h => h) (by rfl) (fun w' hw' => ?_) rfl ?_
      rotate_left
      · try (have hxx := cells11 (heap_gr (Gr.trans HC.out hw') HR.out); obtain ⟨k0, k1, k2, k3, k4, k5, k6, k7, k8, k9, k10⟩ := hxx)
        go_simp
        with_reducible rfl
      simp only [Act.put, List.setIfInBounds_toArray, List.set_cons_zero, List.set_cons_succ]
      -- 6: slot 27
      refine wpG_take preGr (i := 6) (v := ?_) (by kernel_rfl) (some 27) (by kernel_rfl) rfl (by kernel_rfl) (by kernel_rfl) (by kernel_rfl) (fun _ _ _ h => h) (by rfl) (fun w' hw' => ?_) rfl ?_
      rotate_left
      · try (have hxx := cells11 (heap_gr (Gr.trans HC.out hw') HR.out); obtain ⟨k0, k1, k2, k3, k4, k5, k6, k7, k8, k9, k10⟩ := hxx)
        go_simp
        with_reducible rfl
      simp only [Act.put, List.setIfInBounds_toArray, List.set_cons_zero, List.set_cons_succ]
      -- 7: slot 28
      refine wpG_take preGr (i := 7) (v := ?_) (by kernel_rfl) (some 28) (by kernel_rfl) rfl (by kernel_rfl) (by kernel_rfl) (by kernel_rfl) (fun _ _ _ h => h) (by rfl) (fun w' hw' => ?_) rfl ?_
      rotate_left
      · try (have hxx := cells11 (heap_gr (Gr.trans HC.out hw') HR.out); obtain ⟨k0, k1, k2, k3, k4, k5, k6, k7, k8, k9, k10⟩ := hxx)
        go_simp
        with_reducible rfl
      simp only [Act.put, List.setIfInBounds_toArray, List.set_cons_zero, List.set_cons_succ]
      -- 8: slot 29
      refine wpG_take preGr (i := 8) (v := ?_) (by kernel_rfl) (some 29) (by kernel_rfl) rfl (by kernel_rfl) (by kernel_rfl) (by kernel_rfl) (fun _ _ _ h => h) (by rfl) (fun w' hw' => ?_) rfl ?_
      rotate_left
      · try (have hxx := cells11 (heap_gr (Gr.trans HC.out hw') HR.out); obtain ⟨k0, k1, k2, k3, k4, k5, k6, k7, k8, k9, k10⟩ := hxx)
        go_simp
        with_reducible rfl
      simp only [Act.put, List.setIfInBounds_toArray, List.set_cons_zero, List.set_cons_succ]
      -- 9: slot 30
      refine wpG_take preGr (i := 9) (v := ?_) (by kernel_rfl) (some 30) (by kernel_rfl) rfl (by kernel_rfl) (by kernel_rfl) (by kernel_rfl) (fun _ _ _ h => h) (by rfl) (fun w' hw' => ?_) rfl ?_
      rotate_left
      · try (have hxx := cells11 (heap_gr (Gr.trans HC.out hw') HR.out); obtain ⟨k0, k1, k2, k3, k4, k5, k6, k7, k8, k9, k10⟩ := hxx)
        go_simp
        with_reducible rfl
      simp only [Act.put, List.setIfInBounds_toArray, List.set_cons_zero, List.set_cons_succ]
      -- 10: slot 31
      refine wpG_take preGr (i := 10) (v := ?_) (by kernel_rfl) (some 31) (by kernel_rfl) rfl (by kernel_rfl) (by kernel_rfl) (by kernel_rfl) (fun _ _ _ h => h) (by rfl) (fun w' hw' => ?_) rfl ?_
      rotate_left
      · try (have hxx := cells11 (heap_gr (Gr.trans HC.out hw') HR.out); obtain ⟨k0, k1, k2, k3, k4, k5, k6, k7, k8, k9, k10⟩ := hxx)
        go_simp
        with_reducible rfl
      simp only [Act.put, List.setIfInBounds_toArray, List.set_cons_zero, List.set_cons_succ]
      refine wpG_tail (i := 11) (by decide) rfl (by kernel_rfl) (by rfl) ?_
      refine wp_store_cell (none) 4 (.tmp 31) (.const (.bool false)) rfl b p (.bool false) rfl rfl 4 cur (heap_gr HC.out HB.out) sizeB HFIT.out rfl rfl ?_
      intro w3 h3 ho3
      have H3 := Lib.hid h3
      have HO3 := Lib.hid ho3
      clear h3 ho3
      try simp only [Act.put, List.setIfInBounds_toArray, List.set_cons_zero, List.set_cons_succ]
      refine wpG_done (by kernel_rfl) ?_ _
      have hA := HA.out.am.gr HC.out
      obtain ⟨q1, q2⟩ := hA.mark (v := false) HEV.out HCC.out.1 HCC.out.2.1 HCC.out.2.2.1 HCC.out.2.2.2 HPL.out H3.out HO3.out
      have HM3 := Lib.hid q1
      have HS3 := Lib.hid ((Stp.gr HC.out).trans q2)
      obtain ⟨m3, hm3⟩ : ∃ m3, m3 = { m with tl := m.tl.set p false } := ⟨_, rfl⟩
      rw [← hm3] at HM3 HS3
      have HSH3 : Hid (m3.sh = { m.sh with tl := m.tl.set p false }) := by show _ = _; rw [hm3]; rfl
      have e31 : m3.q = S.quiet := by rw [hm3]; exact HA.out.q
      have e32 : m3.rl = S.rest := by rw [hm3]; exact HA.out.rl
      have e33 : m3.fell = m.fell := by rw [hm3]
      have HE := Lib.hid (And.intro e31 (And.intro e32 e33))
      clear hA q1 q2 H3 HO3 HB HR HR2 HEV HCC HC HB1 hm3 e31 e32 e33 hpl hpi hpl2 hpn x2 e0
      have k2 := (cells11 HM3.out.row).2.2.1
      rw [HE.out.1] at k2
      rw [HRD.out] at x7
      rcases rest_last S.rest with hrest | ⟨l, y, hrest⟩
      · have hb8 : m3.rl = [] := by rw [HE.out.2.1]; exact hrest
        have k8 := (cells11 HM3.out.row).2.2.2.2.2.2.2.2.1
        rw [hb8] at k8
        have HBK := Lib.hid (back_r_none g w3 k8)
        have HREST := Lib.hid hrest
        clear k8 hb8 hrest
        go_wp2_with fail
        refine HBK.out.mono ?_
        rintro e w4 ⟨rfl, hb4⟩
        have HB4 := Lib.hid hb4
        clear hb4 HBK k2
        have hb5 : Below w4.heap.size w4 (w4.alloc (.cells #[.int .i64 0, .int .i64 0] 54)) := (Below.refl _ _).alloc (Nat.le_refl _) _
        have HT5 : Hid ((w4.alloc (.cells #[.int .i64 0, .int .i64 0] 54)).heap[w4.heap.size]? = some (.cells #[.int .i64 0, .int .i64 0] 54)) := heap_alloc_last _ _
        have HB5 : Hid (Below w3.heap.size w3 (w4.alloc (.cells #[.int .i64 0, .int .i64 0] 54))) := Below.trans HB4.out (Below.mono hb5 (Below.size HB4.out))
        clear hb5
        go_wp2_with (with_reducible refine wpList_store_pair rfl (.tmp 9) (.tmp 43) rfl w4.heap.size (0) (0) rfl rfl _ _ HT5.out ?_)
        intro w6 h6 ho6
        have HB6 : Hid (Below w3.heap.size w3 w6) := ho6.below _ _ (Below.size HB4.out) HB5.out
        have HT6 := Lib.hid h6
        have HGB : Hid (g < w4.heap.size) := Nat.lt_of_lt_of_le (HM3.out.lt g Fm.g) (Below.size HB4.out)
        clear h6 ho6 HT5 HB5
        have HM6 := Lib.hid (HM3.out.gr HB6.out)
        have HS6 := Lib.hid (HS3.out.trans (Stp.gr HB6.out))
        obtain ⟨b9, hb9⟩ : ∃ b, b = w4.heap.size := ⟨_, rfl⟩
        rw [← hb9] at HT6 HGB ⊢
        clear hb9
        obtain ⟨c0, c1⟩ := cells2 HT6.out
        go_wp2_with (with_reducible refine wpList_store_flag rfl (.tmp 60) (.tmp 58) rfl g 10 false rfl rfl _ _ _ _ _ _ _ _ _ _ _ HM6.out.row (by decide) ?_)
        intro w7 h7 ho7
        have HM7 : Hid (AmAt w7 g { m3 with fell := false }) := HM6.out.turned h7 ho7 rfl rfl HM6.out.fr rfl rfl HM6.out.rr rfl rfl
        have HS7 : Hid (Stp g m { m3 with fell := false } w w7) := HS6.out.trans (Stp.same (Tr.only ho7 Fm.g) rfl rfl rfl)
        clear h7 ho7
        have HPU := Lib.hid (push_r g (id, t + S.quiet) w7 HM7.out (by show m3.rl.length ≤ _; rw [HE.out.2.1, ← HA.out.rl]; exact HRL.out))
        unfold pairV at HPU
        go_wp2_with fail
        refine HPU.out.mono ?_
        rintro e w8 ⟨rfl, m8, ha8, hs8, hsh8⟩
        have HGV : Hid (AlAt w8 g m8 (give S id t).1) := by
          refine gave (f := false) HA.out HT.out HU.out HPE.out ha8 ?_ (fun _ => by rw [HREST.out]; exact List.pairwise_singleton _ _)
          have e1 : ({ m3 with fell := false } : Am).sh = { m3.sh with fell := false } := rfl
          have e2 : ({ m3 with fell := false } : Am).rl = m3.rl := rfl
          rw [hsh8, e1, e2, HSH3.out, HE.out.2.1, HA.out.rl]
        have HS8 := Lib.hid (HS7.out.trans hs8)
        clear ha8 hs8 hsh8 HPU
        go_wp2
        go_ret
        exact ⟨rfl, m8, HGV.out, HS8.out⟩
      · have hb8 : m3.rl = l ++ [y] := by rw [HE.out.2.1]; exact hrest
        have HBK := Lib.hid (back_r_some g w3 HM3.out hb8)
        have HREST := Lib.hid hrest
        clear hb8 hrest
        go_wp2_with fail
        refine HBK.out.mono ?_
        rintro e w4 ⟨rfl, hb4⟩
        have HB4 := Lib.hid hb4
        clear hb4 HBK k2
        unfold pairV
        have hb5 : Below w4.heap.size w4 (w4.alloc (.cells #[.int .i64 0, .int .i64 0] 54)) := (Below.refl _ _).alloc (Nat.le_refl _) _
        have HT5 : Hid ((w4.alloc (.cells #[.int .i64 0, .int .i64 0] 54)).heap[w4.heap.size]? = some (.cells #[.int .i64 0, .int .i64 0] 54)) := heap_alloc_last _ _
        have HB5 : Hid (Below w3.heap.size w3 (w4.alloc (.cells #[.int .i64 0, .int .i64 0] 54))) := Below.trans HB4.out (Below.mono hb5 (Below.size HB4.out))
        clear hb5
        go_wp2_with (with_reducible refine wpList_store_pair rfl (.tmp 9) (.tmp 43) rfl w4.heap.size (y.1) (y.2) rfl rfl _ _ HT5.out ?_)
        intro w6 h6 ho6
        have HB6 : Hid (Below w3.heap.size w3 w6) := ho6.below _ _ (Below.size HB4.out) HB5.out
        have HT6 := Lib.hid h6
        have HGB : Hid (g < w4.heap.size) := Nat.lt_of_lt_of_le (HM3.out.lt g Fm.g) (Below.size HB4.out)
        clear h6 ho6 HT5 HB5
        have HM6 := Lib.hid (HM3.out.gr HB6.out)
        have HS6 := Lib.hid (HS3.out.trans (Stp.gr HB6.out))
        obtain ⟨b9, hb9⟩ : ∃ b, b = w4.heap.size := ⟨_, rfl⟩
        rw [← hb9] at HT6 HGB ⊢
        clear hb9
        obtain ⟨c0, c1⟩ := cells2 HT6.out
        cases hfe : m.fell with
        | true =>
          have k10 := (cells11 HM6.out.row).2.2.2.2.2.2.2.2.2.2
          rw [HE.out.2.2, hfe] at k10
          clear hfe
          go_wp2_with (with_reducible refine wpList_store_flag rfl (.tmp 60) (.tmp 58) rfl g 10 true rfl rfl _ _ _ _ _ _ _ _ _ _ _ HM6.out.row (by decide) ?_)
          intro w7 h7 ho7
          have HM7 : Hid (AmAt w7 g { m3 with fell := true }) := HM6.out.turned h7 ho7 rfl rfl HM6.out.fr rfl rfl HM6.out.rr rfl rfl
          have HS7 : Hid (Stp g m { m3 with fell := true } w w7) := HS6.out.trans (Stp.same (Tr.only ho7 Fm.g) rfl rfl rfl)
          clear h7 ho7
          have HPU := Lib.hid (push_r g (id, t + S.quiet) w7 HM7.out (by show m3.rl.length ≤ _; rw [HE.out.2.1, ← HA.out.rl]; exact HRL.out))
          unfold pairV at HPU
          go_wp2_with fail
          refine HPU.out.mono ?_
          rintro e w8 ⟨rfl, m8, ha8, hs8, hsh8⟩
          have HGV : Hid (AlAt w8 g m8 (give S id t).1) := by
            refine gave (f := true) HA.out HT.out HU.out HPE.out ha8 ?_ (fun h => by cases h)
            have e1 : ({ m3 with fell := true } : Am).sh = { m3.sh with fell := true } := rfl
            have e2 : ({ m3 with fell := true } : Am).rl = m3.rl := rfl
            rw [hsh8, e1, e2, HSH3.out, HE.out.2.1, HA.out.rl]
          have HS8 := Lib.hid (HS7.out.trans hs8)
          clear ha8 hs8 hsh8 HPU
          go_wp2
          go_ret
          exact ⟨rfl, m8, HGV.out, HS8.out⟩
        | false =>
          have k10 := (cells11 HM6.out.row).2.2.2.2.2.2.2.2.2.2
          rw [HE.out.2.2, hfe] at k10
          have HFE := Lib.hid hfe
          clear hfe
          by_cases hgt : t + S.quiet < y.2
          · go_wp2_with (with_reducible refine wpList_store_flag rfl (.tmp 60) (.tmp 58) rfl g 10 true rfl rfl _ _ _ _ _ _ _ _ _ _ _ HM6.out.row (by decide) ?_)
            intro w7 h7 ho7
            have HM7 : Hid (AmAt w7 g { m3 with fell := true }) := HM6.out.turned h7 ho7 rfl rfl HM6.out.fr rfl rfl HM6.out.rr rfl rfl
            have HS7 : Hid (Stp g m { m3 with fell := true } w w7) := HS6.out.trans (Stp.same (Tr.only ho7 Fm.g) rfl rfl rfl)
            clear h7 ho7
            have HPU := Lib.hid (push_r g (id, t + S.quiet) w7 HM7.out (by show m3.rl.length ≤ _; rw [HE.out.2.1, ← HA.out.rl]; exact HRL.out))
            unfold pairV at HPU
            go_wp2_with fail
            refine HPU.out.mono ?_
            rintro e w8 ⟨rfl, m8, ha8, hs8, hsh8⟩
            have HGV : Hid (AlAt w8 g m8 (give S id t).1) := by
              refine gave (f := true) HA.out HT.out HU.out HPE.out ha8 ?_ (fun h => by cases h)
              have e1 : ({ m3 with fell := true } : Am).sh = { m3.sh with fell := true } := rfl
              have e2 : ({ m3 with fell := true } : Am).rl = m3.rl := rfl
              rw [hsh8, e1, e2, HSH3.out, HE.out.2.1, HA.out.rl]
            have HS8 := Lib.hid (HS7.out.trans hs8)
            clear ha8 hs8 hsh8 HPU
            go_wp2
            go_ret
            exact ⟨rfl, m8, HGV.out, HS8.out⟩
          · have HLE : Hid (y.2 ≤ t + S.quiet) := by show _ ≤ _; omega
            go_wp2_with (with_reducible refine wpList_store_flag rfl (.tmp 60) (.tmp 58) rfl g 10 false rfl rfl _ _ _ _ _ _ _ _ _ _ _ HM6.out.row (by decide) ?_)
            intro w7 h7 ho7
            have HM7 : Hid (AmAt w7 g { m3 with fell := false }) := HM6.out.turned h7 ho7 rfl rfl HM6.out.fr rfl rfl HM6.out.rr rfl rfl
            have HS7 : Hid (Stp g m { m3 with fell := false } w w7) := HS6.out.trans (Stp.same (Tr.only ho7 Fm.g) rfl rfl rfl)
            clear h7 ho7
            have HPU := Lib.hid (push_r g (id, t + S.quiet) w7 HM7.out (by show m3.rl.length ≤ _; rw [HE.out.2.1, ← HA.out.rl]; exact HRL.out))
            unfold pairV at HPU
            go_wp2_with fail
            refine HPU.out.mono ?_
            rintro e w8 ⟨rfl, m8, ha8, hs8, hsh8⟩
            have HGV : Hid (AlAt w8 g m8 (give S id t).1) := by
              refine gave (f := false) HA.out HT.out HU.out HPE.out ha8 ?_ (fun _ => rising2_snoc (HA.out.sorted HFE.out) (.inr ⟨y, by rw [HREST.out]; simp, HLE.out⟩))
              have e1 : ({ m3 with fell := false } : Am).sh = { m3.sh with fell := false } := rfl
              have e2 : ({ m3 with fell := false } : Am).rl = m3.rl := rfl
              rw [hsh8, e1, e2, HSH3.out, HE.out.2.1, HA.out.rl]
            have HS8 := Lib.hid (HS7.out.trans hs8)
            clear ha8 hs8 hsh8 HPU
            go_wp2
            go_ret
            exact ⟨rfl, m8, HGV.out, HS8.out⟩
    · rw [decide_eq_false hu] at HHA
      rw [give_no hu ht]
      have HA := Lib.hid h
      clear C h ht hu
      go_enter Try.func18, Try.ntmps18
      go_wp2_with fail
      refine HCK.out.mono ?_
      rintro e w' ⟨rfl, rfl⟩
      go_wp2_with fail
      refine HHA.out.mono ?_
      rintro e w1 ⟨rfl, hb1⟩
      have HB1 := Lib.hid hb1
      clear hb1 HCK HHA
      go_wp2
      go_ret
      exact ⟨rfl, m, HA.out.gr HB1.out, Stp.gr HB1.out⟩
  · rw [if_neg ht] at C
    have e : give S id t = (S, 1) := by unfold give; rw [if_neg ht]
    rw [e]
    have HCK := Lib.hid C
    have HA := Lib.hid h
    clear C h ht e
    go_enter Try.func18, Try.ntmps18
    go_wp2_with fail
    refine HCK.out.mono ?_
    rintro e w' ⟨rfl, rfl⟩
    go_wp2
    go_ret
    exact ⟨rfl, m, HA.out, Stp.refl _ _ _⟩
end Go.Proofs.Ytpafcabcnkmadaa.Id
