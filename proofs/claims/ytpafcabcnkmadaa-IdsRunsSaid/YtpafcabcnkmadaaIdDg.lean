/-
  The document's Give.
-/
import Derived.Test.YtpafcabcnkmadaaIdDf
namespace Go.Proofs.Ytpafcabcnkmadaa.Id
open Go.RowKit
set_option linter.unusedVariables false
set_option linter.unusedSimpArgs false

theorem erase_at {x : Int} : ∀ (l : List Int) (i : Nat) (hi : i < l.length), l[i] = x → (∀ k, (hk : k < i) → (hk2 : k < l.length) → l[k] ≠ x) → l.erase x = l.take i ++ l.drop (i + 1)
  | [], i, hi, _, _ => by simp at hi
  | y :: l, 0, hi, h, _ => by
    have h' : y = x := h
    subst h'
    simp
  | y :: l, i + 1, hi, h, hno => by
    have hy : y ≠ x := hno 0 (by omega) (by simp)
    have := erase_at l i (by simpa using hi) (by simpa using h) fun k hk hk2 => by
      have := hno (k + 1) (by omega) (by simpa using hk2)
      simpa using this
    rw [List.erase_cons_tail (by simpa using hy), this]
    simp
theorem wp_store_dR {op : Oper} {a : Act} {w : World} {Q : Exit → Act → World → Prop} {K : Act → World → Prop} (d : Option Tmp) (x y : Operand) (ho : op.op = .store 51 x y) (g o : Nat) (A : Option Addr) (L C : Nat) (hx : a.eval x = .pointer (some ⟨g, o, none⟩)) (hy : a.eval y = .slice A L C)
    (c0 c1 c2 c3 c4 c5 : Value) (hg : w.heap[g]? = some (.cells #[c0, c1, c2, c3, c4, c5] 75 (0, 0))) (hfit : o < 6) (hd : op.dst = d)
    (h : ∀ w', w'.heap[g]? = some (.cells ([c0, c1, c2, c3, c4, c5].set o (.slice A L C)).toArray 75 (0, 0)) → Only g w w' → K (a.put d undef) w') : op.wp Try.prog a w K Q :=
  wp_store_cell d 51 x y ho g o (.slice A L C) hx hy 75 [c0, c1, c2, c3, c4, c5] hg sizeSR hfit rfl hd h
theorem builtR2 (x y : Int) : Try.prog.built 54 [(0, .int .i64 x), (1, .int .i64 y)] = some #[.int .i64 x, .int .i64 y] := by kernel_rfl
set_option maxRecDepth 20000 in
set_option maxHeartbeats 8000000 in
theorem dgive_any (g : Nat) (id t : Int) {rv uv ev : Value} {S : Al} (w : World) (h : DQ w g rv uv ev S) (hq : 0 ≤ S.quiet ∧ S.quiet ≤ topT) (hlu : S.used.length ≤ 65534) (hle : S.rest.length ≤ 65534) :
    Calls Try.prog 26 #[.pointer (some ⟨g, 0, none⟩), .int .i64 id, .int .i64 t] w fun e w' => e = .returned (.int .i64 (give S id t).2) ∧ DGoes g rv uv ev w (give S id t).1 w' := by
  obtain ⟨i0, hi0, hz0, hz1, hz2⟩ := info_parts infoI
  obtain ⟨i1, hi1, hy0, hy1, hy2⟩ := info_parts infoR
  have T := dtick_any t w
  have HD := Lib.hid h
  by_cases ht : okT t
  · rw [decide_eq_true ht] at T
    have HT := Lib.hid T
    have HTT := Lib.hid ht
    obtain ⟨k0, k1, k2, k3, k4, k5⟩ := cells6 h.doc.row
    obtain ⟨a, c, euv, hc1, hc2⟩ := h.doc.u.shape
    obtain ⟨n, hn⟩ : ∃ n, n = S.used.length := ⟨_, rfl⟩
    rw [← hn] at euv hlu
    rw [euv] at k4
    have hud := h.doc.u
    unfold IR at hud
    rw [← hn, euv] at hud
    have HU := Lib.hid hud
    have HN := Lib.hid hn
    have HEU := Lib.hid euv
    have HQB : Hid (wrap64 (t + S.quiet) = t + S.quiet ∧ IntKind.i64.wrap (t + S.quiet) = t + S.quiet) := by
      unfold okT topT at ht
      unfold topT at hq
      exact ⟨wrap64_in (by omega) (by omega), IntWalk.i64_in _ (by omega)⟩
    clear h hud hn T ht euv hc1 hc2 hq
    go_enter Try.func26, Try.ntmps26
    go_wp2_with fail
    refine HT.out.mono ?_
    rintro e w' ⟨rfl, rfl⟩
    go_wp2_with fail
    go_loopw [7] (fun iv wr => ∃ i : Nat, i ≤ n ∧ iv = .int .i64 (i : Int) ∧ w = wr ∧ ∀ k, (hk : k < i) → (hk2 : k < S.used.length) → S.used[k] ≠ id) (fun iv _ => n - (intOf iv).toNat)
    case atStart => exact ⟨0, Nat.zero_le _, rfl, rfl, fun k hk => by omega⟩
    case round =>
      obtain ⟨i, hin, rfl, rfl, hno⟩ := hrel
      have HNO := Lib.hid hno
      clear hno HT
      by_cases hlt : i < n
      · have hil : i < S.used.length := by rw [← HN.out]; exact hlt
        obtain ⟨b, o, ea, hcel⟩ := IR.at (show IR w (.slice a n c) S.used by unfold IR; rw [← HN.out]; exact HU.out) HN.out (by omega)
        subst ea
        have hc := hcel i hil
        obtain ⟨x, hx⟩ : ∃ x, x = S.used[i] := ⟨_, rfl⟩
        rw [← hx] at hc
        have HX := Lib.hid hx
        clear hcel hx
        by_cases he : x = id
        · have he2 : (x == id) = true := by rw [he]; simp
          have hmem : id ∈ S.used := by rw [← he, HX.out]; exact List.getElem_mem hil
          have HGV : Hid (give S id t = ({ S with used := S.used.take i ++ S.used.drop (i + 1), rest := S.rest ++ [(id, t + S.quiet)] }, 0)) := by
            show _ = _
            rw [give_yes hmem HTT.out, erase_at S.used i hil (by rw [← HX.out]; exact he) HNO.out]
          obtain ⟨ao1, hs1, hr1⟩ := slice_upto Try.underlying41 hi0 hz1 HU.out .i64 (i : Int) i rfl hin
          obtain ⟨ao2, hs2, hr2⟩ := slice_from Try.underlying41 hi0 hz1 HU.out .i64 ((i : Int) + 1) (i + 1) (by omega) (by omega)
          have HR1 := Lib.hid hr1
          have HR2 := Lib.hid hr2
          have HO1 : Hid (∀ u ∈ (S.used.map (Value.int .i64)).take (i * 1), u.oneCell' = true) := fun u hu => ints_cell _ u (List.mem_of_mem_take hu)
          have HO2 : Hid (∀ u ∈ (S.used.map (Value.int .i64)).drop ((i + 1) * 1), u.oneCell' = true) := fun u hu => ints_cell _ u (List.mem_of_mem_drop hu)
          have HBY : Hid ((0 + i) * 8 ≤ 140737488355328) := by show _ ≤ _; omega
          have HBY2 : Hid ((0 + i + (n - (i + 1))) * 8 ≤ 140737488355328) := by show _ ≤ _; omega
          have x10 : IntKind.i64.wrap ((i : Int) + 1) = (i : Int) + 1 := IntWalk.i64_in _ (by omega)
          clear HX hr1 hr2 hmem
          go_upto_region 7 with fail
          clear k0 k1 k2 k3 k4 k5 hc
          have HC : Hid (Gr w w.drew) := Gr.drew w
          refine wp_region_G 19 (Below (w.heap.size)) (by kernel_rfl) ?_
          generalize w.drew = wc at HC ⊢
          -- 0: slot 29
          refine wpG_take (preBelow (w.heap.size)) (i := 0) (v := ?_) (by kernel_rfl) (some 29) (by kernel_rfl) rfl (by kernel_rfl) (by kernel_rfl) (by kernel_rfl) (fun _ _ _ h => h) (by rfl) (fun w' hw' => ?_) rfl ?_
          rotate_left
          · try (have hyy := cells6 (HD.out.gr (Below.trans HC.out hw')).doc.row; rw [HEU.out] at hyy; obtain ⟨k0, k1, k2, k3, k4, k5⟩ := hyy)
            go_simp
            with_reducible rfl
          simp only [Act.put, List.setIfInBounds_toArray, List.set_cons_zero, List.set_cons_succ]
          -- 2: slot 31
          refine wpG_take (preBelow (w.heap.size)) (i := 2) (v := ?_) (by kernel_rfl) (some 31) (by kernel_rfl) rfl (by kernel_rfl) (by kernel_rfl) (by kernel_rfl) (fun _ _ _ h => h) (by rfl) (fun w' hw' => ?_) rfl ?_
          rotate_left
          · try (have hyy := cells6 (HD.out.gr (Below.trans HC.out hw')).doc.row; rw [HEU.out] at hyy; obtain ⟨k0, k1, k2, k3, k4, k5⟩ := hyy)
            go_simp
            with_reducible rfl
          simp only [Act.put, List.setIfInBounds_toArray, List.set_cons_zero, List.set_cons_succ]
          -- 3: slot 32
          refine wpG_take (preBelow (w.heap.size)) (i := 3) (v := ?_) (by kernel_rfl) (some 32) (by kernel_rfl) rfl (by kernel_rfl) (by kernel_rfl) (by kernel_rfl) (fun _ _ _ h => h) (by rfl) (fun w' hw' => ?_) rfl ?_
          rotate_left
          · try (have hyy := cells6 (HD.out.gr (Below.trans HC.out hw')).doc.row; rw [HEU.out] at hyy; obtain ⟨k0, k1, k2, k3, k4, k5⟩ := hyy)
            go_simp
            with_reducible rfl
          simp only [Act.put, List.setIfInBounds_toArray, List.set_cons_zero, List.set_cons_succ]
          -- 4: slot 33
          refine wpG_take (preBelow (w.heap.size)) (i := 4) (v := ?_) (by kernel_rfl) (some 33) (by kernel_rfl) rfl (by kernel_rfl) (by kernel_rfl) (by kernel_rfl) (fun _ _ _ h => h) (by rfl) (fun w' hw' => ?_) rfl ?_
          rotate_left
          · try (have hyy := cells6 (HD.out.gr (Below.trans HC.out hw')).doc.row; rw [HEU.out] at hyy; obtain ⟨k0, k1, k2, k3, k4, k5⟩ := hyy)
            go_simp
            with_reducible rfl
          simp only [Act.put, List.setIfInBounds_toArray, List.set_cons_zero, List.set_cons_succ]
          -- 5: slot 34
          refine wpG_take (preBelow (w.heap.size)) (i := 5) (v := ?_) (by kernel_rfl) (some 34) (by kernel_rfl) rfl (by kernel_rfl) (by kernel_rfl) (by kernel_rfl) (fun _ _ _ h => h) (by rfl) (fun w' hw' => ?_) rfl ?_
          rotate_left
          · try (have hyy := cells6 (HD.out.gr (Below.trans HC.out hw')).doc.row; rw [HEU.out] at hyy; obtain ⟨k0, k1, k2, k3, k4, k5⟩ := hyy)
            go_simp
            with_reducible rfl
          simp only [Act.put, List.setIfInBounds_toArray, List.set_cons_zero, List.set_cons_succ]
          -- 6: slot 35
          refine wpG_take (preBelow (w.heap.size)) (i := 6) (v := ?_) (by kernel_rfl) (some 35) (by kernel_rfl) rfl (by kernel_rfl) (by kernel_rfl) (by kernel_rfl) (fun _ _ _ h => h) (by rfl) (fun w' hw' => ?_) rfl ?_
          rotate_left
          · try (have hyy := cells6 (HD.out.gr (Below.trans HC.out hw')).doc.row; rw [HEU.out] at hyy; obtain ⟨k0, k1, k2, k3, k4, k5⟩ := hyy)
            go_simp
            with_reducible rfl
          simp only [Act.put, List.setIfInBounds_toArray, List.set_cons_zero, List.set_cons_succ]
          -- 7: slot 36
          refine wpG_take (preBelow (w.heap.size)) (i := 7) (v := ?_) (by kernel_rfl) (some 36) (by kernel_rfl) rfl (by kernel_rfl) (by kernel_rfl) (by kernel_rfl) (fun _ _ _ h => h) (by rfl) (fun w' hw' => ?_) rfl ?_
          rotate_left
          · try (have hyy := cells6 (HD.out.gr (Below.trans HC.out hw')).doc.row; rw [HEU.out] at hyy; obtain ⟨k0, k1, k2, k3, k4, k5⟩ := hyy)
            go_simp
            with_reducible rfl
          simp only [Act.put, List.setIfInBounds_toArray, List.set_cons_zero, List.set_cons_succ]
          -- 9: slot 38
          refine wpG_take (preBelow (w.heap.size)) (i := 9) (v := ?_) (by kernel_rfl) (some 38) (by kernel_rfl) rfl (by kernel_rfl) (by kernel_rfl) (by kernel_rfl) (fun _ _ _ h => h) (by rfl) (fun w' hw' => ?_) rfl ?_
          rotate_left
          · try (have hyy := cells6 (HD.out.gr (Below.trans HC.out hw')).doc.row; rw [HEU.out] at hyy; obtain ⟨k0, k1, k2, k3, k4, k5⟩ := hyy)
            go_simp
            with_reducible rfl
          simp only [Act.put, List.setIfInBounds_toArray, List.set_cons_zero, List.set_cons_succ]
          -- 10: slot 39
          refine wpG_take (preBelow (w.heap.size)) (i := 10) (v := ?_) (by kernel_rfl) (some 39) (by kernel_rfl) rfl (by kernel_rfl) (by kernel_rfl) (by kernel_rfl) (fun _ _ _ h => h) (by rfl) (fun w' hw' => ?_) rfl ?_
          rotate_left
          · try (have hyy := cells6 (HD.out.gr (Below.trans HC.out hw')).doc.row; rw [HEU.out] at hyy; obtain ⟨k0, k1, k2, k3, k4, k5⟩ := hyy)
            go_simp
            with_reducible rfl
          simp only [Act.put, List.setIfInBounds_toArray, List.set_cons_zero, List.set_cons_succ]
          -- 11: slot 40
          refine wpG_take (preBelow (w.heap.size)) (i := 11) (v := ?_) (by kernel_rfl) (some 40) (by kernel_rfl) rfl (by kernel_rfl) (by kernel_rfl) (by kernel_rfl) (fun _ _ _ h => h) (by rfl) (fun w' hw' => ?_) rfl ?_
          rotate_left
          · try (have hyy := cells6 (HD.out.gr (Below.trans HC.out hw')).doc.row; rw [HEU.out] at hyy; obtain ⟨k0, k1, k2, k3, k4, k5⟩ := hyy)
            go_simp
            with_reducible rfl
          simp only [Act.put, List.setIfInBounds_toArray, List.set_cons_zero, List.set_cons_succ]
          -- 12: slot 41
          refine wpG_take (preBelow (w.heap.size)) (i := 12) (v := ?_) (by kernel_rfl) (some 41) (by kernel_rfl) rfl (by kernel_rfl) (by kernel_rfl) (by kernel_rfl) (fun _ _ _ h => h) (by rfl) (fun w' hw' => ?_) rfl ?_
          rotate_left
          · try (have hyy := cells6 (HD.out.gr (Below.trans HC.out hw')).doc.row; rw [HEU.out] at hyy; obtain ⟨k0, k1, k2, k3, k4, k5⟩ := hyy)
            go_simp
            with_reducible rfl
          simp only [Act.put, List.setIfInBounds_toArray, List.set_cons_zero, List.set_cons_succ]
          -- 13: slot 42
          refine wpG_take (preBelow (w.heap.size)) (i := 13) (v := ?_) (by kernel_rfl) (some 42) (by kernel_rfl) rfl (by kernel_rfl) (by kernel_rfl) (by kernel_rfl) (fun _ _ _ h => h) (by rfl) (fun w' hw' => ?_) rfl ?_
          rotate_left
          · try (have hyy := cells6 (HD.out.gr (Below.trans HC.out hw')).doc.row; rw [HEU.out] at hyy; obtain ⟨k0, k1, k2, k3, k4, k5⟩ := hyy)
            go_simp
            with_reducible rfl
          simp only [Act.put, List.setIfInBounds_toArray, List.set_cons_zero, List.set_cons_succ]
          -- 14: slot 43
          refine wpG_take (preBelow (w.heap.size)) (i := 14) (v := ?_) (by kernel_rfl) (some 43) (by kernel_rfl) rfl (by kernel_rfl) (by kernel_rfl) (by kernel_rfl) (fun _ _ _ h => h) (by rfl) (fun w' hw' => ?_) rfl ?_
          rotate_left
          · try (have hyy := cells6 (HD.out.gr (Below.trans HC.out hw')).doc.row; rw [HEU.out] at hyy; obtain ⟨k0, k1, k2, k3, k4, k5⟩ := hyy)
            go_simp
            with_reducible rfl
          simp only [Act.put, List.setIfInBounds_toArray, List.set_cons_zero, List.set_cons_succ]
          -- 15: slot 44
          refine wpG_take (preBelow (w.heap.size)) (i := 15) (v := ?_) (by kernel_rfl) (some 44) (by kernel_rfl) rfl (by kernel_rfl) (by kernel_rfl) (by kernel_rfl) (fun _ _ _ h => h) (by rfl) (fun w' hw' => ?_) rfl ?_
          rotate_left
          · try (have hyy := cells6 (HD.out.gr (Below.trans HC.out hw')).doc.row; rw [HEU.out] at hyy; obtain ⟨k0, k1, k2, k3, k4, k5⟩ := hyy)
            go_simp
            with_reducible rfl
          simp only [Act.put, List.setIfInBounds_toArray, List.set_cons_zero, List.set_cons_succ]
          refine wpG_one (i := 1) rfl (by kernel_rfl) (by rfl) ?_
          go_simp
          have hb : Gr wc (wc.alloc (.cells #[] 3)) := (Below.refl _ _).alloc (Nat.le_refl _) _
          refine ⟨hb.mono (Below.size HC.out), ?_⟩
          have HOW := Lib.hid (ownsRow_mono (own_new wc [] 3 0 1 rfl (Nat.zero_le _)) (Below.size HC.out))
          have HC1 := Lib.hid (Gr.trans HC.out hb)
          clear hb
          try simp only [Act.put, List.setIfInBounds_toArray, List.set_cons_zero, List.set_cons_succ]
          refine wpG_one (i := 8) rfl (by kernel_rfl) (by rfl) ?_
          refine wp_append_gr _ (some 37) (.tmp 30) (.tmp 36) 41 rfl w.heap.size 3 i0 _ 1 8 Try.underlying41 hi0 hz0 hz1 hz2 rfl (by decide) _ _ _ rfl HOW.out _ i _ rfl (Rd.below HR1.out HC1.out) HO1.out HBY.out (by decide) (Below.size HC1.out) rfl ?_
          intro v' w5 ho hg
          have hb := grown_below HOW.out (Below.size HC1.out) hg
          refine ⟨hb, ?_⟩
          have HC5 : Hid (Gr w w5) := Below.trans HC1.out hb
          have HO5 := Lib.hid ho
          clear HC1 HOW ho hg hb
          try simp only [Act.put, List.setIfInBounds_toArray, List.set_cons_zero, List.set_cons_succ]
          refine wpG_one (i := 16) rfl (by kernel_rfl) (by rfl) ?_
          refine wp_append_gr _ (some 45) (.tmp 37) (.tmp 44) 41 rfl w.heap.size 3 i0 _ 1 8 Try.underlying41 hi0 hz0 hz1 hz2 rfl (by decide) _ _ _ rfl HO5.out _ (n - (i + 1)) _ rfl (Rd.below HR2.out HC5.out) HO2.out HBY2.out (by decide) (Below.size HC5.out) rfl ?_
          intro v' w6 ho hg
          have hb := grown_below HO5.out (Below.size HC5.out) hg
          refine ⟨hb, ?_⟩
          have HC6 : Hid (Gr w w6) := Below.trans HC5.out hb
          obtain ⟨A6, C6, rfl, _, _⟩ := (own_rd ho).shape
          have HO6 : Hid (w6.ownsRow w.heap.size 3 1 (.slice A6 (0 + i + (n - (i + 1))) C6) (0 + i + (n - (i + 1))) (ints (S.used.take i ++ S.used.drop (i + 1)))) := by
            show World.ownsRow _ _ _ _ _ _ _
            simpa [ints] using ho
          clear HC5 HO5 ho hg hb
          try simp only [Act.put, List.setIfInBounds_toArray, List.set_cons_zero, List.set_cons_succ]
          -- 17: slot 46
          refine wpG_take (preBelow (w.heap.size)) (i := 17) (v := ?_) (by kernel_rfl) (some 46) (by kernel_rfl) rfl (by kernel_rfl) (by kernel_rfl) (by kernel_rfl) (fun _ _ _ h => h) (by rfl) (fun w' hw' => ?_) rfl ?_
          rotate_left
          · try (have hyy := cells6 (HD.out.gr (Below.trans HC.out hw')).doc.row; rw [HEU.out] at hyy; obtain ⟨k0, k1, k2, k3, k4, k5⟩ := hyy)
            go_simp
            with_reducible rfl
          simp only [Act.put, List.setIfInBounds_toArray, List.set_cons_zero, List.set_cons_succ]
          -- 18: slot 47
          refine wpG_take (preBelow (w.heap.size)) (i := 18) (v := ?_) (by kernel_rfl) (some 47) (by kernel_rfl) rfl (by kernel_rfl) (by kernel_rfl) (by kernel_rfl) (fun _ _ _ h => h) (by rfl) (fun w' hw' => ?_) rfl ?_
          rotate_left
          · try (have hyy := cells6 (HD.out.gr (Below.trans HC.out hw')).doc.row; rw [HEU.out] at hyy; obtain ⟨k0, k1, k2, k3, k4, k5⟩ := hyy)
            go_simp
            with_reducible rfl
          simp only [Act.put, List.setIfInBounds_toArray, List.set_cons_zero, List.set_cons_succ]
          refine wpG_tail (i := 19) (by decide) rfl (by kernel_rfl) (by rfl) ?_
          refine wp_store_dI (none) (.tmp 47) (.tmp 45) rfl g 4 _ _ _ rfl rfl _ _ _ _ _ _ (HD.out.gr HC6.out).doc.row (by decide) rfl ?_
          intro w7 h7 ho7
          have HG7 := Lib.hid (DQ.put4 HD.out HC6.out HO6.out (by have := HN.out; simp; omega) h7 ho7)
          clear h7 ho7 HO6 HC6
          try simp only [Act.put, List.setIfInBounds_toArray, List.set_cons_zero, List.set_cons_succ]
          refine wpG_done (by kernel_rfl) ?_ _
          obtain ⟨U', hU'⟩ : ∃ U', U' = ({ S with used := S.used.take i ++ S.used.drop (i + 1) } : Al) := ⟨_, rfl⟩
          have hg8 := HG7.out
          rw [← hU'] at hg8
          have HE' : Hid (U'.rest = S.rest ∧ U'.quiet = S.quiet) := ⟨by rw [hU'], by rw [hU']⟩
          have HGE : Hid ({ U' with rest := S.rest ++ [(id, t + S.quiet)] } = (give S id t).1 ∧ (give S id t).2 = 0) := ⟨by rw [HGV.out, hU'], by rw [HGV.out]⟩
          clear hU' HG7 HGV HNO HR1 HR2 HO1 HO2 HBY HBY2 hs1 hs2 HU HN HEU he2
          obtain ⟨rv2, uv2, ev2, hq2, htr2, hbl2⟩ := hg8
          have HQ2 := Lib.hid hq2
          have HTR2 := Lib.hid htr2
          have HBL2 := Lib.hid hbl2
          obtain ⟨ea2, ec2, eev, _, _⟩ := hq2.doc.e.shape
          obtain ⟨M, hM⟩ : ∃ M, M = S.rest.length := ⟨_, rfl⟩
          rw [HE'.out.1, ← hM] at eev
          have HEV := Lib.hid eev
          have hed := hq2.doc.e
          unfold RR at hed
          rw [HE'.out.1, ← hM, eev] at hed
          have HED := Lib.hid hed
          have HM := Lib.hid hM
          rw [← hM] at hle
          have HONE : Hid (∀ u ∈ flatR S.rest, u.oneCell' = true) := flatR_cell _
          have HON2 : Hid (∀ u ∈ [Value.int .i64 id, Value.int .i64 (t + S.quiet)], u.oneCell' = true) := by
            intro u hu
            simp only [List.mem_cons, List.not_mem_nil, or_false] at hu
            rcases hu with rfl | rfl <;> rfl
          have HBY : Hid ((0 + M) * 16 ≤ 140737488355328) := by show _ ≤ _; omega
          have HBY2 : Hid ((0 + M + 1) * 16 ≤ 140737488355328) := by show _ ≤ _; omega
          have x7 := HQB.out.1
          have x11 := HQB.out.2
          have hbu := builtR2 id (t + S.quiet)
          clear hq2 htr2 hbl2 eev hed hM
          go_upto_region 8 with fail
          have HC : Hid (Gr w7 w7.drew) := Gr.drew w7
          refine wp_region_G 19 (Below (w7.heap.size)) (by kernel_rfl) ?_
          generalize w7.drew = wc at HC ⊢
          -- 0: slot 48
          refine wpG_take (preBelow (w7.heap.size)) (i := 0) (v := ?_) (by kernel_rfl) (some 48) (by kernel_rfl) rfl (by kernel_rfl) (by kernel_rfl) (by kernel_rfl) (fun _ _ _ h => h) (by rfl) (fun w' hw' => ?_) rfl ?_
          rotate_left
          · try (have hyy := cells6 (HQ2.out.gr (Below.trans HC.out hw')).doc.row; rw [HEV.out, HE'.out.2] at hyy; obtain ⟨k0, k1, k2, k3, k4, k5⟩ := hyy)
            go_simp
            with_reducible rfl
          simp only [Act.put, List.setIfInBounds_toArray, List.set_cons_zero, List.set_cons_succ]
          -- 2: slot 50
          refine wpG_take (preBelow (w7.heap.size)) (i := 2) (v := ?_) (by kernel_rfl) (some 50) (by kernel_rfl) rfl (by kernel_rfl) (by kernel_rfl) (by kernel_rfl) (fun _ _ _ h => h) (by rfl) (fun w' hw' => ?_) rfl ?_
          rotate_left
          · try (have hyy := cells6 (HQ2.out.gr (Below.trans HC.out hw')).doc.row; rw [HEV.out, HE'.out.2] at hyy; obtain ⟨k0, k1, k2, k3, k4, k5⟩ := hyy)
            go_simp
            with_reducible rfl
          simp only [Act.put, List.setIfInBounds_toArray, List.set_cons_zero, List.set_cons_succ]
          -- 3: slot 51
          refine wpG_take (preBelow (w7.heap.size)) (i := 3) (v := ?_) (by kernel_rfl) (some 51) (by kernel_rfl) rfl (by kernel_rfl) (by kernel_rfl) (by kernel_rfl) (fun _ _ _ h => h) (by rfl) (fun w' hw' => ?_) rfl ?_
          rotate_left
          · try (have hyy := cells6 (HQ2.out.gr (Below.trans HC.out hw')).doc.row; rw [HEV.out, HE'.out.2] at hyy; obtain ⟨k0, k1, k2, k3, k4, k5⟩ := hyy)
            go_simp
            with_reducible rfl
          simp only [Act.put, List.setIfInBounds_toArray, List.set_cons_zero, List.set_cons_succ]
          -- 4: slot 52
          refine wpG_take (preBelow (w7.heap.size)) (i := 4) (v := ?_) (by kernel_rfl) (some 52) (by kernel_rfl) rfl (by kernel_rfl) (by kernel_rfl) (by kernel_rfl) (fun _ _ _ h => h) (by rfl) (fun w' hw' => ?_) rfl ?_
          rotate_left
          · try (have hyy := cells6 (HQ2.out.gr (Below.trans HC.out hw')).doc.row; rw [HEV.out, HE'.out.2] at hyy; obtain ⟨k0, k1, k2, k3, k4, k5⟩ := hyy)
            go_simp
            with_reducible rfl
          simp only [Act.put, List.setIfInBounds_toArray, List.set_cons_zero, List.set_cons_succ]
          -- 5: slot 53
          refine wpG_take (preBelow (w7.heap.size)) (i := 5) (v := ?_) (by kernel_rfl) (some 53) (by kernel_rfl) rfl (by kernel_rfl) (by kernel_rfl) (by kernel_rfl) (fun _ _ _ h => h) (by rfl) (fun w' hw' => ?_) rfl ?_
          rotate_left
          · try (have hyy := cells6 (HQ2.out.gr (Below.trans HC.out hw')).doc.row; rw [HEV.out, HE'.out.2] at hyy; obtain ⟨k0, k1, k2, k3, k4, k5⟩ := hyy)
            go_simp
            with_reducible rfl
          simp only [Act.put, List.setIfInBounds_toArray, List.set_cons_zero, List.set_cons_succ]
          -- 7: slot 55
          refine wpG_take (preBelow (w7.heap.size)) (i := 7) (v := ?_) (by kernel_rfl) (some 55) (by kernel_rfl) rfl (by kernel_rfl) (by kernel_rfl) (by kernel_rfl) (fun _ _ _ h => h) (by rfl) (fun w' hw' => ?_) rfl ?_
          rotate_left
          · try (have hyy := cells6 (HQ2.out.gr (Below.trans HC.out hw')).doc.row; rw [HEV.out, HE'.out.2] at hyy; obtain ⟨k0, k1, k2, k3, k4, k5⟩ := hyy)
            go_simp
            with_reducible rfl
          simp only [Act.put, List.setIfInBounds_toArray, List.set_cons_zero, List.set_cons_succ]
          -- 8: slot 56
          refine wpG_take (preBelow (w7.heap.size)) (i := 8) (v := ?_) (by kernel_rfl) (some 56) (by kernel_rfl) rfl (by kernel_rfl) (by kernel_rfl) (by kernel_rfl) (fun _ _ _ h => h) (by rfl) (fun w' hw' => ?_) rfl ?_
          rotate_left
          · try (have hyy := cells6 (HQ2.out.gr (Below.trans HC.out hw')).doc.row; rw [HEV.out, HE'.out.2] at hyy; obtain ⟨k0, k1, k2, k3, k4, k5⟩ := hyy)
            go_simp
            with_reducible rfl
          simp only [Act.put, List.setIfInBounds_toArray, List.set_cons_zero, List.set_cons_succ]
          -- 9: slot 57
          refine wpG_take (preBelow (w7.heap.size)) (i := 9) (v := ?_) (by kernel_rfl) (some 57) (by kernel_rfl) rfl (by kernel_rfl) (by kernel_rfl) (by kernel_rfl) (fun _ _ _ h => h) (by rfl) (fun w' hw' => ?_) rfl ?_
          rotate_left
          · try (have hyy := cells6 (HQ2.out.gr (Below.trans HC.out hw')).doc.row; rw [HEV.out, HE'.out.2] at hyy; obtain ⟨k0, k1, k2, k3, k4, k5⟩ := hyy)
            go_simp
            with_reducible rfl
          simp only [Act.put, List.setIfInBounds_toArray, List.set_cons_zero, List.set_cons_succ]
          -- 10: slot 58
          refine wpG_take (preBelow (w7.heap.size)) (i := 10) (v := ?_) (by kernel_rfl) (some 58) (by kernel_rfl) rfl (by kernel_rfl) (by kernel_rfl) (by kernel_rfl) (fun _ _ _ h => h) (by rfl) (fun w' hw' => ?_) rfl ?_
          rotate_left
          · try (have hyy := cells6 (HQ2.out.gr (Below.trans HC.out hw')).doc.row; rw [HEV.out, HE'.out.2] at hyy; obtain ⟨k0, k1, k2, k3, k4, k5⟩ := hyy)
            go_simp
            with_reducible rfl
          simp only [Act.put, List.setIfInBounds_toArray, List.set_cons_zero, List.set_cons_succ]
          -- 11: slot 59
          refine wpG_take (preBelow (w7.heap.size)) (i := 11) (v := ?_) (by kernel_rfl) (some 59) (by kernel_rfl) rfl (by kernel_rfl) (by kernel_rfl) (by kernel_rfl) (fun _ _ _ h => h) (by rfl) (fun w' hw' => ?_) rfl ?_
          rotate_left
          · try (have hyy := cells6 (HQ2.out.gr (Below.trans HC.out hw')).doc.row; rw [HEV.out, HE'.out.2] at hyy; obtain ⟨k0, k1, k2, k3, k4, k5⟩ := hyy)
            go_simp
            with_reducible rfl
          simp only [Act.put, List.setIfInBounds_toArray, List.set_cons_zero, List.set_cons_succ]
          -- 12: slot 60
          refine wpG_take (preBelow (w7.heap.size)) (i := 12) (v := ?_) (by kernel_rfl) (some 60) (by kernel_rfl) rfl (by kernel_rfl) (by kernel_rfl) (by kernel_rfl) (fun _ _ _ h => h) (by rfl) (fun w' hw' => ?_) rfl ?_
          rotate_left
          · try (have hyy := cells6 (HQ2.out.gr (Below.trans HC.out hw')).doc.row; rw [HEV.out, HE'.out.2] at hyy; obtain ⟨k0, k1, k2, k3, k4, k5⟩ := hyy)
            go_simp
            with_reducible rfl
          simp only [Act.put, List.setIfInBounds_toArray, List.set_cons_zero, List.set_cons_succ]
          -- 13: slot 61
          refine wpG_take (preBelow (w7.heap.size)) (i := 13) (v := ?_) (by kernel_rfl) (some 61) (by kernel_rfl) rfl (by kernel_rfl) (by kernel_rfl) (by kernel_rfl) (fun _ _ _ h => h) (by rfl) (fun w' hw' => ?_) rfl ?_
          rotate_left
          · try (have hyy := cells6 (HQ2.out.gr (Below.trans HC.out hw')).doc.row; rw [HEV.out, HE'.out.2] at hyy; obtain ⟨k0, k1, k2, k3, k4, k5⟩ := hyy)
            go_simp
            with_reducible rfl
          simp only [Act.put, List.setIfInBounds_toArray, List.set_cons_zero, List.set_cons_succ]
          -- 14: slot 62
          refine wpG_take (preBelow (w7.heap.size)) (i := 14) (v := ?_) (by kernel_rfl) (some 62) (by kernel_rfl) rfl (by kernel_rfl) (by kernel_rfl) (by kernel_rfl) (fun _ _ _ h => h) (by rfl) (fun w' hw' => ?_) rfl ?_
          rotate_left
          · try (have hyy := cells6 (HQ2.out.gr (Below.trans HC.out hw')).doc.row; rw [HEV.out, HE'.out.2] at hyy; obtain ⟨k0, k1, k2, k3, k4, k5⟩ := hyy)
            go_simp
            with_reducible rfl
          simp only [Act.put, List.setIfInBounds_toArray, List.set_cons_zero, List.set_cons_succ]
          refine wpG_two (i := 1) (j := 15) rfl rfl (by kernel_rfl) (by rfl) (by rfl) ?_ ?_
          · go_simp
            have hb : Gr wc (wc.alloc (.cells #[] 54)) := (Below.refl _ _).alloc (Nat.le_refl _) _
            have hsz : (wc.alloc (.cells #[] 54)).heap.size = wc.heap.size + 1 := World.size_alloc _ _
            refine ⟨hb.mono (Below.size HC.out), ?_⟩
            have ho : (wc.alloc (.cells #[] 54)).ownsRow wc.heap.size 54 2 (.slice (some ⟨wc.heap.size, 0, none⟩) 0 0) 0 [] := own_new wc [] 54 0 2 rfl (Nat.zero_le _)
            try have HON' := Lib.hid (Rd.below HON.out hb)
            have ho2 := ownsRow_mono ho (Below.size HC.out)
            have hc2 : Gr w7 (wc.alloc (.cells #[] 54)) := Gr.trans HC.out hb
            generalize wc.alloc (.cells #[] 54) = wn at *
            obtain ⟨b1, hb1⟩ : ∃ b, b = wc.heap.size := ⟨_, rfl⟩
            rw [← hb1] at ho2 hsz ⊢
            try have HNE : Hid (b15 ≠ b1) := by have := HL15.out; show _ ≠ _; omega
            have HL1 : Hid (b1 < wn.heap.size) := by show _ < _; omega
            have HOW := Lib.hid ho2
            clear HC ho ho2 hb hsz hb1
            have HC := Lib.hid hc2
            clear hc2
            try (clear HON; have HON := HON'; clear HON')
            obtain ⟨wc, hwc⟩ : ∃ x, x = wn := ⟨_, rfl⟩
            subst hwc
            try simp only [Act.put, List.setIfInBounds_toArray, List.set_cons_zero, List.set_cons_succ]
            refine wpG_two (i := 6) (j := 15) rfl rfl (by kernel_rfl) (by rfl) (by rfl) ?_ ?_
            · refine wp_append_gr _ (some 54) (.tmp 49) (.tmp 53) 51 rfl w7.heap.size 54 i1 _ 2 16 Try.underlying51 hi1 hy0 hy1 hy2 rfl (by decide) _ _ _ rfl HOW.out _ M _ rfl (Rd.below HED.out HC.out) HONE.out HBY.out (by decide) (Below.size HC.out) rfl ?_
              intro v' wn ho hg
              have hb := grown_below HOW.out (Below.size HC.out) hg
              refine ⟨hb, ?_⟩
              try have HON' : Hid (Rd wn 2 (.slice (some ⟨b15, 0, none⟩) 1 1) 1 [.int .i64 id, .int .i64 (t + S.quiet)]) := Rd.tr HON.out (Tr.grown hg) fun k hk h6 => HNE.out ((List.mem_singleton.1 hk).symm.trans (List.mem_singleton.1 h6))
              have hc2 : Gr w7 wn := Below.trans HC.out hb
              clear HC HOW hg hb
              have HC := Lib.hid hc2
              have HOW := Lib.hid ho
              clear hc2 ho
              try (clear HON; have HON := HON'; clear HON')
              try clear HL1
              obtain ⟨wc, hwc⟩ : ∃ x, x = wn := ⟨_, rfl⟩
              subst hwc
              try simp only [Act.put, List.setIfInBounds_toArray, List.set_cons_zero, List.set_cons_succ]
              refine wpG_one (i := 15) rfl (by kernel_rfl) (by rfl) ?_
              go_simp
              have hb : Gr wc (wc.alloc (.cells #[.int .i64 id, .int .i64 (t + S.quiet)] 54)) := (Below.refl _ _).alloc (Nat.le_refl _) _
              have hsz : (wc.alloc (.cells #[.int .i64 id, .int .i64 (t + S.quiet)] 54)).heap.size = wc.heap.size + 1 := World.size_alloc _ _
              refine ⟨hb.mono (Below.size HC.out), ?_⟩
              have hn1 : Rd (wc.alloc (.cells #[.int .i64 id, .int .i64 (t + S.quiet)] 54)) 2 (.slice (some ⟨wc.heap.size, 0, none⟩) 1 1) 1 [.int .i64 id, .int .i64 (t + S.quiet)] := rd_new wc [.int .i64 id, .int .i64 (t + S.quiet)] 54 1 2 rfl (by decide)
              try have HOW' := Lib.hid (ownsRow_below HOW.out hb)
              have hc2 : Gr w7 (wc.alloc (.cells #[.int .i64 id, .int .i64 (t + S.quiet)] 54)) := Gr.trans HC.out hb
              generalize wc.alloc (.cells #[.int .i64 id, .int .i64 (t + S.quiet)] 54) = wn at *
              obtain ⟨b15, hb15⟩ : ∃ b, b = wc.heap.size := ⟨_, rfl⟩
              rw [← hb15] at hn1 hsz ⊢
              try have HNE : Hid (b15 ≠ b1) := by have := HL1.out; show _ ≠ _; omega
              have HL15 : Hid (b15 < wn.heap.size) := by show _ < _; omega
              have HON := Lib.hid hn1
              clear HC hn1 hb hsz hb15
              have HC := Lib.hid hc2
              clear hc2
              try (clear HOW; have HOW := HOW'; clear HOW')
              obtain ⟨wc, hwc⟩ : ∃ x, x = wn := ⟨_, rfl⟩
              subst hwc
              try simp only [Act.put, List.setIfInBounds_toArray, List.set_cons_zero, List.set_cons_succ]
              refine wpG_one (i := 16) rfl (by kernel_rfl) (by rfl) ?_
              refine wp_append_gr _ (some 64) (.tmp 54) (.tmp 63) 51 rfl w7.heap.size 54 i1 _ 2 16 Try.underlying51 hi1 hy0 hy1 hy2 rfl (by decide) _ _ _ rfl HOW.out _ 1 _ rfl HON.out HON2.out HBY2.out (by decide) (Below.size HC.out) rfl ?_
              intro v' wn ho hg
              have hb := grown_below HOW.out (Below.size HC.out) hg
              refine ⟨hb, ?_⟩
              have hc2 : Gr w7 wn := Below.trans HC.out hb
              clear HC HOW HON hg hb
              have HC := Lib.hid hc2
              obtain ⟨A5, C5, rfl, _, _⟩ := (own_rd ho).shape
              have HOW : Hid (wn.ownsRow w7.heap.size 54 2 (.slice A5 (0 + M + 1) C5) (0 + M + 1) (flatR (S.rest ++ [(id, t + S.quiet)]))) := by
                show World.ownsRow _ _ _ _ _ _ _
                rw [flatR_append, flatR_one]
                simpa using ho
              clear hc2 ho
              obtain ⟨wc, hwc⟩ : ∃ x, x = wn := ⟨_, rfl⟩
              subst hwc
              try simp only [Act.put, List.setIfInBounds_toArray, List.set_cons_zero, List.set_cons_succ]
              -- 17: slot 65
              refine wpG_take (preBelow (w7.heap.size)) (i := 17) (v := ?_) (by kernel_rfl) (some 65) (by kernel_rfl) rfl (by kernel_rfl) (by kernel_rfl) (by kernel_rfl) (fun _ _ _ h => h) (by rfl) (fun w' hw' => ?_) rfl ?_
              rotate_left
              · try (have hyy := cells6 (HQ2.out.gr (Below.trans HC.out hw')).doc.row; rw [HEV.out, HE'.out.2] at hyy; obtain ⟨k0, k1, k2, k3, k4, k5⟩ := hyy)
                go_simp
                with_reducible rfl
              simp only [Act.put, List.setIfInBounds_toArray, List.set_cons_zero, List.set_cons_succ]
              -- 18: slot 66
              refine wpG_take (preBelow (w7.heap.size)) (i := 18) (v := ?_) (by kernel_rfl) (some 66) (by kernel_rfl) rfl (by kernel_rfl) (by kernel_rfl) (by kernel_rfl) (fun _ _ _ h => h) (by rfl) (fun w' hw' => ?_) rfl ?_
              rotate_left
              · try (have hyy := cells6 (HQ2.out.gr (Below.trans HC.out hw')).doc.row; rw [HEV.out, HE'.out.2] at hyy; obtain ⟨k0, k1, k2, k3, k4, k5⟩ := hyy)
                go_simp
                with_reducible rfl
              simp only [Act.put, List.setIfInBounds_toArray, List.set_cons_zero, List.set_cons_succ]
              refine wpG_tail (i := 19) (by decide) rfl (by kernel_rfl) (by rfl) ?_
              refine wp_store_dR (none) (.tmp 66) (.tmp 64) rfl g 5 _ _ _ rfl rfl _ _ _ _ _ _ (HQ2.out.gr HC.out).doc.row (by decide) rfl ?_
              intro wn h5 ho5
              have HFIN := Lib.hid (DQ.put5 HQ2.out HC.out HOW.out (by rw [List.length_append, ← HM.out]; simp) h5 ho5)
              clear h5 ho5
              try simp only [Act.put, List.setIfInBounds_toArray, List.set_cons_zero, List.set_cons_succ]
              refine wpG_done (by kernel_rfl) ?_ _
              clear HC HOW
              go_wp2_with fail
              go_ret
              rw [HGE.out.2]
              refine ⟨rfl, DGoes.more HTR2.out HBL2.out ?_⟩
              rw [← HGE.out.1]
              exact HFIN.out
            · go_simp
              have hb : Gr wc (wc.alloc (.cells #[.int .i64 id, .int .i64 (t + S.quiet)] 54)) := (Below.refl _ _).alloc (Nat.le_refl _) _
              have hsz : (wc.alloc (.cells #[.int .i64 id, .int .i64 (t + S.quiet)] 54)).heap.size = wc.heap.size + 1 := World.size_alloc _ _
              refine ⟨hb.mono (Below.size HC.out), ?_⟩
              have hn1 : Rd (wc.alloc (.cells #[.int .i64 id, .int .i64 (t + S.quiet)] 54)) 2 (.slice (some ⟨wc.heap.size, 0, none⟩) 1 1) 1 [.int .i64 id, .int .i64 (t + S.quiet)] := rd_new wc [.int .i64 id, .int .i64 (t + S.quiet)] 54 1 2 rfl (by decide)
              try have HOW' := Lib.hid (ownsRow_below HOW.out hb)
              have hc2 : Gr w7 (wc.alloc (.cells #[.int .i64 id, .int .i64 (t + S.quiet)] 54)) := Gr.trans HC.out hb
              generalize wc.alloc (.cells #[.int .i64 id, .int .i64 (t + S.quiet)] 54) = wn at *
              obtain ⟨b15, hb15⟩ : ∃ b, b = wc.heap.size := ⟨_, rfl⟩
              rw [← hb15] at hn1 hsz ⊢
              try have HNE : Hid (b15 ≠ b1) := by have := HL1.out; show _ ≠ _; omega
              have HL15 : Hid (b15 < wn.heap.size) := by show _ < _; omega
              have HON := Lib.hid hn1
              clear HC hn1 hb hsz hb15
              have HC := Lib.hid hc2
              clear hc2
              try (clear HOW; have HOW := HOW'; clear HOW')
              obtain ⟨wc, hwc⟩ : ∃ x, x = wn := ⟨_, rfl⟩
              subst hwc
              try simp only [Act.put, List.setIfInBounds_toArray, List.set_cons_zero, List.set_cons_succ]
              refine wpG_one (i := 6) rfl (by kernel_rfl) (by rfl) ?_
              refine wp_append_gr _ (some 54) (.tmp 49) (.tmp 53) 51 rfl w7.heap.size 54 i1 _ 2 16 Try.underlying51 hi1 hy0 hy1 hy2 rfl (by decide) _ _ _ rfl HOW.out _ M _ rfl (Rd.below HED.out HC.out) HONE.out HBY.out (by decide) (Below.size HC.out) rfl ?_
              intro v' wn ho hg
              have hb := grown_below HOW.out (Below.size HC.out) hg
              refine ⟨hb, ?_⟩
              try have HON' : Hid (Rd wn 2 (.slice (some ⟨b15, 0, none⟩) 1 1) 1 [.int .i64 id, .int .i64 (t + S.quiet)]) := Rd.tr HON.out (Tr.grown hg) fun k hk h6 => HNE.out ((List.mem_singleton.1 hk).symm.trans (List.mem_singleton.1 h6))
              have hc2 : Gr w7 wn := Below.trans HC.out hb
              clear HC HOW hg hb
              have HC := Lib.hid hc2
              have HOW := Lib.hid ho
              clear hc2 ho
              try (clear HON; have HON := HON'; clear HON')
              try clear HL1
              obtain ⟨wc, hwc⟩ : ∃ x, x = wn := ⟨_, rfl⟩
              subst hwc
              try simp only [Act.put, List.setIfInBounds_toArray, List.set_cons_zero, List.set_cons_succ]
              refine wpG_one (i := 16) rfl (by kernel_rfl) (by rfl) ?_
              refine wp_append_gr _ (some 64) (.tmp 54) (.tmp 63) 51 rfl w7.heap.size 54 i1 _ 2 16 Try.underlying51 hi1 hy0 hy1 hy2 rfl (by decide) _ _ _ rfl HOW.out _ 1 _ rfl HON.out HON2.out HBY2.out (by decide) (Below.size HC.out) rfl ?_
              intro v' wn ho hg
              have hb := grown_below HOW.out (Below.size HC.out) hg
              refine ⟨hb, ?_⟩
              have hc2 : Gr w7 wn := Below.trans HC.out hb
              clear HC HOW HON hg hb
              have HC := Lib.hid hc2
              obtain ⟨A5, C5, rfl, _, _⟩ := (own_rd ho).shape
              have HOW : Hid (wn.ownsRow w7.heap.size 54 2 (.slice A5 (0 + M + 1) C5) (0 + M + 1) (flatR (S.rest ++ [(id, t + S.quiet)]))) := by
                show World.ownsRow _ _ _ _ _ _ _
                rw [flatR_append, flatR_one]
                simpa using ho
              clear hc2 ho
              obtain ⟨wc, hwc⟩ : ∃ x, x = wn := ⟨_, rfl⟩
              subst hwc
              try simp only [Act.put, List.setIfInBounds_toArray, List.set_cons_zero, List.set_cons_succ]
              -- 17: slot 65
              refine wpG_take (preBelow (w7.heap.size)) (i := 17) (v := ?_) (by kernel_rfl) (some 65) (by kernel_rfl) rfl (by kernel_rfl) (by kernel_rfl) (by kernel_rfl) (fun _ _ _ h => h) (by rfl) (fun w' hw' => ?_) rfl ?_
              rotate_left
              · try (have hyy := cells6 (HQ2.out.gr (Below.trans HC.out hw')).doc.row; rw [HEV.out, HE'.out.2] at hyy; obtain ⟨k0, k1, k2, k3, k4, k5⟩ := hyy)
                go_simp
                with_reducible rfl
              simp only [Act.put, List.setIfInBounds_toArray, List.set_cons_zero, List.set_cons_succ]
              -- 18: slot 66
              refine wpG_take (preBelow (w7.heap.size)) (i := 18) (v := ?_) (by kernel_rfl) (some 66) (by kernel_rfl) rfl (by kernel_rfl) (by kernel_rfl) (by kernel_rfl) (fun _ _ _ h => h) (by rfl) (fun w' hw' => ?_) rfl ?_
              rotate_left
              · try (have hyy := cells6 (HQ2.out.gr (Below.trans HC.out hw')).doc.row; rw [HEV.out, HE'.out.2] at hyy; obtain ⟨k0, k1, k2, k3, k4, k5⟩ := hyy)
                go_simp
                with_reducible rfl
              simp only [Act.put, List.setIfInBounds_toArray, List.set_cons_zero, List.set_cons_succ]
              refine wpG_tail (i := 19) (by decide) rfl (by kernel_rfl) (by rfl) ?_
              refine wp_store_dR (none) (.tmp 66) (.tmp 64) rfl g 5 _ _ _ rfl rfl _ _ _ _ _ _ (HQ2.out.gr HC.out).doc.row (by decide) rfl ?_
              intro wn h5 ho5
              have HFIN := Lib.hid (DQ.put5 HQ2.out HC.out HOW.out (by rw [List.length_append, ← HM.out]; simp) h5 ho5)
              clear h5 ho5
              try simp only [Act.put, List.setIfInBounds_toArray, List.set_cons_zero, List.set_cons_succ]
              refine wpG_done (by kernel_rfl) ?_ _
              clear HC HOW
              go_wp2_with fail
              go_ret
              rw [HGE.out.2]
              refine ⟨rfl, DGoes.more HTR2.out HBL2.out ?_⟩
              rw [← HGE.out.1]
              exact HFIN.out
          · go_simp
            have hb : Gr wc (wc.alloc (.cells #[.int .i64 id, .int .i64 (t + S.quiet)] 54)) := (Below.refl _ _).alloc (Nat.le_refl _) _
            have hsz : (wc.alloc (.cells #[.int .i64 id, .int .i64 (t + S.quiet)] 54)).heap.size = wc.heap.size + 1 := World.size_alloc _ _
            refine ⟨hb.mono (Below.size HC.out), ?_⟩
            have hn1 : Rd (wc.alloc (.cells #[.int .i64 id, .int .i64 (t + S.quiet)] 54)) 2 (.slice (some ⟨wc.heap.size, 0, none⟩) 1 1) 1 [.int .i64 id, .int .i64 (t + S.quiet)] := rd_new wc [.int .i64 id, .int .i64 (t + S.quiet)] 54 1 2 rfl (by decide)
            try have HOW' := Lib.hid (ownsRow_below HOW.out hb)
            have hc2 : Gr w7 (wc.alloc (.cells #[.int .i64 id, .int .i64 (t + S.quiet)] 54)) := Gr.trans HC.out hb
            generalize wc.alloc (.cells #[.int .i64 id, .int .i64 (t + S.quiet)] 54) = wn at *
            obtain ⟨b15, hb15⟩ : ∃ b, b = wc.heap.size := ⟨_, rfl⟩
            rw [← hb15] at hn1 hsz ⊢
            try have HNE : Hid (b15 ≠ b1) := by have := HL1.out; show _ ≠ _; omega
            have HL15 : Hid (b15 < wn.heap.size) := by show _ < _; omega
            have HON := Lib.hid hn1
            clear HC hn1 hb hsz hb15
            have HC := Lib.hid hc2
            clear hc2
            try (clear HOW; have HOW := HOW'; clear HOW')
            obtain ⟨wc, hwc⟩ : ∃ x, x = wn := ⟨_, rfl⟩
            subst hwc
            try simp only [Act.put, List.setIfInBounds_toArray, List.set_cons_zero, List.set_cons_succ]
            refine wpG_one (i := 1) rfl (by kernel_rfl) (by rfl) ?_
            go_simp
            have hb : Gr wc (wc.alloc (.cells #[] 54)) := (Below.refl _ _).alloc (Nat.le_refl _) _
            have hsz : (wc.alloc (.cells #[] 54)).heap.size = wc.heap.size + 1 := World.size_alloc _ _
            refine ⟨hb.mono (Below.size HC.out), ?_⟩
            have ho : (wc.alloc (.cells #[] 54)).ownsRow wc.heap.size 54 2 (.slice (some ⟨wc.heap.size, 0, none⟩) 0 0) 0 [] := own_new wc [] 54 0 2 rfl (Nat.zero_le _)
            try have HON' := Lib.hid (Rd.below HON.out hb)
            have ho2 := ownsRow_mono ho (Below.size HC.out)
            have hc2 : Gr w7 (wc.alloc (.cells #[] 54)) := Gr.trans HC.out hb
            generalize wc.alloc (.cells #[] 54) = wn at *
            obtain ⟨b1, hb1⟩ : ∃ b, b = wc.heap.size := ⟨_, rfl⟩
            rw [← hb1] at ho2 hsz ⊢
            try have HNE : Hid (b15 ≠ b1) := by have := HL15.out; show _ ≠ _; omega
            have HL1 : Hid (b1 < wn.heap.size) := by show _ < _; omega
            have HOW := Lib.hid ho2
            clear HC ho ho2 hb hsz hb1
            have HC := Lib.hid hc2
            clear hc2
            try (clear HON; have HON := HON'; clear HON')
            obtain ⟨wc, hwc⟩ : ∃ x, x = wn := ⟨_, rfl⟩
            subst hwc
            try simp only [Act.put, List.setIfInBounds_toArray, List.set_cons_zero, List.set_cons_succ]
            refine wpG_one (i := 6) rfl (by kernel_rfl) (by rfl) ?_
            refine wp_append_gr _ (some 54) (.tmp 49) (.tmp 53) 51 rfl w7.heap.size 54 i1 _ 2 16 Try.underlying51 hi1 hy0 hy1 hy2 rfl (by decide) _ _ _ rfl HOW.out _ M _ rfl (Rd.below HED.out HC.out) HONE.out HBY.out (by decide) (Below.size HC.out) rfl ?_
            intro v' wn ho hg
            have hb := grown_below HOW.out (Below.size HC.out) hg
            refine ⟨hb, ?_⟩
            try have HON' : Hid (Rd wn 2 (.slice (some ⟨b15, 0, none⟩) 1 1) 1 [.int .i64 id, .int .i64 (t + S.quiet)]) := Rd.tr HON.out (Tr.grown hg) fun k hk h6 => HNE.out ((List.mem_singleton.1 hk).symm.trans (List.mem_singleton.1 h6))
            have hc2 : Gr w7 wn := Below.trans HC.out hb
            clear HC HOW hg hb
            have HC := Lib.hid hc2
            have HOW := Lib.hid ho
            clear hc2 ho
            try (clear HON; have HON := HON'; clear HON')
            try clear HL1
            obtain ⟨wc, hwc⟩ : ∃ x, x = wn := ⟨_, rfl⟩
            subst hwc
            try simp only [Act.put, List.setIfInBounds_toArray, List.set_cons_zero, List.set_cons_succ]
            refine wpG_one (i := 16) rfl (by kernel_rfl) (by rfl) ?_
            refine wp_append_gr _ (some 64) (.tmp 54) (.tmp 63) 51 rfl w7.heap.size 54 i1 _ 2 16 Try.underlying51 hi1 hy0 hy1 hy2 rfl (by decide) _ _ _ rfl HOW.out _ 1 _ rfl HON.out HON2.out HBY2.out (by decide) (Below.size HC.out) rfl ?_
            intro v' wn ho hg
            have hb := grown_below HOW.out (Below.size HC.out) hg
            refine ⟨hb, ?_⟩
            have hc2 : Gr w7 wn := Below.trans HC.out hb
            clear HC HOW HON hg hb
            have HC := Lib.hid hc2
            obtain ⟨A5, C5, rfl, _, _⟩ := (own_rd ho).shape
            have HOW : Hid (wn.ownsRow w7.heap.size 54 2 (.slice A5 (0 + M + 1) C5) (0 + M + 1) (flatR (S.rest ++ [(id, t + S.quiet)]))) := by
              show World.ownsRow _ _ _ _ _ _ _
              rw [flatR_append, flatR_one]
              simpa using ho
            clear hc2 ho
            obtain ⟨wc, hwc⟩ : ∃ x, x = wn := ⟨_, rfl⟩
            subst hwc
            try simp only [Act.put, List.setIfInBounds_toArray, List.set_cons_zero, List.set_cons_succ]
            -- 17: slot 65
            refine wpG_take (preBelow (w7.heap.size)) (i := 17) (v := ?_) (by kernel_rfl) (some 65) (by kernel_rfl) rfl (by kernel_rfl) (by kernel_rfl) (by kernel_rfl) (fun _ _ _ h => h) (by rfl) (fun w' hw' => ?_) rfl ?_
            rotate_left
            · try (have hyy := cells6 (HQ2.out.gr (Below.trans HC.out hw')).doc.row; rw [HEV.out, HE'.out.2] at hyy; obtain ⟨k0, k1, k2, k3, k4, k5⟩ := hyy)
              go_simp
              with_reducible rfl
            simp only [Act.put, List.setIfInBounds_toArray, List.set_cons_zero, List.set_cons_succ]
            -- 18: slot 66
            refine wpG_take (preBelow (w7.heap.size)) (i := 18) (v := ?_) (by kernel_rfl) (some 66) (by kernel_rfl) rfl (by kernel_rfl) (by kernel_rfl) (by kernel_rfl) (fun _ _ _ h => h) (by rfl) (fun w' hw' => ?_) rfl ?_
            rotate_left
            · try (have hyy := cells6 (HQ2.out.gr (Below.trans HC.out hw')).doc.row; rw [HEV.out, HE'.out.2] at hyy; obtain ⟨k0, k1, k2, k3, k4, k5⟩ := hyy)
              go_simp
              with_reducible rfl
            simp only [Act.put, List.setIfInBounds_toArray, List.set_cons_zero, List.set_cons_succ]
            refine wpG_tail (i := 19) (by decide) rfl (by kernel_rfl) (by rfl) ?_
            refine wp_store_dR (none) (.tmp 66) (.tmp 64) rfl g 5 _ _ _ rfl rfl _ _ _ _ _ _ (HQ2.out.gr HC.out).doc.row (by decide) rfl ?_
            intro wn h5 ho5
            have HFIN := Lib.hid (DQ.put5 HQ2.out HC.out HOW.out (by rw [List.length_append, ← HM.out]; simp) h5 ho5)
            clear h5 ho5
            try simp only [Act.put, List.setIfInBounds_toArray, List.set_cons_zero, List.set_cons_succ]
            refine wpG_done (by kernel_rfl) ?_ _
            clear HC HOW
            go_wp2_with fail
            go_ret
            rw [HGE.out.2]
            refine ⟨rfl, DGoes.more HTR2.out HBL2.out ?_⟩
            rw [← HGE.out.1]
            exact HFIN.out
        · have he2 : (x == id) = false := by rw [beq_eq_false_iff_ne]; exact he
          have HNO2 : Hid (∀ k, (hk : k < i + 1) → (hk2 : k < S.used.length) → S.used[k] ≠ id) := fun k hk hk2 => by
            by_cases e : k = i
            · subst e; rw [← HX.out]; exact he
            · exact HNO.out k (by omega) hk2
          have hle : i + 1 ≤ n := by omega
          clear HX
          go_wp2_with fail
          go_roundw
          case rel =>
            first
              | exact ⟨i + 1, hle, by go_num, trivial, HNO2.out⟩
              | exact ⟨i + 1, hle, by go_num, rfl, HNO2.out⟩
              | ((repeat apply Exists.intro); exact ⟨⟨i + 1, hle, by go_num, rfl, HNO2.out⟩, rfl⟩)
          case measure => simp [intOf]; omega
      · have hnm : id ∉ S.used := by
          intro hm
          obtain ⟨k, hk, hke⟩ := List.mem_iff_getElem.1 hm
          exact HNO.out k (by have := HN.out; omega) hk hke
        have HGN := Lib.hid (give_no hnm HTT.out)
        clear hnm
        go_wp2_with fail
        go_ret
        rw [HGN.out]
        exact ⟨rfl, DGoes.refl HD.out⟩
  · rw [decide_eq_false ht] at T
    have HT := Lib.hid T
    have e : give S id t = (S, 1) := by unfold give; rw [if_neg ht]
    rw [e]
    clear h T ht e
    go_enter Try.func26, Try.ntmps26
    go_wp2_with fail
    refine HT.out.mono ?_
    rintro e w' ⟨rfl, rfl⟩
    go_wp2
    go_ret
    exact ⟨rfl, DGoes.refl HD.out⟩
end Go.Proofs.Ytpafcabcnkmadaa.Id
